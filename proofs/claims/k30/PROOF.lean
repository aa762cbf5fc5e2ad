import PyProof.Rows.All
import Wide.All
import OpenK.AllK
import Wide.FinOn
import Lean
import PyProof.EqAt
import PyProof.EqKinds
import PyProof.TupleCall
import PyProof.TupleKey
import PyProof.DictKinds
import PyProof.PassesOwn
import PyProof.StationsW
import PyProof.DictItems
import PyProof.DictWalks
import PyProof.SumWalkG
import PySem.Challenge.RW_rowlay_k30_whole_bounds
set_option Elab.async false
set_option linter.all false
set_option maxRecDepth 100000
abbrev L2.PKy := Int × List Int
namespace L2
open PySem
section
variable {prog : Program} {w : World}
def SecIs (prog : Program) (w : World) (b : Bool) (h : Heap) (l : List Int) (v : Value) : Prop :=
  if b = true then ∃ (m : Int) (t : Tok), l = [m] ∧ v = .int m t else ∃ c, v = .ref c ∧ IsTupleKey (intKind prog w) h l c
def PairIs (prog : Program) (w : World) (b : Bool) (h : Heap) (k : Int × List Int) (a : Addr) : Prop :=
  ∃ (o : Obj) (n : Nat) (t : Tok) (v : Value), h.get? a = some o ∧ o.cls = .type "tuple" ∧ o.data = .seq #[.int k.1 t, v] n ∧ SecIs prog w b h k.2 v
def secHash (prog : Program) (w : World) (b : Bool) (l : List Int) : Int := if b = true then (intKind prog w).hash (l.headD 0) else tupleKeyHash (intKind prog w) l
def secDraws (b : Bool) (l : List Int) : Nat := if b = true then 1 else l.length + 1
def pairHash (prog : Program) (w : World) (b : Bool) (k : Int × List Int) : Int := reduceHash (Builtin.Tuple.tupleHashOf [(intKind prog w).hash k.1, secHash prog w b k.2])
theorem PairIs.typeIs {b : Bool} {s : Shared} {k : Int × List Int} {a : Addr} (x : PairIs prog w b s.heap k a) : s.TypeIs (.ref a) "tuple" := let ⟨o, _, _, _, ho, hc, _⟩ := x; ⟨o, ho, hc⟩
theorem PairIs.inj {b : Bool} {h : Heap} {a : Addr} {x y : Int × List Int} (hx : PairIs prog w b h x a) (hy : PairIs prog w b h y a) : x = y := by
  obtain ⟨o, n, t, v, ho, _, hd, hi⟩ := hx
  obtain ⟨o', n', t', v', ho', _, hd', hi'⟩ := hy
  obtain rfl : o = o' := Option.some.inj (ho.symm.trans ho')
  rw [hd] at hd'
  injection hd' with h1 _
  have h2 : [Value.int x.1 t, v] = [Value.int y.1 t', v'] := congrArg Array.toList h1
  injection h2 with h3 h4
  injection h4 with h5 _
  injection h3 with h6 _
  subst h5
  obtain ⟨x1, x2⟩ := x
  obtain ⟨y1, y2⟩ := y
  have h6 : x1 = y1 := h6
  subst h6
  cases b with
  | true =>
    obtain ⟨m, t1, e1, e2⟩ : ∃ (m : Int) (t : Tok), x2 = [m] ∧ v = .int m t := hi
    obtain ⟨m', t1', e1', e2'⟩ : ∃ (m : Int) (t : Tok), y2 = [m] ∧ v = .int m t := hi'
    rw [e2] at e2'
    cases e2'
    rw [e1, e1']
  | false =>
    obtain ⟨c, e1, k1⟩ : ∃ c, v = .ref c ∧ IsTupleKey (intKind prog w) h x2 c := hi
    obtain ⟨c', e1', k1'⟩ : ∃ c, v = .ref c ∧ IsTupleKey (intKind prog w) h y2 c := hi'
    rw [e1] at e1'
    cases e1'
    rw [k1.inj k1']
theorem PairIs.keeps {b : Bool} {h h' : Heap} {k : Int × List Int} {a d : Addr} {o : Obj} {es ep} (x : PairIs prog w b h k a) (ho : h.get? d = some o) (hd : o.data = .dict es ep) (hs : Heap.SameBut d h h') : PairIs prog w b h' k a := by
  obtain ⟨o', n, t, v, ho', hc, hd', hi⟩ := x
  have hne : a ≠ d := by
    rintro rfl
    obtain rfl : o' = o := Option.some.inj (ho'.symm.trans ho)
    rw [hd] at hd'; exact nomatch hd'
  refine ⟨o', n, t, v, (hs.2 a hne).trans ho', hc, hd', ?_⟩
  cases b with
  | true => exact hi
  | false =>
    obtain ⟨c, e1, k1⟩ : ∃ c, v = .ref c ∧ IsTupleKey (intKind prog w) h k.2 c := hi
    exact ⟨c, e1, k1.keeps ho hd hs⟩
theorem int_is (m : Int) (t : Tok) : (intKind prog w).is m (.int m t) = true := by
  show Value.isInt m (Value.int m t) = true
  simp [Value.isInt]
variable {A : Around} {E : Value → Shared → Prop} {s : Shared}
theorem secHash_wp {b : Bool} {l : List Int} {v : Value} {Q : Int → Shared → Prop} (hu : A.units < cLine) (h : SecIs prog w b s.heap l v) (hq : Q (secHash prog w b l) { s with toks := s.toks + secDraws b l }) : wpAny (model prog w) A (pyHash v) Q E s := by
  cases b with
  | true =>
    obtain ⟨m, t, e1, e2⟩ : ∃ (m : Int) (t : Tok), l = [m] ∧ v = .int m t := h
    subst e1 e2
    unfold secHash secDraws at hq
    rw [if_pos rfl, if_pos rfl] at hq
    exact (intKind prog w).pyHash (k := m) (int_is m t) hq
  | false =>
    obtain ⟨c, e1, k1⟩ : ∃ c, v = .ref c ∧ IsTupleKey (intKind prog w) s.heap l c := h
    subst e1
    unfold secHash secDraws at hq
    rw [if_neg Bool.false_ne_true, if_neg Bool.false_ne_true] at hq
    exact wpAny_pyHash_tuple hu k1 hq
theorem pairHash_wp {b : Bool} {k : Int × List Int} {a : Addr} {Q : Int → Shared → Prop} (hu : A.units + 8 < cLine) (hk : PairIs prog w b s.heap k a) (h : Q (pairHash prog w b k) { s with toks := s.toks + (secDraws b k.2 + 2) }) : wpAny (model prog w) A (pyHash (.ref a)) Q E s := by
  have hT := hk.typeIs
  obtain ⟨o, n, t, v, ho, _, hd, hi⟩ := hk
  unfold pyHash
  first | unfold pyHashByItsType | skip
  first | refine wpAny_bind (wpAny_cRoomFor_or (.inr (by omega)) ?_) | skip
  refine wpAny_bind (wpAny_specialOf hT F.slot_tuple_hash.lookup ?_)
  rw [if_neg (by rw [beq_builtin_none]; exact Bool.false_ne_true)]
  refine wpAny_bind (wpAny_specialOf hT F.slot_tuple_hash.lookup ?_)
  show wpAny _ _ (callSpecialIfBoundUnlessNone? (.ref a) "__hash__" _ >>= _) Q E s
  refine wpAny_bind (wpAny_callSpecialIfBoundUnlessNone?_slot hT F.slot_tuple_hash (wpAny_call_entry F.slot_tuple_hash hT F.entry_tuple_hash ?_ (F.args_tuple_hash_1 _)))
  show wpAny _ _ (Builtin.Tuple.tupleItemsOf (.ref a) >>= _) _ _ s
  refine wpAny_bind (wpAny_tupleItemsOf ho hd ?_)
  refine wpAny_bind ?_
  rw [← Array.forIn_toList]
  have hu1 : A.in1.units < cLine := by
    rw [Around.in1_units]
    omega
  show wpAny (model prog w) A.in1 (forIn [Value.int k.1 t, v] (#[] : Array Int) _) _ _ s
  rw [List.forIn_cons]
  refine wpAny_bind (wpAny_bind ((intKind prog w).pyHash (k := k.1) (int_is k.1 t) (wpAny_pure ?_)))
  show wpAny (model prog w) A.in1 (forIn [v] (#[(intKind prog w).hash k.1] : Array Int) _) _ _ _
  rw [List.forIn_cons]
  refine wpAny_bind (wpAny_bind (secHash_wp (s := { s with toks := s.toks + 1 }) hu1 hi (wpAny_pure ?_)))
  show wpAny (model prog w) A.in1 (forIn ([] : List Value) (#[(intKind prog w).hash k.1, secHash prog w b k.2] : Array Int) _) _ _ _
  rw [List.forIn_nil]
  refine wpAny_pure ?_
  show wpAny _ _ (retInt (Builtin.Tuple.tupleHashOf [(intKind prog w).hash k.1, secHash prog w b k.2])) _ _ _
  refine wpAny_ret_mkInt ?_
  unfold pairHash reduceHash at h
  have et : s.toks + 1 + secDraws b k.2 + 1 = s.toks + (secDraws b k.2 + 2) := by omega
  show wpAny _ _ (if (decide (-(2 : Int) ^ 63 ≤ Builtin.Tuple.tupleHashOf [(intKind prog w).hash k.1, secHash prog w b k.2]) && decide (Builtin.Tuple.tupleHashOf [(intKind prog w).hash k.1, secHash prog w b k.2] < 2 ^ 63)) = true then _ else _) Q E _
  by_cases hr : (decide (-(2 : Int) ^ 63 ≤ Builtin.Tuple.tupleHashOf [(intKind prog w).hash k.1, secHash prog w b k.2]) && decide (Builtin.Tuple.tupleHashOf [(intKind prog w).hash k.1, secHash prog w b k.2] < 2 ^ 63)) = true
  · rw [if_pos hr]
    rw [if_pos hr] at h
    refine wpAny_pure ?_
    rw [← et] at h
    exact h
  · rw [if_neg hr]
    rw [if_neg hr] at h
    refine wpAny_bind (wpAny_rule (wpAny_pure ?_))
    rw [← et] at h
    exact h
theorem secEq_wp {b : Bool} {l m : List Int} {u v : Value} {Q : Bool → Shared → Prop} (hu : A.units < cLine) (hx : SecIs prog w b s.heap l u) (hy : SecIs prog w b s.heap m v) (h : Q (decide (l = m)) s) : wpAny (model prog w) A (eqBool u v) Q E s := by
  cases b with
  | true =>
    obtain ⟨i, t, e1, e2⟩ : ∃ (m : Int) (t : Tok), l = [m] ∧ u = .int m t := hx
    obtain ⟨j, t', e1', e2'⟩ : ∃ (i : Int) (t : Tok), m = [i] ∧ v = .int i t := hy
    subst e1 e2 e1' e2'
    refine (intKind prog w).eqBool (int_is i t) (int_is j t') ?_
    have : decide ([i] = [j]) = decide (i = j) := by
      by_cases c : i = j
      · rw [decide_eq_true c, decide_eq_true (congrArg (fun x => [x]) c)]
      · rw [decide_eq_false c, decide_eq_false fun z => c (List.cons.inj z).1]
    rw [this] at h
    exact h
  | false =>
    obtain ⟨c, e1, k1⟩ : ∃ c, u = .ref c ∧ IsTupleKey (intKind prog w) s.heap l c := hx
    obtain ⟨c', e1', k1'⟩ : ∃ c, v = .ref c ∧ IsTupleKey (intKind prog w) s.heap m c := hy
    subst e1 e1'
    exact wpAny_eqBool_tuple hu k1 k1' h
theorem pair_eq_tree {b : Bool} {x y : Int × List Int} {a c : Addr} {P : Fin → Shared → Prop} (hu : A.units < cLine) (hx : PairIs prog w b s.heap x a) (hy : PairIs prog w b s.heap y c) (h : P (.done (.ret (.bool (decide (x = y))))) s) :
    wpAny (model prog w) A (Builtin.«tuple.__eq__» ⟨[.ref a, .ref c], []⟩) P E s := by
  have hTb := hy.typeIs
  obtain ⟨oa, na, ta, va, hoa, _, hda, hia⟩ := hx
  obtain ⟨ob, nb, tb, vb, hob, _, hdb, hib⟩ := hy
  obtain ⟨x1, x2⟩ := x
  obtain ⟨y1, y2⟩ := y
  show wpAny _ _ (isInstance (.ref c) (.type "tuple") >>= _) _ _ s
  refine wpAny_bind (wpAny_isInstance hTb isSubtype_tuple_tuple ?_)
  simp only [Bool.not_true, Bool.false_eq_true, if_false]
  refine wpAny_bind (wpAny_tupleItemsOf hoa hda ?_)
  refine wpAny_bind (wpAny_tupleItemsOf hob hdb ?_)
  refine wpAny_bind ?_
  show wpAny (model prog w) A (forIn [(Value.int x1 ta, Value.int y1 tb), (va, vb)] ((none, ()) : Option Fin × Unit) _) _ _ s
  rw [List.forIn_cons]
  refine wpAny_bind (wpAny_bind ((intKind prog w).eqBool (int_is x1 ta) (int_is y1 tb) ?_))
  by_cases c1 : x1 = y1
  · rw [decide_eq_true c1]
    simp only [Bool.not_true, Bool.false_eq_true, if_false]
    refine wpAny_pure ?_
    show wpAny (model prog w) A (forIn [(va, vb)] ((none, ()) : Option Fin × Unit) _) _ _ s
    rw [List.forIn_cons]
    refine wpAny_bind (wpAny_bind (secEq_wp hu hia hib ?_))
    by_cases c2 : x2 = y2
    · rw [decide_eq_true c2]
      simp only [Bool.not_true, Bool.false_eq_true, if_false]
      refine wpAny_pure ?_
      show wpAny (model prog w) A (forIn ([] : List (Value × Value)) ((none, ()) : Option Fin × Unit) _) _ _ s
      rw [List.forIn_nil]
      refine wpAny_pure (wpAny_pure ?_)
      have : decide ((x1, x2) = (y1, y2)) = true := decide_eq_true (by rw [c1, c2])
      rw [this] at h
      exact h
    · rw [decide_eq_false c2]
      simp only [Bool.not_false, if_true]
      have : decide ((x1, x2) = (y1, y2)) = false := decide_eq_false fun z => c2 (Prod.mk.inj z).2
      rw [this] at h
      exact wpAny_bind (wpAny_pure (wpAny_pure (wpAny_pure (wpAny_pure h))))
  · rw [decide_eq_false c1]
    simp only [Bool.not_false, if_true]
    have : decide ((x1, x2) = (y1, y2)) = false := decide_eq_false fun z => c1 (Prod.mk.inj z).1
    rw [this] at h
    exact wpAny_bind (wpAny_pure (wpAny_pure (wpAny_pure (wpAny_pure h))))
theorem pairEq_wp {b : Bool} {x y : Int × List Int} {a c : Addr} {Q : Bool → Shared → Prop} (hu : A.units + 8 < cLine) (hx : PairIs prog w b s.heap x a) (hy : PairIs prog w b s.heap y c) (h : Q (decide (x = y)) s) : wpAny (model prog w) A (eqBool (.ref a) (.ref c)) Q E s := by
  unfold eqBool
  try with_reducible refine wpAny_holding ?_
  show wpAny _ _ (if (Value.ref a == Value.ref c) = true then _ else _) Q E s
  by_cases hac : (Value.ref a == Value.ref c) = true
  · rw [if_pos hac]
    have e : a = c := by have := eq_of_beq hac; injection this
    subst e
    obtain rfl := hx.inj hy
    exact wpAny_bind (wpAny_rule (wpAny_pure (by simpa using h)))
  · rw [if_neg hac]
    refine wpAny_bind (wpAny_richCompare_same_room (op := .Eq) hx.typeIs hy.typeIs F.slot_tuple_eq
      (wpAny_call_entry F.slot_tuple_eq hx.typeIs F.entry_tuple_eq (pair_eq_tree ?_ hx hy ⟨_, rfl, (fun e => nomatch e), wpAny_truthy_bool h⟩) (F.args_tuple_eq_2 _ _)) (by omega))
    first
      | (show A.units + 1 < cLine; omega)
      | (show A.units + 2 < cLine; omega)
      | (simp only [Around.in1_units]; omega)
theorem tupQuiet_wp {l : List Int} {c : Addr} {Q : Bool → Shared → Prop} (hk : IsTupleKey (intKind prog w) s.heap l c) (h : Q true s) : wpAny (model prog w) A (eqIsQuiet 7 (.ref c)) Q E s := by
  have hT := hk.typeIs
  obtain ⟨o, items, n, ho, _, hd, hi⟩ := hk
  unfold eqIsQuiet
  refine wpAny_bind (wpAny_specialOf hT F.slot_tuple_eq.lookup ?_)
  show wpAny _ _ (isInstance (.ref c) (.type "tuple") >>= _) _ _ s
  refine wpAny_bind (wpAny_isInstance hT isSubtype_tuple_tuple ?_)
  simp only [Bool.not_true, Bool.false_eq_true, if_false]
  refine wpAny_bind (wpAny_seqItems ho hd ?_)
  refine wpAny_bind ?_
  show wpAny _ _ (forIn items _ _) _ _ s
  rw [← Array.forIn_toList]
  refine wpAny_forIn_list _ (fun rest r s' => r.1 = none ∧ s' = s ∧ ∀ v ∈ rest, carriedByValue v = true) _ ?_ ?_ _ _ ⟨rfl, rfl, hi.byValue⟩
  · rintro v rest r s' ⟨hr, rfl, hall⟩
    rw [eqIsQuiet_byValue _ (hall v List.mem_cons_self)]
    refine wpAny_bind (wpAny_pure ?_)
    simp only [Bool.not_true, Bool.false_eq_true, if_false]
    exact wpAny_pure ⟨rfl, rfl, fun u hu' => hall u (List.mem_cons_of_mem _ hu')⟩
  · rintro ⟨r1, r2⟩ s' ⟨hr, rfl, _⟩
    simp only at hr
    subst hr
    exact wpAny_pure h
theorem pairQuiet_wp {b : Bool} {k : Int × List Int} {a : Addr} {Q : Bool → Shared → Prop} (hk : PairIs prog w b s.heap k a) (h : Q true s) : wpAny (model prog w) A (eqIsQuiet 8 (.ref a)) Q E s := by
  have hT := hk.typeIs
  obtain ⟨o, n, t, v, ho, _, hd, hi⟩ := hk
  unfold eqIsQuiet
  refine wpAny_bind (wpAny_specialOf hT F.slot_tuple_eq.lookup ?_)
  show wpAny _ _ (isInstance (.ref a) (.type "tuple") >>= _) _ _ s
  refine wpAny_bind (wpAny_isInstance hT isSubtype_tuple_tuple ?_)
  simp only [Bool.not_true, Bool.false_eq_true, if_false]
  refine wpAny_bind (wpAny_seqItems ho hd ?_)
  refine wpAny_bind ?_
  show wpAny _ _ (forIn #[Value.int k.1 t, v] _ _) _ _ s
  rw [← Array.forIn_toList]
  show wpAny _ _ (forIn [Value.int k.1 t, v] ((none, ()) : Option Bool × Unit) _) _ _ s
  rw [List.forIn_cons, eqIsQuiet_byValue 7 (v := Value.int k.1 t) rfl]
  refine wpAny_bind (wpAny_bind (wpAny_pure ?_))
  simp only [Bool.not_true, Bool.false_eq_true, if_false]
  refine wpAny_pure ?_
  show wpAny _ _ (forIn [v] ((none, ()) : Option Bool × Unit) _) _ _ s
  rw [List.forIn_cons]
  have fin : wpAny (model prog w) A (eqIsQuiet 7 v) (fun r s' => r = true ∧ s' = s) E s := by
    cases b with
    | true =>
      obtain ⟨m, t, e1, e2⟩ : ∃ (m : Int) (t : Tok), k.2 = [m] ∧ v = .int m t := hi
      subst e2
      rw [eqIsQuiet_byValue 7 (v := Value.int m t) rfl]
      exact wpAny_pure ⟨rfl, rfl⟩
    | false =>
      obtain ⟨c, e1, k1⟩ : ∃ c, v = .ref c ∧ IsTupleKey (intKind prog w) s.heap k.2 c := hi
      subst e1
      exact tupQuiet_wp k1 ⟨rfl, rfl⟩
  refine wpAny_bind (wpAny_bind (wpAny_mono fin (fun r s' z => ?_) fun _ _ z => z))
  obtain ⟨rfl, rfl⟩ := z
  simp only [Bool.not_true, Bool.false_eq_true, if_false]
  refine wpAny_pure ?_
  show wpAny _ _ (forIn ([] : List Value) ((none, ()) : Option Bool × Unit) _) _ _ _
  rw [List.forIn_nil]
  exact wpAny_pure (wpAny_pure h)
def pairKind (prog : Program) (w : World) (b : Bool) : HeapKind prog w (Int × List Int) where
  is := PairIs prog w b
  hash := pairHash prog w b
  draws := fun k => secDraws b k.2 + 2
  room := fun A => A.units + 8 < cLine
  inj := fun hx hy => hx.inj hy
  keeps := fun x ho hd hs => x.keeps ho hd hs
  pyHash := fun hu hk h => pairHash_wp hu hk h
  eqBool := fun hu hx hy h => pairEq_wp hu hx hy h
  quiet := fun hk h => pairQuiet_wp hk h
end
end L2
set_option maxHeartbeats 200000
namespace L2
open PySem PySem.Spec PyProof.Rows
abbrev Key := Sum Int Str
def keyIs : Key → Value → Bool
  | .inl k, v => Value.isInt k v
  | .inr x, v => Value.isStrOf x v
def keyH (w : World) : Key → Int
  | .inl k => hashInt k
  | .inr x => hashStr w x
theorem keyIs_shape : ∀ {k : Key} {v : Value}, keyIs k v = true → (∃ i t, k = Sum.inl i ∧ v = Value.int i t) ∨ (∃ x t, k = Sum.inr x ∧ v = Value.str x t)
  | .inl i, v, h => by
    obtain ⟨t, e⟩ := Value.isInt_shape (k := i) (v := v) h
    exact .inl ⟨i, t, rfl, e⟩
  | .inr x, v, h => by
    obtain ⟨t, e⟩ := Value.isStrOf_shape (x := x) (v := v) h
    exact .inr ⟨x, t, rfl, e⟩
theorem keyIs_int (i : Int) (t : Tok) : keyIs (.inl i) (.int i t) = true := by simp [keyIs, Value.isInt]
theorem keyIs_str (x : Str) (t : Tok) : keyIs (.inr x) (.str x t) = true := by simp [keyIs, Value.isStrOf]
theorem key_ll (a b : Int) : decide ((Sum.inl a : Key) = Sum.inl b) = (a == b) := by
  by_cases e : a = b
  · subst e; simp
  · have h : ¬ (Sum.inl a : Key) = Sum.inl b := fun q => e (Sum.inl.inj q)
    rw [decide_eq_false h]
    exact (beq_eq_false_iff_ne.mpr e).symm
theorem key_rr (a b : Str) : decide ((Sum.inr a : Key) = Sum.inr b) = decide (a = b) := by
  by_cases e : a = b
  · subst e; simp
  · have h : ¬ (Sum.inr a : Key) = Sum.inr b := fun q => e (Sum.inr.inj q)
    rw [decide_eq_false h, decide_eq_false e]
theorem key_lr (a : Int) (b : Str) : decide ((Sum.inl a : Key) = Sum.inr b) = false := decide_eq_false (fun q => nomatch q)
theorem key_rl (a : Str) (b : Int) : decide ((Sum.inr a : Key) = Sum.inl b) = false := decide_eq_false (fun q => nomatch q)
def mixKind (prog : Program) (w : World) : PySem.KeyKind prog w Key where
  is := keyIs
  hash := keyH w
  inj := fun v a b ha hb => by
    rcases keyIs_shape ha with ⟨i, t, rfl, rfl⟩ | ⟨x, t, rfl, rfl⟩
    · rcases keyIs_shape hb with ⟨j, u, rfl, e⟩ | ⟨y, u, rfl, e⟩
      · injection e with e1 _; rw [e1]
      · exact nomatch e
    · rcases keyIs_shape hb with ⟨j, u, rfl, e⟩ | ⟨y, u, rfl, e⟩
      · exact nomatch e
      · injection e with e1 _; rw [e1]
  byValue := fun k v h => by
    rcases keyIs_shape h with ⟨i, t, rfl, rfl⟩ | ⟨x, t, rfl, rfl⟩ <;> rfl
  pyHash := fun hv h => by
    rcases keyIs_shape hv with ⟨i, t, rfl, rfl⟩ | ⟨x, t, rfl, rfl⟩
    · exact wpAny_pyHash_int h
    · exact wpAny_pyHash_str h
  eqBool := fun hu hv h => by
    rcases keyIs_shape hu with ⟨i, t, rfl, rfl⟩ | ⟨x, t, rfl, rfl⟩
    · rcases keyIs_shape hv with ⟨j, u, rfl, rfl⟩ | ⟨y, u, rfl, rfl⟩
      · rw [key_ll] at h; exact wpAny_eqBool_int h
      · rw [key_lr] at h; exact SeqAt.EqAt.int_str i t y u _ _ _ _ h
    · rcases keyIs_shape hv with ⟨j, u, rfl, rfl⟩ | ⟨y, u, rfl, rfl⟩
      · rw [key_rl] at h; exact SeqAt.EqAt.str_int x t j u _ _ _ _ h
      · rw [key_rr] at h; exact wpAny_eqBool_str h
  «strs» := fun k x t v h => by
    rcases keyIs_shape h with ⟨i, u, rfl, e⟩ | ⟨y, u, rfl, e⟩
    · exact nomatch e
    · injection e with e1 _
      subst e1
      cases v <;> rfl
theorem mixKind_int (prog : Program) (w : World) (i : Int) (t : Tok) : (mixKind prog w).is (.inl i) (.int i t) = true := keyIs_int i t
theorem mixKind_str (prog : Program) (w : World) (x : Str) (t : Tok) : (mixKind prog w).is (.inr x) (.str x t) = true := keyIs_str x t
end L2
namespace L2
open PySem PySem.Spec PyProof.Rows
inductive V where
  | non | bl (b : Bool) | int (i : Int) | str (x : Str) | byt (b : Array UInt8) | flt (b : UInt64) | ref (a : Addr) | ty (n : String)
  deriving DecidableEq
def RelV : V → Value → Prop
  | .non, u => u = Value.none
  | .bl b, u => u = Value.bool b
  | .int i, u => ∃ t, u = Value.int i t
  | .str x, u => ∃ t, u = Value.str x t
  | .byt b, u => ∃ t, u = Value.bytes b t
  | .flt b, u => ∃ t, u = Value.float b t
  | .ref a, u => u = Value.ref a
  | .ty n, u => u = Value.type n
abbrev Vals : List V → List Value → Prop := Paired RelV
theorem Vals.length {xs : List V} {us : List Value} (r : Vals xs us) : xs.length = us.length := Paired.length r
theorem Vals.get : ∀ {xs : List V} {us : List Value} {i : Nat} {x : V}, Vals xs us → xs[i]? = some x → ∃ u, us[i]? = some u ∧ RelV x u
  | _, _, _, _, .nil, e => by simp at e
  | _, _, 0, _, .cons r _, e => by simp at e; subst e; exact ⟨_, rfl, r⟩
  | _, _, i + 1, x, .cons _ t, e => by
    obtain ⟨u, h1, h2⟩ := Vals.get (i := i) (x := x) t (by simpa using e)
    exact ⟨u, by simpa using h1, h2⟩
theorem Vals.set {x : V} {u : Value} (r : RelV x u) : ∀ {xs : List V} {us : List Value} (i : Nat), Vals xs us → Vals (xs.set i x) (us.set i u)
  | _, _, _, .nil => .nil
  | _, _, 0, .cons _ t => .cons r t
  | _, _, i + 1, .cons q t => .cons q (Vals.set r i t)
theorem Vals.append : ∀ {xs ys : List V} {us ws : List Value}, Vals xs us → Vals ys ws → Vals (xs ++ ys) (us ++ ws)
  | _, _, _, _, .nil, s => s
  | _, _, _, _, .cons r t, s => .cons r (Vals.append t s)
theorem Vals.take : ∀ {xs : List V} {us : List Value} (n : Nat), Vals xs us → Vals (xs.take n) (us.take n)
  | _, _, 0, _ => .nil
  | _, _, _ + 1, .nil => .nil
  | _, _, n + 1, .cons r t => .cons r (Vals.take n t)
theorem Vals.drop : ∀ {xs : List V} {us : List Value} (n : Nat), Vals xs us → Vals (xs.drop n) (us.drop n)
  | _, _, 0, r => r
  | _, _, _ + 1, .nil => .nil
  | _, _, n + 1, .cons _ t => Vals.drop n t
theorem Vals.none_of : ∀ {xs : List V} {us : List Value} {i : Nat}, Vals xs us → xs[i]? = none → us[i]? = none := fun {xs us i} r e => by
  have h1 := r.length
  have h2 : xs.length ≤ i := List.getElem?_eq_none_iff.mp e
  exact List.getElem?_eq_none_iff.mpr (by omega)
def RelO : Option V → Option Value → Prop
  | some v, some u => RelV v u
  | none, none => True
  | _, _ => False
def KV {κ : Type} : List (κ × V) → List (κ × Value) → Prop := Paired fun (p : κ × V) (q : κ × Value) => p.1 = q.1 ∧ RelV p.2 q.2
def kV : Key → V
  | .inl i => .int i
  | .inr x => .str x
inductive HO where
  /-- a list -/
  | lst (xs : List V)
  /-- a tuple (never changes) -/
  | tup (xs : List V)
  /-- a dict whose keys are ints and texts; one whose keys are tuples of ints and texts (the empty one is both) -/
  | dK (kvs : List (Key × V)) | dT (B : Bool) (kvs : List (PKy × V))
  /-- a set of ints: its members, its size -/
  | set (S : Int → Bool) (n : Nat)
  /-- an instance of the class at C, its dict at dx, its attributes -/
  | ins (C dx : Addr) (fs : List (Str × V))
  /-- the dict of the instance at x -/
  | own (x : Addr)
  /-- the dict of an exception -/
  | xd (fs : List (Str × V))
  /-- a bound method, f of x -/
  | met (f x : Addr)
  /-- a range object lo, lo + 1, .. below hi -/
  | rng (lo hi : Int)
  /-- a thing that is known to the object (the script; a dict while a loop walks it): read, never written while it is so -/
  | frz (o : Obj) (u : HO)
  /-- a code object's table -/
  | tbl (ps : Array Value)
  /-- any other thing, by what is true of its one object (a def of one's own: SetO a S n := HO.ext fun h => ..) -/
  | ext (φ : Heap → Prop)
abbrev Hp := Addr → Option HO
def upd (H : Hp) (a : Addr) (o : HO) : Hp := fun b => if b = a then some o else H b
theorem upd_same {H : Hp} {a : Addr} {o : HO} : upd H a o a = some o := by unfold upd; rw [if_pos rfl]
theorem upd_ne {H : Hp} {a b : Addr} {o : HO} (h : b ≠ a) : upd H a o b = H b := by unfold upd; rw [if_neg h]
theorem ne_of {H : Hp} {a b : Addr} {o u : HO} (h : H a = some o) (h' : H b = some u) (d : o ≠ u) : a ≠ b := by
  intro e; subst e; rw [h] at h'; exact d (Option.some.inj h')
theorem ne_of_none {H : Hp} {a b : Addr} {o : HO} (h : H a = some o) (h' : H b = none) : a ≠ b := by
  intro e; subst e; rw [h] at h'; cases h'
def PKey (B : Bool) (H : Hp) (k : PKy) (q : Addr) : Prop :=
  if B = true then ∃ m : Int, k.2 = [m] ∧ H q = some (.tup [.int k.1, .int m]) else ∃ c, H q = some (.tup [.int k.1, .ref c]) ∧ H c = some (.tup (k.2.map V.int))
theorem PKey.stay {B : Bool} {H H' : Hp} {k : PKy} {q : Addr} (x : PKey B H k q) (ht : ∀ b xs, H b = some (.tup xs) → H' b = some (.tup xs)) : PKey B H' k q := by
  cases B with
  | true =>
    obtain ⟨m, e, h⟩ : ∃ m : Int, k.2 = [m] ∧ H q = some (.tup [.int k.1, .int m]) := x
    exact ⟨m, e, ht _ _ h⟩
  | false =>
    obtain ⟨c, e, h⟩ : ∃ c, H q = some (.tup [.int k.1, .ref c]) ∧ H c = some (.tup (k.2.map V.int)) := x
    exact ⟨c, ht _ _ e, ht _ _ h⟩
section
variable (P : Program) (w : World)
def ObjOk (H : Hp) (h : Heap) (a : Addr) : HO → Prop
  | .lst xs => xs.length ≤ sizeLine ∧ ∃ (its : List Value) (n : Nat), Vals xs its ∧ h.get? a = some { cls := .type "list", data := .seq its.toArray n }
  | .tup xs => xs.length ≤ sizeLine ∧ ∃ its : List Value, Vals xs its ∧ IsTup h a its.toArray
  | .dK kvs => kvs.length ≤ sizeLine ∧ (a == sysModules) = false ∧ ∃ vs, KV kvs vs ∧ h.DictOf (mixKind P w) a vs
  | .dT B kvs => kvs.length ≤ sizeLine ∧ (a == sysModules) = false ∧ ∃ xs : List (PKy × Addr × Value),
      Paired (fun (p : PKy × V) (q : PKy × Addr × Value) => p.1 = q.1 ∧ PKey B H p.1 q.2.1 ∧ RelV p.2 q.2.2) kvs xs ∧
      ∃ o es ep, h.get? a = some o ∧ o.ExactDict ∧ o.data = .dict es ep ∧ es.toList = xs.map (entryOfKey (pairKind P w B)) ∧ (xs.map (·.1)).Nodup
  | .set S n => h.SetOf (intKind P w) a S n
  | .ins C dx fs => H dx = some (.own a) ∧ fs.length ≤ 1000 ∧ dx ≠ a ∧ h.get? a = some (PySem.W.instObj C dx) ∧
      ∃ mA, h.Ns1 dx mA ∧ (∀ f, RelO (fs.lookup f) (mA f)) ∧ PySem.Within mA (fs.map (·.1))
  | .own _ => ∃ o, h.get? a = some o
  | .xd fs => ∃ mA, h.Ns1 a mA ∧ ∀ f, RelO (fs.lookup f) (mA f)
  | .rng lo hi => ∃ t u v, h.get? a = some { cls := .type "range", data := .fields #[.int lo t, .int hi u, .int 1 v] }
  | .frz o u => h.get? a = some o ∧ ObjOk H h a u
  | .tbl ps => h.get? a = some { cls := .none, data := .fields ps }
  | .met f x => h.get? a = some (PySem.W.methodObj (.ref f) (.ref x))
  | .ext φ => φ h ∧ (∃ o, h.get? a = some o) ∧ ∀ h1 h2 : Heap, φ h1 → (∀ o, h1.get? a = some o → h2.get? a = some o) → φ h2
def HOk (H : Hp) (h : Heap) : Prop := ∀ a o, H a = some o → ObjOk P w H h a o
end
section
variable {P : Program} {w : World} {H H' : Hp} {h h' : Heap} {a : Addr} {o : HO}
theorem ObjOk.lt (x : ObjOk P w H h a o) : a < h.objs.size := by
  cases o with
  | lst xs => obtain ⟨_, _, _, _, e⟩ := x; exact Heap.lt_size e
  | tup xs => obtain ⟨_, _, _, p⟩ := x; exact p.lt
  | dK kvs => obtain ⟨_, _, _, _, o, _, _, e, _⟩ := x; exact Heap.lt_size e
  | dT B kvs => obtain ⟨_, _, _, _, o, _, _, e, _⟩ := x; exact Heap.lt_size e
  | set S n => obtain ⟨o, _, _, _, e, _⟩ := x; exact Heap.lt_size e
  | ins C dx fs => obtain ⟨_, _, _, e, _⟩ := x; exact Heap.lt_size e
  | own y => obtain ⟨_, e⟩ := x; exact Heap.lt_size e
  | xd fs => obtain ⟨_, ⟨_, _, _, e, _⟩, _⟩ := x; exact Heap.lt_size e
  | rng lo hi => obtain ⟨_, _, _, e⟩ := x; exact Heap.lt_size e
  | frz ob u => obtain ⟨e, _⟩ := x; exact Heap.lt_size e
  | tbl ps => exact Heap.lt_size (show h.get? a = some _ from x)
  | met f y => exact Heap.lt_size (show h.get? a = some _ from x)
  | ext φ => obtain ⟨_, ⟨_, e⟩, _⟩ := x; exact Heap.lt_size e
theorem Paired.mapP {α β : Type} {F G : α → β → Prop} : ∀ {l₁ : List α} {l₂ : List β}, Paired F l₁ l₂ → (∀ a b, F a b → G a b) → Paired G l₁ l₂
  | _, _, .nil, _ => .nil
  | _, _, .cons r t, f => .cons (f _ _ r) (Paired.mapP t f)
theorem ObjOk.stay (x : ObjOk P w H h a o) (k : ∀ b u, (b = a ∨ H b = some (.own a)) → h.get? b = some u → h'.get? b = some u)
    (ho : ∀ b, H b = some (.own a) → H' b = some (.own a)) (ht : ∀ b xs, H b = some (.tup xs) → H' b = some (.tup xs)) : ObjOk P w H' h' a o := by
  induction o with
  | lst xs => obtain ⟨z, its, n, r, e⟩ := x; exact ⟨z, its, n, r, k _ _ (.inl rfl) e⟩
  | tup xs => obtain ⟨z, its, r, ob, e, c⟩ := x; exact ⟨z, its, r, ob, k _ _ (.inl rfl) e, c⟩
  | dK kvs => obtain ⟨z, y, vs, r, ob, es, ep, e, c⟩ := x; exact ⟨z, y, vs, r, ob, es, ep, k _ _ (.inl rfl) e, c⟩
  | dT B kvs =>
    obtain ⟨z, y, xs, r, ob, es, ep, e, c⟩ := x
    exact ⟨z, y, xs, Paired.mapP r fun p q z => ⟨z.1, z.2.1.stay ht, z.2.2⟩, ob, es, ep, k _ _ (.inl rfl) e, c⟩
  | set S n => obtain ⟨ob, es, ep, t, e, c⟩ := x; exact ⟨ob, es, ep, t, k _ _ (.inl rfl) e, c⟩
  | ins C dx fs =>
    obtain ⟨d, z, ne, e, mA, ⟨od, es, ep, e2, c⟩, r⟩ := x
    exact ⟨ho _ d, z, ne, k _ _ (.inl rfl) e, mA, ⟨od, es, ep, k _ _ (.inr d) e2, c⟩, r⟩
  | own y => obtain ⟨ob, e⟩ := x; exact ⟨ob, k _ _ (.inl rfl) e⟩
  | xd fs => obtain ⟨mA, ⟨od, es, ep, e, c⟩, r⟩ := x; exact ⟨mA, ⟨od, es, ep, k _ _ (.inl rfl) e, c⟩, r⟩
  | rng lo hi => obtain ⟨t, u, v, e⟩ := x; exact ⟨t, u, v, k _ _ (.inl rfl) e⟩
  | frz ob u ih => obtain ⟨e, q⟩ := x; exact ⟨k _ _ (.inl rfl) e, ih q⟩
  | tbl ps =>
    have e : h.get? a = some { cls := .none, data := .fields ps } := x
    show h'.get? a = some { cls := .none, data := .fields ps }
    exact k a _ (.inl rfl) e
  | met f y =>
    have e : h.get? a = some (PySem.W.methodObj (.ref f) (.ref y)) := x
    show h'.get? a = some (PySem.W.methodObj (.ref f) (.ref y))
    exact k a _ (.inl rfl) e
  | ext φ => obtain ⟨p, ⟨o, e⟩, st⟩ := x; exact ⟨st _ _ p fun o q => k _ _ (.inl rfl) q, ⟨o, k _ _ (.inl rfl) e⟩, st⟩
theorem HOk.lt (x : HOk P w H h) (e : H a = some o) : a < h.objs.size := (x a o e).lt
theorem HOk.fresh (x : HOk P w H h) (e : h.objs.size ≤ a) : H a = none := by
  cases q : H a with
  | none => rfl
  | some u => exact absurd (Nat.lt_of_lt_of_le (x.lt q) e) (Nat.lt_irrefl _)
theorem HOk.kept (x : HOk P w H h) (k : ∀ b u, h.get? b = some u → h'.get? b = some u) : HOk P w H h' := fun a o e =>
  (x a o e).stay (fun b u _ q => k b u q) (fun _ q => q) fun _ _ q => q
theorem HOk.laid (x : HOk P w H h) (k : ∀ b u, h.get? b = some u → h'.get? b = some u) (hp : h.objs.size ≤ a) (new : ObjOk P w (upd H a o) h' a o) : HOk P w (upd H a o) h' := fun b u e => by
  have hn := x.fresh hp
  by_cases hb : b = a
  · subst hb; rw [upd_same] at e; cases e; exact new
  · rw [upd_ne hb] at e
    exact (x b u e).stay (fun c v _ q => k c v q) (fun c q => by rw [upd_ne (ne_of_none q hn)]; exact q) fun c xs q => by rw [upd_ne (ne_of_none q hn)]; exact q
end
def Rd (H : Hp) (a : Addr) (u : HO) : Prop := H a = some u ∨ ∃ o, H a = some (.frz o u)
theorem Rd.of {H : Hp} {a : Addr} {u : HO} (h : H a = some u) : Rd H a u := .inl h
theorem Rd.ok {P : Program} {w : World} {H : Hp} {h : Heap} {a : Addr} {u : HO} (r : Rd H a u) (x : HOk P w H h) : ObjOk P w H h a u := by
  rcases r with r | ⟨o, r⟩
  · exact x a u r
  · obtain ⟨_, q⟩ := x a _ r
    exact q
def Mut : Option HO → Prop
  | some (.lst _) => True
  | some (.dK _) => True
  | some (.dT _ _) => True
  | some (.set _ _) => True
  | some (.ins _ _ _) => True
  | some (.ext _) => True
  | _ => False
section
variable {P : Program} {w : World} {H : Hp} {h h' : Heap} {x e : Addr} {o' : HO}
theorem HOk.write (ok : HOk P w H h) (mu : Mut (H x)) (he : e = x ∨ H e = some (.own x)) (k : ∀ b u, b ≠ e → h.get? b = some u → h'.get? b = some u) (heo : ∃ u, h'.get? e = some u)
    (new : ObjOk P w (upd H x o') h' x o') : HOk P w (upd H x o') h' := fun b u q => by
  have nown : ∀ c y, H c = some (.own y) → c ≠ x := fun c y r z => by subst z; rw [r] at mu; exact mu
  have ntup : ∀ c xs, H c = some (.tup xs) → c ≠ x := fun c xs r z => by subst z; rw [r] at mu; exact mu
  by_cases hb : b = x
  · subst hb; rw [upd_same] at q; cases q; exact new
  · rw [upd_ne hb] at q
    by_cases hbe : b = e
    · have q' : H b = some (.own x) := by
        rcases he with z | z
        · exact absurd (hbe.trans z) hb
        · rw [hbe]; exact z
      rw [q] at q'; cases q'
      obtain ⟨v, hv⟩ := heo
      exact ⟨v, by rw [hbe]; exact hv⟩
    · refine (ok b u q).stay (fun c v hc r => k c v ?_ r) (fun c r => by rw [upd_ne (nown c b r)]; exact r) fun c xs r => by rw [upd_ne (ntup c xs r)]; exact r
      rcases hc with rfl | hc
      · exact hbe
      · rintro rfl
        rcases he with z | z
        · exact nown c b hc z
        · rw [hc] at z; cases z; exact hb rfl
end
structure Un (fs ex : List Addr) (H H' : Hp) (h h' : Heap) : Prop where
  keep : ∀ b o, h.get? b = some o → H b = none → b ∉ fs → b ∉ ex → h'.get? b = some o
  slot : ∀ b o, h.get? b = some o → H b = none → b ∈ fs → b ∉ ex → ∃ sl, h'.get? b = some { o with slots := sl }
  free : ∀ b o, h.get? b = some o → H b = none → b ∉ ex → H' b = none
  there : ∀ b o, h.get? b = some o → b ∉ ex → ∃ o', h'.get? b = some o'
  tups : ∀ b xs, H b = some (.tup xs) → H' b = some (.tup xs)
  frzs : ∀ b o u, H b = some (.frz o u) → H' b = some (.frz o u)
  tbls : ∀ b ps, H b = some (.tbl ps) → ∃ more, H' b = some (.tbl (ps ++ more))
section
variable {fs fs' ex ex' : List Addr} {H H1 H2 : Hp} {h h1 h2 h' : Heap} {a x e : Addr} {o : HO}
theorem Un.any (u : Un fs ex H H1 h h1) {b : Addr} {ob : Obj} (q : h.get? b = some ob) (n : H b = none) (hx : b ∉ ex) : ∃ sl, h1.get? b = some { ob with slots := sl } := by
  by_cases hb : b ∈ fs
  · exact u.slot b ob q n hb hx
  · exact ⟨ob.slots, u.keep b ob q n hb hx⟩
theorem Un.trans (a : Un fs ex H H1 h h1) (b : Un fs ex H1 H2 h1 h2) : Un fs ex H H2 h h2 where
  keep := fun c ob q n hc hx => b.keep c ob (a.keep c ob q n hc hx) (a.free c ob q n hx) hc hx
  slot := fun c ob q n hc hx => by
    obtain ⟨sl, e1⟩ := a.slot c ob q n hc hx
    obtain ⟨sl', e2⟩ := b.slot c _ e1 (a.free c ob q n hx) hc hx
    exact ⟨sl', e2⟩
  free := fun c ob q n hx => by
    obtain ⟨o', e1⟩ := a.there c ob q hx
    exact b.free c o' e1 (a.free c ob q n hx) hx
  there := fun c ob q hx => by
    obtain ⟨o', e1⟩ := a.there c ob q hx
    exact b.there c o' e1 hx
  tups := fun c xs q => b.tups c xs (a.tups c xs q)
  frzs := fun c ob xs q => b.frzs c ob xs (a.frzs c ob xs q)
  tbls := fun c ps q => by
    obtain ⟨m1, e1⟩ := a.tbls c ps q
    obtain ⟨m2, e2⟩ := b.tbls c _ e1
    exact ⟨m1 ++ m2, by rw [e2, Array.append_assoc]⟩
theorem Un.kept (k : ∀ b u, h.get? b = some u → h'.get? b = some u) : Un fs ex H H h h' :=
  ⟨fun b ob q _ _ _ => k b ob q, fun b ob q _ _ _ => ⟨ob.slots, k b ob q⟩, fun _ _ _ n _ => n, fun b ob q _ => ⟨ob, k b ob q⟩, fun _ _ q => q, fun _ _ _ q => q, fun _ ps q => ⟨#[], by rw [q]; simp⟩⟩
theorem Un.refl : Un fs ex H H h h := Un.kept fun _ _ q => q
theorem Un.laid (k : ∀ b u, h.get? b = some u → h'.get? b = some u) (hp : h.objs.size ≤ a) (hn : H a = none) : Un fs ex H (upd H a o) h h' where
  keep := fun b u q _ _ _ => k b u q
  slot := fun b u q _ _ _ => ⟨u.slots, k b u q⟩
  free := fun b u q n _ => by rw [upd_ne (Nat.ne_of_lt (Nat.lt_of_lt_of_le (Heap.lt_size q) hp))]; exact n
  there := fun b u q _ => ⟨u, k b u q⟩
  tups := fun b xs q => by rw [upd_ne (ne_of_none q hn)]; exact q
  frzs := fun b u xs q => by rw [upd_ne (ne_of_none q hn)]; exact q
  tbls := fun b ps q => ⟨#[], by rw [upd_ne (ne_of_none q hn), q]; simp⟩
theorem Un.write (mu : Mut (H x)) (he : e = x ∨ H e = some (.own x)) (k : ∀ b u, b ≠ e → h.get? b = some u → h'.get? b = some u) (heo : ∃ u, h'.get? e = some u) : Un fs ex H (upd H x o) h h' := by
  have hx : ∀ b, H b = none → b ≠ x := fun b n z => by subst z; rw [n] at mu; exact mu
  have hb : ∀ b, H b = none → b ≠ e := fun b n z => by
    subst z
    rcases he with r | r
    · exact hx b n r
    · rw [n] at r; cases r
  have hm : ∀ b u, H b = some u → ¬ Mut (some u) → b ≠ x := fun b u q nm z => by subst z; rw [q] at mu; exact nm mu
  refine ⟨fun b u q n _ _ => k b u (hb b n) q, fun b u q n _ _ => ⟨u.slots, k b u (hb b n) q⟩, fun b u q n _ => by rw [upd_ne (hx b n)]; exact n, fun b u q _ => ?_,
    fun b xs q => by rw [upd_ne (hm b _ q fun z => z)]; exact q, fun b u xs q => by rw [upd_ne (hm b _ q fun z => z)]; exact q, fun b ps q => ⟨#[], by rw [upd_ne (hm b _ q fun z => z), q]; simp⟩⟩
  by_cases hbe : b = e
  · subst hbe; exact heo
  · exact ⟨u, k b u hbe q⟩
theorem Un.mono (u : Un fs ex H H1 h h1) (hs : ∀ b ∈ fs, b ∈ fs') (hx : ∀ b ∈ ex, b ∈ ex') : Un fs' ex' H H1 h h1 :=
  ⟨fun b ob q n hb he => u.keep b ob q n (fun z => hb (hs b z)) fun z => he (hx b z), fun _ _ q n _ he => u.any q n fun z => he (hx _ z), fun b ob q n he => u.free b ob q n fun z => he (hx b z), fun b ob q he => u.there b ob q fun z => he (hx b z), u.tups, u.frzs, u.tbls⟩
end
def trk (h : Heap) (H : Hp) : List Addr := (List.range h.objs.size).filter fun a => (H a).isSome
def hidT (h : Heap) (H : Hp) : Heap := PySem.W.hideAll h (trk h H)
theorem hidT_size (h : Heap) (H : Hp) : (hidT h H).objs.size = h.objs.size := PySem.W.hideAll_size _ _
theorem hidT_get {h : Heap} {H : Hp} {b : Addr} {o : Obj} (e : h.get? b = some o) (n : H b = none) : (hidT h H).get? b = some o :=
  PySem.W.hideAll_get _ e fun hm => by
    have q : (H b).isSome = true := (List.mem_filter.mp hm).2
    rw [n] at q; simp at q
theorem of_hidT {h : Heap} {H : Hp} {b : Addr} {o : Obj} (e : (hidT h H).get? b = some o) : h.get? b = some o ∧ H b = none := by
  have e' : h.get? b = some o := PySem.W.of_hideAll (trk h H) e
  refine ⟨e', ?_⟩
  cases q : H b with
  | none => rfl
  | some x =>
    have hm : b ∈ trk h H := List.mem_filter.mpr ⟨List.mem_range.mpr (Heap.lt_size e'), by simp [q]⟩
    have z : (hidT h H).get? b = none := PySem.W.hideAll_none (trk h H) hm
    rw [z] at e; cases e
def allNews (g h : Heap) (L : Addr) : List (Addr × Obj) := (List.range h.objs.size).filterMap fun a => if a = L ∨ (g.get? a).isSome = true then none else (h.get? a).map fun o => (a, o)
def rest (g h : Heap) (L d : Addr) : List (Addr × Obj) := (allNews g h L).filter fun p => decide (p.1 ≠ d)
end L2
namespace L2
open PySem PySem.Spec PyProof.Rows
structure Mod (K : PySem.W.Frag) (mg : Str → Option Value) (base : Heap) : Prop where
  kin : K.In base
  glob : base.Ns mainGlobals mg
  blt : ∃ mb, base.Ns builtinsNs mb ∧ ∀ x : Str, x ≠ "__name__" → mb x = bootBuiltins x
  nolimit : base.NoLimit
structure Cx where
  prog : Program
  w : World
  K : PySem.W.Frag
  mg : Str → Option Value
  base : Heap
  A : Around
  N : List Str
  s₀ : Shared
  H₀ : Hp
  env : Env
  outer : List Env
  stack : List Env
  ex : List Addr
  fn : Str → Bool
  calm : Bool
  pn : List (Addr × Obj)
  xe : Value → Shared → Prop
def frs (l : List Env) : List Addr := l.filterMap (·.frame)
abbrev Cx.fs (X : Cx) : List Addr := frs X.outer
def Vis (sc : Scope) (x : Str) : Prop := sc.names.lookup x = some .local ∨ sc.names.lookup x = some .cell ∨ sc.names.lookup x = some .free
def Loc (sc : Scope) (x : Str) : Prop := sc.names.lookup x = some .local ∨ sc.names.lookup x = some .cell
def Look (env : Env) (h : Heap) (m : Str → Option Value) (x : Str) (u : Value) : Prop :=
  (env.kindOf x = some .local ∧ m x = some u) ∨ ((env.kindOf x = some .cell ∨ env.kindOf x = some .free) ∧ ∃ c, env.cells.lookup x = some c ∧ h.IsCell c (some u))
structure Cx.Ok (X : Cx) : Prop where
  mod : Mod X.K X.mg X.base
  kind : X.env.scope.kind = .function
  glob : X.env.globals = mainGlobals
  blt : X.env.builtins = builtinsNs
  above : X.s₀.heap.objs.size ≤ X.env.locals
  inj : ∀ x y c, X.env.cells.lookup x = some c → X.env.cells.lookup y = some c → x = y
  has : ∀ x, (X.env.kindOf x = some .cell ∨ X.env.kindOf x = some .free) → ∃ c, X.env.cells.lookup x = some c
  cab : ∀ x c, X.fn x = true → X.env.cells.lookup x = some c → X.s₀.heap.objs.size ≤ c
  hd : X.calm = true → X.A.handled = none
  frames : X.A.frames = some X.stack
  stk : X.stack = X.outer ∨ (X.stack = X.env :: X.outer ∧ X.env.frame = some X.env.locals)
  exf : ∀ b ∈ X.ex, b ≠ X.env.locals ∧ ∀ x c, X.env.cells.lookup x = some c → c ≠ b
  bs : ∀ b o, X.base.get? b = some o → X.s₀.heap.get? b = some o ∧ X.H₀ b = none
  bsz : X.base.objs.size ≤ X.s₀.heap.objs.size
  noex : ∀ b o, X.base.get? b = some o → b ∉ X.ex
  exfs : ∀ b ∈ X.ex, b ∉ X.fs
  funs : X.s₀.heap.FunFrames X.base X.outer
  frf : ∀ b ∈ X.fs, X.H₀ b = none
structure Inv (X : Cx) (pins : List (Addr × Obj)) (σ : List (Option V)) (H : Hp) (s : Shared) : Prop where
  ok : X.Ok
  os : s.os = X.s₀.os
  bare : AllBare s.gens
  base : Un X.fs X.ex X.H₀ H X.s₀.heap s.heap
  loc : ∃ m, s.heap.Ns X.env.locals m ∧ ∀ (i : Nat) (x : Str) (v : V), X.N[i]? = some x → σ[i]? = some (some v) → Vis X.env.scope x → ∃ u, RelV v u ∧ Look X.env s.heap m x u
  cell : ∀ x c, X.env.cells.lookup x = some c → ∃ v, s.heap.IsCell c v
  free : H X.env.locals = none
  freeC : ∀ x c, X.env.cells.lookup x = some c → H c = none
  pin : ∀ p ∈ X.pn ++ pins, s.heap.get? p.1 = some p.2 ∧ H p.1 = none ∧ p.1 ≠ X.env.locals ∧ p.1 ∉ X.fs ∧ ∀ v, p.2.data ≠ .cell v
  hok : HOk X.prog X.w H s.heap
  len : σ.length = X.N.length
section
variable {X : Cx} {pins : List (Addr × Obj)} {σ : List (Option V)} {H H' : Hp} {s : Shared} {h' : Heap}
theorem Cx.Ok.nofr (ok : X.Ok) {b : Addr} {o : Obj} (e : X.base.get? b = some o) : b ∉ X.fs := fun hb => by
  have := (ok.funs.mem hb).1
  rw [e] at this; cases this
theorem Inv.bs (I : Inv X pins σ H s) : ∀ b o, X.base.get? b = some o → s.heap.get? b = some o ∧ H b = none := fun b o e =>
  ⟨I.base.keep b o (I.ok.bs b o e).1 (I.ok.bs b o e).2 (I.ok.nofr e) (I.ok.noex b o e), I.base.free b o (I.ok.bs b o e).1 (I.ok.bs b o e).2 (I.ok.noex b o e)⟩
theorem Inv.bk (I : Inv X pins σ H s) : ∀ b o, X.base.get? b = some o → s.heap.get? b = some o := fun b o e => (I.bs b o e).1
theorem Inv.mod (I : Inv X pins σ H s) : Mod X.K X.mg X.base := I.ok.mod
theorem Inv.kIn (I : Inv X pins σ H s) : X.K.In s.heap := I.ok.mod.kin.keeps I.bk
theorem Inv.nolimit (I : Inv X pins σ H s) : s.heap.NoLimit := I.ok.mod.nolimit.keeps I.bk
theorem Inv.fr (I : Inv X pins σ H s) : ∃ m, Fr X.base X.env.locals s.heap m :=
  let ⟨m, hn, _⟩ := I.loc
  ⟨m, hn, I.bk, Nat.le_trans I.ok.bsz I.ok.above⟩
theorem Inv.lt (I : Inv X pins σ H s) : X.env.locals < s.heap.objs.size := let ⟨_, hn, _⟩ := I.loc; hn.lt
theorem Inv.sz (I : Inv X pins σ H s) : X.s₀.heap.objs.size ≤ s.heap.objs.size := Nat.le_trans I.ok.above (Nat.le_of_lt I.lt)
theorem Inv.nofs (I : Inv X pins σ H s) {a : Addr} (h : s.heap.objs.size ≤ a) : a ∉ X.fs := fun hb => by
  obtain ⟨_, o, ho, _⟩ := I.ok.funs.mem hb
  exact absurd (Nat.lt_of_lt_of_le (Heap.lt_size ho) (Nat.le_trans I.sz h)) (Nat.lt_irrefl _)
theorem Inv.cne (I : Inv X pins σ H s) : ∀ x c, X.env.cells.lookup x = some c → c ≠ X.env.locals := fun x c e z => by
  obtain ⟨v, o, ho, hd⟩ := I.cell x c e
  obtain ⟨m, ⟨o', es, ep, ho', hd', _⟩, _⟩ := I.loc
  rw [z, ho'] at ho; cases ho; rw [hd'] at hd; cases hd
theorem Inv.funs (I : Inv X pins σ H s) : s.heap.FunFrames X.base X.outer := by
  have all : ∀ (l : List Env), (∀ b ∈ frs l, b ∈ X.fs) → X.s₀.heap.FunFrames X.base l → s.heap.FunFrames X.base l := by
    intro l
    induction l with
    | nil => intro _ _; trivial
    | cons env r ih =>
      intro hs hl
      obtain ⟨hk, ⟨L, o, hf, hn, ho, hd⟩, hr⟩ := hl
      have hL : L ∈ X.fs := hs L (by unfold frs; rw [List.filterMap_cons, hf]; exact List.mem_cons_self)
      obtain ⟨sl, e⟩ := I.base.slot L o ho (I.ok.frf L hL) hL fun z => I.ok.exfs L z hL
      exact ⟨hk, ⟨L, _, hf, hn, e, hd⟩, ih (fun b hb => hs b (by unfold frs; rw [List.filterMap_cons, hf]; exact List.mem_cons_of_mem _ hb)) hr⟩
  exact all X.outer (fun _ hb => hb) I.ok.funs
theorem Inv.stack (I : Inv X pins σ H s) : s.heap.FunFrames X.base X.stack := by
  rcases I.ok.stk with e | ⟨e, hf⟩
  · rw [e]; exact I.funs
  · rw [e]
    obtain ⟨m, hn, _⟩ := I.loc
    refine .cons (by rw [I.ok.kind]; decide) hf hn ?_ I.funs
    exact Heap.get?_none_of_le (Nat.le_trans I.ok.bsz I.ok.above)
theorem Inv.stkSub (I : Inv X pins σ H s) : ∀ b ∈ frs X.stack, b ∈ X.env.locals :: X.fs := fun b hb => by
  rcases I.ok.stk with e | ⟨e, hf⟩
  · rw [e] at hb; exact List.mem_cons_of_mem _ hb
  · rw [e] at hb
    unfold frs at hb
    rw [List.filterMap_cons, hf] at hb
    exact hb
theorem Inv.stkFree (I : Inv X pins σ H s) : ∀ b ∈ frs X.stack, H b = none := fun b hb => by
  rcases List.mem_cons.mp (I.stkSub b hb) with e | hb
  · rw [e]; exact I.free
  · obtain ⟨_, o, ho, _⟩ := I.ok.funs.mem hb
    exact I.base.free b o ho (I.ok.frf b hb) fun z => I.ok.exfs b z hb
theorem Inv.step {g' : Array GenState} {t' : Nat} {d' : Drawn} {ch : List Addr} (I : Inv X pins σ H s)
    (hch : ∀ b ∈ ch, (b ∈ X.ex ∨ X.s₀.heap.objs.size ≤ b) ∧ b ≠ X.env.locals ∧ (∀ x c, X.env.cells.lookup x = some c → c ≠ b) ∧ ∀ p ∈ X.pn ++ pins, p.1 ≠ b)
    (keep : ∀ b o, b ≠ X.env.locals → b ∉ X.fs → b ∉ ch → s.heap.get? b = some o → H b = none → h'.get? b = some o)
    (slot : ∀ b o, b ≠ X.env.locals → b ∈ X.fs → b ∉ ch → s.heap.get? b = some o → H b = none → ∃ sl, h'.get? b = some { o with slots := sl }) (free : ∀ b o, b ∉ ch → s.heap.get? b = some o → H b = none → H' b = none)
    (there : ∀ b o, b ∉ ch → s.heap.get? b = some o → ∃ o', h'.get? b = some o')
    (tups : ∀ b xs, H b = some (.tup xs) → H' b = some (.tup xs)) (frzs : ∀ b o u, H b = some (.frz o u) → H' b = some (.frz o u)) (tbls : ∀ b ps, H b = some (.tbl ps) → ∃ more, H' b = some (.tbl (ps ++ more)))
    (ns : ∀ m, s.heap.Ns X.env.locals m → h'.Ns X.env.locals m) (hok : HOk X.prog X.w H' h') (hg : AllBare g') :
    Inv X pins σ H' { s with heap := h', gens := g', drawn := d', toks := t' } := by
  have neL : ∀ b o, X.s₀.heap.get? b = some o → b ≠ X.env.locals := fun b o e => Nat.ne_of_lt (Nat.lt_of_lt_of_le (Heap.lt_size e) I.ok.above)
  have neC : ∀ b o, X.s₀.heap.get? b = some o → b ∉ X.ex → b ∉ ch := fun b o e hx hb => by
    rcases (hch b hb).1 with z | z
    · exact hx z
    · exact absurd (Nat.lt_of_lt_of_le (Heap.lt_size e) z) (Nat.lt_irrefl _)
  have cellK : ∀ x c, X.env.cells.lookup x = some c → ∀ v, s.heap.IsCell c v → h'.IsCell c v := fun x c e v ⟨o, ho, hd⟩ => by
    have nch : c ∉ ch := fun z => (hch c z).2.2.1 x c e rfl
    by_cases hc : c ∈ X.fs
    · obtain ⟨sl, q⟩ := slot c o (I.cne x c e) hc nch ho (I.freeC x c e)
      exact ⟨_, q, hd⟩
    · exact ⟨o, keep c o (I.cne x c e) hc nch ho (I.freeC x c e), hd⟩
  refine ⟨I.ok, I.os, hg, ⟨fun b o e n hb hx => ?_, fun b o e n hb hx => ?_, fun b o e n hx => ?_, fun b o e hx => ?_, fun b xs e => tups b xs (I.base.tups b xs e), fun b o xs e => frzs b o xs (I.base.frzs b o xs e), fun b ps e => ?_⟩, ?_, fun x c e => ?_, ?_, fun x c e => ?_, fun p hp => ?_, hok, I.len⟩
  · exact keep b o (neL b o e) hb (neC b o e hx) (I.base.keep b o e n hb hx) (I.base.free b o e n hx)
  · obtain ⟨sl, e1⟩ := I.base.slot b o e n hb hx
    obtain ⟨sl', e2⟩ := slot b _ (neL b o e) hb (neC b o e hx) e1 (I.base.free b o e n hx)
    exact ⟨sl', e2⟩
  · obtain ⟨o', e1⟩ := I.base.there b o e hx
    exact free b o' (neC b o e hx) e1 (I.base.free b o e n hx)
  · obtain ⟨o', e1⟩ := I.base.there b o e hx
    exact there b o' (neC b o e hx) e1
  · obtain ⟨m1, e1⟩ := I.base.tbls b ps e
    obtain ⟨m2, e2⟩ := tbls b _ e1
    exact ⟨m1 ++ m2, by rw [e2, Array.append_assoc]⟩
  · obtain ⟨m, hn, hl⟩ := I.loc
    refine ⟨m, ns m hn, fun i x v e1 e2 e3 => ?_⟩
    obtain ⟨u, r, l⟩ := hl i x v e1 e2 e3
    refine ⟨u, r, ?_⟩
    rcases l with l | ⟨k, c, e, z⟩
    · exact .inl l
    · exact .inr ⟨k, c, e, cellK x c e _ z⟩
  · obtain ⟨v, z⟩ := I.cell x c e
    exact ⟨v, cellK x c e v z⟩
  · obtain ⟨m, ⟨o, _, _, ho, _⟩, _⟩ := I.loc
    exact free _ o (fun z => (hch _ z).2.1 rfl) ho I.free
  · obtain ⟨v, o, ho, hd⟩ := I.cell x c e
    exact free c o (fun z => (hch c z).2.2.1 x c e rfl) ho (I.freeC x c e)
  · obtain ⟨e, n, ne, nf, d⟩ := I.pin p hp
    have nch : p.1 ∉ ch := fun z => (hch p.1 z).2.2.2 p hp rfl
    exact ⟨keep p.1 p.2 ne nf nch e n, free p.1 p.2 nch e n, ne, nf, d⟩
theorem Inv.un {t' : Nat} (I : Inv X pins σ H s) (u : Un X.fs [] H H' s.heap h') (hok : HOk X.prog X.w H' h') : Inv X pins σ H' { s with heap := h', toks := t' } := by
  obtain ⟨m, ⟨o, es, ep, ho, r⟩, _⟩ := id I.loc
  obtain ⟨sl, hL⟩ := u.any ho I.free (by simp)
  exact I.step (g' := s.gens) (d' := s.drawn) (ch := []) (fun _ z => nomatch z) (fun b o _ hb _ e n => u.keep b o e n hb (by simp)) (fun b o _ hb _ e n => u.slot b o e n hb (by simp)) (fun b o _ e n => u.free b o e n (by simp)) (fun b o _ e => u.there b o e (by simp)) u.tups u.frzs u.tbls (fun m' hm => by
    obtain ⟨o', es', ep', ho', r'⟩ := hm
    rw [ho] at ho'; cases ho'
    exact ⟨_, es', ep', hL, r'⟩) hok I.bare
theorem Inv.call {g' : Array GenState} {t' : Nat} {d' : Drawn} {ch : List Addr} (I : Inv X pins σ H s) (u : Un (frs X.stack) ch H H' s.heap h') (hok : HOk X.prog X.w H' h') (hg : AllBare g')
    (hch : ∀ b ∈ ch, (b ∈ X.ex ∨ X.s₀.heap.objs.size ≤ b) ∧ b ≠ X.env.locals ∧ (∀ x c, X.env.cells.lookup x = some c → c ≠ b) ∧ ∀ p ∈ X.pn ++ pins, p.1 ≠ b) :
    Inv X pins σ H' { s with heap := h', gens := g', drawn := d', toks := t' } := by
  obtain ⟨m, ⟨o, es, ep, ho, r⟩, _⟩ := id I.loc
  obtain ⟨sl, hL⟩ := u.any ho I.free fun z => (hch _ z).2.1 rfl
  exact I.step (ch := ch) hch (fun b o hL hb hc e n => u.keep b o e n (fun z => (List.mem_cons.mp (I.stkSub b z)).elim hL hb) hc) (fun b o _ _ hc e n => u.any e n hc) (fun b o hc e n => u.free b o e n hc) (fun b o hc e => u.there b o e hc) u.tups u.frzs u.tbls (fun m' hm => by
    obtain ⟨o', es', ep', ho', r'⟩ := hm
    rw [ho] at ho'; cases ho'
    exact ⟨_, es', ep', hL, r'⟩) hok hg
theorem Inv.turned {t' : Nat} {it : Addr} (I : Inv X pins σ H s) (k : ∀ b o, b ≠ it → s.heap.get? b = some o → h'.get? b = some o) (hn : H it = none) (hL : it ≠ X.env.locals)
    (h1 : it ∈ X.ex ∨ X.s₀.heap.objs.size ≤ it) (h2 : ∀ x c, X.env.cells.lookup x = some c → c ≠ it) (h3 : ∀ p ∈ X.pn ++ pins, p.1 ≠ it) : Inv X pins σ H { s with heap := h', toks := t' } := by
  have nit : ∀ b u, H b = some u → b ≠ it := fun b u e z => by rw [z, hn] at e; cases e
  refine I.step (g' := s.gens) (d' := s.drawn) (ch := [it]) (fun b hb => ?_) (fun b o _ _ hc e _ => k b o (fun z => hc (by simp [z])) e) (fun b o _ _ hc e _ => ⟨o.slots, k b o (fun z => hc (by simp [z])) e⟩) (fun _ _ _ _ n => n)
    (fun b o hc e => ⟨o, k b o (fun z => hc (by simp [z])) e⟩) (fun _ _ e => e) (fun _ _ _ e => e) (fun b ps e => ⟨#[], by rw [e]; simp⟩) (fun m hm => ?_) (fun b u e => ?_) I.bare
  · have e : b = it := by simpa using hb
    subst e
    exact ⟨h1, hL, h2, h3⟩
  · obtain ⟨o, es, ep, ho, r⟩ := hm
    exact ⟨o, es, ep, k _ o (Ne.symm hL) ho, r⟩
  · refine (I.hok b u e).stay (fun c v hc q => k c v ?_ q) (fun _ q => q) fun _ _ q => q
    rcases hc with z | z
    · rw [z]; exact nit b u e
    · exact nit c _ z
theorem Inv.tok (I : Inv X pins σ H s) (t : Nat) : Inv X pins σ H { s with toks := t } := I.un (h' := s.heap) (t' := t) Un.refl I.hok
theorem Inv.kept {t' : Nat} (I : Inv X pins σ H s) (k : ∀ b u, s.heap.get? b = some u → h'.get? b = some u) : Inv X pins σ H { s with heap := h', toks := t' } := I.un (Un.kept k) (I.hok.kept k)
theorem Inv.laid {a : Addr} {o : HO} {t' : Nat} (I : Inv X pins σ H s) (k : ∀ b u, s.heap.get? b = some u → h'.get? b = some u) (hp : s.heap.objs.size ≤ a) (new : ObjOk X.prog X.w (upd H a o) h' a o) :
    Inv X pins σ (upd H a o) { s with heap := h', toks := t' } := I.un (Un.laid k hp (I.hok.fresh hp)) (I.hok.laid k hp new)
theorem Inv.write {x e : Addr} {o : HO} {t' : Nat} (I : Inv X pins σ H s) (mu : Mut (H x)) (he : e = x ∨ H e = some (.own x)) (k : ∀ b u, b ≠ e → s.heap.get? b = some u → h'.get? b = some u) (heo : ∃ u, h'.get? e = some u)
    (new : ObjOk X.prog X.w (upd H x o) h' x o) : Inv X pins σ (upd H x o) { s with heap := h', toks := t' } := I.un (Un.write mu he k heo) (I.hok.write mu he k heo new)
theorem Inv.weak {σ' : List (Option V)} (I : Inv X pins σ H s) (hl : σ'.length = σ.length) (w : ∀ (i : Nat) v, σ'[i]? = some (some v) → σ[i]? = some (some v)) : Inv X pins σ' H s :=
  ⟨I.ok, I.os, I.bare, I.base, let ⟨m, hn, hl'⟩ := I.loc; ⟨m, hn, fun i x v e1 e2 e3 => hl' i x v e1 (w i v e2) e3⟩, I.cell, I.free, I.freeC, I.pin, I.hok, hl.trans I.len⟩
theorem Inv.pins_of {pins' : List (Addr × Obj)} (I : Inv X pins σ H s) (h : ∀ p ∈ pins', s.heap.get? p.1 = some p.2 ∧ H p.1 = none ∧ p.1 ≠ X.env.locals ∧ p.1 ∉ X.fs ∧ ∀ v, p.2.data ≠ .cell v) : Inv X pins' σ H s :=
  ⟨I.ok, I.os, I.bare, I.base, I.loc, I.cell, I.free, I.freeC, fun p hp => (List.mem_append.mp hp).elim (fun z => I.pin p (List.mem_append_left _ z)) (h p), I.hok, I.len⟩
theorem nodup_ix {N : List Str} (hN : N.Nodup) {i j : Nat} {x : Str} (a : N[i]? = some x) (b : N[j]? = some x) : i = j := by
  obtain ⟨h1, e1⟩ := List.getElem?_eq_some_iff.mp a
  obtain ⟨h2, e2⟩ := List.getElem?_eq_some_iff.mp b
  exact (List.getElem_inj hN).mp (e1.trans e2.symm)
theorem store_ok2 {M : Model} {A : Around} {E : Value → Shared → Prop} {i : Nat} {x : Str} {v : V} {u : Value} {Q : Unit → Shared → Prop} (I : Inv X pins σ H s) (hN : X.N.Nodup) (hi : X.N[i]? = some x) (hx : Loc X.env.scope x) (r : RelV v u)
    (h : ∀ s', Inv X pins (σ.set i (some v)) H s' → (∃ a, Heap.SameBut a s.heap s'.heap ∧ (a = X.env.locals ∨ X.env.cells.lookup x = some a)) → Q () s') (hf : X.fn x = true ∨ X.env.scope.names.lookup x = some .local := by first | exact .inl rfl | exact .inr rfl | assumption) : wpAny M A (storeName X.env x u) Q E s := by
  obtain ⟨m, hn, hl⟩ := id I.loc
  have hcls : (X.env.scope.kind == .class || (X.env.scope.kind == .module && X.env.locals != X.env.globals)) = false := by rw [I.ok.kind]; rfl
  have hiσ : i < σ.length := by rw [I.len]; exact (List.getElem?_eq_some_iff.mp hi).1
  have cne := I.cne
  have tracked : ∀ {a : Addr} {h' : Heap}, (∃ o, s.heap.get? a = some o ∧ H a = none) → Heap.SameBut a s.heap h' → HOk X.prog X.w H h' := fun {a h'} ha hs b ob e => by
    obtain ⟨_, _, hfree⟩ := ha
    refine (I.hok b ob e).stay (fun c w' hc q => (hs.2 c ?_).trans q) (fun _ q => q) fun _ _ q => q
    rintro rfl
    rcases hc with rfl | hc
    · rw [hfree] at e; cases e
    · rw [hfree] at hc; cases hc
  rcases hx with hk | hk
  · refine wpAny_storeName_local hk hn (fun h' hn' hs => ?_) hcls
    obtain ⟨oL, _, _, hoL, _⟩ := id hn
    refine h _ ⟨I.ok, I.os, I.bare, ⟨fun b o e n hb hx => ?_, fun b o e n hb hx => ?_, I.base.free, fun b o e hx => ?_, I.base.tups, I.base.frzs, I.base.tbls⟩, ⟨_, hn', fun j y v' e1 e2 e3 => ?_⟩, fun y c e => ?_, I.free, I.freeC, fun p hp => ?_, tracked ⟨oL, hoL, I.free⟩ hs, by simpa using I.len⟩ ⟨_, hs, .inl rfl⟩
    · exact (hs.2 b (Nat.ne_of_lt (Nat.lt_of_lt_of_le (Heap.lt_size e) I.ok.above))).trans (I.base.keep b o e n hb hx)
    · obtain ⟨sl, e1⟩ := I.base.slot b o e n hb hx
      exact ⟨sl, (hs.2 b (Nat.ne_of_lt (Nat.lt_of_lt_of_le (Heap.lt_size e) I.ok.above))).trans e1⟩
    · obtain ⟨o', e1⟩ := I.base.there b o e hx
      exact ⟨o', (hs.2 b (Nat.ne_of_lt (Nat.lt_of_lt_of_le (Heap.lt_size e) I.ok.above))).trans e1⟩
    · by_cases hj : j = i
      · subst hj
        rw [hi] at e1; cases e1
        rw [List.getElem?_set_self hiσ] at e2
        cases e2
        exact ⟨u, r, .inl ⟨hk, by simp⟩⟩
      · rw [List.getElem?_set_ne (Ne.symm hj)] at e2
        obtain ⟨u', r', q⟩ := hl j y v' e1 e2 e3
        refine ⟨u', r', ?_⟩
        rcases q with ⟨k, e⟩ | ⟨k, c, e, z⟩
        · refine .inl ⟨k, ?_⟩
          have : y ≠ x := fun e => hj (nodup_ix hN e1 (e ▸ hi))
          simp [this, e]
        · exact .inr ⟨k, c, e, z.sameBut hs (cne y c e)⟩
    · obtain ⟨w', z⟩ := I.cell y c e
      exact ⟨w', z.sameBut hs (cne y c e)⟩
    · obtain ⟨e, n, ne, nf, d⟩ := I.pin p hp
      exact ⟨(hs.2 p.1 ne).trans e, n, ne, nf, d⟩
  · have hfn : X.fn x = true := by
      rcases hf with z | z
      · exact z
      · rw [z] at hk; cases hk
    obtain ⟨c, hc⟩ := I.ok.has x (.inl hk)
    obtain ⟨w', z⟩ := I.cell x c hc
    refine wpAny_storeName_cell I.ok.kind hk hc z (fun h' hc' hs => ?_)
    obtain ⟨oc, hoc, hocd⟩ := id z
    refine h { s with heap := h' } ⟨I.ok, I.os, I.bare, ⟨fun b o e n hb hx => ?_, fun b o e n hb hx => ?_, I.base.free, fun b o e hx => ?_, I.base.tups, I.base.frzs, I.base.tbls⟩, ⟨m, hn.sameBut hs (Ne.symm (cne x c hc)), fun j y v' e1 e2 e3 => ?_⟩, fun y c' e => ?_, I.free, I.freeC, fun p hp => ?_, tracked ⟨oc, hoc, I.freeC x c hc⟩ hs, by simpa using I.len⟩ ⟨c, hs, .inr hc⟩
    · exact (hs.2 b (Nat.ne_of_lt (Nat.lt_of_lt_of_le (Heap.lt_size e) (I.ok.cab x c hfn hc)))).trans (I.base.keep b o e n hb hx)
    · obtain ⟨sl, e1⟩ := I.base.slot b o e n hb hx
      exact ⟨sl, (hs.2 b (Nat.ne_of_lt (Nat.lt_of_lt_of_le (Heap.lt_size e) (I.ok.cab x c hfn hc)))).trans e1⟩
    · obtain ⟨o', e1⟩ := I.base.there b o e hx
      exact ⟨o', (hs.2 b (Nat.ne_of_lt (Nat.lt_of_lt_of_le (Heap.lt_size e) (I.ok.cab x c hfn hc)))).trans e1⟩
    · by_cases hj : j = i
      · subst hj
        rw [hi] at e1; cases e1
        rw [List.getElem?_set_self hiσ] at e2
        cases e2
        exact ⟨u, r, .inr ⟨.inl hk, c, hc, hc'⟩⟩
      · rw [List.getElem?_set_ne (Ne.symm hj)] at e2
        obtain ⟨u', r', q⟩ := hl j y v' e1 e2 e3
        refine ⟨u', r', ?_⟩
        rcases q with q | ⟨k, c', e, z'⟩
        · exact .inl q
        · refine .inr ⟨k, c', e, z'.sameBut hs ?_⟩
          rintro rfl
          exact hj (nodup_ix hN e1 (I.ok.inj _ _ _ e hc ▸ hi))
    · by_cases hcc : c' = c
      · subst hcc; exact ⟨_, hc'⟩
      · obtain ⟨w2, z2⟩ := I.cell y c' e
        exact ⟨w2, z2.sameBut hs hcc⟩
    · obtain ⟨e, n, ne, nf, d⟩ := I.pin p hp
      refine ⟨(hs.2 p.1 ?_).trans e, n, ne, nf, d⟩
      intro q
      rw [q, hoc] at e
      have q' : oc = p.2 := Option.some.inj e
      exact d w' (by rw [← q']; exact hocd)
theorem store_ok {M : Model} {A : Around} {E : Value → Shared → Prop} {i : Nat} {x : Str} {v : V} {u : Value} {Q : Unit → Shared → Prop} (I : Inv X pins σ H s) (hN : X.N.Nodup) (hi : X.N[i]? = some x) (hx : Loc X.env.scope x) (r : RelV v u)
    (h : ∀ s', Inv X pins (σ.set i (some v)) H s' → Q () s') (hf : X.fn x = true ∨ X.env.scope.names.lookup x = some .local := by first | exact .inl rfl | exact .inr rfl | assumption) : wpAny M A (storeName X.env x u) Q E s :=
  store_ok2 I hN hi hx r (fun s' I' _ => h s' I') hf
theorem Inv.call' {s' : Shared} {ch : List Addr} (I : Inv X pins σ H s) (ho : s'.os = s.os) (u : Un (frs X.stack) ch H H' s.heap s'.heap) (hok : HOk X.prog X.w H' s'.heap) (hg : AllBare s'.gens)
    (hch : ∀ b ∈ ch, (b ∈ X.ex ∨ X.s₀.heap.objs.size ≤ b) ∧ b ≠ X.env.locals ∧ (∀ x c, X.env.cells.lookup x = some c → c ≠ b) ∧ ∀ p ∈ X.pn ++ pins, p.1 ≠ b) : Inv X pins σ H' s' := by
  obtain ⟨h', g', d', t', o'⟩ := s'
  have e : o' = s.os := ho
  subst e
  exact I.call (g' := g') (t' := t') (d' := d') u hok hg hch
end
abbrev XK := Value → Option Addr → Hp → Prop
abbrev St := List (Option V)
abbrev VK := V → Hp → Prop
abbrev TE := St → Hp → VK → Prop
abbrev TT := St → Hp → (Bool → Hp → Prop) → Prop
abbrev TA := St → Hp → (List V → Hp → Prop) → Prop
structure Ends where
  nx : St → Hp → Prop
  rt : VK
  bk : St → Hp → Prop := fun _ _ => False
  ct : St → Hp → Prop := fun _ _ => False
abbrev TS := Ends → St → Hp → Prop
def EP (X : Cx) (pins : List (Addr × Obj)) (σ : St) (Q : VK) (u : Value) (s' : Shared) : Prop := ∃ v H', Inv X pins σ H' s' ∧ RelV v u ∧ Q v H'
def TP (X : Cx) (pins : List (Addr × Obj)) (σ : St) (Q : Bool → Hp → Prop) (b : Bool) (s' : Shared) : Prop := ∃ H', Inv X pins σ H' s' ∧ Q b H'
def AP (X : Cx) (pins : List (Addr × Obj)) (σ : St) (Q : List V → Hp → Prop) (us : List Value) (s' : Shared) : Prop := ∃ vs H', Inv X pins σ H' s' ∧ Vals vs us ∧ Q vs H'
def SP (X : Cx) (pins : List (Addr × Obj)) (D : Ends) (f : Flow) (s' : Shared) : Prop :=
  match f with
  | .next => ∃ σ' H', Inv X pins σ' H' s' ∧ D.nx σ' H'
  | .brk => ∃ σ' H', Inv X pins σ' H' s' ∧ D.bk σ' H'
  | .cont => ∃ σ' H', Inv X pins σ' H' s' ∧ D.ct σ' H'
  | .ret u => ∃ v σ' H', Inv X pins σ' H' s' ∧ RelV v u ∧ D.rt v H'
def PE (X : Cx) (e : Expr) (t : TE) : Prop :=
  ∀ (pins : List (Addr × Obj)) (s : Shared) (σ : St) (H : Hp) (Q : VK), Inv X pins σ H s → t σ H Q → wpAny (model X.prog X.w) X.A (eval e X.env) (EP X pins σ Q) X.xe s
def PT (X : Cx) (e : Expr) (t : TT) : Prop :=
  ∀ (pins : List (Addr × Obj)) (s : Shared) (σ : St) (H : Hp) (Q : Bool → Hp → Prop), Inv X pins σ H s → t σ H Q → wpAny (model X.prog X.w) X.A (isTrue e X.env (eval e X.env)) (TP X pins σ Q) X.xe s
def PW (X : Cx) (e : Expr) (t : TT) : Prop :=
  ∀ (whole : Sem Value) (pins : List (Addr × Obj)) (s : Shared) (σ : St) (H : Hp) (Q : Bool → Hp → Prop), Inv X pins σ H s → t σ H Q → wpAny (model X.prog X.w) X.A (isTrue e X.env whole) (TP X pins σ Q) X.xe s
theorem PW.pt {X : Cx} {e : Expr} {t : TT} (h : PW X e t) : PT X e t := h _
def PA (X : Cx) (es : List Expr) (t : TA) : Prop :=
  ∀ (pos : Pos) (pins : List (Addr × Obj)) (s : Shared) (σ : St) (H : Hp) (Q : List V → Hp → Prop), Inv X pins σ H s → t σ H Q → wpAny (model X.prog X.w) X.A (spliced (backTo pos (starEach es X.env))) (AP X pins σ Q) X.xe s
def PS (X : Cx) (st : Stmt) (t : TS) : Prop :=
  ∀ (pins : List (Addr × Obj)) (s : Shared) (σ : St) (H : Hp) (D : Ends), Inv X pins σ H s → t D σ H → wpAny (model X.prog X.w) X.A (exec st X.env) (SP X pins D) X.xe s
def PSs (X : Cx) (st : List Stmt) (t : TS) : Prop :=
  ∀ (pins : List (Addr × Obj)) (s : Shared) (σ : St) (H : Hp) (D : Ends), Inv X pins σ H s → t D σ H → wpAny (model X.prog X.w) X.A (execs st X.env) (SP X pins D) X.xe s
theorem thn {α : Type} {t : Sem α} {Q Q' : α → Shared → Prop} {M : Model} {A : Around} {E : Value → Shared → Prop} {s : Shared} (h : wpAny M A t Q E s) (hQ : ∀ a s, Q a s → Q' a s) : wpAny M A t Q' E s := wpAny_mono h hQ fun _ _ x => x
end L2
namespace L2
open PySem PySem.Spec PyProof.Rows
section
variable {X : Cx}
def tVar (i : Nat) : TE := fun σ H Q => ∃ v, σ[i]? = some (some v) ∧ Q v H
def tC (v : V) : TE := fun _ H Q => Q v H
theorem pe_var {i : Nat} {x : Str} {pos : Pos} (hN : X.N[i]? = some x) (hv : Vis X.env.scope x) (hd : (x == ("__debug__" : Str)) = false := by decide) (hcd : (x == ("__classdict__" : Str)) = false := by decide) : PE X (.Name x pos) (tVar i) := by
  intro pins s σ H Q I h
  obtain ⟨v, e, h⟩ := h
  obtain ⟨m, hn, hl⟩ := I.loc
  obtain ⟨u, r, l⟩ := hl i x v hN e hv
  have fin : EP X pins σ Q u s := ⟨v, H, I, r, h⟩
  rcases l with ⟨hk, hm⟩ | ⟨hk, c, hc, hcell⟩
  · exact wpAny_Name (wpAny_loadName_local I.ok.kind hk hn hm fin) hd
  · rcases hk with hk | hk
    · exact wpAny_Name (wpAny_loadName_cell I.ok.kind hk hc hcell fin) hd
    · exact wpAny_Name (wpAny_loadName_free I.ok.kind hk hc hcell fin hcd) hd
theorem pe_int {i j pos} : PE X (.Constant (.int i) j pos) (tC (.int i)) := fun _ _ _ H _ I h => wpAny_Constant_int ⟨.int i, H, I.tok _, ⟨_, rfl⟩, h⟩
theorem pe_bl {b j pos} : PE X (.Constant (.bool b) j pos) (tC (.bl b)) := fun _ _ _ H _ I h => Constant_bool ⟨.bl b, H, I, rfl, h⟩
theorem pe_non {j pos} : PE X (.Constant .none j pos) (tC .non) := fun _ _ _ H _ I h => Constant_none ⟨.non, H, I, rfl, h⟩
theorem pe_str {x j pos} : PE X (.Constant (.str x) j pos) (tC (.str x)) := fun _ _ _ H _ I h => Calls.Constant_str ⟨.str x, H, I.tok _, ⟨_, rfl⟩, h⟩
def Gl (X : Cx) (x : Str) : Prop := X.env.kindOf x = some .globalImplicit
theorem ld_glob {E : Value → Shared → Prop} {pins : List (Addr × Obj)} {s : Shared} {σ : St} {H : Hp} {x : Str} {u : Value} {pos : Pos} {Q : Value → Shared → Prop} (I : Inv X pins σ H s) (hg : Gl X x) (hm : X.mg x = some u) (h : Q u s)
    (hd : (x == ("__debug__" : Str)) = false := by decide) : wpAny (model X.prog X.w) X.A (eval (.Name x pos) X.env) Q E s :=
  Calls.Name_function_global I.ok.kind hg (Calls.loadGlobal_global (by rw [I.ok.glob]; exact I.mod.glob.keeps I.bk) hm h) hd
theorem ld_blt {E : Value → Shared → Prop} {pins : List (Addr × Obj)} {s : Shared} {σ : St} {H : Hp} {x : Str} {u : Value} {pos : Pos} {Q : Value → Shared → Prop} (I : Inv X pins σ H s) (hg : Gl X x) (hm : X.mg x = none) (hv : bootBuiltins x = some u) (h : Q u s)
    (hn : x ≠ "__name__" := by decide) (hd : (x == ("__debug__" : Str)) = false := by decide) : wpAny (model X.prog X.w) X.A (eval (.Name x pos) X.env) Q E s := by
  obtain ⟨mb, h1, h2⟩ := I.mod.blt
  exact Calls.Name_function_global I.ok.kind hg (Calls.loadGlobal_builtin (by rw [I.ok.glob]; exact I.mod.glob.keeps I.bk) hm (by rw [I.ok.blt]; exact h1.keeps I.bk) ((h2 x hn).trans hv) h) hd
theorem pe_glob {x : Str} {v : V} {u : Value} {pos : Pos} (hg : Gl X x) (hm : X.mg x = some u) (r : RelV v u) (hd : (x == ("__debug__" : Str)) = false := by decide) : PE X (.Name x pos) (tC v) :=
  fun _ _ _ H _ I h => ld_glob I hg hm ⟨v, H, I, r, h⟩ hd
theorem pe_bltn {x : Str} {v : V} {u : Value} {pos : Pos} (hg : Gl X x) (hm : X.mg x = none) (hv : bootBuiltins x = some u) (r : RelV v u) (hn : x ≠ "__name__" := by decide) (hd : (x == ("__debug__" : Str)) = false := by decide) : PE X (.Name x pos) (tC v) :=
  fun _ _ _ H _ I h => ld_blt I hg hm hv ⟨v, H, I, r, h⟩ hn hd
variable {a b : Expr} {ta tb : TE} {pos : Pos}
def PC (X : Cx) (op : CmpOp) (a b : Expr) (t : TE) : Prop :=
  ∀ (pins : List (Addr × Obj)) (s : Shared) (σ : St) (H : Hp) (Q : VK), Inv X pins σ H s → t σ H Q →
    wpAny (model X.prog X.w) X.A (eval a X.env) (fun v s₁ => wpAny (model X.prog X.w) X.A (eval b X.env) (fun u s₂ => wpAny (model X.prog X.w) X.A (compareOp op v u) (EP X pins σ Q) X.xe s₂) X.xe s₁) X.xe s
theorem nobehind (b : Expr) {op : CmpOp} (h : op ≠ .In) (h2 : op ≠ .NotIn) : behindInMarks op b = false := by
  have e1 : (op == CmpOp.In) = false := by cases op <;> first | rfl | exact absurd rfl h
  have e2 : (op == CmpOp.NotIn) = false := by cases op <;> first | rfl | exact absurd rfl h2
  cases b <;> simp [behindInMarks, e1, e2]
def tIsN (ta : TE) : TE := fun σ H Q => ta σ H fun x H1 => Q (.bl (decide (x = .non))) H1
def tNotN (ta : TE) : TE := fun σ H Q => ta σ H fun x H1 => Q (.bl (!decide (x = .non))) H1
theorem RelV.none_iff {x : V} {v : Value} (r : RelV x v) : (v == Value.none) = decide (x = .non) := by
  cases x with
  | non => cases r; rfl
  | bl _ => cases r; rfl
  | int _ => obtain ⟨t, rfl⟩ := r; rfl
  | str _ => obtain ⟨t, rfl⟩ := r; rfl
  | byt _ => obtain ⟨t, rfl⟩ := r; rfl
  | flt _ => obtain ⟨t, rfl⟩ := r; rfl
  | ref _ => cases r; rfl
  | ty _ => cases r; rfl
theorem pc_isN {j pos'} (ha : PE X a ta) : PC X .Is a (.Constant .none j pos') (tIsN ta) := by
  intro pins s σ H Q I h
  refine thn (ha pins s σ H _ I h) fun v s1 ⟨x, H1, I1, r1, q1⟩ => ?_
  exact Constant_none (is_none_gen ⟨.bl _, H1, I1, by rw [r1.none_iff]; rfl, q1⟩)
theorem pc_notN {j pos'} (ha : PE X a ta) : PC X .IsNot a (.Constant .none j pos') (tNotN ta) := by
  intro pins s σ H Q I h
  refine thn (ha pins s σ H _ I h) fun v s1 ⟨x, H1, I1, r1, q1⟩ => ?_
  exact Constant_none (isnot_none_gen ⟨.bl _, H1, I1, by rw [r1.none_iff]; rfl, q1⟩)
def tB (t : TE) : TT := fun σ H Q => t σ H fun x H1 => ∃ c, x = .bl c ∧ Q c H1
theorem pt_cmp {op : CmpOp} {t : TE} (h : PC X op a b t) (h1 : behindInMarks op b = false := by first | exact nobehind _ (by decide) (by decide) | rfl) : PT X (.Compare a [op] [b] pos) (tB t) := by
  intro pins s σ H Q I hw
  refine wpAny_isTrue_Compare1 (thn (h pins s σ H _ I hw) fun v s1 h1 => thn h1 fun u s2 h2 => thn h2 fun c s3 ⟨x, H1, I1, r1, q1⟩ => ?_) h1
  obtain ⟨d, rfl, q⟩ := q1
  cases r1
  exact wpAny_truthy_bool ⟨H1, I1, q⟩
theorem pt_val {e : Expr} {t : TE} (h : PE X e t) (he : ∀ whole, isTrue e X.env whole = (do let v ← whole; standAt e.pos; holding [v] (truthy v)) := by intro _; rfl) : PT X e (tB t) := by
  intro pins s σ H Q I hw
  refine isTrue_plain (thn (h pins s σ H _ I hw) fun v s1 ⟨x, H1, I1, r1, q1⟩ => ?_) (he _)
  obtain ⟨d, rfl, q⟩ := q1
  cases r1
  exact wpAny_truthy_bool ⟨H1, I1, q⟩
variable {tA tB' : TT} {rest : List Expr}
def tOr (t u : TT) : TT := fun σ H Q => t σ H fun c H1 => if c = true then Q true H1 else u σ H1 Q
def tNot (t : TT) : TT := fun σ H Q => t σ H fun c H1 => Q (!c) H1
theorem pw_or1 (ha : PT X a tA) : PW X (.BoolOp .Or [a] pos) tA := by
  intro wh pins s σ H Q I h
  refine isTrue_or (thn (ha pins s σ H Q I h) fun c s1 e => ?_)
  cases c with
  | false => exact isTrue_or_nil e
  | true => exact e
theorem pw_or (ha : PT X a tA) (hb : PW X (.BoolOp .Or (b :: rest) pos) tB') : PW X (.BoolOp .Or (a :: b :: rest) pos) (tOr tA tB') := by
  intro wh pins s σ H Q I h
  refine isTrue_or (thn (ha pins s σ H _ I h) fun c s1 ⟨H1, I1, q1⟩ => ?_)
  cases c with
  | true => exact ⟨H1, I1, q1⟩
  | false => exact hb wh pins s1 σ H1 Q I1 q1
theorem pt_not (ha : PT X a tA) : PT X (.UnaryOp .Not a pos) (tNot tA) := by
  intro pins s σ H Q I h
  exact isTrue_not (ha pins s σ H (fun c H1 => Q (!c) H1) I h)
def tAndV (ta tb : TE) : TE := fun σ H Q => ta σ H fun x H1 => ∃ c, x = .bl c ∧ if c = true then tb σ H1 Q else Q (.bl false) H1
def tNotV (ta : TE) : TE := fun σ H Q => ta σ H fun x H1 => ∃ c, x = .bl c ∧ Q (.bl (!c)) H1
theorem pe_one {op} {t : TE} (h : PE X a t) : PE X (.BoolOp op [a] pos) t := fun pins s σ H Q I hw => BoolOp_one (h pins s σ H Q I hw)
theorem pe_and (ha : PE X a ta) (hb : PE X (.BoolOp .And (b :: rest) pos) tb) : PE X (.BoolOp .And (a :: b :: rest) pos) (tAndV ta tb) := by
  intro pins s σ H Q I h
  refine BoolOp_and (thn (ha pins s σ H _ I h) fun v s1 ⟨x, H1, I1, r1, q1⟩ => ?_)
  obtain ⟨c, rfl, q1⟩ := q1
  cases r1
  refine wpAny_truthy_bool ?_
  cases c with
  | true => exact hb pins s1 σ H1 Q I1 q1
  | false => exact ⟨.bl false, H1, I1, rfl, q1⟩
theorem pe_not (ha : PE X a ta) : PE X (.UnaryOp .Not a pos) (tNotV ta) := by
  intro pins s σ H Q I h
  refine UnaryOp_ (thn (ha pins s σ H _ I h) fun v s1 ⟨x, H1, I1, r1, q1⟩ => ?_)
  obtain ⟨c, rfl, q1⟩ := q1
  cases r1
  exact not_of (wpAny_truthy_bool ⟨.bl (!c), H1, I1, rfl, q1⟩)
def tIf (t : TT) (ta tb : TE) : TE := fun σ H Q => t σ H fun c H1 => if c = true then ta σ H1 Q else tb σ H1 Q
theorem pe_ifExp {c : Expr} (hc : PT X c tA) (ha : PE X a ta) (hb : PE X b tb) : PE X (.IfExp c a b pos) (tIf tA ta tb) := by
  intro pins s σ H Q I h
  refine wpAny_IfExp (thn (hc pins s σ H _ I h) fun d s1 ⟨H1, I1, q1⟩ => ?_)
  cases d with
  | true => exact ha pins s1 σ H1 Q I1 q1
  | false => exact hb pins s1 σ H1 Q I1 q1
end
end L2
namespace L2
open PySem PySem.Spec PyProof.Rows
def SqL (K : PySem.W.Frag) (H : Hp) (a : Addr) (xs : List V) : Prop :=
  Rd H a (.lst xs) ∨
    ∃ (o : Obj) (its : Array Value) (n : Nat), K.lookup a = some o ∧ o.cls = .type "list" ∧ o.dict = none ∧ o.data = .seq its n ∧ its.size ≤ sizeLine ∧ Vals xs its.toList
def SqT (K : PySem.W.Frag) (H : Hp) (a : Addr) (xs : List V) : Prop :=
  Rd H a (.tup xs) ∨
    ∃ (o : Obj) (its : Array Value) (n : Nat), K.lookup a = some o ∧ o.cls = .type "tuple" ∧ o.data = .seq its n ∧ its.size ≤ sizeLine ∧ Vals xs its.toList
def absV : Value → Option V
  | .none => some .non
  | .bool b => some (.bl b)
  | .int i _ => some (.int i)
  | .str x _ => some (.str x)
  | .bytes b _ => some (.byt b)
  | .float b _ => some (.flt b)
  | .ref a => some (.ref a)
  | .type n => some (.ty n)
  | _ => none
theorem RelV.abs {x : V} {u : Value} (r : RelV x u) : absV u = some x := by
  cases x with
  | non => cases r; rfl
  | bl _ => cases r; rfl
  | int _ => obtain ⟨t, rfl⟩ := r; rfl
  | str _ => obtain ⟨t, rfl⟩ := r; rfl
  | byt _ => obtain ⟨t, rfl⟩ := r; rfl
  | flt _ => obtain ⟨t, rfl⟩ := r; rfl
  | ref _ => cases r; rfl
  | ty _ => cases r; rfl
theorem RelV.inj {x y : V} {u : Value} (r : RelV x u) (q : RelV y u) : x = y := Option.some.inj (r.abs.symm.trans q.abs)
theorem Vals.inj : ∀ {xs ys : List V} {us : List Value}, Vals xs us → Vals ys us → xs = ys
  | _, _, _, .nil, .nil => rfl
  | _, _, _, .cons r t, .cons r' t' => by rw [r.inj r', Vals.inj t t']
section
variable {X : Cx} {pins : List (Addr × Obj)} {σ : St} {H : Hp} {s : Shared} {a : Addr} {xs ys : List V}
theorem SqL.of {K : PySem.W.Frag} (h : H a = some (.lst xs)) : SqL K H a xs := .inl (.inl h)
theorem SqT.of {K : PySem.W.Frag} (h : H a = some (.tup xs)) : SqT K H a xs := .inl (.inl h)
theorem Inv.list (I : Inv X pins σ H s) (h : SqL X.K H a xs) : ∃ its : List Value, Vals xs its ∧ PlainL s.heap a its.toArray ∧ xs.length ≤ sizeLine := by
  rcases h with h | ⟨o, its, n, hk, hc, hd, hs, hz, r⟩
  · obtain ⟨z, its, n, r, e⟩ := h.ok I.hok
    exact ⟨its, r, ⟨_, n, e, rfl, rfl, rfl⟩, z⟩
  · refine ⟨its.toList, r, ⟨o, n, I.kIn a o hk, hc, hd, by simpa using hs⟩, ?_⟩
    have e := r.length
    simp only [Array.length_toList] at e
    omega
theorem Inv.tuple (I : Inv X pins σ H s) (h : SqT X.K H a xs) : ∃ its : List Value, Vals xs its ∧ IsTup s.heap a its.toArray ∧ xs.length ≤ sizeLine := by
  rcases h with h | ⟨o, its, n, hk, hc, hs, hz, r⟩
  · obtain ⟨z, its, r, p⟩ := h.ok I.hok
    exact ⟨its, r, p, z⟩
  · refine ⟨its.toList, r, ⟨o, I.kIn a o hk, hc, n, by simpa using hs⟩, ?_⟩
    have e := r.length
    simp only [Array.length_toList] at e
    omega
theorem Inv.list_inj (I : Inv X pins σ H s) (h : SqL X.K H a xs) (h' : SqL X.K H a ys) : xs = ys := by
  obtain ⟨its, r, ⟨o, n, e, _, _, d⟩, _⟩ := I.list h
  obtain ⟨its', r', ⟨o', n', e', _, _, d'⟩, _⟩ := I.list h'
  rw [e] at e'; cases e'
  rw [d] at d'
  injection d' with d1 _
  have : its = its' := by simpa using congrArg Array.toList d1
  subst this
  exact r.inj r'
theorem Inv.tuple_inj (I : Inv X pins σ H s) (h : SqT X.K H a xs) (h' : SqT X.K H a ys) : xs = ys := by
  obtain ⟨its, r, ⟨o, e, _, n, d⟩, _⟩ := I.tuple h
  obtain ⟨its', r', ⟨o', e', _, n', d'⟩, _⟩ := I.tuple h'
  rw [e] at e'; cases e'
  rw [d] at d'
  injection d' with d1 _
  have : its = its' := by simpa using congrArg Array.toList d1
  subst this
  exact r.inj r'
end
abbrev Cx.wish (X : Cx) (E : Value → Shared → Prop) : Cx := { X with xe := E }
abbrev Cx.nox (X : Cx) : Cx := X.wish fun _ _ => False
theorem Cx.Ok.wish {X : Cx} (ok : X.Ok) (E : Value → Shared → Prop) : (X.wish E).Ok :=
  ⟨ok.mod, ok.kind, ok.glob, ok.blt, ok.above, ok.inj, ok.has, ok.cab, ok.hd, ok.frames, ok.stk, ok.exf, ok.bs, ok.bsz, ok.noex, ok.exfs, ok.funs, ok.frf⟩
theorem Cx.Ok.unwish {X : Cx} {E : Value → Shared → Prop} (ok : (X.wish E).Ok) : X.Ok :=
  ⟨ok.mod, ok.kind, ok.glob, ok.blt, ok.above, ok.inj, ok.has, ok.cab, ok.hd, ok.frames, ok.stk, ok.exf, ok.bs, ok.bsz, ok.noex, ok.exfs, ok.funs, ok.frf⟩
section
variable {X : Cx} {pins : List (Addr × Obj)} {σ : St} {H : Hp} {s : Shared} {E : Value → Shared → Prop}
theorem Inv.wish (I : Inv X pins σ H s) (E : Value → Shared → Prop) : Inv (X.wish E) pins σ H s := ⟨I.ok.wish E, I.os, I.bare, I.base, I.loc, I.cell, I.free, I.freeC, I.pin, I.hok, I.len⟩
theorem Inv.unwish (I : Inv (X.wish E) pins σ H s) : Inv X pins σ H s := ⟨I.ok.unwish, I.os, I.bare, I.base, I.loc, I.cell, I.free, I.freeC, I.pin, I.hok, I.len⟩
theorem SP.unwish {D : Ends} {f : Flow} {s' : Shared} (h : SP (X.wish E) pins D f s') : SP X pins D f s' := by
  cases f with
  | next => obtain ⟨σ', H', I, q⟩ := h; exact ⟨σ', H', I.unwish, q⟩
  | brk => obtain ⟨σ', H', I, q⟩ := h; exact ⟨σ', H', I.unwish, q⟩
  | cont => obtain ⟨σ', H', I, q⟩ := h; exact ⟨σ', H', I.unwish, q⟩
  | ret u => obtain ⟨v, σ', H', I, r, q⟩ := h; exact ⟨v, σ', H', I.unwish, r, q⟩
theorem PE.nox {e : Expr} {t : TE} (h : PE X.nox e t) : PE X e t := fun pins s σ H Q I hw =>
  wpAny_mono (h pins s σ H Q (I.wish _) hw) (fun _ _ ⟨v, H', I', r, q⟩ => ⟨v, H', I'.unwish, r, q⟩) fun _ _ z => False.elim z
theorem PT.nox {e : Expr} {t : TT} (h : PT X.nox e t) : PT X e t := fun pins s σ H Q I hw =>
  wpAny_mono (h pins s σ H Q (I.wish _) hw) (fun _ _ ⟨H', I', q⟩ => ⟨H', I'.unwish, q⟩) fun _ _ z => False.elim z
theorem PSs.nox {st : List Stmt} {t : TS} (h : PSs X.nox st t) : PSs X st t := fun pins s σ H D I hw =>
  wpAny_mono (h pins s σ H D (I.wish _) hw) (fun _ _ q => q.unwish) fun _ _ z => False.elim z
end
section
variable {X : Cx} {st : Stmt} {rest : List Stmt} {t u : TS} {e : Expr} {te : TE} {pos : Pos}
def tNext : TS := fun D σ H => D.nx σ H
def tSeq (t u : TS) : TS := fun D σ H => t { D with nx := u D } σ H
theorem pss_nil : PSs X [] tNext := fun _ _ σ H _ I h => wpAny_execs_nil ⟨σ, H, I, h⟩
theorem pss_cons (h1 : PS X st t) (h2 : PSs X rest u) : PSs X (st :: rest) (tSeq t u) := by
  intro pins s σ H D I h
  refine wpAny_execs_cons (thn (h1 pins s σ H { D with nx := u D } I h) fun f s1 q => ?_)
  cases f with
  | next =>
    obtain ⟨σ', H', I', q⟩ := q
    exact h2 pins s1 σ' H' D I' q
  | ret v => exact q
  | brk => exact q
  | cont => exact q
theorem pss_one (h1 : PS X st t) : PSs X [st] t := by
  intro pins s σ H D I h
  refine wpAny_execs_cons (thn (h1 pins s σ H D I h) fun f s1 q => ?_)
  cases f with
  | next => exact wpAny_execs_nil q
  | ret v => exact q
  | brk => exact q
  | cont => exact q
theorem Inv.quiet {pins : List (Addr × Obj)} {σ : St} {H : Hp} {s : Shared} (I : Inv X pins σ H s) : interactive X.env = false := by simp [interactive, I.ok.kind]
def tDrop (te : TE) : TS := fun D σ H => te σ H fun _ H1 => D.nx σ H1
theorem ps_expr (he : PE X e te) (hs : swapsWith e none pos.line X.env = pure false := by rfl) : PS X (.Expr e pos) (tDrop te) := by
  intro pins s σ H D I h
  exact wpAny_Expr_any (thn (he pins s σ H _ I h) fun v s1 ⟨x, H1, I1, r1, q1⟩ => ⟨σ, H1, I1, q1⟩) I.quiet hs
def tRet (te : TE) : TS := fun D σ H => te σ H D.rt
theorem ps_ret (he : PE X e te) : PS X (.Return (some e) pos) (tRet te) := by
  intro pins s σ H D I h
  exact wpAny_Return_some (thn (he pins s σ H _ I h) fun v s1 ⟨x, H1, I1, r1, q1⟩ => ⟨x, σ, H1, I1, r1, q1⟩)
def tIfS (c : TT) (t u : TS) : TS := fun D σ H => c σ H fun b H1 => if b = true then t D σ H1 else u D σ H1
theorem ps_if {c : Expr} {a b : List Stmt} {tc : TT} (hc : PT X c tc) (ha : PSs X a t) (hb : PSs X b u) : PS X (.If c a b pos) (tIfS tc t u) := by
  intro pins s σ H D I h
  refine wpAny_If (thn (hc pins s σ H _ I h) fun d s1 ⟨H1, I1, q1⟩ => ?_)
  cases d with
  | true => exact ha pins s1 σ H1 D I1 q1
  | false => exact hb pins s1 σ H1 D I1 q1
end
abbrev TG := V → St → Hp → (St → Hp → Prop) → Prop
abbrev TGs := List V → St → Hp → (St → Hp → Prop) → Prop
def PG (X : Cx) (target : Expr) (t : TG) : Prop :=
  ∀ (pins : List (Addr × Obj)) (s : Shared) (σ : St) (H : Hp) (v : V) (u : Value) (Q : St → Hp → Prop), Inv X pins σ H s → RelV v u → t v σ H Q →
    wpAny (model X.prog X.w) X.A (assign target X.env u) (fun _ s' => ∃ σ' H', Inv X pins σ' H' s' ∧ Q σ' H') X.xe s
def PGs (X : Cx) (ts : List Expr) (t : TGs) : Prop :=
  ∀ (pins : List (Addr × Obj)) (s : Shared) (σ : St) (H : Hp) (vs : List V) (us : List Value) (Q : St → Hp → Prop), Inv X pins σ H s → Vals vs us → t vs σ H Q →
    wpAny (model X.prog X.w) X.A (assignInOrder ((assignEach ts X.env).map (·.2)) us) (fun _ s' => ∃ σ' H', Inv X pins σ' H' s' ∧ Q σ' H') X.xe s
abbrev TSet := V → V → V → Hp → (Hp → Prop) → Prop
def PSet (X : Cx) (t : TSet) : Prop :=
  ∀ (pins : List (Addr × Obj)) (s : Shared) (σ : St) (H : Hp) (o i v : V) (ov iv u : Value) (Q : Hp → Prop), Inv X pins σ H s → RelV o ov → RelV i iv → RelV v u → t o i v H Q →
    wpAny (model X.prog X.w) X.A (setItem ov iv u) (fun _ s' => ∃ H', Inv X pins σ H' s' ∧ Q H') X.xe s
abbrev TIp := V → V → Hp → VK → Prop
def PIp (X : Cx) (op : Operator) (t : TIp) : Prop :=
  ∀ (pins : List (Addr × Obj)) (s : Shared) (σ : St) (H : Hp) (x y : V) (v u : Value) (Q : VK), Inv X pins σ H s → RelV x v → RelV y u → t x y H Q →
    wpAny (model X.prog X.w) X.A (inplaceOp op v u) (EP X pins σ Q) X.xe s
section
variable {X : Cx} {pos : Pos}
def gName (i : Nat) : TG := fun v σ H Q => Q (σ.set i (some v)) H
theorem pg_name {i : Nat} {x : Str} (hN : X.N.Nodup) (hi : X.N[i]? = some x) (hx : Loc X.env.scope x) (hf : X.fn x = true ∨ X.env.scope.names.lookup x = some .local := by first | exact .inl rfl | exact .inr rfl | assumption) : PG X (.Name x pos) (gName i) := by
  intro pins s σ H v u Q I r h
  exact wpAny_assign_Name (store_ok I hN hi hx r (fun s' I' => ⟨_, H, I', h⟩) hf)
def gNil : TGs := fun vs σ H Q => vs = [] ∧ Q σ H
def gCons (t : TG) (u : TGs) : TGs := fun vs σ H Q => ∃ v r, vs = v :: r ∧ t v σ H fun σ' H' => u r σ' H' Q
theorem pgs_nil : PGs X [] gNil := by
  intro pins s σ H vs us Q I r h
  obtain ⟨e, h⟩ := h
  subst e
  cases r
  exact assignInOrder_nil ⟨σ, H, I, h⟩
theorem pgs_cons {e : Expr} {es : List Expr} {t : TG} {u : TGs} (h1 : PG X e t) (h2 : PGs X es u)
    (hs : (assignEach (e :: es) X.env).map (·.2) = assign e X.env :: (assignEach es X.env).map (·.2) := by rfl) : PGs X (e :: es) (gCons t u) := by
  intro pins s σ H vs us Q I r h
  obtain ⟨v, vr, e1, h⟩ := h
  subst e1
  cases r with
  | cons r rr =>
    rw [hs]
    refine assignInOrder_cons (thn (h1 pins s σ H _ _ _ I r h) fun _ s1 ⟨σ1, H1, I1, q1⟩ => ?_)
    exact h2 pins s1 σ1 H1 _ _ Q I1 rr q1
def gTup (K : PySem.W.Frag) (n : Nat) (t : TGs) : TG := fun v σ H Q => ∃ a xs, v = .ref a ∧ SqT K H a xs ∧ xs.length = n ∧ t xs σ H Q
theorem pg_tup {es : List Expr} {k : Nat} {t : TGs} {n : Nat} (hc : X.calm = true) (h : PGs X es t)
    (hn : (assignEach es X.env).length = n := by rfl) (hst : (assignEach es X.env).findIdx? (·.1) = none := by rfl) : PG X (.Tuple es k pos) (gTup X.K n t) := by
  intro pins s σ H v u Q I r hw
  obtain ⟨a, xs, e1, hq, hl, hw⟩ := hw
  subst e1
  cases r
  obtain ⟨its, rv, ht, hz⟩ := I.tuple hq
  refine assign_Tuple_tuple (I.ok.hd hc) ht (by simp [hn, ← hl, rv.length]) hst fun h' hx => ?_
  have I1 : Inv X pins σ H { s with heap := h' } := I.kept (t' := s.toks) fun b o e => hx b o (Nat.ne_of_lt (Heap.lt_size e)) e
  exact h pins _ σ H xs _ Q I1 (by simpa using rv) hw
def tAsg (te : TE) (g : TG) : TS := fun D σ H => te σ H fun x H1 => g x σ H1 D.nx
theorem ps_set {i : Nat} {x : Str} {e : Expr} {te : TE} {pos' : Pos} (hN : X.N.Nodup) (hi : X.N[i]? = some x) (hx : Loc X.env.scope x) (he : PE X e te) (hs : swapsWith e (some (.Name x pos')) pos.line X.env = pure false := by rfl) (hf : X.fn x = true ∨ X.env.scope.names.lookup x = some .local := by first | exact .inl rfl | exact .inr rfl | assumption) :
    PS X (.Assign [.Name x pos'] e pos) (tAsg te (gName i)) := by
  intro pins s σ H D I h
  refine wpAny_Assign_Name (thn (he pins s σ H _ I h) fun v s1 ⟨y, H1, I1, r1, q1⟩ => ?_) hs
  exact store_ok I1 hN hi hx r1 (fun s2 I2 => ⟨_, H1, I2, q1⟩) hf
def tAug (i : Nat) (te : TE) (ti : TIp) : TS := fun D σ H => ∃ x, σ[i]? = some (some x) ∧ te σ H fun y H1 => ti x y H1 fun z H2 => D.nx (σ.set i (some z)) H2
theorem ps_aug {i : Nat} {x : Str} {e : Expr} {te : TE} {op : Operator} {ti : TIp} {pos' : Pos} (hN : X.N.Nodup) (hi : X.N[i]? = some x) (hx : Loc X.env.scope x) (he : PE X e te) (ho : PIp X op ti) (hf : X.fn x = true ∨ X.env.scope.names.lookup x = some .local := by first | exact .inl rfl | exact .inr rfl | assumption) :
    PS X (.AugAssign (.Name x pos') op e pos) (tAug i te ti) := by
  intro pins s σ H D I h
  obtain ⟨v, e1, h⟩ := h
  obtain ⟨m, hn, hl⟩ := I.loc
  have vis : Vis X.env.scope x := by rcases hx with k | k; exact .inl k; exact .inr (.inl k)
  obtain ⟨u, r, l⟩ := hl i x v hi e1 vis
  refine wpAny_AugAssign_Name ?_
  have go : wpAny (model X.prog X.w) X.A (eval e X.env) (fun w s₂ => wpAny (model X.prog X.w) X.A (inplaceOp op u w) (fun r s₃ => wpAny (model X.prog X.w) X.A (storeName X.env x r) (fun _ => SP X pins D .next) X.xe s₃) X.xe s₂) X.xe s := by
    refine thn (he pins s σ H _ I h) fun w s1 ⟨y, H1, I1, r1, q1⟩ => ?_
    refine thn (ho pins s1 σ H1 v y u w _ I1 r r1 q1) fun z s2 ⟨zv, H2, I2, r2, q2⟩ => ?_
    exact store_ok I2 hN hi hx r2 (fun s3 I3 => ⟨_, H2, I3, q2⟩) hf
  rcases l with ⟨hk, hm⟩ | ⟨hk, c, hc, hcell⟩
  · exact wpAny_loadName_local I.ok.kind hk hn hm go
  · rcases hk with hk | hk
    · exact wpAny_loadName_cell I.ok.kind hk hc hcell go
    · rcases hx with k | k
      · have : X.env.scope.names.lookup x = some .free := hk
        rw [k] at this; cases this
      · have : X.env.scope.names.lookup x = some .free := hk
        rw [k] at this; cases this
def tAugS (to ti te : TE) (tget : V → V → Hp → VK → Prop) (tip : TIp) (tset : TSet) : TS := fun D σ H => to σ H fun o H1 => ti σ H1 fun i H2 => tget o i H2 fun x H3 => te σ H3 fun y H4 => tip x y H4 fun z H5 => tset o i z H5 fun H6 => D.nx σ H6
def PGet (X : Cx) (t : V → V → Hp → VK → Prop) : Prop :=
  ∀ (pins : List (Addr × Obj)) (s : Shared) (σ : St) (H : Hp) (o i : V) (ov iv : Value) (Q : VK), Inv X pins σ H s → RelV o ov → RelV i iv → t o i H Q →
    wpAny (model X.prog X.w) X.A (getItem ov iv) (EP X pins σ Q) X.xe s
theorem ps_augS {o i e : Expr} {to ti te : TE} {tget : V → V → Hp → VK → Prop} {tip : TIp} {tset : TSet} {op : Operator} {tpos : Pos} (ho : PE X o to) (hi : PE X i ti) (hg : PGet X tget) (he : PE X e te) (hp : PIp X op tip) (hs : PSet X tset)
    (ha : ∀ ov iv new, augStore i ov iv new = (do holding [new, ov, iv] (setItem ov iv new); release [new, ov, iv] []; pure .next) := by intros; rfl) : PS X (.AugAssign (.Subscript o i tpos) op e pos) (tAugS to ti te tget tip tset) := by
  intro pins s σ H D I h
  refine wpAny_AugAssign_SubscriptAny (thn (ho pins s σ H _ I h) fun ov s1 ⟨x1, H1, I1, r1, q1⟩ => ?_) ha
  refine thn (hi pins s1 σ H1 _ I1 q1) fun iv s2 ⟨x2, H2, I2, r2, q2⟩ => ?_
  refine thn (hg pins s2 σ H2 x1 x2 ov iv _ I2 r1 r2 q2) fun old s3 ⟨x3, H3, I3, r3, q3⟩ => ?_
  refine thn (he pins s3 σ H3 _ I3 q3) fun v s4 ⟨x4, H4, I4, r4, q4⟩ => ?_
  refine thn (hp pins s4 σ H4 x3 x4 old v _ I4 r3 r4 q4) fun new s5 ⟨x5, H5, I5, r5, q5⟩ => ?_
  exact thn (hs pins s5 σ H5 x1 x2 x5 ov iv new _ I5 r1 r2 r5 q5) fun _ s6 ⟨H6, I6, q6⟩ => ⟨σ, H6, I6, q6⟩
def ipI (f : Int → Int → Int) : TIp := fun x y H Q => ∃ i j, x = .int i ∧ y = .int j ∧ Q (.int (f i j)) H
theorem ip_add : PIp X .Add (ipI fun i j => i + j) := by
  intro pins s σ H x y v u Q I r1 r2 h
  obtain ⟨i, j, e1, e2, q⟩ := h
  subst e1; subst e2
  obtain ⟨t, rfl⟩ := r1
  obtain ⟨t', rfl⟩ := r2
  exact iadd_int ⟨.int _, H, I.tok _, ⟨_, rfl⟩, q⟩
end
section
variable {X : Cx} {pos : Pos}
def tWhile (c : TT) (tb : TS) : TS := fun D σ H => ∃ W : Nat → St → Hp → Prop, (∃ m, W m σ H) ∧ ∀ m σ H, W m σ H →
  c σ H fun b H1 => if b = true then ∃ N : St → Hp → Prop, (∀ σ' H', N σ' H' → ∃ m', m' < m ∧ W m' σ' H') ∧ tb { D with nx := N, ct := N, bk := D.nx } σ H1 else D.nx σ H1
theorem ps_while {c : Expr} {body : List Stmt} {tc : TT} {tb : TS} (hp : PassesOwn (model X.prog X.w) X.A X.env X.xe) (hc : PT X c tc) (hb : PSs X body tb) : PS X (.While c body [] pos) (tWhile tc tb) := by
  intro pins s σ H D I h
  obtain ⟨W, ⟨m0, w0⟩, turn⟩ := h
  refine wpAny_While (codeAny_whileLoop (fun n s' => ∃ σ' H', Inv X pins σ' H' s' ∧ W n σ' H') ?_ m0 ⟨σ, H, I, w0⟩)
  rintro n s1 ⟨σ1, H1, I1, w1⟩
  refine wpAny_passesOwn hp (thn (hc pins s1 σ1 H1 _ I1 (turn n σ1 H1 w1)) fun b s2 ⟨H2, I2, q2⟩ => ?_)
  cases b with
  | true =>
    obtain ⟨N, hN, q2⟩ := q2
    rw [if_pos rfl]
    refine wpAny_passesOwn hp (thn (hb pins s2 σ1 H2 _ I2 q2) fun f s3 q3 => ?_)
    cases f with
    | next =>
      obtain ⟨σ3, H3, I3, n3⟩ := q3
      obtain ⟨m', hm, w3⟩ := hN σ3 H3 n3
      exact ⟨m', hm, σ3, H3, I3, w3⟩
    | cont =>
      obtain ⟨σ3, H3, I3, n3⟩ := q3
      obtain ⟨m', hm, w3⟩ := hN σ3 H3 n3
      exact ⟨m', hm, σ3, H3, I3, w3⟩
    | brk => exact q3
    | ret v => exact q3
  | false =>
    rw [if_neg Bool.false_ne_true]
    exact wpAny_execs_nil ⟨σ1, H2, I2, q2⟩
end
structure It where
  go : Nat → Hp → Prop
  yld : Nat → Hp → V → Hp → Prop
  stop : Nat → Hp → Prop
def FpOk (X : Cx) (pins : List (Addr × Obj)) (H : Hp) (b : Addr) : Prop :=
  H b = none ∧ b ≠ X.env.locals ∧ b ∉ X.fs ∧ (b ∈ X.ex ∨ X.s₀.heap.objs.size ≤ b) ∧ (∀ x c, X.env.cells.lookup x = some c → c ≠ b) ∧ ∀ p ∈ X.pn ++ pins, p.1 ≠ b
theorem Inv.fpOk {X : Cx} {pins : List (Addr × Obj)} {σ : St} {H H' : Hp} {s : Shared} {b : Addr} (I : Inv X pins σ H s) (hb : s.heap.objs.size ≤ b) (hn : H' b = none) : FpOk X pins H' b := by
  refine ⟨hn, Nat.ne_of_gt (Nat.lt_of_lt_of_le I.lt hb), I.nofs hb, .inr (Nat.le_trans I.sz hb), fun x c e z => ?_, fun p hp z => ?_⟩
  · obtain ⟨v, q⟩ := I.cell x c e
    exact absurd (Nat.lt_of_lt_of_le q.lt (by rw [z]; exact hb)) (Nat.lt_irrefl _)
  · exact absurd (Nat.lt_of_lt_of_le (Heap.lt_size (I.pin p hp).1) (by rw [z]; exact hb)) (Nat.lt_irrefl _)
structure Turn (P : Program) (w : World) (K : PySem.W.Frag) (tg : Expr) (J : It) (fp : List Addr) (it : Addr) (tn : Nat → Heap → Prop) : Prop where
  mem : it ∈ fp
  obj : ∀ i h, tn i h → ∀ b ∈ fp, ∃ o, h.get? b = some o ∧ ∀ v, o.data ≠ .cell v
  keep : ∀ i h h', tn i h → (∀ b ∈ fp, ∀ o, h.get? b = some o → h'.get? b = some o) → tn i h'
  item : ∀ (X : Cx), X.prog = P → X.w = w → X.K = K → X.calm = true → ∀ (i : Nat) (pins : List (Addr × Obj)) (s : Shared) (σ : St) (H : Hp) (E : Value → Shared → Prop), Inv X pins σ H s → (∀ b ∈ fp, FpOk X pins H b) → tn i s.heap → J.go i H →
    wpAny (model P w) X.A (pyNext (.ref it)) (fun r s1 => ∃ u, r = some u ∧
      wpAny (model P w) X.A (letOwnedTupleGo tg (.ref it) u) (fun _ s2 => ∃ x H', Inv X pins σ H' s2 ∧ RelV x u ∧ J.yld i H x H' ∧ tn (i + 1) s2.heap ∧ ∀ b ∈ fp, H' b = none) E s1) E s
  done : ∀ (X : Cx), X.prog = P → X.w = w → X.K = K → X.calm = true → ∀ (i : Nat) (pins : List (Addr × Obj)) (s : Shared) (σ : St) (H : Hp) (E : Value → Shared → Prop), Inv X pins σ H s → (∀ b ∈ fp, FpOk X pins H b) → tn i s.heap → J.stop i H →
    wpAny (model P w) X.A (pyNext (.ref it)) (fun r s1 => r = none ∧ Inv X pins σ H s1) E s
  self : ∀ (A : Around) (i : Nat) (s : Shared) (Q : Value → Shared → Prop) (E : Value → Shared → Prop), tn i s.heap → Q (.ref it) s → wpAny (model P w) A (pyIter (.ref it)) Q E s
abbrev TI := St → Hp → (It → Hp → Prop) → Prop
def PIE (X : Cx) (pins : List (Addr × Obj)) (σ : St) (tg : Expr) (R : It → Hp → Prop) (itv : Value) (s2 : Shared) : Prop :=
  ∃ (it : Addr) (fp : List Addr) (tn : Nat → Heap → Prop) (J : It) (H' : Hp), itv = .ref it ∧ Inv X pins σ H' s2 ∧ Turn X.prog X.w X.K tg J fp it tn ∧ tn 0 s2.heap ∧ (∀ b ∈ fp, FpOk X pins H' b) ∧ R J H'
def PI (X : Cx) (tg iter : Expr) (wi : TI) : Prop :=
  ∀ (pins : List (Addr × Obj)) (s : Shared) (σ : St) (H : Hp) (R : It → Hp → Prop), Inv X pins σ H s → wi σ H R →
    wpAny (model X.prog X.w) X.A (eval iter X.env) (fun v s1 => wpAny (model X.prog X.w) X.A (pyIter v) (PIE X pins σ tg R) X.xe s1) X.xe s
theorem go_of {M : Model} {A : Around} {E : Value → Shared → Prop} {s : Shared} {tg : Expr} {it : Addr} {u : Value} {o : Obj} {n : String} {vs : Array Value} {Q : Unit → Shared → Prop} (ho : s.heap.get? it = some o) (hc : o.cls = .type n) (hd : o.data = .fields vs)
    (hn : ["enumerate", "zip", "dict_itemiterator", "dict_reverseitemiterator", "odict_iterator", "itertools.zip_longest", "itertools.pairwise"].contains n = false) (hQ : Q () s) : wpAny M A (letOwnedTupleGo tg (.ref it) u) Q E s := by
  unfold letOwnedTupleGo
  cases tg <;> first
    | exact wpAny_pure hQ
    | (cases u <;> first
        | exact wpAny_pure hQ
        | (refine wpAny_bind (wpAny_load ho ?_)
           rw [hc, hd]
           show wpAny M A (if (["enumerate", "zip", "dict_itemiterator", "dict_reverseitemiterator", "odict_iterator", "itertools.zip_longest", "itertools.pairwise"].contains n && vs[0]? == some (rawInt _)) = true then _ else _) Q E s
           rw [if_neg (by intro h; rw [hn, Bool.false_and] at h; cases h)]
           exact wpAny_pure hQ))
def Itl (K : PySem.W.Frag) (a : Addr) : It :=
  ⟨fun i H => ∃ xs x, SqL K H a xs ∧ xs[i]? = some x, fun i H x H' => H' = H ∧ ∀ xs, SqL K H a xs → xs[i]? = some x, fun i H => ∃ xs, SqL K H a xs ∧ xs.length ≤ i⟩
def Itt (K : PySem.W.Frag) (a : Addr) : It :=
  ⟨fun i H => ∃ xs x, SqT K H a xs ∧ xs[i]? = some x, fun i H x H' => H' = H ∧ ∀ xs, SqT K H a xs → xs[i]? = some x, fun i H => ∃ xs, SqT K H a xs ∧ xs.length ≤ i⟩
def Itr (lo : Int) (n : Nat) : It := ⟨fun i _ => i < n, fun i H x H' => H' = H ∧ x = .int (lo + i), fun i _ => n ≤ i⟩
theorem turn_list {P : Program} {w : World} {K : PySem.W.Frag} {tg : Expr} (a it : Addr) : Turn P w K tg (Itl K a) [it] it (fun i h => h.IsListIter it a i) where
  mem := by simp
  obj := fun i h st b hb => by
    have e : b = it := by simpa using hb
    subst e
    obtain ⟨o, e, c, d⟩ := st
    exact ⟨o, e, fun v z => by rw [d] at z; cases z⟩
  keep := fun i h h' st k => st.at fun o e => k it (by simp) o e
  item := by
    intro X hP hw hK hc i pins s σ H E I hf st hg
    subst hP hw hK
    obtain ⟨xs, x, hq, hx⟩ := hg
    obtain ⟨its, rv, p, hz⟩ := I.list hq
    obtain ⟨u, hu, ru⟩ := rv.get hx
    obtain ⟨f0, f1, f2, f3, f4, f5⟩ := hf it (by simp)
    refine wpAny_pyNext_list_item st p.isList (x := u) (by simpa using hu) fun h' st' sb => ?_
    have I1 : Inv X pins σ H { s with heap := h' } := I.turned (t' := s.toks) (fun b o hb e => (sb.2 b hb).trans e) f0 f1 f3 f4 f5
    obtain ⟨o, e, c, d⟩ := id st'
    exact ⟨u, rfl, go_of (s := { s with heap := h' }) e c d (by decide) ⟨x, H, I1, ru, ⟨rfl, fun ys hy => by rw [I.list_inj hy hq]; exact hx⟩, st', fun b hb => (hf b hb).1⟩⟩
  done := by
    intro X hP hw hK hc i pins s σ H E I hf st hg
    subst hP hw hK
    obtain ⟨xs, hq, hx⟩ := hg
    obtain ⟨its, rv, p, hz⟩ := I.list hq
    obtain ⟨f0, f1, f2, f3, f4, f5⟩ := hf it (by simp)
    have hl := rv.length
    exact wpAny_pyNext_list_end (I.ok.hd hc) st p.isList (by simp; omega) fun h' eb => ⟨rfl, I.turned (t' := s.toks) (fun b o hb e => eb b o hb e) f0 f1 f3 f4 f5⟩
  self := fun _ _ _ _ _ st h => wpAny_pyIter_listiter st h
theorem turn_tuple {P : Program} {w : World} {K : PySem.W.Frag} {tg : Expr} (a it : Addr) : Turn P w K tg (Itt K a) [it] it (fun i h => h.IsTupleIter it a i) where
  mem := by simp
  obj := fun i h st b hb => by
    have e : b = it := by simpa using hb
    subst e
    obtain ⟨o, e, c, d⟩ := st
    exact ⟨o, e, fun v z => by rw [d] at z; cases z⟩
  keep := fun i h h' st k => st.at fun o e => k it (by simp) o e
  item := by
    intro X hP hw hK hc i pins s σ H E I hf st hg
    subst hP hw hK
    obtain ⟨xs, x, hq, hx⟩ := hg
    obtain ⟨its, rv, p, hz⟩ := I.tuple hq
    obtain ⟨u, hu, ru⟩ := rv.get hx
    obtain ⟨f0, f1, f2, f3, f4, f5⟩ := hf it (by simp)
    refine wpAny_pyNext_tuple_item st (show s.heap.IsTuple a its.toArray from p) (x := u) (by simpa using hu) fun h' st' sb => ?_
    have I1 : Inv X pins σ H { s with heap := h' } := I.turned (t' := s.toks) (fun b o hb e => (sb.2 b hb).trans e) f0 f1 f3 f4 f5
    obtain ⟨o, e, c, d⟩ := id st'
    exact ⟨u, rfl, go_of (s := { s with heap := h' }) e c d (by decide) ⟨x, H, I1, ru, ⟨rfl, fun ys hy => by rw [I.tuple_inj hy hq]; exact hx⟩, st', fun b hb => (hf b hb).1⟩⟩
  done := by
    intro X hP hw hK hc i pins s σ H E I hf st hg
    subst hP hw hK
    obtain ⟨xs, hq, hx⟩ := hg
    obtain ⟨its, rv, p, hz⟩ := I.tuple hq
    obtain ⟨f0, f1, f2, f3, f4, f5⟩ := hf it (by simp)
    have hl := rv.length
    exact wpAny_pyNext_tuple_end (I.ok.hd hc) st (show s.heap.IsTuple a its.toArray from p) (by simp; omega) fun h' eb => ⟨rfl, I.turned (t' := s.toks) (fun b o hb e => eb b o hb e) f0 f1 f3 f4 f5⟩
  self := fun _ _ _ _ _ st h => wpAny_pyIter_tupleiter st h
theorem turn_range {P : Program} {w : World} {K : PySem.W.Frag} {tg : Expr} (it : Addr) (lo : Int) (n : Nat) : Turn P w K tg (Itr lo n) [it] it (fun i h => IsRangeIter h it (lo + (i : Nat) * 1) ((n : Int) - (i : Nat)) 1) where
  mem := by simp
  obj := fun i h st b hb => by
    have e : b = it := by simpa using hb
    subst e
    exact ⟨_, st, fun v z => by
      have z' : Data.fields _ = Data.cell v := z
      cases z'⟩
  keep := fun i h h' st k => k it (by simp) _ st
  item := by
    intro X hP hw hK hc i pins s σ H E I hf st hg
    subst hP hw hK
    obtain ⟨f0, f1, f2, f3, f4, f5⟩ := hf it (by simp)
    have W := Walks.range (prog := X.prog) (w := X.w) (I.ok.hd hc) it lo 1 n
    refine W.item i s _ _ hg st fun v h' tk hv st' kk => ?_
    obtain ⟨t, rfl⟩ := hv
    have I1 : Inv X pins σ H { s with heap := h', toks := tk } := I.turned (fun b o hb e => kk b o (by simpa using hb) e) f0 f1 f3 f4 f5
    refine ⟨_, rfl, go_of (s := { s with heap := h', toks := tk }) (n := "range_iterator") st' rfl rfl (by decide) ⟨.int (lo + i), H, I1, ⟨t, ?_⟩, ⟨rfl, rfl⟩, st', fun b hb => (hf b hb).1⟩⟩
    rw [Int.mul_one]
  done := by
    intro X hP hw hK hc i pins s σ H E I hf st hg
    subst hP hw hK
    obtain ⟨f0, f1, f2, f3, f4, f5⟩ := hf it (by simp)
    exact wpAny_pyNext_range_end (I.ok.hd hc) st (by have : n ≤ i := hg; omega) fun h' eb => ⟨rfl, I.turned (t' := s.toks) (fun b o hb e => eb b o hb e) f0 f1 f3 f4 f5⟩
  self := fun _ _ _ _ _ st h => wpAny_pyIter_rangeiter st h
end L2
namespace L2
open PySem PySem.Spec PyProof.Rows
section
variable {X : Cx} {tg : Expr}
def iList (K : PySem.W.Frag) (tl : TE) : TI := fun σ H R => tl σ H fun x H1 => ∃ a, x = .ref a ∧ (∃ xs, SqL K H1 a xs) ∧ R (Itl K a) H1
def iTup (K : PySem.W.Frag) (tl : TE) : TI := fun σ H R => tl σ H fun x H1 => ∃ a, x = .ref a ∧ (∃ xs, SqT K H1 a xs) ∧ R (Itt K a) H1
theorem pi_list {l : Expr} {tl : TE} (hl : PE X l tl) : PI X tg l (iList X.K tl) := by
  intro pins s σ H R I h
  refine thn (hl pins s σ H _ I h) fun v s1 ⟨x, H1, I1, r1, q1⟩ => ?_
  obtain ⟨a, e, ⟨xs, hq⟩, q⟩ := q1
  subst e
  cases r1
  obtain ⟨its, rv, p, hz⟩ := I1.list hq
  refine wpAny_pyIter_list p.isList ?_
  refine ⟨s1.heap.objs.size, [s1.heap.objs.size], _, _, H1, rfl, I1.kept (t' := s1.toks) fun b o e => Heap.get?_push_of_some _ e, turn_list a _, ⟨_, Heap.get?_push_size _ rfl, rfl, rfl⟩, fun b hb => ?_, q⟩
  have e : b = s1.heap.objs.size := by simpa using hb
  subst e
  exact I1.fpOk (Nat.le_refl _) (I1.hok.fresh (Nat.le_refl _))
theorem pi_tup {l : Expr} {tl : TE} (hl : PE X l tl) : PI X tg l (iTup X.K tl) := by
  intro pins s σ H R I h
  refine thn (hl pins s σ H _ I h) fun v s1 ⟨x, H1, I1, r1, q1⟩ => ?_
  obtain ⟨a, e, ⟨xs, hq⟩, q⟩ := q1
  subst e
  cases r1
  obtain ⟨its, rv, p, hz⟩ := I1.tuple hq
  refine wpAny_pyIter_tuple (show s1.heap.IsTuple a its.toArray from p) ?_
  refine ⟨s1.heap.objs.size, [s1.heap.objs.size], _, _, H1, rfl, I1.kept (t' := s1.toks) fun b o e => Heap.get?_push_of_some _ e, turn_tuple a _, ⟨_, Heap.get?_push_size _ rfl, rfl, rfl⟩, fun b hb => ?_, q⟩
  have e : b = s1.heap.objs.size := by simpa using hb
  subst e
  exact I1.fpOk (Nat.le_refl _) (I1.hok.fresh (Nat.le_refl _))
theorem range_it {pins : List (Addr × Obj)} {σ : St} {H : Hp} {s : Shared} {R : It → Hp → Prop} {E : Value → Shared → Prop} {lo hi : Int} {t u v : Tok} {tk : Nat} (I : Inv X pins σ H s) (h1 : -(2 ^ 62) ≤ lo) (h2 : lo < 2 ^ 62) (h3 : -(2 ^ 62) ≤ hi) (h4 : hi < 2 ^ 62)
    (q : R (Itr lo (hi - lo).toNat) H) : wpAny (model X.prog X.w) X.A (pyIter (.ref s.heap.objs.size)) (PIE X pins σ tg R) E { s with heap := s.heap.push { cls := .type "range", data := .fields #[.int lo t, .int hi u, .int 1 v] }, toks := tk } := by
  refine wpAny_pyIter_range (IsRange.new ..) (small_one h1 h2 h3 h4) ?_
  have I1 : Inv X pins σ H { s with heap := s.heap.push { cls := .type "range", data := .fields #[.int lo t, .int hi u, .int 1 v] }, toks := tk } := I.kept fun b o e => Heap.get?_push_of_some _ e
  refine ⟨(s.heap.push { cls := .type "range", data := .fields #[.int lo t, .int hi u, .int 1 v] }).objs.size, [(s.heap.push { cls := .type "range", data := .fields #[.int lo t, .int hi u, .int 1 v] }).objs.size], _, _, H, rfl,
    I1.kept (t' := tk) fun b o e => Heap.get?_push_of_some _ e, turn_range _ lo (hi - lo).toNat, ?_, fun b hb => ?_, q⟩
  · have e1 : lo + ((0 : Nat) : Int) * 1 = lo := by simp
    have e2 : (((hi - lo).toNat : Nat) : Int) - ((0 : Nat) : Int) = Builtin.Range.rangeSize lo hi 1 := by rw [rangeSize_one]; split <;> omega
    show IsRangeIter _ _ (lo + ((0 : Nat) : Int) * 1) ((((hi - lo).toNat : Nat) : Int) - ((0 : Nat) : Int)) 1
    rw [e1, e2]
    exact Heap.get?_push_size _ rfl
  · have e : b = (s.heap.push { cls := .type "range", data := .fields #[.int lo t, .int hi u, .int 1 v] }).objs.size := by simpa using hb
    subst e
    exact I1.fpOk (Nat.le_refl _) (I1.hok.fresh (Nat.le_refl _))
def iRng1 (ta : TA) : TI := fun σ H R => ta σ H fun vs H1 => ∃ j : Int, vs = [.int j] ∧ -(2 ^ 62) ≤ j ∧ j < 2 ^ 62 ∧ R (Itr 0 j.toNat) H1
def iRng2 (ta : TA) : TI := fun σ H R => ta σ H fun vs H1 => ∃ i j : Int, vs = [.int i, .int j] ∧ (-(2 ^ 62) ≤ i ∧ i < 2 ^ 62 ∧ -(2 ^ 62) ≤ j ∧ j < 2 ^ 62) ∧ R (Itr i (j - i).toNat) H1
theorem pi_range1 {a : Expr} {ta : TA} {p pos : Pos} (hg : Gl X "range") (hm : X.mg "range" = none) (ha : PA X [a] ta) (hs : starEach [a] X.env = [(false, eval a X.env)] := by rfl) : PI X tg (.Call (.Name "range" p) [a] [] pos) (iRng1 ta) := by
  intro pins s σ H R I h
  refine Call_ (ld_blt I hg hm boot_range (PyProof.Rows.callWith_type1 (thn (ha pos pins s σ H _ I h) fun us s1 ⟨vs, H1, I1, r1, q1⟩ => ?_) hs rfl))
  obtain ⟨j, e, q1, q2, q⟩ := q1
  subst e
  cases r1 with
  | cons r rr =>
    cases rr
    obtain ⟨t, rfl⟩ := r
    exact call_range_1 (range_it I1 (by omega) (by omega) q1 q2 (by simpa using q))
theorem pi_range2 {a b : Expr} {ta : TA} {p pos : Pos} (hg : Gl X "range") (hm : X.mg "range" = none) (ha : PA X [a, b] ta) (hs : starEach [a, b] X.env = [(false, eval a X.env), (false, eval b X.env)] := by rfl) (hs2 : starEach [b] X.env = [(false, eval b X.env)] := by rfl) :
    PI X tg (.Call (.Name "range" p) [a, b] [] pos) (iRng2 ta) := by
  intro pins s σ H R I h
  refine Call_ (ld_blt I hg hm boot_range (PyProof.Rows.callWith_type1 (thn (ha pos pins s σ H _ I h) fun us s1 ⟨vs, H1, I1, r1, q1⟩ => ?_) (by rw [hs, hs2]) (by rw [hs2]; rfl)))
  obtain ⟨i, j, e, ⟨q1, q2, q3, q4⟩, q⟩ := q1
  subst e
  cases r1 with
  | cons r rr =>
    cases rr with
    | cons r' rr =>
      cases rr
      obtain ⟨t, rfl⟩ := r
      obtain ⟨t', rfl⟩ := r'
      exact call_range_2 (range_it I1 q1 q2 q3 q4 q)
def tFor (wi : TI) (g : TG) (tb : TS) : TS := fun D σ H => wi σ H fun J H1 => ∃ W : Nat → Nat → St → Hp → Prop, (∃ m, W 0 m σ H1) ∧ ∀ i m σ H, W i m σ H →
  (J.stop i H ∧ D.nx σ H) ∨ (J.go i H ∧ ∃ N : St → Hp → Prop, (∀ σ' H', N σ' H' → ∃ m', m' < m ∧ W (i + 1) m' σ' H') ∧ ∀ x H', J.yld i H x H' → g x σ H' fun σ2 H2 => tb { D with nx := N, ct := N, bk := D.nx } σ2 H2)
def pinsAt (fp : List Addr) (h : Heap) : List (Addr × Obj) := fp.filterMap fun b => (h.get? b).map fun o => (b, o)
theorem mem_pinsAt {fp : List Addr} {h : Heap} {b : Addr} {o : Obj} (hb : b ∈ fp) (e : h.get? b = some o) : (b, o) ∈ pinsAt fp h := List.mem_filterMap.mpr ⟨b, hb, by rw [e]; rfl⟩
theorem of_pinsAt {fp : List Addr} {h : Heap} {p : Addr × Obj} (hp : p ∈ pinsAt fp h) : p.1 ∈ fp ∧ h.get? p.1 = some p.2 := by
  obtain ⟨b, hb, e⟩ := List.mem_filterMap.mp hp
  cases q : h.get? b with
  | none => rw [q] at e; cases e
  | some o =>
    rw [q] at e
    have e' : (b, o) = p := Option.some.inj e
    subst e'
    exact ⟨hb, q⟩
theorem Inv.pinned {pins : List (Addr × Obj)} {σ : St} {H : Hp} {s : Shared} {fp : List Addr} (I : Inv X pins σ H s) (hf : ∀ b ∈ fp, FpOk X pins H b) (ho : ∀ b ∈ fp, ∃ o, s.heap.get? b = some o ∧ ∀ v, o.data ≠ .cell v) : Inv X (pins ++ pinsAt fp s.heap) σ H s :=
  I.pins_of fun p hp => (List.mem_append.mp hp).elim (fun z => I.pin p (List.mem_append_right _ z)) fun z => by
    obtain ⟨hb, e⟩ := of_pinsAt z
    obtain ⟨f0, f1, f2, _⟩ := hf p.1 hb
    obtain ⟨o, e', d⟩ := ho p.1 hb
    rw [e] at e'; cases e'
    exact ⟨e, f0, f1, f2, d⟩
theorem Inv.unpinned {pins pl : List (Addr × Obj)} {σ : St} {H : Hp} {s : Shared} (I : Inv X (pins ++ pl) σ H s) : Inv X pins σ H s := I.pins_of fun p hp => I.pin p (List.mem_append_right _ (List.mem_append_left _ hp))
theorem ps_for {iter : Expr} {body : List Stmt} {wi : TI} {g : TG} {tb : TS} {pos : Pos} (hp : PassesOwn (model X.prog X.w) X.A X.env X.xe) (hc : X.calm = true) (hi : PI X tg iter wi) (hg : PG X tg g) (hb : PSs X body tb)
    (hs : ∀ x, foldedSetIterable iter X.env x = pure x := by intro _; rfl) : PS X (.For tg iter body [] pos) (tFor wi g tb) := by
  intro pins s σ H D I h
  refine wpAny_For (thn (hi pins s σ H _ I h) fun v s1 h1 => thn h1 fun itv s2 h2 => ?_) hs
  obtain ⟨it, fp, tn, J, H2, e, I2, T, st2, f2, W, ⟨m0, w0⟩, turn⟩ := h2
  subst e
  -- what stays true of the iterator's objects through the loop
  have stat : ∀ {H' : Hp}, (∀ b ∈ fp, H' b = none) → ∀ b ∈ fp, FpOk X pins H' b := fun hn b hb => ⟨hn b hb, (f2 b hb).2⟩
  refine codeAny_forLoop_any (fun n s' => ∃ i σ' H', Inv X pins σ' H' s' ∧ tn i s'.heap ∧ (∀ b ∈ fp, H' b = none) ∧ W i n σ' H') ?_ m0 ⟨0, σ, H2, I2, st2, fun b hb => (f2 b hb).1, w0⟩
  rintro n s3 ⟨i, σ3, H3, I3, st3, fr3, w3⟩
  rcases turn i n σ3 H3 w3 with ⟨stop, qn⟩ | ⟨go, N, hN, step⟩
  · refine wpAny_passesOwn hp (thn (T.done X rfl rfl rfl hc i pins s3 σ3 H3 X.xe I3 (stat fr3) st3 stop) fun r s4 ⟨hr, I4⟩ => ?_)
    subst hr
    exact wpAny_execs_nil ⟨σ3, H3, I4, qn⟩
  · refine wpAny_passesOwn hp (thn (T.item X rfl rfl rfl hc i pins s3 σ3 H3 X.xe I3 (stat fr3) st3 go) fun r s4 ⟨u, hr, h4⟩ => ?_)
    subst hr
    refine wpAny_passesOwn hp (thn h4 fun _ s5 ⟨x, H5, I5, r5, y5, st5, fr5⟩ => ?_)
    have I5' := I5.pinned (stat fr5) (T.obj _ _ st5)
    refine wpAny_passesOwn hp (thn (hg _ s5 σ3 H5 x u _ I5' r5 (step x H5 y5)) fun _ s6 ⟨σ6, H6, I6, q6⟩ => ?_)
    refine wpAny_passesOwn hp (thn (hb _ s6 σ6 H6 _ I6 q6) fun f s7 q7 => ?_)
    have again : ∀ {σ7 : St} {H7 : Hp}, Inv X (pins ++ pinsAt fp s5.heap) σ7 H7 s7 → N σ7 H7 → ∃ m, m < n ∧ ∃ i σ' H', Inv X pins σ' H' s7 ∧ tn i s7.heap ∧ (∀ b ∈ fp, H' b = none) ∧ W i m σ' H' := fun {σ7 H7} I7 n7 => by
      obtain ⟨m', hm, w7⟩ := hN σ7 H7 n7
      refine ⟨m', hm, i + 1, σ7, H7, I7.unpinned, T.keep _ _ _ st5 fun b hb o e => (I7.pin (b, o) (List.mem_append_right _ (List.mem_append_right _ (mem_pinsAt hb e)))).1, fun b hb => ?_, w7⟩
      obtain ⟨o, e, d⟩ := T.obj _ _ st5 b hb
      exact (I7.pin (b, o) (List.mem_append_right _ (List.mem_append_right _ (mem_pinsAt hb e)))).2.1
    cases f with
    | next => obtain ⟨σ7, H7, I7, n7⟩ := q7; exact again I7 n7
    | cont => obtain ⟨σ7, H7, I7, n7⟩ := q7; exact again I7 n7
    | brk => obtain ⟨σ7, H7, I7, q7⟩ := q7; exact ⟨σ7, H7, I7.unpinned, q7⟩
    | ret v => obtain ⟨x7, σ7, H7, I7, r7, q7⟩ := q7; exact ⟨x7, σ7, H7, I7.unpinned, r7, q7⟩
end
end L2
namespace L2
open PySem PySem.Spec PyProof.Rows
abbrev R2 := V → V → Hp → VK → Prop
def OpR (X : Cx) (f : Value → Value → Sem Value) (r : R2) : Prop :=
  ∀ (pins : List (Addr × Obj)) (s : Shared) (σ : St) (H : Hp) (x y : V) (v u : Value) (Q : VK), Inv X pins σ H s → RelV x v → RelV y u → r x y H Q →
    wpAny (model X.prog X.w) X.A (f v u) (EP X pins σ Q) X.xe s
def UnR (X : Cx) (f : Value → Sem Value) (r : V → Hp → VK → Prop) : Prop :=
  ∀ (pins : List (Addr × Obj)) (s : Shared) (σ : St) (H : Hp) (x : V) (v : Value) (Q : VK), Inv X pins σ H s → RelV x v → r x H Q →
    wpAny (model X.prog X.w) X.A (f v) (EP X pins σ Q) X.xe s
def CallR (X : Cx) (f : Value) (r : List V → Hp → VK → Prop) : Prop :=
  ∀ (pins : List (Addr × Obj)) (s : Shared) (σ : St) (H : Hp) (xs : List V) (us : List Value) (Q : VK), Inv X pins σ H s → Vals xs us → r xs H Q →
    wpAny (model X.prog X.w) X.A (call f us) (EP X pins σ Q) X.xe s
def TruR (X : Cx) (r : V → Hp → (Bool → Hp → Prop) → Prop) : Prop :=
  ∀ (pins : List (Addr × Obj)) (s : Shared) (σ : St) (H : Hp) (x : V) (v : Value) (Q : Bool → Hp → Prop), Inv X pins σ H s → RelV x v → r x H Q →
    wpAny (model X.prog X.w) X.A (truthy v) (TP X pins σ Q) X.xe s
def tOp (r : R2) (ta tb : TE) : TE := fun σ H Q => ta σ H fun x H1 => tb σ H1 fun y H2 => r x y H2 Q
def tUn (r : V → Hp → VK → Prop) (ta : TE) : TE := fun σ H Q => ta σ H fun x H1 => r x H1 Q
def rI (C : Int → Int → Prop) (g : Int → Int → V) : R2 := fun x y H Q => ∃ i j, x = .int i ∧ y = .int j ∧ C i j ∧ Q (g i j) H
def rI0 (g : Int → Int → V) : R2 := fun x y H Q => ∃ i j, x = .int i ∧ y = .int j ∧ Q (g i j) H
def rU (g : Int → V) : V → Hp → VK → Prop := fun x H Q => ∃ i, x = .int i ∧ Q (g i) H
section
variable {X : Cx} {a b c : Expr} {ta tb tc : TE} {pos : Pos}
theorem binT (ha : PE X a ta) (hb : PE X b tb) {pins : List (Addr × Obj)} {s : Shared} {σ : St} {H : Hp} {R : V → V → Hp → Prop} (I : Inv X pins σ H s)
    (h : ta σ H fun x H1 => tb σ H1 fun y H2 => R x y H2) {Q : Value → Shared → Prop} {f : Value → Value → Sem Value}
    (hf : ∀ v u s2 x y H2, Inv X pins σ H2 s2 → RelV x v → RelV y u → R x y H2 → wpAny (model X.prog X.w) X.A (f v u) Q X.xe s2) :
    wpAny (model X.prog X.w) X.A (eval a X.env) (fun v s₁ => wpAny (model X.prog X.w) X.A (eval b X.env) (fun u s₂ => wpAny (model X.prog X.w) X.A (f v u) Q X.xe s₂) X.xe s₁) X.xe s := by
  refine thn (ha pins s σ H _ I h) fun v s1 ⟨x, H1, I1, r1, q1⟩ => ?_
  refine thn (hb pins s1 σ H1 _ I1 q1) fun u s2 ⟨y, H2, I2, r2, q2⟩ => ?_
  exact hf v u s2 x y H2 I2 r1 r2 q2
theorem pe_op {op : Operator} {r : R2} (ho : OpR X (binaryOp op) r) (ha : PE X a ta) (hb : PE X b tb) : PE X (.BinOp a op b pos) (tOp r ta tb) := by
  intro pins s σ H Q I h
  exact wpAny_BinOp (binT ha hb I h fun v u s2 x y H2 I2 rx ry q => ho pins s2 σ H2 x y v u Q I2 rx ry q)
theorem pe_un {op : UnaryOp} {r : V → Hp → VK → Prop} (ho : UnR X (unaryOp op) r) (ha : PE X a ta) : PE X (.UnaryOp op a pos) (tUn r ta) := by
  intro pins s σ H Q I h
  exact UnaryOp_ (thn (ha pins s σ H _ I h) fun v s1 ⟨x, H1, I1, r1, q1⟩ => ho pins s1 σ H1 x v Q I1 r1 q1)
theorem opI {f : Value → Value → Sem Value} {C : Int → Int → Prop} {g : Int → Int → Int}
    (rule : ∀ (i j : Int) (t u : Tok) (s : Shared) (Q : Value → Shared → Prop) (E : Value → Shared → Prop), C i j → Q (.int (g i j) s.toks) { s with toks := s.toks + 1 } → wpAny (model X.prog X.w) X.A (f (.int i t) (.int j u)) Q E s) :
    OpR X f (rI C fun i j => .int (g i j)) := by
  intro pins s σ H x y v u Q I rx ry h
  obtain ⟨i, j, rfl, rfl, hc, q⟩ := h
  obtain ⟨t, rfl⟩ := rx
  obtain ⟨t', rfl⟩ := ry
  exact rule i j t t' s _ _ hc ⟨.int (g i j), H, I.tok _, ⟨_, rfl⟩, q⟩
theorem opI0 {f : Value → Value → Sem Value} {g : Int → Int → Int}
    (rule : ∀ (i j : Int) (t u : Tok) (s : Shared) (Q : Value → Shared → Prop) (E : Value → Shared → Prop), Q (.int (g i j) s.toks) { s with toks := s.toks + 1 } → wpAny (model X.prog X.w) X.A (f (.int i t) (.int j u)) Q E s) :
    OpR X f (rI0 fun i j => .int (g i j)) := by
  intro pins s σ H x y v u Q I rx ry h
  obtain ⟨i, j, rfl, rfl, q⟩ := h
  obtain ⟨t, rfl⟩ := rx
  obtain ⟨t', rfl⟩ := ry
  exact rule i j t t' s _ _ ⟨.int (g i j), H, I.tok _, ⟨_, rfl⟩, q⟩
theorem opB0 {f : Value → Value → Sem Value} {g : Int → Int → Bool}
    (rule : ∀ (i j : Int) (t u : Tok) (s : Shared) (Q : Value → Shared → Prop) (E : Value → Shared → Prop), Q (.bool (g i j)) s → wpAny (model X.prog X.w) X.A (f (.int i t) (.int j u)) Q E s) :
    OpR X f (rI0 fun i j => .bl (g i j)) := by
  intro pins s σ H x y v u Q I rx ry h
  obtain ⟨i, j, rfl, rfl, q⟩ := h
  obtain ⟨t, rfl⟩ := rx
  obtain ⟨t', rfl⟩ := ry
  exact rule i j t t' s _ _ ⟨.bl (g i j), H, I, rfl, q⟩
def CDiv (i j : Int) : Prop := 0 < j ∧ j < 1073741824
def CPow (i j : Int) : Prop := 0 ≤ j ∧ j ≤ 1000000 ∧ i.natAbs < 2 ^ 64
def CMul (i j : Int) : Prop := (-(2 ^ 64) < i ∧ i < 2 ^ 64) ∨ (-(2 ^ 64) < j ∧ j < 2 ^ 64)
theorem CMul.ok {i j : Int} (h : CMul i j) : IntMulOk i j := by
  rcases h with ⟨h1, h2⟩ | ⟨h1, h2⟩
  · exact .of_left (intBits_le_64 h1 h2)
  · exact .of_right (intBits_le_64 h1 h2)
theorem two_pow_nn (k : Nat) : (0 : Int) ≤ 2 ^ k := by
  rw [two_pow_cast]
  exact Int.natCast_nonneg _
theorem op_add : OpR X (binaryOp .Add) (rI0 fun i j => .int (i + j)) := opI0 fun _ _ _ _ _ _ _ q => add_int q
theorem op_sub : OpR X (binaryOp .Sub) (rI0 fun i j => .int (i - j)) := opI0 fun _ _ _ _ _ _ _ q => sub_int q
theorem op_mul : OpR X (binaryOp .Mult) (rI CMul fun i j => .int (i * j)) := opI fun _ _ _ _ _ _ _ hc q => mul_int q hc.ok
theorem op_fdiv : OpR X (binaryOp .FloorDiv) (rI CDiv fun i j => .int (i / j)) := opI fun i j _ _ _ _ _ hc q => by
  have h1 : (0 : Int) < j := hc.1
  have h2 : j < 1073741824 := hc.2
  exact floordiv_int (by omega) (by rw [Int.fdiv_eq_ediv_of_nonneg i (by omega)]; exact q) (.inl (PyProof.noPylong_small (by omega)))
theorem op_mod : OpR X (binaryOp .Mod) (rI (fun _ j => 0 < j) fun i j => .int (i % j)) := opI fun i j _ _ _ _ _ hc q => by
  have h1 : (0 : Int) < j := hc
  exact mod_int' (by omega) (by rw [Int.fmod_eq_emod_of_nonneg i (by omega)]; exact q)
theorem op_shl : OpR X (binaryOp .LShift) (rI CPow fun i j => .int (i * 2 ^ j.toNat)) := opI fun _ _ _ _ _ _ _ hc q => lshift_int_small hc.1 hc.2.1 hc.2.2 q
theorem op_shr : OpR X (binaryOp .RShift) (rI (fun _ j => 0 ≤ j) fun i j => .int (i / 2 ^ j.toNat)) := opI fun i j _ _ _ _ _ hc q =>
  rshift_int hc (by rw [Int.fdiv_eq_ediv_of_nonneg i (two_pow_nn _)]; exact q)
theorem op_and : OpR X (binaryOp .BitAnd) (rI0 fun i j => .int (Builtin.bitAnd i j)) := opI0 fun _ _ _ _ _ _ _ q => and_int q
theorem op_or : OpR X (binaryOp .BitOr) (rI0 fun i j => .int (Builtin.bitOr i j)) := opI0 fun _ _ _ _ _ _ _ q => or_int q
theorem unI {f : Value → Sem Value} {g : Int → Int}
    (rule : ∀ (i : Int) (t : Tok) (s : Shared) (Q : Value → Shared → Prop) (E : Value → Shared → Prop), Q (.int (g i) s.toks) { s with toks := s.toks + 1 } → wpAny (model X.prog X.w) X.A (f (.int i t)) Q E s) :
    UnR X f (rU fun i => .int (g i)) := by
  intro pins s σ H x v Q I rx h
  obtain ⟨i, rfl, q⟩ := h
  obtain ⟨t, rfl⟩ := rx
  exact rule i t s _ _ ⟨.int (g i), H, I.tok _, ⟨_, rfl⟩, q⟩
theorem un_neg : UnR X (unaryOp .USub) (rU fun i => .int (-i)) := unI fun _ _ _ _ _ q => neg_int q
theorem un_inv : UnR X (unaryOp .Invert) (rU fun i => .int (Builtin.bitNot i)) := unI fun _ _ _ _ _ q => invert_int q
end
def scal : V → V → Bool
  | .non, .non => true | .non, .int _ => true | .int _, .non => true | .non, .bl _ => true | .bl _, .non => true | .non, .str _ => true | .str _, .non => true
  | .int _, .int _ => true | .bl _, .bl _ => true | .str _, .str _ => true | .byt _, .byt _ => true
  | .int _, .str _ => true | .str _, .int _ => true | .bl _, .str _ => true | .str _, .bl _ => true
  | _, _ => false
def rEq : R2 := fun x y H Q => scal x y = true ∧ Q (.bl (decide (x = y))) H
def rNe : R2 := fun x y H Q => scal x y = true ∧ Q (.bl (!decide (x = y))) H
theorem dec_int {i j : Int} : decide (V.int i = V.int j) = (i == j) := by
  rw [Bool.eq_iff_iff]
  simp
theorem dec_bl {i j : Bool} : decide (V.bl i = V.bl j) = (i == j) := by
  rw [Bool.eq_iff_iff]
  simp
theorem dec_str {i j : Str} : decide (V.str i = V.str j) = (i == j) := by
  rw [Bool.eq_iff_iff]
  simp
theorem dec_byt {i j : Array UInt8} : decide (V.byt i = V.byt j) = (i.toList == j.toList) := by
  rw [Bool.eq_iff_iff]
  cases i
  cases j
  simp
section
variable {X : Cx} {a b c : Expr} {ta tb tc : TE} {pos : Pos}
theorem fin_bl {pins : List (Addr × Obj)} {σ : St} {H : Hp} {s : Shared} {Q : VK} {k k' : Bool} (I : Inv X pins σ H s) (q : Q (.bl k) H) (e : k = k') : EP X pins σ Q (.bool k') s := by
  subst e
  exact ⟨.bl k, H, I, rfl, q⟩
theorem op_eq : OpR X (compareOp .Eq) rEq := by
  intro pins s σ H x y v u Q I rx ry h
  obtain ⟨hs, q⟩ := h
  cases x with
  | non =>
    cases rx
    cases y with
    | non => cases ry; exact PySem.EqNone.eq_none_none (fin_bl I q (by simp))
    | bl j => cases ry; exact PySem.EqNone.eq_none_bool (fin_bl I q (by simp))
    | int j => obtain ⟨t', rfl⟩ := ry; exact PySem.EqNone.eq_none_int (fin_bl I q (by simp))
    | str j => obtain ⟨t', rfl⟩ := ry; exact PySem.EqNone.eq_none_str (fin_bl I q (by simp))
    | _ => exact absurd (show false = true from hs) Bool.false_ne_true
  | bl i =>
    cases rx
    cases y with
    | non => cases ry; exact PySem.EqNone.eq_bool_none (fin_bl I q (by simp))
    | bl j => cases ry; exact eq_bool (fin_bl I q dec_bl)
    | str j => obtain ⟨t', rfl⟩ := ry; exact PySem.EqMixed.eq_bool_str (fin_bl I q (by simp))
    | _ => exact absurd (show false = true from hs) Bool.false_ne_true
  | int i =>
    obtain ⟨t, rfl⟩ := rx
    cases y with
    | non => cases ry; exact PySem.EqNone.eq_int_none (fin_bl I q (by simp))
    | int j => obtain ⟨t', rfl⟩ := ry; exact eq_int (fin_bl I q dec_int)
    | str j => obtain ⟨t', rfl⟩ := ry; exact PySem.EqMixed.eq_int_str (fin_bl I q (by simp))
    | _ => exact absurd (show false = true from hs) Bool.false_ne_true
  | str i =>
    obtain ⟨t, rfl⟩ := rx
    cases y with
    | non => cases ry; exact PySem.EqNone.eq_str_none (fin_bl I q (by simp))
    | bl j => cases ry; exact PySem.EqMixed.eq_str_bool (fin_bl I q (by simp))
    | int j => obtain ⟨t', rfl⟩ := ry; exact PySem.EqMixed.eq_str_int (fin_bl I q (by simp))
    | str j => obtain ⟨t', rfl⟩ := ry; exact eq_str (fin_bl I q dec_str)
    | _ => exact absurd (show false = true from hs) Bool.false_ne_true
  | byt i =>
    obtain ⟨t, rfl⟩ := rx
    cases y with
    | byt j => obtain ⟨t', rfl⟩ := ry; exact PySem.W.eq_bytes (fin_bl I q dec_byt)
    | _ => exact absurd (show false = true from hs) Bool.false_ne_true
  | _ => cases y <;> exact absurd (show false = true from hs) Bool.false_ne_true
theorem op_ne : OpR X (compareOp .NotEq) rNe := by
  intro pins s σ H x y v u Q I rx ry h
  obtain ⟨hs, q⟩ := h
  cases x with
  | non =>
    cases rx
    cases y with
    | non => cases ry; exact PySem.EqNone.ne_none_none (fin_bl I q (by simp))
    | bl j => cases ry; exact PySem.EqNone.ne_none_bool (fin_bl I q (by simp))
    | int j => obtain ⟨t', rfl⟩ := ry; exact PySem.EqNone.ne_none_int (fin_bl I q (by simp))
    | str j => obtain ⟨t', rfl⟩ := ry; exact PySem.EqNone.ne_none_str (fin_bl I q (by simp))
    | _ => exact absurd (show false = true from hs) Bool.false_ne_true
  | bl i =>
    cases rx
    cases y with
    | non => cases ry; exact PySem.EqNone.ne_bool_none (fin_bl I q (by simp))
    | bl j => cases ry; exact ne_bool (fin_bl I q (congrArg not dec_bl))
    | str j => obtain ⟨t', rfl⟩ := ry; exact PySem.EqMixed.ne_bool_str (fin_bl I q (by simp))
    | _ => exact absurd (show false = true from hs) Bool.false_ne_true
  | int i =>
    obtain ⟨t, rfl⟩ := rx
    cases y with
    | non => cases ry; exact PySem.EqNone.ne_int_none (fin_bl I q (by simp))
    | int j => obtain ⟨t', rfl⟩ := ry; exact ne_int (fin_bl I q (congrArg not dec_int))
    | str j => obtain ⟨t', rfl⟩ := ry; exact PySem.EqMixed.ne_int_str (fin_bl I q (by simp))
    | _ => exact absurd (show false = true from hs) Bool.false_ne_true
  | str i =>
    obtain ⟨t, rfl⟩ := rx
    cases y with
    | non => cases ry; exact PySem.EqNone.ne_str_none (fin_bl I q (by simp))
    | bl j => cases ry; exact PySem.EqMixed.ne_str_bool (fin_bl I q (by simp))
    | int j => obtain ⟨t', rfl⟩ := ry; exact PySem.EqMixed.ne_str_int (fin_bl I q (by simp))
    | str j => obtain ⟨t', rfl⟩ := ry; exact ne_str (fin_bl I q (congrArg not dec_str))
    | _ => exact absurd (show false = true from hs) Bool.false_ne_true
  | byt i =>
    obtain ⟨t, rfl⟩ := rx
    cases y with
    | byt j => obtain ⟨t', rfl⟩ := ry; exact PySem.W.ne_bytes (fin_bl I q (congrArg not dec_byt))
    | _ => exact absurd (show false = true from hs) Bool.false_ne_true
  | _ => cases y <;> exact absurd (show false = true from hs) Bool.false_ne_true
theorem op_lt : OpR X (compareOp .Lt) (rI0 fun i j => .bl (decide (i < j))) := opB0 fun _ _ _ _ _ _ _ q => lt_int q
theorem op_le : OpR X (compareOp .LtE) (rI0 fun i j => .bl (decide (i ≤ j))) := opB0 fun _ _ _ _ _ _ _ q => le_int q
theorem op_gt : OpR X (compareOp .Gt) (rI0 fun i j => .bl (decide (j < i))) := opB0 fun _ _ _ _ _ _ _ q => gt_int q
theorem op_ge : OpR X (compareOp .GtE) (rI0 fun i j => .bl (decide (j ≤ i))) := opB0 fun _ _ _ _ _ _ _ q => ge_int q
theorem nomark (b : Expr) {op : CmpOp} (h : op ≠ .In := by decide) (h2 : op ≠ .NotIn := by decide) : behindInMarks op b = false := by
  have e1 : (op == CmpOp.In) = false := by cases op <;> first | rfl | exact absurd rfl h
  have e2 : (op == CmpOp.NotIn) = false := by cases op <;> first | rfl | exact absurd rfl h2
  cases b <;> simp [behindInMarks, e1, e2]
theorem pe_cmpR {op : CmpOp} {r : R2} (ho : OpR X (compareOp op) r) (ha : PE X a ta) (hb : PE X b tb) (hm : behindInMarks op b = false) : PE X (.Compare a [op] [b] pos) (tOp r ta tb) := by
  intro pins s σ H Q I h
  exact wpAny_Compare1 (binT ha hb I h fun v u s2 x y H2 I2 rx ry q => ho pins s2 σ H2 x y v u Q I2 rx ry q) hm
def tTest (t : TE) : TT := fun σ H Q => t σ H fun x H' => ∃ k, x = .bl k ∧ Q k H'
theorem pt_cmpR {op : CmpOp} {r : R2} (ho : OpR X (compareOp op) r) (ha : PE X a ta) (hb : PE X b tb) (hm : behindInMarks op b = false) : PT X (.Compare a [op] [b] pos) (tTest (tOp r ta tb)) := by
  intro pins s σ H Q I h
  refine wpAny_isTrue_Compare1 (thn (ha pins s σ H _ I h) fun v s1 ⟨x, H1, I1, r1, q1⟩ => thn (hb pins s1 σ H1 _ I1 q1) fun u s2 ⟨y, H2, I2, r2, q2⟩ =>
    thn (ho pins s2 σ H2 x y v u _ I2 r1 r2 q2) fun c s3 ⟨z, H3, I3, r3, k, e, q3⟩ => ?_) hm
  subst e
  cases r3
  exact wpAny_truthy_bool ⟨H3, I3, q3⟩
def tChain (r r' : R2) (ta tb tc : TE) : TE := fun σ H Q => ta σ H fun x H1 => tb σ H1 fun y H2 => r x y H2 fun z H3 => ∃ k, z = .bl k ∧
  (if k = true then tc σ H3 fun w' H4 => r' y w' H4 Q else Q (.bl false) H3)
theorem pe_chain {op op' : CmpOp} {r r' : R2} (ho : OpR X (compareOp op) r) (ho' : OpR X (compareOp op') r') (ha : PE X a ta) (hb : PE X b tb) (hc : PE X c tc)
    (hm : lastMarks [op, op'] [b, c] = false := by with_unfolding_all rfl) : PE X (.Compare a [op, op'] [b, c] pos) (tChain r r' ta tb tc) := by
  intro pins s σ H Q I h
  refine Compare_chain (thn (ha pins s σ H _ I h) fun v s1 ⟨x, H1, I1, r1, q1⟩ => chain_link (thn (hb pins s1 σ H1 _ I1 q1) fun u s2 ⟨y, H2, I2, r2, q2⟩ =>
    thn (ho pins s2 σ H2 x y v u _ I2 r1 r2 q2) fun d s3 ⟨z, H3, I3, r3, k, e, q3⟩ => ?_)) hm
  subst e
  cases r3
  refine wpAny_truthy_bool ?_
  cases k with
  | false => exact ite_ff ⟨.bl false, H3, I3, rfl, q3⟩
  | true => exact ite_tt (chain_last (thn (hc pins s3 σ H3 _ I3 q3) fun w' s4 ⟨z', H4, I4, r4, q4⟩ => ho' pins s4 σ H4 y z' u w' Q I4 r2 r4 q4))
def TruV (K : PySem.W.Frag) (x : V) (H : Hp) (k : Bool) : Prop :=
  match x with
  | .non => k = false
  | .bl b => k = b
  | .int i => k = (i != 0)
  | .str y => y.length ≤ sizeLine ∧ k = ((y.length : Int) != 0)
  | .byt y => y.size ≤ sizeLine ∧ k = ((y.size : Int) != 0)
  | .ref p => (∃ xs, SqL K H p xs ∧ k = !xs.isEmpty) ∨ (∃ xs, SqT K H p xs ∧ k = !xs.isEmpty) ∨ ∃ kvs, H p = some (.dK kvs) ∧ k = !kvs.isEmpty
  | _ => False
theorem isEmpty_kv {κ : Type} {kvs : List (κ × V)} {vs : List (κ × Value)} (r : KV kvs vs) : (!vs.isEmpty) = !kvs.isEmpty := by
  cases r <;> rfl
theorem isEmpty_of {xs : List V} {its : List Value} (r : Vals xs its) : (!its.toArray.isEmpty) = !xs.isEmpty := by
  cases r <;> simp
theorem line63 : (sizeLine : Nat) < 2 ^ 63 := by rw [sizeLine_eq]; decide
theorem tru_ok : TruR X (fun x H Q => ∃ k, TruV X.K x H k ∧ Q k H) := by
  intro pins s σ H x v Q I rx h
  obtain ⟨k, e, q⟩ := h
  have hl := line63
  have hs : sizeLine = 16777216 := sizeLine_eq
  cases x with
  | non =>
    cases rx
    have e' : k = false := e
    subst e'
    exact truthy_none ⟨H, I, q⟩
  | bl b =>
    cases rx
    have e' : k = b := e
    subst e'
    exact wpAny_truthy_bool ⟨H, I, q⟩
  | int i =>
    obtain ⟨t, rfl⟩ := rx
    have e' : k = (i != 0) := e
    subst e'
    exact PySem.P.truthy_int ⟨H, I, q⟩
  | str y =>
    obtain ⟨t, rfl⟩ := rx
    obtain ⟨hy, e'⟩ : y.length ≤ sizeLine ∧ k = ((y.length : Int) != 0) := e
    subst e'
    exact PySem.P.truthy_str (by omega) ⟨H, I.tok _, q⟩
  | byt y =>
    obtain ⟨t, rfl⟩ := rx
    obtain ⟨hy, e'⟩ : y.size ≤ sizeLine ∧ k = ((y.size : Int) != 0) := e
    subst e'
    exact PySem.W.truthy_bytes (by omega) ⟨H, I.tok _, q⟩
  | ref p =>
    cases rx
    have e' : (∃ xs, SqL X.K H p xs ∧ k = !xs.isEmpty) ∨ (∃ xs, SqT X.K H p xs ∧ k = !xs.isEmpty) ∨ ∃ kvs, H p = some (.dK kvs) ∧ k = !kvs.isEmpty := e
    rcases e' with ⟨xs, hx, e'⟩ | ⟨xs, hx, e'⟩ | ⟨kvs, hx, e'⟩
    · subst e'
      obtain ⟨its, r, pl, hz⟩ := I.list hx
      have hlen := r.length
      exact wpAny_truthy_list pl.isList (by simp only [List.size_toArray]; omega) ⟨H, I.tok _, by rw [isEmpty_of r]; exact q⟩
    · subst e'
      obtain ⟨its, r, pl, hz⟩ := I.tuple hx
      have hlen := r.length
      exact truthy_tuple pl (by simp only [List.size_toArray]; omega) ⟨H, I.tok _, by rw [isEmpty_of r]; exact q⟩
    · subst e'
      obtain ⟨hz, hS, vs, r, m⟩ : kvs.length ≤ sizeLine ∧ (p == sysModules) = false ∧ ∃ vs, KV kvs vs ∧ s.heap.DictOf (mixKind X.prog X.w) p vs := I.hok p _ hx
      have hlen : kvs.length = vs.length := Paired.length r
      exact wpAny_truthy_dict hS m (by omega) ⟨H, I.tok _, by rw [isEmpty_kv r]; exact q⟩
  | _ => exact (show False from e).elim
theorem pt_truth (ha : PE X a ta) (he : ∀ whole, isTrue a X.env whole = (do let v ← whole; standAt a.pos; holding [v] (truthy v))) :
    PT X a (fun σ H Q => ta σ H fun x H' => ∃ k, TruV X.K x H' k ∧ Q k H') := by
  intro pins s σ H Q I h
  exact isTrue_plain (thn (ha pins s σ H _ I h) fun v s1 ⟨x, H1, I1, r1, q1⟩ => tru_ok pins s1 σ H1 x v Q I1 r1 q1) (he _)
theorem vals1 {x : V} {us : List Value} (r : Vals [x] us) : ∃ u, us = [u] ∧ RelV x u := by
  cases r with
  | cons r1 r2 => cases r2; exact ⟨_, rfl, r1⟩
theorem vals2 {x y : V} {us : List Value} (r : Vals [x, y] us) : ∃ u w', us = [u, w'] ∧ RelV x u ∧ RelV y w' := by
  cases r with
  | cons r1 r2 =>
    cases r2 with
    | cons r3 r4 => cases r4; exact ⟨_, _, rfl, r1, r3⟩
theorem call_abs : CallR X (.builtin "abs") (fun xs H Q => ∃ i, xs = [.int i] ∧ Q (.int (if i < 0 then -i else i)) H) := by
  intro pins s σ H xs us Q I r h
  obtain ⟨i, rfl, q⟩ := h
  obtain ⟨u, rfl, t, rfl⟩ := vals1 r
  exact call_abs_int fun u tk => ⟨.int (if i < 0 then -i else i), H, I.tok _, ⟨_, rfl⟩, q⟩
theorem call_max2 (hc : X.calm = true) : CallR X (.builtin "max") (fun xs H Q => ∃ i j, xs = [.int i, .int j] ∧ Q (.int (if j > i then j else i)) H) := by
  intro pins s σ H xs us Q I r h
  obtain ⟨i, j, rfl, q⟩ := h
  obtain ⟨u, w', rfl, ⟨t, rfl⟩, ⟨t', rfl⟩⟩ := vals2 r
  refine max_two_ints (I.ok.hd hc) fun h' tk k => ⟨_, H, I.kept k, ?_, q⟩
  by_cases hj : j > i
  · rw [if_pos hj, if_pos hj]; exact ⟨_, rfl⟩
  · rw [if_neg hj, if_neg hj]; exact ⟨_, rfl⟩
theorem call_int1 : CallR X (.type "int") (fun xs H Q => (∃ i, xs = [.int i] ∧ Q (.int i) H) ∨ ∃ k, xs = [.bl k] ∧ Q (.int (if k then 1 else 0)) H) := by
  intro pins s σ H xs us Q I r h
  rcases h with ⟨i, rfl, q⟩ | ⟨k, rfl, q⟩
  · obtain ⟨u, rfl, t, rfl⟩ := vals1 r
    exact call_int_int ⟨.int i, H, I, ⟨_, rfl⟩, q⟩
  · obtain ⟨u, rfl, r1⟩ := vals1 r
    cases r1
    exact call_int_bool ⟨.int (if k then 1 else 0), H, I.tok _, ⟨_, rfl⟩, q⟩
end
end L2
namespace L2
open PySem PySem.Spec PyProof.Rows
structure ObjM (h : Heap) (x dx C : Addr) (mA : Str → Option Value) : Prop where
  obj : h.get? x = some (PySem.W.instObj C dx)
  ns : h.Ns1 dx mA
  ne : dx ≠ x
theorem lookIn_ns {h : Heap} {dx : Addr} {mA : Str → Option Value} (n : h.Ns1 dx mA) : ∃ od, h.get? dx = some od ∧ ∀ name, PySem.W.lookIn name od = some (mA name) := by
  obtain ⟨o, es, ep, ho, hd, hk, _, hm⟩ := n
  refine ⟨o, ho, fun name => ?_⟩
  have e := hm name
  unfold nsFind findBy at e
  rw [← Array.find?_toList] at e
  unfold PySem.W.lookIn
  rw [hd]
  dsimp only
  split
  · rename_i y q
    rw [q] at e
    exact congrArg some e
  · rename_i q
    rw [q] at e
    have a : es.toList.any (·.refKey) = false := by
      rw [List.any_eq_false]
      intro y hy
      obtain ⟨z, t, hkey⟩ := hk y (Array.mem_toList_iff.mp hy)
      simp [DictEntry.refKey, hkey]
    have a' : ¬ es.toList.any (·.refKey) = true := by rw [a]; exact Bool.false_ne_true
    rw [if_neg a']
    exact congrArg some e
theorem ObjM.look {h : Heap} {x dx C : Addr} {mA : Str → Option Value} (I : ObjM h x dx C mA) : ∃ od, PySem.W.InstAt h x (PySem.W.instObj C dx) C (some od) ∧ ∀ name, PySem.W.lookIn name od = some (mA name) :=
  let ⟨od, ho, hl⟩ := lookIn_ns I.ns
  ⟨od, ⟨I.obj, rfl, rfl, ho⟩, hl⟩
section
variable {prog : Program} {w : World} {A : Around} {E : Value → Shared → Prop} {s : Shared} {K : PySem.W.Frag} {x dx C f : Addr} {mA : Str → Option Value} {name : Str} {v : Value}
theorem get_map {expr : Bool} {Q : Value → Shared → Prop} (X : K.In s.heap) (I : ObjM s.heap x dx C mA) (hg : PySem.W.plainGet K C name = true) (hh : PySem.W.hasDictIn K C = true)
    (ha : PySem.W.findIn K (.ref C) name = some none) (hv : mA name = some v) (hv' : PySem.W.handedIn v = true) (h : Q v { s with toks := s.toks + 1 }) :
    wpAny (model prog w) A (getAttr (.ref x) name expr) Q E s := by
  obtain ⟨od, J, hl⟩ := I.look
  exact PySem.W.get_value X J (PySem.W.plainGet_of hg).1 (PySem.W.findObj_own hh ha rfl (by rw [hl, hv])) hv' h
theorem get_meth {pl : Sem Bool} {Q : Value × List Value → Shared → Prop} (X : K.In s.heap) (I : ObjM s.heap x dx C mA) (hg : PySem.W.plainGet K C name = true)
    (hf : PySem.W.findIn K (.ref C) name = some (some (.ref f))) (ht : PySem.W.isFn K (.ref f) = true) (hv : mA name = none) (h : Q (.ref f, [.ref x]) s) :
    wpAny (model prog w) A (getMethod (.ref x) name pl) Q E s := by
  obtain ⟨od, J, hl⟩ := I.look
  exact PySem.W.method_fn X J (PySem.W.plainGet_of hg).1 (PySem.W.plainGet_of hg).2 hf (beq_iff_eq.mp ht) (by show (PySem.W.lookIn name od).map (·.isSome) = some false; rw [hl, hv]; rfl) h
theorem set_map {ns : List Str} {Q : Unit → Shared → Prop} (X : K.In s.heap) (I : ObjM s.heap x dx C mA)
    (hs : PySem.W.findIn K (.ref C) "__setattr__" = some (some (.builtin "object.__setattr__"))) (hp : PySem.W.plainOver K C = true) (ht : PySem.W.takerIn K C name = some none) (hh : PySem.W.hasDictIn K C = true)
    (hw : PySem.Within mA ns) (hsz : ns.length ≤ sizeLine)
    (h : ∀ h', ObjM h' x dx C (fun y => if y = name then some v else mA y) → Heap.SameBut dx s.heap h' → Q () { s with heap := h', toks := s.toks + 2 }) :
    wpAny (model prog w) A (setAttr (.ref x) name v) Q E s := by
  obtain ⟨od, J, hl⟩ := I.look
  refine PySem.W.set_plain X J hs (PySem.W.osa_open (s := { s with toks := s.toks + 1 }) (r := none) X J hp ht fun b => ?_)
  obtain ⟨cd, hc, hd'⟩ := PySem.W.any_some hh
  have hx : s.heap.get? x = some ⟨.ref C, some dx, .plain, #[]⟩ := I.obj
  refine wpAny_bind (wpAny_pure (wpAny_bind (wpAny_bind (wpAny_loadPart hx (wpAny_bind (PySem.W.Looks.here (s := { s with toks := s.toks + 1 }) (PySem.W.looks_clsIn X hc) ?_))))))
  rw [hd']
  refine wpAny_pure (a := some dx) (wpAny_bind (wpAny_pure (wpAny_bind ?_)))
  refine wpAny_nsSet1 (s := { s with toks := s.toks + 1 }) I.ns fun h' hn2 hs2 => ?_
  obtain ⟨oD, esD, epD, hoD, hdD, hcD⟩ := hn2.count (PySem.Within.cons name v hw)
  refine wpAny_bind (wpAny_lookBehind hoD (by rw [hdD]; exact pastItsLine_dict (Nat.le_trans hcD (by rw [List.length_cons]; omega))) ?_)
  exact wpAny_pure (h _ ⟨(hs2.2 _ (Ne.symm I.ne)).trans I.obj, hn2, I.ne⟩ hs2)
theorem make_map {R : Result → Shared → Prop} {vs : List Value} {kw : List (Str × Value)} (X : K.In s.heap) (hm : PySem.W.makesIn K C = true)
    (hi : PySem.W.findIn K (.ref C) "__init__" = some (some (.ref f))) (hf : PySem.W.typeIn K (.ref f) = some (.type "function"))
    (h : codeAny (model prog w) (A.under (.builtin "type.__call__" ⟨.ref C :: vs, kw⟩)) (.call (.ref f) ⟨.ref (s.heap.objs.size + 1) :: vs, kw⟩) (PySem.W.InitBack (s.heap.objs.size + 1) R)
      { s with heap := (s.heap.push PySem.W.emptyDict).push (PySem.W.instObj C s.heap.objs.size) }) :
    codeAny (model prog w) A (.call (.ref C) ⟨vs, kw⟩) R s := by
  obtain ⟨hh, g, d, t, os⟩ := s
  exact PySem.W.make_core (PySem.W.makes_of X hm) (PySem.W.looks_findIn X hi) (fun self => PySem.W.bind_fn X self hf) (.inl rfl) h
end
def putF (f : Str) (v : V) : List (Str × V) → List (Str × V)
  | [] => [(f, v)]
  | (g, x) :: r => if g = f then (g, v) :: r else (g, x) :: putF f v r
theorem lookup_putF (f g : Str) (v : V) : ∀ fs : List (Str × V), (putF f v fs).lookup g = if g = f then some v else fs.lookup g
  | [] => by
    show List.lookup g [(f, v)] = _
    by_cases h : g = f
    · have hb : (g == f) = true := beq_iff_eq.mpr h
      simp only [List.lookup, hb, if_pos h]
    · have hb : (g == f) = false := beq_eq_false_iff_ne.mpr h
      simp only [List.lookup, hb, if_neg h]
  | (k, x) :: r => by
    have ih := lookup_putF f g v r
    rw [show putF f v ((k, x) :: r) = (if k = f then (k, v) :: r else (k, x) :: putF f v r) from rfl]
    by_cases hk : k = f
    · rw [if_pos hk]
      by_cases h : g = k
      · have hb : (g == k) = true := beq_iff_eq.mpr h
        simp only [List.lookup, hb, if_pos (h.trans hk)]
      · have hb : (g == k) = false := beq_eq_false_iff_ne.mpr h
        simp only [List.lookup, hb, if_neg (fun e : g = f => h (e.trans hk.symm))]
    · rw [if_neg hk]
      by_cases h : g = k
      · have hb : (g == k) = true := beq_iff_eq.mpr h
        simp only [List.lookup, hb, if_neg (fun e : g = f => hk (h.symm.trans e))]
      · have hb : (g == k) = false := beq_eq_false_iff_ne.mpr h
        simp only [List.lookup, hb]
        exact ih
theorem keys_putF (f : Str) (v : V) : ∀ fs : List (Str × V), f ∈ (putF f v fs).map (·.1) ∧ ∀ g, g ∈ fs.map (·.1) → g ∈ (putF f v fs).map (·.1)
  | [] => ⟨by simp [putF], fun g h => by simp at h⟩
  | (k, x) :: r => by
    obtain ⟨i1, i2⟩ := keys_putF f v r
    rw [show putF f v ((k, x) :: r) = (if k = f then (k, v) :: r else (k, x) :: putF f v r) from rfl]
    by_cases hk : k = f
    · rw [if_pos hk]
      subst hk
      exact ⟨by simp, fun g h => by simpa using h⟩
    · rw [if_neg hk]
      refine ⟨?_, fun g h => ?_⟩
      · rw [List.map_cons]
        exact List.mem_cons_of_mem _ i1
      · rw [List.map_cons] at h ⊢
        rcases List.mem_cons.mp h with e | e
        · exact List.mem_cons.mpr (.inl e)
        · exact List.mem_cons_of_mem _ (i2 g e)
theorem length_putF (f : Str) (v : V) : ∀ fs : List (Str × V), (putF f v fs).length ≤ fs.length + 1
  | [] => by simp [putF]
  | (k, x) :: r => by
    have ih := length_putF f v r
    rw [show putF f v ((k, x) :: r) = (if k = f then (k, v) :: r else (k, x) :: putF f v r) from rfl]
    by_cases hk : k = f
    · rw [if_pos hk, List.length_cons, List.length_cons]; omega
    · rw [if_neg hk, List.length_cons, List.length_cons]; omega
theorem RelO.some_of {v : V} {o : Option Value} (r : RelO (some v) o) : ∃ u, o = some u ∧ RelV v u := by
  cases o with
  | none => exact (show False from r).elim
  | some u => exact ⟨u, rfl, r⟩
theorem RelO.none_of {o : Option Value} (r : RelO none o) : o = none := by
  cases o with
  | none => rfl
  | some u => exact (show False from r).elim
theorem handed_of {v : V} {u : Value} (r : RelV v u) : PySem.W.handedIn u = true := by
  cases v with
  | non => cases (show u = Value.none from r); rfl
  | bl b => cases (show u = Value.bool b from r); rfl
  | int i => obtain ⟨t, e⟩ := (show ∃ t, u = Value.int i t from r); cases e; rfl
  | str x => obtain ⟨t, e⟩ := (show ∃ t, u = Value.str x t from r); cases e; rfl
  | byt b => obtain ⟨t, e⟩ := (show ∃ t, u = Value.bytes b t from r); cases e; rfl
  | flt b => obtain ⟨t, e⟩ := (show ∃ t, u = Value.float b t from r); cases e; rfl
  | ref a => cases (show u = Value.ref a from r); rfl
  | ty n => cases (show u = Value.type n from r); rfl
section
variable {P : Program} {w : World} {H H' : Hp} {h h' : Heap} {a C dx : Addr} {fs fs' : List (Str × V)}
theorem ins_get (hok : HOk P w H h) (e : H a = some (.ins C dx fs)) : ∃ mA, ObjM h a dx C mA ∧ (∀ f, RelO (fs.lookup f) (mA f)) ∧ PySem.Within mA (fs.map (·.1)) ∧ fs.length ≤ 1000 ∧ H dx = some (.own a) := by
  obtain ⟨d, z, ne, ob, mA, n, r, q⟩ := (show ObjOk P w H h a (.ins C dx fs) from hok a _ e)
  exact ⟨mA, ⟨ob, n, ne⟩, r, q, z, d⟩
end
structure Cls (K : PySem.W.Frag) (C : Addr) : Prop where
  pg : PySem.W.plainGet K C Str.empty = true
  hd : PySem.W.hasDictIn K C = true
  po : PySem.W.plainOver K C = true
  sa : PySem.W.findIn K (.ref C) "__setattr__" = some (some (.builtin "object.__setattr__"))
theorem Cls.get {K : PySem.W.Frag} {C : Addr} (c : Cls K C) (f : Str) : PySem.W.plainGet K C f = true := c.pg
def NoAttr (K : PySem.W.Frag) (C : Addr) (f : Str) : Prop := PySem.W.findIn K (.ref C) f = some none
theorem NoAttr.taker {K : PySem.W.Frag} {C : Addr} {f : Str} (n : NoAttr K C f) : PySem.W.takerIn K C f = some none := by
  unfold PySem.W.takerIn
  rw [show PySem.W.findIn K (.ref C) f = some none from n]
  rfl
structure Con (K : PySem.W.Frag) (C : Addr) (f : Str) (v : V) (u : Value) : Prop where
  at_ : PySem.W.findIn K (.ref C) f = some (some u)
  rel : RelV v u
  get : PySem.W.specialIn K u "__get__" = some none
  cp : PySem.W.copiedNames.contains f = false
structure Meth (K : PySem.W.Frag) (C : Addr) (m : Str) (f : Addr) : Prop where
  at_ : PySem.W.findIn K (.ref C) m = some (some (.ref f))
  fn : PySem.W.isFn K (.ref f) = true
  kp : PySem.W.keepIn K (.ref f) = true
section
variable {X : Cx} {pins : List (Addr × Obj)} {σ : St} {H : Hp} {s : Shared} {a C dx : Addr} {fs : List (Str × V)} {f : Str} {v : V} {A : Around} {E : Value → Shared → Prop}
theorem getattr_ok {b : Bool} {Q : Value → Shared → Prop} (I : Inv X pins σ H s) (e : H a = some (.ins C dx fs)) (c : Cls X.K C) (n : NoAttr X.K C f) (l : fs.lookup f = some v)
    (h : ∀ u s', Inv X pins σ H s' → RelV v u → Q u s') : wpAny (model X.prog X.w) A (getAttr (.ref a) f b) Q E s := by
  obtain ⟨mA, O, r, _, _, _⟩ := ins_get I.hok e
  obtain ⟨u, hu, ru⟩ := RelO.some_of (v := v) (o := mA f) (by rw [← l]; exact r f)
  exact get_map I.kIn O (c.get f) c.hd n hu (handed_of ru) (h u _ (I.tok _) ru)
theorem getmeth_ok {m : Str} {g : Addr} {pl : Sem Bool} {Q : Value × List Value → Shared → Prop} (I : Inv X pins σ H s) (e : H a = some (.ins C dx fs)) (c : Cls X.K C) (k : Meth X.K C m g) (l : fs.lookup m = none)
    (h : Q (.ref g, [.ref a]) s) : wpAny (model X.prog X.w) A (getMethod (.ref a) m pl) Q E s := by
  obtain ⟨mA, O, r, _, _, _⟩ := ins_get I.hok e
  have hn : mA m = none := RelO.none_of (by rw [← l]; exact r m)
  exact get_meth I.kIn O (c.get m) k.at_ k.fn hn h
theorem setattr_ok {y : V} {u : Value} {Q : Unit → Shared → Prop} (I : Inv X pins σ H s) (e : H a = some (.ins C dx fs)) (c : Cls X.K C) (n : NoAttr X.K C f) (hl : fs.length < 1000) (ry : RelV y u)
    (h : ∀ s', Inv X pins σ (upd H a (.ins C dx (putF f y fs))) s' → Q () s') : wpAny (model X.prog X.w) A (setAttr (.ref a) f u) Q E s := by
  obtain ⟨mA, O, r, wi, _, ho⟩ := ins_get I.hok e
  have hz : (fs.map (·.1)).length ≤ sizeLine := by rw [List.length_map, sizeLine_eq]; omega
  refine set_map I.kIn O c.sa c.po n.taker c.hd wi hz fun h' O' sb => h _ ?_
  have hd : ∃ o, h'.get? dx = some o := let ⟨o, _, _, e', _⟩ := O'.ns; ⟨o, e'⟩
  refine I.write (x := a) (e := dx) (by rw [e]; exact True.intro) (.inr ho) (fun b q hb z => (sb.2 b hb).trans z) hd ?_
  refine ⟨by rw [upd_ne O.ne]; exact ho, ?_, O.ne, O'.obj, _, O'.ns, fun g => ?_, fun g hg => ?_⟩
  · have := length_putF f y fs; omega
  · show RelO ((putF f y fs).lookup g) (if g = f then some u else mA g)
    rw [lookup_putF]
    by_cases q : g = f
    · rw [if_pos q, if_pos q]; exact ry
    · rw [if_neg q, if_neg q]; exact r g
  · by_cases q : g = f
    · rw [q]; exact (keys_putF f y fs).1
    · refine (keys_putF f y fs).2 g (wi g fun z => hg ?_)
      show (if g = f then some u else mA g) = none
      rw [if_neg q]; exact z
theorem Inv.made (I : Inv X pins σ H s) : Inv X pins σ (upd (upd H s.heap.objs.size (.own (s.heap.objs.size + 1))) (s.heap.objs.size + 1) (.ins C s.heap.objs.size []))
    { s with heap := (s.heap.push PySem.W.emptyDict).push (PySem.W.instObj C s.heap.objs.size) } := by
  have e1 : (s.heap.push PySem.W.emptyDict).get? s.heap.objs.size = some PySem.W.emptyDict := Heap.get?_push_size s.heap rfl
  have e2 : ((s.heap.push PySem.W.emptyDict).push (PySem.W.instObj C s.heap.objs.size)).get? (s.heap.objs.size + 1) = some (PySem.W.instObj C s.heap.objs.size) := by
    have := Heap.get?_push_size (s.heap.push PySem.W.emptyDict) (o := PySem.W.instObj C s.heap.objs.size) rfl
    rwa [Heap.size_push] at this
  have e3 : (s.heap.push PySem.W.emptyDict).Ns s.heap.objs.size (fun _ => none) := ⟨PySem.W.emptyDict, #[], _, e1, rfl, (fun e he => absurd he (by simp)), fun _ => rfl⟩
  have I1 := I.laid (a := s.heap.objs.size) (o := .own (s.heap.objs.size + 1)) (h' := s.heap.push PySem.W.emptyDict) (t' := s.toks) (fun b u q => Heap.get?_push_of_some _ q) (Nat.le_refl _) ⟨_, e1⟩
  refine I1.laid (a := s.heap.objs.size + 1) (o := .ins C s.heap.objs.size []) (t' := s.toks) (fun b u q => Heap.get?_push_of_some _ q) (Nat.le_of_eq (Heap.size_push _ _)) ?_
  have ne : s.heap.objs.size ≠ s.heap.objs.size + 1 := Nat.ne_of_lt (Nat.lt_succ_self _)
  refine ⟨by rw [upd_ne ne, upd_same], Nat.zero_le _, ne, e2, fun _ => none, (Heap.Ns1.of_empty e3).at fun o q => Heap.get?_push_of_some _ q, fun _ => True.intro, fun y hy => absurd rfl hy⟩
theorem attr_of {prog : Program} {w : World} {env : Env} {e : Expr} {f : Str} {pos : Pos} {s : Shared} {Q : Value → Shared → Prop} (hb : attributeBase e f env (eval e env) = eval e env)
    (h : wpAny (model prog w) A (eval e env) (fun o s₁ => wpAny (model prog w) A (getAttr o f true) Q E s₁) E s) : wpAny (model prog w) A (eval (.Attribute e f pos) env) Q E s :=
  Attribute_any_ h (by rw [arm_eval_Attribute, hb])
end
def tFld (K : PySem.W.Frag) (ta : TE) (f : Str) : TE := fun σ H Q => ta σ H fun x H1 => ∃ a C dx fs v, x = .ref a ∧ H1 a = some (.ins C dx fs) ∧ Cls K C ∧ NoAttr K C f ∧ fs.lookup f = some v ∧ Q v H1
def sFld (K : PySem.W.Frag) (ta tv : TE) (f : Str) : TS := fun D σ H => tv σ H fun y H1 => ta σ H1 fun x H2 => ∃ a C dx fs, x = .ref a ∧ H2 a = some (.ins C dx fs) ∧ Cls K C ∧ NoAttr K C f ∧ fs.length < 1000 ∧
  D.nx σ (upd H2 a (.ins C dx (putF f y fs)))
section
variable {X : Cx} {o e value : Expr} {f : Str} {pos pos' tpos : Pos} {ta tv : TE}
theorem pe_fld (he : PE X e ta) (hb : attributeBase e f X.env (eval e X.env) = eval e X.env) : PE X (.Attribute e f pos) (tFld X.K ta f) := by
  intro pins s σ H Q I h
  refine attr_of hb (thn (he pins s σ H _ I h) fun u s1 ⟨x, H1, I1, rx, a, C, dx, fs, v, ex, ea, c, n, l, q⟩ => ?_)
  subst ex
  obtain rfl : u = Value.ref a := rx
  exact getattr_ok I1 ea c n l fun u' s2 I2 ru => ⟨v, H1, I2, ru, q⟩
theorem ps_fld (ha : PE X o ta) (hv : PE X value tv) (hs : swapsWith value (some (.Attribute o f pos')) pos.line X.env = pure false) : PS X (.Assign [.Attribute o f pos'] value pos) (sFld X.K ta tv f) := by
  intro pins s σ H D I h
  refine plainObj_wpAny_Assign_Attribute (thn (hv pins s σ H _ I h) fun u s1 ⟨y, H1, I1, ry, q⟩ => thn (ha pins s1 σ H1 _ I1 q) fun ov s2 ⟨x, H2, I2, rx, a, C, dx, fs, ex, ea, c, n, l, q2⟩ => ?_) hs
  subst ex
  obtain rfl : ov = Value.ref a := rx
  exact setattr_ok I2 ea c n l ry fun s3 I3 => ⟨σ, _, I3, q2⟩
end
section
variable {X : Cx} {pins : List (Addr × Obj)} {σ : St} {H : Hp} {s : Shared} {A : Around} {E : Value → Shared → Prop} {Q : Value → Shared → Prop} {c : Value} {b : Bool}
inductive TyOf (K : PySem.W.Frag) (H : Hp) : V → Value → Prop where
  | non : TyOf K H .non (.type "NoneType")
  | bl (x : Bool) : TyOf K H (.bl x) (.type "bool")
  | int (i : Int) : TyOf K H (.int i) (.type "int")
  | str (x : Str) : TyOf K H (.str x) (.type "str")
  | flt (x : UInt64) : TyOf K H (.flt x) (.type "float")
  | lst {a : Addr} {xs : List V} (e : H a = some (.lst xs)) : TyOf K H (.ref a) (.type "list")
  | frz {a : Addr} {o : Obj} {xs : List V} (e : H a = some (.frz o (.lst xs))) : TyOf K H (.ref a) (.type "list")
  | tup {a : Addr} {xs : List V} (e : H a = some (.tup xs)) : TyOf K H (.ref a) (.type "tuple")
  | dK {a : Addr} {kvs : List (Key × V)} (e : H a = some (.dK kvs)) : TyOf K H (.ref a) (.type "dict")
  | dT {a : Addr} {B : Bool} {kvs : List (PKy × V)} (e : H a = some (.dT B kvs)) : TyOf K H (.ref a) (.type "dict")
  | ins {a C dx : Addr} {fs : List (Str × V)} (e : H a = some (.ins C dx fs)) (cl : Cls K C) (ha : PySem.W.findIn K (.ref C) "__class__" = some (some (.builtin "object.__class__")))
      (hn : PySem.W.specialIn K (.builtin "object.__class__") "__get__" = some (some (.builtin "getset_descriptor.__get__"))) (htk : PySem.W.takesIn K (.builtin "object.__class__") = some true)
      (hm : PySem.W.mroIn K C (.type "object") = some true) : TyOf K H (.ref a) (.ref C)
theorem isinst_ok {x : V} {u t : Value} (I : Inv X pins σ H s) (rx : RelV x u) (ty : TyOf X.K H x t) (e : PySem.W.kitOne X.K t c = some b) (h : ∀ tk, Q (.bool b) { s with toks := tk }) :
    wpAny (model X.prog X.w) A (call (.builtin "isinstance") [u, c]) Q E s := by
  cases ty with
  | non => cases (show u = Value.none from rx); exact PySem.W.kia_one PySem.W.kitx_none I.kIn True.intro e (fun z => nomatch z) h
  | bl y => cases (show u = Value.bool y from rx); exact PySem.W.kia_one PySem.W.kitx_bool I.kIn True.intro e (fun z => nomatch z) h
  | int i => obtain ⟨t, q⟩ := (show ∃ t, u = Value.int i t from rx); cases q; exact PySem.W.kia_one PySem.W.kitx_int I.kIn True.intro e (fun z => nomatch z) h
  | str y => obtain ⟨t, q⟩ := (show ∃ t, u = Value.str y t from rx); cases q; exact PySem.W.kia_one PySem.W.kitx_str I.kIn True.intro e (fun z => nomatch z) h
  | flt y => obtain ⟨t, q⟩ := (show ∃ t, u = Value.float y t from rx); cases q; exact PySem.W.kia_one PySem.W.kitx_float I.kIn True.intro e (fun z => nomatch z) h
  | @lst a xs ea =>
    cases (show u = Value.ref a from rx)
    obtain ⟨_, _, n, _, h1⟩ := (show ObjOk X.prog X.w H s.heap a (.lst xs) from I.hok a _ ea)
    exact PySem.W.kia_one PySem.W.kitx_list I.kIn ⟨_, h1, rfl⟩ e (fun z => nomatch z) h
  | @frz a ob xs ea =>
    cases (show u = Value.ref a from rx)
    obtain ⟨_, _, _, n, _, h1⟩ := (show ObjOk X.prog X.w H s.heap a (.frz ob (.lst xs)) from I.hok a _ ea)
    exact PySem.W.kia_one PySem.W.kitx_list I.kIn ⟨_, h1, rfl⟩ e (fun z => nomatch z) h
  | @tup a xs ea =>
    cases (show u = Value.ref a from rx)
    obtain ⟨_, _, _, p⟩ := (show ObjOk X.prog X.w H s.heap a (.tup xs) from I.hok a _ ea)
    obtain ⟨o, h1, h2, _⟩ := p
    exact PySem.W.kia_one PySem.W.kitx_tuple I.kIn ⟨o, h1, h2⟩ e (fun z => nomatch z) h
  | @dK a kvs ea =>
    cases (show u = Value.ref a from rx)
    obtain ⟨_, _, vs, _, p⟩ := (show ObjOk X.prog X.w H s.heap a (.dK kvs) from I.hok a _ ea)
    obtain ⟨o, es, ep, h1, h2, _⟩ := p
    exact PySem.W.kia_one PySem.W.kitx_dict I.kIn ⟨o, h1, h2.1⟩ e (fun z => nomatch z) h
  | @dT a B kvs ea =>
    cases (show u = Value.ref a from rx)
    obtain ⟨_, _, xs, _, o, es, ep, h1, h2, _⟩ := (show ObjOk X.prog X.w H s.heap a (.dT B kvs) from I.hok a _ ea)
    exact PySem.W.kia_one PySem.W.kitx_dict I.kIn ⟨o, h1, h2.1⟩ e (fun z => nomatch z) h
  | @ins a C dx fs ea cl ha hn htk hm =>
    cases (show u = Value.ref a from rx)
    obtain ⟨mA, O, _⟩ := ins_get I.hok ea
    obtain ⟨od, J, _⟩ := O.look
    exact PySem.W.kia_one (PySem.W.kitx_own (cl.get _) cl.hd ha hn htk hm) I.kIn J e (fun z => nomatch z) h
end
end L2
namespace L2
open PySem PySem.Spec PyProof.Rows
structure Room (k : Nat) (A : Around) : Prop where
  hd : A.handled = none
  dp : A.depth + 3 * k + 5 < recursionLimit
  un : A.units + 16 * k + 200 < cLine
  gd : A.guards = some []
theorem Room.mono {j k : Nat} {A : Around} (r : Room k A) (h : j ≤ k) : Room j A := ⟨r.hd, by have := r.dp; omega, by have := r.un; omega, r.gd⟩
theorem Room.deeper {k : Nat} {A : Around} (r : Room (k + 1) A) (env : Env) : Room k (A.deeper env) :=
  ⟨r.hd, by have := r.dp; show A.depth + 1 + 3 * k + 5 < _; omega, by have := r.un; show A.units + 3 + 16 * k + 200 < _; omega, r.gd⟩
theorem Room.in1 {k : Nat} {A : Around} (r : Room (k + 1) A) : Room k A.in1 :=
  ⟨r.hd, by have := r.dp; show A.depth + 3 * k + 5 < _; omega, by have := r.un; show A.units + 1 + 16 * k + 200 < _; omega, r.gd⟩
theorem make_depth {A : Around} {C : Addr} {us : List Value} {kw : List (Str × Value)} : (A.under (.builtin "type.__call__" ⟨.ref C :: us, kw⟩)).depth = A.depth + 1 := by
  first | rfl | simp [Around.under, Code.weight, Code.isCreation, Code.isGuard, Code.isCaller, Code.frames, Code.isFrame, guardIds]
theorem make_units {A : Around} {C : Addr} {us : List Value} {kw : List (Str × Value)} : (A.under (.builtin "type.__call__" ⟨.ref C :: us, kw⟩)).units = A.units + 1 := by
  first | rfl | simp [Around.under, Code.cUnits, Code.frames, Code.isFrame]
theorem Room.make {k : Nat} {A : Around} (r : Room (k + 1) A) (C : Addr) (us : List Value) (kw : List (Str × Value)) : Room k (A.under (.builtin "type.__call__" ⟨.ref C :: us, kw⟩)) :=
  ⟨r.hd, by have := r.dp; rw [make_depth]; omega, by have := r.un; rw [make_units]; omega, by have := r.gd; first | exact this | (simpa [Around.under, Code.isGuard, guardIds] using this)⟩
theorem Room.depth {k : Nat} {A : Around} (r : Room k A) : A.depth < recursionLimit := by have := r.dp; omega
theorem Room.units {k : Nat} {A : Around} (r : Room k A) : A.units + 64 < cLine := by have := r.un; omega
theorem Room.units0 {k : Nat} {A : Around} (r : Room k A) : A.units < cLine := by have := r.un; omega
def tNil : TA := fun _ H Q => Q [] H
def tCons (ta : TE) (tr : TA) : TA := fun σ H Q => ta σ H fun x H1 => tr σ H1 fun xs H2 => Q (x :: xs) H2
section
variable {X : Cx} {e : Expr} {es : List Expr} {te : TE} {t : TA} {pos : Pos}
theorem pa_nil : PA X [] tNil := fun _ _ _ _ H Q I h => Calls.spliced_nil ⟨[], H, I, .nil, h⟩
theorem pa_cons (ha : PE X e te) (hr : PA X es t) (hs : starEach (e :: es) X.env = (false, eval e X.env) :: starEach es X.env := by rfl) : PA X (e :: es) (tCons te t) := by
  intro pos pins s σ H Q I h
  rw [hs]
  show wpAny _ _ (spliced ((false, eval e X.env) :: backTo pos (starEach es X.env))) _ _ s
  refine Calls.spliced_cons (thn (ha pins s σ H _ I h) fun u s1 ⟨x, H1, I1, r1, q1⟩ => ?_)
  exact thn (hr pos pins s1 σ H1 _ I1 q1) fun us s2 ⟨xs, H2, I2, r2, q2⟩ => ⟨x :: xs, H2, I2, .cons r1 r2, q2⟩
def tTup (t : TA) : TE := fun σ H Q => t σ H fun xs H1 => xs.length ≤ sizeLine ∧ ∀ p, H1 p = none → Q (.ref p) (upd H1 p (.tup xs))
def tLst (t : TA) : TE := fun σ H Q => t σ H fun xs H1 => xs.length ≤ sizeLine ∧ ∀ p, H1 p = none → Q (.ref p) (upd H1 p (.lst xs))
theorem pe_tup {x1} (h : PA X es t) : PE X (.Tuple es x1 pos) (tTup t) := by
  intro pins s σ H Q I hq
  refine wpAny_Tuple_spliced (thn (h pos pins s σ H _ I hq) fun us s1 ⟨xs, H1, I1, r, z, q⟩ => ⟨by rw [← r.length]; exact z, ?_⟩)
  have hf : H1 s1.heap.objs.size = none := I1.hok.fresh (Nat.le_refl _)
  refine ⟨.ref s1.heap.objs.size, upd H1 s1.heap.objs.size (.tup xs), I1.laid (t' := s1.toks) (fun b u e => Heap.get?_push_of_some _ e) (Nat.le_refl _) ?_, rfl, q _ hf⟩
  exact ⟨z, us, r, ⟨_, Heap.get?_push_size _ rfl, rfl, _, rfl⟩⟩
theorem pe_lst (h : PA X es t) : PE X (.List es pos) (tLst t) := by
  intro pins s σ H Q I hq
  refine wpAny_List_spliced (thn (h pos pins s σ H _ I hq) fun us s1 ⟨xs, H1, I1, r, z, q⟩ => ⟨by rw [← r.length]; exact z, ?_⟩)
  have hf : H1 s1.heap.objs.size = none := I1.hok.fresh (Nat.le_refl _)
  refine ⟨.ref s1.heap.objs.size, upd H1 s1.heap.objs.size (.lst xs), I1.laid (t' := s1.toks) (fun b u e => Heap.get?_push_of_some _ e) (Nat.le_refl _) ?_, rfl, q _ hf⟩
  exact ⟨z, us, 0, r, Heap.get?_push_size _ rfl⟩
end
abbrev Sp := List V → Hp → VK → XK → Prop
abbrev CXT := List Env → Hp → Shared → XK → Value → Shared → Prop
structure Env0 (P : Program) (w : World) (K : PySem.W.Frag) (mg : Str → Option Value) (base : Heap) (A : Around) (outer : List Env) (s : Shared) (H : Hp) : Prop where
  frames : A.frames = some outer
  mod : Mod K mg base
  bs : ∀ b o, base.get? b = some o → s.heap.get? b = some o ∧ H b = none
  bsz : base.objs.size ≤ s.heap.objs.size
  funs : s.heap.FunFrames base outer
  frf : ∀ b ∈ frs outer, H b = none
  hok : HOk P w H s.heap
  bare : AllBare s.gens
def CE (outer : List Env) (P : Program) (w : World) (H : Hp) (s : Shared) (Q : VK) (u : Value) (s' : Shared) : Prop :=
  ∃ v H', s'.os = s.os ∧ AllBare s'.gens ∧ Un (frs outer) [] H H' s.heap s'.heap ∧ HOk P w H' s'.heap ∧ RelV v u ∧ Q v H'
def CR (CX : CXT) (outer : List Env) (P : Program) (w : World) (H : Hp) (s : Shared) (Q : VK) (E : XK) (r : Result) (s' : Shared) : Prop :=
  match r with
  | .ok (.ret u) => CE outer P w H s Q u s'
  | .ok _ => False
  | .error e => CX outer H s E e s'
structure FnOk (P : Program) (w : World) (K : PySem.W.Frag) (mg : Str → Option Value) (base : Heap) (CX : CXT) (k : Nat) (f : Addr) (fd : FuncData) (ps : List Str) (sp : Sp) : Prop where
  len : ∀ vs H Q E, sp vs H Q E → vs.length = ps.length
  run : ∀ (A : Around) (outer : List Env) (s : Shared) (H : Hp) (args : Args) (us : List Value) (vs : List V) (Q : VK) (E : XK), Room k A → Env0 P w K mg base A outer s H → BindsTo s fd args (ps.zip us) → Vals vs us → sp vs H Q E →
    codeAny (model P w) A (.call (.ref f) args) (CR CX outer P w H s Q E) s
theorem FnOk.mono {P : Program} {w : World} {K : PySem.W.Frag} {mg : Str → Option Value} {base : Heap} {CX : CXT} {j k : Nat} {f : Addr} {fd : FuncData} {ps : List Str} {sp : Sp} (F : FnOk P w K mg base CX j f fd ps sp) (h : j ≤ k) :
    FnOk P w K mg base CX k f fd ps sp := ⟨F.len, fun A outer s H args us vs Q E hr => F.run A outer s H args us vs Q E (hr.mono h)⟩
theorem FnOk.imp {P : Program} {w : World} {K : PySem.W.Frag} {mg : Str → Option Value} {base : Heap} {CX : CXT} {k : Nat} {f : Addr} {fd : FuncData} {ps : List Str} {sp sp' : Sp} (F : FnOk P w K mg base CX k f fd ps sp)
    (h : ∀ vs H Q E, sp' vs H Q E → sp vs H Q E) : FnOk P w K mg base CX k f fd ps sp' :=
  ⟨fun vs H Q E q => F.len vs H Q E (h _ _ _ _ q), fun A outer s H args us vs Q E hr he hb hv hs => F.run A outer s H args us vs Q E hr he hb hv (h _ _ _ _ hs)⟩
theorem Env0.make {P : Program} {w : World} {K : PySem.W.Frag} {mg : Str → Option Value} {base : Heap} {A : Around} {outer : List Env} {s : Shared} {H : Hp} (e : Env0 P w K mg base A outer s H) (C : Addr) (us : List Value) (kw : List (Str × Value)) :
    Env0 P w K mg base (A.under (.builtin "type.__call__" ⟨.ref C :: us, kw⟩)) outer s H := ⟨by first | exact e.frames | (simpa [Around.under, Code.envs, Code.isFrame, pushEnvs] using e.frames), e.mod, e.bs, e.bsz, e.funs, e.frf, e.hok, e.bare⟩
theorem Env0.in1 {P : Program} {w : World} {K : PySem.W.Frag} {mg : Str → Option Value} {base : Heap} {A : Around} {outer : List Env} {s : Shared} {H : Hp} (e : Env0 P w K mg base A outer s H) :
    Env0 P w K mg base A.in1 outer s H := ⟨e.frames, e.mod, e.bs, e.bsz, e.funs, e.frf, e.hok, e.bare⟩
section
variable {X : Cx} {pins : List (Addr × Obj)} {σ : St} {H : Hp} {s s' : Shared}
theorem Inv.env0 (I : Inv X pins σ H s) : Env0 X.prog X.w X.K X.mg X.base X.A X.stack s H :=
  ⟨I.ok.frames, I.ok.mod, I.bs, Nat.le_trans I.ok.bsz I.sz, I.stack, I.stkFree, I.hok, I.bare⟩
theorem Inv.after {Q : VK} {u : Value} (I : Inv X pins σ H s) (h : CE X.stack X.prog X.w H s Q u s') : EP X pins σ Q u s' := by
  obtain ⟨v, H', os, bare, un, hok, r, q⟩ := h
  obtain ⟨hh, g, d, t, os'⟩ := s'
  obtain rfl : os' = s.os := os
  exact ⟨v, H', I.call (h' := hh) (g' := g) (d' := d) (t' := t) (ch := []) un hok bare (fun b z => absurd z (by simp)), r, q⟩
end
def tCall (sp : Sp) (dvs : List V) (E : XK) (t : TA) : TE := fun σ H Q => t σ H fun vs H1 => sp (vs ++ dvs) H1 Q E
def tMeth (C : Addr) (m : Str) (sp : Sp) (dvs : List V) (E : XK) (ta : TE) (t : TA) : TE := fun σ H Q => ta σ H fun x H1 => ∃ a dx fs, x = .ref a ∧ H1 a = some (.ins C dx fs) ∧ fs.lookup m = none ∧
  t σ H1 fun vs H2 => sp (x :: (vs ++ dvs)) H2 Q E
def tMake (C : Addr) (sp : Sp) (dvs : List V) (E : XK) (t : TA) : TE := fun σ H Q => t σ H fun vs H1 => ∀ x dx, H1 x = none → H1 dx = none → dx ≠ x →
  sp (.ref x :: (vs ++ dvs)) (upd (upd H1 dx (.own x)) x (.ins C dx [])) (fun v H2 => v = .non ∧ Q (.ref x) H2) E
def Binds (K : PySem.W.Frag) (fd : FuncData) (ps : List Str) (ds : List Value) : Prop :=
  ∀ (s : Shared) (us : List Value), K.In s.heap → (us ++ ds).length = ps.length → BindsTo s fd ⟨us, []⟩ (ps.zip (us ++ ds))
theorem Binds.all {K : PySem.W.Frag} {fd : FuncData} {ps : List Str} (h : ∀ us : List Value, us.length = ps.length → bindArgs fd ⟨us, []⟩ = pure (ps.zip us)) : Binds K fd ps [] := fun s us _ hl => by
  rw [List.append_nil] at hl ⊢
  exact .of_eq (h us hl)
def Passes (CX : CXT) (X : Cx) (E : XK) : Prop := ∀ (pins : List (Addr × Obj)) (σ : St) (H : Hp) (s : Shared) (e : Value) (s' : Shared), Inv X pins σ H s → CX X.stack H s E e s' → X.xe e s'
section
variable {X : Cx} {CX : CXT} {k : Nat} {f C : Addr} {fd : FuncData} {ps : List Str} {sp : Sp} {dvs : List V} {ds : List Value} {E : XK} {x m : Str} {p pos apos : Pos} {e o : Expr} {es : List Expr} {ta : TE} {t : TA}
theorem run_fn {pins : List (Addr × Obj)} {σ : St} {H : Hp} {s : Shared} {Q : VK} {us : List Value} {vs : List V} (F : FnOk X.prog X.w X.K X.mg X.base CX k f fd ps sp) (hr : Room k X.A) (hb : Binds X.K fd ps ds) (hd : Vals dvs ds) (hx : Passes CX X E)
    (I : Inv X pins σ H s) (r : Vals vs us) (h : sp (vs ++ dvs) H Q E) : wpAny (model X.prog X.w) X.A (call (.ref f) us) (EP X pins σ Q) X.xe s := by
  have r2 : Vals (vs ++ dvs) (us ++ ds) := r.append hd
  have hl : (us ++ ds).length = ps.length := by rw [← r2.length]; exact F.len _ _ _ _ h
  refine wpAny_call (codeAny_mono (F.run X.A X.stack s H ⟨us, []⟩ (us ++ ds) (vs ++ dvs) Q E hr I.env0 (hb s us I.kIn hl) r2 h) fun r s' hq => ?_)
  cases r with
  | error e => exact hx pins σ H s e s' I hq
  | ok fl =>
    cases fl with
    | ret u => exact I.after hq
    | next => exact False.elim hq
    | brk => exact False.elim hq
    | cont => exact False.elim hq
theorem pe_call (F : FnOk X.prog X.w X.K X.mg X.base CX k f fd ps sp) (hr : Room k X.A) (hg : Gl X x) (hm : X.mg x = some (.ref f)) (hk : PySem.W.keepIn X.K (.ref f) = true) (hb : Binds X.K fd ps ds) (hd : Vals dvs ds) (hx : Passes CX X E)
    (ha : PA X (e :: es) t) (hdb : (x == ("__debug__" : Str)) = false := by decide) (he : starEach (e :: es) X.env = (false, eval e X.env) :: starEach es X.env := by rfl) (hpl : (backTo pos (starEach es X.env)).any (·.1) = false := by rfl) :
    PE X (.Call (.Name x p) (e :: es) [] pos) (tCall sp dvs E t) := by
  intro pins s σ H Q I h
  refine wpAny_Call_Name_kw (ld_glob I hg hm ?_ hdb)
  refine PySem.W.callWith_K (h₀ := X.base) I.ok.mod.kin hk (thn (ha pos pins s σ H _ I h) fun us s1 ⟨vs, H1, I1, r, q⟩ => ⟨I1.kIn, ?_⟩) he hpl
  exact run_fn F hr hb hd hx I1 r q
theorem pe_meth {pl : Sem Bool} (he : PE X o ta) (c : Cls X.K C) (hm : Meth X.K C m f) (F : FnOk X.prog X.w X.K X.mg X.base CX k f fd ps sp) (hr : Room k X.A) (hb : Binds X.K fd ps ds) (hd : Vals dvs ds) (hx : Passes CX X E) (ha : PA X (e :: es) t)
    (hst : starEach (e :: es) X.env = (false, eval e X.env) :: starEach es X.env := by rfl) (hpl : (backTo pos (starEach es X.env)).any (·.1) = false := by rfl)
    (ht : eval (.Call (.Attribute o m apos) (e :: es) [] pos) X.env = (do
      let ov ← eval o X.env
      standAt apos.atName
      let (f, first) ← holding [ov] (getMethod ov m pl)
      callWith pos f first (backTo pos (starEach (e :: es) X.env)) (backToKw pos (keywordEach [] X.env))) := by rfl) :
    PE X (.Call (.Attribute o m apos) (e :: es) [] pos) (tMeth C m sp dvs E ta t) := by
  intro pins s σ H Q I h
  refine PySem.W.methodCall_KW (pl := pl) (thn (he pins s σ H _ I h) fun u s1 ⟨x, H1, I1, rx, a, dx, fs, ex, ea, l, q⟩ => ?_) ht
  subst ex
  obtain rfl : u = Value.ref a := rx
  refine getmeth_ok I1 ea c hm l ?_
  refine PySem.W.callWith_K (first := [.ref a]) (h₀ := X.base) I.ok.mod.kin hm.kp (thn (ha pos pins s1 σ H1 _ I1 q) fun us s2 ⟨vs, H2, I2, r, q2⟩ => ⟨I2.kIn, ?_⟩) hst hpl
  exact run_fn (us := .ref a :: us) (vs := .ref a :: vs) F hr hb hd hx I2 (.cons rfl r) q2
theorem pe_meth0 {pl : Sem Bool} (he : PE X o ta) (c : Cls X.K C) (hm : Meth X.K C m f) (F : FnOk X.prog X.w X.K X.mg X.base CX k f fd ps sp) (hr : Room k X.A) (hb : Binds X.K fd ps ds) (hd : Vals dvs ds) (hx : Passes CX X E)
    (ht : eval (.Call (.Attribute o m apos) [] [] pos) X.env = (do
      let ov ← eval o X.env
      standAt apos.atName
      let (f, first) ← holding [ov] (getMethod ov m pl)
      callWith pos f first (backTo pos (starEach [] X.env)) (backToKw pos (keywordEach [] X.env))) := by rfl) :
    PE X (.Call (.Attribute o m apos) [] [] pos) (tMeth C m sp dvs E ta tNil) := by
  intro pins s σ H Q I h
  refine PySem.W.methodCall_KW (pl := pl) (thn (he pins s σ H _ I h) fun u s1 ⟨x, H1, I1, rx, a, dx, fs, ex, ea, l, q⟩ => ?_) ht
  subst ex
  obtain rfl : u = Value.ref a := rx
  refine getmeth_ok I1 ea c hm l ?_
  exact PySem.W.callWith_K0 (first := [.ref a]) I1.kIn hm.kp (run_fn (us := [.ref a]) (vs := [.ref a]) F hr hb hd hx I1 (.cons rfl .nil) q)
structure Mk (K : PySem.W.Frag) (C f : Addr) : Prop where
  makes : PySem.W.makesIn K C = true
  init : PySem.W.findIn K (.ref C) "__init__" = some (some (.ref f))
  fn : PySem.W.isFn K (.ref f) = true
  kp : PySem.W.keepIn K (.ref C) = true
theorem run_make {pins : List (Addr × Obj)} {σ : St} {H : Hp} {s : Shared} {Q : VK} {us : List Value} {vs : List V} (M : Mk X.K C f) (F : FnOk X.prog X.w X.K X.mg X.base CX k f fd ps sp) (hr : Room (k + 1) X.A) (hb : Binds X.K fd ps ds) (hd : Vals dvs ds)
    (hx : Passes CX X E) (I : Inv X pins σ H s) (r : Vals vs us)
    (h : ∀ x dx, H x = none → H dx = none → dx ≠ x → sp (.ref x :: (vs ++ dvs)) (upd (upd H dx (.own x)) x (.ins C dx [])) (fun v H2 => v = .non ∧ Q (.ref x) H2) E) :
    wpAny (model X.prog X.w) X.A (call (.ref C) us) (EP X pins σ Q) X.xe s := by
  have hq := h (s.heap.objs.size + 1) s.heap.objs.size (I.hok.fresh (Nat.le_succ _)) (I.hok.fresh (Nat.le_refl _)) (Nat.ne_of_lt (Nat.lt_succ_self _))
  have I2 := Inv.made (C := C) I
  have r2 : Vals (V.ref (s.heap.objs.size + 1) :: (vs ++ dvs)) (Value.ref (s.heap.objs.size + 1) :: (us ++ ds)) := .cons rfl (r.append hd)
  have hl : (Value.ref (s.heap.objs.size + 1) :: us ++ ds).length = ps.length := by
    have e := r2.length
    rw [F.len _ _ _ _ hq] at e
    exact e.symm
  refine wpAny_call (make_map (f := f) I.kIn M.makes M.init (beq_iff_eq.mp M.fn) (codeAny_mono (F.run _ X.stack _ _ ⟨Value.ref (s.heap.objs.size + 1) :: us, []⟩ (Value.ref (s.heap.objs.size + 1) :: (us ++ ds)) _ _ E (hr.make C us [])
    (I2.env0.make C us []) (hb _ (Value.ref (s.heap.objs.size + 1) :: us) I2.kIn hl) r2 hq) fun r s' hq' => ?_))
  cases r with
  | error e => exact hx pins σ _ _ e s' I2 hq'
  | ok fl =>
    cases fl with
    | ret u =>
      obtain ⟨v, H', I3, rv, ev, q3⟩ := I2.after hq'
      subst ev
      exact ⟨rv, ⟨V.ref (s.heap.objs.size + 1), H', I3, rfl, q3⟩⟩
    | next => exact False.elim hq'
    | brk => exact False.elim hq'
    | cont => exact False.elim hq'
theorem pe_make (M : Mk X.K C f) (F : FnOk X.prog X.w X.K X.mg X.base CX k f fd ps sp) (hr : Room (k + 1) X.A) (hg : Gl X x) (hm : X.mg x = some (.ref C)) (hb : Binds X.K fd ps ds) (hd : Vals dvs ds) (hx : Passes CX X E)
    (ha : PA X (e :: es) t) (hdb : (x == ("__debug__" : Str)) = false := by decide) (he : starEach (e :: es) X.env = (false, eval e X.env) :: starEach es X.env := by rfl) (hpl : (backTo pos (starEach es X.env)).any (·.1) = false := by rfl) :
    PE X (.Call (.Name x p) (e :: es) [] pos) (tMake C sp dvs E t) := by
  intro pins s σ H Q I h
  refine wpAny_Call_Name_kw (ld_glob I hg hm ?_ hdb)
  refine PySem.W.callWith_K (h₀ := X.base) I.ok.mod.kin M.kp (thn (ha pos pins s σ H _ I h) fun us s1 ⟨vs, H1, I1, r, q⟩ => ⟨I1.kIn, ?_⟩) he hpl
  exact run_make M F hr hb hd hx I1 r q
end
section
variable {X : Cx} {CX : CXT} {k : Nat} {f C : Addr} {fd : FuncData} {ps ks : List Str} {sp : Sp} {E : XK} {x m : Str} {p pos apos kpos : Pos} {e o : Expr} {es : List Expr} {kws : List Keyword} {te ta : TE} {t tk : TA} {nm : Option Str}
structure KBinds (K : PySem.W.Frag) (fd : FuncData) (ps ks : List Str) (g : List Value → List Value → List Value) (gV : List V → List V → List V) : Prop where
  to : ∀ (s : Shared) (us ws : List Value), K.In s.heap → (g us ws).length = ps.length → BindsTo s fd ⟨us, ks.zip ws⟩ (ps.zip (g us ws))
  rel : ∀ {vs : List V} {us : List Value} {zs : List V} {ws : List Value}, Vals vs us → Vals zs ws → Vals (gV vs zs) (g us ws)
variable {g : List Value → List Value → List Value} {gV : List V → List V → List V}
end
structure FnScope (N P : List Str) (sc : Scope) : Prop where
  kind : sc.kind = .function
  co : sc.isCoroutine = false
  gen : sc.isGenerator = false
  nd : N.Nodup
  pre : N.take P.length = P
  par : ∀ x ∈ P, sc.names.lookup x = some .local ∨ sc.names.lookup x = some .cell
  nofree : ∀ y ∈ sc.names, y.2 ≠ .free
theorem bindL_out {kindOf : Str → Option NameKind} {x : Str} : ∀ {binds : List (Str × Value)} {m : Str → Option Value}, (∀ v, (x, v) ∉ binds) → bindL kindOf binds m x = m x
  | [], _, _ => rfl
  | (n, v) :: r, m, h => by
    unfold bindL
    rw [bindL_out fun w hw => h w (List.mem_cons_of_mem _ hw)]
    split
    · have : x ≠ n := by rintro rfl; exact h v List.mem_cons_self
      simp [this]
    · rfl
theorem bindC_out {kindOf : Str → Option NameKind} {x : Str} : ∀ {binds : List (Str × Value)} {m : Str → Option Value}, (∀ v, (x, v) ∉ binds) → bindC kindOf binds m x = m x
  | [], _, _ => rfl
  | (n, v) :: r, m, h => by
    unfold bindC
    rw [bindC_out fun w hw => h w (List.mem_cons_of_mem _ hw)]
    split
    · rfl
    · have : x ≠ n := by rintro rfl; exact h v List.mem_cons_self
      simp [this]
theorem bindL_get {kindOf : Str → Option NameKind} {x : Str} {v : Value} : ∀ {P : List Str} {vs : List Value} {i : Nat} {m : Str → Option Value}, P.Nodup → P[i]? = some x → vs[i]? = some v → kindOf x = some .local →
    bindL kindOf (P.zip vs) m x = some v
  | [], _, _, _, _, h, _, _ => by simp at h
  | _ :: _, [], _, _, _, _, h, _ => by simp at h
  | p :: P, w :: vs, 0, m, nd, h1, h2, hk => by
    simp at h1 h2; subst h1; subst h2
    show bindL kindOf ((p, w) :: P.zip vs) m p = _
    unfold bindL
    rw [bindL_out fun v hv => (List.nodup_cons.mp nd).1 (List.of_mem_zip hv).1, if_pos hk]
    simp
  | p :: P, w :: vs, i + 1, m, nd, h1, h2, hk => by
    show bindL kindOf ((p, w) :: P.zip vs) m x = _
    unfold bindL
    exact bindL_get (i := i) (List.nodup_cons.mp nd).2 (by simpa using h1) (by simpa using h2) hk
theorem bindC_get {kindOf : Str → Option NameKind} {x : Str} {v : Value} : ∀ {P : List Str} {vs : List Value} {i : Nat} {m : Str → Option Value}, P.Nodup → P[i]? = some x → vs[i]? = some v → kindOf x ≠ some .local →
    bindC kindOf (P.zip vs) m x = some v
  | [], _, _, _, _, h, _, _ => by simp at h
  | _ :: _, [], _, _, _, _, h, _ => by simp at h
  | p :: P, w :: vs, 0, m, nd, h1, h2, hk => by
    simp at h1 h2; subst h1; subst h2
    show bindC kindOf ((p, w) :: P.zip vs) m p = _
    unfold bindC
    rw [bindC_out fun v hv => (List.nodup_cons.mp nd).1 (List.of_mem_zip hv).1, if_neg hk]
    simp
  | p :: P, w :: vs, i + 1, m, nd, h1, h2, hk => by
    show bindC kindOf ((p, w) :: P.zip vs) m x = _
    unfold bindC
    exact bindC_get (i := i) (List.nodup_cons.mp nd).2 (by simpa using h1) (by simpa using h2) hk
def start (N : List Str) (vs : List V) : St := vs.map some ++ List.replicate (N.length - vs.length) none
def cxOf (CX : CXT) (P : Program) (w : World) (K : PySem.W.Frag) (mg : Str → Option Value) (base : Heap) (N : List Str) (qual : Str) (scope : Scope) (f : Addr) (cd : Value) (A : Around) (outer : List Env) (s : Shared) (H : Hp) (E : XK) : Cx where
  prog := P
  w := w
  K := K
  mg := mg
  base := base
  A := A.deeper (envOfC qual scope s.heap.objs.size f cd)
  N := N
  s₀ := s
  H₀ := H
  env := envOfC qual scope s.heap.objs.size f cd
  outer := outer
  stack := envOfC qual scope s.heap.objs.size f cd :: outer
  ex := []
  calm := true
  fn := fun _ => true
  pn := []
  xe := fun e s' => wpAny (model P w) (A.deeper (envOfC qual scope s.heap.objs.size f cd)) (leaving (envOfC qual scope s.heap.objs.size f cd) e) (fun _ s'' => CX outer H s E e s'') (fun e' s'' => CX outer H s E e' s'') s'
theorem cell_has {sc : Scope} {n : Nat} {x : Str} (h : sc.names.lookup x = some .cell) : ∃ c, (cellsFrom n sc.names []).lookup x = some c := by
  have q := PySem.W.cellsFrom_some sc.names n [] (.inl h)
  exact Option.isSome_iff_exists.mp q
theorem inv_start {CX : CXT} {P : Program} {w : World} {K : PySem.W.Frag} {mg : Str → Option Value} {base : Heap} {N ps : List Str} {qual : Str} {scope : Scope} {f : Addr} {cd : Value} {A : Around} {outer : List Env} {s s1 : Shared} {H : Hp} {E : XK} {us : List Value} {vs : List V}
    (S : FnScope N ps scope) (hd : A.handled = none) (e0 : Env0 P w K mg base A outer s H) (hl : vs.length = ps.length) (r : Vals vs us)
    (x : InCallC s s.heap.objs.size (bindL (envOfC qual scope s.heap.objs.size f cd).kindOf (ps.zip us) fun _ => none) (cellsFrom (s.heap.objs.size + 1) scope.names []) (bindC (envOfC qual scope s.heap.objs.size f cd).kindOf (ps.zip us) fun _ => none) s1) :
    Inv (cxOf CX P w K mg base N qual scope f cd A outer s H E) [] (start N vs) H s1 := by
  have hpl : ps.length ≤ N.length := by have := congrArg List.length S.pre; rw [List.length_take] at this; omega
  obtain ⟨h1, tk, rfl, hk⟩ := x.done
  have noA : ∀ b : Addr, b ∉ (cxOf CX P w K mg base N qual scope f cd A outer s H E).ex := fun b z => absurd (show b ∈ ([] : List Addr) from z) (by simp)
  refine ⟨⟨e0.mod, S.kind, rfl, rfl, Nat.le_refl _, fun y z c h1 h2 => ?_, fun y hy => ?_, fun y c _ h => ?_, fun _ => hd, Around.frames_deeper e0.frames, .inr ⟨rfl, rfl⟩, fun b z => absurd z (noA b), e0.bs, e0.bsz, fun b _ _ => noA b, fun b z => absurd z (noA b), e0.funs, e0.frf⟩,
    rfl, e0.bare, Un.kept hk, ⟨_, x.toInCall.ns, fun i y v h1 h2 h3 => ?_⟩, fun y c h => ⟨_, x.cell y c h⟩, e0.hok.fresh (Nat.le_refl _), fun y c h => ?_, fun p hp => absurd (show p ∈ ([] : List (Addr × Obj)) from hp) (by simp), e0.hok.kept hk, ?_⟩
  · exact name_of_addr x.apart (PySem.mem_of_lookup h1) (PySem.mem_of_lookup h2)
  · have hy : scope.names.lookup y = some .cell ∨ scope.names.lookup y = some .free := hy
    rcases hy with hy | hy
    · exact cell_has hy
    · exact absurd rfl (S.nofree _ (PySem.mem_of_lookup hy))
  · exact Nat.le_of_lt (x.above y c (PySem.mem_of_lookup h))
  · have hi : i < vs.length := by
      unfold start at h2
      by_cases hi : i < vs.length
      · exact hi
      · rw [List.getElem?_append_right (by simpa using hi)] at h2
        rw [List.getElem?_replicate] at h2
        split at h2 <;> cases h2
    have ha : vs[i]? = some v := by
      unfold start at h2
      rw [List.getElem?_append_left (by simpa using hi), List.getElem?_map] at h2
      cases e : vs[i]? with
      | none => rw [e] at h2; cases h2
      | some a => rw [e] at h2; cases h2; rfl
    obtain ⟨u, hu, rv⟩ := r.get ha
    have hp : ps[i]? = some y := by
      rw [← S.pre, List.getElem?_take_of_lt (by omega)]; exact h1
    have ndP : ps.Nodup := by rw [← S.pre]; exact S.nd.sublist (List.take_sublist _ _)
    refine ⟨u, rv, ?_⟩
    rcases S.par y (List.mem_of_getElem? hp) with k | k
    · exact .inl ⟨k, bindL_get ndP hp hu k⟩
    · obtain ⟨c, e⟩ := cell_has (n := s.heap.objs.size + 1) k
      refine .inr ⟨.inl k, c, e, ?_⟩
      have q := x.cell y c e
      rw [bindC_get ndP hp hu (by show scope.names.lookup y ≠ _; rw [k]; decide)] at q
      exact q
  · exact e0.hok.fresh (Nat.le_of_lt (x.above y c (PySem.mem_of_lookup h)))
  · unfold start
    show _ = N.length
    rw [List.length_append, List.length_map, List.length_replicate]
    omega
theorem fn_of {CX : CXT} {P : Program} {w : World} {K : PySem.W.Frag} {mg : Str → Option Value} {base : Heap} {k : Nat} {f : Addr} {name qual : Str} {params : Arguments} {body : List Stmt} {scope : Scope} {dV kV doc pm cdv ct oc : Value} {an od : Option Addr}
    {osl : Array (Option Value)} {N ps : List Str} {sp : Sp} (lk : K.lookup f = some ⟨oc, od, .func (PySem.W.fnOf name qual params body scope dV kV doc pm an cdv ct), osl⟩) (hcd : PySem.W.codeIn K cdv qual = true) (S : FnScope N ps scope)
    (len : ∀ vs H Q E, sp vs H Q E → vs.length = ps.length)
    (hbody : ∀ (A : Around) (outer : List Env) (s : Shared) (H : Hp) (vs : List V) (Q : VK) (E : XK), Room k (A.deeper (envOfC qual scope s.heap.objs.size f cdv)) → sp vs H Q E →
      ∃ t, PSs (cxOf CX P w K mg base N qual scope f cdv A outer s H E) body t ∧ t { nx := fun _ H' => Q .non H', rt := Q } (start N vs) H) :
    FnOk P w K mg base CX (k + 1) f (PySem.W.fnOf name qual params body scope dV kV doc pm an cdv ct) ps sp := by
  refine ⟨len, fun A outer s H args us vs Q E hr e0 hb r hsp => ?_⟩
  have hl := len _ _ _ _ hsp
  have KX : K.In s.heap := e0.mod.kin.keeps fun b o e => (e0.bs b o e).1
  have lim : s.heap.NoLimit := e0.mod.nolimit.keeps fun b o e => (e0.bs b o e).1
  have hkind : ∀ y ∈ ps.zip us, scope.names.lookup y.1 = some .local ∨ (scope.names.lookup y.1 = some .cell ∧ ((cellsFrom (s.heap.objs.size + 1) scope.names []).lookup y.1).isSome = true) := fun ⟨n, v⟩ hy => by
    rcases S.par n (List.of_mem_zip hy).1 with q | q
    · exact .inl q
    · exact .inr ⟨q, PySem.W.cellsFrom_some _ _ _ (.inl q)⟩
  refine codeAny_call_function hr.depth (KX _ _ lk) rfl S.co S.gen rfl (PySem.W.codeRec_of KX hcd) (hb _ _ _ _ ?_)
  refine wpAny_newFunctionEnv_cells S.kind hkind fun env he s1 x => ?_
  subst he
  refine ⟨lim.keeps x.toInCall.keep, codeAny_func ?_⟩
  obtain ⟨t, ht, hq⟩ := hbody A outer s H vs Q E (hr.deeper _) hsp
  have I : Inv (cxOf CX P w K mg base N qual scope f cdv A outer s H E) [] (start N vs) H s1 := inv_start S hr.hd e0 hl r x
  refine wpAny_mono (ht [] s1 (start N vs) H _ I hq) (fun fl s' hs => ?_) fun e s' hs => hs
  have fin : ∀ {σ' : St} {H' : Hp} {v : V} {u : Value}, Inv (cxOf CX P w K mg base N qual scope f cdv A outer s H E) [] σ' H' s' → RelV v u → Q v H' → CE outer P w H s Q u s' :=
    fun {σ' H' v u} J rv q => ⟨v, H', J.os, J.bare, J.base, J.hok, rv, q⟩
  cases fl with
  | ret u =>
    obtain ⟨v, σ', H', J, rv, q⟩ := hs
    exact fin J rv q
  | next =>
    obtain ⟨σ', H', J, q⟩ := hs
    exact fin (v := V.non) (u := Value.none) J rfl q
  | brk =>
    obtain ⟨_, _, _, q⟩ := hs
    exact False.elim q
  | cont =>
    obtain ⟨_, _, _, q⟩ := hs
    exact False.elim q
end L2
namespace L2
open PySem PySem.Spec PyProof.Rows
section
variable {X : Cx} {x : Str} {p pos : Pos} {e : Expr} {es : List Expr} {t : TA} {id T : String} {r : List V → Hp → VK → Prop}
def tCB (r : List V → Hp → VK → Prop) (t : TA) : TE := fun σ H Q => t σ H fun vs H1 => r vs H1 Q
theorem pe_callB (hc : CallR X (.builtin id) r) (hg : Gl X x) (hm : X.mg x = none) (hv : bootBuiltins x = some (.builtin id)) (ha : PA X (e :: es) t) (hn : x ≠ "__name__" := by decide) (hdb : (x == ("__debug__" : Str)) = false := by decide)
    (he : starEach (e :: es) X.env = (false, eval e X.env) :: starEach es X.env := by rfl) (hpl : (backTo pos (starEach es X.env)).any (·.1) = false := by rfl) : PE X (.Call (.Name x p) (e :: es) [] pos) (tCB r t) := by
  intro pins s σ H Q I h
  refine wpAny_Call_Name_kw (ld_blt I hg hm hv ?_ hn hdb)
  exact PyProof.Rows.callWith_builtin1 (thn (ha pos pins s σ H _ I h) fun us s1 ⟨vs, H1, I1, r1, q1⟩ => hc pins s1 σ H1 vs us Q I1 r1 q1) he hpl
theorem pe_callTy (hc : CallR X (.type T) r) (hg : Gl X x) (hm : X.mg x = none) (hv : bootBuiltins x = some (.type T)) (ha : PA X (e :: es) t) (hn : x ≠ "__name__" := by decide) (hdb : (x == ("__debug__" : Str)) = false := by decide)
    (he : starEach (e :: es) X.env = (false, eval e X.env) :: starEach es X.env := by rfl) (hpl : (backTo pos (starEach es X.env)).any (·.1) = false := by rfl) : PE X (.Call (.Name x p) (e :: es) [] pos) (tCB r t) := by
  intro pins s σ H Q I h
  refine wpAny_Call_Name_kw (ld_blt I hg hm hv ?_ hn hdb)
  exact PyProof.Rows.callWith_type1 (thn (ha pos pins s σ H _ I h) fun us s1 ⟨vs, H1, I1, r1, q1⟩ => hc pins s1 σ H1 vs us Q I1 r1 q1) he hpl
end
end L2
namespace HT
open PySem PyProof.Rows
theorem eqAt_int (A : Around) (s : Shared) (a : Int) (t : Tok) (c : Int) (u : Tok) : ∃ e, SeqAt.EqAt A s (.int a t) (.int c u) e ∧ (e = true ↔ a = c) :=
  ⟨(a == c), SeqAt.EqAt.int_int a t c u, by simp⟩
section
open PySem.SeqAt
open PySem.AutoSeq1 (wpAny_loadPart')
open PySem.MeetsSeq PySem.MeetsSeq2 PySem.MeetsSeq3
end
section
variable {prog : Program} {w : World} {A : Around} {E : Value → Shared → Prop} {s : Shared}
theorem cat_tup {t b : Addr} {vs ws : List Value} {Q : Value → Shared → Prop} (ht : IsTup s.heap t vs.toArray) (hb : IsTup s.heap b ws.toArray) (hv : vs ≠ [])
    (h1 : ws = [] → Q (.ref t) s) (h2 : ws ≠ [] → Q (.ref s.heap.objs.size) { s with heap := s.heap.push { cls := .type "tuple", data := .seq (vs ++ ws).toArray } })
    (hsz : vs.length + ws.length ≤ sizeLine) : wpAny (model prog w) A (binaryOp .Add (.ref t) (.ref b)) Q E s := by
  obtain ⟨⟨cls, dd, data, sl⟩, ho, hc, n, hd⟩ := id ht
  obtain ⟨⟨cls2, dd2, data2, sl2⟩, ho2, hc2, n2, hd2⟩ := id hb
  simp only at hc hd hc2 hd2
  subst hc hd hc2 hd2
  have e : vs.toArray ++ ws.toArray = (vs ++ ws).toArray := by simp
  by_cases hw : ws = []
  · exact concat_meets ⟨_, ho, rfl⟩ ⟨_, ho2, rfl⟩ noFill_tuple_add seq_tuple_add PySem.F.slot_tuple_add PySem.F.entry_tuple_add (PySem.F.args_tuple_add_2 _ _)
      (tuple_addW1 t b vs.toArray ws.toArray n n2 dd dd2 sl sl2 (by simpa using hv) (by simp [hw])) ⟨ho, ho2, h1 hw⟩
  · refine concat_meets ⟨_, ho, rfl⟩ ⟨_, ho2, rfl⟩ noFill_tuple_add seq_tuple_add PySem.F.slot_tuple_add PySem.F.entry_tuple_add (PySem.F.args_tuple_add_2 _ _)
      (tuple_addW2 t b vs.toArray ws.toArray n n2 dd dd2 sl sl2 (by simpa using hv) (by simpa using hw) (by rw [List.size_toArray, List.size_toArray]; exact hsz)) ⟨ho, ho2, ?_⟩
    rw [e]
    exact h2 hw
def sIx (n d : Nat) : Option Int → Nat
  | none => d
  | some v => if v < 0 then (v + (n : Int)).toNat else min v.toNat n
theorem sIx_none (n d : Nat) : sIx n d none = d := rfl
theorem sIx_nat (n d k : Nat) : sIx n d (some (k : Int)) = min k n := by
  show (if (k : Int) < 0 then ((k : Int) + (n : Int)).toNat else min (k : Int).toNat n) = min k n
  rw [if_neg (by omega), Int.toNat_natCast]
theorem sIx_le (n d : Nat) (hd : d ≤ n) (o : Option Int) : sIx n d o ≤ n := by
  cases o with
  | none => exact hd
  | some v =>
    show (if v < 0 then (v + (n : Int)).toNat else min v.toNat n) ≤ n
    by_cases hv : v < 0
    · rw [if_pos hv]; omega
    · rw [if_neg hv]; exact Nat.min_le_right _ _
theorem clip_eq (v : Int) (n d : Nat) : (if v < 0 then max (v + (n : Int)) 0 else min v (n : Int)) = ((sIx n d (some v) : Nat) : Int) := by
  show (if v < 0 then max (v + (n : Int)) 0 else min v (n : Int)) = (((if v < 0 then (v + (n : Int)).toNat else min v.toNat n) : Nat) : Int)
  by_cases hv : v < 0
  · simp only [if_pos hv]; omega
  · simp only [if_neg hv]; omega
theorem adjust_gen (lo hi : Option Int) (n : Nat) : Builtin.Slice.sliceAdjust lo hi 1 (n : Int) = (((sIx n 0 lo : Nat) : Int), ((sIx n n hi : Nat) : Int)) := by
  have h1 : ¬ ((1 : Int) < 0) := by omega
  unfold Builtin.Slice.sliceAdjust
  simp only [h1, if_false]
  refine Prod.ext ?_ ?_
  · cases lo with
    | none => rfl
    | some v => exact clip_eq v n 0
  · cases hi with
    | none => rfl
    | some v => exact clip_eq v n n
theorem places_gen (i j : Nat) : Builtin.Slice.slicePlaces (i : Int) (j : Int) 1 = j - i := by
  unfold Builtin.Slice.slicePlaces
  have h1 : (1 : Int) > 0 := by omega
  simp only [h1, if_true, Int.ediv_one]
  split <;> omega
theorem slicePart_ {v : Value} {o : Option Int} {Q : Option Int → Shared → Prop} (p : IsPart v o) (h : Q o s) : wpAny (model prog w) A (Builtin.Slice.slicePartIndex v) Q E s := by
  cases p with
  | none => exact slicePart_none h
  | int i t => exact slicePart_int h
theorem sliceApplied_gen {sl : Addr} {vl vu : Value} {lo hi : Option Int} {n : Nat} {Q : Int × Int × Nat → Shared → Prop} (hs : s.heap.IsSliceOf sl vl vu .none) (pl : IsPart vl lo) (pu : IsPart vu hi)
    (h : Q (((sIx n 0 lo : Nat) : Int), 1, sIx n n hi - sIx n 0 lo) s) : wpAny (model prog w) A (Builtin.Slice.sliceApplied (.ref sl) (pure (n : Int))) Q E s := by
  obtain ⟨os, hos, hcs, hds⟩ := id hs
  unfold Builtin.Slice.sliceApplied Builtin.Slice.sliceFields
  refine wpAny_bind (wpAny_bind (wpAny_field hos hds (x := vl) rfl (wpAny_bind (wpAny_field hos hds (x := vu) rfl (wpAny_bind (wpAny_field hos hds (x := .none) rfl (wpAny_pure ?_)))))))
  refine wpAny_bind (slicePart_none ?_)
  show wpAny _ _ (if ((1 : Int) == 0) = true then _ else _) _ _ s
  rw [if_neg (by decide)]
  refine wpAny_bind (slicePart_ pl (wpAny_bind (slicePart_ pu (wpAny_bind (wpAny_pure ?_)))))
  show wpAny _ _ (match Builtin.Slice.sliceAdjust lo hi 1 (n : Int) with | (lo, hi) => pure (lo, (1 : Int), Builtin.Slice.slicePlaces lo hi 1)) _ _ s
  rw [adjust_gen lo hi n]
  show wpAny _ _ (pure (((sIx n 0 lo : Nat) : Int), (1 : Int), Builtin.Slice.slicePlaces ((sIx n 0 lo : Nat) : Int) ((sIx n n hi : Nat) : Int) 1)) _ _ s
  rw [places_gen]
  exact wpAny_pure h
theorem pick_gen (xs : Array Value) (i k : Nat) : ((List.range k).filterMap fun (m : Nat) => xs[((i : Int) + (m : Int) * 1).toNat]?).toArray = ((xs.toList.drop i).take k).toArray := by
  have e : (fun (m : Nat) => xs[((i : Int) + (m : Int) * 1).toNat]?) = fun m => xs[i + m]? := by
    funext m
    have : ((i : Int) + (m : Int) * 1).toNat = i + m := by omega
    rw [this]
  rw [e]
  have := pick_run xs i k
  rw [List.filterMap_map] at this
  have e2 : ((fun x => xs[x]?) ∘ fun x => i + x) = fun m => xs[i + m]? := rfl
  rw [e2] at this
  rw [this]
theorem getItem_tuple_cut {t sl : Addr} {items : Array Value} {vl vu : Value} {lo hi : Option Int} {Q : Value → Shared → Prop} (ht : IsTup s.heap t items) (hs : s.heap.IsSliceOf sl vl vu .none) (pl : IsPart vl lo) (pu : IsPart vu hi)
    (hw : ¬ (sIx items.size 0 lo = 0 ∧ sIx items.size items.size hi = items.size))
    (h : Q (.ref s.heap.objs.size) { s with heap := s.heap.push { cls := .type "tuple", data := .seq ((items.toList.drop (sIx items.size 0 lo)).take (sIx items.size items.size hi - sIx items.size 0 lo)).toArray } })
    (hsz : items.size ≤ sizeLine) : wpAny (model prog w) A (getItem (.ref t) (.ref sl)) Q E s := by
  have htake : sizeOk (.seq ((items.toList.drop (sIx items.size 0 lo)).take (sIx items.size items.size hi - sIx items.size 0 lo)).toArray) := by
    show ((items.toList.drop (sIx items.size 0 lo)).take (sIx items.size items.size hi - sIx items.size 0 lo)).toArray.size ≤ sizeLine
    rw [List.size_toArray, List.length_take, List.length_drop, Array.length_toList]
    omega
  have hj : sIx items.size items.size hi ≤ items.size := sIx_le _ _ (Nat.le_refl _) hi
  obtain ⟨os, hos, hcs, hds⟩ := id hs
  have hTs : s.TypeIs (.ref sl) "slice" := ⟨os, hos, hcs⟩
  unfold getItem
  try with_reducible refine wpAny_holding ?_
  first | refine wpAny_bind (wpAny_pure ?_) | skip
  refine wpAny_bind (wpAny_sequenceKey ht.typeIs (by decide) ?_)
  refine wpAny_bind (wpAny_callSpecial?_slot (name := Str.ofString "__getitem__") ht.typeIs PyProof.Rows.slot_tuple_getitem
    (wpAny_call_entry PyProof.Rows.slot_tuple_getitem ht.typeIs entry_tuple_getitem ?_ (args_tuple_getitem _ _)))
  show wpAny _ _ (Builtin.Tuple.tupleItemsOf (.ref t) >>= _) _ _ s
  refine wpAny_bind (tupleItemsOf_ ht ?_)
  refine wpAny_bind (wpAny_typeOf hTs ?_)
  rw [if_pos (by decide)]
  refine wpAny_bind (sliceApplied_gen hs pl pu ?_)
  have hno : ¬ ((((sIx items.size 0 lo : Nat) : Int) == 0 && (1 : Int) == 1 && (sIx items.size items.size hi - sIx items.size 0 lo) == items.size) = true) := by
    intro q
    rw [Bool.and_eq_true, Bool.and_eq_true] at q
    have q1 : ((sIx items.size 0 lo : Nat) : Int) = 0 := eq_of_beq q.1.1
    have q2 : sIx items.size items.size hi - sIx items.size 0 lo = items.size := eq_of_beq q.2
    exact hw ⟨by omega, by omega⟩
  show wpAny _ _ (if (((sIx items.size 0 lo : Nat) : Int) == 0 && (1 : Int) == 1 && (sIx items.size items.size hi - sIx items.size 0 lo) == items.size) = true then _ else _) _ _ s
  rw [if_neg hno, pick_gen]
  first
    | exact wpAny_bind (m := Builtin.Tuple.tupleExact _) (wpAny_newObj_type (wpAny_pure ⟨_, rfl, wpAny_pure h⟩) htake)
    | exact wpAny_bind (m := Builtin.Tuple.tupleExact _) (wpAny_newObj_type (wpAny_bind (wpAny_pure (wpAny_pure ⟨_, rfl, wpAny_pure h⟩))) htake)
    | exact wpAny_bind (wpAny_bind (m := Builtin.Tuple.tupleExact _) (wpAny_newObj_type (wpAny_pure (wpAny_pure ⟨_, rfl, wpAny_pure h⟩)) htake))
    | exact wpAny_bind (wpAny_bind (m := Builtin.Tuple.tupleExact _) (wpAny_newObj_type (wpAny_pure ⟨_, rfl, wpAny_pure h⟩) htake))
end
end HT
namespace L2
open PySem PySem.Spec PyProof.Rows
abbrev TO := St → Hp → (Option Int → Hp → Prop) → Prop
def PO (X : Cx) (e : Option Expr) (t : TO) : Prop :=
  ∀ (pins : List (Addr × Obj)) (s : Shared) (σ : St) (H : Hp) (Q : Option Int → Hp → Prop), Inv X pins σ H s → t σ H Q →
    wpAny (model X.prog X.w) X.A (evalPart e X.env) (fun u s' => ∃ o H', Inv X pins σ H' s' ∧ IsPart u o ∧ Q o H') X.xe s
def tNoPart : TO := fun _ H Q => Q none H
def tPart (t : TE) : TO := fun σ H Q => t σ H fun x H1 => ∃ i, x = .int i ∧ Q (some i) H1
theorem intsAre_of {ns : List Int} : ∀ {us : List Value}, Vals (ns.map V.int) us → IntsAre us ns := by
  induction ns with
  | nil => intro us r; rw [List.map_nil] at r; cases r; exact .nil
  | cons n ns ih =>
    intro us r
    rw [List.map_cons] at r
    cases r with
    | cons r1 r2 =>
      obtain ⟨t, e⟩ := r1
      subst e
      exact .cons n t (ih r2)
section
variable {X : Cx} {e : Expr} {te : TE} {lo hi : Option Expr} {tl th : TO} {pos p2 : Pos}
theorem po_none : PO X none tNoPart := by
  intro pins s σ H Q I h
  rw [evalPart_none]
  exact wpAny_pure ⟨none, H, I, .none, h⟩
theorem po_some (h : PE X e te) : PO X (some e) (tPart te) := by
  intro pins s σ H Q I hw
  rw [evalPart_some]
  refine thn (h pins s σ H _ I hw) fun u s1 ⟨x, H1, I1, r1, q1⟩ => ?_
  obtain ⟨i, rfl, q⟩ := q1
  obtain ⟨t, rfl⟩ := r1
  exact ⟨some i, H1, I1, .int i t, q⟩
def SlR (X : Cx) (r : V → Option Int → Option Int → Hp → VK → Prop) : Prop :=
  ∀ (pins : List (Addr × Obj)) (s : Shared) (σ : St) (H : Hp) (x : V) (v vl vu : Value) (lo hi : Option Int) (sl : Addr) (Q : VK), Inv X pins σ H s → RelV x v → s.heap.IsSliceOf sl vl vu .none → IsPart vl lo → IsPart vu hi → r x lo hi H Q →
    ∃ T id, typeLookup (.type T) "__getitem__" = pure (some (.builtin id)) ∧ s.TypeIs v T ∧ wpAny (model X.prog X.w) X.A (getItem v (.ref sl)) (EP X pins σ Q) X.xe s
def tSl (r : V → Option Int → Option Int → Hp → VK → Prop) (te : TE) (tl th : TO) : TE := fun σ H Q => te σ H fun x H1 => tl σ H1 fun l H2 => th σ H2 fun u H3 => r x l u H3 Q
theorem pe_slice {r : V → Option Int → Option Int → Hp → VK → Prop} (hr : SlR X r) (he : PE X e te) (hl : PO X lo tl) (hu : PO X hi th) : PE X (.Subscript e (.Slice lo hi none p2) pos) (tSl r te tl th) := by
  intro pins s σ H Q I h
  refine Subscript_ (thn (he pins s σ H _ I h) fun v s1 ⟨x, H1, I1, r1, q1⟩ => ?_)
  refine wpAny_Slice (thn (hl pins s1 σ H1 _ I1 q1) fun vl s2 ⟨l, H2, I2, pl, q2⟩ => thn (hu pins s2 σ H2 _ I2 q2) fun vu s3 ⟨u, H3, I3, pu, q3⟩ => ?_)
  rw [evalPart_none]
  refine wpAny_pure ?_
  have I4 : Inv X pins σ H3 { s3 with heap := s3.heap.push { cls := .type "slice", data := .fields #[vl, vu, .none] } } := I3.kept (t' := s3.toks) fun b ob q => Heap.get?_push_of_some _ q
  obtain ⟨T, id, hT, ht, hg⟩ := hr pins { s3 with heap := s3.heap.push { cls := .type "slice", data := .fields #[vl, vu, .none] } } σ H3 x v vl vu l u s3.heap.objs.size Q I4 r1 (Heap.IsSliceOf.new ..) pl pu q3
  show wpAny (model X.prog X.w) X.A (subscriptTail e (.Slice lo hi none p2) v (.ref s3.heap.objs.size)) (EP X pins σ Q) X.xe { s3 with heap := s3.heap.push { cls := .type "slice", data := .fields #[vl, vu, .none] } }
  exact tail_any (ops := [.ref s3.heap.objs.size, v]) ht hT hg (by with_unfolding_all rfl)
def cutV (xs : List V) (lo hi : Option Int) : List V := (xs.drop (HT.sIx xs.length 0 lo)).take (HT.sIx xs.length xs.length hi - HT.sIx xs.length 0 lo)
theorem cutV_length (xs : List V) (lo hi : Option Int) : (cutV xs lo hi).length ≤ xs.length := by
  unfold cutV
  rw [List.length_take, List.length_drop]
  omega
def rSlT (K : PySem.W.Frag) : V → Option Int → Option Int → Hp → VK → Prop := fun x lo hi H Q => ∃ a xs, x = .ref a ∧ SqT K H a xs ∧
  ¬ (HT.sIx xs.length 0 lo = 0 ∧ HT.sIx xs.length xs.length hi = xs.length) ∧ ∀ p, H p = none → Q (.ref p) (upd H p (.tup (cutV xs lo hi)))
theorem sl_tup : SlR X (rSlT X.K) := by
  intro pins s σ H x v vl vu lo hi sl Q I rx hs pl pu h
  obtain ⟨a, xs, rfl, hx, hw, q⟩ := h
  cases rx
  obtain ⟨its, r, ht, hz⟩ := I.tuple hx
  have hlen : its.toArray.size = xs.length := by rw [List.size_toArray]; exact r.length.symm
  refine ⟨"tuple", _, PyProof.Rows.slot_tuple_getitem.lookup, ht.typeIs, ?_⟩
  refine HT.getItem_tuple_cut ht hs pl pu (by rw [hlen]; exact hw) ?_ (by rw [hlen]; exact hz)
  rw [hlen]
  refine ⟨.ref s.heap.objs.size, _, I.laid (t' := s.toks) (o := .tup (cutV xs lo hi)) (fun b ob q => Heap.get?_push_of_some _ q) (Nat.le_refl _) ?_, rfl, q _ (I.hok.fresh (Nat.le_refl _))⟩
  exact ⟨Nat.le_trans (cutV_length xs lo hi) hz, _, (r.drop (HT.sIx xs.length 0 lo)).take (HT.sIx xs.length xs.length hi - HT.sIx xs.length 0 lo), IsTup.new _ _⟩
def rCatT (K : PySem.W.Frag) : R2 := fun x y H Q => ∃ a b xs ys, x = .ref a ∧ y = .ref b ∧ SqT K H a xs ∧ SqT K H b ys ∧ xs ≠ [] ∧ xs.length + ys.length ≤ sizeLine ∧
  (ys = [] → Q (.ref a) H) ∧ (ys ≠ [] → ∀ p, H p = none → Q (.ref p) (upd H p (.tup (xs ++ ys))))
theorem Vals.nil_iff {xs : List V} {us : List Value} (r : Vals xs us) : us = [] ↔ xs = [] := by
  cases r with
  | nil => simp
  | cons _ _ => simp
theorem op_catT : OpR X (binaryOp .Add) (rCatT X.K) := by
  intro pins s σ H x y v u Q I rx ry h
  obtain ⟨a, b, xs, ys, rfl, rfl, ha, hb, hx, hz, q1, q2⟩ := h
  cases rx
  cases ry
  obtain ⟨its, r1, p1, _⟩ := I.tuple ha
  obtain ⟨its2, r2, p2, _⟩ := I.tuple hb
  refine HT.cat_tup p1 p2 (fun z => hx (r1.nil_iff.mp z)) (fun z => ⟨.ref a, H, I, rfl, q1 (r2.nil_iff.mp z)⟩) (fun z => ?_) (by rw [← r1.length, ← r2.length]; exact hz)
  refine ⟨.ref s.heap.objs.size, _, I.laid (t' := s.toks) (o := .tup (xs ++ ys)) (fun b ob q => Heap.get?_push_of_some _ q) (Nat.le_refl _) ?_, rfl, q2 (fun w => z (r2.nil_iff.mpr w)) _ (I.hok.fresh (Nat.le_refl _))⟩
  exact ⟨by rw [List.length_append]; exact hz, _, r1.append r2, IsTup.new _ _⟩
end
end L2
namespace L2
open PySem PySem.Spec PyProof.Rows
def ixN (n : Nat) (i : Int) : Option Nat := if 0 ≤ i then (if i < n then some i.toNat else none) else if -(n : Int) ≤ i then some (i + n).toNat else none
def atI {α : Type} (xs : List α) (i : Int) : Option α := (ixN xs.length i).bind fun j => xs[j]?
theorem ixN_seq {n : Nat} {i : Int} {j : Nat} (h : ixN n i = some j) : seqIndex? i n = some j ∧ j < n ∧ -(n : Int) ≤ i ∧ i < n := by
  unfold ixN at h
  by_cases h0 : 0 ≤ i
  · rw [if_pos h0] at h
    by_cases h1 : i < n
    · rw [if_pos h1] at h
      have e : i.toNat = j := Option.some.inj h
      exact ⟨by rw [seqIndex_of h0 h1, e], by omega, by omega, h1⟩
    · rw [if_neg h1] at h; cases h
  · rw [if_neg h0] at h
    by_cases h1 : -(n : Int) ≤ i
    · rw [if_pos h1] at h
      have e : (i + n).toNat = j := Option.some.inj h
      exact ⟨by rw [seqIndex_neg (by omega) h1, e], by omega, h1, by omega⟩
    · rw [if_neg h1] at h; cases h
theorem atI_get {α : Type} {xs : List α} {i : Int} {v : α} (h : atI xs i = some v) : ∃ j, seqIndex? i xs.length = some j ∧ xs[j]? = some v ∧ j < xs.length ∧ -(xs.length : Int) ≤ i ∧ i < xs.length := by
  unfold atI at h
  cases e : ixN xs.length i with
  | none => rw [e] at h; cases h
  | some j =>
    rw [e] at h
    obtain ⟨h1, h2, h3, h4⟩ := ixN_seq e
    exact ⟨j, h1, h, h2, h3, h4⟩
theorem atI_nat {α : Type} {xs : List α} {j : Nat} {v : α} (h : xs[j]? = some v) : atI xs (j : Int) = some v := by
  have hj : j < xs.length := (List.getElem?_eq_some_iff.mp h).1
  have e : ixN xs.length (j : Int) = some j := by
    unfold ixN
    rw [if_pos (by omega), if_pos (by omega)]; simp
  unfold atI; rw [e]; exact h
theorem atI_last {α : Type} (xs : List α) (v : α) : atI (xs ++ [v]) (-1) = some v := by
  have hl : (xs ++ [v]).length = xs.length + 1 := by simp
  have e : ixN (xs ++ [v]).length (-1) = some xs.length := by
    unfold ixN
    rw [hl, if_neg (by decide), if_pos (by omega)]
    congr 1
    omega
  unfold atI
  rw [e]
  show (xs ++ [v])[xs.length]? = some v
  simp
def PlainIx (b : Expr) : Prop := ∀ o i, subscripted b false o i = operate [o, i] (getItem o i)
def IxR (X : Cx) (r : R2) : Prop :=
  ∀ (value slice : Expr) (pins : List (Addr × Obj)) (s : Shared) (σ : St) (H : Hp) (x y : V) (v u : Value) (Q : VK), Inv X pins σ H s → RelV x v → RelV y u → r x y H Q →
    subscripted slice false v u = operate [v, u] (getItem v u) → wpAny (model X.prog X.w) X.A (subscriptTail value slice v u) (EP X pins σ Q) X.xe s
def MtR (X : Cx) (id : String) (r : V → List V → Hp → VK → Prop) : Prop :=
  ∀ (pins : List (Addr × Obj)) (s : Shared) (σ : St) (H : Hp) (x : V) (xs : List V) (v : Value) (us : List Value) (Q : VK), Inv X pins σ H s → RelV x v → Vals xs us → r x xs H Q →
    wpAny (model X.prog X.w) X.A (call (.builtin id) (v :: us)) (EP X pins σ Q) X.xe s
section
variable {X : Cx} {a b : Expr} {ta tb : TE} {pos : Pos}
theorem pe_ix {r : R2} (hr : IxR X r) (ha : PE X a ta) (hb : PE X b tb) (hs : PlainIx b) : PE X (.Subscript a b pos) (tOp r ta tb) := by
  intro pins s σ H Q I h
  exact Subscript_ (binT ha hb I h fun v u s2 x y H2 I2 rx ry q => hr a b pins s2 σ H2 x y v u Q I2 rx ry q (hs _ _))
def rIxL (K : PySem.W.Frag) : R2 := fun x y H Q => ∃ p xs i v, x = .ref p ∧ y = .int i ∧ SqL K H p xs ∧ atI xs i = some v ∧ Q v H
def rIxT (K : PySem.W.Frag) : R2 := fun x y H Q => ∃ p xs i v, x = .ref p ∧ y = .int i ∧ SqT K H p xs ∧ atI xs i = some v ∧ Q v H
theorem ix_list : IxR X (rIxL X.K) := by
  intro value slice pins s σ H x y v u Q I rx ry h hs
  obtain ⟨p, xs, i, z, rfl, rfl, hq, he, q⟩ := h
  cases rx
  obtain ⟨t, rfl⟩ := ry
  obtain ⟨its, r, pl, hz⟩ := I.list hq
  obtain ⟨j, h1, h2, h3, h4, h5⟩ := atI_get he
  obtain ⟨w, ew, rw'⟩ := r.get h2
  have hl := r.length
  have hn := line63
  have fin : EP X pins σ Q w s := ⟨z, H, I, rw', q⟩
  by_cases h0 : 0 ≤ i
  · have hj : i.toNat = j := by
      rw [seqIndex_of h0 h5] at h1
      exact Option.some.inj h1
    exact item_listR pl.isList h0 (by omega) (by rw [hj]; simpa using ew) fin hs
  · have hj : (i + (its.toArray.size : Int)).toNat = j := by
      rw [seqIndex_neg (by omega) h4] at h1
      rw [List.size_toArray, ← hl]
      exact Option.some.inj h1
    exact subscriptTail_builtinR (x := w) pl.isList.typeIs slot_list_getitem.lookup
      (wpAny_getItem_list_neg (Q := fun r s' => r = w ∧ EP X pins σ Q r s') pl.isList (by omega) (by rw [List.size_toArray] <;> omega) (by omega) (by rw [hj]; simpa using ew) ⟨rfl, fin⟩) hs
theorem ix_tup : IxR X (rIxT X.K) := by
  intro value slice pins s σ H x y v u Q I rx ry h hs
  obtain ⟨p, xs, i, z, rfl, rfl, hq, he, q⟩ := h
  cases rx
  obtain ⟨t, rfl⟩ := ry
  obtain ⟨its, r, pl, hz⟩ := I.tuple hq
  obtain ⟨j, h1, h2, h3, h4, h5⟩ := atI_get he
  obtain ⟨w, ew, rw'⟩ := r.get h2
  have hl := r.length
  have hn := line63
  have fin : EP X pins σ Q w s := ⟨z, H, I, rw', q⟩
  exact subscriptTail_builtinR (x := w) pl.typeIs slot_tuple_getitem.lookup
    (getItem_tuple (j := j) (Q := fun r s' => r = w ∧ EP X pins σ Q r s') pl (by omega) (by omega) (by rw [List.size_toArray, ← hl]; exact h1) (by simpa using ew) ⟨rfl, fin⟩) hs
theorem mapSeq_set (its : List Value) (n j : Nat) (u : Value) : Obj.mapSeq (·.setIfInBounds j u) { cls := .type "list", data := .seq its.toArray n } = { cls := .type "list", data := .seq (its.set j u).toArray n } := by
  simp [Obj.mapSeq]
theorem Inv.lst {pins : List (Addr × Obj)} {σ : St} {H : Hp} {s : Shared} {p : Addr} {xs : List V} (I : Inv X pins σ H s) (h : H p = some (.lst xs)) :
    ∃ (its : List Value) (n : Nat), Vals xs its ∧ s.heap.get? p = some { cls := .type "list", data := .seq its.toArray n } ∧ xs.length ≤ sizeLine := by
  obtain ⟨z, its, n, r, e⟩ := I.hok p _ h
  exact ⟨its, n, r, e, z⟩
theorem Inv.lstUpd {pins : List (Addr × Obj)} {σ : St} {H : Hp} {s : Shared} {p : Addr} {xs ys : List V} {its its' : List Value} {n n' : Nat} {f : Obj → Obj} (I : Inv X pins σ H s) (h : H p = some (.lst xs))
    (ho : s.heap.get? p = some { cls := .type "list", data := .seq its.toArray n }) (hf : f { cls := .type "list", data := .seq its.toArray n } = { cls := .type "list", data := .seq its'.toArray n' }) (r : Vals ys its') (hz : ys.length ≤ sizeLine) (t : Nat) :
    Inv X pins σ (upd H p (.lst ys)) { s with heap := s.heap.update p f, toks := t } := by
  have e : (s.heap.update p f).get? p = some { cls := .type "list", data := .seq its'.toArray n' } := by
    rw [Heap.get?_update_self f ho (by rw [hf] <;> rfl), hf]
  refine I.write (x := p) (e := p) (by rw [h]; trivial) (.inl rfl) (fun b u hb q => (Heap.get?_update_other _ _ (Ne.symm hb)).trans q) ⟨_, e⟩ ?_
  exact ⟨hz, its', n', r, e⟩
def rSetL : V → V → V → Hp → (Hp → Prop) → Prop := fun o i v H Q => ∃ p xs k j, o = .ref p ∧ i = .int k ∧ H p = some (.lst xs) ∧ ixN xs.length k = some j ∧ Q (upd H p (.lst (xs.set j v)))
theorem set_list : PSet X rSetL := by
  intro pins s σ H o i v ov iv u Q I ro ri rv h
  obtain ⟨p, xs, k, j, rfl, rfl, hp, hj, q⟩ := h
  cases ro
  obtain ⟨t, rfl⟩ := ri
  obtain ⟨its, n, r, ho, hz⟩ := I.lst hp
  obtain ⟨h1, h2, h3, h4⟩ := ixN_seq hj
  have hl := r.length
  have hn := line63
  have I' : Inv X pins σ (upd H p (.lst (xs.set j v))) { s with heap := s.heap.update p (Obj.mapSeq (·.setIfInBounds j u)) } :=
    I.lstUpd hp ho (mapSeq_set its n j u) (r.set rv j) (by rw [List.length_set]; exact hz) s.toks
  by_cases h0 : 0 ≤ k
  · have hk : k.toNat = j := by
      rw [seqIndex_of h0 h4] at h1
      exact Option.some.inj h1
    exact PySem.W.ki_setAt ho h0 (by omega) (by rw [List.size_toArray, ← hl]; exact h4) (by rw [hk]; exact ⟨_, I', q⟩)
  · have hk : (k + (its.toArray.size : Int)).toNat = j := by
      rw [seqIndex_neg (by omega) h3] at h1
      rw [List.size_toArray, ← hl]
      exact Option.some.inj h1
    exact PySem.W.ki_setBack ho (by omega) (by rw [List.size_toArray, ← hl]; exact h3) (by omega) (by rw [hk]; exact ⟨_, I', q⟩)
def flatV : V → Bool
  | .non => true
  | .bl _ => true
  | .int _ => true
  | .str _ => true
  | _ => false
def eqV : V → V → Bool
  | .non, .non => true
  | .bl a, .bl b => a == b
  | .bl a, .int b => (if a then 1 else 0) == b
  | .int a, .bl b => a == (if b then 1 else 0)
  | .int a, .int b => a == b
  | .str a, .str b => a == b
  | _, _ => false
theorem eqAt_V {A : Around} {s : Shared} {y x : V} {u v : Value} (ry : RelV y u) (rx : RelV x v) (fy : flatV y = true) (fx : flatV x = true) : SeqAt.EqAt A s u v (eqV y x) := by
  cases y with
  | non =>
    cases ry
    cases x with
    | non => cases rx; exact SeqAt.EqAt.same _
    | bl b => cases rx; exact SeqAt.EqAt.none_bool b
    | int b => obtain ⟨t, rfl⟩ := rx; exact SeqAt.EqAt.none_int b t
    | str b => obtain ⟨t, rfl⟩ := rx; exact SeqAt.EqAt.none_str b t
    | _ => exact absurd (show false = true from fx) Bool.false_ne_true
  | bl a =>
    cases ry
    cases x with
    | non => cases rx; exact SeqAt.EqAt.bool_none a
    | bl b => cases rx; exact SeqAt.EqAt.bool_bool a b
    | int b => obtain ⟨t, rfl⟩ := rx; exact SeqAt.EqAt.bool_int a b t
    | str b => obtain ⟨t, rfl⟩ := rx; exact SeqAt.EqAt.bool_str a b t
    | _ => exact absurd (show false = true from fx) Bool.false_ne_true
  | int a =>
    obtain ⟨t', rfl⟩ := ry
    cases x with
    | non => cases rx; exact SeqAt.EqAt.int_none a t'
    | bl b => cases rx; exact SeqAt.EqAt.int_bool a t' b
    | int b => obtain ⟨t, rfl⟩ := rx; exact SeqAt.EqAt.int_int a t' b t
    | str b => obtain ⟨t, rfl⟩ := rx; exact SeqAt.EqAt.int_str a t' b t
    | _ => exact absurd (show false = true from fx) Bool.false_ne_true
  | str a =>
    obtain ⟨t', rfl⟩ := ry
    cases x with
    | non => cases rx; exact SeqAt.EqAt.str_none a t'
    | bl b => cases rx; exact SeqAt.EqAt.str_bool a t' b
    | int b => obtain ⟨t, rfl⟩ := rx; exact SeqAt.EqAt.str_int a t' b t
    | str b => obtain ⟨t, rfl⟩ := rx; exact SeqAt.EqAt.str_str a t' b t
    | _ => exact absurd (show false = true from fx) Bool.false_ne_true
  | _ => exact absurd (show false = true from fy) Bool.false_ne_true
def eqU (x : V) (u : Value) : Bool := match u with
  | .none => eqV .non x
  | .bool b => eqV (.bl b) x
  | .int i _ => eqV (.int i) x
  | .str z _ => eqV (.str z) x
  | _ => false
theorem eqU_of {x y : V} {u : Value} (r : RelV y u) (f : flatV y = true) : eqU x u = eqV y x := by
  cases y with
  | non => cases r; rfl
  | bl b => cases r; rfl
  | int i => obtain ⟨t, rfl⟩ := r; rfl
  | str z => obtain ⟨t, rfl⟩ := r; rfl
  | _ => exact absurd (show false = true from f) Bool.false_ne_true
theorem any_eqU {x : V} : ∀ {xs : List V} {us : List Value}, Vals xs us → xs.all flatV = true → us.any (eqU x) = xs.any fun y => eqV y x
  | _, _, .nil, _ => rfl
  | y :: xs, u :: us, .cons r t, f => by
    rw [List.all_cons, Bool.and_eq_true] at f
    rw [List.any_cons, List.any_cons, eqU_of r f.1, any_eqU t f.2]
theorem mem_eqAt {A : Around} {s : Shared} {x : V} {v : Value} (rx : RelV x v) (fx : flatV x = true) : ∀ {xs : List V} {us : List Value}, Vals xs us → xs.all flatV = true → ∀ u ∈ us, SeqAt.EqAt A s u v (eqU x u)
  | _, _, .nil, _ => fun u hu => by cases hu
  | y :: xs, u :: us, .cons r t, f => fun u' hu => by
    rw [List.all_cons, Bool.and_eq_true] at f
    rcases List.mem_cons.mp hu with rfl | hu
    · rw [eqU_of r f.1]; exact eqAt_V r rx f.1 fx
    · exact mem_eqAt rx fx t f.2 u' hu
def inV (x : V) (xs : List V) : Bool := xs.any fun y => eqV y x
def rIn (K : PySem.W.Frag) (neg : Bool) : R2 := fun x y H Q => ∃ p xs, y = .ref p ∧ (SqL K H p xs ∨ SqT K H p xs) ∧ flatV x = true ∧ xs.all flatV = true ∧ Q (.bl (if neg then !inV x xs else inV x xs)) H
theorem op_notIn_seq : OpR X (compareOp .NotIn) (rIn X.K true) := by
  intro pins s σ H x y v u Q I rx ry h
  obtain ⟨p, xs, rfl, hq, fx, fs, q⟩ := h
  cases ry
  rcases hq with hq | hq
  · obtain ⟨its, r, pl, hz⟩ := I.list hq
    refine SeqAt.notIn_listAt (eqU x) pl.isList (fun w hw => mem_eqAt rx fx r fs w (by simpa using hw)) ⟨.bl _, H, I, rfl, ?_⟩
    rw [show its.toArray.any (eqU x) = its.any (eqU x) by simp, any_eqU r fs]
    exact q
  · obtain ⟨its, r, pl, hz⟩ := I.tuple hq
    refine SeqAt.notIn_tupleAt (eqU x) pl (fun w hw => mem_eqAt rx fx r fs w (by simpa using hw)) ⟨.bl _, H, I, rfl, ?_⟩
    rw [show its.toArray.any (eqU x) = its.any (eqU x) by simp, any_eqU r fs]
    exact q
theorem call_len_seq : CallR X (.builtin "len") (fun xs H Q => ∃ p ys, xs = [.ref p] ∧ (SqL X.K H p ys ∨ SqT X.K H p ys) ∧ Q (.int ys.length) H) := by
  intro pins s σ H xs us Q I r h
  obtain ⟨p, ys, rfl, hq, q⟩ := h
  obtain ⟨u, rfl, rx⟩ := vals1 r
  cases rx
  have hn := line63
  rcases hq with hq | hq
  · obtain ⟨its, r', pl, hz⟩ := I.list hq
    have hlen := r'.length
    exact Calls.call_len_list pl.isList (by simp only [List.size_toArray] <;> omega) ⟨.int ys.length, H, I.tok _, ⟨s.toks + 1, by rw [List.size_toArray, hlen]⟩, q⟩
  · obtain ⟨its, r', pl, hz⟩ := I.tuple hq
    have hlen := r'.length
    exact len_tuple pl (by simp only [List.size_toArray] <;> omega) ⟨.int ys.length, H, I.tok _, ⟨s.toks + 1, by rw [List.size_toArray, hlen]⟩, q⟩
def tyV (K : PySem.W.Frag) (T : String) (x : V) (H : Hp) : Prop := match x with
  | .str _ => T = "str"
  | .int _ => T = "int"
  | .ref p => (T = "list" ∧ ∃ xs, SqL K H p xs) ∨ (T = "tuple" ∧ ∃ o, K.lookup p = some o ∧ o.cls = .type "tuple" ∧ o.dict = none) ∨
      (T = "dict" ∧ ((∃ kvs, H p = some (.dK kvs)) ∨ ∃ B kvs, H p = some (.dT B kvs))) ∨ (T = "set" ∧ ∃ S n, H p = some (.set S n))
  | _ => False
theorem tyV_is {pins : List (Addr × Obj)} {σ : St} {H : Hp} {s : Shared} {T : String} {x : V} {v : Value} (I : Inv X pins σ H s) (r : RelV x v) (ty : tyV X.K T x H) :
    s.TypeIs v T ∧ ∀ a, v = .ref a → ∃ ob, s.heap.get? a = some ob ∧ ob.dict = none := by
  cases x with
  | str z =>
    obtain ⟨t, rfl⟩ := r
    cases (show T = "str" from ty)
    exact ⟨typeIs_str s z t, fun _ e => nomatch e⟩
  | int i =>
    obtain ⟨t, rfl⟩ := r
    cases (show T = "int" from ty)
    exact ⟨typeIs_int s i t, fun _ e => nomatch e⟩
  | ref p =>
    cases r
    rcases ty with ⟨rfl, xs, hq⟩ | ⟨rfl, o, hk, hc, hd⟩ | ⟨rfl, hk⟩ | ⟨rfl, S, n, hk⟩
    · obtain ⟨its, _, pl, _⟩ := I.list hq
      refine ⟨pl.isList.typeIs, fun a e => ?_⟩
      cases e
      obtain ⟨o, n, e, c, hd, _⟩ := pl
      exact ⟨o, e, hd⟩
    · refine ⟨⟨o, I.kIn p o hk, hc⟩, fun a e => ?_⟩
      cases e
      exact ⟨o, I.kIn _ o hk, hd⟩
    · have z : ∃ o, s.heap.get? p = some o ∧ o.ExactDict := by
        rcases hk with ⟨kvs, hk⟩ | ⟨B, kvs, hk⟩
        · obtain ⟨_, _, _, _, o, _, _, e, ex, _⟩ := I.hok p _ hk
          exact ⟨o, e, ex⟩
        · obtain ⟨_, _, _, _, o, _, _, e, ex, _⟩ := I.hok p _ hk
          exact ⟨o, e, ex⟩
      obtain ⟨o, e, ex⟩ := z
      refine ⟨⟨o, e, ex.1⟩, fun a e2 => ?_⟩
      cases e2
      exact ⟨o, e, ex.2.1⟩
    · obtain ⟨o, _, _, _, e, ex, _⟩ := I.hok p _ hk
      refine ⟨⟨o, e, ex.1⟩, fun a e2 => ?_⟩
      cases e2
      exact ⟨o, e, ex.2.1⟩
  | _ => exact False.elim ty
def tBM0 (K : PySem.W.Frag) (T : String) (r : V → List V → Hp → VK → Prop) (to : TE) : TE := fun σ H Q => to σ H fun x H1 => tyV K T x H1 ∧ r x [] H1 Q
def tBM (K : PySem.W.Frag) (T : String) (r : V → List V → Hp → VK → Prop) (to : TE) (t : TA) : TE := fun σ H Q => to σ H fun x H1 => tyV K T x H1 ∧ t σ H1 fun xs H2 => r x xs H2 Q
variable {o e : Expr} {es : List Expr} {to : TE} {t : TA} {name : Str} {apos cpos : Pos} {T id : String} {r : V → List V → Hp → VK → Prop}
theorem pe_bm0 (pa : PlainAttrs T) (slot : Slot T name id) (hty : typeOf (.builtin id) = pure (.type "method_descriptor")) (hm : MtR X id r) (ho : PE X o to)
    (hbase : attributeBase o name X.env (eval o X.env) = eval o X.env := by rfl) (hline : (apos.endLine == cpos.line) = true := by rfl) : PE X (.Call (.Attribute o name apos) [] [] cpos) (tBM0 X.K T r to) := by
  intro pins s σ H Q I h
  refine wpAny_Call_method0_late hbase hline (thn (ho pins s σ H _ I h) fun v s1 ⟨x, H1, I1, r1, ty, q1⟩ => ?_)
  obtain ⟨h1, h2⟩ := tyV_is I1 r1 ty
  exact ⟨T, id, pa, slot, hty, h1, h2, Calls.callWith_builtin rfl (PySem.evalArgs_none (hm pins s1 σ H1 x [] v [] Q I1 r1 .nil q1))⟩
theorem pe_bm (pa : PlainAttrs T) (slot : Slot T name id) (hty : typeOf (.builtin id) = pure (.type "method_descriptor")) (hm : MtR X id r) (ho : PE X o to) (ha : PA X (e :: es) t)
    (hbase : attributeBase o name X.env (eval o X.env) = eval o X.env := by rfl)
    (hfew : ((backTo cpos (starEach (e :: es) X.env)).all (fun x => !x.1) && (backToKw cpos (keywordEach [] X.env)).all (fun x => x.1.isSome)
      && decide ((e :: es).length + ([] : List Keyword).length + (if ([] : List Keyword).isEmpty then 0 else 1) < 30)) = true := by rfl)
    (hline : (apos.endLine == cpos.line) = true := by rfl) (hs : starEach (e :: es) X.env = (false, eval e X.env) :: starEach es X.env := by rfl) (hplain : (backTo cpos (starEach es X.env)).any (·.1) = false := by rfl) :
    PE X (.Call (.Attribute o name apos) (e :: es) [] cpos) (tBM X.K T r to t) := by
  intro pins s σ H Q I h
  refine wpAny_Call_method_late hbase hfew hline rfl (thn (ho pins s σ H _ I h) fun v s1 ⟨x, H1, I1, r1, ty, q1⟩ => ?_)
  obtain ⟨h1, h2⟩ := tyV_is I1 r1 ty
  refine ⟨T, id, pa, slot, hty, h1, h2, ?_⟩
  have hA := ha cpos pins s1 σ H1 _ I1 q1
  rw [hs] at hA ⊢
  refine Calls.callWith_builtin (by show (false || (backTo cpos (starEach es X.env)).any (·.1)) = false; rw [hplain] <;> rfl) (Calls.evalArgs_plain ?_)
  exact thn hA fun us s2 ⟨vs, H2, I2, r2, q2⟩ => hm pins s2 σ H2 x vs v us Q I2 r1 r2 q2
end
end L2
namespace L2
open PySem PySem.Spec PyProof.Rows
def MtM (X : Cx) (id : String) (r : V → List V → Hp → VK → Prop) : Prop :=
  ∀ (pins : List (Addr × Obj)) (s : Shared) (σ : St) (H : Hp) (x : V) (xs : List V) (v : Value) (us : List Value) (Q : VK), Inv X pins σ H s → RelV x v → Vals xs us → r x xs H Q →
    wpAny (model X.prog X.w) X.A (call (.builtin id) (v :: us)) (EP X pins σ Q) X.xe s
theorem Vals.one : ∀ {x : V} {us : List Value}, Vals [x] us → ∃ u, us = [u] ∧ RelV x u
  | _, _, .cons r .nil => ⟨_, rfl, r⟩
theorem Vals.zero : ∀ {us : List Value}, Vals [] us → us = []
  | _, .nil => rfl
theorem Vals.reverse {xs : List V} {us : List Value} (h : Vals xs us) : Vals xs.reverse us.reverse := by
  induction h with
  | nil => exact .nil
  | cons r t ih => rw [List.reverse_cons, List.reverse_cons]; exact Vals.append ih (.cons r .nil)
theorem Vals.rep {xs : List V} {us : List Value} (h : Vals xs us) : ∀ k : Nat, Vals (List.replicate k xs).flatten (List.replicate k us).flatten
  | 0 => .nil
  | k + 1 => by
    rw [List.replicate_succ, List.replicate_succ, List.flatten_cons, List.flatten_cons]
    exact Vals.append h (Vals.rep h k)
theorem foldl_rep (its : List Value) : ∀ (k : Nat) (acc : List Value),
    List.foldl (fun x1 x2 => x1 ++ x2) acc.toArray (List.replicate k its.toArray) = (acc ++ (List.replicate k its).flatten).toArray
  | 0, acc => by simp
  | k + 1, acc => by
    have e : acc.toArray ++ its.toArray = (acc ++ its).toArray := by simp
    have e2 : (acc ++ its) ++ (List.replicate k its).flatten = acc ++ (List.replicate (k + 1) its).flatten := by
      rw [List.replicate_succ, List.flatten_cons, List.append_assoc]
    rw [← e2, ← foldl_rep its k (acc ++ its), ← e, List.replicate_succ, List.foldl_cons]
section
variable {X : Cx} {pins : List (Addr × Obj)} {σ : St} {H : Hp} {s : Shared} {l b : Addr} {xs ys zs : List V}
theorem Inv.lset {its its' : List Value} {n : Nat} {f : Array Value → Array Value} {t' : Nat} (I : Inv X pins σ H s) (hH : H l = some (.lst xs))
    (e : s.heap.get? l = some { cls := .type "list", data := .seq its.toArray n }) (hf : f its.toArray = its'.toArray) (hv : Vals ys its') (hz : ys.length ≤ sizeLine) :
    Inv X pins σ (upd H l (.lst ys)) { s with heap := s.heap.update l (Obj.mapSeq f), toks := t' } := by
  have q := PySem.IsL.update e f
  rw [hf] at q
  refine I.write (x := l) (e := l) (by rw [hH]; exact trivial) (.inl rfl) (fun b' u hb hu => (Heap.get?_update_other s.heap (Obj.mapSeq f) (Ne.symm hb)).trans hu) ⟨_, q⟩ ?_
  exact ⟨hz, its', _, hv, q⟩
theorem Inv.lnew {its : List Value} {t' : Nat} (I : Inv X pins σ H s) (hv : Vals ys its) (hz : ys.length ≤ sizeLine) :
    Inv X pins σ (upd H s.heap.objs.size (.lst ys)) { s with heap := s.heap.push { cls := .type "list", data := .seq its.toArray }, toks := t' } :=
  I.laid (fun _ _ q => Heap.get?_push_of_some _ q) (Nat.le_refl _) ⟨hz, its, 0, hv, Heap.get?_push_size _ rfl⟩
theorem Inv.fresh (I : Inv X pins σ H s) : H s.heap.objs.size = none := I.hok.fresh (Nat.le_refl _)
theorem Inv.lstM (I : Inv X pins σ H s) (hH : H l = some (.lst xs)) : xs.length ≤ sizeLine ∧ ∃ (its : List Value) (n : Nat), Vals xs its ∧ xs.length = its.length ∧ s.heap.get? l = some { cls := .type "list", data := .seq its.toArray n } := by
  obtain ⟨z, its, n, r, e⟩ := I.hok l _ hH
  exact ⟨z, its, n, r, r.length, e⟩
theorem notLongL {n : Nat} (h : n ≤ sizeLine) : Builtin.List.listTooLong n = false := by
  unfold Builtin.List.listTooLong
  exact decide_eq_false (by omega)
end
section
variable {X : Cx}
def rAppend : V → List V → Hp → VK → Prop := fun x vs H Q => ∃ l xs y, x = .ref l ∧ vs = [y] ∧ H l = some (.lst xs) ∧ xs.length < sizeLine ∧ Q .non (upd H l (.lst (xs ++ [y])))
theorem mt_append : MtM X "list.append" rAppend := by
  intro pins s σ H x vs v us Q I rx rv h
  obtain ⟨l, xs, y, rfl, rfl, hH, hz, q⟩ := h
  cases rx
  obtain ⟨u, rfl, ru⟩ := rv.one
  obtain ⟨z, its, n, r, hl, e⟩ := I.lstM hH
  refine call_meets F.slot_list_append ⟨_, e, rfl⟩ F.entry_list_append (F.args_list_append_2 _ _) (PySem.list_append l its.toArray n u (by rw [List.size_toArray]; omega)) ⟨e, ?_⟩
  refine ⟨.non, _, I.lset (its' := its ++ [u]) hH e (by simp) (r.append (.cons ru .nil)) ?_, rfl, q⟩
  rw [List.length_append, List.length_singleton]
  omega
def rCat : R2 := fun x y H Q => ∃ l b xs zs, x = .ref l ∧ y = .ref b ∧ H l = some (.lst xs) ∧ H b = some (.lst zs) ∧ xs.length + zs.length ≤ sizeLine ∧ ∀ p, H p = none → Q (.ref p) (upd H p (.lst (xs ++ zs)))
theorem op_cat : OpR X (binaryOp .Add) rCat := by
  intro pins s σ H x y v u Q I rx ry h
  obtain ⟨l, b, xs, zs, rfl, rfl, hH, hB, hz, q⟩ := h
  cases rx
  cases ry
  obtain ⟨z, its, n, r, hl, e⟩ := I.lstM hH
  obtain ⟨z2, its2, n2, r2, hl2, e2⟩ := I.lstM hB
  refine PySem.P.add_list e e2 ?_ (by rw [List.size_toArray, List.size_toArray]; omega)
  have ea : its.toArray ++ its2.toArray = (its ++ its2).toArray := by simp
  rw [ea]
  exact ⟨.ref _, _, I.lnew (t' := s.toks) (r.append r2) (by rw [List.length_append]; omega), rfl, q _ I.fresh⟩
def rRep : R2 := fun x y H Q => ∃ l k xs, x = .ref l ∧ y = .int k ∧ H l = some (.lst xs) ∧ -(2 ^ 63) ≤ k ∧ k < 2 ^ 63 ∧ xs.length * k.toNat ≤ sizeLine ∧
  ∀ p, H p = none → Q (.ref p) (upd H p (.lst (List.replicate k.toNat xs).flatten))
theorem len_rep {α : Type} (xs : List α) (k : Nat) : (List.replicate k xs).flatten.length = k * xs.length := by
  induction k with
  | zero => simp
  | succ k ih => rw [List.replicate_succ, List.flatten_cons, List.length_append, ih, Nat.succ_mul, Nat.add_comm]
theorem op_rep : OpR X (binaryOp .Mult) rRep := by
  intro pins s σ H x y v u Q I rx ry h
  obtain ⟨l, k, xs, rfl, rfl, hH, h1, h2, hz, q⟩ := h
  cases rx
  obtain ⟨t, rfl⟩ := ry
  obtain ⟨z, its, n, r, hl, e⟩ := I.lstM hH
  have hlen : its.toArray.size * k.toNat ≤ sizeLine := by rw [List.size_toArray, ← hl]; exact hz
  have hcap : ¬ its.toArray.size * k.toNat > (2 ^ 63 - 1) / 8 := by
    have : (sizeLine : Nat) ≤ (2 ^ 63 - 1) / 8 := by decide
    omega
  have hfit : ¬ (!Builtin.List.listFitsIndex k) = true := by
    rw [fitsIndex_both h1 h2]
    exact Bool.false_ne_true
  have hlong : ¬ Builtin.List.listTooLong (its.toArray.size * k.toNat) = true := by
    rw [notLongL hlen]
    exact Bool.false_ne_true
  have hnew : List.foldl (fun x1 x2 => x1 ++ x2) #[] (List.replicate (if its.toArray.isEmpty = true then 0 else k.toNat) its.toArray) = (List.replicate k.toNat its).flatten.toArray := by
    have f0 : ∀ m : Nat, List.foldl (fun x1 x2 => x1 ++ x2) #[] (List.replicate m its.toArray) = (List.replicate m its).flatten.toArray := fun m => by
      have := foldl_rep its m []
      rw [List.nil_append] at this
      exact this
    rw [f0]
    cases its with
    | nil => simp
    | cons a r' => rw [if_neg (by simp)]
  refine wpAny_binaryOp_repeat_ref (T := "list") (U := "int") (by decide) ⟨_, e, rfl⟩ (fun s' => typeIs_int s' k t) noFill_list_mul F.fills_int_mul F.slot_int_rmul repeat_list F.slot_int_index.lookup
    (call_meets F.slot_int_rmul (typeIs_int s k t) F.entry_int_rmul (F.args_int_rmul_2 _ _) (int___rmul___int_list k t l its.toArray n)
      ⟨e, rfl, ⟨_, e, rfl⟩, call_meets F.slot_list_mul ⟨_, e, rfl⟩ F.entry_list_mul (F.args_list_mul_2 _ _) (AutoListH.list___mul___list_int_3 l its.toArray n k t hfit hcap hlong) ⟨e, ?_⟩⟩)
  rw [hnew]
  exact ⟨.ref _, _, I.lnew (t' := s.toks) (r.rep k.toNat) (by rw [len_rep, Nat.mul_comm]; exact hz), rfl, q _ I.fresh⟩
end
section
variable {prog : Program} {w : World} {A : Around} {E : Value → Shared → Prop} {s : Shared}
end
section
variable {X : Cx}
end
end L2
namespace L2
open PySem PySem.Spec PyProof.Rows
section
variable {κ : Type} [DecidableEq κ]
def valV (kvs : List (κ × V)) (k : κ) : Option V := (kvs.find? fun kv => decide (kv.1 = k)).map (·.2)
def putK (kvs : List (κ × V)) (k : κ) (v : V) : List (κ × V) :=
  if (kvs.any fun kv => decide (kv.1 = k)) = true then kvs.map (fun kv => if kv.1 = k then (kv.1, v) else kv) else kvs ++ [(k, v)]
def dropK (kvs : List (κ × V)) (k : κ) : List (κ × V) := kvs.filter fun kv => decide (kv.1 ≠ k)
theorem valV_pos {p : κ × V} {r : List (κ × V)} {k : κ} (e : p.1 = k) : valV (p :: r) k = some p.2 := by simp [valV, List.find?_cons, e]
theorem valV_neg {p : κ × V} {r : List (κ × V)} {k : κ} (e : ¬ p.1 = k) : valV (p :: r) k = valV r k := by simp [valV, List.find?_cons, e]
theorem valV_any (k : κ) : ∀ kvs : List (κ × V), (kvs.any fun kv => decide (kv.1 = k)) = (valV kvs k).isSome
  | [] => rfl
  | p :: r => by
    rw [List.any_cons]
    by_cases e : p.1 = k
    · simp only [valV_pos e, decide_eq_true e, Bool.true_or, Option.isSome_some]
    · rw [valV_neg e, decide_eq_false e, Bool.false_or]; exact valV_any k r
theorem length_putK (kvs : List (κ × V)) (k : κ) (v : V) : (putK kvs k v).length ≤ kvs.length + 1 := by
  unfold putK
  split
  · rw [List.length_map]; omega
  · rw [List.length_append, List.length_cons, List.length_nil]; omega
theorem RelO.isSome_eq {o : Option V} {u : Option Value} (r : RelO o u) : o.isSome = u.isSome := by
  cases o with
  | none => cases u with
    | none => rfl
    | some _ => exact (show False from r).elim
  | some _ => cases u with
    | none => exact (show False from r).elim
    | some _ => rfl
theorem RelO.getD {o : Option V} {u : Option Value} {d : V} {d' : Value} (r : RelO o u) (rd : RelV d d') : RelV (o.getD d) (u.getD d') := by
  cases o with
  | none => cases u with
    | none => exact rd
    | some _ => exact (show False from r).elim
  | some _ => cases u with
    | none => exact (show False from r).elim
    | some _ => exact r
theorem KV.val {kvs : List (κ × V)} {vs : List (κ × Value)} (r : KV kvs vs) (k : κ) : RelO (valV kvs k) (valueAt vs k) := by
  unfold KV at r
  induction r with
  | nil => exact True.intro
  | @cons p q ps qs h t ih =>
    obtain ⟨h1, h2⟩ := h
    by_cases e : p.1 = k
    · have e' : q.1 = k := h1.symm.trans e
      have b : valueAt (q :: qs) k = some q.2 := by simp [valueAt, List.find?_cons, e']
      rw [valV_pos e, b]; exact h2
    · have e' : ¬ q.1 = k := fun z => e (h1.trans z)
      have b : valueAt (q :: qs) k = valueAt qs k := by simp [valueAt, List.find?_cons, e']
      rw [valV_neg e, b]; exact ih
theorem KV.any {kvs : List (κ × V)} {vs : List (κ × Value)} (r : KV kvs vs) (k : κ) : (kvs.any fun kv => decide (kv.1 = k)) = vs.any fun kv => decide (kv.1 = k) := by
  unfold KV at r
  induction r with
  | nil => rfl
  | cons h t ih => rw [List.any_cons, List.any_cons, ih, h.1]
theorem KV.repl {kvs : List (κ × V)} {vs : List (κ × Value)} (r : KV kvs vs) (k : κ) {y : V} {u : Value} (ry : RelV y u) :
    KV (kvs.map fun kv => if kv.1 = k then (kv.1, y) else kv) (vs.map fun kv => if kv.1 = k then (kv.1, u) else kv) := by
  unfold KV at r ⊢
  induction r with
  | nil => exact .nil
  | @cons p q ps qs h t ih =>
    rw [List.map_cons, List.map_cons]
    refine .cons ?_ ih
    obtain ⟨h1, h2⟩ := h
    by_cases e : p.1 = k
    · rw [if_pos e, if_pos (h1.symm.trans e)]; exact ⟨h1, ry⟩
    · rw [if_neg e, if_neg (fun z => e (h1.trans z))]; exact ⟨h1, h2⟩
theorem KV.put {kvs : List (κ × V)} {vs : List (κ × Value)} (r : KV kvs vs) (k : κ) {y : V} {u : Value} (ry : RelV y u) : KV (putK kvs k y) (stored vs k u) := by
  unfold putK stored
  rw [r.any k]
  by_cases e : (vs.any fun kv => decide (kv.1 = k)) = true
  · rw [if_pos e, if_pos e]; exact r.repl k ry
  · rw [if_neg e, if_neg e]; exact Paired.snoc r ⟨rfl, ry⟩
theorem KV.drop {kvs : List (κ × V)} {vs : List (κ × Value)} (r : KV kvs vs) (k : κ) : KV (dropK kvs k) (without vs k) := by
  unfold KV at r ⊢
  unfold dropK without
  induction r with
  | nil => exact .nil
  | @cons p q ps qs h t ih =>
    obtain ⟨h1, h2⟩ := h
    rw [List.filter_cons, List.filter_cons]
    by_cases e : p.1 = k
    · have a : ¬ decide (p.1 ≠ k) = true := by simp [e]
      have b : ¬ decide (q.1 ≠ k) = true := by simp [h1.symm.trans e]
      rw [if_neg a, if_neg b]; exact ih
    · have e' : ¬ q.1 = k := fun z => e (h1.trans z)
      have a : decide (p.1 ≠ k) = true := by simp [e]
      have b : decide (q.1 ≠ k) = true := by simp [e']
      rw [if_pos a, if_pos b]; exact .cons ⟨h1, h2⟩ ih
theorem KV.keys {kvs : List (κ × V)} {vs : List (κ × Value)} (r : KV kvs vs) : kvs.map (·.1) = vs.map (·.1) := by
  unfold KV at r
  induction r with
  | nil => rfl
  | cons h t ih => rw [List.map_cons, List.map_cons, ih, h.1]
theorem KV.length {kvs : List (κ × V)} {vs : List (κ × Value)} (r : KV kvs vs) : kvs.length = vs.length := Paired.length r
end
theorem kV_is {P : Program} {w : World} {k : Key} {u : Value} (r : RelV (kV k) u) : (mixKind P w).is k u = true := by
  cases k with
  | inl i => obtain ⟨t, e⟩ := (show ∃ t, u = Value.int i t from r); subst e; exact mixKind_int P w i t
  | inr x => obtain ⟨t, e⟩ := (show ∃ t, u = Value.str x t from r); subst e; exact mixKind_str P w x t
abbrev KT (B : Bool) (H : Hp) : List (PKy × V) → List (PKy × Addr × Value) → Prop := Paired fun p q => p.1 = q.1 ∧ PKey B H p.1 q.2.1 ∧ RelV p.2 q.2.2
theorem KT.val {B : Bool} {H : Hp} {kvs : List (PKy × V)} {xs : List (PKy × Addr × Value)} (r : KT B H kvs xs) (k : PKy) : RelO (valV kvs k) ((atKey xs k).map (·.2)) := by
  induction r with
  | nil => exact True.intro
  | @cons p q ps qs h t ih =>
    obtain ⟨h1, _, h2⟩ := h
    by_cases e : p.1 = k
    · have e' : q.1 = k := h1.symm.trans e
      have b : atKey (q :: qs) k = some q.2 := by simp [atKey, List.find?_cons, e']
      rw [valV_pos e, b]; exact h2
    · have e' : ¬ q.1 = k := fun z => e (h1.trans z)
      have b : atKey (q :: qs) k = atKey qs k := by simp [atKey, List.find?_cons, e']
      rw [valV_neg e, b]; exact ih
theorem KT.repl {B : Bool} {H : Hp} {kvs : List (PKy × V)} {xs : List (PKy × Addr × Value)} (r : KT B H kvs xs) (k : PKy) {y : V} {u : Value} (ry : RelV y u) :
    KT B H (kvs.map fun kv => if kv.1 = k then (kv.1, y) else kv) (xs.map (putAt k u)) := by
  induction r with
  | nil => exact .nil
  | @cons p q ps qs h t ih =>
    rw [List.map_cons, List.map_cons]
    refine .cons ?_ ih
    obtain ⟨h1, h2, h3⟩ := h
    unfold putAt
    by_cases e : p.1 = k
    · rw [if_pos e, if_pos (h1.symm.trans e)]; exact ⟨h1, h2, ry⟩
    · rw [if_neg e, if_neg (fun z => e (h1.trans z))]; exact ⟨h1, h2, h3⟩
theorem KT.put {B : Bool} {H : Hp} {kvs : List (PKy × V)} {xs : List (PKy × Addr × Value)} (r : KT B H kvs xs) (k : PKy) {b : Addr} {y : V} {u : Value} (hb : PKey B H k b) (ry : RelV y u) :
    KT B H (putK kvs k y) (storedH xs k b u) := by
  have e : (kvs.any fun kv => decide (kv.1 = k)) = (atKey xs k).isSome := by
    rw [valV_any, (r.val k).isSome_eq, Option.isSome_map]
  unfold putK storedH
  rw [e]
  by_cases q : (atKey xs k).isSome = true
  · rw [if_pos q, if_pos q]; exact r.repl k ry
  · rw [if_neg q, if_neg q]; exact Paired.snoc r ⟨rfl, hb, ry⟩
theorem KT.keeps {B : Bool} {H H' : Hp} {kvs : List (PKy × V)} {xs : List (PKy × Addr × Value)} (r : KT B H kvs xs) (ht : ∀ b ys, H b = some (.tup ys) → H' b = some (.tup ys)) : KT B H' kvs xs :=
  Paired.mapP r fun _ _ z => ⟨z.1, z.2.1.stay ht, z.2.2⟩
section
variable {P : Program} {w : World} {H : Hp} {h : Heap} {a : Addr}
theorem rd_of {u : HO} (ok : HOk P w H h) (e : Rd H a u) : ObjOk P w H h a u := e.ok ok
theorem dk_rd {kvs : List (Key × V)} (ok : HOk P w H h) (e : Rd H a (.dK kvs)) : kvs.length ≤ sizeLine ∧ (a == sysModules) = false ∧ ∃ vs, KV kvs vs ∧ h.DictOf (mixKind P w) a vs :=
  show ObjOk P w H h a (.dK kvs) from rd_of ok e
theorem dk_of {kvs : List (Key × V)} (ok : HOk P w H h) (e : H a = some (.dK kvs)) : kvs.length ≤ sizeLine ∧ (a == sysModules) = false ∧ ∃ vs, KV kvs vs ∧ h.DictOf (mixKind P w) a vs := dk_rd ok (.inl e)
theorem Vals.cons_inv {x : V} {xs : List V} {us : List Value} (r : Vals (x :: xs) us) : ∃ u r', us = u :: r' ∧ RelV x u ∧ Vals xs r' := by
  cases r with
  | cons h t => exact ⟨_, _, rfl, h, t⟩
theorem ints_are {P : Program} {w : World} : ∀ {ks : List Int} {us : List Value}, Vals (ks.map V.int) us → ItemsAre (intKind P w) ks us
  | [], _, r => by rw [List.map_nil] at r; cases r; exact .nil
  | k :: ks, _, r => by
    rw [List.map_cons] at r
    cases r with
    | cons h t =>
      obtain ⟨t', rfl⟩ := (show ∃ t, _ = Value.int k t from h)
      exact .cons (int_is k t') (ints_are t)
theorem key_of {B : Bool} {k : PKy} (ok : HOk P w H h) (e : PKey B H k a) : (pairKind P w B).is h k a := by
  cases B with
  | true =>
    obtain ⟨m, em, e⟩ : ∃ m : Int, k.2 = [m] ∧ H a = some (.tup [.int k.1, .int m]) := e
    obtain ⟨_, its, r, o, h1, h2, n, h3⟩ := (show ObjOk P w H h a (.tup [.int k.1, .int m]) from ok a _ e)
    obtain ⟨v1, r1, rfl, x1, z1⟩ := Vals.cons_inv r
    obtain ⟨v2, r2, rfl, x2, z2⟩ := Vals.cons_inv z1
    cases z2
    obtain ⟨t1, rfl⟩ := (show ∃ t, v1 = Value.int k.1 t from x1)
    obtain ⟨t2, rfl⟩ := (show ∃ t, v2 = Value.int m t from x2)
    exact ⟨o, n, t1, _, h1, h2, h3, m, t2, em, rfl⟩
  | false =>
    obtain ⟨c, e, ec⟩ : ∃ c, H a = some (.tup [.int k.1, .ref c]) ∧ H c = some (.tup (k.2.map V.int)) := e
    obtain ⟨_, its, r, o, h1, h2, n, h3⟩ := (show ObjOk P w H h a (.tup [.int k.1, .ref c]) from ok a _ e)
    obtain ⟨v1, r1, rfl, x1, z1⟩ := Vals.cons_inv r
    obtain ⟨v2, r2, rfl, x2, z2⟩ := Vals.cons_inv z1
    cases z2
    obtain ⟨t1, rfl⟩ := (show ∃ t, v1 = Value.int k.1 t from x1)
    obtain rfl := (show v2 = Value.ref c from x2)
    obtain ⟨_, its', r', o', g1, g2, n', g3⟩ := (show ObjOk P w H h c (.tup (k.2.map V.int)) from ok c _ ec)
    exact ⟨o, n, t1, _, h1, h2, h3, c, rfl, o', its'.toArray, n', g1, g2, g3, by simpa using ints_are r'⟩
theorem dt_rd {B : Bool} {kvs : List (PKy × V)} (ok : HOk P w H h) (e : Rd H a (.dT B kvs)) : kvs.length ≤ sizeLine ∧ (a == sysModules) = false ∧
    ∃ xs, KT B H kvs xs ∧ h.DictOfH (pairKind P w B) a xs := by
  obtain ⟨z, y, xs, r, o, es, ep, h1, h2, h3, h4, h5⟩ := (show ObjOk P w H h a (.dT B kvs) from rd_of ok e)
  refine ⟨z, y, xs, r, o, es, ep, h1, h2, h3, h4, fun x hx => ?_, h5⟩
  have all : ∀ {l : List (PKy × V)} {m : List (PKy × Addr × Value)}, KT B H l m → ∀ x ∈ m, (pairKind P w B).is h x.1 x.2.1 := by
    intro l m q
    induction q with
    | nil => intro x hx; exact nomatch hx
    | @cons p q ps qs hq t ih =>
      intro x hx
      rcases List.mem_cons.mp hx with e | hx
      · subst e
        exact key_of ok (by rw [← hq.1]; exact hq.2.1)
      · exact ih x hx
  exact all r x hx
theorem dt_of {B : Bool} {kvs : List (PKy × V)} (ok : HOk P w H h) (e : H a = some (.dT B kvs)) : kvs.length ≤ sizeLine ∧ (a == sysModules) = false ∧
    ∃ xs, KT B H kvs xs ∧ h.DictOfH (pairKind P w B) a xs := dt_rd ok (.inl e)
end
def DGet (H : Hp) (a : Addr) (y : V) (r : Option V) : Prop :=
  (∃ kvs k, Rd H a (.dK kvs) ∧ y = kV k ∧ r = valV kvs k) ∨ ∃ B kvs k b, Rd H a (.dT B kvs) ∧ y = .ref b ∧ PKey B H k b ∧ r = valV kvs k
def DPut (H : Hp) (a : Addr) (y v : V) (H' : Hp) : Prop :=
  (∃ kvs k, H a = some (.dK kvs) ∧ y = kV k ∧ kvs.length < sizeLine ∧ H' = upd H a (.dK (putK kvs k v))) ∨
  ∃ B kvs k b, H a = some (.dT B kvs) ∧ y = .ref b ∧ PKey B H k b ∧ kvs.length < sizeLine ∧ H' = upd H a (.dT B (putK kvs k v))
theorem DGet.k {H : Hp} {a : Addr} {kvs : List (Key × V)} {k : Key} (e : H a = some (.dK kvs)) : DGet H a (kV k) (valV kvs k) := .inl ⟨kvs, k, .inl e, rfl, rfl⟩
theorem DGet.t {B : Bool} {H : Hp} {a b : Addr} {kvs : List (PKy × V)} {k : PKy} (e : H a = some (.dT B kvs)) (eb : PKey B H k b) : DGet H a (.ref b) (valV kvs k) := .inr ⟨B, kvs, k, b, .inl e, rfl, eb, rfl⟩
theorem DPut.k {H : Hp} {a : Addr} {kvs : List (Key × V)} {k : Key} {v : V} (e : H a = some (.dK kvs)) (hl : kvs.length < sizeLine) : DPut H a (kV k) v (upd H a (.dK (putK kvs k v))) := .inl ⟨kvs, k, e, rfl, hl, rfl⟩
theorem DPut.t {B : Bool} {H : Hp} {a b : Addr} {kvs : List (PKy × V)} {k : PKy} {v : V} (e : H a = some (.dT B kvs)) (eb : PKey B H k b) (hl : kvs.length < sizeLine) :
    DPut H a (.ref b) v (upd H a (.dT B (putK kvs k v))) := .inr ⟨B, kvs, k, b, e, rfl, eb, hl, rfl⟩
theorem pair_room {P : Program} {w : World} {A : Around} {B : Bool} (hu : A.units + 20 < cLine) : (pairKind P w B).room A.in1 := by
  show A.in1.units + 8 < cLine
  rw [Around.in1_units]
  omega
section
variable {X : Cx} {pins : List (Addr × Obj)} {σ : St} {H : Hp} {s : Shared} {a : Addr} {y v : V} {u r : Value} {o : Option V} {A : Around} {E : Value → Shared → Prop}
theorem Inv.big (I : Inv X pins σ H s) : sysModules < s.heap.objs.size := by
  have h : mainGlobals < s.heap.objs.size := (I.mod.glob.keeps I.bk).lt
  exact Nat.lt_trans (by decide) h
theorem d_in {Q : Value → Shared → Prop} (hu : A.units + 20 < cLine) (I : Inv X pins σ H s) (g : DGet H a y o) (ry : RelV y u) (h : ∀ s', Inv X pins σ H s' → Q (.bool o.isSome) s') :
    wpAny (model X.prog X.w) A (compareOp .In u (.ref a)) Q E s := by
  rcases g with ⟨kvs, k, e, ey, l⟩ | ⟨B, kvs, k, b, e, ey, eb, l⟩
  · subst ey
    obtain ⟨z, hd, vs, rel, dd⟩ := dk_rd I.hok e
    refine wpAny_in_of (kV_is ry) hd dd.mapOf ?_
    rw [← (rel.val k).isSome_eq, ← l]
    exact h _ (I.tok _)
  · subst ey
    cases (show u = Value.ref b from ry)
    obtain ⟨z, hd, xs, rel, dd⟩ := dt_rd I.hok e
    refine wpAny_in_heap (pair_room hu) (key_of I.hok eb) hd dd ?_
    have q := (rel.val k).isSome_eq
    rw [Option.isSome_map] at q
    rw [← q, ← l]
    exact h _ (I.tok _)
theorem d_write {h' : Heap} {t' : Nat} {ob : HO} (I : Inv X pins σ H s) (mu : Mut (H a)) (hs : Heap.SameBut a s.heap h') (he : ∃ q, h'.get? a = some q) (new : ObjOk X.prog X.w (upd H a ob) h' a ob) :
    Inv X pins σ (upd H a ob) { s with heap := h', toks := t' } :=
  I.write (x := a) (e := a) mu (.inl rfl) (fun b q hb z => (hs.2 b hb).trans z) he new
theorem dk_new {P : Program} {w : World} {H' : Hp} {h' : Heap} {kvs : List (Key × V)} {vs : List (Key × Value)} (z : kvs.length ≤ sizeLine) (hd : (a == sysModules) = false) (rel : KV kvs vs) (dd : h'.DictOf (mixKind P w) a vs) :
    ObjOk P w H' h' a (.dK kvs) := ⟨z, hd, vs, rel, dd⟩
theorem d_setItem {H' : Hp} {Q : Unit → Shared → Prop} (hu : A.units + 20 < cLine) (I : Inv X pins σ H s) (g : DPut H a y v H') (ry : RelV y u) (rv : RelV v r) (h : ∀ s', Inv X pins σ H' s' → Q () s') :
    wpAny (model X.prog X.w) A (setItem (.ref a) u r) Q E s := by
  rcases g with ⟨kvs, k, e, ey, l, eH⟩ | ⟨B, kvs, k, b, e, ey, eb, l, eH⟩
  · subst ey eH
    obtain ⟨z, hd, vs, rel, dd⟩ := dk_of I.hok e
    have hz : vs.length ≤ sizeLine := by rw [← rel.length]; exact z
    have hl : (putK kvs k v).length ≤ sizeLine := by have := length_putK kvs k v; omega
    refine wpAny_setItem_pairs (hsz := hz) (kV_is ry) dd fun h' dd' hs => h _ ?_
    have he : ∃ q, h'.get? a = some q := let ⟨q, _, _, hq, _⟩ := dd'; ⟨q, hq⟩
    exact d_write I (by rw [e]; exact True.intro) hs he (dk_new hl hd (rel.put k rv) dd')
  · subst ey eH
    cases (show u = Value.ref b from ry)
    obtain ⟨z, hd, xs, rel, dd⟩ := dt_of I.hok e
    have hz : xs.length ≤ sizeLine := by rw [← Paired.length rel]; exact z
    have hl : (putK kvs k v).length ≤ sizeLine := by have := length_putK kvs k v; omega
    refine wpAny_setItem_heap (hsz := hz) (pair_room hu) (key_of I.hok eb) dd fun h' dd' hs => h _ ?_
    obtain ⟨q, es, ep, hq, h2, h3, h4, _, h5⟩ := dd'
    refine d_write I (by rw [e]; exact True.intro) hs ⟨q, hq⟩ ⟨hl, hd, _, (rel.put k eb rv).keeps fun c ys ec => ?_, q, es, ep, hq, h2, h3, h4, h5⟩
    rw [upd_ne (ne_of ec e (fun z => nomatch z))]
    exact ec
end
section
variable {X : Cx} {pins : List (Addr × Obj)} {σ : St} {H : Hp} {s : Shared} {a : Addr} {kvs : List (Key × V)} {k : Key} {u : Value} {A : Around} {E : Value → Shared → Prop}
end
def tDIn (ty td : TE) : TE := fun σ H Q => ty σ H fun y H1 => td σ H1 fun x H2 => ∃ a o, x = .ref a ∧ DGet H2 a y o ∧ Q (.bl o.isSome) H2
def sDPut (td ty tv : TE) : TS := fun D σ H => tv σ H fun v H1 => td σ H1 fun x H2 => ty σ H2 fun y H3 => ∃ a H4, x = .ref a ∧ DPut H3 a y v H4 ∧ D.nx σ H4
section
variable {X : Cx} {o i e value : Expr} {pos pos' tpos : Pos} {td ty tv : TE}
theorem pc_din (hu : X.A.units + 20 < cLine) (hi : PE X i ty) (ho : PE X o td) : PC X .In i o (tDIn ty td) := by
  intro pins s σ H Q I h
  refine thn (hi pins s σ H _ I h) fun iv s1 ⟨y, H1, I1, ry, q1⟩ => thn (ho pins s1 σ H1 _ I1 q1) fun u s2 ⟨x, H2, I2, rx, a, ov, ex, g, q2⟩ => ?_
  subst ex
  obtain rfl : u = Value.ref a := rx
  exact d_in hu I2 g ry fun s3 I3 => ⟨.bl ov.isSome, H2, I3, rfl, q2⟩
theorem ps_dput (hu : X.A.units + 20 < cLine) (ho : PE X o td) (hi : PE X i ty) (hv : PE X value tv) (hs : swapsWith value (some (.Subscript o i pos')) pos.line X.env = pure false) :
    PS X (.Assign [.Subscript o i pos'] value pos) (sDPut td ty tv) := by
  intro pins s σ H D I h
  refine wpAny_Assign_Subscript (thn (hv pins s σ H _ I h) fun r s1 ⟨v, H1, I1, rv, q1⟩ => thn (ho pins s1 σ H1 _ I1 q1) fun u s2 ⟨x, H2, I2, rx, q2⟩ => thn (hi pins s2 σ H2 _ I2 q2) fun iv s3 ⟨y, H3, I3, ry, a, H4, ex, g, q3⟩ => ?_) hs
  subst ex
  obtain rfl : u = Value.ref a := rx
  exact d_setItem hu I3 g ry rv fun s4 I4 => ⟨σ, H4, I4, q3⟩
end
theorem dt_empty {B : Bool} {P : Program} {w : World} {H : Hp} (h : Heap) (hb : sysModules < h.objs.size) : ObjOk P w H (h.push { cls := .type "dict", data := .dict #[] }) h.objs.size (.dT B []) :=
  ⟨Nat.zero_le _, beq_eq_false_iff_ne.mpr (Ne.symm (Nat.ne_of_lt hb)), [], .nil, _, #[], 0, Heap.get?_push_size _ rfl, ⟨rfl, rfl, rfl⟩, rfl, rfl, List.nodup_nil⟩
def tDNewT (B : Bool) : TE := fun _ H Q => ∀ p, H p = none → Q (.ref p) (upd H p (.dT B []))
section
variable {X : Cx} {pos : Pos}
theorem pe_dnewT (B : Bool) : PE X (.Dict [] [] pos) (tDNewT B) := fun pins s σ H Q I h =>
  wpAny_Dict_empty ⟨.ref s.heap.objs.size, _, I.laid (a := s.heap.objs.size) (o := .dT B []) (t' := s.toks) (fun _ _ q => Heap.get?_push_of_some _ q) (Nat.le_refl _) (dt_empty s.heap I.big), rfl, h _ (I.hok.fresh (Nat.le_refl _))⟩
end
def tPairs : List (TE × TE) → St → Hp → (List (V × V) → Hp → Prop) → Prop
  | [], _, H, Q => Q [] H
  | (tk, tv) :: r, σ, H, Q => tk σ H fun x H1 => tv σ H1 fun y H2 => tPairs r σ H2 fun ps H3 => Q ((x, y) :: ps) H3
abbrev VV : List (V × V) → List (Value × Value) → Prop := Paired fun p q => RelV p.1 q.1 ∧ RelV p.2 q.2
def PPs (X : Cx) (pos : Pos) (keys : List (Option Expr)) (values : List Expr) (trs : List (TE × TE)) : Prop :=
  ∀ (pins : List (Addr × Obj)) (s : Shared) (σ : St) (H : Hp) (Q : List (V × V) → Hp → Prop), Inv X pins σ H s → tPairs trs σ H Q →
    wpAny (model X.prog X.w) X.A (evalPairs (pairTrees keys values X.env pos)) (fun vs s' => ∃ ps H', Inv X pins σ H' s' ∧ VV ps vs ∧ Q ps H') X.xe s
theorem pps_nil {X : Cx} {pos : Pos} : PPs X pos [] [] [] := fun pins s σ H Q I h => pairTrees_nil_walk ⟨[], H, I, .nil, h⟩
theorem pps_cons {X : Cx} {pos : Pos} {k v : Expr} {ks : List (Option Expr)} {vs : List Expr} {tk tv : TE} {trs : List (TE × TE)} (hk : PE X k tk) (hv : PE X v tv) (hr : PPs X pos ks vs trs) :
    PPs X pos (some k :: ks) (v :: vs) ((tk, tv) :: trs) := fun pins s σ H Q I h =>
  pairTrees_cons_walk (thn (hk pins s σ H _ I h) fun u s1 ⟨x, H1, I1, rx, q1⟩ => thn (hv pins s1 σ H1 _ I1 q1) fun w2 s2 ⟨y, H2, I2, ry, q2⟩ =>
    thn (hr pins s2 σ H2 _ I2 q2) fun ws s3 ⟨ps, H3, I3, rel, q3⟩ => ⟨(x, y) :: ps, H3, I3, .cons ⟨rx, ry⟩ rel, q3⟩)
structure M1 (X : Cx) (o : Expr) (m : Str) (apos : Pos) (e : Expr) (cpos : Pos) : Prop where
  base : attributeBase o m X.env (eval o X.env) = eval o X.env
  few : ((backTo cpos (starEach [e] X.env)).all (fun x => !x.1) && (backToKw cpos (keywordEach [] X.env)).all (fun x => x.1.isSome)
    && decide (([e] : List Expr).length + ([] : List Keyword).length + (if ([] : List Keyword).isEmpty then 0 else 1) < 30)) = true
  line : (apos.endLine == cpos.line) = true
  trees : backTo cpos (starEach [e] X.env) = [(false, eval e X.env)]
structure M2 (X : Cx) (o : Expr) (m : Str) (apos : Pos) (e f : Expr) (cpos : Pos) : Prop where
  base : attributeBase o m X.env (eval o X.env) = eval o X.env
  few : ((backTo cpos (starEach [e, f] X.env)).all (fun x => !x.1) && (backToKw cpos (keywordEach [] X.env)).all (fun x => x.1.isSome)
    && decide (([e, f] : List Expr).length + ([] : List Keyword).length + (if ([] : List Keyword).isEmpty then 0 else 1) < 30)) = true
  line : (apos.endLine == cpos.line) = true
  trees : backTo cpos (starEach [e, f] X.env) = [(false, eval e X.env), (false, eval f X.env)]
def IsD (H : Hp) (a : Addr) : Prop := (∃ kvs, Rd H a (.dK kvs)) ∨ ∃ B kvs, Rd H a (.dT B kvs)
theorem isD_at {X : Cx} {pins : List (Addr × Obj)} {σ : St} {H : Hp} {s : Shared} {a : Addr} (I : Inv X pins σ H s) (d : IsD H a) :
    s.TypeIs (.ref a) "dict" ∧ (∀ b, Value.ref a = .ref b → ∃ ob, s.heap.get? b = some ob ∧ ob.dict = none) ∧ (a == sysModules) = false := by
  rcases d with ⟨kvs, e⟩ | ⟨B, kvs, e⟩
  · obtain ⟨_, hd, vs, _, dd⟩ := dk_rd I.hok e
    refine ⟨dd.typeIs, fun b q => ?_, hd⟩
    cases q
    obtain ⟨ob, _, _, h1, h2, _⟩ := dd
    exact ⟨ob, h1, h2.2.1⟩
  · obtain ⟨_, hd, xs, _, dd⟩ := dt_rd I.hok e
    refine ⟨dd.typeIs, fun b q => ?_, hd⟩
    cases q
    obtain ⟨ob, _, _, h1, h2, _⟩ := dd
    exact ⟨ob, h1, h2.2.1⟩
section
variable {X : Cx} {pins : List (Addr × Obj)} {σ : St} {H : Hp} {s : Shared} {a : Addr} {y d : V} {u r : Value} {o : Option V} {A : Around} {E : Value → Shared → Prop}
theorem d_get2 {Q : Value → Shared → Prop} (hu : A.units + 20 < cLine) (I : Inv X pins σ H s) (g : DGet H a y o) (ry : RelV y u) (rd : RelV d r) (h : ∀ w' s', Inv X pins σ H s' → RelV (o.getD d) w' → Q w' s') :
    wpAny (model X.prog X.w) A (call (.builtin "dict.get") [.ref a, u, r]) Q E s := by
  rcases g with ⟨kvs, k, e, ey, l⟩ | ⟨B, kvs, k, b, e, ey, eb, l⟩
  · subst ey
    obtain ⟨z, hd, vs, rel, dd⟩ := dk_rd I.hok e
    refine call_meetsIn PySem.F.slot_dict_get dd.typeIs PySem.F.entry_dict_get (PySem.F.args_dict_get_3 _ _ _) (meets_dict_get_default (mixKind X.prog X.w) a (kV_is ry) hd r) ⟨_, dd.mapOf, h _ _ (I.tok _) ?_⟩
    rw [l]
    exact (rel.val k).getD rd
  · subst ey
    cases (show u = Value.ref b from ry)
    obtain ⟨z, hd, xs, rel, dd⟩ := dt_rd I.hok e
    refine call_meetsIn PySem.F.slot_dict_get dd.typeIs PySem.F.entry_dict_get (PySem.F.args_dict_get_3 _ _ _) (meetsH_dict_get_default (pairKind X.prog X.w B) a b hd r) ⟨pair_room hu, k, xs, key_of I.hok eb, dd, h _ _ (I.tok _) ?_⟩
    rw [l]
    exact (rel.val k).getD rd
end
def tDGet2 (td ty tx : TE) : TE := fun σ H Q => td σ H fun x H1 => ∃ a, x = .ref a ∧ IsD H1 a ∧ ty σ H1 fun y H2 => tx σ H2 fun z H3 => ∃ o, DGet H3 a y o ∧ Q (o.getD z) H3
section
variable {X : Cx} {o e f : Expr} {apos cpos : Pos} {td ty tx : TE}
theorem pe_dget2 (hu : X.A.units + 20 < cLine) (ho : PE X o td) (he : PE X e ty) (hf : PE X f tx) (m : M2 X o "get" apos e f cpos) : PE X (.Call (.Attribute o "get" apos) [e, f] [] cpos) (tDGet2 td ty tx) := by
  intro pins s σ H Q I h
  refine wpAny_Call_method m.base m.few m.line PySem.F.plainAttrs_dict PySem.F.slot_dict_get PySem.F.type_dict_get (thn (ho pins s σ H _ I h) fun u s1 ⟨x, H1, I1, rx, a, ex, d, q1⟩ => ?_)
  subst ex
  obtain rfl : u = Value.ref a := rx
  obtain ⟨t1, t2, _⟩ := isD_at I1 d
  refine ⟨t1, t2, ?_⟩
  rw [m.trees]
  refine Calls.callWith_builtin rfl (Calls.evalArgs_plain (Calls.spliced_cons (thn (he pins s1 σ H1 _ I1 q1) fun iv s2 ⟨y, H2, I2, ry, q2⟩ =>
    Calls.spliced_cons (thn (hf pins s2 σ H2 _ I2 q2) fun fv s3 ⟨z, H3, I3, rz, ov, g, q3⟩ => Calls.spliced_nil ?_))))
  exact d_get2 hu I3 g ry rz fun w' s4 I4 rw' => ⟨_, H3, I4, rw', q3⟩
end
section
variable {X : Cx} {pins : List (Addr × Obj)} {σ : St} {H : Hp} {s : Shared} {a : Addr} {kvs : List (Key × V)} {A : Around} {E : Value → Shared → Prop}
end
section
variable {X : Cx} {pins : List (Addr × Obj)} {σ : St} {H : Hp} {s : Shared} {a : Addr} {y : V} {u : Value} {A : Around} {E : Value → Shared → Prop}
end
end L2
namespace Att
open PySem PySem.W PySem.Calls PyProof.Rows
theorem ints_of_wellAll {P : Params} {h : Heap} : ∀ (ns : List Int) (vs : List Value), WellAll P h vs (ns.map WData.int) → IntsAre vs ns := by
  intro ns
  induction ns with
  | nil =>
    intro vs w
    rw [List.map_nil] at w
    cases w
    exact .nil
  | cons n ns ih =>
    intro vs w
    rw [List.map_cons] at w
    cases w with
    | cons a b =>
      cases a
      exact .cons _ _ (ih _ b)
theorem script_of {l : OpenLaw} {n : Nat} (hn : l.most = some n) {P : Params} {h : Heap} {args : List WData} {vals : List Value}
    (hpre : l.row.toRowW.claim.pre args = true) (hwl : WellAll P h vals args) :
    ∃ a vs ns, vals = [Value.ref a] ∧ args = [WData.list (ns.map WData.int)] ∧ h.get? a = some { cls := .type "list", data := .seq vs.toArray } ∧ IntsAre vs ns ∧ ns.length ≤ n := by
  have hsh : WShape.hasAll [] args [.list .int] = true := (pre_splitW hpre).1
  have hc : l.pre.holds [] { args := args } = true := (pre_splitW hpre).2
  obtain ⟨d, r, rfl, h1, h2⟩ := hasAllW_cons hsh
  obtain rfl := hasAllW_nil h2
  obtain ⟨xs, rfl, h3⟩ := hasW_list h1
  obtain ⟨ns, rfl⟩ := items_int h3
  have hlen : ns.length ≤ n := by
    unfold OpenLaw.pre at hc
    have h4 : (WTm.not (.lt (.lit (.int (n : Int))) (.len (.arg 0)))).holds [] { args := [.list (ns.map .int)] } = true := by
      have h4 := (holds_andW hc).1
      rw [hn] at h4
      exact h4
    have h5 := condW_of h4 (w_not (w_lt w_lit (w_len_list (w_arg rfl))))
    rw [List.length_map] at h5
    refine Nat.le_of_not_lt fun q => ?_
    have q' : (n : Int) < ((ns.length : Nat) : Int) := by omega
    first
      | (rw [decide_eq_true q'] at h5; exact absurd h5 (by decide))
      | (simp at h5; omega)
  cases hwl with
  | cons w1 w2 =>
    cases w2
    cases w1 with
    | list ho hall => exact ⟨_, _, ns, rfl, rfl, ho, ints_of_wellAll ns _ hall, hlen⟩
theorem post_true (l : OpenLaw) (args : List WData) : l.row.toRowW.claim.post args (.bool true) args = true :=
  postW_of (r := l.row.toRowW) (X := (true == true))
    (show WShape.has [] (.bool true) .bool = true by first | rfl | decide | simp [WShape.has, WShape.arms, WShape.armsAll])
    (show (WTm.eq .res (.lit (.bool true))).value [] { args := args, res := some (.bool true), after := args } = some (.bool (true == true)) from w_eq_bool (w_res rfl) w_lit) rfl
theorem attach_call {l : OpenLaw} {n : Nat} {q : Program} {loose : List Str} {XP : (Str → Option Value) → Heap → Prop} {YP : World → Heap → Prop} {d : DefRec}
    (hn : l.most = some n) (hdf : d.params.defaults = [])
    (call : ∀ (w : World) (s₀ s₁ : Shared) (mg mb : Str → Option Value) (fa : Addr) (o : Obj) (pm cd doc : Value) (a : Addr) (vs : List Value) (ns : List Int),
      Ground q loose [] XP w s₀ mg mb s₁.heap → YP w s₁.heap →
      s₁.heap.get? fa = some o → o.data = .func (docDef d.name d.params d.body d.scope pm cd doc) → s₁.heap.CodeRec cd d.name → mg d.name = some (.ref fa) →
      s₁.heap.get? a = some { cls := .type "list", data := .seq vs.toArray } → IntsAre vs ns → ns.length ≤ n → s₁.gens = #[] →
      codeAny (model l.prog w) callerA (.call (.ref fa) ⟨[.ref a], []⟩) (fun r s' => r = .ok (.ret (.bool true)) ∧ OldK s₁.heap s'.heap ∧ s'.os = s₁.os ∧ AllBare s'.gens) s₁) :
    WalkO q loose XP YP l.row.toRowW d [] (fun f vs => PySem.call f vs) := by
  intro w s₀ s₁ mg mb G Y fa o pm cd doc dV kV ho hd hcd hD hmg hg args vals as hpre hlay hrd hwl hlo
  obtain rfl : dV = .none := Dflts.none hD hdf
  obtain rfl : kV = .none := Dflts.noKw hD
  obtain ⟨a, vs, ns, rfl, rfl, hobj, hints, hlen⟩ := script_of hn hpre hwl
  refine enter_call (codeAny_mono (call w s₀ s₁ mg mb fa o pm cd doc a vs ns G Y ho (fd_plain hd) hcd hmg hobj hints hlen hg) fun r s' hq => ?_)
  obtain ⟨rfl, h2, h3, h4⟩ := hq
  exact ⟨.inl ⟨.bool true, .bool true, [], rfl, fun _ => rfl, .bool true, post_true l _, fun _ => ⟨List.Pairwise.nil, fun _ hm => (nomatch hm)⟩⟩, h2, h3, h4⟩
section
variable {prog : Program} {w : World} {A : Around} {E : Value → Shared → Prop} {s : Shared} {K : Frag}
end
end Att
namespace L2
open PySem PySem.Spec PyProof.Rows
theorem vals_ints : ∀ {vs : List Value} {ns : List Int}, IntsAre vs ns → Vals (ns.map V.int) vs
  | _, _, .nil => .nil
  | _, _, .cons n t h => .cons ⟨t, rfl⟩ (vals_ints h)
def Only (H : Hp) : Prop := ∀ b, H b = none ∨ ∃ o xs, H b = some (.frz o (.lst xs))
theorem law_call {P : Program} {w : World} {K : PySem.W.Frag} {mg mb : Str → Option Value} {CX : CXT} {k : Nat} {fa a : Addr} {fd : FuncData} {x : Str} {sp : Sp} {s₁ : Shared} {vs : List Value} {ns : List Int}
    (KX : K.In s₁.heap) (hns : s₁.heap.Ns mainGlobals mg) (hb : s₁.heap.Ns builtinsNs mb) (hbb : ∀ x : Str, x ≠ "__name__" → mb x = bootBuiltins x) (hlim : s₁.heap.NoLimit) (hg : s₁.gens = #[])
    (ha : s₁.heap.get? a = some { cls := .type "list", data := .seq vs.toArray }) (hi : IntsAre vs ns) (hl : ns.length ≤ sizeLine) (hr : Room k callerA)
    (F : ∀ base : Heap, K.In base → base.Ns mainGlobals mg → FnOk P w K mg base CX k fa fd [x] sp) (hbind : ∀ (s : Shared) (u : Value), BindsTo s fd ⟨[u], []⟩ [(x, u)])
    (hsp : ∀ H : Hp, Only H → SqL K H a (ns.map V.int) → sp [.ref a] H (fun v _ => v = .bl true) fun _ _ _ => False)
    (hCX : ∀ H e s', CX [] H s₁ (fun _ _ _ => False) e s' → False) :
    codeAny (model P w) callerA (.call (.ref fa) ⟨[.ref a], []⟩) (fun r s' => r = .ok (.ret (.bool true)) ∧ OldK s₁.heap s'.heap ∧ s'.os = s₁.os ∧ AllBare s'.gens) s₁ := by
  have rv := vals_ints hi
  have lenV := hi.length
  -- from an abstract heap in which nothing but the script may be tracked
  have core : ∀ H : Hp, Only H → SqL K H a (ns.map V.int) → HOk P w H s₁.heap → (∀ b, H b ≠ none → b = a) → (H a ≠ none → K.lookup a = none) →
      codeAny (model P w) callerA (.call (.ref fa) ⟨[.ref a], []⟩) (fun r s' => r = .ok (.ret (.bool true)) ∧ OldK s₁.heap s'.heap ∧ s'.os = s₁.os ∧ AllBare s'.gens) s₁ := by
    intro H hO hS hok hA hK
    have base_of : ∀ {b : Addr} {o : Obj}, s₁.heap.get? b = some o → H b = none → (hidT s₁.heap H).get? b = some o := fun e n => hidT_get e n
    have noA : ∀ {b : Addr} {o : Obj} {es : Array DictEntry} {ep : Nat}, s₁.heap.get? b = some o → o.data = .dict es ep → H b = none := fun {b o es ep} e d => by
      cases q : H b with
      | none => rfl
      | some u =>
        have e' : b = a := hA b (by rw [q]; simp)
        subst e'
        rw [ha] at e; cases e
        have d' : Data.seq vs.toArray _ = Data.dict es ep := d
        cases d'
    have nsK : ∀ {b : Addr} {m : Str → Option Value}, s₁.heap.Ns b m → (hidT s₁.heap H).Ns b m := fun {b m} ⟨o, es, ep, e, d, r⟩ => ⟨o, es, ep, base_of e (noA e d), d, r⟩
    have hKb : K.In (hidT s₁.heap H) := fun b o e => base_of (KX b o e) (by
      cases q : H b with
      | none => rfl
      | some u =>
        have e' : b = a := hA b (by rw [q]; simp)
        subst e'
        rw [hK (by rw [q]; simp)] at e; cases e)
    have hM : Mod K mg (hidT s₁.heap H) := ⟨hKb, nsK hns, ⟨mb, nsK hb, hbb⟩, let ⟨mc, h1, h2⟩ := hlim; ⟨mc, nsK h1, h2⟩⟩
    have e0 : Env0 P w K mg (hidT s₁.heap H) callerA [] s₁ H := ⟨rfl, hM, fun b o e => of_hidT e, Nat.le_of_eq (hidT_size _ _), trivial, fun b hb => absurd (show b ∈ ([] : List Addr) from hb) (by simp), hok, .of_eq hg⟩
    refine codeAny_mono ((F _ hKb (nsK hns)).run callerA [] s₁ H ⟨[.ref a], []⟩ [.ref a] [.ref a] _ _ hr e0 (hbind s₁ (.ref a)) (.cons rfl .nil) (hsp H hO hS)) fun r s' h => ?_
    cases r with
    | error e => exact (hCX H e s' h).elim
    | ok fl =>
      cases fl with
      | next => exact False.elim h
      | brk => exact False.elim h
      | cont => exact False.elim h
      | ret u =>
        obtain ⟨v, H', os, bare, un, hok', r', q⟩ := h
        have q' : v = .bl true := q
        subst q'
        obtain rfl : u = Value.bool true := r'
        refine ⟨rfl, OldK.of_keep fun b o e => ?_, os, bare⟩
        cases q : H b with
        | none => exact un.keep b o e q (by intro z; exact absurd (show b ∈ ([] : List Addr) from z) (by simp)) (by simp)
        | some u =>
          rcases hO b with z | ⟨ob, xs, z⟩
          · rw [q] at z; cases z
          · have z2 := un.frzs b ob _ z
            obtain ⟨e1, _⟩ := hok b _ z
            obtain ⟨e2, _⟩ := hok' b _ z2
            rw [e] at e1; cases e1
            exact e2
  cases hk : K.lookup a with
  | some o =>
    -- the script is one of the module's own objects
    have e := KX a o hk
    rw [ha] at e
    cases e
    refine core (fun _ => none) (fun _ => .inl rfl) (.inr ⟨_, vs.toArray, _, hk, rfl, rfl, rfl, by rw [List.size_toArray, lenV]; exact hl, by simpa using rv⟩) (fun b u z => by have z' : (none : Option HO) = some u := z; cases z') (fun b z => absurd rfl z) fun z => absurd rfl z
  | none =>
    refine core (fun b => if b = a then some (.frz { cls := .type "list", data := .seq vs.toArray } (.lst (ns.map V.int))) else none) (fun b => ?_) (.inl (.inr ⟨{ cls := .type "list", data := .seq vs.toArray }, if_pos rfl⟩)) (fun b u z => ?_) (fun b z => ?_) fun _ => hk
    · by_cases hb : b = a
      · exact .inr ⟨_, _, if_pos hb⟩
      · exact .inl (if_neg hb)
    · by_cases hb : b = a
      · have z' := (if_pos hb).symm.trans z
        cases z'
        subst hb
        exact ⟨ha, by rw [List.length_map]; exact hl, vs, _, rv, ha⟩
      · have z' := (if_neg hb).symm.trans z
        cases z'
    · by_cases hb : b = a
      · exact hb
      · exact absurd (if_neg hb) z
end L2
namespace L2
open PySem PySem.Spec PyProof.Rows
theorem walk_of {l : PySem.W.OpenLaw} {n k : Nat} {q : Program} {loose : List Str} {XP : (Str → Option Value) → Heap → Prop} {YP : World → Heap → Prop} {d : DefRec} {K : Params → PySem.W.Frag} {CX : World → CXT} {sp : World → Sp} {x : Str}
    (hn : l.most = some n) (hn2 : n ≤ sizeLine) (hdf : d.params.defaults = []) (hr : Room k callerA)
    (hY : ∀ (w : World) (h : Heap), YP w h → (K w.params).In h)
    (F : ∀ (w : World) (mg : Str → Option Value) (fa : Addr) (h : Heap), (K w.params).In h → h.Ns mainGlobals mg → mg d.name = some (.ref fa) →
      ∃ fd : FuncData, (∀ (s : Shared) (u : Value), BindsTo s fd ⟨[u], []⟩ [(x, u)]) ∧
        ∀ base : Heap, (K w.params).In base → base.Ns mainGlobals mg → FnOk l.prog w (K w.params) mg base (CX w) k fa fd [x] (sp w))
    (hsp : ∀ (w : World) (H : Hp) (a : Addr) (ns : List Int), ns.length ≤ n → Only H → SqL (K w.params) H a (ns.map V.int) → sp w [.ref a] H (fun v _ => v = .bl true) fun _ _ _ => False)
    (hCX : ∀ (w : World) (H : Hp) (s : Shared) (e : Value) (s' : Shared), CX w [] H s (fun _ _ _ => False) e s' → False) :
    PySem.W.WalkO q loose XP YP l.row.toRowW d [] (fun f vs => PySem.call f vs) := by
  refine Att.attach_call hn hdf fun w s₀ s₁ mg mb fa o pm cd doc a vs ns G Y ho hd hcd hmg hobj hints hlen hg => ?_
  have KX := hY w _ Y
  obtain ⟨fd, hb, hF⟩ := F w mg fa _ KX G.T.g hmg
  exact law_call KX G.T.g G.T.b G.T.builtins G.T.nolimit hg hobj hints (Nat.le_trans hlen hn2) hr hF hb (fun H hO hS => hsp w H a ns hlen hO hS) fun H e s' => hCX w H s₁ e s'
end L2
namespace L2
open PySem PySem.Spec PyProof.Rows
def inClass (s : Stmt) (j : Nat) : Stmt := match s with
  | .ClassDef _ _ _ body _ _ _ _ _ _ _ => body.getD j (.Pass ⟨0, 0, 0, 0⟩)
  | _ => .Pass ⟨0, 0, 0, 0⟩
def defArgs (s : Stmt) : Arguments := match s with
  | .FunctionDef _ a _ _ _ _ _ _ _ _ => a
  | _ => { posonlyargs := [], args := [], vararg := none, kwonlyargs := [], kw_defaults := [], kwarg := none, defaults := [] }
def defBody (s : Stmt) : List Stmt := match s with
  | .FunctionDef _ _ b _ _ _ _ _ _ _ => b
  | _ => []
def defScope (s : Stmt) : Scope := match s with
  | .FunctionDef _ _ _ _ _ _ sc _ _ _ => sc
  | _ => { kind := .function, names := [], isGenerator := false, isCoroutine := false }
abbrev CX0 : CXT := fun _ _ _ _ _ _ => False
abbrev E0 : XK := fun _ _ _ => False
structure Fun (K : PySem.W.Frag) (x qual : Str) (st : Stmt) (f : Addr) (fd : FuncData) : Prop where
  ex : ∃ (oc : Value) (od : Option Addr) (kV doc pm : Value) (an : Option Addr) (cdv ct : Value) (osl : Array (Option Value)),
    fd = PySem.W.fnOf x qual (defArgs st) (defBody st) (defScope st) .none kV doc pm an cdv ct ∧ K.lookup f = some ⟨oc, od, .func fd, osl⟩ ∧ PySem.W.codeIn K cdv qual = true
  kp : PySem.W.keepIn K (.ref f) = true
section
variable {P : Program} {w : World} {K : PySem.W.Frag} {mg : Str → Option Value} {base : Heap}
theorem Fun.ok {x qual : Str} {st : Stmt} {f : Addr} {fd : FuncData} {N ps : List Str} {k : Nat} {sp : Sp} (F : Fun K x qual st f fd) (S : FnScope N ps (defScope st)) (len : ∀ vs H Q E, sp vs H Q E → vs.length = ps.length)
    (hbody : ∀ (cdv : Value) (A : Around) (outer : List Env) (s : Shared) (H : Hp) (vs : List V) (Q : VK) (E : XK), Room k (A.deeper (envOfC qual (defScope st) s.heap.objs.size f cdv)) → sp vs H Q E →
      ∃ t, PSs (cxOf CX0 P w K mg base N qual (defScope st) f cdv A outer s H E).nox (defBody st) t ∧ t { nx := fun _ H' => Q .non H', rt := Q } (start N vs) H) : FnOk P w K mg base CX0 (k + 1) f fd ps sp := by
  obtain ⟨oc, od, kV, doc, pm, an, cdv, ct, osl, rfl, lk, hcd⟩ := F.ex
  refine fn_of lk hcd S len fun A outer s H vs Q E hr hsp => ?_
  obtain ⟨t, h, q⟩ := hbody cdv A outer s H vs Q E hr hsp
  exact ⟨t, h.nox, q⟩
theorem Fun.binds {x qual : Str} {st : Stmt} {f : Addr} {fd : FuncData} {ps : List Str} (F : Fun K x qual st f fd)
    (h : ∀ (kV doc pm : Value) (an : Option Addr) (cdv ct : Value) (us : List Value), us.length = ps.length → bindArgs (PySem.W.fnOf x qual (defArgs st) (defBody st) (defScope st) .none kV doc pm an cdv ct) ⟨us, []⟩ = pure (ps.zip us)) : Binds K fd ps [] := by
  obtain ⟨oc, od, kV, doc, pm, an, cdv, ct, osl, rfl, lk, hcd⟩ := F.ex
  exact .all (h kV doc pm an cdv ct)
theorem fun_mk {x qual : Str} {st : Stmt} {f : Addr} {oc : Value} {od an : Option Addr} {osl : Array (Option Value)} {kV doc pm cdv ct : Value} (l : K.lookup f = some ⟨oc, od, .func (PySem.W.fnOf x qual (defArgs st) (defBody st) (defScope st) .none kV doc pm an cdv ct), osl⟩)
    (c : PySem.W.codeIn K cdv qual = true) (k : PySem.W.keepIn K (.ref f) = true) : Fun K x qual st f (PySem.W.fnOf x qual (defArgs st) (defBody st) (defScope st) .none kV doc pm an cdv ct) := ⟨⟨oc, od, kV, doc, pm, an, cdv, ct, osl, rfl, l, c⟩, k⟩
end
theorem hu_of {A : Around} {k : Nat} (hr : Room k A) : A.units + 20 < cLine := Nat.lt_of_le_of_lt (Nat.add_le_add_left (by decide : 20 ≤ 64) _) hr.units
section
variable {X : Cx}
theorem pv (i : Nat) {x : Str} {pos : Pos} (hN : X.N[i]? = some x := by rfl) (hv : Vis X.env.scope x := by first | exact Or.inl rfl | exact Or.inr (Or.inl rfl) | exact Or.inr (Or.inr rfl)) (hd : (x == ("__debug__" : Str)) = false := by decide)
    (hcd : (x == ("__classdict__" : Str)) = false := by decide) : PE X (.Name x pos) (tVar i) := pe_var hN hv hd hcd
end
theorem iteF {A B : Prop} (h : B) : if false = true then A else B := by
  rw [if_neg Bool.false_ne_true]
  exact h
theorem iteT {A B : Prop} (h : A) : if true = true then A else B := by
  rw [if_pos rfl]
  exact h
theorem ite2 {c A B : Prop} [Decidable c] (h1 : c → A) (h2 : ¬ c → B) : if c then A else B := by
  by_cases h : c
  · rw [if_pos h]
    exact h1 h
  · rw [if_neg h]
    exact h2 h
theorem iteNS {c A B : Prop} [Decidable c] (hc : c) (h : B) : if (!decide c) = true then A else B := by
  rw [decide_eq_true hc]
  exact iteF h
def Same (H H' : Hp) : Prop := ∀ b o, H b = some o → H' b = some o
theorem Same.refl (H : Hp) : Same H H := fun _ _ h => h
theorem Same.trans {H H1 H2 : Hp} (a : Same H H1) (b : Same H1 H2) : Same H H2 := fun c o h => b c o (a c o h)
theorem Same.free {H H' : Hp} (e : Same H H') {l : Addr} (h : H' l = Option.none) : H l = Option.none := by
  cases q : H l with
  | none => rfl
  | some o =>
    rw [e l o q] at h
    cases h
theorem Same.seq {K : PySem.W.Frag} {H H' : Hp} {a : Addr} {xs : List V} (e : Same H H') (h : SqL K H a xs) : SqL K H' a xs := by
  rcases h with (h | ⟨o, h⟩) | h
  · exact .inl (.inl (e _ _ h))
  · exact .inl (.inr ⟨o, e _ _ h⟩)
  · exact .inr h
section
variable {κ : Type} [DecidableEq κ]
theorem valV_in {kvs : List (κ × V)} {k : κ} {v : V} (h : valV kvs k = some v) : k ∈ kvs.map (·.1) := by
  have q : (kvs.any fun kv => decide (kv.1 = k)) = true := by
    rw [valV_any, h]
    all_goals rfl
  obtain ⟨p, hp, e⟩ := List.any_eq_true.mp q
  exact List.mem_map.mpr ⟨p, hp, of_decide_eq_true e⟩
end
end L2
namespace HT
open PySem PyProof.Rows
def lexLe : List Int → List Int → Bool
  | [], [] => true
  | [], _ :: _ => true
  | _ :: _, [] => false
  | x :: xs, y :: ys => if x = y then lexLe xs ys else decide (x ≤ y)
theorem lexLe_cons (x y : Int) (xs ys : List Int) : lexLe (x :: xs) (y :: ys) = if x = y then lexLe xs ys else decide (x ≤ y) := rfl
theorem lexLe_nil_nil : lexLe [] [] = true := rfl
theorem lexLe_nil_cons (y : Int) (ys : List Int) : lexLe [] (y :: ys) = true := rfl
theorem lexLe_cons_nil (x : Int) (xs : List Int) : lexLe (x :: xs) [] = false := rfl
theorem rcLe_int (A : Around) (s : Shared) (a : Int) (t : Tok) (c : Int) (u : Tok) (prog : Program) (w : World) (E : Value → Shared → Prop) (Q : Value → Shared → Prop) (h : Q (.bool (decide (a ≤ c))) s) :
    wpAny (model prog w) A (richCompare .LtE (.int a t) (.int c u)) Q E s :=
  (PyProof.Rows.le_int h : wpAny (model prog w) A (compareOp .LtE (.int a t) (.int c u)) Q E s)
section
open PySem.SeqAt
open PySem.AutoSeq1 (wpAny_loadPart')
open PySem.MeetsSeq PySem.MeetsSeq2 PySem.MeetsSeq3
theorem tuple_le_ints (l b : Addr) (items items2 : Array Value) (n n2 : Nat) (dd dd2 : Option Addr) (sl sl2 : Array (Option Value)) (ns ms : List Int) (hi : IntsAre items.toList ns) (hj : IntsAre items2.toList ms) :
    Meets (Builtin.«tuple.__le__» ⟨[.ref l, .ref b], []⟩)
      (fun _ R s => s.heap.get? l = some { cls := .type "tuple", dict := dd, data := .seq items n, slots := sl } ∧ s.heap.get? b = some { cls := .type "tuple", dict := dd2, data := .seq items2 n2, slots := sl2 } ∧
        R (.ok (.ret (.bool (lexLe ns ms)))) s) :=
  .of_wp fun prog w A R s h => by
    obtain ⟨hp, g, d, tk, os⟩ := s; obtain ⟨hl, hb, h⟩ := h
    have f2 := AutoSeq1.sub_tuple_tuple
    have z1 : items.size = ns.length := by rw [← hi.length]; simp
    have z2 : items2.size = ms.length := by rw [← hj.length]; simp
    wp_walk using wpAny_loadPart' hl, wpAny_loadPart' hb, wpAny_forIn_list _ (fun rest b s' => b.1 = none ∧ s' = ⟨hp, g, d, tk, os⟩ ∧ ∃ (vs ws : List Value) (ns' ms' : List Int), rest = vs.zip ws ∧
      IntsAre vs ns' ∧ IntsAre ws ms' ∧ ns'.length + items2.size = ms'.length + items.size ∧ R (.ok (.ret (.bool (lexLe ns' ms')))) ⟨hp, g, d, tk, os⟩) _
    case turn =>
      rintro ⟨y, x⟩ rest b s' ⟨hb', rfl, vs, ws, ns', ms', hz, hvi, hwi, hlen, hR⟩
      cases hvi with
      | nil => rw [List.zip_nil_left] at hz; cases hz
      | cons a t hvi' =>
        cases hwi with
        | nil => rw [List.zip_nil_right] at hz; cases hz
        | cons c u hwi' =>
          rw [List.zip_cons_cons] at hz
          injection hz with hyx hrest
          injection hyx with hy hx
          subst hy hx
          rw [lexLe_cons] at hR
          simp only [List.length_cons] at hlen
          obtain ⟨e, he, hiff⟩ := eqAt_int A.in1 ⟨hp, g, d, tk, os⟩ a t c u
          refine wpAny_bind (he prog w _ _ ?_)
          cases e with
          | true =>
            rw [if_pos (hiff.mp rfl)] at hR
            wp_walk
            exact ⟨rfl, rfl, _, _, _, _, hrest, hvi', hwi', by omega, hR⟩
          | false =>
            rw [if_neg (fun q => absurd (hiff.mpr q) Bool.false_ne_true)] at hR
            have hri := rcLe_int A.in1 ⟨hp, g, d, tk, os⟩ a t c u prog w
            wp_walk using hri
            exact ⟨_, rfl, by simpa using hR⟩
    case fin =>
      rintro ⟨b1, b2⟩ s' ⟨hb', rfl, vs, ws, ns', ms', hz, hvi, hwi, hlen, hR⟩
      simp only at hb'
      subst hb'
      have hv : lexLe ns' ms' = decide (items.size ≤ items2.size) := by
        cases hvi with
        | nil =>
          cases hwi with
          | nil =>
            simp only [List.length_nil] at hlen
            rw [lexLe_nil_nil]
            exact (decide_eq_true (by omega)).symm
          | cons c u hw =>
            simp only [List.length_nil, List.length_cons] at hlen
            rw [lexLe_nil_cons]
            exact (decide_eq_true (by omega)).symm
        | cons a t hv =>
          cases hwi with
          | nil =>
            simp only [List.length_nil, List.length_cons] at hlen
            rw [lexLe_cons_nil]
            exact (decide_eq_false (by omega)).symm
          | cons c u hw =>
            rw [List.zip_cons_cons] at hz
            cases hz
      rw [hv] at hR
      wp_walk
      exact ⟨_, rfl, by simpa [Builtin.Tuple.tupleCompareSizes] using hR⟩
    case h =>
      exact ⟨rfl, rfl, items.toList, items2.toList, ns, ms, rfl, hi, hj, by omega, h⟩
end
section
variable {prog : Program} {w : World} {A : Around} {E : Value → Shared → Prop} {s : Shared}
theorem le_tupInts {l b : Addr} {items items2 : Array Value} {ns ms : List Int} {Q : Value → Shared → Prop} (hl : IsTup s.heap l items) (hb : IsTup s.heap b items2) (hi : IntsAre items.toList ns) (hj : IntsAre items2.toList ms)
    (hu : A.units < cLine) (h : Q (.bool (lexLe ns ms)) s) : wpAny (model prog w) A (compareOp .LtE (.ref l) (.ref b)) Q E s := by
  obtain ⟨⟨cls, dd, data, sl⟩, ho, hc, n, hd⟩ := id hl
  obtain ⟨⟨cls2, dd2, data2, sl2⟩, ho2, hc2, n2, hd2⟩ := id hb
  simp only at hc hd hc2 hd2
  subst hc hd hc2 hd2
  exact richCompare_meets_room (op := .LtE) ⟨_, ho, rfl⟩ ⟨_, ho2, rfl⟩ PySem.F.slot_tuple_le PySem.F.entry_tuple_le (PySem.F.args_tuple_le_2 _ _) (tuple_le_ints l b items items2 n n2 dd dd2 sl sl2 ns ms hi hj)
    ⟨ho, ho2, show Value.bool (lexLe ns ms) ≠ Value.notImplemented ∧ Q (.bool (lexLe ns ms)) s from ⟨(fun x => nomatch x), h⟩⟩ hu
end
end HT
namespace L2
open PySem PySem.Spec PyProof.Rows
section
variable {X : Cx}
def rLeT (K : PySem.W.Frag) : R2 := fun x y H Q => ∃ a b ns ms, x = .ref a ∧ y = .ref b ∧ SqT K H a (ns.map V.int) ∧ SqT K H b (ms.map V.int) ∧ Q (.bl (HT.lexLe ns ms)) H
theorem op_leT (hu : X.A.units < cLine) : OpR X (compareOp .LtE) (rLeT X.K) := by
  intro pins s σ H x y v u Q I rx ry h
  obtain ⟨a, b, ns, ms, rfl, rfl, ha, hb, q⟩ := h
  cases rx
  cases ry
  obtain ⟨its, r1, p1, _⟩ := I.tuple ha
  obtain ⟨its2, r2, p2, _⟩ := I.tuple hb
  have i1 : IntsAre its.toArray.toList ns := intsAre_of r1
  have i2 : IntsAre its2.toArray.toList ms := intsAre_of r2
  exact HT.le_tupInts p1 p2 i1 i2 hu ⟨.bl (HT.lexLe ns ms), H, I, rfl, q⟩
end
end L2
set_option Elab.async false
set_option linter.all false
set_option maxRecDepth 100000
set_option maxHeartbeats 4000000
namespace L2
open PySem
open Sem (wp)
def F2 (e : Addr) (c : Value) (h : Heap) : Prop := ∃ o vs, h.get? e = some o ∧ o.data = .fields vs ∧ vs[2]? = some c
structure KF (e : Addr) (c : Value) {α : Type} (t : Sem α) : Prop where
  out : ∀ (M : Model) (Γ : Ctx) (P : α → Pos → Shared → Prop) (Ee : Value → Pos → Shared → Prop) (p : Pos) (s : Shared), F2 e c s.heap → wp M Γ t P Ee p s → wp M Γ t (fun a p' s' => P a p' s' ∧ F2 e c s'.heap) Ee p s
theorem F2.upd {e : Addr} {c : Value} {h : Heap} (x : F2 e c h) (a : Addr) (f : Obj → Obj) (hf : ∀ o vs, o.data = .fields vs → vs[2]? = some c → ∃ vs', (f o).data = .fields vs' ∧ vs'[2]? = some c) : F2 e c (h.update a f) := by
  obtain ⟨o, vs, ho, hd, h2⟩ := x
  by_cases q : e = a
  · subst q
    obtain ⟨vs', d', h2'⟩ := hf o vs hd h2
    exact ⟨f o, vs', Heap.get?_update_self f ho (Obj.isFreed_of_fields d'), d', h2'⟩
  · exact ⟨o, vs, (Heap.get?_update_ne _ _ _ _ q).trans ho, hd, h2⟩
namespace KF
variable {e : Addr} {c : Value} {α β : Type}
theorem pure (a : α) : KF e c (Pure.pure a : Sem α) := ⟨fun _ _ _ _ _ _ hF h => ⟨h, hF⟩⟩
theorem unsupported (w : String) : KF e c (PySem.unsupported w : Sem α) := ⟨fun _ _ _ _ _ _ _ h => h⟩
theorem bind {m : Sem α} {f : α → Sem β} (hm : KF e c m) (hf : ∀ a, KF e c (f a)) : KF e c (m >>= f) := ⟨fun M Γ P Ee p s hF h => by
  rw [Sem.wp_bind'] at h ⊢
  refine Sem.wp_mono M Γ m (fun a p' s' h' => ?_) (fun _ _ _ x => x) p s (hm.out M Γ _ Ee p s hF h)
  exact (hf a).out M Γ P Ee p' s' h'.2 h'.1⟩
theorem ite {q : Prop} [Decidable q] {t u : Sem α} (ht : KF e c t) (hu : KF e c u) : KF e c (if q then t else u) := by split <;> assumption
theorem load (a : Addr) : KF e c (PySem.load a) := ⟨fun _ _ _ _ _ _ hF h => by
  obtain ⟨o, ho, h⟩ := h
  exact ⟨o, ho, h, hF⟩⟩
theorem stack : KF e c PySem.stack := ⟨fun M Γ P Ee p s hF h => by
  unfold PySem.stack at h ⊢
  rw [Sem.wp_stack] at h ⊢
  exact ⟨h, hF⟩⟩
theorem field (v : Value) (i : Nat) : KF e c (PySem.field v i) := ⟨fun _ Γ P Ee p s hF h => by
  rw [wp_field_iff] at h ⊢
  obtain ⟨a, o, vs, x, e1, e2, e3, e4, h⟩ := h
  exact ⟨a, o, vs, x, e1, e2, e3, e4, h, hF⟩⟩
theorem setField (v : Value) (i : Nat) (x : Value) (hi : i ≠ 2) : KF e c (PySem.setField v i x) := ⟨fun _ Γ P Ee p s hF h => by
  rw [wp_setField_iff] at h ⊢
  obtain ⟨a, o, vs, e1, e2, e3, e4, h⟩ := h
  refine ⟨a, o, vs, e1, e2, e3, e4, h, hF.upd a _ fun o vs hd h2 => ⟨_, Obj.data_mapFields hd _, ?_⟩⟩
  rw [Array.getElem?_setIfInBounds_ne hi]
  exact h2⟩
theorem update (a : Addr) (f : Obj → Obj) (hf : ∀ o, (f o).data = o.data) : KF e c (PySem.update a f) := ⟨fun _ _ _ _ _ _ hF h => by
  obtain ⟨h1, h2⟩ := h
  exact ⟨h1, h2, hF.upd a f fun o vs hd h2 => ⟨vs, (hf o).trans hd, h2⟩⟩⟩
theorem alloc (o : Obj) : KF e c (PySem.alloc o) := ⟨fun _ _ _ _ _ _ hF h => by
  obtain ⟨o2, vs, ho, hd, h2⟩ := hF
  exact ⟨h, o2, vs, Heap.get?_push_of_some _ ho, hd, h2⟩⟩
end KF
section
variable {e : Addr} {c : Value}
theorem kf_behind (env : Env) (outer : List Env) : KF e c (behindIsImport env outer) := by
  unfold behindIsImport
  (repeat' with_reducible first | assumption | exact KF.pure _ | exact KF.unsupported _ | exact KF.field _ _ | exact KF.setField _ _ _ (by decide) | exact KF.load _ | exact KF.update _ _ (fun _ => rfl) | exact KF.stack | exact KF.alloc _ | apply KF.ite | apply KF.bind | intro _ | split)
theorem kf_under : KF e c underTheClaimsCaller := by
  unfold underTheClaimsCaller
  (repeat' with_reducible first | assumption | exact KF.pure _ | exact KF.unsupported _ | exact KF.field _ _ | exact KF.setField _ _ _ (by decide) | exact KF.load _ | exact KF.update _ _ (fun _ => rfl) | exact KF.stack | exact KF.alloc _ | apply KF.ite | apply KF.bind | intro _ | split)
theorem kf_keptBack (env : Env) (i : Bool) (l : List Env) : KF e c (keptBack env i l) := by
  have := kf_under (e := e) (c := c)
  cases l <;> unfold keptBack <;> (repeat' with_reducible first | assumption | exact KF.pure _ | exact KF.unsupported _ | exact KF.field _ _ | exact KF.setField _ _ _ (by decide) | exact KF.load _ | exact KF.update _ _ (fun _ => rfl) | exact KF.stack | exact KF.alloc _ | apply KF.ite | apply KF.bind | intro _ | split)
theorem kf_ready : ∀ l : List Env, KF e c (readyFrames l)
  | [] => KF.pure _
  | env :: outer => by
    have ih := kf_ready outer
    have h1 := kf_behind (e := e) (c := c) env outer
    have h2 := fun i => kf_keptBack (e := e) (c := c) env i outer
    unfold readyFrames
    (repeat' with_reducible first | assumption | exact KF.pure _ | exact KF.unsupported _ | exact KF.field _ _ | exact KF.setField _ _ _ (by decide) | exact KF.load _ | exact KF.update _ _ (fun _ => rfl) | exact KF.stack | exact KF.alloc _ | apply KF.ite | apply KF.bind | intro _ | split)
    all_goals first | exact h2 _ | skip
theorem kf_frameObject (l : List Env) : KF e c (frameObject l) := by
  cases l with
  | nil => exact KF.pure _
  | cons env outer =>
    have := kf_ready (e := e) (c := c) (env :: outer)
    unfold frameObject
    (repeat' with_reducible first | assumption | exact KF.pure _ | exact KF.unsupported _ | exact KF.field _ _ | exact KF.setField _ _ _ (by decide) | exact KF.load _ | exact KF.update _ _ (fun _ => rfl) | exact KF.stack | exact KF.alloc _ | apply KF.ite | apply KF.bind | intro _ | split)
theorem kf_frameEnvs : KF e c frameEnvs := by
  unfold frameEnvs
  (repeat' with_reducible first | assumption | exact KF.pure _ | exact KF.unsupported _ | exact KF.field _ _ | exact KF.setField _ _ _ (by decide) | exact KF.load _ | exact KF.update _ _ (fun _ => rfl) | exact KF.stack | exact KF.alloc _ | apply KF.ite | apply KF.bind | intro _ | split)
theorem kf_frameOf (env : Env) : KF e c (frameOf env) := by
  have h1 := kf_frameEnvs (e := e) (c := c)
  have h2 := fun l => kf_frameObject (e := e) (c := c) l
  unfold frameOf
  (repeat' with_reducible first | assumption | exact KF.pure _ | exact KF.unsupported _ | exact KF.field _ _ | exact KF.setField _ _ _ (by decide) | exact KF.load _ | exact KF.update _ _ (fun _ => rfl) | exact KF.stack | exact KF.alloc _ | apply KF.ite | apply KF.bind | intro _ | split)
  all_goals first | exact h2 _ | skip
theorem kf_place (f : Addr) (b : Bool) : KF e c (entryPlaceOf f b) := by
  unfold entryPlaceOf
  (repeat' with_reducible first | assumption | exact KF.pure _ | exact KF.unsupported _ | exact KF.field _ _ | exact KF.setField _ _ _ (by decide) | exact KF.load _ | exact KF.update _ _ (fun _ => rfl) | exact KF.stack | exact KF.alloc _ | apply KF.ite | apply KF.bind | intro _ | split)
theorem kf_newFields (n : String) (vs : List Value) : KF e c (newFields n vs) := by
  unfold newFields newObj newObjAsIs
  (repeat' with_reducible first | assumption | exact KF.pure _ | exact KF.unsupported _ | exact KF.field _ _ | exact KF.setField _ _ _ (by decide) | exact KF.load _ | exact KF.update _ _ (fun _ => rfl) | exact KF.stack | exact KF.alloc _ | apply KF.ite | apply KF.bind | intro _ | split)
theorem kf_newEntry (a b d f g : Value) (l : List Value) : KF e c (EntryCells.newEntry a b d f g l) := by
  unfold EntryCells.newEntry
  exact kf_newFields _ _
theorem kf_noteFrame (v : Value) (env : Env) : KF e c (noteFrame v env) := by
  have h1 := kf_frameOf (e := e) (c := c) env
  have h2 := fun f b => kf_place (e := e) (c := c) f b
  have h3 := fun x1 x2 x3 x4 x5 l => kf_newEntry (e := e) (c := c) x1 x2 x3 x4 x5 l
  unfold noteFrame
  (repeat' with_reducible first | assumption | exact KF.pure _ | exact KF.unsupported _ | exact KF.field _ _ | exact KF.setField _ _ _ (by decide) | exact KF.load _ | exact KF.update _ _ (fun _ => rfl) | exact KF.stack | exact KF.alloc _ | apply KF.ite | apply KF.bind | intro _ | split)
  all_goals first | exact h2 _ _ | exact h3 _ _ _ _ _ _ | skip
theorem kf_setFlight (v : Value) (f : Option Addr) : KF e c (setFlight v f) := by
  unfold setFlight
  (repeat' with_reducible first | assumption | exact KF.pure _ | exact KF.unsupported _ | exact KF.field _ _ | exact KF.setField _ _ _ (by decide) | exact KF.load _ | exact KF.update _ _ (fun _ => rfl) | exact KF.stack | exact KF.alloc _ | apply KF.ite | apply KF.bind | intro _ | split)
theorem kf_leaving (v : Value) (env : Env) : KF e c (leaving env v) := by
  unfold leaving
  exact KF.bind (kf_noteFrame v env) fun _ => kf_setFlight v none
theorem KF.any {α : Type} {t : Sem α} (k : KF e c t) {M : Model} {A : Around} {Q : α → Shared → Prop} {E : Value → Shared → Prop} {s : Shared} (hF : F2 e c s.heap) (h : wpAny M A t Q E s) : wpAny M A t (fun a s' => Q a s' ∧ F2 e c s'.heap) E s := by
  intro Γ p hΓ
  exact k.out M Γ _ _ _ s hF (h Γ p hΓ)
end
end L2
set_option Elab.async false
set_option linter.all false
set_option maxRecDepth 100000
set_option maxHeartbeats 4000000
namespace My
open PySem PySem.W PyProof.Rows
def goT (tb : String → Option Builtin) (p : Program) (w : World) (n₀ : Nat) (ann : Option Value) : Nat → SharedT → Thread → Option SharedT
  | 0, _, _ => none
  | n + 1, s, t => match through t with
    | true => some s
    | false => match stepOk n₀ ann t with
      | false => none
      | true => match stepT (denote tb) p w s t with
        | some (s', t') => goT tb p w n₀ ann n s' t'
        | none => none
def growT : List Obj → Nat → BT → BT
  | [], _, t => t
  | o :: r, n, t => growT r (n + 1) (t.ins n o)
theorem goT_of {tb : String → Option Builtin} {p : Program} {w : World} {n₀ : Nat} {ann : Option Value} : ∀ {n : Nat} {s r : SharedT} {t : Thread}, goT tb p w n₀ ann n s t = some r → topRun tb p w n₀ ann n s.abs t = some r.abs
  | 0, _, _, _, h => by cases h
  | n + 1, s, r, t, h => by
    unfold goT at h
    unfold topRun
    cases ht : through t with
    | true => rw [ht] at h; cases h; rfl
    | false =>
      rw [ht] at h
      cases hk : stepOk n₀ ann t with
      | false => rw [hk] at h; cases h
      | true =>
        rw [hk] at h
        cases hs : stepT (denote tb) p w s t with
        | none => rw [hs] at h; cases h
        | some r => obtain ⟨s₂, t₂⟩ := r; rw [hs] at h; rw [stepT_spec hs]; exact goT_of h
noncomputable def bootT (P : Params) : BT := growT (boot_heap P).objs.toList 0 .nil
theorem boot_tree (P : Params) : absHeap (bootT P) (boot_heap P).objs.size (boot_heap P).life = boot_heap P := by kernel_rfl
theorem boot_ns (P : Params) : ((boot_heap P).isNs mainGlobals && (Array.mk ([] : List GenState)).size == 0) = true := by kernel_rfl
noncomputable def lookT (p q : Program) (loose : List Str) (recs : WRecords) (as : List Addr) (N : Nat) (w : World) (os : OsState) :=
  (goT treeTable p w (boot_heap w.params).objs.size ((boot_heap w.params).nsMap mainGlobals "__annotations__") N ⟨bootT w.params, (boot_heap w.params).objs.size, (boot_heap w.params).life, Array.mk [], boot_drawn, boot_toks, os⟩ (topStub p)).map fun s =>
    ((staticsOk (importedModules p.main.body) (boot_heap w.params) s.abs.heap && namesBound p s.abs.heap && gensDone s.abs && laidKept (boot_heap w.params) s.abs.heap),
      openSeen q loose (importedModules p.main.body) (fun s => xlAt q [] s && recOk recs s) true s.abs, as.map s.abs.heap.get?)
theorem prime0 : ((fun (_ : Program → Program → List Str → WRecords → List Addr → Nat → World → OsState → Bool) => true) fun p q l r a n w o => (lookT p q l r a n w o).isSome) = true := by k_qdec
theorem left_of {p q : Program} {loose : List Str} {recs : WRecords} {as : List Addr} {K : Params → Frag} {e : ∀ P, as = (K P).map (·.1)} {N : Nat} (e1 : opening p = plainProg p.main.scope.names) (hN : Nat.ble 600 N = true) (hf : ∀ s, fenceModules? p s = some s)
    (h : ∀ w os, lookT p q loose recs as N w os = some (true, openGood q loose, (K w.params).map fun p => some p.2)) : LeftO p q loose (fun s => xlAt q [] s && recOk recs s) (kHook K as e).obs (kHook K as e).val N := fun w => by
  obtain ⟨⟨h0, gs, d, k, os⟩, e2, e3⟩ := Option.map_eq_some_iff.mp (boot_open e1 hN hf w)
  obtain ⟨rfl, rfl, rfl, rfl⟩ : h0 = boot_heap w.params ∧ gs = Array.mk [] ∧ d = boot_drawn ∧ k = boot_toks := by simpa using e3
  obtain ⟨s, r, l⟩ := Option.map_eq_some_iff.mp (h w os)
  obtain ⟨l1, l2, l3⟩ : _ ∧ _ ∧ _ := by simpa only [Prod.mk.injEq] using l
  have r' := goT_of r
  have es : (SharedT.mk (bootT w.params) (boot_heap w.params).objs.size (boot_heap w.params).life (Array.mk []) boot_drawn boot_toks os).abs = ⟨boot_heap w.params, Array.mk [], boot_drawn, boot_toks, os⟩ := by
    unfold SharedT.abs
    dsimp only
    rw [boot_tree]
  rw [es] at r'
  have t : topFrom treeTable p w N ⟨boot_heap w.params, Array.mk [], boot_drawn, boot_toks, os⟩ = some s.abs := by
    unfold topFrom
    dsimp only
    rw [boot_ns, r']
    show (match staticsOk (importedModules p.main.body) (boot_heap w.params) s.abs.heap && namesBound p s.abs.heap && gensDone s.abs && laidKept (boot_heap w.params) s.abs.heap with | true => _ | false => _) = _
    rw [l1]
  unfold openEnds
  rw [e2]
  show (topFrom treeTable p w N _).map _ = _
  rw [t]
  exact congrArg some (Prod.ext l2 l3)
end My
set_option Elab.async false
set_option linter.all false
set_option maxRecDepth 100000
set_option maxHeartbeats 4000000
namespace L2
open PySem PySem.Spec PyProof.Rows
theorem ObjOk.there {P : Program} {w : World} {H : Hp} {h : Heap} {a : Addr} {o : HO} (x : ObjOk P w H h a o) : ∃ ob, h.get? a = some ob := by
  cases o with
  | lst xs => obtain ⟨_, _, _, _, e⟩ := x; exact ⟨_, e⟩
  | tup xs => obtain ⟨_, _, _, ob, e, _⟩ := x; exact ⟨ob, e⟩
  | dK kvs => obtain ⟨_, _, _, _, ob, _, _, e, _⟩ := x; exact ⟨ob, e⟩
  | dT B kvs => obtain ⟨_, _, _, _, ob, _, _, e, _⟩ := x; exact ⟨ob, e⟩
  | set S n => obtain ⟨ob, _, _, _, e, _⟩ := x; exact ⟨ob, e⟩
  | ins C dx fs => obtain ⟨_, _, _, e, _⟩ := x; exact ⟨_, e⟩
  | own y => obtain ⟨ob, e⟩ := x; exact ⟨ob, e⟩
  | xd fs => obtain ⟨_, ⟨ob, _, _, e, _⟩, _⟩ := x; exact ⟨ob, e⟩
  | rng lo hi => obtain ⟨_, _, _, e⟩ := x; exact ⟨_, e⟩
  | frz ob u => obtain ⟨e, _⟩ := x; exact ⟨_, e⟩
  | tbl ps => exact ⟨_, (show h.get? a = some _ from x)⟩
  | met f y => exact ⟨_, (show h.get? a = some _ from x)⟩
  | ext φ => obtain ⟨_, e, _⟩ := x; exact e
structure FlyF (fl : Value) (H : Hp) (h0 : Heap) (a C : Addr) (h : Heap) : Prop where
  ex : ∃ (oe : Obj) (vs : Array Value) (T : Addr) (oT : Obj) (ts : Array Value) (a0 : Value), h.get? a = some oe ∧ oe.cls = Value.ref C ∧ oe.data = .fields vs ∧ vs[0]? = some a0 ∧
    vs[1]? = some (.ref T) ∧ T ≠ a ∧ h.get? T = some oT ∧ oT.data = .fields ts ∧ ts[3]? = some fl ∧ h0.get? T = none ∧ H T = none
  new : h0.get? a = none
  nt : H a = none
abbrev FlyAt := FlyF .none
def CXF (P : Program) (w : World) : CXT := fun outer H s E e s' =>
  ∃ (a C : Addr) (m : Option Addr) (H' : Hp), e = .ref a ∧ s'.os = s.os ∧ AllBare s'.gens ∧ Un (frs outer) [] H H' s.heap s'.heap ∧ HOk P w H' s'.heap ∧ FlyAt H' s.heap a C s'.heap ∧ (m = none → F2 a .none s'.heap) ∧ E (.ref C) m H'
structure Own (X : Cx) : Prop where
  st : X.stack = X.env :: X.outer
  fr : X.env.frame = some X.env.locals
  ex : X.ex = []
section
variable {X : Cx} {pins : List (Addr × Obj)} {σ : St} {H : Hp} {s : Shared} {e C : Addr}
theorem Own.frs (o : Own X) : frs X.stack = X.env.locals :: X.fs := by
  rw [o.st]; unfold L2.frs; rw [List.filterMap_cons, o.fr]; rfl
theorem Inv.old_ne (I : Inv X pins σ H s) {b : Addr} {ob : Obj} (q : X.s₀.heap.get? b = some ob) : b ≠ X.env.locals :=
  Nat.ne_of_lt (Nat.lt_of_lt_of_le (Heap.lt_size q) I.ok.above)
theorem left_ok (I : Inv X pins σ H s) (o : Own X) {h0 : Heap} {ext : List Addr} {a0 fl : Value} {h2 : Heap} (hs0 : ∀ b ob, X.s₀.heap.get? b = some ob → ∃ o2, h0.get? b = some o2)
    (h0s : ∀ b ob, h0.get? b = some ob → ∃ o2, s.heap.get? b = some o2) (hx : ∀ b ∈ ext, h0.get? b = none ∧ H b = none) (he : e ∈ ext)
    (L : Heap.NotedW (PySem.W.hideAll s.heap (frs X.stack ++ ext)) (X.env :: X.outer) e (.ref C) a0 fl s.heap h2) :
    Un X.fs [] X.H₀ H X.s₀.heap h2 ∧ HOk X.prog X.w H h2 ∧ FlyF fl H h0 e C h2 := by
  obtain ⟨k1, k2, ⟨oe, vs, T, oT, ts, t1, ⟨t2, t3⟩, t4, t5, t6, t7, t8, t9, t10⟩, k4⟩ := L
  have nox : ∀ b : Addr, b ∉ X.ex := fun b z => by rw [o.ex] at z; exact absurd z (by simp)
  have nx0 : ∀ b ob, X.s₀.heap.get? b = some ob → b ∉ ext := fun b ob q z => by
    obtain ⟨o2, e2⟩ := hs0 b ob q
    rw [(hx b z).1] at e2; cases e2
  have keepB : ∀ b ob, s.heap.get? b = some ob → b ∉ L2.frs X.stack → b ∉ ext → h2.get? b = some ob := fun b ob q n1 n2 =>
    k1 b ob (PySem.W.hideAll_get _ q fun z => (List.mem_append.mp z).elim n1 n2)
  have nf : ∀ b ob, X.s₀.heap.get? b = some ob → b ∉ X.fs → b ∉ L2.frs X.stack := fun b ob q n z => by
    rw [o.frs] at z
    rcases List.mem_cons.mp z with z | z
    · exact I.old_ne q z
    · exact n z
  have slotB : ∀ b ob, X.s₀.heap.get? b = some ob → b ∈ X.fs → ∃ sl, h2.get? b = some { ob with slots := sl } := fun b ob q hb => by
    obtain ⟨sl, e1⟩ := I.base.slot b ob q (I.ok.frf b hb) hb (nox b)
    obtain ⟨_, o2, ho2, hd2⟩ := I.ok.funs.mem hb
    rw [q] at ho2; cases ho2
    obtain ⟨sl2, e2⟩ := k4 b _ e1 hd2
    exact ⟨sl2, e2⟩
  have hok : HOk X.prog X.w H h2 := fun b ob q => by
    refine (I.hok b ob q).stay (fun c u hc r => ?_) (fun _ z => z) fun _ _ z => z
    have hc' : ∃ v, H c = some v := by
      rcases hc with rfl | hc
      · exact ⟨_, q⟩
      · exact ⟨_, hc⟩
    obtain ⟨v, hv⟩ := hc'
    refine keepB c u r (fun z => ?_) fun z => ?_
    · rw [I.stkFree c z] at hv; cases hv
    · rw [(hx c z).2] at hv; cases hv
  have hT : ∀ ob, s.heap.get? T = some ob → T ∈ ext := fun ob q => by
    by_cases z1 : T ∈ L2.frs X.stack
    · rw [o.st] at z1
      obtain ⟨_, o2, ho2, hd2⟩ := k2.mem z1
      rw [t8] at ho2; cases ho2
      exact absurd t9 (hd2 ts)
    · by_cases z2 : T ∈ ext
      · exact z2
      · rw [PySem.W.hideAll_get _ q fun z => (List.mem_append.mp z).elim z1 z2] at t6
        cases t6
  refine ⟨⟨fun b ob q n hb _ => ?_, fun b ob q n hb _ => slotB b ob q hb, fun b ob q n _ => I.base.free b ob q n (nox b), fun b ob q _ => ?_, I.base.tups, I.base.frzs, I.base.tbls⟩, hok, ⟨⟨oe, vs, T, oT, ts, a0, t1, t2, t4, t3, t5, t7, t8, t9, t10, ?_, ?_⟩, (hx e he).1, (hx e he).2⟩⟩
  · exact keepB b ob (I.base.keep b ob q n hb (nox b)) (nf b ob q hb) (nx0 b ob q)
  · by_cases hb : b ∈ X.fs
    · obtain ⟨sl, e2⟩ := slotB b ob q hb
      exact ⟨_, e2⟩
    · obtain ⟨o2, e2⟩ := I.base.there b ob q (nox b)
      exact ⟨o2, keepB b o2 e2 (nf b ob q hb) (nx0 b ob q)⟩
  · cases q : h0.get? T with
    | none => rfl
    | some ob =>
      obtain ⟨o2, e2⟩ := h0s T ob q
      rw [(hx T (hT o2 e2)).1] at q; cases q
  · cases q : H T with
    | none => rfl
    | some u =>
      obtain ⟨ob, e2⟩ := (I.hok T u q).there
      rw [(hx T (hT ob e2)).2] at q; cases q
theorem Own.up (o : Own X) (I : Inv X pins σ H s) : ∀ b ob, X.s₀.heap.get? b = some ob → ∃ o2, s.heap.get? b = some o2 := fun b ob q =>
  I.base.there b ob q fun z => by rw [o.ex] at z; exact absurd z (by simp)
theorem hid_frames (I : Inv X pins σ H s) (o : Own X) (ext : List Addr) : s.heap.FunFrames (PySem.W.hideAll s.heap (frs X.stack ++ ext)) (X.env :: X.outer) := by
  have z := I.stack
  have e := o.st
  rw [e] at z
  refine PySem.W.funFrames_hide z fun env he b hb => List.mem_append_left _ ?_
  rw [e]
  exact List.mem_filterMap.mpr ⟨env, he, hb⟩
theorem leave_new (I : Inv X pins σ H s) (o : Own X) {h1 : Heap} {vs : List Value} {M : Model} {E : Value → Shared → Prop} {Q : Unit → Shared → Prop} (hx : Heap.MadeExcOf s.heap h1 e (.ref C) vs)
    (hQ : ∀ h2, Un X.fs [] X.H₀ H X.s₀.heap h2 → HOk X.prog X.w H h2 → FlyAt H X.s₀.heap e C h2 → Q () { s with heap := h2 }) :
    wpAny M X.A (leaving X.env (.ref e)) Q E { s with heap := h1 } := by
  have I1 : Inv X pins σ H { s with heap := h1 } := I.kept (t' := s.toks) hx.keeps
  obtain ⟨t, he, _, _⟩ := hx.there
  have nox : ∀ b : Addr, b ∉ X.ex := fun b z => by rw [o.ex] at z; exact absurd z (by simp)
  have n0 : X.s₀.heap.get? e = none := by
    cases q : X.s₀.heap.get? e with
    | none => rfl
    | some ob =>
      obtain ⟨o2, e2⟩ := I.base.there e ob q (nox e)
      rw [hx.new] at e2; cases e2
  have nH : H e = none := by
    cases q : H e with
    | none => rfl
    | some u =>
      obtain ⟨ob, e2⟩ := (I.hok e u q).there
      rw [hx.new] at e2; cases e2
  have hext : ∀ b ∈ [e], X.s₀.heap.get? b = none ∧ H b = none := fun b hb => by
    have z : b = e := by simpa using hb
    subst z
    exact ⟨n0, nH⟩
  refine wpAny_leaving_firstW (base := PySem.W.hideAll h1 (frs X.stack ++ [e])) (a0 := .ref t) (outer := X.outer) (by rw [I.ok.frames, o.st]) (hid_frames I1 o [e]) o.fr he (fun b ob q => PySem.W.of_hideAll _ q)
    (PySem.W.hideAll_none _ (by simp)) rfl rfl rfl fun h2 hL => ?_
  obtain ⟨a1, a2, a3⟩ := left_ok I1 o (fun b ob q => ⟨ob, q⟩) (o.up I1) hext (by simp) hL
  exact hQ h2 a1 a2 a3
theorem leave_on (I : Inv X pins σ H s) (o : Own X) {h0 : Heap} {M : Model} {E : Value → Shared → Prop} {Q : Unit → Shared → Prop} (F : FlyAt H h0 e C s.heap) (hh : ∀ b ob, X.s₀.heap.get? b = some ob → ∃ o2, h0.get? b = some o2)
    (hQ : ∀ h2, Un X.fs [] X.H₀ H X.s₀.heap h2 → HOk X.prog X.w H h2 → FlyAt H X.s₀.heap e C h2 → Q () { s with heap := h2 }) :
    wpAny M X.A (leaving X.env (.ref e)) Q E s := by
  obtain ⟨oe, vs, T, oT, ts, a0, t1, t2, t4, t3, t5, t7, t8, t9, t10, t11, t12⟩ := F.ex
  have up : ∀ {b : Addr}, h0.get? b = none → X.s₀.heap.get? b = none := fun {b} z => by
    cases q : X.s₀.heap.get? b with
    | none => rfl
    | some ob =>
      obtain ⟨o2, e2⟩ := hh b ob q
      rw [z] at e2; cases e2
  have hext : ∀ b ∈ [e, T], X.s₀.heap.get? b = none ∧ H b = none := fun b hb => by
    rcases List.mem_cons.mp hb with rfl | hb
    · exact ⟨up F.new, F.nt⟩
    · have z : b = T := by simpa using hb
      subst z
      exact ⟨up t11, t12⟩
  refine wpAny_leaving_nextW (base := PySem.W.hideAll s.heap (frs X.stack ++ [e, T])) (cls := .ref C) (a0 := a0) (outer := X.outer) (by rw [I.ok.frames, o.st]) (hid_frames I o [e, T]) o.fr
    ⟨oe, vs, T, oT, ts, t1, ⟨t2, t3⟩, t4, t5, PySem.W.hideAll_none _ (by simp), t7, t8, t9, t10⟩ (fun b ob q => PySem.W.of_hideAll _ q) (PySem.W.hideAll_none _ (by simp)) fun h2 hL => ?_
  obtain ⟨a1, a2, a3⟩ := left_ok I o (fun b ob q => ⟨ob, q⟩) (o.up I) hext (by simp) hL
  exact hQ h2 a1 a2 a3
end
def Raises (X : Cx) (E : XK) : Prop := ∀ (pins : List (Addr × Obj)) (σ : St) (H : Hp) (s : Shared) (h1 : Heap) (e C : Addr) (vs : List Value), Inv X pins σ H s → Heap.MadeExcOf s.heap h1 e (.ref C) vs → E (.ref C) none H → X.xe (.ref e) { s with heap := h1 }
section
variable {P : Program} {w : World} {K : PySem.W.Frag} {mg : Str → Option Value} {base : Heap} {N : List Str} {qual : Str} {scope : Scope} {f : Addr} {cd : Value} {A : Around} {outer : List Env} {s : Shared} {H : Hp} {E : XK}
abbrev cxF (P : Program) (w : World) (K : PySem.W.Frag) (mg : Str → Option Value) (base : Heap) (N : List Str) (qual : Str) (scope : Scope) (f : Addr) (cd : Value) (A : Around) (outer : List Env) (s : Shared) (H : Hp) (E : XK) : Cx :=
  cxOf (CXF P w) P w K mg base N qual scope f cd A outer s H E
theorem own_cx : Own (cxF P w K mg base N qual scope f cd A outer s H E) := ⟨rfl, rfl, rfl⟩
theorem raises_cx : Raises (cxF P w K mg base N qual scope f cd A outer s H E) E := by
  intro pins σ H1 s1 h1 e C vs I hx hE
  obtain ⟨t, he, _, _⟩ := hx.there
  have hF : F2 e .none ({ s1 with heap := h1 } : Shared).heap := ⟨_, _, he, rfl, rfl⟩
  exact thn ((kf_leaving (.ref e) _).any hF (leave_new I own_cx hx (Q := fun _ s2 => ∃ h2, s2 = { s1 with heap := h2 } ∧ Un _ [] _ H1 _ h2 ∧ HOk _ _ H1 h2 ∧ FlyAt H1 _ e C h2) fun h2 u ok fl => ⟨h2, rfl, u, ok, fl⟩)) fun _ s2 ⟨⟨h2, e2, u, ok, fl⟩, f2⟩ => by
    subst e2
    exact ⟨e, C, none, H1, rfl, I.os, I.bare, u, ok, fl, fun _ => f2, hE⟩
theorem passes_cx : Passes (CXF P w) (cxF P w K mg base N qual scope f cd A outer s H E) E := by
  intro pins σ H1 s1 ev s2 I hx
  obtain ⟨a, C, m, H2, rfl, os, bare, un, ok, fl, hm, hE⟩ := hx
  have I2 : Inv (cxF P w K mg base N qual scope f cd A outer s H E) pins σ H2 s2 := I.call' os un ok bare (fun b z => absurd z (by simp))
  have go := leave_on I2 own_cx (M := model P w) (E := fun e s'' => CXF P w outer H s E e s'') fl (fun b ob q => I.base.there b ob q (by show b ∉ ([] : List Addr); simp)) (Q := fun _ s3 => ∃ h2, s3 = { s2 with heap := h2 } ∧ Un _ [] _ H2 _ h2 ∧ HOk _ _ H2 h2 ∧ FlyAt H2 _ a C h2) fun h2 u ok2 fl2 => ⟨h2, rfl, u, ok2, fl2⟩
  cases m with
  | none =>
    refine thn ((kf_leaving (.ref a) _).any (hm rfl) go) fun _ s3 ⟨⟨h2, e2, u, ok2, fl2⟩, f2⟩ => ?_
    subst e2
    exact ⟨a, C, none, H2, rfl, I2.os, I2.bare, u, ok2, fl2, fun _ => f2, hE⟩
  | some b =>
    refine thn go fun _ s3 ⟨h2, e2, u, ok2, fl2⟩ => ?_
    subst e2
    exact ⟨a, C, some b, H2, rfl, I2.os, I2.bare, u, ok2, fl2, (fun z => nomatch z), hE⟩
theorem passesOwn_cx : PassesOwn (model P w) (cxF P w K mg base N qual scope f cd A outer s H E).A (cxF P w K mg base N qual scope f cd A outer s H E).env (cxF P w K mg base N qual scope f cd A outer s H E).xe :=
  PassesOwn.leaving (Q₁ := fun e s'' => CXF P w outer H s E e s'') (E₁ := fun e s'' => CXF P w outer H s E e s'')
end
theorem pass0F {X : Cx} : Passes (CXF X.prog X.w) X E0 := fun _ _ _ _ _ _ _ ⟨_, _, _, _, _, _, _, _, _, _, _, z⟩ => False.elim z
theorem excIn_obj {K : PySem.W.Frag} {h : Heap} {C : Addr} {bmB : List Value} {newId : String} (X : K.In h) (q : PySem.W.excIn K C bmB newId = true) :
    ∃ bm N nm qn bs hdct sn sub ab col dd k0 k1 k2 k3 k5 mN, K.lookup C = some (excClassObj nm qn C N bs bm hdct sn sub ab col dd k0 k1 k2 k3 k5 newId) ∧ h.Ns N mN ∧ mN "__init__" = none ∧ OwnTail h bmB bm := by
  unfold PySem.W.excIn at q
  split at q
  · rename_i dd cd sl ho
    split at q
    · rename_i C2 bm k0 k1 k2 k3 n k5 hm hs
      rw [Bool.and_eq_true, Bool.and_eq_true, Bool.and_eq_true, Bool.and_eq_true, Bool.and_eq_true] at q
      obtain ⟨⟨⟨⟨⟨q1, q2⟩, q3⟩, q4⟩, q5⟩, q6⟩ := q
      have e1 := beq_iff_eq.mp q1
      have e2 := beq_iff_eq.mp q2
      have e3 : cd.hasDel = false := by simpa using q3
      have e6 := beq_iff_eq.mp q6
      subst e1 e2
      obtain ⟨nm, bs, mro, ns, qn, hd, sn, sub, ab, col, del⟩ := cd
      have hm2 : mro = .ref C2 :: bm := hm
      have e32 : del = false := e3
      subst hm2 e32
      have hsl : sl = #[k0, k1, k2, k3, some (.builtin n), k5] := by
        cases sl with
        | mk l => exact congrArg Array.mk hs
      subst hsl
      exact ⟨bm, ns, nm, qn, bs, hd, sn, sub, ab, col, dd, k0, k1, k2, k3, k5, _, ho, .of_isNs (PySem.W.isNs_of_in X q5), PySem.W.nsMap_none_of_in X q5 e6, PySem.W.tail_of_in X q4⟩
    · cases q
  · cases q
section
variable {X : Cx}
def tRaise (C : Addr) (E : XK) (t : TA) : TS := fun _ σ H => t σ H fun vs H1 => vs.length ≤ sizeLine ∧ E (.ref C) none H1
theorem ps_raise {x : Str} {C : Addr} {E : XK} {B newId initId : String} {bm : List Value} {e0 : Expr} {rest : List Expr} {t : TA} {np cpos pos : Pos} (hr : Raises X E) (hg : Gl X x) (hm : X.mg x = some (.ref C))
    (hq : PySem.W.excIn X.K C bm newId = true) (FB : ExcBaseFacts B newId initId bm) (hc : X.calm = true) (ha : PA X (e0 :: rest) t)
    (he : starEach (e0 :: rest) X.env = (false, eval e0 X.env) :: starEach rest X.env := by rfl) (hpl : (backTo cpos (starEach rest X.env)).any (·.1) = false := by rfl) (hd : (x == ("__debug__" : Str)) = false := by decide) :
    PS X (.Raise (some (.Call (.Name x np) (e0 :: rest) [] cpos)) none pos) (tRaise C E t) := by
  intro pins s σ H D I h
  obtain ⟨tl, N, nm, qn, bs, hdct, sn, sub, ab, col, dd, k0, k1, k2, k3, k5, mN, hCK, hN, hni, T⟩ := excIn_obj I.mod.kin hq
  have hC := I.mod.kin _ _ hCK
  refine wpAny_Raise_call_subT (C := C) (nm := nm) (q := qn) (N := N) (bs := bs) (bm := tl) (hdct := hdct) (sn := sn) (sub := sub) (ab := ab) (col := col) (dd := dd) (k0 := k0) (k1 := k1) (k2 := k2) (k3 := k3) (k5 := k5) (mN := mN)
    FB (T.hasType FB.hasBase) (I.ok.hd hc) ?_ hni (ld_glob I hg hm ⟨rfl, ?_⟩ hd)
  · rw [he]
    show (false || (backTo cpos (starEach rest X.env)).any (·.1)) = false
    rw [hpl]
    rfl
  · have ha2 := ha cpos pins s σ H _ I h
    rw [he] at ha2 ⊢
    refine Calls.evalArgs_plain (thn ha2 fun us s1 ⟨vs, H1, I1, r1, z, q1⟩ => ⟨rfl, by rw [← r1.length]; exact z, I1.bk _ _ hC, hN.keeps I1.bk, T.keeps I1.bk, fun h1 e hx => ?_⟩)
    exact hr pins σ H1 s1 h1 e C us I1 hx q1
end
end L2
set_option Elab.async false
set_option linter.all false
set_option maxRecDepth 100000
set_option maxHeartbeats 4000000
namespace L2
open PySem PySem.Spec PyProof.Rows
def excO (a C : Addr) : HO := .ext fun h => ∃ (oe : Obj) (vs : Array Value), h.get? a = some oe ∧ oe.cls = Value.ref C ∧ oe.data = .fields vs
section
variable {X : Cx} {pins : List (Addr × Obj)} {σ : St} {H : Hp} {s : Shared}
theorem Inv.track {a : Addr} {o : HO} (I : Inv X pins σ H s) (hn : H a = none) (h0 : X.s₀.heap.get? a = none) (hL : a ≠ X.env.locals) (hc : ∀ x c, X.env.cells.lookup x = some c → c ≠ a)
    (hp : ∀ p ∈ X.pn ++ pins, p.1 ≠ a) (ho : ObjOk X.prog X.w (upd H a o) s.heap a o) : Inv X pins σ (upd H a o) s := by
  have ne : ∀ b u, H b = some u → b ≠ a := fun b u q z => by rw [z, hn] at q; cases q
  refine ⟨I.ok, I.os, I.bare, ⟨I.base.keep, I.base.slot, fun b ob q n hx => ?_, I.base.there, fun b xs q => ?_, fun b ob u q => ?_, fun b ps q => ?_⟩, I.loc, I.cell, ?_, fun x c q => ?_, fun p hp' => ?_, fun b u q => ?_, I.len⟩
  · rw [upd_ne fun z => by rw [z, h0] at q; cases q]
    exact I.base.free b ob q n hx
  · have z := I.base.tups b xs q
    rw [upd_ne (ne b _ z)]; exact z
  · have z := I.base.frzs b ob u q
    rw [upd_ne (ne b _ z)]; exact z
  · obtain ⟨m, z⟩ := I.base.tbls b ps q
    exact ⟨m, by rw [upd_ne (ne b _ z)]; exact z⟩
  · rw [upd_ne (Ne.symm hL)]; exact I.free
  · rw [upd_ne (hc x c q)]; exact I.freeC x c q
  · obtain ⟨e1, e2, e3⟩ := I.pin p hp'
    exact ⟨e1, by rw [upd_ne (hp p hp')]; exact e2, e3⟩
  · by_cases hb : b = a
    · subst hb
      rw [upd_same] at q
      cases q
      exact ho
    · rw [upd_ne hb] at q
      exact (I.hok b u q).stay (fun c v _ r => r) (fun c r => by rw [upd_ne (ne c _ r)]; exact r) fun c xs r => by rw [upd_ne (ne c _ r)]; exact r
theorem left_inv {e C : Addr} (I : Inv X pins σ H s) (o : Own X) {ext : List Addr} {a0 fl : Value} {h2 : Heap} (hx : ∀ b ∈ ext, X.s₀.heap.get? b = none ∧ H b = none ∧ ∀ p ∈ X.pn ++ pins, p.1 ≠ b) (he : e ∈ ext)
    (L : Heap.NotedW (PySem.W.hideAll s.heap (frs X.stack ++ ext)) (X.env :: X.outer) e (.ref C) a0 fl s.heap h2) : Inv X pins σ H { s with heap := h2 } := by
  obtain ⟨u, hok, _⟩ := left_ok I o (fun b ob q => ⟨ob, q⟩) (o.up I) (fun b hb => ⟨(hx b hb).1, (hx b hb).2.1⟩) he L
  obtain ⟨k1, k2, _, k4⟩ := L
  have cellK : ∀ c v, s.heap.IsCell c v → h2.IsCell c v := fun c v ⟨ob, q, d⟩ => by
    obtain ⟨sl, e2⟩ := k4 c ob q fun vs z => by rw [d] at z; cases z
    exact ⟨_, e2, d⟩
  refine ⟨I.ok, I.os, I.bare, ?_, ?_, fun x c q => ?_, I.free, I.freeC, fun p hp => ?_, hok, I.len⟩
  · rw [o.ex]; exact u
  · obtain ⟨m, hn, hl⟩ := I.loc
    refine ⟨m, Heap.UpToSlots.ns k4 hn, fun i x v e1 e2 e3 => ?_⟩
    obtain ⟨uv, r, l⟩ := hl i x v e1 e2 e3
    refine ⟨uv, r, ?_⟩
    rcases l with l | ⟨k, c, q, z⟩
    · exact .inl l
    · exact .inr ⟨k, c, q, cellK c _ z⟩
  · obtain ⟨v, z⟩ := I.cell x c q
    exact ⟨v, cellK c v z⟩
  · obtain ⟨e1, e2, e3, e4, e5⟩ := I.pin p hp
    refine ⟨k1 _ _ (PySem.W.hideAll_get _ e1 fun z => ?_), e2, e3, e4, e5⟩
    rcases List.mem_append.mp z with z | z
    · rw [o.frs] at z
      rcases List.mem_cons.mp z with z | z
      · exact e3 z
      · exact e4 z
    · exact (hx p.1 z).2.2 p hp rfl
theorem excMatches_own {M : Model} {A : Around} {E : Value → Shared → Prop} {h : Heap} {g : Array GenState} {d : Drawn} {t : Nat} {os : OsState} {e C L : Addr} {oe : Obj} {Q : Bool → Shared → Prop}
    {nm q : Str} {N : Addr} {bs bm : List Value} {hdct : Bool} {sn : List Str} {sub : List Value} {ab : Bool} {col : Option Bool} {dd : Option Addr} {k0 k1 k2 k3 k5 : Option Value} {newId : String}
    {nm' q' : Str} {N' : Addr} {bs' bm' : List Value} {hdct' : Bool} {sn' : List Str} {sub' : List Value} {ab' : Bool} {col' : Option Bool} {dd' : Option Addr} {l0 l1 l2 l3 l5 : Option Value} {newId' : String}
    (hC : h.get? C = some (excClassObj nm q C N bs bm hdct sn sub ab col dd k0 k1 k2 k3 k5 newId)) (hL : h.get? L = some (excClassObj nm' q' L N' bs' bm' hdct' sn' sub' ab' col' dd' l0 l1 l2 l3 l5 newId'))
    (he : h.get? e = some oe) (hcls : oe.cls = .ref C) (hbase : bm'.contains (.type "BaseException") = true) (hsub : (Value.ref C :: bm).contains (.ref L) = true)
    (hq : Q true ⟨h, g, d, t, os⟩) : wpAny M A (excMatches (.ref e) (.ref L)) Q E ⟨h, g, d, t, os⟩ := by
  have hcB : (Value.ref L :: bm').contains (.type "BaseException") = true := by rw [List.contains_cons, hbase, Bool.or_true]
  have f := tc_notTuple
  unfold excMatches
  repeat (first | (with_reducible refine wpAny_loadPart_at he ?_; rw [hcls]) | with_reducible refine wpAny_loadPart_at hL ?_ | with_reducible refine wpAny_loadPart_at hC ?_ | (with_reducible refine wpAny_isSubtype_exc hL ?_; rw [hcB]) | (with_reducible refine wpAny_isSubtype_exc hC ?_; rw [hsub]) | wp_step)
  exact hq
abbrev Cx.tr (X : Cx) (xe : Value → Shared → Prop) (pn : List (Addr × Obj)) : Cx := { X with xe := xe, pn := pn }
abbrev Cx.hs (X : Cx) (v : Value) : Cx := { X with A := X.A.mark (some v), calm := false, xe := fun _ _ => False }
theorem Cx.Ok.tr {xe : Value → Shared → Prop} {pn : List (Addr × Obj)} (ok : X.Ok) : (X.tr xe pn).Ok :=
  ⟨ok.mod, ok.kind, ok.glob, ok.blt, ok.above, ok.inj, ok.has, ok.cab, ok.hd, ok.frames, ok.stk, ok.exf, ok.bs, ok.bsz, ok.noex, ok.exfs, ok.funs, ok.frf⟩
theorem Cx.Ok.untr {xe : Value → Shared → Prop} {pn : List (Addr × Obj)} (ok : (X.tr xe pn).Ok) : X.Ok :=
  ⟨ok.mod, ok.kind, ok.glob, ok.blt, ok.above, ok.inj, ok.has, ok.cab, ok.hd, ok.frames, ok.stk, ok.exf, ok.bs, ok.bsz, ok.noex, ok.exfs, ok.funs, ok.frf⟩
theorem Cx.Ok.hs {v : Value} (ok : X.Ok) : (X.hs v).Ok :=
  ⟨ok.mod, ok.kind, ok.glob, ok.blt, ok.above, ok.inj, ok.has, ok.cab, fun z => Bool.noConfusion z, ok.frames, ok.stk, ok.exf, ok.bs, ok.bsz, ok.noex, ok.exfs, ok.funs, ok.frf⟩
theorem Inv.tr {xe : Value → Shared → Prop} (I : Inv X pins σ H s) : Inv (X.tr xe (X.pn ++ pins)) [] σ H s :=
  ⟨I.ok.tr, I.os, I.bare, I.base, I.loc, I.cell, I.free, I.freeC, fun p hp => I.pin p (by simpa using hp), I.hok, I.len⟩
theorem Inv.untr {xe : Value → Shared → Prop} {pins' : List (Addr × Obj)} (I : Inv (X.tr xe (X.pn ++ pins)) pins' σ H s) : Inv X pins σ H s :=
  ⟨I.ok.untr, I.os, I.bare, I.base, I.loc, I.cell, I.free, I.freeC, fun p hp => I.pin p (List.mem_append_left _ hp), I.hok, I.len⟩
theorem SP.untr {xe : Value → Shared → Prop} {pins' : List (Addr × Obj)} {D : Ends} {f : Flow} {s' : Shared} (h : SP (X.tr xe (X.pn ++ pins)) pins' D f s') : SP X pins D f s' := by
  cases f with
  | next => obtain ⟨σ', H', I, q⟩ := h; exact ⟨σ', H', I.untr, q⟩
  | brk => obtain ⟨σ', H', I, q⟩ := h; exact ⟨σ', H', I.untr, q⟩
  | cont => obtain ⟨σ', H', I, q⟩ := h; exact ⟨σ', H', I.untr, q⟩
  | ret u => obtain ⟨v, σ', H', I, r, q⟩ := h; exact ⟨v, σ', H', I.untr, r, q⟩
theorem Inv.hs {v : Value} (I : Inv X pins σ H s) : Inv (X.hs v) pins σ H s :=
  ⟨I.ok.hs, I.os, I.bare, I.base, I.loc, I.cell, I.free, I.freeC, I.pin, I.hok, I.len⟩
theorem Inv.unhs {v : Value} (hd : X.calm = true → X.A.handled = none) (I : Inv (X.hs v) pins σ H s) : Inv X pins σ H s :=
  ⟨⟨I.ok.mod, I.ok.kind, I.ok.glob, I.ok.blt, I.ok.above, I.ok.inj, I.ok.has, I.ok.cab, hd, I.ok.frames, I.ok.stk, I.ok.exf, I.ok.bs, I.ok.bsz, I.ok.noex, I.ok.exfs, I.ok.funs, I.ok.frf⟩,
    I.os, I.bare, I.base, I.loc, I.cell, I.free, I.freeC, I.pin, I.hok, I.len⟩
theorem name_goesS {i : Nat} {n : Str} {pos : Pos} {M : Model} {A : Around} {E : Value → Shared → Prop} {Q : Unit → Shared → Prop} (I : Inv X pins σ H s) (hN : X.N.Nodup) (hi : X.N[i]? = some n) (hl : X.env.scope.names.lookup n = some .local)
    (h : ∀ h1, Heap.SameBut X.env.locals s.heap h1 → Inv X pins (σ.set i none) H { s with heap := h1, toks := s.toks + 1 } → Q () { s with heap := h1, toks := s.toks + 1 }) : wpAny M A (do bindName X.env n .none; unbindBehindTheSuite X.env n pos) Q E s := by
  obtain ⟨m, hn, hlk⟩ := id I.loc
  have hcls : (X.env.scope.kind == .class || (X.env.scope.kind == .module && X.env.locals != X.env.globals)) = false := by rw [I.ok.kind]; rfl
  have hiσ : i < σ.length := by rw [I.len]; exact (List.getElem?_eq_some_iff.mp hi).1
  refine wpAny_nameGoes_keeps hl hn hcls fun h1 v hn1 hs => h _ hs ?_
  have oldne : ∀ b ob, X.s₀.heap.get? b = some ob → b ≠ X.env.locals := fun b ob q => I.old_ne q
  refine ⟨I.ok, I.os, I.bare, ⟨fun b ob q n hb hx => (hs.2 b (oldne b ob q)).trans (I.base.keep b ob q n hb hx), fun b ob q n hb hx => ?_, I.base.free, fun b ob q hx => ?_, I.base.tups, I.base.frzs, I.base.tbls⟩,
    ⟨_, hn1, fun j y w e1 e2 e3 => ?_⟩, fun y c q => ?_, I.free, I.freeC, fun p hp => ?_, fun b u q => ?_, by simpa using I.len⟩
  · obtain ⟨sl, e1⟩ := I.base.slot b ob q n hb hx
    exact ⟨sl, (hs.2 b (oldne b ob q)).trans e1⟩
  · obtain ⟨o2, e1⟩ := I.base.there b ob q hx
    exact ⟨o2, (hs.2 b (oldne b ob q)).trans e1⟩
  · by_cases hj : j = i
    · subst hj
      rw [List.getElem?_set_self hiσ] at e2
      cases e2
    · rw [List.getElem?_set_ne (Ne.symm hj)] at e2
      obtain ⟨u, r, l⟩ := hlk j y w e1 e2 e3
      refine ⟨u, r, ?_⟩
      rcases l with ⟨k, q⟩ | ⟨k, c, q, z⟩
      · refine .inl ⟨k, ?_⟩
        have : y ≠ n := fun z => hj (nodup_ix hN e1 (z ▸ hi))
        show (if y = n then v else m y) = some u
        rw [if_neg this]
        exact q
      · exact .inr ⟨k, c, q, z.sameBut hs (I.cne y c q)⟩
  · obtain ⟨w', z⟩ := I.cell y c q
    exact ⟨w', z.sameBut hs (I.cne y c q)⟩
  · obtain ⟨e, e2, e3, e4, e5⟩ := I.pin p hp
    exact ⟨(hs.2 p.1 e3).trans e, e2, e3, e4, e5⟩
  · refine (I.hok b u q).stay (fun c w' hc r => (hs.2 c ?_).trans r) (fun _ z => z) fun _ _ z => z
    intro z
    subst z
    rcases hc with rfl | hc
    · rw [I.free] at q; cases q
    · rw [I.free] at hc; cases hc
theorem name_goes {i : Nat} {n : Str} {pos : Pos} {M : Model} {A : Around} {E : Value → Shared → Prop} {Q : Unit → Shared → Prop} (I : Inv X pins σ H s) (hN : X.N.Nodup) (hi : X.N[i]? = some n) (hl : X.env.scope.names.lookup n = some .local)
    (h : ∀ s', Inv X pins (σ.set i none) H s' → Q () s') : wpAny M A (do bindName X.env n .none; unbindBehindTheSuite X.env n pos) Q E s := name_goesS I hN hi hl fun h1 _ I1 => h _ I1
def tTry (L : Addr) (K : PySem.W.Frag) (i n : Nat) (tb : XK → TS) (th : TS) : TS := fun D σ H => ∃ E : XK, tb E D σ H ∧ ∀ C m H1, E (.ref C) m H1 →
  (∃ bm newId, PySem.W.excIn K C bm newId = true) ∧ PySem.W.mroIn K C (.ref L) = some true ∧
  ∀ a H2, Same H1 H2 → H2 a = some (excO a C) →
    th { nx := fun σ' H' => D.nx (σ'.set i none) H', rt := D.rt, bk := fun σ' H' => D.bk (σ'.set i none) H', ct := fun σ' H' => D.ct (σ'.set i none) H' } ((List.replicate n none).set i (some (.ref a))) H2
theorem ps_try {x n : Str} {i : Nat} {L : Addr} {body suite : List Stmt} {b0 : Stmt} {tb : XK → TS} {th : TS} {np hpos pos : Pos} {bmL : List Value} {newL : String} (o : Own X) (hc : X.calm = true) (hg : Gl X x) (hm : X.mg x = some (.ref L))
    (hq : PySem.W.excIn X.K L bmL newL = true) (hbL : bmL.contains (.type "BaseException") = true) (hN : X.N.Nodup) (hi : X.N[i]? = some n) (hl : X.env.scope.names.lookup n = some .local)
    (hb : ∀ (xe : Value → Shared → Prop) (pn : List (Addr × Obj)) (E : XK), Passes (CXF X.prog X.w) (X.tr xe pn) E → PSs (X.tr xe pn) body (tb E))
    (hs : ∀ v : Value, PSs (X.hs v) (b0 :: suite) th) (hd : (x == ("__debug__" : Str)) = false := by decide) :
    PS X (.Try body [.ExceptHandler (some (.Name x np)) (some n) (b0 :: suite) hpos] [] [] pos) (tTry L X.K i X.N.length tb th) := by
  intro pins s σ H D I h
  obtain ⟨E, hbody, hcatch⟩ := h
  refine wpAny_Try_except (wpAny_mono (hb (fun e s₁ => wpAny (model X.prog X.w) X.A (noteFrame e X.env) (fun _ s₂ => wpAny (model X.prog X.w) X.A (setFlight e none) (fun _ s₃ =>
      wpAny (model X.prog X.w) X.A (handleBy e X.env [.ExceptHandler (some (.Name x np)) (some n) (b0 :: suite) hpos]) (SP X pins D) X.xe s₃) X.xe s₂) X.xe s₁) (X.pn ++ pins) E ?_ [] s σ H D I.tr hbody)
    (fun f s1 q => ?_) fun e s1 q => q)
  · intro pins' σ1 H1 s1 ev s2 I1 hx
    obtain ⟨a, C, m, H2, rfl, os, bare, un, ok, fl, _, hE⟩ := hx
    obtain ⟨⟨bmC, newC, hqC⟩, hsub, hth⟩ := hcatch C m H2 hE
    have I2 : Inv X pins σ1 H2 s2 := (I1.call' os un ok bare (fun b z => absurd z (by simp))).untr
    -- what was there at the call
    have new_ne : ∀ {b : Addr}, s1.heap.get? b = none → b ≠ X.env.locals ∧ (∀ y c, X.env.cells.lookup y = some c → c ≠ b) ∧ (∀ p ∈ X.pn ++ pins, p.1 ≠ b) ∧ X.s₀.heap.get? b = none := fun {b} z => by
      have I0 : Inv X pins σ1 H1 s1 := I1.untr
      refine ⟨fun q => ?_, fun y c hy q => ?_, fun p hp q => ?_, ?_⟩
      · obtain ⟨m, ⟨ob, _, _, hob, _⟩, _⟩ := I0.loc
        rw [← q, z] at hob; cases hob
      · obtain ⟨v, ob, hob, _⟩ := I0.cell y c hy
        rw [q, z] at hob; cases hob
      · have e1 := (I0.pin p hp).1
        rw [q, z] at e1; cases e1
      · cases q : X.s₀.heap.get? b with
        | none => rfl
        | some ob =>
          obtain ⟨o2, e2⟩ := o.up I0 b ob q
          rw [z] at e2; cases e2
    have I0 : Inv X pins σ1 H1 s1 := I1.untr
    have h01 : ∀ b ob, s1.heap.get? b = some ob → ∃ o2, s2.heap.get? b = some o2 := fun b ob q => un.there b ob q (by simp)
    obtain ⟨oe, vs, T, oT, ts, a0, t1, t2, t4, t3, t5, t7, t8, t9, t10, t11, t12⟩ := fl.ex
    have hext : ∀ b ∈ [a, T], s1.heap.get? b = none ∧ H2 b = none := fun b hb' => by
      rcases List.mem_cons.mp hb' with rfl | hb'
      · exact ⟨fl.new, fl.nt⟩
      · have z : b = T := by simpa using hb'
        subst z
        exact ⟨t11, t12⟩
    have hfr : X.A.frames = some (X.env :: X.outer) := by rw [I.ok.frames, o.st]
    refine wpAny_noteFrame_onW (base := PySem.W.hideAll s2.heap (frs X.stack ++ [a, T])) (cls := .ref C) (a0 := a0) (outer := X.outer) hfr (hid_frames I2 o [a, T]) o.fr
      ⟨oe, vs, T, oT, ts, t1, ⟨t2, t3⟩, t4, t5, PySem.W.hideAll_none _ (by simp), t7, t8, t9, t10⟩ (fun b ob q => PySem.W.of_hideAll _ q) (PySem.W.hideAll_none _ (by simp)) fun h3 hN3 => ?_
    obtain ⟨n1, n2, n3, n4⟩ := hN3
    refine wpAny_setFlight_noneW (s := { s2 with heap := h3 }) n1 n2 n3 fun h4 m1 m2 m3 m4 => ?_
    have LW : Heap.LeftW (PySem.W.hideAll s2.heap (frs X.stack ++ [a, T])) (X.env :: X.outer) a (.ref C) a0 s2.heap h4 := ⟨m1, m2, m3, fun b ob q hnf => by
      obtain ⟨sl, e1⟩ := n4 b ob q hnf
      exact ⟨sl, m4 b _ e1 hnf⟩⟩
    obtain ⟨_, _, fl4⟩ := left_ok I2 o (o.up I0) h01 hext (by simp) LW
    have I4 : Inv X pins σ1 H2 { s2 with heap := h4 } := left_inv I2 o (fun b hb' => ⟨(new_ne (hext b hb').1).2.2.2, (hext b hb').2, (new_ne (hext b hb').1).2.2.1⟩) (by simp) LW
    have h04 : ∀ b ob, s1.heap.get? b = some ob → ∃ o2, h4.get? b = some o2 := fun b ob q => by
      obtain ⟨o2, e2⟩ := h01 b ob q
      by_cases hbf : b ∈ frs X.stack
      · obtain ⟨_, o3, ho3, hd3⟩ := I2.stack.mem hbf
        obtain ⟨sl, e4⟩ := LW.2.2.2 b o3 ho3 hd3
        exact ⟨_, e4⟩
      · refine ⟨o2, m1 b o2 (PySem.W.hideAll_get _ e2 fun z => (List.mem_append.mp z).elim hbf fun z => ?_)⟩
        rw [(hext b z).1] at q; cases q
    -- the class test
    have hkin : X.K.In h4 := I4.kIn
    obtain ⟨bC, NC, nmC, qnC, bsC, hdC, snC, subC, abC, colC, ddC, c0, c1, c2, c3, c5, mNC, hCK, _, _, _⟩ := excIn_obj hkin hqC
    obtain ⟨bL, NL, nmL, qnL, bsL, hdL, snL, subL, abL, colL, ddL, l0, l1, l2, l3, l5, mNL, hLK, _, _, TL⟩ := excIn_obj hkin hq
    have hmro : (Value.ref C :: bC).contains (.ref L) = true := by
      unfold PySem.W.mroIn PySem.W.clsIn at hsub
      rw [hCK] at hsub
      simpa [excClassObj] using hsub
    refine wpAny_handleBy_cons (codeAny_handlers_test ?_) (by intro q; cases q)
    have hglob : ∀ {E' : Value → Shared → Prop} {Q' : Value → Shared → Prop}, Q' (.ref L) { s2 with heap := h4 } → wpAny (model X.prog X.w) (X.A.mark (some (.ref a))) (eval (.Name x np) X.env) Q' E' { s2 with heap := h4 } := fun {E' Q'} q =>
      Calls.Name_function_global I.ok.kind hg (Calls.loadGlobal_global (by rw [I.ok.glob]; exact I4.mod.glob.keeps I4.bk) hm q) hd
    refine hglob ?_
    obtain ⟨oe4, vs4, T4, oT4, ts4, a04, u1, u2, u4, u3, u5, u7, u8, u9, u10, u11, u12⟩ := fl4.ex
    obtain ⟨hp2, g2, d2, tk2, os2⟩ := s2
    refine excMatches_own (hkin _ _ hCK) (hkin _ _ hLK) u1 u2 (TL.hasType hbL) hmro ?_
    show codeAny _ _ (.handlers _ _ _) _ _
    refine codeAny_handlers_suite_as ?_
    -- once more
    have hext4 : ∀ b ∈ [a, T4], s1.heap.get? b = none ∧ H2 b = none := fun b hb' => by
      rcases List.mem_cons.mp hb' with rfl | hb'
      · exact ⟨fl4.new, fl4.nt⟩
      · have z : b = T4 := by simpa using hb'
        subst z
        exact ⟨u11, u12⟩
    have kb4 : (PySem.W.hideAll h4 (frs X.stack ++ [a, T4])).StaysIn h4 := fun b ob q => PySem.W.of_hideAll _ q
    have fr4 := hid_frames I4 o [a, T4]
    refine wpAny_setFlight_noneW (s := ⟨h4, g2, d2, tk2, os2⟩) (base := PySem.W.hideAll h4 (frs X.stack ++ [a, T4])) (l := X.env :: X.outer) (cls := .ref C) (a0 := a04) (fl := .none) kb4 fr4
      ⟨oe4, vs4, T4, oT4, ts4, u1, ⟨u2, u3⟩, u4, u5, PySem.W.hideAll_none _ (by simp), u7, u8, u9, u10⟩ fun h5 r1 r2 r3 r4 => ?_
    have LW5 : Heap.LeftW (PySem.W.hideAll h4 (frs X.stack ++ [a, T4])) (X.env :: X.outer) a (.ref C) a04 h4 h5 := ⟨r1, r2, r3, fun b ob q hnf => ⟨ob.slots, r4 b ob q hnf⟩⟩
    obtain ⟨_, _, fl5⟩ := left_ok I4 o (o.up I0) h04 hext4 (by simp) LW5
    have I5 : Inv X pins σ1 H2 ⟨h5, g2, d2, tk2, os2⟩ := left_inv I4 o (fun b hb' => ⟨(new_ne (hext4 b hb').1).2.2.2, (hext4 b hb').2, (new_ne (hext4 b hb').1).2.2.1⟩) (by simp) LW5
    obtain ⟨oe5, vs5, T5, oT5, ts5, a05, v1, v2, v4, _⟩ := fl5.ex
    obtain ⟨ne1, ne2, ne3, ne4⟩ := new_ne fl5.new
    have I6 : Inv X pins σ1 (upd H2 a (excO a C)) ⟨h5, g2, d2, tk2, os2⟩ := I5.track fl5.nt ne4 ne1 ne2 ne3
      ⟨⟨oe5, vs5, v1, v2, v4⟩, ⟨oe5, v1⟩, fun k1 k2 ⟨ox, vx, y1, y2, y3⟩ kk => ⟨ox, vx, kk _ y1, y2, y3⟩⟩
    have I7 : Inv X pins (List.replicate X.N.length none) (upd H2 a (excO a C)) ⟨h5, g2, d2, tk2, os2⟩ := I6.weak (by rw [List.length_replicate, I6.len]) fun j v q => by
      rw [List.getElem?_replicate] at q
      split at q
      · cases q
      · cases q
    have S0 : Same H2 (upd H2 a (excO a C)) := fun b u q => by rw [upd_ne fun z => by rw [z, fl5.nt] at q; cases q]; exact q
    have hsu := hs (.ref a)
    refine store_ok (X := X.hs (.ref a)) (v := .ref a) I7.hs hN hi (.inl hl) rfl (fun s8 I8 => ?_) (.inr hl)
    refine wpAny_mono (hsu pins s8 _ _ _ I8 (hth a (upd H2 a (excO a C)) S0 upd_same)) (fun f s9 q9 => ?_) fun _ _ z => False.elim z
    have hdX : X.calm = true → X.A.handled = none := I.ok.hd
    cases f with
    | next =>
      obtain ⟨σ9, H9, I9, q⟩ := q9
      exact name_goes (I9.unhs hdX) hN hi hl fun s10 I10 => ⟨_, H9, I10, q⟩
    | brk =>
      obtain ⟨σ9, H9, I9, q⟩ := q9
      exact name_goes (I9.unhs hdX) hN hi hl fun s10 I10 => ⟨_, H9, I10, q⟩
    | cont =>
      obtain ⟨σ9, H9, I9, q⟩ := q9
      exact name_goes (I9.unhs hdX) hN hi hl fun s10 I10 => ⟨_, H9, I10, q⟩
    | ret u =>
      obtain ⟨v9, σ9, H9, I9, r9, q⟩ := q9
      exact name_goes (I9.unhs hdX) hN hi hl fun s10 I10 => ⟨v9, _, H9, I10, r9, q⟩
  · cases f with
    | next => exact wpAny_execs_nil q.untr
    | brk => exact q.untr
    | cont => exact q.untr
    | ret u => exact q.untr
end
end L2
set_option Elab.async false
set_option linter.all false
set_option maxRecDepth 100000
set_option maxHeartbeats 4000000
namespace L2
open PySem PySem.Spec PyProof.Rows
section
variable {prog : Program} {w : World} {A : Around} {R : Result → Shared → Prop} {s : Shared}
theorem compLoop_any {elt tg iter : Expr} {ifs : List Expr} {scope : Scope} {pos : Pos} {it acc : Value} {env : Env} (I : Nat → Shared → Prop)
    (turn : ∀ n s, I n s → wpAny (model prog w) A (pyNext it) (fun r s₁ => match r with
      | none => R (.ok .next) s₁
      | some v => wpAny (model prog w) A (letOwnedTupleGo tg it v) (fun _ t₁ => wpAny (model prog w) A (assign tg env v) (fun _ s₂ =>
          wpAny (model prog w) A (forIn ifs true fun c r => if r = true then do let ok ← isTrue c env (eval c env); pure (ForInStep.yield ok) else pure (ForInStep.yield r)) (fun ok s₃ =>
            if ok = true then wpAny (model prog w) A (eval elt env) (fun x s₄ => wpAny (model prog w) A (call (.builtin "list.append") [acc, x]) (fun _ s₅ => ∃ m, m < n ∧ I m s₅) (fun _ _ => False) s₄) (fun _ _ => False) s₃
            else ∃ m, m < n ∧ I m s₃) (fun _ _ => False) s₂) (fun _ _ => False) t₁) (fun _ _ => False) s₁) (fun _ _ => False) s)
    (n : Nat) (h : I n s) : codeAny (model prog w) A (.compLoop (.ListComp elt [⟨tg, iter, ifs, 0⟩] scope pos) 0 it acc env) R s := by
  refine codeAny_loop rfl I (fun n s hI => ?_) n h
  show wpAny _ A ((compTurn (.ListComp elt [⟨tg, iter, ifs, 0⟩] scope pos) 0 it acc env).onRaise (fun x => do noteFrame x env; theTreesLotGoes x)) _ _ s
  refine wpAny_noted ?_
  rw [compTurn_list]
  have no : ∀ (E : Value → Shared → Prop) (e : Value) (s : Shared), False → E e s := fun _ _ _ z => z.elim
  refine wpAny_bind (wpAny_standAt (wpAny_bind (wpAny_mono (turn n s hI) (fun r s₁ h₁ => ?_) (no _))))
  cases r with
  | none => exact wpAny_pure h₁
  | some v =>
    refine wpAny_bind (wpAny_mono h₁ (fun _ t₁ h₂ => ?_) (no _))
    refine wpAny_bind (wpAny_mono h₂ (fun _ s₂ h₃ => wpAny_bind (wpAny_mono h₃ (fun ok s₃ h₄ => ?_) (no _))) (no _))
    cases ok with
    | false => exact wpAny_pure ⟨rfl, h₄⟩
    | true => exact wpAny_bind (wpAny_bind (wpAny_mono h₄ (fun x s₄ h₅ => wpAny_bind (wpAny_mono h₅ (fun _ s₅ h₆ => wpAny_pure (wpAny_pure ⟨rfl, h₆⟩)) (no _))) (no _)))
end
def cxC (X : Cx) (N : List Str) (scope : Scope) (cl : List (Str × Addr)) (C : Addr) (s : Shared) (H : Hp) (fp : List Addr) : Cx :=
  { X with N := N, s₀ := s, H₀ := H, env := compEnvC scope cl C X.env, outer := X.stack, stack := X.stack, ex := fp, fn := fun _ => false, pn := [], xe := fun _ _ => False }
structure CompNames (X : Cx) (N : List Str) (js : List (Option Nat)) (scope : Scope) (cl : List (Str × Addr)) : Prop where
  kind : scope.kind = .function
  clos : closureFor scope X.env = pure cl
  nocell : ∀ y ∈ scope.names, y.2 ≠ .cell
  names : ∀ y ∈ scope.names, y.2 = .local → scope.names.lookup y.1 = some .local
  sub : ∀ x c, cl.lookup x = some c → X.env.cells.lookup x = some c
  has : ∀ x, ((compEnvC scope cl 0 X.env).kindOf x = some .cell ∨ (compEnvC scope cl 0 X.env).kindOf x = some .free) → ∃ c, cl.lookup x = some c
  len : js.length = N.length
  free : ∀ (i j : Nat) (x : Str), js[i]? = some (some j) → N[i]? = some x → X.N[j]? = some x ∧ ((compEnvC scope cl 0 X.env).kindOf x = some .cell ∨ (compEnvC scope cl 0 X.env).kindOf x = some .free) ∧
    (X.env.kindOf x = some .cell ∨ X.env.kindOf x = some .free)
def pickσ (js : List (Option Nat)) (σ : St) : St := js.map fun o => o.bind fun j => (σ[j]?).join
section
variable {X : Cx} {pins : List (Addr × Obj)} {σ : St} {H : Hp} {s : Shared} {N : List Str} {js : List (Option Nat)} {scope : Scope} {cl : List (Str × Addr)}
theorem comp_start {fp : List Addr} {h4 : Heap} {t' : Nat} (I : Inv X pins σ H s) (cn : CompNames X N js scope cl) (hfp : ∀ b ∈ fp, FpOk X pins H b) (hin : ∀ b ∈ fp, ∃ o, s.heap.get? b = some o)
    (ns : h4.Ns s.heap.objs.size fun _ => none) (sb : Heap.SameBut s.heap.objs.size (s.heap.push { cls := .type "dict", data := .dict #[] }) h4) :
    Inv (cxC X N scope cl s.heap.objs.size s H fp) [] (pickσ js σ) H { s with heap := h4, toks := t' } := by
  have keep : ∀ b o, s.heap.get? b = some o → h4.get? b = some o := fun b o e => (sb.2 b (Nat.ne_of_lt (Heap.lt_size e))).trans (Heap.get?_push_of_some _ e)
  have ltC : ∀ b ∈ fp, b < s.heap.objs.size := fun b hb => by obtain ⟨o, e⟩ := hin b hb; exact Heap.lt_size e
  refine ⟨⟨I.ok.mod, cn.kind, I.ok.glob, I.ok.blt, Nat.le_refl _, fun x y c e1 e2 => I.ok.inj x y c (cn.sub x c e1) (cn.sub y c e2), fun x hx => cn.has x hx, fun x c z => Bool.noConfusion z, I.ok.hd, I.ok.frames, .inl rfl, fun b hb => ⟨Nat.ne_of_lt (ltC b hb), fun x c e => (hfp b hb).2.2.2.2.1 x c (cn.sub x c e)⟩,
      I.bs, Nat.le_trans I.ok.bsz I.sz, fun b o e hb => ?_, fun b hb hf => ?_, I.stack, I.stkFree⟩,
    rfl, I.bare, Un.kept keep, ⟨_, ns, fun i x v e1 e2 e3 => ?_⟩, fun x c e => ?_, I.hok.fresh (Nat.le_refl _), fun x c e => I.freeC x c (cn.sub x c e), fun p hp => absurd (show p ∈ ([] : List (Addr × Obj)) from hp) (by simp), I.hok.kept keep, ?_⟩
  · rcases (hfp b hb).2.2.2.1 with z | z
    · exact I.ok.noex b o e z
    · exact absurd (Nat.lt_of_lt_of_le (Heap.lt_size e) (Nat.le_trans I.ok.bsz z)) (Nat.lt_irrefl _)
  · rcases List.mem_cons.mp (I.stkSub b hf) with z | z
    · exact (hfp b hb).2.1 z
    · exact (hfp b hb).2.2.1 z
  · have hp : ∃ j, js[i]? = some (some j) ∧ σ[j]? = some (some v) := by
      unfold pickσ at e2
      rw [List.getElem?_map] at e2
      cases q : js[i]? with
      | none => rw [q] at e2; cases e2
      | some oj =>
        rw [q] at e2
        cases oj with
        | none => cases e2
        | some j =>
          refine ⟨j, rfl, ?_⟩
          have e2' : (σ[j]?).join = some v := Option.some.inj e2
          cases z : σ[j]? with
          | none => rw [z] at e2'; cases e2'
          | some y => rw [z] at e2'; exact congrArg some e2'
    obtain ⟨j, q1, q2⟩ := hp
    obtain ⟨f1, f2, f3⟩ := cn.free i j x q1 e1
    obtain ⟨m, hn, hl⟩ := I.loc
    have vis : Vis X.env.scope x := by
      rcases f3 with z | z
      · exact .inr (.inl z)
      · exact .inr (.inr z)
    obtain ⟨u, r, l⟩ := hl j x v f1 q2 vis
    refine ⟨u, r, .inr ⟨f2, ?_⟩⟩
    rcases l with ⟨k, _⟩ | ⟨k, c, e, z⟩
    · rcases f3 with z | z
      · rw [k] at z; cases z
      · rw [k] at z; cases z
    · obtain ⟨c', e'⟩ := cn.has x f2
      have e'' := cn.sub x c' e'
      rw [e] at e''
      cases e''
      exact ⟨c, e', z.keeps keep⟩
  · obtain ⟨v, z⟩ := I.cell x c (cn.sub x c e)
    exact ⟨v, z.keeps keep⟩
  · unfold pickσ
    rw [List.length_map]
    exact cn.len
theorem comp_end {fp : List Addr} {σ2 : St} {H2 : Hp} {s2 : Shared} {pins2 : List (Addr × Obj)} {C : Addr} (I : Inv X pins σ H s) (hfp : ∀ b ∈ fp, FpOk X pins H b) (J : Inv (cxC X N scope cl C s H fp) pins2 σ2 H2 s2) : Inv X pins σ H2 s2 :=
  I.call' (ch := fp) J.os J.base J.hok J.bare fun b hb => ⟨(hfp b hb).2.2.2.1, (hfp b hb).2.1, (hfp b hb).2.2.2.2.1, (hfp b hb).2.2.2.2.2⟩
def tLC (js : List (Option Nat)) (wi : TI) (g : TG) (tt : TT) (te : TE) : TE := fun σ H Q => wi σ H fun J H1 => ∀ D, H1 D = none → ∃ W : Nat → Nat → St → Hp → Prop, (∃ m, W 0 m (pickσ js σ) (upd H1 D (.lst []))) ∧
  ∀ i m σ2 H2, W i m σ2 H2 → (J.stop i H2 ∧ Q (.ref D) H2) ∨ (J.go i H2 ∧ ∀ x H3, J.yld i H2 x H3 → g x σ2 H3 fun σ4 H4 => tt σ4 H4 fun b H5 =>
    if b = true then te σ4 H5 fun y H6 => ∃ xs, H6 D = some (.lst xs) ∧ xs.length < sizeLine ∧ ∃ m', m' < m ∧ W (i + 1) m' σ4 (upd H6 D (.lst (xs ++ [y]))) else ∃ m', m' < m ∧ W (i + 1) m' σ4 H5)
def tYes : TT := fun _ H Q => Q true H
def PTs (X : Cx) (ifs : List Expr) (t : TT) : Prop :=
  ∀ (pins : List (Addr × Obj)) (s : Shared) (σ : St) (H : Hp) (Q : Bool → Hp → Prop), Inv X pins σ H s → t σ H Q →
    wpAny (model X.prog X.w) X.A (forIn ifs true fun c r => if r = true then do let ok ← isTrue c X.env (eval c X.env); pure (ForInStep.yield ok) else pure (ForInStep.yield r)) (TP X pins σ Q) X.xe s
theorem pts_nil : PTs X [] tYes := fun _ _ _ H _ I h => wpAny_tests_nil ⟨H, I, h⟩
theorem pts_one {c : Expr} {t : TT} (hc : PT X c t) : PTs X [c] t := fun pins s σ H Q I h => wpAny_tests_one (hc pins s σ H Q I h)
theorem comp_block {elt tg iter : Expr} {ifs : List Expr} {pos : Pos} {g : TG} {tt : TT} {te : TE} {J : It} {H1 : Hp} {it : Addr} {fp : List Addr} {tn : Nat → Heap → Prop} {s2 : Shared} {QD : V → Hp → Prop} {RR : Value → Addr → Result → Shared → Prop} {E : Value → Shared → Prop}
    (hc : X.calm = true) (cn : CompNames X N js scope cl)
    (hg : ∀ C s H fp, PG (cxC X N scope cl C s H fp) tg g) (ht : ∀ C s H fp, PTs (cxC X N scope cl C s H fp) ifs tt) (he : ∀ C s H fp, PE (cxC X N scope cl C s H fp) elt te)
    (I : Inv X pins σ H1 s2) (T : Turn X.prog X.w X.K tg J fp it tn) (st0 : tn 0 s2.heap) (hfp : ∀ b ∈ fp, FpOk X pins H1 b)
    (h : ∀ D, H1 D = none → ∃ W : Nat → Nat → St → Hp → Prop, (∃ m, W 0 m (pickσ js σ) (upd H1 D (.lst []))) ∧
      ∀ i m σ2 H2, W i m σ2 H2 → (J.stop i H2 ∧ QD (.ref D) H2) ∨ (J.go i H2 ∧ ∀ x H3, J.yld i H2 x H3 → g x σ2 H3 fun σ4 H4 => tt σ4 H4 fun b H5 =>
        if b = true then te σ4 H5 fun y H6 => ∃ xs, H6 D = some (.lst xs) ∧ xs.length < sizeLine ∧ ∃ m', m' < m ∧ W (i + 1) m' σ4 (upd H6 D (.lst (xs ++ [y]))) else ∃ m', m' < m ∧ W (i + 1) m' σ4 H5))
    (hRR : ∀ (D C : Addr) (H2 : Hp) (s5 : Shared) (m : Str → Option Value), Inv X pins σ H2 s5 → s5.heap.Ns C m → H2 C = none → C ≠ X.env.locals → X.s₀.heap.objs.size ≤ C → (∀ x c, X.env.cells.lookup x = some c → c ≠ C) → (∀ p ∈ X.pn ++ pins, p.1 ≠ C) → QD (.ref D) H2 → RR (.ref D) C (.ok .next) s5) :
    wpAny (model X.prog X.w) X.A (newList []) (fun acc s₃ => wpAny (model X.prog X.w) X.A (newFunctionEnv scope X.env.globals cl [] X.env.qual none .none (some X.env)) (fun cenv s₄ =>
      codeAny (model X.prog X.w) X.A (.compStart (.ListComp elt [⟨tg, iter, ifs, 0⟩] scope pos) 0 (.ref it) acc { cenv with scope := relabel scope X.env }) (RR acc cenv.locals) s₄) E s₃) E s2 := by
  have I3 : Inv X pins σ (upd H1 s2.heap.objs.size (.lst [])) { s2 with heap := s2.heap.push { cls := .type "list", data := .seq ([] : List Value).toArray }, toks := s2.toks } := I.lnew .nil (Nat.zero_le _)
  refine wpAny_newObj_type (wpAny_newFunctionEnv cn.nocell (by intro y hy; simp at hy) (fun h4 ns4 sb4 => ?_) cn.kind)
  obtain ⟨W, ⟨m0, w0⟩, turn⟩ := h s2.heap.objs.size I.fresh
  have hD : H1 s2.heap.objs.size = none := I.fresh
  have lt2 : ∀ b ∈ fp, b < s2.heap.objs.size := fun b hb => by obtain ⟨o, e, _⟩ := T.obj 0 _ st0 b hb; exact Heap.lt_size e
  have hfp3 : ∀ b ∈ fp, FpOk X pins (upd H1 s2.heap.objs.size (.lst [])) b := fun b hb => ⟨by rw [upd_ne (Nat.ne_of_lt (lt2 b hb))]; exact (hfp b hb).1, (hfp b hb).2⟩
  have hin3 : ∀ b ∈ fp, ∃ o, (s2.heap.push { cls := .type "list", data := .seq ([] : List Value).toArray }).get? b = some o := fun b hb => by
    obtain ⟨o, e, _⟩ := T.obj 0 _ st0 b hb
    exact ⟨o, Heap.get?_push_of_some _ e⟩
  have I4 : Inv (cxC X N scope cl (s2.heap.push { cls := .type "list", data := .seq ([] : List Value).toArray }).objs.size { s2 with heap := s2.heap.push { cls := .type "list", data := .seq ([] : List Value).toArray }, toks := s2.toks } (upd H1 s2.heap.objs.size (.lst [])) fp) [] (pickσ js σ) (upd H1 s2.heap.objs.size (.lst []))
      { s2 with heap := h4, toks := s2.toks + ([] : List (Str × Value)).length } := comp_start (t' := s2.toks + ([] : List (Str × Value)).length) I3 cn hfp3 hin3 ns4 sb4
  have ltC : ∀ b ∈ fp, b < (s2.heap.push { cls := .type "list", data := .seq ([] : List Value).toArray }).objs.size := fun b hb => by rw [Heap.size_push]; exact Nat.lt_succ_of_lt (lt2 b hb)
  have st4 : tn 0 h4 := T.keep 0 _ _ st0 fun b hb o e => (sb4.2 b (Nat.ne_of_lt (ltC b hb))).trans (Heap.get?_push_of_some _ (Heap.get?_push_of_some _ e))
  have loop : codeAny (model X.prog X.w) X.A (.compLoop (.ListComp elt [⟨tg, iter, ifs, 0⟩] scope pos) 0 (.ref it) (.ref s2.heap.objs.size) (compEnvC scope cl (s2.heap.push { cls := .type "list", data := .seq ([] : List Value).toArray }).objs.size X.env))
      (RR (.ref s2.heap.objs.size) (s2.heap.push { cls := .type "list", data := .seq ([] : List Value).toArray }).objs.size) { s2 with heap := h4, toks := s2.toks + ([] : List (Str × Value)).length } := by
    generalize hCe : (s2.heap.push { cls := .type "list", data := .seq ([] : List Value).toArray }).objs.size = C at *
    generalize hse : ({ s2 with heap := s2.heap.push { cls := .type "list", data := .seq ([] : List Value).toArray }, toks := s2.toks } : Shared) = s3 at *
    have stat : ∀ {H' : Hp}, (∀ b ∈ fp, H' b = none) → ∀ b ∈ fp, FpOk (cxC X N scope cl C s3 (upd H1 s2.heap.objs.size (.lst [])) fp) [] H' b := fun hn b hb =>
      ⟨hn b hb, Nat.ne_of_lt (ltC b hb), I4.ok.exfs b hb, .inl hb, fun x c e => (hfp b hb).2.2.2.2.1 x c (cn.sub x c e), fun p hp => absurd (show p ∈ ([] : List (Addr × Obj)) from hp) (by simp)⟩
    refine compLoop_any (fun n s' => ∃ i σ' H', Inv (cxC X N scope cl C s3 (upd H1 s2.heap.objs.size (.lst [])) fp) [] σ' H' s' ∧ tn i s'.heap ∧ (∀ b ∈ fp, H' b = none) ∧ W i n σ' H') ?_ m0 ⟨0, _, _, I4, st4, fun b hb => (hfp3 b hb).1, w0⟩
    rintro n s5 ⟨i, σ5, H5, I5, st5, fr5, w5⟩
    rcases turn i n σ5 H5 w5 with ⟨stop, qn⟩ | ⟨go, step⟩
    · refine thn (T.done (cxC X N scope cl C s3 (upd H1 s2.heap.objs.size (.lst [])) fp) rfl rfl rfl hc i [] s5 σ5 H5 (fun _ _ => False) I5 (stat fr5) st5 stop) fun r s6 ⟨hr, I6⟩ => ?_
      subst hr
      obtain ⟨mC, nsC, _⟩ := id I6.loc
      have IX : Inv X pins σ H5 s6 := comp_end I3 hfp3 I6
      refine hRR _ C H5 s6 mC IX nsC I6.free ?_ ?_ ?_ ?_ qn
      · have := I3.lt; rw [← hCe]; exact Nat.ne_of_gt (by rw [← hse] at this; exact this)
      · have := I3.sz; rw [← hCe]; rw [← hse] at this; exact this
      · intro x c e z
        obtain ⟨v, q⟩ := I3.cell x c e
        have := q.lt
        rw [z, ← hCe, ← hse] at this
        exact absurd this (Nat.lt_irrefl _)
      · intro p hp z
        have := Heap.lt_size (I3.pin p hp).1
        rw [z, ← hCe, ← hse] at this
        exact absurd this (Nat.lt_irrefl _)
    · refine thn (T.item (cxC X N scope cl C s3 (upd H1 s2.heap.objs.size (.lst [])) fp) rfl rfl rfl hc i [] s5 σ5 H5 (fun _ _ => False) I5 (stat fr5) st5 go) fun r s6 ⟨u, hr, h6⟩ => ?_
      subst hr
      refine thn h6 fun _ s7 ⟨x, H7, I7, r7, y7, st7, fr7⟩ => ?_
      have I7' := I7.pinned (stat fr7) (T.obj _ _ st7)
      refine thn (hg C s3 _ fp _ s7 σ5 H7 x u _ I7' r7 (step x H7 y7)) fun _ s8 ⟨σ8, H8, I8, q8⟩ => ?_
      refine thn (ht C s3 _ fp _ s8 σ8 H8 _ I8 q8) fun ok s9 ⟨H9, I9, q9⟩ => ?_
      have again : ∀ {s' : Shared} {H' : Hp}, Inv (cxC X N scope cl C s3 (upd H1 s2.heap.objs.size (.lst [])) fp) ([] ++ pinsAt fp s7.heap) σ8 H' s' → (∃ m', m' < n ∧ W (i + 1) m' σ8 H') →
          ∃ m, m < n ∧ ∃ i σ' H', Inv (cxC X N scope cl C s3 (upd H1 s2.heap.objs.size (.lst [])) fp) [] σ' H' s' ∧ tn i s'.heap ∧ (∀ b ∈ fp, H' b = none) ∧ W i m σ' H' := fun {s' H'} I' ⟨m', hm, w'⟩ =>
        ⟨m', hm, i + 1, σ8, H', I'.unpinned, T.keep _ _ _ st7 fun b hb o e => (I'.pin (b, o) (List.mem_append_right _ (List.mem_append_right _ (mem_pinsAt hb e)))).1, fun b hb => by
          obtain ⟨o, e, d⟩ := T.obj _ _ st7 b hb
          exact (I'.pin (b, o) (List.mem_append_right _ (List.mem_append_right _ (mem_pinsAt hb e)))).2.1, w'⟩
      cases ok with
      | false =>
        rw [if_neg Bool.false_ne_true]
        rw [if_neg Bool.false_ne_true] at q9
        exact again I9 q9
      | true =>
        rw [if_pos rfl]
        rw [if_pos rfl] at q9
        refine thn (he C s3 _ fp _ s9 σ8 H9 _ I9 q9) fun y s10 ⟨yv, H10, I10, r10, xs, hxs, hz, q10⟩ => ?_
        refine thn (mt_append _ s10 σ8 H10 (.ref s2.heap.objs.size) [yv] _ [y] (fun _ H' => ∃ m', m' < n ∧ W (i + 1) m' σ8 H') I10 rfl (.cons r10 .nil) ⟨_, xs, yv, rfl, rfl, hxs, hz, q10⟩) fun _ s11 ⟨_, H11, I11, _, q11⟩ => again I11 q11
  exact codeAny_compStart_list loop (T.self _ 0 _ _ _ st4 loop)
theorem pe_lc {elt tg iter : Expr} {ifs : List Expr} {pos : Pos} {wi : TI} {g : TG} {tt : TT} {te : TE} (hc : X.calm = true) (cn : CompNames X N js scope cl) (hi : PI X tg iter wi)
    (hg : ∀ C s H fp, PG (cxC X N scope cl C s H fp) tg g) (ht : ∀ C s H fp, PTs (cxC X N scope cl C s H fp) ifs tt) (he : ∀ C s H fp, PE (cxC X N scope cl C s H fp) elt te)
    (hs : ∀ x, foldedSetIterable iter X.env x = pure x := by intro _; rfl) : PE X (.ListComp elt [⟨tg, iter, ifs, 0⟩] scope pos) (tLC js wi g tt te) := by
  intro pins s σ H Q I h
  rw [eval_ListComp]
  refine wpAny_comprehension_free (use := none) rfl hs cn.clos cn.kind cn.names (thn (hi pins s σ H _ I h) fun v s1 h1 => thn h1 fun itv s2 h2 => ?_)
  obtain ⟨it, fp, tn, J, H2, rfl, I2, T, st2, f2, q⟩ := h2
  refine comp_block (RR := fun acc C => compPost (model X.prog X.w) X.A X.xe none (EP X pins σ Q) acc C) hc cn hg ht he I2 T st2 f2 q ?_
  intro D C H3 s3 m I3 ns hC hL h0 hcl hp q3
  exact ⟨m, ns, fun h' sb => ⟨.ref D, H3, I3.turned (t' := s3.toks) (fun b o hb e => (sb.2 b hb).trans e) hC hL (.inr h0) hcl hp, rfl, q3⟩⟩
theorem ps_setLC {elt tg iter : Expr} {ifs : List Expr} {pos spos py : Pos} {wi : TI} {g : TG} {tt : TT} {te : TE} {k : Nat} {y : Str} (hc : X.calm = true) (cn : CompNames X N js scope cl) (hi : PI X tg iter wi)
    (hN : X.N.Nodup) (hk : X.N[k]? = some y) (hl : X.env.scope.names.lookup y = some .local)
    (hg : ∀ C s H fp, PG (cxC X N scope cl C s H fp) tg g) (ht : ∀ C s H fp, PTs (cxC X N scope cl C s H fp) ifs tt) (he : ∀ C s H fp, PE (cxC X N scope cl C s H fp) elt te)
    (hsw : swapsWith (.ListComp elt [⟨tg, iter, ifs, 0⟩] scope pos) (some (.Name y py)) spos.line X.env = pure true)
    (hs : ∀ x, foldedSetIterable iter X.env x = pure x := by intro _; rfl) : PS X (.Assign [.Name y py] (.ListComp elt [⟨tg, iter, ifs, 0⟩] scope pos) spos) (tAsg (tLC js wi g tt te) (gName k)) := by
  intro pins s σ H D' I h
  rw [exec_Assign_Name_used _ _ _ _ hsw]
  refine wpAny_bind (wpAny_standAt (wpAny_bind ?_))
  show wpAny _ _ (do let _ ← comprehension (.ListComp elt [⟨tg, iter, ifs, 0⟩] scope pos) scope X.env _ (newList []) false (eval iter X.env) (some (assign (.Name y py) X.env))) _ _ s
  refine wpAny_bind (thn (wpAny_comprehension_free (use := some (assign (.Name y py) X.env)) (Q := fun _ s' => SP X pins D' .next s') rfl hs cn.clos cn.kind cn.names (thn (hi pins s σ H _ I h) fun v s1 h1 => thn h1 fun itv s2 h2 => ?_)) fun _ s9 q9 => wpAny_pure (wpAny_pure q9))
  obtain ⟨it, fp, tn, J, H2, rfl, I2, T, st2, f2, q⟩ := h2
  refine comp_block (RR := fun acc C => compPost (model X.prog X.w) X.A X.xe (some (assign (.Name y py) X.env)) (fun _ s' => SP X pins D' .next s') acc C) (QD := fun x H1 => gName k x σ H1 D'.nx) hc cn hg ht he I2 T st2 f2 q ?_
  intro D C H3 s3 m I3 ns hC hL h0 hcl hp q3
  show wpAny _ _ (assign (.Name y py) X.env (.ref D)) _ _ s3
  refine wpAny_assign_Name (store_ok2 I3 hN hk (.inl hl) (v := .ref D) rfl (fun s4 I4 ⟨a, sb4, ha⟩ => ?_) (.inr hl))
  have hCa : C ≠ a := by
    rcases ha with z | z
    · rw [z]; exact hL
    · exact fun q => hcl y a z q.symm
  refine ⟨m, ns.sameBut sb4 hCa, fun h' sb => ⟨_, H3, I4.turned (t' := s4.toks) (fun b o hb e => (sb.2 b hb).trans e) hC hL (.inr h0) hcl hp, q3⟩⟩
end
end L2
set_option Elab.async false
set_option linter.all false
set_option maxRecDepth 100000
set_option maxHeartbeats 4000000
namespace L2
open PySem PySem.Spec PyProof.Rows
section
variable {X : Cx} {pins : List (Addr × Obj)} {σ : St} {H : Hp} {s : Shared} {h' : Heap}
theorem Inv.turnedL {t' : Nat} {fp : List Addr} (I : Inv X pins σ H s) (k : ∀ b o, b ∉ fp → s.heap.get? b = some o → h'.get? b = some o) (hf : ∀ b ∈ fp, FpOk X pins H b) : Inv X pins σ H { s with heap := h', toks := t' } := by
  have nfp : ∀ b u, H b = some u → b ∉ fp := fun b u e z => by rw [(hf b z).1] at e; cases e
  refine I.step (g' := s.gens) (d' := s.drawn) (ch := fp) (fun b hb => ⟨(hf b hb).2.2.2.1, (hf b hb).2.1, (hf b hb).2.2.2.2.1, (hf b hb).2.2.2.2.2⟩) (fun b o _ _ hc e _ => k b o hc e) (fun b o _ _ hc e _ => ⟨o.slots, k b o hc e⟩) (fun _ _ _ _ n => n)
    (fun b o hc e => ⟨o, k b o hc e⟩) (fun _ _ e => e) (fun _ _ _ e => e) (fun b ps e => ⟨#[], by rw [e]; simp⟩) (fun m hm => ?_) (fun b u e => ?_) I.bare
  · obtain ⟨o, es, ep, ho, r⟩ := hm
    exact ⟨o, es, ep, k _ o (fun z => (hf _ z).2.1 rfl) ho, r⟩
  · refine (I.hok b u e).stay (fun c v hc q => k c v ?_ q) (fun _ q => q) fun _ _ q => q
    rcases hc with z | z
    · rw [z]; exact nfp b u e
    · exact nfp c _ z
theorem Inv.newTup {T : Addr} {xs : List V} {us : List Value} {n : Nat} (I : Inv X pins σ H s) {s0 : Shared} {H0 : Hp} {σ0 : St} (I0 : Inv X pins σ0 H0 s0) (hT : s0.heap.objs.size ≤ T) (hn : H T = none) (hv : Vals xs us) (hz : xs.length ≤ sizeLine)
    (ht : s.heap.get? T = some { cls := .type "tuple", data := .seq us.toArray n }) : Inv X pins σ (upd H T (.tup xs)) s := by
  refine I.track hn ?_ ?_ ?_ ?_ ⟨hz, us, hv, ⟨_, ht, rfl, n, rfl⟩⟩
  · exact Heap.get?_none_of_le (Nat.le_trans I0.sz hT)
  · exact Nat.ne_of_gt (Nat.lt_of_lt_of_le I0.lt hT)
  · intro x c e z
    obtain ⟨v, q⟩ := I0.cell x c e
    exact absurd (Nat.lt_of_lt_of_le q.lt (by rw [z]; exact hT)) (Nat.lt_irrefl _)
  · intro p hp z
    exact absurd (Nat.lt_of_lt_of_le (Heap.lt_size (I0.pin p hp).1) (by rw [z]; exact hT)) (Nat.lt_irrefl _)
end
section
variable {X : Cx}
end
section
variable {X : Cx}
end
end L2
set_option Elab.async false
set_option linter.all false
set_option maxRecDepth 100000
set_option maxHeartbeats 4000000
namespace L2
open PySem PySem.Spec PyProof.Rows
mutual
/-- the value v bears the datum d -/
def Rep (K : PySem.W.Frag) (H : Hp) : PyData → V → Prop
  | .none, v => v = .non
  | .bool b, v => v = .bl b
  | .int i, v => v = .int i
  | .str x, v => v = .str x
  | .list ds, v => ∃ a xs, v = .ref a ∧ SqL K H a xs ∧ RepL K H ds xs
  | .tuple ds, v => ∃ a xs, v = .ref a ∧ SqT K H a xs ∧ RepL K H ds xs
  | .dict _, _ => False
def RepL (K : PySem.W.Frag) (H : Hp) : List PyData → List V → Prop
  | [], xs => xs = []
  | d :: ds, xs => ∃ y ys, xs = y :: ys ∧ Rep K H d y ∧ RepL K H ds ys
end
section
variable {K : PySem.W.Frag} {H H' : Hp}
theorem RepL.nil : RepL K H [] [] := by unfold RepL; rfl
theorem RepL.cons {d : PyData} {ds : List PyData} {x : V} {xs : List V} (h : Rep K H d x) (t : RepL K H ds xs) : RepL K H (d :: ds) (x :: xs) := by
  unfold RepL
  exact ⟨x, xs, rfl, h, t⟩
theorem RepL.uncons {d : PyData} {ds : List PyData} {xs : List V} (h : RepL K H (d :: ds) xs) : ∃ y ys, xs = y :: ys ∧ Rep K H d y ∧ RepL K H ds ys := by
  unfold RepL at h
  exact h
theorem RepL.unnil {xs : List V} (h : RepL K H [] xs) : xs = [] := by
  unfold RepL at h
  exact h
theorem Rep.int {i : Int} : Rep K H (.int i) (.int i) := by unfold Rep; rfl
theorem Rep.str {x : Str} : Rep K H (.str x) (.str x) := by unfold Rep; rfl
theorem Rep.bool {b : Bool} : Rep K H (.bool b) (.bl b) := by unfold Rep; rfl
theorem Rep.none : Rep K H .none .non := by unfold Rep; rfl
theorem Rep.list {a : Addr} {xs : List V} {ds : List PyData} (h : SqL K H a xs) (r : RepL K H ds xs) : Rep K H (.list ds) (.ref a) := by unfold Rep; exact ⟨a, xs, rfl, h, r⟩
theorem Rep.tuple {a : Addr} {xs : List V} {ds : List PyData} (h : SqT K H a xs) (r : RepL K H ds xs) : Rep K H (.tuple ds) (.ref a) := by unfold Rep; exact ⟨a, xs, rfl, h, r⟩
theorem Rep.int_of {i : Int} {v : V} (h : Rep K H (.int i) v) : v = .int i := by unfold Rep at h; exact h
theorem Rep.str_of {x : Str} {v : V} (h : Rep K H (.str x) v) : v = .str x := by unfold Rep at h; exact h
theorem Rep.bool_of {b : Bool} {v : V} (h : Rep K H (.bool b) v) : v = .bl b := by unfold Rep at h; exact h
theorem Rep.none_of {v : V} (h : Rep K H .none v) : v = .non := by unfold Rep at h; exact h
theorem Rep.list_of {ds : List PyData} {v : V} (h : Rep K H (.list ds) v) : ∃ a xs, v = .ref a ∧ SqL K H a xs ∧ RepL K H ds xs := by unfold Rep at h; exact h
theorem Rep.tuple_of {ds : List PyData} {v : V} (h : Rep K H (.tuple ds) v) : ∃ a xs, v = .ref a ∧ SqT K H a xs ∧ RepL K H ds xs := by unfold Rep at h; exact h
theorem Same.seqT {a : Addr} {xs : List V} (e : Same H H') (h : SqT K H a xs) : SqT K H' a xs := by
  rcases h with (h | ⟨o, h⟩) | h
  · exact .inl (.inl (e _ _ h))
  · exact .inl (.inr ⟨o, e _ _ h⟩)
  · exact .inr h
mutual
theorem Rep.mono (e : Same H H') : ∀ {d : PyData} {v : V}, Rep K H d v → Rep K H' d v
  | .none, _, h => by rw [h.none_of]; exact Rep.none
  | .bool b, _, h => by rw [h.bool_of]; exact Rep.bool
  | .int i, _, h => by rw [h.int_of]; exact Rep.int
  | .str x, _, h => by rw [h.str_of]; exact Rep.str
  | .list ds, _, h => by
    obtain ⟨a, xs, rfl, q, r⟩ := h.list_of
    exact Rep.list (e.seq q) (RepL.mono e r)
  | .tuple ds, _, h => by
    obtain ⟨a, xs, rfl, q, r⟩ := h.tuple_of
    exact Rep.tuple (e.seqT q) (RepL.mono e r)
  | .dict _, _, h => by unfold Rep at h; exact h.elim
theorem RepL.mono (e : Same H H') : ∀ {ds : List PyData} {xs : List V}, RepL K H ds xs → RepL K H' ds xs
  | [], _, h => by rw [h.unnil]; exact RepL.nil
  | d :: ds, _, h => by
    obtain ⟨y, ys, rfl, r, t⟩ := h.uncons
    exact RepL.cons (Rep.mono e r) (RepL.mono e t)
end
theorem RepL.length : ∀ {ds : List PyData} {xs : List V}, RepL K H ds xs → ds.length = xs.length
  | [], _, h => by rw [h.unnil]; rfl
  | d :: ds, _, h => by
    obtain ⟨y, ys, rfl, r, t⟩ := h.uncons
    simp [RepL.length t]
theorem RepL.get : ∀ {ds : List PyData} {xs : List V} {i : Nat} {d : PyData}, RepL K H ds xs → ds[i]? = some d → ∃ x, xs[i]? = some x ∧ Rep K H d x
  | [], _, _, _, h, e => by simp at e
  | d :: ds, _, 0, _, h, e => by
    obtain ⟨y, ys, rfl, r, t⟩ := h.uncons
    simp at e
    subst e
    exact ⟨y, rfl, r⟩
  | d :: ds, _, i + 1, _, h, e => by
    obtain ⟨y, ys, rfl, r, t⟩ := h.uncons
    obtain ⟨x, q1, q2⟩ := RepL.get (i := i) t (by simpa using e)
    exact ⟨x, by simpa using q1, q2⟩
theorem RepL.append : ∀ {ds es : List PyData} {xs ys : List V}, RepL K H ds xs → RepL K H es ys → RepL K H (ds ++ es) (xs ++ ys)
  | [], _, _, _, h, t => by rw [h.unnil]; exact t
  | d :: ds, _, _, _, h, t => by
    obtain ⟨y, ys, rfl, r, t'⟩ := h.uncons
    exact RepL.cons r (RepL.append t' t)
theorem RepL.take : ∀ {ds : List PyData} {xs : List V} (n : Nat), RepL K H ds xs → RepL K H (ds.take n) (xs.take n)
  | _, _, 0, _ => by simp; exact RepL.nil
  | [], _, n + 1, h => by rw [h.unnil]; simp; exact RepL.nil
  | d :: ds, _, n + 1, h => by
    obtain ⟨y, ys, rfl, r, t⟩ := h.uncons
    simp only [List.take_succ_cons]
    exact RepL.cons r (RepL.take n t)
theorem RepL.drop : ∀ {ds : List PyData} {xs : List V} (n : Nat), RepL K H ds xs → RepL K H (ds.drop n) (xs.drop n)
  | _, _, 0, h => by simpa using h
  | [], _, n + 1, h => by rw [h.unnil]; simp; exact RepL.nil
  | d :: ds, _, n + 1, h => by
    obtain ⟨y, ys, rfl, r, t⟩ := h.uncons
    simp only [List.drop_succ_cons]
    exact RepL.drop n t
theorem RepL.reverse : ∀ {ds : List PyData} {xs : List V}, RepL K H ds xs → RepL K H ds.reverse xs.reverse
  | [], _, h => by rw [h.unnil]; simp; exact RepL.nil
  | d :: ds, _, h => by
    obtain ⟨y, ys, rfl, r, t⟩ := h.uncons
    simp only [List.reverse_cons]
    exact RepL.append (RepL.reverse t) (RepL.cons r RepL.nil)
theorem RepL.ints : ∀ (ns : List Int), RepL K H (ns.map .int) (ns.map .int)
  | [] => RepL.nil
  | n :: ns => RepL.cons Rep.int (RepL.ints ns)
theorem RepL.ints_of : ∀ {ns : List Int} {xs : List V}, RepL K H (ns.map .int) xs → xs = ns.map .int
  | [], _, h => h.unnil
  | n :: ns, _, h => by
    obtain ⟨y, ys, rfl, r, t⟩ := RepL.uncons h
    rw [r.int_of, RepL.ints_of t]
    rfl
end
section
variable {X : Cx} {pins : List (Addr × Obj)} {σ : St} {H : Hp} {s : Shared}
mutual
theorem Inv.reads (I : Inv X pins σ H s) : ∀ {d : PyData} {v : V} {u : Value}, Rep X.K H d v → RelV v u → ∃ as, Reads s.heap u d as
  | .none, _, _, h, r => by rw [h.none_of] at r; cases r; exact ⟨_, .none⟩
  | .bool b, _, _, h, r => by rw [h.bool_of] at r; cases r; exact ⟨_, .bool b⟩
  | .int i, _, _, h, r => by rw [h.int_of] at r; obtain ⟨t, rfl⟩ := r; exact ⟨_, .int i t⟩
  | .str x, _, _, h, r => by rw [h.str_of] at r; obtain ⟨t, rfl⟩ := r; exact ⟨_, .str x t⟩
  | .list ds, _, _, h, r => by
    obtain ⟨a, xs, rfl, q, t⟩ := h.list_of
    cases r
    obtain ⟨its, rv, ⟨o, n, e, c, _, d⟩, _⟩ := I.list q
    obtain ⟨as, ra⟩ := I.readsAll t rv
    exact ⟨_, .list e c d (by simpa using ra)⟩
  | .tuple ds, _, _, h, r => by
    obtain ⟨a, xs, rfl, q, t⟩ := h.tuple_of
    cases r
    obtain ⟨its, rv, ⟨o, e, c, n, d⟩, _⟩ := I.tuple q
    obtain ⟨as, ra⟩ := I.readsAll t rv
    exact ⟨_, .tuple e c d (by simpa using ra)⟩
  | .dict _, _, _, h, _ => by unfold Rep at h; exact h.elim
theorem Inv.readsAll (I : Inv X pins σ H s) : ∀ {ds : List PyData} {xs : List V} {us : List Value}, RepL X.K H ds xs → Vals xs us → ∃ as, ReadsAll s.heap us ds as
  | [], _, _, h, r => by rw [h.unnil] at r; cases r; exact ⟨_, .nil⟩
  | d :: ds, _, _, h, r => by
    obtain ⟨y, ys, rfl, p, t⟩ := h.uncons
    cases r with
    | cons r1 r2 =>
      obtain ⟨as, ra⟩ := I.reads p r1
      obtain ⟨bs, rb⟩ := I.readsAll t r2
      exact ⟨_, .cons ra rb⟩
end
def rEqD (K : PySem.W.Frag) (neg : Bool) : R2 := fun x y H Q => ∃ d e, Rep K H d x ∧ Rep K H e y ∧ d.canLay0 = true ∧ e.canLay0 = true ∧ min d.depth e.depth ≤ 60 ∧ Q (.bl (if neg then !PyData.eqv d e else PyData.eqv d e)) H
theorem op_eqD (hu : X.A.units + 64 < cLine) : OpR X (compareOp .Eq) (rEqD X.K false) := by
  intro pins s σ H x y v u Q I rx ry h
  obtain ⟨d, e, hd, he, c1, c2, hm, q⟩ := h
  obtain ⟨as, ra⟩ := I.reads hd rx
  obtain ⟨bs, rb⟩ := I.reads he ry
  exact SeqAt.compareEq_reads ra rb c1 c2 (by omega) ⟨.bl _, H, I, rfl, q⟩
theorem op_neD (hu : X.A.units + 64 < cLine) : OpR X (compareOp .NotEq) (rEqD X.K true) := by
  intro pins s σ H x y v u Q I rx ry h
  obtain ⟨d, e, hd, he, c1, c2, hm, q⟩ := h
  obtain ⟨as, ra⟩ := I.reads hd rx
  obtain ⟨bs, rb⟩ := I.reads he ry
  exact SeqAt.compareNe_reads ra rb c1 c2 (by omega) ⟨.bl _, H, I, rfl, q⟩
def clsV : V → Option Value
  | .ty n => some (.type n)
  | .ref C => some (.ref C)
  | _ => Option.none
theorem call_isinst : CallR X (.builtin "isinstance") (fun xs H Q => ∃ x c t cv b, xs = [x, c] ∧ clsV c = some cv ∧ TyOf X.K H x t ∧ PySem.W.kitOne X.K t cv = some b ∧ Q (.bl b) H) := by
  intro pins s σ H xs us Q I r h
  obtain ⟨x, c, t, cv, b, rfl, hc, ty, hk, q⟩ := h
  obtain ⟨u, u', rfl, ru, ru'⟩ := vals2 r
  have e : u' = cv := by
    cases c with
    | ty n => cases ru'; cases hc; rfl
    | ref C => cases ru'; cases hc; rfl
    | _ => cases hc
  subst e
  exact isinst_ok I ru ty hk fun tk => ⟨.bl b, H, I.tok tk, rfl, q⟩
theorem log2_small {n : Nat} (h : n < 10 ^ 20) : n.log2 < 1920 := by
  by_cases h0 : n = 0
  · subst h0; decide
  · rw [Nat.log2_lt h0]
    exact Nat.lt_of_lt_of_le h (Nat.le_trans (by decide : 10 ^ 20 ≤ 2 ^ 67) (Nat.pow_le_pow_right (by decide) (by decide)))
def PStr (X : Cx) (e : Expr) (pre : St → Hp → Prop) (n : Nat) : Prop :=
  ∀ (pins : List (Addr × Obj)) (s : Shared) (σ : St) (H : Hp), Inv X pins σ H s → pre σ H → wpAny (model X.prog X.w) X.A (eval e X.env) (fun u s' => ∃ x t, u = .str x t ∧ x.length ≤ n ∧ Inv X pins σ H s') X.xe s
theorem pstr_const {x : Str} {j : Nat} {pos : Pos} : PStr X (.Constant (.str x) j pos) (fun _ _ => True) x.length :=
  fun _ _ _ _ I _ => Calls.Constant_str ⟨x, _, rfl, Nat.le_refl _, I.tok _⟩
theorem pstr_int (i : Nat) {x : Str} {p pos : Pos} (hN : X.N[i]? = some x := by rfl) (hv : Vis X.env.scope x := by first | exact Or.inl rfl | exact Or.inr (Or.inl rfl) | exact Or.inr (Or.inr rfl)) (hd : (x == ("__debug__" : Str)) = false := by decide)
    (hcd : (x == ("__classdict__" : Str)) = false := by decide) : PStr X (.FormattedValue (.Name x p) (-1) none pos) (fun σ _ => ∃ k : Int, σ[i]? = some (some (.int k)) ∧ k.natAbs < 10 ^ 20) 21 := by
  intro pins s σ H I h
  obtain ⟨k, e1, hk⟩ := h
  refine wpAny_FormattedValue_plain (thn ((pe_var hN hv hd hcd) pins s σ H (fun v H1 => v = .int k ∧ H1 = H) I ⟨_, e1, rfl, rfl⟩) fun u s1 ⟨v, H1, I1, r1, e2, e3⟩ => ?_)
  subst e2 e3
  obtain ⟨t, rfl⟩ := r1
  have hl := int_text_length_le10 (k := 20) (by decide) hk
  refine wpAny_formatField_int (log2_small hk) ⟨_, _, rfl, ?_, I1.tok _⟩
  rw [PySem.ofString_length]
  exact hl
theorem pstr_strr (i : Nat) {x : Str} {p pos : Pos} (hN : X.N[i]? = some x := by rfl) (hv : Vis X.env.scope x := by first | exact Or.inl rfl | exact Or.inr (Or.inl rfl) | exact Or.inr (Or.inr rfl)) (hd : (x == ("__debug__" : Str)) = false := by decide)
    (hcd : (x == ("__classdict__" : Str)) = false := by decide) : PStr X (.FormattedValue (.Name x p) 114 none pos) (fun σ _ => ∃ y : Str, σ[i]? = some (some (.str y)) ∧ y.length ≤ 1000 ∧ ∀ c ∈ y.cps.toList, c < 16 ^ 8) 10002 := by
  intro pins s σ H I h
  obtain ⟨y, e1, hy, hc⟩ := h
  refine wpAny_FormattedValue_repr (thn ((pe_var hN hv hd hcd) pins s σ H (fun v H1 => v = .str y ∧ H1 = H) I ⟨_, e1, rfl, rfl⟩) fun u s1 ⟨v, H1, I1, r1, e2, e3⟩ => ?_)
  subst e2 e3
  obtain ⟨t, rfl⟩ := r1
  have hl := PySem.StrLaws.reprText_len y hc
  have hz : (reprText y).length ≤ 10002 := by omega
  refine pyReprObj_str (wpAny_formatField_str ⟨_, _, rfl, hz, I1.tok _⟩ ⟨_, _, rfl, hz, (I1.tok _).tok _⟩ (by rw [sizeLine_eq]; omega)) (by rw [sizeLine_eq]; omega)
theorem tupleText_le (ts : List Str) : (tupleText ts).length ≤ piled ts + 3 := by
  unfold tupleText
  rw [strLen_append, strLen_append]
  have e1 : ((("(" : String) : Str)).length = 1 := rfl
  have e3 : (((if ts.length == 1 then ",)" else ")" : String) : Str)).length ≤ 2 := by split <;> decide
  rw [e1]
  by_cases h : ts = []
  · subst h
    have e2 : (Str.join ", " ([] : List Str)).length = 0 := rfl
    rw [e2]
    omega
  · have := join_length_add ts h
    omega
theorem ints_shown : ∀ (ns : List Int), (∀ k ∈ ns, k.natAbs < 10 ^ 20) → piled (PyData.shownAll (ns.map .int)) ≤ 23 * ns.length ∧ PyData.showableAll (ns.map .int) = true ∧ PyData.hasDictAll (ns.map .int) = false ∧ PyData.depthAll (ns.map .int) = 0
  | [], _ => ⟨Nat.le_refl _, rfl, rfl, rfl⟩
  | k :: ns, h => by
    obtain ⟨h1, h2, h3, h4⟩ := ints_shown ns fun j hj => h j (List.mem_cons_of_mem _ hj)
    have hk := h k List.mem_cons_self
    have hl := int_text_length_le10 (k := 20) (by decide) hk
    have hz : (Str.ofString (toString k)).length ≤ 21 := by rw [PySem.ofString_length]; exact hl
    refine ⟨?_, ?_, ?_, ?_⟩
    · show piled ((Str.ofString (toString k)) :: PyData.shownAll (ns.map .int)) ≤ _
      rw [piled_cons, List.length_cons]
      omega
    · show (PyData.showable (.int k) && PyData.showableAll (ns.map .int)) = true
      rw [h2, Bool.and_true]
      unfold PyData.showable
      exact decide_eq_true (log2_small hk)
    · show (PyData.hasDict (.int k) || PyData.hasDictAll (ns.map .int)) = false
      rw [h3]
      rfl
    · show max (PyData.depth (.int k)) (PyData.depthAll (ns.map .int)) = 0
      rw [h4]
      rfl
theorem pstr_tupr {kr : Nat} (hr : Room kr X.A) (i : Nat) {x : Str} {p pos : Pos} (hN : X.N[i]? = some x := by rfl) (hv : Vis X.env.scope x := by first | exact Or.inl rfl | exact Or.inr (Or.inl rfl) | exact Or.inr (Or.inr rfl)) (hd : (x == ("__debug__" : Str)) = false := by decide)
    (hcd : (x == ("__classdict__" : Str)) = false := by decide) : PStr X (.FormattedValue (.Name x p) 114 none pos) (fun σ H => ∃ (a : Addr) (ns : List Int), σ[i]? = some (some (.ref a)) ∧ SqT X.K H a (ns.map .int) ∧ ns.length ≤ 100 ∧ ∀ k ∈ ns, k.natAbs < 10 ^ 20) 2303 := by
  intro pins s σ H I h
  obtain ⟨a, ns, e1, hq, hl, hk⟩ := h
  refine wpAny_FormattedValue_repr (thn ((pe_var hN hv hd hcd) pins s σ H (fun v H1 => v = .ref a ∧ H1 = H) I ⟨_, e1, rfl, rfl⟩) fun u s1 ⟨v, H1, I1, r1, e2, e3⟩ => ?_)
  subst e2 e3
  obtain ⟨as, ra⟩ := I1.reads (Rep.tuple hq (RepL.ints ns)) r1
  cases r1
  obtain ⟨h1, h2, h3, h4⟩ := ints_shown ns hk
  have hz : (PyData.shown (.tuple (ns.map .int))).length ≤ 2303 := by
    have := tupleText_le (PyData.shownAll (ns.map .int))
    show (tupleText (PyData.shownAll (ns.map .int))).length ≤ 2303
    omega
  have hu := hr.un
  refine pyReprObj_of_reads ra h2 (fun z => by have z' : PyData.hasDictAll (ns.map .int) = true := z; rw [h3] at z'; cases z') hr.gd (by show X.A.units + (PyData.depthAll (ns.map .int) + 1) < cLine; rw [h4]; omega) (fun _ _ e => e) (fun h' u tk kk => ?_) (by rw [sizeLine_eq]; omega)
  have I2 : Inv X pins σ _ { s1 with heap := h', toks := tk } := I1.kept kk
  exact wpAny_formatField_str ⟨_, _, rfl, hz, I2⟩ ⟨_, _, rfl, hz, I2.tok _⟩ (by rw [sizeLine_eq]; omega)
theorem pstr_g {x : Str} {k : Int} {p pos : Pos} (h : PE X (.Name x p) (tC (.int k))) (hk : k.natAbs < 10 ^ 20) : PStr X (.FormattedValue (.Name x p) (-1) none pos) (fun _ _ => True) 21 := by
  intro pins s σ H I _
  refine wpAny_FormattedValue_plain (thn (h pins s σ H (fun v H1 => v = .int k ∧ H1 = H) I ⟨rfl, rfl⟩) fun u s1 ⟨v, H1, I1, r1, e2, e3⟩ => ?_)
  subst e2 e3
  obtain ⟨t, rfl⟩ := r1
  have hl := int_text_length_le10 (k := 20) (by decide) hk
  refine wpAny_formatField_int (log2_small hk) ⟨_, _, rfl, ?_, I1.tok _⟩
  rw [PySem.ofString_length]
  exact hl
def PStrs (X : Cx) (es : List Expr) (pre : St → Hp → Prop) (n : Nat) : Prop :=
  ∀ (pins : List (Addr × Obj)) (s : Shared) (σ : St) (H : Hp) (acc : Str) (Q : Str → Shared → Prop), Inv X pins σ H s → pre σ H → acc.length + n ≤ sizeLine → (∀ out s1, out.length ≤ acc.length + n → Inv X pins σ H s1 → Q out s1) →
    Joins (model X.prog X.w) X.A X.xe (evalEach es X.env) acc Q s
theorem pstrs_nil : PStrs X [] (fun _ _ => True) 0 := fun _ s _ _ acc _ I _ _ q => q acc s (Nat.le_add_right _ _) I
theorem pstrs_cons {e : Expr} {es : List Expr} {p q : St → Hp → Prop} {n m : Nat} (h : PStr X e p n) (t : PStrs X es q m) (hs : evalEach (e :: es) X.env = eval e X.env :: evalEach es X.env := by rfl) : PStrs X (e :: es) (fun σ H => p σ H ∧ q σ H) (n + m) := by
  intro pins s σ H acc Q I hp hz hQ
  rw [hs]
  refine thn (h pins s σ H I hp.1) fun u s1 ⟨x, t1, e1, hx, I1⟩ => ⟨x, t1, e1, by rw [strLen_append]; omega, ?_⟩
  exact t pins s1 σ H (acc ++ x) Q I1 hp.2 (by rw [strLen_append]; omega) fun out s2 ho I2 => hQ out s2 (by rw [strLen_append] at ho; omega) I2
theorem pe_fstr {v1 v2 : Expr} {rest : List Expr} {pre : St → Hp → Prop} {n : Nat} {pos : Pos} (h : PStrs X (v1 :: v2 :: rest) pre n) : PE X (.JoinedStr (v1 :: v2 :: rest) pos) (fun σ H Q => pre σ H ∧ n ≤ sizeLine ∧ ∀ x : Str, x.length ≤ n → Q (.str x) H) := by
  intro pins s σ H Q I hw
  obtain ⟨hp, hz, hq⟩ := hw
  have e0 : (Str.empty : Str).length = 0 := rfl
  refine wpAny_JoinedStr (h pins s σ H Str.empty _ I hp (by rw [e0]; omega) fun out s1 ho I1 => ?_)
  rw [e0] at ho
  exact ⟨by omega, .str out, H, I1.tok _, ⟨_, rfl⟩, hq out (by omega)⟩
end
end L2
set_option Elab.async false
set_option linter.all false
set_option maxRecDepth 100000
set_option maxHeartbeats 4000000
namespace L2
open PySem PySem.Spec PyProof.Rows
section
variable {prog : Program} {w : World} {A : Around} {I : Addr} {fp wr : List Addr} {n : Nat} {P : Nat → Value → Prop} {St : Nat → Heap → Prop}
end
section
variable {prog : Program} {w : World} {A : Around} {E : Value → Shared → Prop} {s : Shared}
end
section
variable {X : Cx}
def IsMax (d : Int) (ns : List Int) (M : Int) : Prop := (ns = [] ∧ M = d) ∨ (M ∈ ns ∧ ∀ a ∈ ns, a ≤ M)
theorem IsMax.uniq {d : Int} {ns : List Int} {M M' : Int} (h : IsMax d ns M) (h' : IsMax d ns M') : M = M' := by
  rcases h with ⟨e, h⟩ | ⟨h1, h2⟩
  · rcases h' with ⟨_, h'⟩ | ⟨h1', _⟩
    · rw [h, h']
    · rw [e] at h1'; cases h1'
  · rcases h' with ⟨e, _⟩ | ⟨h1', h2'⟩
    · rw [e] at h1; cases h1
    · exact Int.le_antisymm (h2' _ h1) (h2 _ h1')
theorem items_ints {its : List Value} {ns : List Int} (hi : IntsAre its ns) : ∃ xs : Array (Int × Tok), its.toArray = intItems xs ∧ ns = xs.toList.map (·.1) := by
  obtain ⟨xs, e⟩ := hi.allInts.items
  refine ⟨xs, e, ?_⟩
  rw [← hi.numsOf, ← nums_intItems, ← e]
theorem call_sum (hc : X.calm = true) : CallR X (.builtin "sum") (fun xs H Q => ∃ (p : Addr) (ns : List Int), xs = [.ref p] ∧ SqL X.K H p (ns.map .int) ∧ Q (.int ns.sum) H) := by
  intro pins s σ H xs us Q I r h
  obtain ⟨p, ns, rfl, hq, q⟩ := h
  obtain ⟨u, rfl, ru⟩ := vals1 r
  cases ru
  obtain ⟨its, rv, pl, hz⟩ := I.list hq
  obtain ⟨ys, e, hns⟩ := items_ints (intsAre_of rv)
  refine sum_intListG (I.ok.hd hc) (by rw [← e]; exact pl.isList) fun h1 tk t1 kk => ⟨.int ns.sum, H, I.kept kk, ⟨t1, ?_⟩, q⟩
  rw [preSum_eq, List.take_of_length_le (by simp), hns]
theorem numAt_ns {ys : Array (Int × Tok)} {ns : List Int} (hns : ns = ys.toList.map (·.1)) (hs : 0 < ys.size) : numAt ys (argBest (fun i j => decide (numAt ys i > numAt ys j)) (ys.size - 1)) ∈ ns ∧
    ∀ a ∈ ns, a ≤ numAt ys (argBest (fun i j => decide (numAt ys i > numAt ys j)) (ys.size - 1)) := by
  obtain ⟨h1, h2⟩ := argBest_gt (numAt ys) (ys.size - 1)
  constructor
  · rw [hns, numAt_eq]
    exact getD_mem (by rw [List.length_map, Array.length_toList]; omega)
  · intro a ha
    rw [hns] at ha
    obtain ⟨j, hj, rfl⟩ := mem_getD ha
    rw [List.length_map, Array.length_toList] at hj
    rw [← numAt_eq]
    exact h2 j (by omega)
theorem call_maxL (hc : X.calm = true) : CallR X (.builtin "max") (fun xs H Q => ∃ (p : Addr) (ns : List Int), xs = [.ref p] ∧ SqL X.K H p (ns.map .int) ∧ ns ≠ [] ∧ ∀ M, IsMax 0 ns M → Q (.int M) H) := by
  intro pins s σ H xs us Q I r h
  obtain ⟨p, ns, rfl, hq, hne, q⟩ := h
  obtain ⟨u, rfl, ru⟩ := vals1 r
  cases ru
  obtain ⟨its, rv, pl, hz⟩ := I.list hq
  obtain ⟨ys, e, hns⟩ := items_ints (intsAre_of rv)
  have hs : 0 < ys.size := by
    have : 0 < ns.length := List.length_pos_iff.mpr hne
    rw [hns, List.length_map, Array.length_toList] at this
    exact this
  refine max_intList (I.ok.hd hc) (by rw [← e]; exact pl.isList) hs fun v h1 tk hv kk => ?_
  obtain ⟨t, rfl⟩ := intItems_at hv
  exact ⟨.int _, H, I.kept kk, ⟨t, rfl⟩, q _ (.inr (numAt_ns hns hs))⟩
theorem call_sorted : CallR X (.builtin "sorted") (fun xs H Q => ∃ (p : Addr) (ns : List Int), xs = [.ref p] ∧ SqL X.K H p (ns.map .int) ∧ ns.length < 64 ∧ ∀ (l : Addr) (ms : List Int), H l = none → ms.Perm ns → ms.Pairwise (· ≤ ·) → Q (.ref l) (upd H l (.lst (ms.map .int)))) := by
  intro pins s σ H xs us Q I r h
  obtain ⟨p, ns, rfl, hq, h64, q⟩ := h
  obtain ⟨u, rfl, ru⟩ := vals1 r
  cases ru
  obtain ⟨its, rv, pl, hz⟩ := I.list hq
  have hl := rv.length
  rw [List.length_map] at hl
  refine sorted_ints pl.isList (intsAre_of rv) (by omega) fun out ms hi hp hs => ?_
  obtain ⟨e, he⟩ := sortedAll_at s.heap its out
  have fr : H (s.heap.objs.size + 1) = none := I.hok.fresh (Nat.le_succ _)
  refine ⟨.ref (s.heap.objs.size + 1), upd H (s.heap.objs.size + 1) (.lst (ms.map .int)), I.laid (t' := s.toks) (fun b o q => sortedAll_old q) (Nat.le_succ _) ⟨?_, out.toList, e, vals_ints hi, by simpa using he⟩, rfl, q _ ms fr hp hs⟩
  have := hp.length_eq
  rw [List.length_map, sizeLine_eq]
  omega
theorem vals_find {y : V} : ∀ {xs : List V} {us : List Value} {j : Nat}, Vals xs us → xs.all flatV = true → xs.findIdx? (fun z => eqV z y) = some j →
    ∃ hj : j < us.length, eqU y us[j] = true ∧ ∀ m (hm : m < us.length), m < j → eqU y us[m] = false
  | _, _, _, .nil, _, e => by simp at e
  | x :: xs, u :: us, j, .cons r t, f, e => by
    rw [List.all_cons, Bool.and_eq_true] at f
    rw [List.findIdx?_cons] at e
    by_cases hx : eqV x y = true
    · rw [if_pos hx] at e
      cases e
      exact ⟨by simp, by simpa [eqU_of r f.1] using hx, fun m hm hlt => absurd hlt (Nat.not_lt_zero _)⟩
    · rw [if_neg hx] at e
      cases q : xs.findIdx? (fun z => eqV z y) with
      | none => rw [q] at e; cases e
      | some i =>
        rw [q] at e
        have e' : i + 1 = j := Option.some.inj e
        subst e'
        obtain ⟨h1, h2, h3⟩ := vals_find t f.2 q
        refine ⟨by simpa using h1, by simpa using h2, fun m hm hlt => ?_⟩
        cases m with
        | zero => simpa [eqU_of r f.1] using hx
        | succ m => simpa using h3 m (by simpa using hm) (by omega)
theorem vals_count {y : V} : ∀ {xs : List V} {us : List Value}, Vals xs us → xs.all flatV = true → us.countP (eqU y) = xs.countP fun z => eqV z y
  | _, _, .nil, _ => rfl
  | x :: xs, u :: us, .cons r t, f => by
    rw [List.all_cons, Bool.and_eq_true] at f
    rw [List.countP_cons, List.countP_cons, eqU_of r f.1, vals_count t f.2]
def rIndex (K : PySem.W.Frag) : V → List V → Hp → VK → Prop := fun x vs H Q => ∃ l xs y j, x = .ref l ∧ vs = [y] ∧ SqL K H l xs ∧ xs.all flatV = true ∧ flatV y = true ∧ xs.findIdx? (fun z => eqV z y) = some j ∧ Q (.int (j : Nat)) H
theorem mt_index : MtR X "list.index" (rIndex X.K) := by
  intro pins s σ H x vs v us Q I rx rv h
  obtain ⟨l, xs, y, j, rfl, rfl, hq, fx, fy, hj, q⟩ := h
  cases rx
  obtain ⟨u, rfl, ru⟩ := vals1 rv
  obtain ⟨its, r, ⟨o, n, e, c, dn, d⟩, hz⟩ := I.list hq
  obtain ⟨h1, h2, h3⟩ := vals_find r fx hj
  obtain ⟨oc, od, odt, osl⟩ := o
  have c' : oc = .type "list" := c
  have d' : odt = .seq its.toArray n := d
  subst c' d'
  have hl := r.length
  refine call_meets PySem.F.slot_list_index ⟨_, e, rfl⟩ PySem.F.entry_list_index (PySem.F.args_list_index_2 _ _) (SeqAt.list_indexAt l its.toArray n od osl u (eqU y) j (by simpa using h1) (by rw [sizeLine_eq] at hz; omega) (by simpa using h2) (fun m hm hlt => by simpa using h3 m (by simpa using hm) hlt))
    ⟨e, fun w hw => mem_eqAt ru fy r fx w (by simpa using hw), ⟨.int (j : Nat), H, I.tok _, ⟨_, rfl⟩, q⟩⟩
def rCount (K : PySem.W.Frag) : V → List V → Hp → VK → Prop := fun x vs H Q => ∃ l xs y, x = .ref l ∧ vs = [y] ∧ SqL K H l xs ∧ xs.all flatV = true ∧ flatV y = true ∧ Q (.int (xs.countP fun z => eqV z y : Nat)) H
theorem mt_count : MtR X "list.count" (rCount X.K) := by
  intro pins s σ H x vs v us Q I rx rv h
  obtain ⟨l, xs, y, rfl, rfl, hq, fx, fy, q⟩ := h
  cases rx
  obtain ⟨u, rfl, ru⟩ := vals1 rv
  obtain ⟨its, r, ⟨o, n, e, c, dn, d⟩, hz⟩ := I.list hq
  obtain ⟨oc, od, odt, osl⟩ := o
  have c' : oc = .type "list" := c
  have d' : odt = .seq its.toArray n := d
  subst c' d'
  refine call_meets PySem.F.slot_list_count ⟨_, e, rfl⟩ PySem.F.entry_list_count (PySem.F.args_list_count_2 _ _) (SeqAt.list_countAt l its.toArray n od osl u (eqU y))
    ⟨e, fun w hw => mem_eqAt ru fy r fx w (by simpa using hw), ⟨.int _, H, I.tok _, ⟨s.toks, ?_⟩, q⟩⟩
  rw [show its.toArray.toList = its from rfl, vals_count r fx]
def rGetL (K : PySem.W.Frag) : R2 := fun x y H Q => ∃ p xs k v, x = .ref p ∧ y = .int (k : Nat) ∧ SqL K H p xs ∧ xs[k]? = some v ∧ Q v H
theorem get_list : PGet X (rGetL X.K) := by
  intro pins s σ H o i ov iv Q I ro ri h
  obtain ⟨p, xs, k, v, rfl, rfl, hq, he, q⟩ := h
  cases ro
  obtain ⟨t, rfl⟩ := ri
  obtain ⟨its, r, pl, hz⟩ := I.list hq
  obtain ⟨u, hu, ru⟩ := r.get he
  have hk := (List.getElem?_eq_some_iff.mp he).1
  rw [sizeLine_eq] at hz
  exact wpAny_getItem_list pl.isList (by omega) (by omega) (by simpa using hu) ⟨v, H, I, ru, q⟩
end
end L2
set_option Elab.async false
set_option linter.all false
set_option maxRecDepth 100000
set_option maxHeartbeats 4000000
namespace L2
open PySem PySem.Spec PyProof.Rows PySem.W PySem.Builtin.Getset_descriptor
section
variable {prog : Program} {w : World} {A : Around} {R : Result → Shared → Prop} {E : Value → Shared → Prop} {s : Shared} {K : Frag} {x C : Addr} {oe : Obj}
theorem exc_type {M : Model} {h : Heap} (hx : h.get? x = some oe) (hc : oe.cls = .ref C) : Looks M h (typeOf (.ref x)) (.ref C) := hc ▸ (Looks.ld hx).andThen .now
theorem exc_get {tp : Value} (X : K.In s.heap) (hx : s.heap.get? x = some oe) (hc : oe.cls = .ref C) (hm : mroIn K C (.type "object") = some true)
    (h : R (.ok (.ret (.ref C))) s) : codeAny (model prog w) A (.call (.builtin "getset_descriptor.__get__") ⟨[.builtin "object.__class__", .ref x, tp], []⟩) R s := by
  obtain ⟨hh, g, dr, t, os⟩ := s
  have L0 := exc_type (M := model prog w) hx hc
  have L1 := looks_mroIn (M := model prog w) X hm
  refine codeAny_call_builtin KF.slot_gs.plain KF.entry_gs ?_
  refine KF.slot_gs.check _ _ _ _ _ _ _ _ KF.type_class (KF.args_gs _ _ _) ?_
  unfold Builtin.«getset_descriptor.__get__» descrGet
  rw [dga_obj]
  refine wpAny_bind (wpAny_pure ?_)
  unfold descrGetter descrCheckInstance descrNameAndClass isInstance
  simp only [KF.owner_class]
  repeat lk
  refine ⟨Code.quiet_builtin _ (by decide +kernel), codeAny_builtin KF.entry_class ?_⟩
  unfold Builtin.«object.__class__» shownTypeOf
  repeat lk
  exact h
structure ExcLook (K : Frag) (C : Addr) : Prop where
  ga : findIn K (.ref C) "__getattribute__" = some (some (.builtin "BaseException.__getattribute__"))
  gt : findIn K (.ref C) "__getattr__" = some none
  cl : findIn K (.ref C) "__class__" = some (some (.builtin "object.__class__"))
  mo : mroIn K C (.type "object") = some true
  mb : mroIn K C (.type "BaseException") = some true
  is : ∃ cd, clsIn K C = some cd
theorem exc_entry {tk : Tok} {Q : Fin → Shared → Prop} (X : K.In s.heap) (L : ExcLook K C) (hx : s.heap.get? x = some oe) (hc : oe.cls = .ref C) (hq : Q (.done (.ret (.ref C))) s) :
    wpAny (model prog w) A (Builtin.«object.__getattribute__» ⟨[.ref x, .str "__class__" tk], []⟩) Q E s := by
  obtain ⟨hh, g, d, t, os⟩ := s
  have hT5 : (⟨hh, g, d, t, os⟩ : Shared).TypeIs (.builtin "object.__class__") "getset_descriptor" := F.typeOf_object_class
  have f5 := F.typeOf_object_class
  have f6 := F.slot_gs_get.lookup
  have f7 := F.slot_gs_set.lookup
  have L0 := exc_type (M := model prog w) hx hc
  have L1 := looks_findIn (M := model prog w) X L.cl
  repeat (any_goals (first | assumption | with_reducible refine L0.at ?_ | with_reducible refine L1.at ?_ | (with_reducible refine wpAny_loadPart_at hx ?_; rw [hc]) | wp_step))
  refine exc_get X hx hc L.mo ?_
  repeat (any_goals (first | assumption | wp_step))
theorem exc_check {M : Model} {nameV : Value} {Q : Unit → Shared → Prop} (X : K.In s.heap) (L : ExcLook K C) (hx : s.heap.get? x = some oe) (hc : oe.cls = .ref C) (hq : Q () s) :
    wpAny M A (checkBuiltinCall "BaseException.__getattribute__" ⟨[.ref x, nameV], []⟩) Q E s := by
  obtain ⟨hh, g, d, t, os⟩ := s
  have hk : builtinKind "BaseException.__getattribute__" = some .slot := by decide +kernel
  have hs : splitId "BaseException.__getattribute__" = some ("BaseException", "__getattribute__") := by decide +kernel
  have ha := F.args_bexc_ga (.ref x) nameV
  have L0 := exc_type (M := M) hx hc
  have L2 := looks_mroIn (M := M) X L.mb
  unfold checkBuiltinCall
  simp only [hk, hs]
  refine wpAny_bind ?_
  unfold isInstance
  refine wpAny_bind (L0.at (L2.at ?_))
  repeat (any_goals (first | assumption | wp_step))
theorem exc_attr {Q : Option Value → Shared → Prop} (X : K.In s.heap) (L : ExcLook K C) (hx : s.heap.get? x = some oe) (hc : oe.cls = .ref C) (hq : Q (some (.ref C)) { s with toks := s.toks + 1 }) :
    wpAny (model prog w) A (getAttr? (.ref x) "__class__") Q E s := by
  obtain ⟨hh, g, d, t, os⟩ := s
  have FB := F.excAttr_ValueError
  have f3 := FB.ga.bind (.ref x)
  have hx2 : (Value.builtin "BaseException.__getattribute__" == Value.builtin "object.__getattribute__") = false := by decide +kernel
  have hx1 : (onTheHeap (Value.ref C) && Value.builtin "BaseException.__getattribute__" == Value.builtin "object.__getattribute__") = false := by rw [hx2]; rfl
  have L0 := exc_type (M := model prog w) hx hc
  have L1 := looks_findIn (M := model prog w) X L.ga
  have L2 := looks_findIn (M := model prog w) X L.gt
  unfold getAttr? getAttrBy? getAttrBy
  repeat (any_goals (first | assumption | with_reducible refine L0.at ?_ | with_reducible refine L1.at ?_ | with_reducible refine L2.at ?_ | wp_step))
  refine codeAny_call_builtin FB.ga.plain F.entry_bexc_ga (exc_check X L hx hc (exc_entry X L hx hc ?_))
  repeat (any_goals (first | assumption | wp_step))
theorem kitx_exc (L : ExcLook K C) : KitX K (.ref x) (.ref C) (fun h => ∃ oe : Obj, h.get? x = some oe ∧ oe.cls = .ref C) where
  ty := fun _ _ _ ⟨_, h1, h2⟩ => exc_type h1 h2
  it := fun _ _ X _ => by
    obtain ⟨cd, e⟩ := L.is
    unfold clsIn at e
    split at e
    · rename_i c' d' cd' sl' ho
      intro A' Q' E' s' k q
      unfold isType loadHead
      exact wpAny_bind (wpAny_loadPart (k _ _ (X _ _ ho)) (wpAny_pure q))
    · cases e
  ne := fun h tp dd its n sl X htp => by
    obtain ⟨cd, hcl⟩ := L.is
    refine Bool.eq_false_iff.mpr fun q => ?_
    have e : C = tp := Value.ref.inj (beq_iff_eq.mp q)
    subst e
    unfold clsIn at hcl
    split at hcl
    · rename_i ho
      have z := (X _ _ ho).symm.trans htp
      cases z
    · cases hcl
  ca := fun X ⟨_, h1, h2⟩ k => exc_attr X L h1 h2 k
end
section
variable {X : Cx}
theorem call_isinstX : CallR X (.builtin "isinstance") (fun xs H Q => ∃ a C c cv b, xs = [.ref a, c] ∧ clsV c = some cv ∧ H a = some (excO a C) ∧ ExcLook X.K C ∧ kitOne X.K (.ref C) cv = some b ∧ Q (.bl b) H) := by
  intro pins s σ H xs us Q I r h
  obtain ⟨a, C, c, cv, b, rfl, hc, hH, L, hk, q⟩ := h
  obtain ⟨u, u', rfl, ru, ru'⟩ := vals2 r
  have e : u' = cv := by
    cases c with
    | ty n => cases ru'; cases hc; rfl
    | ref C => cases ru'; cases hc; rfl
    | _ => cases hc
  subst e
  cases ru
  obtain ⟨⟨oe, vs, h1, h2, _⟩, _⟩ := (show ObjOk X.prog X.w H s.heap a (excO a C) from I.hok a _ hH)
  exact kia_one (kitx_exc L) I.kIn ⟨oe, h1, h2⟩ hk (fun z => nomatch z) fun tk => ⟨.bl b, H, I.tok tk, rfl, q⟩
end
end L2
set_option Elab.async false
set_option linter.all false
set_option maxRecDepth 100000
set_option maxHeartbeats 4000000
namespace L2
open PySem PySem.Spec PyProof.Rows
mutual
/-- the value v bears the datum d -/
def Dat (H : Hp) : PyData → V → Prop
  | .none, v => v = .non
  | .bool b, v => v = .bl b
  | .int i, v => v = .int i
  | .str x, v => v = .str x
  | .list ds, v => ∃ a xs, v = .ref a ∧ H a = some (.lst xs) ∧ DatL H ds xs
  | .tuple ds, v => ∃ a xs, v = .ref a ∧ H a = some (.tup xs) ∧ DatL H ds xs
  | .dict _, _ => False
def DatL (H : Hp) : List PyData → List V → Prop
  | [], xs => xs = []
  | d :: ds, xs => ∃ y ys, xs = y :: ys ∧ Dat H d y ∧ DatL H ds ys
end
section
variable {H H' : Hp}
theorem DatL.nil : DatL H [] [] := by unfold DatL; rfl
theorem DatL.cons {d : PyData} {ds : List PyData} {x : V} {xs : List V} (h : Dat H d x) (t : DatL H ds xs) : DatL H (d :: ds) (x :: xs) := by
  unfold DatL
  exact ⟨x, xs, rfl, h, t⟩
theorem DatL.uncons {d : PyData} {ds : List PyData} {xs : List V} (h : DatL H (d :: ds) xs) : ∃ y ys, xs = y :: ys ∧ Dat H d y ∧ DatL H ds ys := by
  unfold DatL at h
  exact h
theorem DatL.unnil {xs : List V} (h : DatL H [] xs) : xs = [] := by
  unfold DatL at h
  exact h
theorem Dat.int {i : Int} : Dat H (.int i) (.int i) := by unfold Dat; rfl
theorem Dat.str {x : Str} : Dat H (.str x) (.str x) := by unfold Dat; rfl
theorem Dat.bool {b : Bool} : Dat H (.bool b) (.bl b) := by unfold Dat; rfl
theorem Dat.none : Dat H .none .non := by unfold Dat; rfl
theorem Dat.list {a : Addr} {xs : List V} {ds : List PyData} (h : H a = some (.lst xs)) (r : DatL H ds xs) : Dat H (.list ds) (.ref a) := by unfold Dat; exact ⟨a, xs, rfl, h, r⟩
theorem Dat.tuple {a : Addr} {xs : List V} {ds : List PyData} (h : H a = some (.tup xs)) (r : DatL H ds xs) : Dat H (.tuple ds) (.ref a) := by unfold Dat; exact ⟨a, xs, rfl, h, r⟩
theorem Dat.int_of {i : Int} {v : V} (h : Dat H (.int i) v) : v = .int i := by unfold Dat at h; exact h
theorem Dat.str_of {x : Str} {v : V} (h : Dat H (.str x) v) : v = .str x := by unfold Dat at h; exact h
theorem Dat.bool_of {b : Bool} {v : V} (h : Dat H (.bool b) v) : v = .bl b := by unfold Dat at h; exact h
theorem Dat.none_of {v : V} (h : Dat H .none v) : v = .non := by unfold Dat at h; exact h
theorem Dat.list_of {ds : List PyData} {v : V} (h : Dat H (.list ds) v) : ∃ a xs, v = .ref a ∧ H a = some (.lst xs) ∧ DatL H ds xs := by unfold Dat at h; exact h
theorem Dat.tuple_of {ds : List PyData} {v : V} (h : Dat H (.tuple ds) v) : ∃ a xs, v = .ref a ∧ H a = some (.tup xs) ∧ DatL H ds xs := by unfold Dat at h; exact h
mutual
theorem Dat.mono (e : Same H H') : ∀ {d : PyData} {v : V}, Dat H d v → Dat H' d v
  | .none, _, h => by rw [h.none_of]; exact Dat.none
  | .bool b, _, h => by rw [h.bool_of]; exact Dat.bool
  | .int i, _, h => by rw [h.int_of]; exact Dat.int
  | .str x, _, h => by rw [h.str_of]; exact Dat.str
  | .list ds, _, h => by
    obtain ⟨a, xs, rfl, q, r⟩ := h.list_of
    exact Dat.list (e _ _ q) (DatL.mono e r)
  | .tuple ds, _, h => by
    obtain ⟨a, xs, rfl, q, r⟩ := h.tuple_of
    exact Dat.tuple (e _ _ q) (DatL.mono e r)
  | .dict _, _, h => by unfold Dat at h; exact h.elim
theorem DatL.mono (e : Same H H') : ∀ {ds : List PyData} {xs : List V}, DatL H ds xs → DatL H' ds xs
  | [], _, h => by rw [h.unnil]; exact DatL.nil
  | d :: ds, _, h => by
    obtain ⟨y, ys, rfl, r, t⟩ := h.uncons
    exact DatL.cons (Dat.mono e r) (DatL.mono e t)
end
theorem DatL.length : ∀ {ds : List PyData} {xs : List V}, DatL H ds xs → ds.length = xs.length
  | [], _, h => by rw [h.unnil]; rfl
  | d :: ds, _, h => by
    obtain ⟨y, ys, rfl, r, t⟩ := h.uncons
    simp [DatL.length t]
theorem DatL.get : ∀ {ds : List PyData} {xs : List V} {i : Nat} {d : PyData}, DatL H ds xs → ds[i]? = some d → ∃ x, xs[i]? = some x ∧ Dat H d x
  | [], _, _, _, h, e => by simp at e
  | d :: ds, _, 0, _, h, e => by
    obtain ⟨y, ys, rfl, r, t⟩ := h.uncons
    simp at e
    subst e
    exact ⟨y, rfl, r⟩
  | d :: ds, _, i + 1, _, h, e => by
    obtain ⟨y, ys, rfl, r, t⟩ := h.uncons
    obtain ⟨x, q1, q2⟩ := DatL.get (i := i) t (by simpa using e)
    exact ⟨x, by simpa using q1, q2⟩
theorem DatL.append : ∀ {ds es : List PyData} {xs ys : List V}, DatL H ds xs → DatL H es ys → DatL H (ds ++ es) (xs ++ ys)
  | [], _, _, _, h, t => by rw [h.unnil]; exact t
  | d :: ds, _, _, _, h, t => by
    obtain ⟨y, ys, rfl, r, t'⟩ := h.uncons
    exact DatL.cons r (DatL.append t' t)
theorem DatL.take : ∀ {ds : List PyData} {xs : List V} (n : Nat), DatL H ds xs → DatL H (ds.take n) (xs.take n)
  | _, _, 0, _ => by simp; exact DatL.nil
  | [], _, n + 1, h => by rw [h.unnil]; simp; exact DatL.nil
  | d :: ds, _, n + 1, h => by
    obtain ⟨y, ys, rfl, r, t⟩ := h.uncons
    simp only [List.take_succ_cons]
    exact DatL.cons r (DatL.take n t)
theorem DatL.drop : ∀ {ds : List PyData} {xs : List V} (n : Nat), DatL H ds xs → DatL H (ds.drop n) (xs.drop n)
  | _, _, 0, h => by simpa using h
  | [], _, n + 1, h => by rw [h.unnil]; simp; exact DatL.nil
  | d :: ds, _, n + 1, h => by
    obtain ⟨y, ys, rfl, r, t⟩ := h.uncons
    simp only [List.drop_succ_cons]
    exact DatL.drop n t
theorem DatL.reverse : ∀ {ds : List PyData} {xs : List V}, DatL H ds xs → DatL H ds.reverse xs.reverse
  | [], _, h => by rw [h.unnil]; simp; exact DatL.nil
  | d :: ds, _, h => by
    obtain ⟨y, ys, rfl, r, t⟩ := h.uncons
    simp only [List.reverse_cons]
    exact DatL.append (DatL.reverse t) (DatL.cons r DatL.nil)
theorem DatL.ints : ∀ (ns : List Int), DatL H (ns.map .int) (ns.map .int)
  | [] => DatL.nil
  | n :: ns => DatL.cons Dat.int (DatL.ints ns)
theorem DatL.ints_of : ∀ {ns : List Int} {xs : List V}, DatL H (ns.map .int) xs → xs = ns.map .int
  | [], _, h => h.unnil
  | n :: ns, _, h => by
    obtain ⟨y, ys, rfl, r, t⟩ := DatL.uncons h
    rw [r.int_of, DatL.ints_of t]
    rfl
mutual
theorem Dat.rep {K : PySem.W.Frag} : ∀ {d : PyData} {v : V}, Dat H d v → Rep K H d v
  | .none, _, h => by rw [h.none_of]; exact Rep.none
  | .bool b, _, h => by rw [h.bool_of]; exact Rep.bool
  | .int i, _, h => by rw [h.int_of]; exact Rep.int
  | .str x, _, h => by rw [h.str_of]; exact Rep.str
  | .list ds, _, h => by
    obtain ⟨a, xs, rfl, q, r⟩ := h.list_of
    exact Rep.list (SqL.of q) (DatL.rep r)
  | .tuple ds, _, h => by
    obtain ⟨a, xs, rfl, q, r⟩ := h.tuple_of
    exact Rep.tuple (SqT.of q) (DatL.rep r)
  | .dict _, _, h => by unfold Dat at h; exact h.elim
theorem DatL.rep {K : PySem.W.Frag} : ∀ {ds : List PyData} {xs : List V}, DatL H ds xs → RepL K H ds xs
  | [], _, h => by rw [h.unnil]; exact RepL.nil
  | d :: ds, _, h => by
    obtain ⟨y, ys, rfl, r, t⟩ := h.uncons
    exact RepL.cons (Dat.rep r) (DatL.rep t)
end
theorem DatL.snoc {ds : List PyData} {xs : List V} {d : PyData} {x : V} (h : DatL H ds xs) (r : Dat H d x) : DatL H (ds ++ [d]) (xs ++ [x]) := h.append (.cons r .nil)
theorem Dat.ints {a : Addr} {ns : List Int} (h : H a = some (.lst (ns.map .int))) : Dat H (.list (ns.map .int)) (.ref a) := .list h (.ints ns)
theorem Dat.intsT {a : Addr} {ns : List Int} (h : H a = some (.tup (ns.map .int))) : Dat H (.tuple (ns.map .int)) (.ref a) := .tuple h (.ints ns)
theorem Dat.ints_of {v : V} {ns : List Int} (h : Dat H (.list (ns.map .int)) v) : ∃ a, v = .ref a ∧ H a = some (.lst (ns.map .int)) := by
  obtain ⟨a, xs, rfl, q, r⟩ := h.list_of
  rw [r.ints_of] at q
  exact ⟨a, rfl, q⟩
theorem Dat.intsT_of {v : V} {ns : List Int} (h : Dat H (.tuple (ns.map .int)) v) : ∃ a, v = .ref a ∧ H a = some (.tup (ns.map .int)) := by
  obtain ⟨a, xs, rfl, q, r⟩ := h.tuple_of
  rw [r.ints_of] at q
  exact ⟨a, rfl, q⟩
end
def mask (D : Addr) (H : Hp) : Hp := fun b => if b = D then none else H b
section
variable {H H' H'' : Hp} {D p : Addr} {o : HO}
theorem mask_ne (h : p ≠ D) : mask D H p = H p := by unfold mask; rw [if_neg h]
theorem mask_some {u : HO} (h : mask D H p = some u) : p ≠ D ∧ H p = some u := by
  unfold mask at h
  by_cases e : p = D
  · rw [if_pos e] at h; cases h
  · rw [if_neg e] at h; exact ⟨e, h⟩
theorem mask_same : Same (mask D H) H := fun _ _ h => (mask_some h).2
theorem mask_upd : mask D (upd H D o) = mask D H := by
  funext b
  unfold mask
  by_cases e : b = D
  · rw [if_pos e, if_pos e]
  · rw [if_neg e, if_neg e, upd_ne e]
theorem mask_mono (e : Same H H') : Same (mask D H) (mask D H') := fun b u h => by
  obtain ⟨h1, h2⟩ := mask_some h
  rw [mask_ne h1]
  exact e _ _ h2
theorem same_new (h : H p = none) : Same H (upd H p o) := fun b u q => by
  rw [upd_ne fun e => by subst e; rw [h] at q; cases q]
  exact q
theorem Same.put (e : Same H H') (h : H p = none) : Same H (upd H' p o) := fun b u q => by
  rw [upd_ne fun z => by subst z; rw [h] at q; cases q]
  exact e _ _ q
theorem ne_new {u : HO} (h : H p = none) (q : H D = some u) : p ≠ D := fun e => by subst e; rw [h] at q; cases q
end
section
variable {P : Program} {w : World} {K : PySem.W.Frag} {mg : Str → Option Value} {base : Heap}
theorem Fun.okF {x qual : Str} {st : Stmt} {f : Addr} {fd : FuncData} {N ps : List Str} {k : Nat} {sp : Sp} (F : Fun K x qual st f fd) (S : FnScope N ps (defScope st)) (len : ∀ vs H Q E, sp vs H Q E → vs.length = ps.length)
    (hbody : ∀ (cdv : Value) (A : Around) (outer : List Env) (s : Shared) (H : Hp) (vs : List V) (Q : VK) (E : XK), Room k (A.deeper (envOfC qual (defScope st) s.heap.objs.size f cdv)) → sp vs H Q E →
      ∃ t, PSs (cxF P w K mg base N qual (defScope st) f cdv A outer s H E) (defBody st) t ∧ t { nx := fun _ H' => Q .non H', rt := Q } (start N vs) H) : FnOk P w K mg base (CXF P w) (k + 1) f fd ps sp := by
  obtain ⟨oc, od, kV, doc, pm, an, cdv, ct, osl, rfl, lk, hcd⟩ := F.ex
  exact fn_of lk hcd S len fun A outer s H vs Q E hr hsp => hbody cdv A outer s H vs Q E hr hsp
end
theorem lc_in {J : It} {g : TG} {te : TE} {H1 : Hp} {σ0 : St} {QD : Addr → Hp → Prop} (S : St → Prop) (n : Nat) (d : Nat → PyData) (s0 : S σ0) (hgo : ∀ i H2, i < n → Same H1 H2 → J.go i H2) (hstop : ∀ H2, Same H1 H2 → J.stop n H2) (hn : n ≤ sizeLine)
    (step : ∀ D i x σ2 H2 H3 (N : V → St → Hp → Prop), i < n → Same H1 H2 → (∃ ys, H2 D = some (.lst ys)) → S σ2 → J.yld i H2 x H3 → (∀ y σ4 H6, S σ4 → Same H2 H6 → Dat (mask D H6) (d i) y → N y σ4 H6) → g x σ2 H3 fun σ4 H4 => te σ4 H4 fun y H6 => N y σ4 H6)
    (fin : ∀ D ys H2, H1 D = none → Same H1 H2 → H2 D = some (.lst ys) → DatL (mask D H2) ((List.range n).map d) ys → QD D H2) :
    ∀ D, H1 D = none → ∃ W : Nat → Nat → St → Hp → Prop, (∃ m, W 0 m σ0 (upd H1 D (.lst []))) ∧
      ∀ i m σ2 H2, W i m σ2 H2 → (J.stop i H2 ∧ QD D H2) ∨ (J.go i H2 ∧ ∀ x H3, J.yld i H2 x H3 → g x σ2 H3 fun σ4 H4 => tYes σ4 H4 fun b H5 =>
        if b = true then te σ4 H5 fun y H6 => ∃ xs, H6 D = some (.lst xs) ∧ xs.length < sizeLine ∧ ∃ m', m' < m ∧ W (i + 1) m' σ4 (upd H6 D (.lst (xs ++ [y]))) else ∃ m', m' < m ∧ W (i + 1) m' σ4 H5) := by
  intro D hD
  refine ⟨fun i m σ2 H2 => i + m = n ∧ S σ2 ∧ Same H1 H2 ∧ ∃ ys, H2 D = some (.lst ys) ∧ DatL (mask D H2) ((List.range i).map d) ys, ⟨n, by omega, s0, same_new hD, [], upd_same, .nil⟩, ?_⟩
  intro i m σ2 H2 ⟨hi, hs, e, ys, hy, dl⟩
  by_cases c : i < n
  · refine .inr ⟨hgo i H2 c e, fun x H3 yl => ?_⟩
    refine step D i x σ2 H2 H3 (fun y σ4 H6 => ∃ xs, H6 D = some (.lst xs) ∧ xs.length < sizeLine ∧ ∃ m', m' < m ∧ _) c e ⟨ys, hy⟩ hs yl fun y σ4 H6 s4 e6 dy => ?_
    have hl := dl.length
    rw [List.length_map, List.length_range] at hl
    refine ⟨ys, e6 _ _ hy, by omega, m - 1, by omega, by omega, s4, (e.trans e6).put hD, ys ++ [y], upd_same, ?_⟩
    rw [mask_upd, List.range_succ, List.map_append]
    exact (dl.mono (mask_mono e6)).snoc dy
  · have hin : i = n := by omega
    subst hin
    exact .inl ⟨hstop H2 e, fin D ys H2 hD e hy dl⟩
theorem for_in {J : It} {g : TG} {tb : TS} {D : Ends} {H1 : Hp} {σ0 : St} (n : Nat) (I : Nat → St → Hp → Prop) (i0 : I 0 σ0 H1) (hgo : ∀ i σ H, i < n → I i σ H → J.go i H) (hstop : ∀ σ H, I n σ H → J.stop n H)
    (step : ∀ i x σ2 H2 H3, i < n → I i σ2 H2 → J.yld i H2 x H3 → g x σ2 H3 fun σ4 H4 => tb { D with nx := I (i + 1), ct := I (i + 1), bk := D.nx } σ4 H4) (fin : ∀ σ H, I n σ H → D.nx σ H) :
    ∃ W : Nat → Nat → St → Hp → Prop, (∃ m, W 0 m σ0 H1) ∧ ∀ i m σ H, W i m σ H →
      (J.stop i H ∧ D.nx σ H) ∨ (J.go i H ∧ ∃ N : St → Hp → Prop, (∀ σ' H', N σ' H' → ∃ m', m' < m ∧ W (i + 1) m' σ' H') ∧ ∀ x H', J.yld i H x H' → g x σ H' fun σ2 H2 => tb { D with nx := N, ct := N, bk := D.nx } σ2 H2) := by
  refine ⟨fun i m σ H => i + m = n ∧ I i σ H, ⟨n, by omega, i0⟩, fun i m σ H ⟨hi, hI⟩ => ?_⟩
  by_cases c : i < n
  · refine .inr ⟨hgo i σ H c hI, I (i + 1), fun σ' H' q => ⟨m - 1, by omega, by omega, q⟩, fun x H' yl => step i x σ H H' c hI yl⟩
  · have hin : i = n := by omega
    subst hin
    exact .inl ⟨hstop σ H hI, fin σ H hI⟩
end L2
set_option Elab.async false
set_option linter.all false
set_option maxRecDepth 100000
set_option maxHeartbeats 4000000
namespace L2
open PySem PySem.Spec PyProof.Rows
theorem bt_bool : bootBuiltins ("bool" : Str) = some (Value.type "bool") := by rfl
theorem bt_int : bootBuiltins ("int" : Str) = some (Value.type "int") := by rfl
theorem bt_list : bootBuiltins ("list" : Str) = some (Value.type "list") := by rfl
theorem bt_tuple : bootBuiltins ("tuple" : Str) = some (Value.type "tuple") := by rfl
theorem bt_ValueError : bootBuiltins ("ValueError" : Str) = some (Value.type "ValueError") := by rfl
theorem bt_isinstance : bootBuiltins ("isinstance" : Str) = some (Value.builtin "isinstance") := by rfl
theorem bt_sum : bootBuiltins ("sum" : Str) = some (Value.builtin "sum") := by rfl
theorem bt_sorted : bootBuiltins ("sorted" : Str) = some (Value.builtin "sorted") := by rfl
theorem bt_abs : bootBuiltins ("abs" : Str) = some (Value.builtin "abs") := by rfl
theorem bt_max : bootBuiltins ("max" : Str) = some (Value.builtin "max") := by rfl
theorem bt_min : bootBuiltins ("min" : Str) = some (Value.builtin "min") := by rfl
theorem lookup_mem {α : Type} {x : Str} {a : α} : ∀ {l : List (Str × α)}, l.lookup x = some a → (x, a) ∈ l := fun h => PySem.mem_of_lookup h
theorem cn_of {X : Cx} {N : List Str} {js : List (Option Nat)} {scope : Scope} {cl : List (Str × Addr)} (hk : scope.kind = .function) (hc : closureFor scope X.env = pure cl) (h1 : ∀ y ∈ scope.names, y.2 ≠ .cell) (h2 : ∀ y ∈ scope.names, y.2 = .local → scope.names.lookup y.1 = some .local)
    (hl : js.length = N.length) (hs : ∀ y ∈ cl, X.env.cells.lookup y.1 = some y.2) (hf : ∀ y ∈ scope.names, y.2 = .free → (cl.lookup y.1).isSome = true)
    (hj : ∀ p ∈ N.zip js, ∀ j, p.2 = some j → X.N[j]? = some p.1 ∧ X.env.kindOf p.1 = some .cell ∧ scope.names.lookup p.1 = some .free)
    (hfn : X.env.scope.kind = .function) : CompNames X N js scope cl := by
  have rl : ∀ x k, (relabel scope X.env).names.lookup x = some k → (k = .cell ∨ k = .free) → ∃ y ∈ scope.names, y.1 = x ∧ y.2 = .free := fun x k q hk2 => by
    have m := lookup_mem q
    unfold relabel at m
    obtain ⟨⟨n, k2⟩, hm, e⟩ := List.mem_map.mp m
    have e2 := h1 _ hm
    replace e : (if (k2 == NameKind.free && X.env.scope.kind == ScopeKind.function && X.env.kindOf n == some NameKind.cell) = true then (n, NameKind.cell) else (n, k2)) = (x, k) := e
    by_cases hf2 : k2 = .free
    · subst hf2
      refine ⟨_, hm, ?_, rfl⟩
      split at e
      · exact congrArg Prod.fst e
      · exact congrArg Prod.fst e
    · exfalso
      have hfb : (k2 == NameKind.free) = false := by cases k2 <;> first | rfl | exact absurd rfl hf2
      rw [hfb, Bool.false_and, Bool.false_and, if_neg Bool.false_ne_true] at e
      cases e
      rcases hk2 with h | h
      · exact e2 h
      · exact hf2 h
  refine ⟨hk, hc, h1, h2, fun x c h => hs _ (lookup_mem h), fun x h => ?_, hl, fun i j x h hx => ?_⟩
  · have : ∃ y ∈ scope.names, y.1 = x ∧ y.2 = .free := by
      rcases h with h | h
      · exact rl x _ h (.inl rfl)
      · exact rl x _ h (.inr rfl)
    obtain ⟨y, hy, rfl, e⟩ := this
    exact Option.isSome_iff_exists.mp (hf y hy e)
  · obtain ⟨hi, rfl⟩ := List.getElem?_eq_some_iff.mp hx
    obtain ⟨hi2, hj2⟩ := List.getElem?_eq_some_iff.mp h
    obtain ⟨a, b, c⟩ := hj (N[i], js[i]) (by rw [← List.getElem_zip (l := N) (l' := js) (h := by rw [List.length_zip]; omega)]; exact List.getElem_mem _) j hj2
    refine ⟨a, ?_, .inl b⟩
    show (relabel scope X.env).names.lookup N[i] = some .cell ∨ (relabel scope X.env).names.lookup N[i] = some .free
    left
    have hb : X.env.scope.names.lookup N[i] = some .cell := b
    have gen : ∀ l : List (Str × NameKind), l.lookup N[i] = some .free → (l.map (fun x => match x with | (n, k) => if (k == NameKind.free && X.env.scope.kind == ScopeKind.function && X.env.kindOf n == some NameKind.cell) = true then (n, NameKind.cell) else (n, k))).lookup N[i] = some .cell := by
      intro l
      induction l with
      | nil => intro h; cases h
      | cons p r ih =>
        intro h
        obtain ⟨n, k⟩ := p
        rw [List.lookup_cons] at h
        rw [List.map_cons]
        by_cases e : (N[i] == n) = true
        · rw [e] at h
          cases h
          have en : N[i] = n := beq_iff_eq.mp e
          have hb2 : X.env.kindOf n = some NameKind.cell := by rw [← en]; exact b
          show List.lookup N[i] ((if (NameKind.free == NameKind.free && X.env.scope.kind == ScopeKind.function && X.env.kindOf n == some NameKind.cell) = true then (n, NameKind.cell) else (n, NameKind.free)) :: _) = _
          rw [hb2, hfn, if_pos (by decide), List.lookup_cons, e]
        · rw [Bool.not_eq_true] at e
          rw [e] at h
          have := ih h
          show List.lookup N[i] ((if (k == NameKind.free && X.env.scope.kind == ScopeKind.function && X.env.kindOf n == some NameKind.cell) = true then (n, NameKind.cell) else (n, k)) :: _) = _
          split
          · rw [List.lookup_cons, e]; exact this
          · rw [List.lookup_cons, e]; exact this
    exact gen _ c
theorem cn_none {X : Cx} {N : List Str} {js : List (Option Nat)} {scope : Scope} (hk : scope.kind = .function) (hc : closureFor scope X.env = pure []) (h1 : ∀ y ∈ scope.names, y.2 ≠ .cell) (h2 : ∀ y ∈ scope.names, y.2 = .local → scope.names.lookup y.1 = some .local)
    (h3 : ∀ y ∈ scope.names, y.2 ≠ .free) (hl : js.length = N.length) (hj : ∀ o ∈ js, o = none) (hfn : X.env.scope.kind = .function) : CompNames X N js scope [] :=
  cn_of hk hc h1 h2 hl (fun y hy => absurd hy (by simp)) (fun y hy e => absurd e (h3 y hy)) (fun p hp j h => by cases (hj _ (List.of_mem_zip hp).2).symm.trans h) hfn
section
variable {X : Cx} {K : PySem.W.Frag}
theorem ix_listK (h : X.K = K) : IxR X (rIxL K) := by subst h; exact ix_list
theorem mt_indexK (h : X.K = K) : MtR X "list.index" (rIndex K) := by subst h; exact mt_index
theorem pg_tupK {es : List Expr} {k : Nat} {t : TGs} {n : Nat} {pos : Pos} (h : X.K = K) (hc : X.calm = true) (hp : PGs X es t) (hn : (assignEach es X.env).length = n) (hst : (assignEach es X.env).findIdx? (·.1) = none) : PG X (.Tuple es k pos) (gTup K n t) := by
  subst h
  exact pg_tup hc hp hn hst
variable {o e : Expr} {es : List Expr} {to : TE} {t : TA} {name : Str} {apos cpos : Pos} {T id : String} {r : V → List V → Hp → VK → Prop}
theorem pe_bmK (h : X.K = K) (pa : PlainAttrs T) (slot : Slot T name id) (hty : typeOf (.builtin id) = pure (.type "method_descriptor")) (hm : MtR X id r) (ho : PE X o to) (ha : PA X (e :: es) t)
    (hbase : attributeBase o name X.env (eval o X.env) = eval o X.env)
    (hfew : ((backTo cpos (starEach (e :: es) X.env)).all (fun x => !x.1) && (backToKw cpos (keywordEach [] X.env)).all (fun x => x.1.isSome)
      && decide ((e :: es).length + ([] : List Keyword).length + (if ([] : List Keyword).isEmpty then 0 else 1) < 30)) = true)
    (hline : (apos.endLine == cpos.line) = true) (hs : starEach (e :: es) X.env = (false, eval e X.env) :: starEach es X.env) (hplain : (backTo cpos (starEach es X.env)).any (·.1) = false) :
    PE X (.Call (.Attribute o name apos) (e :: es) [] cpos) (tBM K T r to t) := by
  subst h
  exact pe_bm pa slot hty hm ho ha hbase hfew hline hs hplain
end
end L2
set_option Elab.async false
set_option linter.all false
set_option maxRecDepth 100000
set_option maxHeartbeats 4000000
namespace My
open PySem L2 PySem.Spec PyProof.Rows
structure Er where
  LayError : Addr
  BadWeb : Addr
  BadOrder : Addr
  BadSpot : Addr
  BadKind : Addr
  BadText : Addr
variable {A : Er}
def tieD (t : List Int) : PyData := .tuple (t.map .int)
def webD (n : Int) (ts : List (List Int)) : PyData := .tuple [.int n, .list (ts.map tieD)]
def ordD (ns : List Int) : PyData := .list (ns.map .int)
def small (k : Int) : Prop := k.natAbs < 10 ^ 20
structure WebIn (n : Int) (ts : List (List Int)) : Prop where
  n : small n
  len : ts.length ≤ 1000
  tie : ∀ t ∈ ts, t.length ≤ 100 ∧ ∀ k ∈ t, small k
structure OrdIn (ns : List Int) : Prop where
  len : ns.length ≤ 1000
  one : ∀ k ∈ ns, small k
theorem web_of {H : Hp} {n : Int} {ts : List (List Int)} {v : V} (h : Dat H (webD n ts) v) : ∃ a l xs, v = .ref a ∧ H a = some (.tup [.int n, .ref l]) ∧ H l = some (.lst xs) ∧ DatL H (ts.map tieD) xs := by
  obtain ⟨a, xs, rfl, q, r⟩ := h.tuple_of
  obtain ⟨y, ys, rfl, r1, t1⟩ := r.uncons
  obtain ⟨z, zs, rfl, r2, t2⟩ := t1.uncons
  obtain ⟨l, xs, rfl, q2, r3⟩ := r2.list_of
  rw [r1.int_of, t2.unnil] at q
  exact ⟨a, l, xs, rfl, q, q2, r3⟩
theorem web_mk {H : Hp} {n : Int} {ts : List (List Int)} {a l : Addr} {xs : List V} (h1 : H a = some (.tup [.int n, .ref l])) (h2 : H l = some (.lst xs)) (h3 : DatL H (ts.map tieD) xs) : Dat H (webD n ts) (.ref a) :=
  .tuple h1 (.cons .int (.cons (.list h2 h3) .nil))
theorem tie_at {H : Hp} {ts : List (List Int)} {xs : List V} {i : Nat} {t : List Int} (h : DatL H (ts.map tieD) xs) (e : ts[i]? = some t) : ∃ a, xs[i]? = some (.ref a) ∧ H a = some (.tup (t.map .int)) := by
  obtain ⟨x, h1, h2⟩ := h.get (i := i) (d := tieD t) (by rw [List.getElem?_map, e]; rfl)
  obtain ⟨a, rfl, q⟩ := Dat.intsT_of h2
  exact ⟨a, h1, q⟩
def spWithin : Sp := fun vs H Q _ => ∃ v a b : Int, vs = [.int v, .int a, .int b] ∧ Q (.bl (decide (a ≤ v) && decide (v ≤ b))) H
def tieOk (n : Int) : List Int → Bool
  | [a, b, c] => (decide (0 ≤ b) && decide (b ≤ n - 1)) && ((decide (0 ≤ a) && decide (a ≤ b - 1)) && (decide (1 ≤ c) && decide (c ≤ 100)))
  | _ => false
theorem tieOk_eq (n a b c : Int) : tieOk n [a, b, c] = ((decide (0 ≤ b) && decide (b ≤ n - 1)) && ((decide (0 ≤ a) && decide (a ≤ b - 1)) && (decide (1 ≤ c) && decide (c ≤ 100)))) := rfl
theorem tieOk_three {n : Int} {t : List Int} (h : tieOk n t = true) : ∃ a b c, t = [a, b, c] ∧ 0 ≤ b ∧ b ≤ n - 1 ∧ 0 ≤ a ∧ a ≤ b - 1 ∧ 1 ≤ c ∧ c ≤ 100 := by
  unfold tieOk at h
  split at h
  · rename_i a b c
    simp only [Bool.and_eq_true, decide_eq_true_eq] at h
    obtain ⟨⟨h1, h2⟩, ⟨h3, h4⟩, h5, h6⟩ := h
    exact ⟨a, b, c, rfl, h1, h2, h3, h4, h5, h6⟩
  · cases h
def spTie : Sp := fun vs H Q _ => ∃ (a : Addr) (t : List Int) (n : Int), vs = [.ref a, .int n] ∧ H a = some (.tup (t.map .int)) ∧ Q (.bl (tieOk n t)) H
def tiesOk (n : Int) : List Int → List (List Int) → Bool
  | _, [] => true
  | b, t :: r => tieOk n t && (!HT.lexLe (t.take 2) b && tiesOk n (t.take 2) r)
def spTies (A : Er) : Sp := fun vs H Q E => ∃ (n : Int) (l : Addr) (xs : List V) (ts : List (List Int)), vs = [.int n, .ref l] ∧ H l = some (.lst xs) ∧ DatL H (ts.map tieD) xs ∧ WebIn n ts ∧
  (tiesOk n [-1, -1] ts = true → ∀ H', Same H H' → Q .non H') ∧ (tiesOk n [-1, -1] ts = false → ∀ H', Same H H' → E (.ref A.BadWeb) none H')
def webOk (n : Int) (ts : List (List Int)) : Bool := (decide (0 ≤ n) && decide (n ≤ 8)) && tiesOk n [-1, -1] ts
def spWeb (A : Er) : Sp := fun vs H Q E => ∃ (v : V) (n : Int) (ts : List (List Int)), vs = [v] ∧ Dat H (webD n ts) v ∧ WebIn n ts ∧
  (webOk n ts = true → ∀ H', Same H H' → Q .non H') ∧ (webOk n ts = false → ∀ H', Same H H' → E (.ref A.BadWeb) none H')
def ordOk (n : Int) (ns : List Int) : Bool := decide ((ns.length : Int) = n) && (ns.all (fun k => decide (0 ≤ k) && decide (k ≤ n - 1)) && decide ns.Nodup)
theorem nodup_len : ∀ {l m : List Int}, l.Nodup → (∀ x ∈ l, x ∈ m) → l.length ≤ m.length
  | [], _, _, _ => Nat.zero_le _
  | a :: r, m, h, s => by
    obtain ⟨h1, h2⟩ := List.nodup_cons.mp h
    have ha : a ∈ m := s a (List.mem_cons.mpr (.inl rfl))
    have q := nodup_len (m := m.erase a) h2 fun x hx => (List.mem_erase_of_ne fun z => h1 (by rw [← z]; exact hx)).mpr (s x (List.mem_cons.mpr (.inr hx)))
    rw [List.length_erase_of_mem ha] at q
    have : 0 < m.length := List.length_pos_of_mem ha
    rw [List.length_cons]
    omega
theorem ordOk_of {n : Int} {ns : List Int} (h : ordOk n ns = true) : (ns.length : Int) = n ∧ (∀ k ∈ ns, 0 ≤ k ∧ k ≤ n - 1) ∧ ns.Nodup := by
  unfold ordOk at h
  rw [Bool.and_eq_true, Bool.and_eq_true] at h
  obtain ⟨h1, h2, h3⟩ := h
  refine ⟨of_decide_eq_true h1, fun k hk => ?_, of_decide_eq_true h3⟩
  have := List.all_eq_true.mp h2 k hk
  rw [Bool.and_eq_true] at this
  exact ⟨of_decide_eq_true this.1, of_decide_eq_true this.2⟩
theorem ordOk_mk {n : Int} {ns : List Int} (h1 : (ns.length : Int) = n) (h2 : ∀ k ∈ ns, 0 ≤ k ∧ k ≤ n - 1) (h3 : ns.Nodup) : ordOk n ns = true := by
  unfold ordOk
  rw [decide_eq_true h1, decide_eq_true h3, Bool.true_and, Bool.and_true]
  exact List.all_eq_true.mpr fun k hk => by rw [decide_eq_true (h2 k hk).1, decide_eq_true (h2 k hk).2]; rfl
def upto (n : Nat) : List Int := (List.range n).map fun i : Nat => (i : Int)
theorem upto_mem {n : Nat} {k : Int} : k ∈ upto n ↔ 0 ≤ k ∧ k < n := by
  unfold upto
  rw [List.mem_map]
  constructor
  · rintro ⟨i, hi, rfl⟩
    have := List.mem_range.mp hi
    omega
  · rintro ⟨h1, h2⟩
    exact ⟨k.toNat, List.mem_range.mpr (by omega), by omega⟩
theorem upto_len {n : Nat} : (upto n).length = n := by unfold upto; rw [List.length_map, List.length_range]
theorem ord_all {n : Int} {ns : List Int} (h : ordOk n ns = true) {k : Int} (h0 : 0 ≤ k) (h1 : k ≤ n - 1) : k ∈ ns := by
  obtain ⟨hl, hk, hn⟩ := ordOk_of h
  by_cases c : k ∈ ns
  · exact c
  · have q := nodup_len (l := k :: ns) (m := upto ns.length) (List.nodup_cons.mpr ⟨c, hn⟩) fun x hx => by
      rcases List.mem_cons.mp hx with rfl | hx
      · exact upto_mem.mpr ⟨h0, by omega⟩
      · exact upto_mem.mpr ⟨(hk x hx).1, by have := (hk x hx).2; omega⟩
    rw [upto_len, List.length_cons] at q
    omega
theorem tiesOk_all {n : Int} : ∀ {ts : List (List Int)} {b : List Int}, tiesOk n b ts = true → ∀ t ∈ ts, tieOk n t = true
  | [], _, _, t, ht => by simp at ht
  | a :: r, b, h, t, ht => by
    unfold tiesOk at h
    rw [Bool.and_eq_true, Bool.and_eq_true] at h
    rcases List.mem_cons.mp ht with rfl | ht
    · exact h.1
    · exact tiesOk_all h.2.2 t ht
theorem webOk_of {n : Int} {ts : List (List Int)} (h : webOk n ts = true) : 0 ≤ n ∧ n ≤ 8 ∧ ∀ t ∈ ts, ∃ a b c, t = [a, b, c] ∧ 0 ≤ b ∧ b ≤ n - 1 ∧ 0 ≤ a ∧ a ≤ b - 1 ∧ 1 ≤ c ∧ c ≤ 100 := by
  unfold webOk at h
  rw [Bool.and_eq_true, Bool.and_eq_true] at h
  exact ⟨of_decide_eq_true h.1.1, of_decide_eq_true h.1.2, fun t ht => tieOk_three (tiesOk_all h.2 t ht)⟩
def idx (ns : List Int) (k : Int) : Nat := ns.idxOf k
theorem idx_lt {ns : List Int} {k : Int} (h : k ∈ ns) : idx ns k < ns.length := List.idxOf_lt_length_of_mem h
theorem idx_cons {a k : Int} {r : List Int} (e : ¬ a = k) : idx (a :: r) k = idx r k + 1 := by
  unfold idx
  rw [List.idxOf_cons]
  have : (a == k) = false := by simpa using e
  rw [this]
  rfl
def absI (d : Int) : Int := if d < 0 then -d else d
def tieLen (ns : List Int) : List Int → Int
  | [a, b, _] => absI ((idx ns a : Int) - (idx ns b : Int))
  | _ => 0
def lens (ns : List Int) (ts : List (List Int)) : List Int := ts.map (tieLen ns)
theorem index_of {ns : List Int} {k : Int} (h : k ∈ ns) : (ns.map V.int).findIdx? (fun z => eqV z (.int k)) = some (idx ns k) := by
  induction ns with
  | nil => simp at h
  | cons a r ih =>
    rw [List.map_cons, List.findIdx?_cons]
    by_cases e : a = k
    · subst e
      have : eqV (.int a) (.int a) = true := by simp [eqV]
      rw [this]
      simp [idx]
    · have e2 : eqV (.int a) (.int k) = false := by simp [eqV, e]
      rw [e2, ih ((List.mem_cons.mp h).resolve_left fun z => e z.symm)]
      rw [idx_cons e]
      rfl
def over1 (ns : List Int) (g : Nat) : List Int → Int
  | [a, b, c] => if min (idx ns a) (idx ns b) ≤ g ∧ g < max (idx ns a) (idx ns b) then c else 0
  | _ => 0
def gapAt (ns : List Int) (ts : List (List Int)) (g : Nat) : Int := (ts.map (over1 ns g)).sum
def gapsL (m : Nat) (ns : List Int) (ts : List (List Int)) : List Int := (List.range m).map (gapAt ns ts)
theorem sum_add {α : Type} (f g : α → Int) : ∀ l : List α, (l.map fun x => f x + g x).sum = (l.map f).sum + (l.map g).sum
  | [] => rfl
  | a :: r => by
    simp only [List.map_cons, List.sum_cons]
    rw [sum_add f g r]
    omega
theorem sum_zero {α : Type} : ∀ l : List α, (l.map fun _ => (0 : Int)).sum = 0
  | [] => rfl
  | a :: r => by rw [List.map_cons, List.sum_cons, sum_zero r]; rfl
theorem sum_span {lo hi : Nat} {c : Int} (h : lo ≤ hi) : ∀ {m : Nat}, hi ≤ m → ((List.range m).map fun g => if lo ≤ g ∧ g < hi then c else 0).sum = c * ((hi : Int) - lo) := by
  have key : ∀ m : Nat, ((List.range m).map fun g => if lo ≤ g ∧ g < hi then c else 0).sum = c * ((min m hi - lo : Nat) : Int) := by
    intro m
    induction m with
    | zero => simp
    | succ m ih =>
      rw [List.range_succ, List.map_append, List.sum_append, ih]
      simp only [List.map_cons, List.map_nil, List.sum_cons, List.sum_nil, Int.add_zero]
      by_cases e : lo ≤ m ∧ m < hi
      · rw [if_pos e]
        have h1 : (min (m + 1) hi - lo : Nat) = (min m hi - lo : Nat) + 1 := by omega
        rw [h1, Int.natCast_add, Int.mul_add]
        simp
      · rw [if_neg e]
        have h1 : (min (m + 1) hi - lo : Nat) = (min m hi - lo : Nat) := by omega
        rw [h1, Int.add_zero]
  intro m hm
  rw [key m]
  have : ((min m hi - lo : Nat) : Int) = (hi : Int) - lo := by omega
  rw [this]
def weigh (ns : List Int) : List Int → Int
  | [a, b, c] => c * tieLen ns [a, b, c]
  | _ => 0
def tot (ns : List Int) (ts : List (List Int)) : Int := (ts.map (weigh ns)).sum
theorem over_sum {n : Int} {ns : List Int} {t : List Int} (ho : ordOk n ns = true) (ht : tieOk n t = true) : ((List.range (n - 1).toNat).map fun g => over1 ns g t).sum = weigh ns t := by
  obtain ⟨a, b, c, rfl, h1, h2, h3, h4, h5, h6⟩ := tieOk_three ht
  obtain ⟨hl, hk, hn⟩ := ordOk_of ho
  have ia := idx_lt (ord_all ho h3 (by omega))
  have ib := idx_lt (ord_all ho h1 h2)
  show ((List.range (n - 1).toNat).map fun g => if min (idx ns a) (idx ns b) ≤ g ∧ g < max (idx ns a) (idx ns b) then c else 0).sum = c * absI ((idx ns a : Int) - (idx ns b : Int))
  rw [sum_span (by omega) (by omega)]
  congr 1
  unfold absI
  split <;> omega
theorem gaps_sum {n : Int} {ns : List Int} (ho : ordOk n ns = true) : ∀ {ts : List (List Int)}, (∀ t ∈ ts, tieOk n t = true) → (gapsL (n - 1).toNat ns ts).sum = tot ns ts
  | [], _ => by
    unfold gapsL tot
    exact sum_zero _
  | t :: r, h => by
    have q := gaps_sum ho (ts := r) fun x hx => h x (List.mem_cons.mpr (.inr hx))
    have e : gapsL (n - 1).toNat ns (t :: r) = (List.range (n - 1).toNat).map fun g => over1 ns g t + gapAt ns r g := by
      unfold gapsL
      refine List.map_congr_left fun g _ => ?_
      unfold gapAt
      rw [List.map_cons, List.sum_cons]
    rw [e, sum_add, over_sum ho (h t (List.mem_cons.mpr (.inl rfl)))]
    unfold gapsL at q
    rw [q]
    unfold tot
    rw [List.map_cons, List.sum_cons]
theorem map_range_get {α β : Type} (f : α → β) (z : α) : ∀ ts : List α, (List.range ts.length).map (fun i => f (ts.getD i z)) = ts.map f := by
  intro ts
  apply List.ext_getElem
  · simp
  · intro i h1 h2
    have h3 : i < ts.length := by simpa using h2
    simp [List.getD_eq_getElem?_getD, List.getElem?_eq_getElem h3]
theorem lens_nonneg {ns : List Int} {ts : List (List Int)} : ∀ x ∈ lens ns ts, 0 ≤ x := by
  intro x hx
  obtain ⟨t, _, rfl⟩ := List.mem_map.mp hx
  unfold tieLen
  split
  · unfold absI
    split <;> omega
  · exact Int.le_refl 0
theorem lens_len {ns : List Int} {ts : List (List Int)} : (lens ns ts).length = ts.length := List.length_map _
def maxOf (ns : List Int) : Int := ns.foldr max 0
theorem isMax_of {ns : List Int} (h : ∀ x ∈ ns, 0 ≤ x) : IsMax 0 ns (maxOf ns) := by
  induction ns with
  | nil => exact .inl ⟨rfl, rfl⟩
  | cons a r ih =>
    right
    have ih2 := ih fun x hx => h x (List.mem_cons.mpr (.inr hx))
    have ha := h a (List.mem_cons.mpr (.inl rfl))
    show max a (maxOf r) ∈ a :: r ∧ ∀ x ∈ a :: r, x ≤ max a (maxOf r)
    rcases ih2 with ⟨rfl, e⟩ | ⟨m, l⟩
    · refine ⟨by rw [e]; simp; omega, fun x hx => ?_⟩
      have : x = a := by simpa using hx
      omega
    · constructor
      · by_cases c : a ≤ maxOf r
        · rw [Int.max_eq_right c]; exact List.mem_cons.mpr (.inr m)
        · rw [Int.max_eq_left (by omega)]; exact List.mem_cons.mpr (.inl rfl)
      · intro x hx
        rcases List.mem_cons.mp hx with rfl | hx
        · omega
        · have := l x hx; omega
theorem isMax_zero {ns : List Int} (h : ∀ x ∈ ns, 0 ≤ x) {M : Int} (q : IsMax 0 ([0] ++ ns) M) : M = maxOf ns := by
  refine q.uniq ?_
  right
  rcases isMax_of h with ⟨rfl, e⟩ | ⟨m, l⟩
  · rw [e]; simp
  · exact ⟨List.mem_append.mpr (.inr m), fun a ha => by
      rcases List.mem_append.mp ha with z | z
      · have : a = 0 := by simpa using z
        have := h _ m
        omega
      · exact l a z⟩
theorem gaps_nonneg {m : Nat} {n : Int} {ns : List Int} {ts : List (List Int)} (h : ∀ t ∈ ts, tieOk n t = true) : ∀ x ∈ gapsL m ns ts, 0 ≤ x := by
  intro x hx
  obtain ⟨g, _, rfl⟩ := List.mem_map.mp hx
  unfold gapAt
  have key : ∀ l : List Int, (∀ y ∈ l, 0 ≤ y) → 0 ≤ l.sum := by
    intro l
    induction l with
    | nil => intro _; exact Int.le_refl 0
    | cons a r ih =>
      intro q
      rw [List.sum_cons]
      have := ih fun y hy => q y (List.mem_cons.mpr (.inr hy))
      have := q a (List.mem_cons.mpr (.inl rfl))
      omega
  refine key _ fun y hy => ?_
  obtain ⟨t, ht, rfl⟩ := List.mem_map.mp hy
  obtain ⟨a, b, c, rfl, h1, h2, h3, h4, h5, h6⟩ := tieOk_three (h t ht)
  show 0 ≤ if min (idx ns a) (idx ns b) ≤ g ∧ g < max (idx ns a) (idx ns b) then c else 0
  split <;> omega
structure Both (A : Er) (H : Hp) (v : V) (l : Addr) (n : Int) (ts : List (List Int)) (ns : List Int) (E : XK) : Prop where
  web : Dat H (webD n ts) v
  ord : H l = some (.lst (ns.map .int))
  win : WebIn n ts
  oin : OrdIn ns
  ew : webOk n ts = false → ∀ H', Same H H' → E (.ref A.BadWeb) none H'
  eo : webOk n ts = true → ordOk n ns = false → ∀ H', Same H H' → E (.ref A.BadOrder) none H'
theorem Both.later {H H1 : Hp} {v : V} {l : Addr} {n : Int} {ts : List (List Int)} {ns : List Int} {E : XK} (b : Both A H v l n ts ns E) (e : Same H H1) : Both A H1 v l n ts ns E :=
  ⟨b.web.mono e, e _ _ b.ord, b.win, b.oin, fun h H' e' => b.ew h H' (e.trans e'), fun h1 h2 H' e' => b.eo h1 h2 H' (e.trans e')⟩
theorem set_range {f f' : Nat → Int} {m k : Nat} {v : Int} (h1 : ∀ g, g ≠ k → f g = f' g) (h2 : f' k = v) : ((List.range m).map f).set k v = (List.range m).map f' := by
  apply List.ext_getElem
  · simp
  · intro i a b
    rw [List.getElem_set]
    simp only [List.getElem_map, List.getElem_range]
    by_cases e : k = i
    · rw [if_pos e, ← e, h2]
    · rw [if_neg e, h1 i fun z => e z.symm]
theorem gapAt_snoc {ns : List Int} {ts : List (List Int)} {t : List Int} {g : Nat} : gapAt ns (ts ++ [t]) g = gapAt ns ts g + over1 ns g t := by
  unfold gapAt
  rw [List.map_append, List.sum_append]
  simp
def longF (_ : Int) (ns : List Int) (ts : List (List Int)) : Int := maxOf (lens ns ts)
def mostF (n : Int) (ns : List Int) (ts : List (List Int)) : Int := maxOf (gapsL (n - 1).toNat ns ts)
def totF (_ : Int) (ns : List Int) (ts : List (List Int)) : Int := tot ns ts
theorem ite_str {a b : Str} {X Y : Prop} (h1 : a = b → X) (h2 : a ≠ b → Y) : if decide (V.str a = V.str b) = true then X else Y := by
  by_cases c : a = b
  · rw [decide_eq_true (congrArg V.str c)]
    exact iteT (h1 c)
  · rw [decide_eq_false fun z => c (V.str.inj z)]
    exact iteF (h2 c)
def spWhole : Sp := fun vs H Q _ => ∃ x, vs = [x] ∧ ((∃ i, x = .int i ∧ Q (.bl true) H) ∨ ∃ a xs, x = .ref a ∧ H a = some (.tup xs) ∧ Q (.bl false) H)
def isKind (kd : Str) : Prop := kd = "longest" ∨ kd = "most" ∨ kd = "total"
instance {kd : Str} : Decidable (isKind kd) := by unfold isKind; infer_instance
def spKind (A : Er) : Sp := fun vs H Q E => ∃ kd : Str, vs = [.str kd] ∧ kd.length ≤ 1000 ∧ (∀ c ∈ kd.cps.toList, c < 16 ^ 8) ∧ (isKind kd → Q .non H) ∧ (¬ isKind kd → E (.ref A.BadKind) none H)
theorem kinds_in (kd : Str) : inV (.str kd) [.str "longest", .str "most", .str "total"] = decide (isKind kd) := by
  have e : ∀ a b : Str, eqV (.str a) (.str b) = decide (b = a) := fun a b => by
    show (a == b) = _
    by_cases c : b = a
    · subst c; simp
    · rw [decide_eq_false c]; exact beq_eq_false_iff_ne.mpr fun z => c z.symm
  show (eqV (.str "longest") (.str kd) || (eqV (.str "most") (.str kd) || (eqV (.str "total") (.str kd) || false))) = _
  rw [e, e, e, Bool.or_false]
  unfold isKind
  by_cases c1 : kd = "longest" <;> by_cases c2 : kd = "most" <;> by_cases c3 : kd = "total" <;> simp [c1, c2, c3]
def cellI (ns : List Int) (k : Int) : Int := if ns = [] then 0 else ns.getD (k % (ns.length : Int)).toNat 0
def mixI (ns : List Int) (k : Int) : Int := (((cellI ns k + 104729 * (k + 1)) % 4294967291 * 48271 % 4294967279) / 64 * 69621 + (cellI ns k + 104729 * (k + 1)) % 4294967291 * 48271 % 4294967279) % 4294967231
theorem mixI_nonneg (ns : List Int) (k : Int) : 0 ≤ mixI ns k := Int.emod_nonneg _ (by decide)
theorem cell_at {ns : List Int} (h : ns ≠ []) (i : Int) : atI (ns.map V.int) (i % ((ns.map V.int).length : Int)) = some (.int (cellI ns i)) := by
  rw [List.length_map]
  have hl : 0 < ns.length := List.length_pos_iff.mpr h
  have h0 : 0 ≤ i % (ns.length : Int) := Int.emod_nonneg _ (by omega)
  have h1 : i % (ns.length : Int) < ns.length := Int.emod_lt_of_pos _ (by omega)
  have e : i % (ns.length : Int) = (((i % (ns.length : Int)).toNat : Nat) : Int) := by omega
  unfold cellI
  rw [if_neg h]
  have hj : (i % (ns.length : Int)).toNat < ns.length := by omega
  generalize (i % (ns.length : Int)).toNat = j at e hj ⊢
  rw [e]
  apply atI_nat
  rw [List.getElem?_map, List.getD_eq_getElem?_getD, List.getElem?_eq_getElem hj]
  rfl
def spCell (K : PySem.W.Frag) : Sp := fun vs H Q _ => ∃ (a : Addr) (ns : List Int) (k : Int), vs = [.ref a, .int k] ∧ SqL K H a (ns.map .int) ∧ Q (.int (cellI ns k)) H
def spMix (K : PySem.W.Frag) : Sp := fun vs H Q _ => ∃ (a : Addr) (ns : List Int) (k : Int), vs = [.ref a, .int k] ∧ SqL K H a (ns.map .int) ∧ Q (.int (mixI ns k)) H
theorem tiesOk_snoc {n : Int} {t : List Int} (h1 : tieOk n t = true) : ∀ {ts : List (List Int)} {b : List Int}, tiesOk n b ts = true → HT.lexLe (t.take 2) b = false → (∀ s ∈ ts, HT.lexLe (t.take 2) (s.take 2) = false) → tiesOk n b (ts ++ [t]) = true
  | [], b, _, h2, _ => by
    show tiesOk n b [t] = true
    unfold tiesOk
    rw [h1, h2]
    rfl
  | s :: r, b, h, h2, h3 => by
    unfold tiesOk at h
    rw [Bool.and_eq_true, Bool.and_eq_true] at h
    rw [List.cons_append]
    unfold tiesOk
    rw [h.1, h.2.1, tiesOk_snoc h1 h.2.2 (h3 s List.mem_cons_self) fun x hx => h3 x (List.mem_cons_of_mem _ hx)]
    rfl
theorem lexLe2 {a b c d : Int} : HT.lexLe [a, b] [c, d] = decide (a < c ∨ a = c ∧ b ≤ d) := by
  rw [HT.lexLe_cons, HT.lexLe_cons]
  by_cases e : a = c
  · rw [if_pos e]
    by_cases e2 : b = d
    · rw [if_pos e2, HT.lexLe_nil_nil]; exact (decide_eq_true (by omega)).symm
    · rw [if_neg e2]; exact decide_eq_decide.mpr (by omega)
  · rw [if_neg e]; exact decide_eq_decide.mpr (by omega)
structure TW (n i j : Int) (ts : List (List Int)) : Prop where
  ok : tiesOk n [-1, -1] ts = true
  lt : ∀ s ∈ ts, ∃ a b c, s = [a, b, c] ∧ (a < i ∨ a = i ∧ b < j)
theorem TW.later {n i j i' j' : Int} {ts : List (List Int)} (h : TW n i j ts) (e : i < i' ∨ i = i' ∧ j ≤ j') : TW n i' j' ts :=
  ⟨h.ok, fun s hs => by
    obtain ⟨a, b, c, h1, h2⟩ := h.lt s hs
    exact ⟨a, b, c, h1, by omega⟩⟩
theorem TW.add {n i j w : Int} {ts : List (List Int)} (h : TW n i j ts) (h0 : 0 ≤ i) (h1 : i < j) (h2 : j < n) (h3 : 1 ≤ w) (h4 : w ≤ 100) : TW n i (j + 1) (ts ++ [[i, j, w]]) := by
  refine ⟨tiesOk_snoc ?_ h.ok ?_ fun s hs => ?_, fun s hs => ?_⟩
  · rw [tieOk_eq]
    simp only [Bool.and_eq_true, decide_eq_true_eq]
    omega
  · show HT.lexLe [i, j] [-1, -1] = false
    rw [lexLe2]
    exact decide_eq_false (by omega)
  · obtain ⟨a, b, c, rfl, e⟩ := h.lt s hs
    show HT.lexLe [i, j] [a, b] = false
    rw [lexLe2]
    exact decide_eq_false (by omega)
  · rcases List.mem_append.mp hs with z | z
    · obtain ⟨a, b, c, e1, e2⟩ := h.lt s z
      exact ⟨a, b, c, e1, by omega⟩
    · exact ⟨i, j, w, by simpa using z, by omega⟩
theorem TW.nil {n : Int} : TW n 0 0 [] := ⟨rfl, fun s hs => by simp at hs⟩
theorem weights_at {i : Int} (h0 : 0 ≤ i) (h1 : i < 6) : ∃ w : Int, atI [V.int 1, V.int 1, V.int 2, V.int 3, V.int 7, V.int 100] i = some (.int w) ∧ 1 ≤ w ∧ w ≤ 100 := by
  have : i = 0 ∨ i = 1 ∨ i = 2 ∨ i = 3 ∨ i = 4 ∨ i = 5 := by omega
  rcases this with rfl | rfl | rfl | rfl | rfl | rfl
  · exact ⟨1, rfl, by decide, by decide⟩
  · exact ⟨1, rfl, by decide, by decide⟩
  · exact ⟨2, rfl, by decide, by decide⟩
  · exact ⟨3, rfl, by decide, by decide⟩
  · exact ⟨7, rfl, by decide, by decide⟩
  · exact ⟨100, rfl, by decide, by decide⟩
theorem webIn_of {n : Int} {ts : List (List Int)} (h : webOk n ts = true) (hl : ts.length ≤ 1000) : WebIn n ts := by
  obtain ⟨h0, h8, ht⟩ := webOk_of h
  refine ⟨by unfold small; omega, hl, fun t hm => ?_⟩
  obtain ⟨a, b, c, rfl, _⟩ := ht t hm
  refine ⟨by show 3 ≤ 100; decide, fun k hk => ?_⟩
  unfold small
  simp only [List.mem_cons, List.not_mem_nil, or_false] at hk
  rcases hk with rfl | rfl | rfl <;> omega
def spLWeb (K : PySem.W.Frag) : Sp := fun vs H Q _ => ∃ (a : Addr) (ns : List Int) (k m : Int), vs = [.ref a, .int k, .int m] ∧ SqL K H a (ns.map .int) ∧ 0 ≤ m ∧ m ≤ 8 ∧
  ∀ v H' n ts, Same H H' → Dat H' (webD n ts) v → webOk n ts = true → WebIn n ts → n ≤ m → ts.length ≤ 64 → Q v H'
theorem ordOk_perm {n : Nat} {os : List Int} (h : os.Perm (upto n)) : ordOk n os = true := by
  refine ordOk_mk (by rw [h.length_eq, upto_len]) (fun k hk => ?_) (h.nodup_iff.mpr ?_)
  · have := upto_mem.mp (h.mem_iff.mp hk)
    omega
  · unfold upto List.Nodup
    rw [List.pairwise_map]
    exact (List.pairwise_lt_range (n := n)).imp fun {a b} h => by omega
def spLLens : Sp := fun vs H Q _ => ∃ (v : V) (l : Addr) (n : Int) (ts : List (List Int)) (os : List Int), vs = [v, .ref l] ∧ Dat H (webD n ts) v ∧ H l = some (.lst (os.map .int)) ∧ webOk n ts = true ∧ WebIn n ts ∧ ordOk n os = true ∧
  ∀ p H', H p = none → Same H H' → H' p = some (.lst ((lens os ts).map .int)) → Q (.ref p) H'
def spLGaps : Sp := fun vs H Q _ => ∃ (v : V) (l : Addr) (n : Int) (ts : List (List Int)) (os : List Int), vs = [v, .ref l] ∧ Dat H (webD n ts) v ∧ H l = some (.lst (os.map .int)) ∧ webOk n ts = true ∧ WebIn n ts ∧ ordOk n os = true ∧
  ∀ p H', H p = none → Same H H' → H' p = some (.lst ((gapsL (n - 1).toNat os ts).map .int)) → Q (.ref p) H'
theorem flat_ints (ns : List Int) : (ns.map V.int).all flatV = true := List.all_eq_true.mpr fun x hx => by
  obtain ⟨i, _, rfl⟩ := List.mem_map.mp hx
  rfl
theorem sorted2 {a b : Nat} {ms : List Int} (hp : ms.Perm [(a : Int), (b : Int)]) (hs : ms.Pairwise (· ≤ ·)) : ms = [((min a b : Nat) : Int), ((max a b : Nat) : Int)] := by
  have hl := hp.length_eq
  match ms, hl with
  | [x, y], _ =>
    have h1 : x ≤ y := by
      have := List.pairwise_cons.mp hs
      exact this.1 y (by simp)
    have hx : x ∈ [(a : Int), (b : Int)] := hp.mem_iff.mp (by simp)
    have : x = a ∨ x = b := by simpa using hx
    have hy : (x = a ∧ y = b) ∨ (x = b ∧ y = a) := by
      rcases this with rfl | rfl
      · have := (List.singleton_perm_singleton.mp hp.cons_inv)
        exact .inl ⟨rfl, this⟩
      · have := (List.singleton_perm_singleton.mp (hp.trans (List.Perm.swap _ _ _)).cons_inv)
        exact .inr ⟨rfl, this⟩
    have e1 : x = ((min a b : Nat) : Int) := by omega
    have e2 : y = ((max a b : Nat) : Int) := by omega
    rw [e1, e2]
def refWord (A : Er) (C : Addr) (x : Str) : Prop := (C = A.BadKind ∧ x = "kind") ∨ (C = A.BadOrder ∧ x = "order") ∨ (C = A.BadSpot ∧ x = "spot") ∨ (C = A.BadText ∧ x = "text") ∨ (C = A.BadWeb ∧ x = "web")
def spRef (A : Er) : Sp := fun vs H Q _ => ∃ x, vs = [x] ∧ ((x = .non ∧ Q (.str "ok") H) ∨ ∃ a C y, x = .ref a ∧ H a = some (excO a C) ∧ refWord A C y ∧ ∀ H', Same H H' → Q (.str y) H')
theorem iteDT {c X Y : Prop} [Decidable c] (hc : c) (h : X) : if decide c = true then X else Y := by rw [decide_eq_true hc]; exact iteT h
theorem iteDF {c X Y : Prop} [Decidable c] (hc : ¬ c) (h : Y) : if decide c = true then X else Y := by rw [decide_eq_false hc]; exact iteF h
theorem refWord.web {A : Er} : refWord A A.BadWeb "web" := .inr (.inr (.inr (.inr ⟨rfl, rfl⟩)))
theorem refWord.order {A : Er} : refWord A A.BadOrder "order" := .inr (.inl ⟨rfl, rfl⟩)
theorem refWord.kind {A : Er} : refWord A A.BadKind "kind" := .inl ⟨rfl, rfl⟩
theorem refWord.spot {A : Er} : refWord A A.BadSpot "spot" := .inr (.inr (.inl ⟨rfl, rfl⟩))
theorem refWord.text {A : Er} : refWord A A.BadText "text" := .inr (.inr (.inr (.inl ⟨rfl, rfl⟩)))
def Told (A : Er) (H : Hp) (Q : VK) : XK := fun Cv _ H1 => ∃ y C, Same H H1 ∧ Cv = .ref C ∧ refWord A C y ∧ ∀ H', Same H1 H' → Q (.str y) H'
theorem cut_drop {xs : List V} {k : Nat} : cutV xs (some (k : Int)) none = xs.drop k := by
  unfold cutV
  rw [HT.sIx_none, HT.sIx_nat]
  rw [List.take_of_length_le (by rw [List.length_drop]; omega)]
  by_cases c : k ≤ xs.length
  · rw [Nat.min_eq_left c]
  · rw [Nat.min_eq_right (by omega), List.drop_length, List.drop_of_length_le (by omega)]
theorem lay_ints (ns : List Int) : PyData.canLayAll0 (ns.map .int) = true := by
  induction ns with
  | nil => rfl
  | cons a r ih => show (PyData.canLay0 (.int a) && PyData.canLayAll0 (r.map .int)) = true; rw [ih]; rfl
theorem depth_ints (ns : List Int) : PyData.depthAll (ns.map .int) = 0 := by
  induction ns with
  | nil => rfl
  | cons a r ih => show max (PyData.depth (.int a)) (PyData.depthAll (r.map .int)) = 0; rw [ih]; rfl
theorem ite_ne_same {d : PyData} {X Y : Prop} (hc : d.canLay0 = true) (h : Y) : if (if true = true then !PyData.eqv d d else PyData.eqv d d) = true then X else Y := by
  rw [if_pos (rfl : true = true), SeqAt.eqv_refl d hc]; exact iteF h
theorem eq_same {d : PyData} (hc : d.canLay0 = true) : (if false = true then !PyData.eqv d d else PyData.eqv d d) = true := by
  rw [if_neg Bool.false_ne_true, SeqAt.eqv_refl d hc]
theorem nodup_upto (n : Nat) : (upto n).Nodup := by
  unfold upto List.Nodup
  rw [List.pairwise_map]
  exact (List.pairwise_lt_range (n := n)).imp fun {a b} h => by omega
theorem new_pair {H : Hp} {p : Addr} {o : HO} (h : H p = none) : Same H (upd H p o) ∧ upd H p o p = some o := ⟨same_new h, upd_same⟩
end My
set_option Elab.async false
set_option linter.all false
set_option maxRecDepth 100000
set_option maxHeartbeats 4000000
namespace PySem.F
end PySem.F
namespace L2
open PySem PySem.Spec PyProof.Rows
section
variable {prog : Program} {w : World} {A : Around} {E : Value → Shared → Prop} {s : Shared}
end
section
variable {X : Cx}
end
end L2
set_option Elab.async false
set_option linter.all false
set_option maxRecDepth 100000
set_option maxHeartbeats 4000000
namespace My
open PySem L2 PySem.Spec PyProof.Rows
def inR (ns : List Int) (i j : Int) : Prop := (0 ≤ i ∧ i < ns.length) ∧ 0 ≤ j ∧ j < ns.length
instance {ns : List Int} {i j : Int} : Decidable (inR ns i j) := by unfold inR; infer_instance
theorem getD_at {ns : List Int} {i : Nat} (h : i < ns.length) : ns.getD i 0 = ns[i] := by rw [List.getD_eq_getElem?_getD, List.getElem?_eq_getElem h]; rfl
def mask2 (x p : Addr) (H : Hp) : Hp := mask p (mask x H)
section
variable {H H' : Hp} {x p b : Addr} {o : HO}
theorem mask2_some {u : HO} (h : mask2 x p H b = some u) : b ≠ x ∧ b ≠ p ∧ H b = some u := by
  obtain ⟨h1, h2⟩ := mask_some h
  obtain ⟨h3, h4⟩ := mask_some h2
  exact ⟨h3, h1, h4⟩
theorem mask2_at {u : HO} (h1 : b ≠ x) (h2 : b ≠ p) (h : H b = some u) : mask2 x p H b = some u := by
  unfold mask2
  rw [mask_ne h2, mask_ne h1]
  exact h
end
def mask3 (Z : Addr → Bool) (x p : Addr) (H : Hp) : Hp := fun b => if Z b = true then none else mask2 x p H b
section
variable {Z : Addr → Bool} {H H' : Hp} {x p b : Addr} {o : HO}
theorem mask3_some {u : HO} (h : mask3 Z x p H b = some u) : b ≠ x ∧ b ≠ p ∧ H b = some u ∧ Z b = false := by
  unfold mask3 at h
  cases z : Z b with
  | true => rw [z, if_pos rfl] at h; cases h
  | false =>
    rw [z, if_neg Bool.false_ne_true] at h
    obtain ⟨h1, h2, h3⟩ := mask2_some h
    exact ⟨h1, h2, h3, rfl⟩
theorem mask3_at {u : HO} (h1 : b ≠ x) (h2 : b ≠ p) (hz : Z b = false) (h : H b = some u) : mask3 Z x p H b = some u := by
  unfold mask3
  rw [hz, if_neg Bool.false_ne_true]
  exact mask2_at h1 h2 h
theorem mask3_same : Same (mask3 Z x p H) H := fun _ _ h => (mask3_some h).2.2.1
theorem mask3_mono (e : Same H H') : Same (mask3 Z x p H) (mask3 Z x p H') := fun _ _ h => by
  obtain ⟨h1, h2, h3, h4⟩ := mask3_some h
  exact mask3_at h1 h2 h4 (e _ _ h3)
end
section
variable {H H1 H2 H' : Hp} {b x pa : Addr}
theorem ties_mono (e : ∀ c ys, H c = some (.tup ys) → H' c = some (.tup ys)) : ∀ {ts : List (List Int)} {xs : List V}, DatL H (ts.map tieD) xs → DatL H' (ts.map tieD) xs
  | [], _, h => by rw [h.unnil]; exact DatL.nil
  | t :: ts, _, h => by
    obtain ⟨y, ys, rfl, r, q⟩ := h.uncons
    obtain ⟨a, rfl, z⟩ := Dat.intsT_of r
    exact DatL.cons (Dat.intsT (e _ _ z)) (ties_mono e q)
end
def laidF (wa ra pa : Addr) : List (Str × V) := putF "past" (.ref pa) (putF "row" (.ref ra) (putF "web" (.ref wa) []))
structure LaidAt (Z : Addr → Bool) (C : Addr) (H : Hp) (x pa : Addr) (n : Int) (ts : List (List Int)) (cur : List Int) (past : List (List Int)) : Prop where
  ex : ∃ (dx wa ra : Addr) (ps : List V), H x = some (.ins C dx (laidF wa ra pa)) ∧ H pa = some (.lst ps) ∧ Dat (mask3 Z x pa H) (webD n ts) (.ref wa) ∧ mask3 Z x pa H ra = some (.lst (cur.map .int)) ∧ DatL (mask3 Z x pa H) (past.map ordD) ps
abbrev Z0 : Addr → Bool := fun _ => false
section
variable {Z : Addr → Bool} {C : Addr} {H H' : Hp} {x pa : Addr} {n : Int} {ts : List (List Int)} {cur : List Int} {past : List (List Int)}
theorem LaidAt.later (h : LaidAt Z C H x pa n ts cur past) (e : Same H H') : LaidAt Z C H' x pa n ts cur past := by
  obtain ⟨dx, wa, ra, ps, h1, h2, h3, h4, h5⟩ := h.ex
  exact ⟨dx, wa, ra, ps, e _ _ h1, e _ _ h2, h3.mono (mask3_mono e), mask3_mono e _ _ h4, h5.mono (mask3_mono e)⟩
theorem LaidAt.all (h : LaidAt Z C H x pa n ts cur past) : LaidAt Z0 C H x pa n ts cur past := by
  obtain ⟨dx, wa, ra, ps, h1, h2, h3, h4, h5⟩ := h.ex
  have e : Same (mask3 Z x pa H) (mask3 Z0 x pa H) := fun b u q => by
    obtain ⟨q1, q2, q3, _⟩ := mask3_some q
    exact mask3_at q1 q2 rfl q3
  exact ⟨dx, wa, ra, ps, h1, h2, h3.mono e, e _ _ h4, h5.mono e⟩
theorem LaidAt.put {l : Addr} {o : HO} (h : LaidAt (fun b => decide (b = l)) C H x pa n ts cur past) (h1 : x ≠ l) (h2 : pa ≠ l) : LaidAt (fun b => decide (b = l)) C (upd H l o) x pa n ts cur past := by
  obtain ⟨dx, wa, ra, ps, q1, q2, q3, q4, q5⟩ := h.ex
  have e : Same (mask3 (fun b => decide (b = l)) x pa H) (mask3 (fun b => decide (b = l)) x pa (upd H l o)) := fun b u q => by
    obtain ⟨r1, r2, r3, r4⟩ := mask3_some q
    exact mask3_at r1 r2 r4 (by rw [upd_ne (of_decide_eq_false r4)]; exact r3)
  exact ⟨dx, wa, ra, ps, (upd_ne h1).trans q1, (upd_ne h2).trans q2, q3.mono e, e _ _ q4, q5.mono e⟩
theorem LaidAt.at (h : LaidAt Z C H x pa n ts cur past) : ∃ (dx wa ra : Addr), H x = some (.ins C dx (laidF wa ra pa)) ∧ Dat H (webD n ts) (.ref wa) ∧ H ra = some (.lst (cur.map .int)) := by
  obtain ⟨dx, wa, ra, ps, h1, h2, h3, h4, h5⟩ := h.ex
  exact ⟨dx, wa, ra, h1, h3.mono mask3_same, mask3_same _ _ h4⟩
end
structure LaidOk (C : Addr) (H : Hp) (x : Addr) (n : Int) (ts : List (List Int)) (cur : List Int) : Prop where
  at_ : ∃ pa past, LaidAt Z0 C H x pa n ts cur past
  web : webOk n ts = true
  win : WebIn n ts
  ord : ordOk n cur = true
  oin : OrdIn cur
def spLMeas : Sp := fun vs H Q _ => ∃ (v : V) (kd : Str) (l : Addr) (n : Int) (ts : List (List Int)) (os : List Int), vs = [v, .str kd, .ref l] ∧ Dat H (webD n ts) v ∧ H l = some (.lst (os.map .int)) ∧ webOk n ts = true ∧ WebIn n ts ∧ ts.length ≤ 64 ∧ ordOk n os = true ∧
  (kd = "longest" → ∀ H', Same H H' → Q (.int (longF n os ts)) H') ∧ (kd = "most" → ∀ H', Same H H' → Q (.int (mostF n os ts)) H') ∧ (kd ≠ "longest" → kd ≠ "most" → ∀ H', Same H H' → Q (.int (totF n os ts)) H')
end My
set_option Elab.async false
set_option linter.all false
set_option maxRecDepth 100000
set_option maxHeartbeats 4000000
namespace L2
open PySem PySem.Spec PyProof.Rows
section
variable {X : Cx}
def IsMin (ns : List Int) (m : Int) : Prop := m ∈ ns ∧ ∀ a ∈ ns, m ≤ a
theorem IsMin.uniq {ns : List Int} {m m' : Int} (h : IsMin ns m) (h' : IsMin ns m') : m = m' := Int.le_antisymm (h.2 _ h'.1) (h'.2 _ h.1)
theorem numAt_min {ys : Array (Int × Tok)} {ns : List Int} (hns : ns = ys.toList.map (·.1)) (hs : 0 < ys.size) : IsMin ns (numAt ys (argBest (fun i j => decide (numAt ys i < numAt ys j)) (ys.size - 1))) := by
  obtain ⟨h1, h2⟩ := argBest_lt (numAt ys) (ys.size - 1)
  constructor
  · rw [hns, numAt_eq]
    exact getD_mem (by rw [List.length_map, Array.length_toList]; omega)
  · intro a ha
    rw [hns] at ha
    obtain ⟨j, hj, rfl⟩ := mem_getD ha
    rw [List.length_map, Array.length_toList] at hj
    rw [← numAt_eq]
    exact h2 j (by omega)
theorem call_minL (hc : X.calm = true) : CallR X (.builtin "min") (fun xs H Q => ∃ (p : Addr) (ns : List Int), xs = [.ref p] ∧ SqL X.K H p (ns.map .int) ∧ ns ≠ [] ∧ ∀ M, IsMin ns M → Q (.int M) H) := by
  intro pins s σ H xs us Q I r h
  obtain ⟨p, ns, rfl, hq, hne, q⟩ := h
  obtain ⟨u, rfl, ru⟩ := vals1 r
  cases ru
  obtain ⟨its, rv, pl, hz⟩ := I.list hq
  obtain ⟨ys, e, hns⟩ := items_ints (intsAre_of rv)
  have hs : 0 < ys.size := by
    have : 0 < ns.length := List.length_pos_iff.mpr hne
    rw [hns, List.length_map, Array.length_toList] at this
    exact this
  refine min_intList (I.ok.hd hc) (by rw [← e]; exact pl.isList) hs fun v h1 tk hv kk => ?_
  obtain ⟨t, rfl⟩ := intItems_at hv
  exact ⟨.int _, H, I.kept kk, ⟨t, rfl⟩, q _ (numAt_min hns hs)⟩
def rBits : V → List V → Hp → VK → Prop := fun x vs H Q => ∃ i : Int, x = .int i ∧ vs = [] ∧ Q (.int (Builtin.Int.intBits i : Nat)) H
theorem mt_bits : MtR X "int.bit_length" rBits := by
  intro pins s σ H x vs v us Q I rx rv h
  obtain ⟨i, rfl, rfl, q⟩ := h
  obtain ⟨t, rfl⟩ := rx
  cases rv
  exact wpAny_call_entry PySem.F.slot_int_bit_length (typeIs_int s i t) PySem.F.entry_int_bit_length (show wpAny _ _ (do ret (← mkInt (Builtin.Int.intBits i : Nat))) _ _ s from wpAny_ret_mkInt ⟨.int _, H, I.tok _, ⟨_, rfl⟩, q⟩) (PySem.F.args_int_bit_length_1 _)
end
theorem lcf_in {J : It} {g : TG} {tt : TT} {te : TE} {H1 : Hp} {σ0 : St} {QD : Addr → Hp → Prop} (S : St → Prop) (n : Nat) (c : Nat → Bool) (d : Nat → PyData) (s0 : S σ0) (hgo : ∀ i H2, i < n → Same H1 H2 → J.go i H2) (hstop : ∀ H2, Same H1 H2 → J.stop n H2) (hn : n ≤ sizeLine)
    (step : ∀ D i x σ2 H2 H3 (Y : V → St → Hp → Prop) (Z : St → Hp → Prop), i < n → Same H1 H2 → (∃ ys, H2 D = some (.lst ys)) → S σ2 → J.yld i H2 x H3 → (∀ y σ4 H6, c i = true → S σ4 → Same H2 H6 → Dat (mask D H6) (d i) y → Y y σ4 H6) →
      (∀ σ4 H5, c i = false → S σ4 → Same H2 H5 → Z σ4 H5) → g x σ2 H3 fun σ4 H4 => tt σ4 H4 fun b H5 => if b = true then te σ4 H5 fun y H6 => Y y σ4 H6 else Z σ4 H5)
    (fin : ∀ D ys H2, H1 D = none → Same H1 H2 → H2 D = some (.lst ys) → DatL (mask D H2) (((List.range n).filter c).map d) ys → QD D H2) :
    ∀ D, H1 D = none → ∃ W : Nat → Nat → St → Hp → Prop, (∃ m, W 0 m σ0 (upd H1 D (.lst []))) ∧
      ∀ i m σ2 H2, W i m σ2 H2 → (J.stop i H2 ∧ QD D H2) ∨ (J.go i H2 ∧ ∀ x H3, J.yld i H2 x H3 → g x σ2 H3 fun σ4 H4 => tt σ4 H4 fun b H5 =>
        if b = true then te σ4 H5 fun y H6 => ∃ xs, H6 D = some (.lst xs) ∧ xs.length < sizeLine ∧ ∃ m', m' < m ∧ W (i + 1) m' σ4 (upd H6 D (.lst (xs ++ [y]))) else ∃ m', m' < m ∧ W (i + 1) m' σ4 H5) := by
  intro D hD
  refine ⟨fun i m σ2 H2 => i + m = n ∧ S σ2 ∧ Same H1 H2 ∧ ∃ ys, H2 D = some (.lst ys) ∧ DatL (mask D H2) (((List.range i).filter c).map d) ys, ⟨n, by omega, s0, same_new hD, [], upd_same, .nil⟩, ?_⟩
  intro i m σ2 H2 ⟨hi, hs, e, ys, hy, dl⟩
  by_cases h : i < n
  · refine .inr ⟨hgo i H2 h e, fun x H3 yl => ?_⟩
    have hl := dl.length
    have hle : ((List.range i).filter c).length ≤ i := Nat.le_trans (List.length_filter_le _ _) (by rw [List.length_range]; exact Nat.le_refl _)
    rw [List.length_map] at hl
    refine step D i x σ2 H2 H3 (fun y σ4 H6 => ∃ xs, H6 D = some (.lst xs) ∧ xs.length < sizeLine ∧ ∃ m', m' < m ∧ _) (fun σ4 H5 => ∃ m', m' < m ∧ _) h e ⟨ys, hy⟩ hs yl (fun y σ4 H6 hc s4 e6 dy => ?_) fun σ4 H5 hc s4 e5 => ?_
    · refine ⟨ys, e6 _ _ hy, by omega, m - 1, by omega, by omega, s4, (e.trans e6).put hD, ys ++ [y], upd_same, ?_⟩
      rw [mask_upd, List.range_succ, List.filter_append, List.map_append]
      have z : (List.filter c [i]) = [i] := by rw [List.filter_cons, if_pos hc]; rfl
      rw [z]
      exact (dl.mono (mask_mono e6)).snoc dy
    · refine ⟨m - 1, by omega, by omega, s4, e.trans e5, ys, e5 _ _ hy, ?_⟩
      have z : (List.filter c [i]) = [] := by rw [List.filter_cons, if_neg (by rw [hc]; exact Bool.false_ne_true)]; rfl
      rw [List.range_succ, List.filter_append, z, List.append_nil]
      exact dl.mono (mask_mono e5)
  · have hin : i = n := by omega
    subst hin
    exact .inl ⟨hstop H2 e, fin D ys H2 hD e hy dl⟩
section
variable {X : Cx} {a b : Expr} {rest : List Expr} {ta tb : TE} {pos : Pos}
end
section
variable {X : Cx} {K : PySem.W.Frag}
theorem op_notIn_seqK (hK : X.K = K) : OpR X (compareOp .NotIn) (rIn K true) := hK ▸ op_notIn_seq
end
end L2
set_option Elab.async false
set_option linter.all false
set_option maxRecDepth 100000
set_option maxHeartbeats 4000000
namespace My
open PySem L2 PySem.Spec PyProof.Rows
def bit (S p : Nat) : Bool := S / 2 ^ p % 2 == 1
theorem bit_high {S p : Nat} (h : S < 2 ^ p) : bit S p = false := by
  unfold bit
  rw [Nat.div_eq_of_lt h]
  rfl
theorem bit_out {n S p : Nat} (h : S < 2 ^ n) (hp : n ≤ p) : bit S p = false := bit_high (Nat.lt_of_lt_of_le h (Nat.pow_le_pow_right (by decide) hp))
theorem lt32 {n S : Nat} (hn : n ≤ 5) (h : S < 2 ^ n) : S < 32 := Nat.lt_of_lt_of_le h (show 2 ^ n ≤ 2 ^ 5 from Nat.pow_le_pow_right (by decide) hn)
theorem bits_put : ∀ S < 32, ∀ p < 5, ∀ q < 5, bit S p = false → bit (S + 2 ^ p) q = (decide (q = p) || bit S q) := by decide +kernel
theorem bits_lt : ∀ n < 6, ∀ S < 2 ^ n, ∀ p < n, bit S p = false → S + 2 ^ p < 2 ^ n := by decide +kernel
theorem bits_off : ∀ S < 32, ∀ p < 5, bit S p = true → 2 ^ p ≤ S ∧ bit (S - 2 ^ p) p = false := by decide +kernel
theorem bits_full : ∀ n < 6, ∀ q < n, bit (2 ^ n - 1) q = true := by decide +kernel
theorem bits_ext : ∀ S < 32, ∀ S' < 32, (∀ q < 5, bit S q = bit S' q) → S = S' := by decide +kernel
theorem bits_some : ∀ S < 32, S ≠ 0 → ∃ p, p < 5 ∧ bit S p = true := by decide +kernel
theorem bit_off {n S p : Nat} (hn : n ≤ 5) (h : S < 2 ^ n) (hb : bit S p = true) : p < n ∧ 2 ^ p ≤ S ∧ bit (S - 2 ^ p) p = false := by
  have hp : p < n := by
    by_cases c : p < n
    · exact c
    · rw [bit_out h (by omega)] at hb
      cases hb
  exact ⟨hp, bits_off S (lt32 hn h) p (by omega) hb⟩
theorem two_pos (p : Nat) : 1 ≤ 2 ^ p := Nat.one_le_two_pow
def spots (m S : Nat) : List Nat := (List.range m).filter (bit S)
def fewer (m S : Nat) : List Nat := (spots m S).map fun p => S - 2 ^ p
theorem spots_more {S : Nat} : ∀ {m j : Nat}, (∀ p, m ≤ p → bit S p = false) → spots (m + j) S = spots m S
  | m, 0, _ => rfl
  | m, j + 1, h => by
    have := spots_more (j := j) h
    unfold spots at this ⊢
    rw [← Nat.add_assoc, List.range_succ, List.filter_append, this, List.filter_cons, if_neg (by rw [h _ (by omega)]; exact Bool.false_ne_true)]
    exact List.append_nil _
theorem spots_any {n m S : Nat} (h : S < 2 ^ n) (hm : S < 2 ^ m) : spots m S = spots n S := by
  rcases Nat.le_total n m with c | c
  · obtain ⟨j, rfl⟩ := Nat.exists_eq_add_of_le c
    exact spots_more fun p hp => bit_out h hp
  · obtain ⟨j, rfl⟩ := Nat.exists_eq_add_of_le c
    exact (spots_more fun p hp => bit_out hm hp).symm
theorem spots_mem {m S p : Nat} : p ∈ spots m S ↔ p < m ∧ bit S p = true := by
  unfold spots
  rw [List.mem_filter, List.mem_range]
theorem fewer_lt {m S f : Nat} (hS : S < 32) (hm : m ≤ 5) (h : f ∈ fewer m S) : f < S := by
  unfold fewer at h
  obtain ⟨p, hp, rfl⟩ := List.mem_map.mp h
  obtain ⟨h1, h2⟩ := spots_mem.mp hp
  have := (bits_off S hS p (by omega) h2).1
  have := two_pos p
  omega
theorem fewer_ne {n S : Nat} (hn : n ≤ 5) (h : S < 2 ^ n) (h0 : S ≠ 0) : fewer n S ≠ [] := by
  obtain ⟨p, h1, h2⟩ := bits_some S (lt32 hn h) h0
  have hp := (bit_off hn h h2).1
  unfold fewer
  intro e
  have : spots n S = [] := List.map_eq_nil_iff.mp e
  have hm := spots_mem.mpr ⟨hp, h2⟩
  rw [this] at hm
  cases hm
theorem intBits_lt (S : Nat) : S < 2 ^ Builtin.Int.intBits (S : Int) := by
  unfold Builtin.Int.intBits
  by_cases c : (S : Int) = 0
  · rw [if_pos (by rw [c]; rfl)]
    omega
  · rw [if_neg (fun z => c (eq_of_beq z))]
    show S < 2 ^ (S.log2 + 1)
    exact Nat.lt_log2_self
def cut1 (S : Nat) : List Int → Int
  | [a, b, c] => if bit S a.toNat = bit S b.toNat then 0 else c
  | _ => 0
def cutZ (ts : List (List Int)) (S : Nat) : Int := (ts.map (cut1 S)).sum
def minL : List Int → Int
  | [] => 0
  | a :: r => r.foldr min a
theorem foldr_min (r : List Int) (a : Int) : IsMin (a :: r) (r.foldr min a) := by
  induction r with
  | nil => exact ⟨List.mem_singleton.mpr rfl, fun b hb => by rw [List.mem_singleton.mp hb]; exact Int.le_refl _⟩
  | cons c r ih =>
    obtain ⟨h1, h2⟩ := ih
    show IsMin _ (min c (r.foldr min a))
    constructor
    · rcases Int.le_total c (r.foldr min a) with z | z
      · rw [Int.min_eq_left z]
        exact .tail _ (.head _)
      · rw [Int.min_eq_right z]
        rcases List.mem_cons.mp h1 with e | e
        · rw [e]; exact .head _
        · exact .tail _ (.tail _ e)
    · intro b hb
      rcases List.mem_cons.mp hb with rfl | hb
      · exact Int.le_trans (Int.min_le_right _ _) (h2 _ (.head _))
      · rcases List.mem_cons.mp hb with rfl | hb
        · exact Int.min_le_left _ _
        · exact Int.le_trans (Int.min_le_right _ _) (h2 _ (.tail _ hb))
theorem minL_is {ns : List Int} (h : ns ≠ []) : IsMin ns (minL ns) := by
  cases ns with
  | nil => exact absurd rfl h
  | cons a r => exact foldr_min r a
def prs (n : Nat) (ts : List (List Int)) : Nat → List Int
  | 0 => []
  | 1 => [0]
  | k + 2 => prs n ts (k + 1) ++ [minL ((fewer n (k + 1)).map fun f => (prs n ts (k + 1)).getD f 0) + cutZ ts (k + 1)]
theorem prs_len (n : Nat) (ts : List (List Int)) : ∀ k, (prs n ts k).length = k
  | 0 => rfl
  | 1 => rfl
  | k + 2 => by
    unfold prs
    rw [List.length_append, prs_len n ts (k + 1)]
    rfl
def price (n : Nat) (ts : List (List Int)) (S : Nat) : Int := (prs n ts (S + 1)).getD S 0
theorem getD_append_left {as bs : List Int} {i : Nat} (h : i < as.length) : (as ++ bs).getD i 0 = as.getD i 0 := by
  rw [List.getD_eq_getElem?_getD, List.getD_eq_getElem?_getD, List.getElem?_append_left h]
theorem prs_get {n : Nat} {ts : List (List Int)} {S : Nat} : ∀ {k : Nat}, S < k → (prs n ts k).getD S 0 = price n ts S
  | 0, h => absurd h (Nat.not_lt_zero _)
  | 1, h => by
    obtain rfl : S = 0 := by omega
    rfl
  | k + 2, h => by
    by_cases c : S < k + 1
    · show ((prs n ts (k + 1)) ++ _).getD S 0 = _
      rw [getD_append_left (by rw [prs_len]; exact c)]
      exact prs_get c
    · obtain rfl : S = k + 1 := by omega
      rfl
theorem price_succ {n : Nat} {ts : List (List Int)} {S : Nat} (hn : n ≤ 5) (hS : S < 2 ^ n) (h0 : S ≠ 0) : price n ts S = minL ((fewer n S).map (price n ts)) + cutZ ts S := by
  obtain ⟨k, rfl⟩ : ∃ k, S = k + 1 := ⟨S - 1, by omega⟩
  have e : (fewer n (k + 1)).map (fun f => (prs n ts (k + 1)).getD f 0) = (fewer n (k + 1)).map (price n ts) :=
    List.map_congr_left fun f hf => prs_get (fewer_lt (lt32 hn hS) hn hf)
  unfold price
  show (prs n ts (k + 1) ++ [_]).getD (k + 1) 0 = _
  rw [List.getD_eq_getElem?_getD, List.getElem?_append_right (by rw [prs_len]; exact Nat.le_refl _), prs_len, Nat.sub_self]
  show minL ((fewer n (k + 1)).map fun f => (prs n ts (k + 1)).getD f 0) + cutZ ts (k + 1) = _
  rw [e]
  rfl
def setOf : List Int → Nat
  | [] => 0
  | p :: r => setOf r + 2 ^ p.toNat
theorem setOf_bits {n : Nat} (hn : n ≤ 5) : ∀ {ps : List Int}, ps.Nodup → (∀ p ∈ ps, 0 ≤ p ∧ p < n) → setOf ps < 2 ^ n ∧ ∀ q : Nat, q < n → bit (setOf ps) q = decide ((q : Int) ∈ ps)
  | [], _, _ => ⟨Nat.two_pow_pos n, fun q hq => by
      rw [decide_eq_false (fun z => nomatch z)]
      exact bit_high (Nat.two_pow_pos q)⟩
  | p :: r, hd, hb => by
    obtain ⟨h1, h2⟩ := List.nodup_cons.mp hd
    obtain ⟨a, b⟩ := setOf_bits hn h2 fun x hx => hb x (.tail _ hx)
    obtain ⟨p0, p1⟩ := hb p (.head _)
    have hpn : p.toNat < n := by omega
    have hf : bit (setOf r) p.toNat = false := by
      rw [b _ hpn, Int.toNat_of_nonneg p0]
      exact decide_eq_false h1
    refine ⟨bits_lt n (by omega) _ a _ hpn hf, fun q hq => ?_⟩
    show bit (setOf r + 2 ^ p.toNat) q = _
    rw [bits_put _ (lt32 hn a) _ (by omega) q (by omega) hf, b q hq]
    by_cases c : q = p.toNat
    · rw [decide_eq_true c, decide_eq_true (List.mem_cons.mpr (.inl (by omega)))]
      rfl
    · rw [decide_eq_false c, Bool.false_or]
      by_cases m : (q : Int) ∈ r
      · rw [decide_eq_true m, decide_eq_true (List.mem_cons.mpr (.inr m))]
      · rw [decide_eq_false m, decide_eq_false fun z => (List.mem_cons.mp z).elim (fun e => c (by omega)) m]
def way (ts : List (List Int)) : List Int → Int
  | [] => 0
  | p :: r => way ts r + cutZ ts (setOf (p :: r))
theorem way_most {n : Nat} (hn : n ≤ 5) {ts : List (List Int)} {T : Nat → Int} (h0 : T 0 ≤ 0) (hT : ∀ S p, S < 2 ^ n → p < n → bit S p = false → T (S + 2 ^ p) ≤ T S + cutZ ts (S + 2 ^ p)) :
    ∀ {ps : List Int}, ps.Nodup → (∀ p ∈ ps, 0 ≤ p ∧ p < n) → T (setOf ps) ≤ way ts ps
  | [], _, _ => h0
  | p :: r, hd, hb => by
    obtain ⟨h1, h2⟩ := List.nodup_cons.mp hd
    have ih := way_most hn h0 hT h2 fun x hx => hb x (.tail _ hx)
    obtain ⟨a, b⟩ := setOf_bits hn h2 fun x hx => hb x (.tail _ hx)
    obtain ⟨p0, p1⟩ := hb p (.head _)
    have hpn : p.toNat < n := by omega
    have hf : bit (setOf r) p.toNat = false := by
      rw [b _ hpn, Int.toNat_of_nonneg p0]
      exact decide_eq_false h1
    have := hT (setOf r) p.toNat a hpn hf
    show T (setOf r + 2 ^ p.toNat) ≤ way ts r + cutZ ts (setOf r + 2 ^ p.toNat)
    omega
theorem price_step {n : Nat} (hn : n ≤ 5) {ts : List (List Int)} {S p : Nat} (hS : S < 2 ^ n) (hp : p < n) (hb : bit S p = false) : price n ts (S + 2 ^ p) ≤ price n ts S + cutZ ts (S + 2 ^ p) := by
  have hlt := bits_lt n (by omega) S hS p hp hb
  have h0 : S + 2 ^ p ≠ 0 := by have := two_pos p; omega
  rw [price_succ hn hlt h0]
  have hbp : bit (S + 2 ^ p) p = true := by
    rw [bits_put S (lt32 hn hS) p (by omega) p (by omega) hb, decide_eq_true rfl]
    rfl
  have hm : S ∈ fewer n (S + 2 ^ p) := by
    unfold fewer
    exact List.mem_map.mpr ⟨p, spots_mem.mpr ⟨hp, hbp⟩, by omega⟩
  have := (minL_is (ns := (fewer n (S + 2 ^ p)).map (price n ts)) (fun e => by rw [List.map_eq_nil_iff.mp e] at hm; cases hm)).2 _ (List.mem_map.mpr ⟨S, hm, rfl⟩)
  omega
theorem price_way {n : Nat} (hn : n ≤ 5) {ts : List (List Int)} : ∀ (k S : Nat), S ≤ k → S < 2 ^ n → ∃ ps : List Int, ps.Nodup ∧ (∀ p ∈ ps, 0 ≤ p ∧ p < n) ∧ setOf ps = S ∧ way ts ps = price n ts S
  | 0, S, hk, _ => by
    obtain rfl : S = 0 := by omega
    exact ⟨[], List.nodup_nil, fun p h => absurd h List.not_mem_nil, rfl, rfl⟩
  | k + 1, S, hk, hS => by
    by_cases c : S = 0
    · subst c
      exact ⟨[], List.nodup_nil, fun p h => absurd h List.not_mem_nil, rfl, rfl⟩
    · have hne := fewer_ne hn hS c
      obtain ⟨hm, _⟩ := minL_is (ns := (fewer n S).map (price n ts)) (fun e => hne (List.map_eq_nil_iff.mp e))
      obtain ⟨f, hf, ef⟩ := List.mem_map.mp hm
      have hlt := fewer_lt (lt32 hn hS) hn hf
      unfold fewer at hf
      obtain ⟨p, hp, rfl⟩ := List.mem_map.mp hf
      obtain ⟨hp1, hp2⟩ := spots_mem.mp hp
      obtain ⟨_, hle, hoff⟩ := bit_off hn hS hp2
      obtain ⟨ps, d, b, m, e⟩ := price_way hn (ts := ts) k (S - 2 ^ p) (by omega) (by omega)
      obtain ⟨_, bm⟩ := setOf_bits hn d b
      have hnp : ((p : Nat) : Int) ∉ ps := by
        have := bm p hp1
        rw [m, hoff] at this
        exact of_decide_eq_false this.symm
      have hmk : setOf ((p : Int) :: ps) = S := by
        show setOf ps + 2 ^ ((p : Int)).toNat = S
        rw [m, Int.toNat_natCast]
        omega
      refine ⟨(p : Int) :: ps, List.nodup_cons.mpr ⟨hnp, d⟩, fun x hx => ?_, hmk, ?_⟩
      · rcases List.mem_cons.mp hx with rfl | hx
        · omega
        · exact b x hx
      · show way ts ps + cutZ ts (setOf ((p : Int) :: ps)) = _
        rw [hmk, e, price_succ hn hS c, ef]
theorem bit_le {S p : Nat} (h : bit S p = true) : 2 ^ p ≤ S := by
  by_cases c : S < 2 ^ p
  · rw [bit_high c] at h
    cases h
  · omega
def spCount : Sp := fun vs H Q _ => ∃ n : Nat, vs = [.int n] ∧ n ≤ 8 ∧ Q (.int ((2 ^ n : Nat) : Int)) H
def spHolds : Sp := fun vs H Q _ => ∃ S p : Nat, vs = [.int S, .int p] ∧ p ≤ 1000 ∧ Q (.bl (bit S p)) H
def natsV (l : List Nat) : List V := l.map fun f => V.int (f : Nat)
def spFewer : Sp := fun vs H Q _ => ∃ S : Nat, vs = [.int S] ∧ S < 1000 ∧ ∀ l H', H l = none → Same H H' → H' l = some (.lst (natsV (fewer (Builtin.Int.intBits (S : Int)) S))) → Q (.ref l) H'
def spLeast : Sp := fun vs H Q _ => ∃ (l : Addr) (ns : List Int) (S n : Nat), vs = [.ref l, .int S] ∧ H l = some (.lst (ns.map .int)) ∧ n ≤ 5 ∧ S < 2 ^ n ∧ S ≠ 0 ∧ S ≤ ns.length ∧ ∀ H', Same H H' → Q (.int (minL ((fewer n S).map fun f => ns.getD f 0))) H'
def spLead : Sp := fun vs H Q _ => ∃ (v : V) (n : Nat) (ts : List (List Int)), vs = [v] ∧ Dat H (webD n ts) v ∧ webOk n ts = true ∧ WebIn n ts ∧ n ≤ 5 ∧
  ∀ l H', H l = none → Same H H' → H' l = some (.lst (((List.range (2 ^ n)).map (cutZ ts)).map .int)) → Q (.ref l) H'
def spPrices (A : Er) : Sp := fun vs H Q E => ∃ (v : V) (n : Int) (ts : List (List Int)), vs = [v] ∧ Dat H (webD n ts) v ∧ WebIn n ts ∧ (webOk n ts = true → n ≤ 5) ∧
  (webOk n ts = true → ∀ l H', H l = none → Same H H' → H' l = some (.lst ((prs n.toNat ts (2 ^ n.toNat)).map .int)) → Q (.ref l) H') ∧ (webOk n ts = false → ∀ H', Same H H' → E (.ref A.BadWeb) none H')
def spLeastT (A : Er) : Sp := fun vs H Q E => ∃ (v : V) (n : Int) (ts : List (List Int)), vs = [v] ∧ Dat H (webD n ts) v ∧ WebIn n ts ∧ (webOk n ts = true → n ≤ 5) ∧
  (webOk n ts = true → ∀ H', Same H H' → Q (.int (price n.toNat ts (2 ^ n.toNat - 1))) H') ∧ (webOk n ts = false → ∀ H', Same H H' → E (.ref A.BadWeb) none H')
theorem sum_filter {α : Type} (c : α → Bool) (f : α → Int) : ∀ l : List α, ((l.filter c).map f).sum = (l.map fun x => if c x = true then f x else 0).sum
  | [] => rfl
  | x :: l => by
    rw [List.filter_cons]
    by_cases h : c x = true
    · rw [if_pos h, List.map_cons, List.map_cons, List.sum_cons, List.sum_cons, sum_filter c f l, if_pos h]
    · rw [if_neg h, List.map_cons, List.sum_cons, sum_filter c f l, if_neg h, Int.zero_add]
def cne (S : Nat) : List Int → Bool
  | [a, b, _] => !decide (bit S a.toNat = bit S b.toNat)
  | _ => false
def w3 : List Int → Int
  | [_, _, c] => c
  | _ => 0
theorem cut1_eq (S : Nat) : ∀ t : List Int, (if cne S t = true then w3 t else 0) = cut1 S t
  | [a, b, c] => by
    show (if (!decide (bit S a.toNat = bit S b.toNat)) = true then c else 0) = if bit S a.toNat = bit S b.toNat then 0 else c
    by_cases h : bit S a.toNat = bit S b.toNat
    · rw [decide_eq_true h, if_pos h]
      rfl
    · rw [decide_eq_false h, if_neg h]
      rfl
  | [] => rfl
  | [_] => rfl
  | [_, _] => rfl
  | _ :: _ :: _ :: _ :: _ => rfl
theorem cut_sum (ts : List (List Int)) (S : Nat) : ((((List.range ts.length).filter fun i => cne S (ts.getD i [])).map fun i => w3 (ts.getD i [])).sum) = cutZ ts S := by
  rw [sum_filter, map_range_get (fun t => if cne S t = true then w3 t else 0) [] ts]
  unfold cutZ
  congr 1
  exact List.map_congr_left fun t _ => cut1_eq S t
theorem atI_neg1 {ns : List Int} (h : ns ≠ []) : atI (ns.map V.int) (-1) = some (.int (ns.getD (ns.length - 1) 0)) := by
  rcases List.eq_nil_or_concat ns with rfl | ⟨as, b, rfl⟩
  · exact absurd rfl h
  · rw [List.concat_eq_append, List.map_append]
    refine (atI_last _ _).trans ?_
    rw [List.length_append, List.getD_eq_getElem?_getD]
    show _ = some (V.int (((as ++ [b])[as.length + 1 - 1]?).getD 0))
    rw [Nat.add_sub_cancel, List.getElem?_append_right (Nat.le_refl _), Nat.sub_self]
    rfl
theorem atI_at {ns : List Int} {i : Nat} (h : i < ns.length) : atI (ns.map V.int) (i : Int) = some (.int (ns.getD i 0)) :=
  atI_nat (by rw [List.getElem?_map, List.getElem?_eq_getElem h, getD_at h]; rfl)
theorem nodup_rev {l : List Int} (h : l.Nodup) : l.reverse.Nodup := (List.reverse_perm l).nodup_iff.mpr h
theorem mem_take_idx {a : Int} : ∀ {ns : List Int} {k : Nat}, a ∈ ns → (a ∈ ns.take k ↔ idx ns a < k)
  | [], _, h => absurd h List.not_mem_nil
  | x :: r, 0, h => by
    rw [List.take_zero]
    exact ⟨fun z => absurd z List.not_mem_nil, fun z => absurd z (Nat.not_lt_zero _)⟩
  | x :: r, k + 1, h => by
    rw [List.take_succ_cons]
    by_cases e : x = a
    · subst e
      have : idx (x :: r) x = 0 := by unfold idx; rw [List.idxOf_cons_self]
      rw [this]
      exact ⟨fun _ => Nat.succ_pos _, fun _ => .head _⟩
    · rw [idx_cons e]
      have hr : a ∈ r := (List.mem_cons.mp h).elim (fun z => absurd z.symm e) id
      rw [List.mem_cons]
      have ih := mem_take_idx (ns := r) (k := k) hr
      constructor
      · rintro (z | z)
        · exact absurd z.symm e
        · have := ih.mp z
          omega
      · intro z
        exact .inr (ih.mpr (by omega))
def upTo (os : List Int) (g : Nat) : Nat := setOf (os.take g).reverse
theorem upTo_bits {n : Nat} (hn : n ≤ 5) {os : List Int} (ho : ordOk n os = true) (g : Nat) : upTo os g < 2 ^ n ∧ ∀ q : Nat, q < n → bit (upTo os g) q = decide (idx os (q : Int) < g) := by
  obtain ⟨h1, h2, h3⟩ := ordOk_of ho
  obtain ⟨a, b⟩ := setOf_bits hn (ps := (os.take g).reverse) (nodup_rev (h3.sublist (List.take_sublist _ _))) fun p hp => by
    have := h2 p (List.mem_of_mem_take (List.mem_reverse.mp hp))
    omega
  refine ⟨a, fun q hq => ?_⟩
  unfold upTo
  rw [b q hq]
  have hm := ord_all ho (k := (q : Int)) (by omega) (by omega)
  have := mem_take_idx (k := g) hm
  rw [Bool.eq_iff_iff, decide_eq_true_iff, decide_eq_true_iff, List.mem_reverse]
  exact this
theorem over_cut {n : Nat} (hn : n ≤ 5) {os : List Int} (ho : ordOk n os = true) {t : List Int} (ht : tieOk n t = true) (g : Nat) : over1 os g t = cut1 (upTo os (g + 1)) t := by
  obtain ⟨a, b, c, rfl, h1, h2, h3, h4, _, _⟩ := tieOk_three ht
  obtain ⟨a, rfl⟩ : ∃ m : Nat, a = m := ⟨a.toNat, by omega⟩
  obtain ⟨b, rfl⟩ : ∃ m : Nat, b = m := ⟨b.toNat, by omega⟩
  obtain ⟨_, hb⟩ := upTo_bits hn ho (g + 1)
  show (if min (idx os a) (idx os b) ≤ g ∧ g < max (idx os a) (idx os b) then c else 0) = if bit (upTo os (g + 1)) ((a : Int)).toNat = bit (upTo os (g + 1)) ((b : Int)).toNat then 0 else c
  rw [Int.toNat_natCast, Int.toNat_natCast, hb a (by omega), hb b (by omega)]
  by_cases c1 : idx os (a : Int) < g + 1
  · by_cases c2 : idx os (b : Int) < g + 1
    · rw [decide_eq_true c1, decide_eq_true c2, if_pos rfl, if_neg (by omega)]
    · rw [decide_eq_true c1, decide_eq_false c2, if_pos (show min (idx os (a : Int)) (idx os (b : Int)) ≤ g ∧ g < max (idx os (a : Int)) (idx os (b : Int)) by omega), if_neg (show ¬ (true = false) from fun z => Bool.noConfusion z)]
  · by_cases c2 : idx os (b : Int) < g + 1
    · rw [decide_eq_false c1, decide_eq_true c2, if_pos (show min (idx os (a : Int)) (idx os (b : Int)) ≤ g ∧ g < max (idx os (a : Int)) (idx os (b : Int)) by omega), if_neg Bool.false_ne_true]
    · rw [decide_eq_false c1, decide_eq_false c2, if_pos rfl, if_neg (by omega)]
theorem gap_cut {n : Nat} (hn : n ≤ 5) {os : List Int} (ho : ordOk n os = true) {ts : List (List Int)} (ht : ∀ t ∈ ts, tieOk n t = true) (g : Nat) : gapAt os ts g = cutZ ts (upTo os (g + 1)) := by
  unfold gapAt cutZ
  congr 1
  exact List.map_congr_left fun t h => over_cut hn ho (ht t h) g
theorem way_take {ts : List (List Int)} {os : List Int} : ∀ {k : Nat}, k ≤ os.length → way ts (os.take k).reverse = ((List.range k).map fun g => cutZ ts (upTo os (g + 1))).sum
  | 0, _ => rfl
  | k + 1, h => by
    have ih := way_take (ts := ts) (os := os) (k := k) (by omega)
    have e : (os.take (k + 1)).reverse = os[k] :: (os.take k).reverse := by
      rw [List.take_succ, List.getElem?_eq_getElem (by omega)]
      simp
    rw [List.range_succ, List.map_append, List.sum_append, ← ih]
    unfold upTo
    rw [e]
    show way ts (os.take k).reverse + cutZ ts (setOf (os[k] :: (os.take k).reverse)) = _
    simp only [List.map_cons, List.map_nil, List.sum_cons, List.sum_nil, Int.add_zero]
    rw [e]
theorem cut_full {n : Nat} (hn : n ≤ 5) {os : List Int} (ho : ordOk n os = true) {ts : List (List Int)} (ht : ∀ t ∈ ts, tieOk n t = true) : cutZ ts (upTo os n) = 0 := by
  obtain ⟨h1, _, _⟩ := ordOk_of ho
  obtain ⟨_, hb⟩ := upTo_bits hn ho n
  have z : ts.map (cut1 (upTo os n)) = ts.map fun _ => (0 : Int) := List.map_congr_left fun t h => by
    obtain ⟨a, b, c, rfl, h1, h2, h3, h4, _, _⟩ := tieOk_three (ht t h)
    obtain ⟨a, rfl⟩ : ∃ m : Nat, a = m := ⟨a.toNat, by omega⟩
    obtain ⟨b, rfl⟩ : ∃ m : Nat, b = m := ⟨b.toNat, by omega⟩
    have ia := idx_lt (ord_all ho (k := (a : Int)) (by omega) (by omega))
    have ib := idx_lt (ord_all ho (k := (b : Int)) (by omega) (by omega))
    show (if bit (upTo os n) ((a : Int)).toNat = bit (upTo os n) ((b : Int)).toNat then 0 else c) = 0
    rw [Int.toNat_natCast, Int.toNat_natCast, hb a (by omega), hb b (by omega), decide_eq_true (by omega), decide_eq_true (by omega), if_pos rfl]
  unfold cutZ
  rw [z, sum_zero]
theorem tot_way {n : Nat} (hn : n ≤ 5) {os : List Int} (ho : ordOk n os = true) {ts : List (List Int)} (ht : ∀ t ∈ ts, tieOk n t = true) : totF n os ts = way ts os.reverse := by
  obtain ⟨h1, _, _⟩ := ordOk_of ho
  have h1' : os.length = n := by omega
  unfold totF
  rw [← gaps_sum ho ht]
  have e := way_take (ts := ts) (os := os) (k := os.length) (Nat.le_refl _)
  rw [List.take_length] at e
  rw [e, h1']
  unfold gapsL
  have z : ((List.range ((n : Int) - 1).toNat).map (gapAt os ts)) = (List.range (n - 1)).map fun g => cutZ ts (upTo os (g + 1)) := by
    rw [show ((n : Int) - 1).toNat = n - 1 by omega]
    exact List.map_congr_left fun g _ => gap_cut hn ho ht g
  rw [z]
  cases n with
  | zero => rfl
  | succ m =>
    rw [List.range_succ, List.map_append, List.sum_append]
    show _ = _ + (cutZ ts (upTo os (m + 1)) + 0)
    rw [cut_full hn ho ht, Nat.add_sub_cancel]
    omega
theorem setOf_full {n : Nat} (hn : n ≤ 5) {os : List Int} (ho : ordOk n os = true) : setOf os.reverse = 2 ^ n - 1 := by
  obtain ⟨h1, h2, h3⟩ := ordOk_of ho
  have hb := upTo_bits hn ho n
  have e : upTo os n = setOf os.reverse := by
    unfold upTo
    rw [List.take_of_length_le (by omega)]
  rw [e] at hb
  have hp := two_pos n
  refine bits_ext _ (lt32 hn hb.1) _ (lt32 hn (by omega)) fun q hq => ?_
  by_cases c : q < n
  · rw [hb.2 q c, bits_full n (by omega) q c]
    exact decide_eq_true (by have := idx_lt (ord_all ho (k := (q : Int)) (by omega) (by omega)); omega)
  · rw [bit_out hb.1 (by omega), bit_out (n := n) (by omega) (by omega)]
theorem tot_most {n : Nat} (hn : n ≤ 5) {os : List Int} (ho : ordOk n os = true) {ts : List (List Int)} (ht : ∀ t ∈ ts, tieOk n t = true) {T : Nat → Int} (h0 : T 0 ≤ 0)
    (hT : ∀ S p, S < 2 ^ n → p < n → bit S p = false → T (S + 2 ^ p) ≤ T S + cutZ ts (S + 2 ^ p)) : T (2 ^ n - 1) ≤ totF n os ts := by
  obtain ⟨h1, h2, h3⟩ := ordOk_of ho
  rw [tot_way hn ho ht, ← setOf_full hn ho]
  exact way_most hn h0 hT (nodup_rev h3) fun p hp => by have := h2 p (List.mem_reverse.mp hp); omega
theorem price_some {n : Nat} (hn : n ≤ 5) {ts : List (List Int)} (ht : ∀ t ∈ ts, tieOk n t = true) : ∃ os, ordOk n os = true ∧ totF n os ts = price n ts (2 ^ n - 1) := by
  have hp := two_pos n
  obtain ⟨ps, d, b, m, e⟩ := price_way hn (ts := ts) (2 ^ n - 1) (2 ^ n - 1) (Nat.le_refl _) (by omega)
  obtain ⟨_, hb⟩ := setOf_bits hn d b
  have ho : ordOk n ps.reverse = true := by
    refine ordOk_perm ((List.perm_ext_iff_of_nodup (nodup_rev d) (nodup_upto n)).mpr fun x => ?_)
    rw [List.mem_reverse, upto_mem]
    constructor
    · intro h
      have := b x h
      omega
    · intro h
      obtain ⟨q, rfl⟩ : ∃ q : Nat, x = q := ⟨x.toNat, by omega⟩
      have z := hb q (by omega)
      rw [m, bits_full n (by omega) q (by omega)] at z
      exact of_decide_eq_true z.symm
  refine ⟨ps.reverse, ho, ?_⟩
  rw [tot_way hn ho ht, List.reverse_reverse, e]
def extOf (n : Nat) (o : List Int) : List (List Int) := ((upto n).filter fun p => !decide (p ∈ o)).map fun p => o ++ [p]
def allTo (n : Nat) : Nat → List (List Int)
  | 0 => [[]]
  | k + 1 => (allTo n k).flatMap (extOf n)
theorem mem_ext {n : Nat} {o os : List Int} : os ∈ extOf n o ↔ ∃ p : Int, 0 ≤ p ∧ p < n ∧ p ∉ o ∧ os = o ++ [p] := by
  unfold extOf
  rw [List.mem_map]
  constructor
  · rintro ⟨p, hp, rfl⟩
    rw [List.mem_filter, upto_mem] at hp
    exact ⟨p, hp.1.1, hp.1.2, by simpa using hp.2, rfl⟩
  · rintro ⟨p, h1, h2, h3, rfl⟩
    exact ⟨p, List.mem_filter.mpr ⟨upto_mem.mpr ⟨h1, h2⟩, by simpa using h3⟩, rfl⟩
theorem mem_allTo {n : Nat} : ∀ {k : Nat} {os : List Int}, os ∈ allTo n k ↔ os.length = k ∧ os.Nodup ∧ ∀ p ∈ os, 0 ≤ p ∧ p < n
  | 0, os => by
    show os ∈ [[]] ↔ _
    rw [List.mem_singleton]
    constructor
    · rintro rfl
      exact ⟨rfl, List.nodup_nil, fun p h => absurd h List.not_mem_nil⟩
    · intro h
      exact List.length_eq_zero_iff.mp h.1
  | k + 1, os => by
    show os ∈ (allTo n k).flatMap (extOf n) ↔ _
    rw [List.mem_flatMap]
    constructor
    · rintro ⟨o, ho, h⟩
      obtain ⟨p, h1, h2, h3, rfl⟩ := mem_ext.mp h
      obtain ⟨a, b, c⟩ := mem_allTo.mp ho
      refine ⟨by rw [List.length_append, a]; rfl, ?_, fun x hx => ?_⟩
      · rw [List.nodup_append]
        refine ⟨b, List.nodup_cons.mpr ⟨List.not_mem_nil, List.nodup_nil⟩, fun x hx y hy e => ?_⟩
        rw [List.mem_singleton.mp hy] at e
        exact h3 (e ▸ hx)
      · rcases List.mem_append.mp hx with z | z
        · exact c x z
        · rw [List.mem_singleton.mp z]
          exact ⟨h1, h2⟩
    · rintro ⟨a, b, c⟩
      rcases List.eq_nil_or_concat os with rfl | ⟨o, p, rfl⟩
      · cases a
      · rw [List.concat_eq_append] at a b c ⊢
        rw [List.nodup_append] at b
        refine ⟨o, mem_allTo.mpr ⟨by rw [List.length_append] at a; exact Nat.succ.inj a, b.1, fun x hx => c x (List.mem_append.mpr (.inl hx))⟩, mem_ext.mpr ⟨p, ?_, ?_, ?_, rfl⟩⟩
        · exact (c p (List.mem_append.mpr (.inr (.head _)))).1
        · exact (c p (List.mem_append.mpr (.inr (.head _)))).2
        · intro hp
          exact b.2.2 p hp p (.head _) rfl
theorem allTo_ord {n : Nat} (os : List Int) : os ∈ allTo n n ↔ ordOk n os = true := by
  rw [mem_allTo]
  constructor
  · rintro ⟨a, b, c⟩
    exact ordOk_mk (by omega) (fun k hk => by have := c k hk; omega) b
  · intro h
    obtain ⟨a, b, c⟩ := ordOk_of h
    exact ⟨by omega, c, fun k hk => by have := b k hk; omega⟩
theorem ext_len {n : Nat} (o : List Int) : (extOf n o).length ≤ n := by
  unfold extOf
  rw [List.length_map]
  exact Nat.le_trans (List.length_filter_le _ _) (by rw [upto_len]; exact Nat.le_refl _)
theorem flat_len {n : Nat} (hn : n ≤ 5) : ∀ L : List (List Int), (L.flatMap (extOf n)).length ≤ 5 * L.length
  | [] => Nat.le_refl _
  | o :: L => by
    rw [List.flatMap_cons, List.length_append, List.length_cons]
    have := ext_len (n := n) o
    have := flat_len hn L
    omega
theorem all_len {n : Nat} (hn : n ≤ 5) : ∀ k, (allTo n k).length ≤ 5 ^ k
  | 0 => Nat.le_refl _
  | k + 1 => by
    have := flat_len hn (allTo n k)
    have := all_len hn k
    show ((allTo n k).flatMap (extOf n)).length ≤ 5 ^ k * 5
    omega
def spLAll : Sp := fun vs H Q _ => ∃ n : Nat, vs = [.int n] ∧ n ≤ 5 ∧ ∀ v H', Same H H' → Dat H' (.list ((allTo n n).map ordD)) v → Q v H'
theorem ord_of {H : Hp} {ns : List Int} {v : V} (h : Dat H (ordD ns) v) : ∃ l, v = .ref l ∧ H l = some (.lst (ns.map .int)) := by
  obtain ⟨l, xs, rfl, hl, d⟩ := h.list_of
  rw [d.ints_of] at hl
  exact ⟨l, rfl, hl⟩
theorem in_ints (p : Int) : ∀ o : List Int, inV (.int p) (o.map V.int) = decide (p ∈ o)
  | [] => rfl
  | a :: o => by
    have e : eqV (.int a) (.int p) = decide (p = a) := by
      show (a == p) = _
      by_cases c : p = a
      · subst c; simp
      · rw [decide_eq_false c]; exact beq_eq_false_iff_ne.mpr fun z => c z.symm
    show (eqV (.int a) (.int p) || inV (.int p) (o.map V.int)) = _
    rw [e, in_ints p o]
    by_cases c1 : p = a <;> by_cases c2 : p ∈ o <;> simp [c1, c2]
theorem iteOf {b c : Bool} {X Y : Prop} (h : b = c) (h1 : c = true → X) (h2 : c = false → Y) : if b = true then X else Y := by
  subst h
  cases b with
  | true => exact h1 rfl
  | false => exact h2 rfl
end My
set_option Elab.async false
set_option linter.all false
set_option maxRecDepth 100000
set_option maxHeartbeats 4000000
namespace L2
open PySem
def DRaw (h : Heap) (d : Addr) (es : Array DictEntry) (ep : Nat) : Prop := ∃ o, h.get? d = some o ∧ o.ExactDict ∧ o.data = .dict es ep
theorem DRaw.ty {s : Shared} {d : Addr} {es : Array DictEntry} {ep : Nat} (x : DRaw s.heap d es ep) : s.TypeIs (.ref d) "dict" := let ⟨o, h, e, _⟩ := x; ⟨o, h, e.1⟩
theorem DRaw.to {h h' : Heap} {d : Addr} {es : Array DictEntry} {ep : Nat} (x : DRaw h d es ep) (k : ∀ o, h.get? d = some o → h'.get? d = some o) : DRaw h' d es ep := let ⟨o, e, r⟩ := x; ⟨o, k o e, r⟩
section
variable {prog : Program} {w : World} {A : Around} {E : Value → Shared → Prop} {s : Shared} {d it v : Addr} {es : Array DictEntry} {ep i : Nat}
theorem rawItems {Q : Value → Shared → Prop} (hd : (d == sysModules) = false) (x : DRaw s.heap d es ep) (h : Q (.ref s.heap.objs.size) { s with heap := s.heap.push { cls := .type "dict_items", data := .fields #[.ref d] } }) :
    wpAny (model prog w) A (call (.builtin "dict.items") [.ref d]) Q E s := by
  refine wpAny_call_entry F.slot_dict_items x.ty F.entry_dict_items ?_ (F.args_dict_items_1 _)
  unfold Builtin.«dict.items» Builtin.Dict.noArgs
  refine wpAny_bind (wpAny_bind (wpAny_notOrdered_dict x.ty (wpAny_pure ?_)))
  unfold Builtin.Dict.showsAll
  show wpAny _ _ ((if (d == sysModules) = true then _ else _) >>= _) _ _ s
  rw [hd, if_neg Bool.false_ne_true]
  exact wpAny_bind (wpAny_pure (wpAny_bind (wpAny_newObj_type (wpAny_pure ⟨_, rfl, h⟩))))
theorem rawValues {Q : Value → Shared → Prop} (hd : (d == sysModules) = false) (x : DRaw s.heap d es ep) (h : Q (.ref s.heap.objs.size) { s with heap := s.heap.push { cls := .type "dict_values", data := .fields #[.ref d] } }) :
    wpAny (model prog w) A (call (.builtin "dict.values") [.ref d]) Q E s := by
  refine wpAny_call_entry F.slot_dict_values x.ty F.entry_dict_values ?_ (F.args_dict_values_1 _)
  refine wpAny_bind ?_
  unfold Builtin.Dict.noArgs
  refine wpAny_bind (wpAny_notOrdered_dict x.ty (wpAny_pure ?_))
  unfold Builtin.Dict.showsAll
  show wpAny _ _ ((if (d == sysModules) = true then _ else _) >>= _) _ _ s
  rw [hd, if_neg Bool.false_ne_true]
  exact wpAny_bind (wpAny_pure (wpAny_bind (wpAny_newObj_type (wpAny_pure ⟨_, rfl, h⟩))))
theorem rawItemsIter {Q : Value → Shared → Prop} (hv : s.heap.IsItemsView v d) (x : DRaw s.heap d es ep)
    (hQ : Q (.ref s.heap.objs.size) { s with heap := s.heap.push { cls := .type "dict_itemiterator", data := .fields #[.none, .bool false, .ref d, .int 0 0, .int es.size 0, .int ep 0, .none, .none] } }) :
    wpAny (model prog w) A (pyIter (.ref v)) Q E s := by
  have hT := hv.typeIs
  obtain ⟨ov, g1, _, g2⟩ := hv
  obtain ⟨o, e1, _, e2⟩ := x
  refine wpAny_pyIter_slot hT F.slot_dict_items_iter (wpAny_call_entry F.slot_dict_items_iter hT F.entry_dict_items_iter ?_ (F.args_dict_items_iter_1 _))
  unfold Builtin.«dict_items.__iter__» Builtin.Dict_items.dictOf
  refine wpAny_bind (wpAny_pure (wpAny_bind (wpAny_bind (wpAny_field g1 g2 (x := .ref d) rfl (wpAny_pure (wpAny_bind ?_))))))
  unfold Builtin.Dict_items.newIterator
  refine wpAny_bind (wpAny_dictEntries e1 e2 (wpAny_bind (wpAny_dictEpoch e1 e2 ?_)))
  simp only [show Builtin.Dict_items.ownsTuple "dict_itemiterator" = true from by decide, if_true]
  refine wpAny_newObj_type (wpAny_pure ⟨_, rfl, "dict_itemiterator", _, ⟨_, Heap.get?_push_size _ rfl, rfl⟩, F.slot_dict_itemiterator_next.lookup, ?_⟩)
    (by simp only [sizeOk, Builtin.Dict_items.ownedTupleFields, List.size_toArray, List.length_append, List.length_cons, List.length_nil, sizeLine_eq]; omega)
  simpa [rawInt, Builtin.Dict_items.ownedTupleFields] using hQ
theorem rawValuesIter {Q : Value → Shared → Prop} (hv : s.heap.IsValuesView v d) (x : DRaw s.heap d es ep)
    (hQ : Q (.ref s.heap.objs.size) { s with heap := s.heap.push { cls := .type "dict_valueiterator", data := .fields #[.ref d, .int 0 0, .int es.size 0, .int ep 0] } }) :
    wpAny (model prog w) A (pyIter (.ref v)) Q E s := by
  have hT := hv.typeIs
  obtain ⟨ov, g1, _, g2⟩ := hv
  obtain ⟨o, e1, _, e2⟩ := x
  refine wpAny_pyIter_slot hT F.slot_dict_values_iter (wpAny_call_entry F.slot_dict_values_iter hT F.entry_dict_values_iter ?_ (F.args_dict_values_iter_1 _))
  unfold Builtin.«dict_values.__iter__» Builtin.Dict_items.dictOf
  refine wpAny_bind (wpAny_pure (wpAny_bind (wpAny_bind (wpAny_field g1 g2 (x := .ref d) rfl (wpAny_pure (wpAny_bind ?_))))))
  unfold Builtin.Dict_items.newIterator
  refine wpAny_bind (wpAny_dictEntries e1 e2 (wpAny_bind (wpAny_dictEpoch e1 e2 ?_)))
  simp only [show Builtin.Dict_items.ownsTuple "dict_valueiterator" = false from by decide, Bool.false_eq_true, if_false]
  refine wpAny_newObj_type (wpAny_pure ⟨_, rfl, "dict_valueiterator", _, ⟨_, Heap.get?_push_size _ rfl, rfl⟩, F.slot_dict_valueiterator_next.lookup, ?_⟩)
  simpa [rawInt] using hQ
theorem rawItemsNext {ok ov : Value} {e : DictEntry} {Q : Option Value → Shared → Prop} (hit : IsItemIter s.heap it d i es.size ep ok ov) (x : DRaw s.heap d es ep) (hx : es[i]? = some e)
    (hQ : ∀ h', IsItemIterOut h' it d (i + 1) es.size ep e.key e.val s.heap.objs.size → h'.get? s.heap.objs.size = some { cls := .type "tuple", data := .seq #[e.key, e.val] } →
      (∀ b o, b ≠ it → s.heap.get? b = some o → h'.get? b = some o) → Q (some (.ref s.heap.objs.size)) { s with heap := h' }) : wpAny (model prog w) A (pyNext (.ref it)) Q E s := by
  obtain ⟨hp, g, dr, tk, os⟩ := s
  obtain ⟨od, e1, _, e2⟩ := x
  have hT : Shared.TypeIs ⟨hp, g, dr, tk, os⟩ (.ref it) "dict_itemiterator" := ⟨_, hit, rfl⟩
  have hlt : i < es.size := (Array.getElem?_eq_some_iff.mp hx).1
  have hei : es[i] = e := (Array.getElem?_eq_some_iff.mp hx).2
  unfold pyNext
  refine wpAny_bind (wpAny_attempt (wpAny_callSpecial?_slot (name := Str.ofString "__next__") hT F.slot_dict_itemiterator_next (wpAny_call_entry F.slot_dict_itemiterator_next hT F.entry_dict_itemiterator_next ?_ (F.args_dict_itemiterator_next_1 _))))
  refine wpAny_bind (wpAny_pure (wpAny_bind (wpAny_bind ?_)))
  first | refine wpAny_bind (wpAny_typeNameOfWhole_itemiter hT (wpAny_pure ?_)) | refine wpAny_bind (wpAny_typeNameOf_itemiter hT (wpAny_pure ?_))
  refine wpAny_bind (wpAny_fieldsOf hit rfl ?_)
  simp only [show Builtin.Dict_items.ownsTuple "dict_itemiterator" = true from by decide, if_true]
  show wpAny _ _ (if (Value.ref d == Value.none) = true then _ else _) _ _ _
  rw [show (Value.ref d == Value.none) = false from rfl, if_neg Bool.false_ne_true]
  refine wpAny_bind (wpAny_pure (wpAny_bind (wpAny_dictEntries e1 e2 ?_)))
  rw [if_neg (by simp)]
  refine wpAny_bind (wpAny_pure (wpAny_bind (wpAny_dictEpoch e1 e2 ?_)))
  rw [if_neg (by simp)]
  refine wpAny_pure ?_
  simp only [show ¬ ((i : Int) < 0) from by omega, if_false, Int.toNat_natCast, Array.getElem?_eq_getElem hlt, hei]
  refine wpAny_bind ?_
  first | refine wpAny_bind (wpAny_typeNameOfWhole_itemiter hT (wpAny_pure ?_)) | refine wpAny_bind (wpAny_typeNameOf_itemiter hT (wpAny_pure ?_))
  refine wpAny_bind (wpAny_isOneOf_itemiter hT ?_)
  show wpAny _ _ (setField (.ref it) 3 (rawInt ((i : Int) + 1)) >>= _) _ _ ⟨hp, g, dr, tk, os⟩
  refine wpAny_bind (wpAny_setField_rec hit (by simp) fun k1 a1 b1 => ?_)
  replace b1 : Heap.SameBut it hp k1 := b1
  replace a1 : IsItemIter k1 it d (i + 1) es.size ep ok ov := by
    unfold IsItemIter
    rw [show ((i + 1 : Nat) : Int) = (i : Int) + 1 from by omega]
    simpa [rawInt] using a1
  have hT1 : Shared.TypeIs ⟨k1, g, dr, tk, os⟩ (.ref it) "dict_itemiterator" := ⟨_, a1, rfl⟩
  refine wpAny_bind (wpAny_holding (wpAny_bind (wpAny_isOneOf_itemiter hT1 (wpAny_bind (wpAny_isOneOf_itemiter hT1 ?_)))))
  show wpAny _ _ (Builtin.Dict_items.pairFromOwner (.ref it) 6 e.key e.val) _ _ ⟨k1, g, dr, tk, os⟩
  unfold Builtin.Dict_items.pairFromOwner
  refine wpAny_bind (wpAny_newTuple ?_)
  have sz : k1.objs.size = hp.objs.size := b1.1
  have il : hp.objs.size ≠ it := Nat.ne_of_gt (Heap.lt_size hit)
  obtain ⟨k2, ek⟩ : ∃ k2, k1.push { cls := .type "tuple", data := .seq #[e.key, e.val] } = k2 := ⟨_, rfl⟩
  have a2 : IsItemIter k2 it d (i + 1) es.size ep ok ov := by rw [← ek]; exact Heap.get?_push_of_some _ a1
  have t2 : k2.get? hp.objs.size = some { cls := .type "tuple", data := .seq #[e.key, e.val] } := by rw [← ek, ← sz]; exact Heap.get?_push_size _ rfl
  have o2 : ∀ b o, b ≠ it → hp.get? b = some o → k2.get? b = some o := fun b o n q => by rw [← ek]; exact Heap.get?_push_of_some _ (b1.extBut b o n q)
  show wpAny _ _ (Builtin.Dict_items.ownedTupleIsFree (.ref it) >>= _) _ _ ⟨k1.push { cls := .type "tuple", data := .seq #[e.key, e.val] }, g, dr, tk, os⟩
  rw [ek, sz]
  clear ek a1 b1 hT1 sz k1
  unfold Builtin.Dict_items.ownedTupleIsFree
  refine wpAny_bind (wpAny_bind (wpAny_field a2 rfl (x := .none) rfl (wpAny_pure ?_)))
  simp only [if_true]
  refine wpAny_bind (wpAny_field a2 rfl (x := ok) rfl (wpAny_bind (wpAny_field a2 rfl (x := ov) rfl ?_)))
  refine wpAny_bind (wpAny_setField_rec a2 (by simp) fun k3 a3 b3 => ?_)
  replace b3 : Heap.SameBut it k2 k3 := b3
  replace a3 : IsItemIter k3 it d (i + 1) es.size ep e.key ov := a3
  refine wpAny_bind (wpAny_setField_rec a3 (by simp) fun k4 a4 b4 => ?_)
  replace b4 : Heap.SameBut it k3 k4 := b4
  replace a4 : IsItemIter k4 it d (i + 1) es.size ep e.key e.val := a4
  refine wpAny_bind (wpAny_setField_rec a4 (by simp) fun k5 a5 b5 => ?_)
  replace b5 : Heap.SameBut it k4 k5 := b5
  replace a5 : IsItemIterOut k5 it d (i + 1) es.size ep e.key e.val hp.objs.size := a5
  refine wpAny_bind (wpAny_setField_rec a5 (by simp) fun k6 a6 b6 => ?_)
  replace b6 : Heap.SameBut it k5 k6 := b6
  replace a6 : IsItemIterOut k6 it d (i + 1) es.size ep e.key e.val hp.objs.size := a6
  have old : ∀ b o, b ≠ it → k2.get? b = some o → k6.get? b = some o := fun b o n q => b6.extBut b o n (b5.extBut b o n (b4.extBut b o n (b3.extBut b o n q)))
  exact wpAny_bind (wpAny_letGo (wpAny_pure (wpAny_pure ⟨_, rfl, wpAny_pure (hQ k6 a6 (old _ _ il t2) fun b o n q => old b o n (o2 b o n q))⟩)))
theorem rawItemsEnd {ok ov : Value} {Q : Option Value → Shared → Prop} (hh : A.handled = none) (hit : IsItemIter s.heap it d i es.size ep ok ov) (x : DRaw s.heap d es ep) (hx : es.size ≤ i)
    (hQ : ∀ h', Heap.ExtBut it s.heap h' → Q none { s with heap := h' }) : wpAny (model prog w) A (pyNext (.ref it)) Q E s := by
  obtain ⟨od, e1, _, e2⟩ := x
  have hT : s.TypeIs (.ref it) "dict_itemiterator" := ⟨_, hit, rfl⟩
  unfold pyNext
  refine wpAny_bind (wpAny_attempt (wpAny_callSpecial?_slot (name := Str.ofString "__next__") hT F.slot_dict_itemiterator_next (wpAny_call_entry F.slot_dict_itemiterator_next hT F.entry_dict_itemiterator_next ?_ (F.args_dict_itemiterator_next_1 _))))
  refine wpAny_bind (wpAny_pure (wpAny_bind (wpAny_bind ?_)))
  first | refine wpAny_bind (wpAny_typeNameOfWhole_itemiter hT (wpAny_pure ?_)) | refine wpAny_bind (wpAny_typeNameOf_itemiter hT (wpAny_pure ?_))
  refine wpAny_bind (wpAny_fieldsOf hit rfl ?_)
  simp only [show Builtin.Dict_items.ownsTuple "dict_itemiterator" = true from by decide, if_true]
  show wpAny _ _ (if (Value.ref d == Value.none) = true then _ else _) _ _ s
  rw [show (Value.ref d == Value.none) = false from rfl, if_neg Bool.false_ne_true]
  refine wpAny_bind (wpAny_pure (wpAny_bind (wpAny_dictEntries e1 e2 ?_)))
  rw [if_neg (by simp)]
  refine wpAny_bind (wpAny_pure (wpAny_bind (wpAny_dictEpoch e1 e2 ?_)))
  rw [if_neg (by simp)]
  refine wpAny_pure ?_
  simp only [show ¬ ((i : Int) < 0) from by omega, if_false, Int.toNat_natCast, Array.getElem?_eq_none hx]
  refine wpAny_bind ?_
  first | refine wpAny_bind (wpAny_typeNameOfWhole_itemiter hT (wpAny_pure ?_)) | refine wpAny_bind (wpAny_typeNameOf_itemiter hT (wpAny_pure ?_))
  show wpAny _ _ (setField (.ref it) 2 .none >>= _) _ _ s
  refine wpAny_bind (wpAny_setField hit rfl (by simp) ?_)
  show wpAny _ _ (newExc (.type "StopIteration") [] >>= _) _ _ _
  refine wpAny_bind ?_
  simp only [newExc, newTuple]
  refine wpAny_bind (wpAny_newObj_type ?_ (by size_fits))
  refine wpAny_bind (m := firstArgMember _ _) (wpAny_of_eq (a := Value.none) (by first | rfl | (simp only [firstArgMember]; rfl)) ?_)
  refine wpAny_newObj_type ?_ (by size_fits)
  simp only [raiseNew]
  refine wpAny_bind (wpAny_handled ?_)
  rw [show A.in1.handled = none from hh]
  refine wpAny_bind (wpAny_pure (wpAny_throw ?_))
  refine wpAny_bind (wpAny_isInstance (T := "StopIteration") (b := true) ⟨_, Heap.get?_push_size _ rfl, rfl⟩ isSubtype_stop ?_)
  exact wpAny_pure (hQ _ (((Heap.SameBut.update ..).extBut.push _).push _))
theorem rawValuesNext {e : DictEntry} {Q : Option Value → Shared → Prop} (hit : s.heap.IsValIter it d i es.size ep) (x : DRaw s.heap d es ep) (hx : es[i]? = some e)
    (hQ : ∀ h', h'.IsValIter it d (i + 1) es.size ep → Heap.SameBut it s.heap h' → Q (some e.val) { s with heap := h' }) : wpAny (model prog w) A (pyNext (.ref it)) Q E s := by
  have hT := hit.typeIs
  obtain ⟨o, ho, hc, hd⟩ := hit
  obtain ⟨od, e1, _, e2⟩ := x
  have hlt : i < es.size := (Array.getElem?_eq_some_iff.mp hx).1
  have hei : es[i] = e := (Array.getElem?_eq_some_iff.mp hx).2
  unfold pyNext
  refine wpAny_bind (wpAny_attempt (wpAny_callSpecial?_slot (name := Str.ofString "__next__") hT F.slot_dict_valueiterator_next (wpAny_call_entry F.slot_dict_valueiterator_next hT F.entry_dict_valueiterator_next ?_ (F.args_dict_valueiterator_next_1 _))))
  refine wpAny_bind (wpAny_pure (wpAny_bind (wpAny_bind ?_)))
  first | refine wpAny_bind (wpAny_typeNameOfWhole_valiter hT (wpAny_pure ?_)) | refine wpAny_bind (wpAny_typeNameOf_valiter hT (wpAny_pure ?_))
  refine wpAny_bind (wpAny_fieldsOf ho hd ?_)
  simp only [show Builtin.Dict_items.ownsTuple "dict_valueiterator" = false from by decide, Bool.false_eq_true, if_false]
  show wpAny _ _ (if (Value.ref d == Value.none) = true then _ else _) _ _ s
  rw [show (Value.ref d == Value.none) = false from rfl, if_neg Bool.false_ne_true]
  refine wpAny_bind (wpAny_pure (wpAny_bind (wpAny_dictEntries e1 e2 ?_)))
  rw [if_neg (by simp)]
  refine wpAny_bind (wpAny_pure (wpAny_bind (wpAny_dictEpoch e1 e2 ?_)))
  rw [if_neg (by simp)]
  refine wpAny_pure ?_
  simp only [show ¬ ((i : Int) < 0) from by omega, if_false, Int.toNat_natCast, Array.getElem?_eq_getElem hlt, hei]
  refine wpAny_bind ?_
  first | refine wpAny_bind (wpAny_typeNameOfWhole_valiter hT (wpAny_pure ?_)) | refine wpAny_bind (wpAny_typeNameOf_valiter hT (wpAny_pure ?_))
  refine wpAny_bind (wpAny_isOneOf_valiter hT ?_)
  show wpAny _ _ (setField (.ref it) 1 (rawInt ((i : Int) + 1)) >>= _) _ _ s
  refine wpAny_bind (wpAny_setField ho hd (by simp) ?_)
  have hit' : (s.heap.update it (Obj.mapFields (·.setIfInBounds 1 (rawInt ((i : Int) + 1))))).IsValIter it d (i + 1) es.size ep :=
    ⟨_, Heap.get?_update_self _ ho (Obj.isFreed_of_fields (Obj.data_mapFields hd _)), (Obj.cls_mapFields ..).trans hc, by rw [Obj.data_mapFields hd]; simp [rawInt]⟩
  have hT' : Shared.TypeIs { s with heap := s.heap.update it (Obj.mapFields (·.setIfInBounds 1 (rawInt ((i : Int) + 1)))) } (.ref it) "dict_valueiterator" := hit'.typeIs
  refine wpAny_bind (wpAny_holding (wpAny_bind (wpAny_isOneOf_valiter hT' (wpAny_bind (wpAny_isOneOf_valiter hT' ?_)))))
  show wpAny _ _ (pure e.val) _ _ _
  exact wpAny_pure (wpAny_pure ⟨_, rfl, wpAny_pure (hQ _ hit' (Heap.SameBut.update ..))⟩)
theorem rawValuesEnd {Q : Option Value → Shared → Prop} (hh : A.handled = none) (hit : s.heap.IsValIter it d i es.size ep) (x : DRaw s.heap d es ep) (hx : es.size ≤ i)
    (hQ : ∀ h', Heap.ExtBut it s.heap h' → Q none { s with heap := h' }) : wpAny (model prog w) A (pyNext (.ref it)) Q E s := by
  have hT := hit.typeIs
  obtain ⟨o, ho, hc, hd⟩ := hit
  obtain ⟨od, e1, _, e2⟩ := x
  unfold pyNext
  refine wpAny_bind (wpAny_attempt (wpAny_callSpecial?_slot (name := Str.ofString "__next__") hT F.slot_dict_valueiterator_next (wpAny_call_entry F.slot_dict_valueiterator_next hT F.entry_dict_valueiterator_next ?_ (F.args_dict_valueiterator_next_1 _))))
  refine wpAny_bind (wpAny_pure (wpAny_bind (wpAny_bind ?_)))
  first | refine wpAny_bind (wpAny_typeNameOfWhole_valiter hT (wpAny_pure ?_)) | refine wpAny_bind (wpAny_typeNameOf_valiter hT (wpAny_pure ?_))
  refine wpAny_bind (wpAny_fieldsOf ho hd ?_)
  simp only [show Builtin.Dict_items.ownsTuple "dict_valueiterator" = false from by decide, Bool.false_eq_true, if_false]
  show wpAny _ _ (if (Value.ref d == Value.none) = true then _ else _) _ _ s
  rw [show (Value.ref d == Value.none) = false from rfl, if_neg Bool.false_ne_true]
  refine wpAny_bind (wpAny_pure (wpAny_bind (wpAny_dictEntries e1 e2 ?_)))
  rw [if_neg (by simp)]
  refine wpAny_bind (wpAny_pure (wpAny_bind (wpAny_dictEpoch e1 e2 ?_)))
  rw [if_neg (by simp)]
  refine wpAny_pure ?_
  simp only [show ¬ ((i : Int) < 0) from by omega, if_false, Int.toNat_natCast, Array.getElem?_eq_none hx]
  refine wpAny_bind ?_
  first | refine wpAny_bind (wpAny_typeNameOfWhole_valiter hT (wpAny_pure ?_)) | refine wpAny_bind (wpAny_typeNameOf_valiter hT (wpAny_pure ?_))
  show wpAny _ _ (setField (.ref it) 0 .none >>= _) _ _ s
  refine wpAny_bind (wpAny_setField ho hd (by simp) ?_)
  show wpAny _ _ (newExc (.type "StopIteration") [] >>= _) _ _ _
  refine wpAny_bind ?_
  simp only [newExc, newTuple]
  refine wpAny_bind (wpAny_newObj_type ?_ (by size_fits))
  refine wpAny_bind (m := firstArgMember _ _) (wpAny_of_eq (a := Value.none) (by first | rfl | (simp only [firstArgMember]; rfl)) ?_)
  refine wpAny_newObj_type ?_ (by size_fits)
  simp only [raiseNew]
  refine wpAny_bind (wpAny_handled ?_)
  rw [show A.in1.handled = none from hh]
  refine wpAny_bind (wpAny_pure (wpAny_throw ?_))
  refine wpAny_bind (wpAny_isInstance (T := "StopIteration") (b := true) ⟨_, Heap.get?_push_size _ rfl, rfl⟩ isSubtype_stop ?_)
  exact wpAny_pure (hQ _ (((Heap.SameBut.update ..).extBut.push _).push _))
theorem rawWalk (hh : A.handled = none) (I d : Addr) (hne : d ≠ I) (es : Array DictEntry) (ep : Nat) :
    Walks prog w A I [I, d] [I] es.size (fun i v => ∃ e, es[i]? = some e ∧ v = e.val) (fun i h => h.IsValIter I d i es.size ep ∧ DRaw h d es ep) where
  sub := fun b hb => by simp at hb; simp [hb]
  frame := fun _ _ _ st hk => ⟨st.1.at fun o e => hk I (by simp) o e, st.2.to fun o e => hk d (by simp) o e⟩
  item := fun i s Q E hi st hQ => by
    refine rawValuesNext st.1 st.2 (e := es[i]) (by simp [hi]) fun h' a b => ?_
    exact hQ _ h' s.toks ⟨es[i], by simp [hi], rfl⟩ ⟨a, st.2.to fun o e => b.extBut d o hne e⟩ fun c o hc e => b.extBut c o (fun h => hc (by simp [h])) e
  done := fun s Q E st hQ => rawValuesEnd hh st.1 st.2 (Nat.le_refl _) fun h' he => hQ h' s.toks fun b o hb e => he b o (fun h => hb (by simp [h])) e
  self := fun _ _ _ _ st hQ => wpAny_pyIter_valiter st.1 hQ
end
end L2
set_option Elab.async false
set_option linter.all false
set_option maxRecDepth 100000
set_option maxHeartbeats 4000000
namespace L2
open PySem PySem.Spec PyProof.Rows
theorem pairedGet {α β : Type} {F : α → β → Prop} : ∀ {l₁ : List α} {l₂ : List β}, Paired F l₁ l₂ → ∀ {i : Nat} {a : α}, l₁[i]? = some a → ∃ b, l₂[i]? = some b ∧ F a b
  | _, _, .nil, i, a, h => by simp at h
  | _, _, .cons r t, 0, a, h => by
    simp only [List.getElem?_cons_zero, Option.some.injEq] at h
    subst h
    exact ⟨_, rfl, r⟩
  | _, _, .cons r t, i + 1, a, h => by
    simp only [List.getElem?_cons_succ] at h ⊢
    exact pairedGet t h
def Itd (B : Bool) (kvs : List (PKy × V)) (d : Addr) (o : Obj) : It :=
  ⟨fun i H => i < kvs.length ∧ H d = some (.frz o (.dT B kvs)), fun i H v H' => ∃ T q k x, v = .ref T ∧ H T = none ∧ H' = upd H T (.tup [.ref q, x]) ∧ kvs[i]? = some (k, x) ∧ PKey B H k q, fun i H => kvs.length ≤ i ∧ H d = some (.frz o (.dT B kvs))⟩
theorem frz_raw {P : Program} {w : World} {H : Hp} {h : Heap} {B : Bool} {kvs : List (PKy × V)} {d : Addr} {o : Obj} (ok : HOk P w H h) (e : H d = some (.frz o (.dT B kvs))) :
    ∃ es ep xs, o.data = .dict es ep ∧ DRaw h d es ep ∧ KT B H kvs xs ∧ es.toList = xs.map (entryOfKey (pairKind P w B)) ∧ es.size = kvs.length ∧ (d == sysModules) = false := by
  obtain ⟨e0, z, y, xs, r, ob, es, ep, e1, h2, h3, h4, _⟩ := (show ObjOk P w H h d (.frz o (.dT B kvs)) from ok d _ e)
  rw [e0] at e1
  cases e1
  have hl : es.size = kvs.length := by
    have := congrArg List.length h4
    rw [Array.length_toList, List.length_map, ← Paired.length r] at this
    exact this
  exact ⟨es, ep, xs, h3, ⟨o, e0, h2, h3⟩, r, h4, hl, y⟩
theorem turn_items {P : Program} {w : World} {K : PySem.W.Frag} {elts : List Expr} {k : Nat} {pos : Pos} {B : Bool} {kvs : List (PKy × V)} {o : Obj} {es : Array DictEntry} {ep : Nat} (d it : Addr) (hne : d ≠ it) (ho : o.data = .dict es ep) :
    Turn P w K (.Tuple elts k pos) (Itd B kvs d o) [it] it (fun i h => ∃ ok ov, IsItemIter h it d i es.size ep ok ov) where
  mem := by simp
  obj := fun i h st b hb => by
    obtain ⟨ok, ov, h1⟩ := st
    obtain rfl : b = it := by simpa using hb
    exact ⟨_, h1, fun v z => by cases (show Data.fields _ = Data.cell v from z)⟩
  keep := fun i h h' st kk => by
    obtain ⟨ok, ov, h1⟩ := st
    exact ⟨ok, ov, kk it (by simp) _ h1⟩
  item := by
    intro X hP hw hK hc i pins s σ H E I hf st hg
    subst hP hw hK
    obtain ⟨ok, ov, h1⟩ := st
    obtain ⟨hi, he⟩ := hg
    obtain ⟨es', ep', xs, hd', raw, rel, hes, hsz, _⟩ := frz_raw I.hok he
    rw [ho] at hd'
    cases hd'
    obtain ⟨⟨ky, x⟩, hx⟩ : ∃ p, kvs[i]? = some p := ⟨kvs[i], by simp [hi]⟩
    obtain ⟨⟨k', q, u⟩, hxs, rk, pk, ru⟩ := pairedGet rel hx
    have rk' : ky = k' := rk
    subst rk'
    have hent : es[i]? = some (entryOfKey (pairKind X.prog X.w B) (ky, q, u)) := by
      rw [← Array.getElem?_toList, hes, List.getElem?_map, hxs]
      rfl
    refine rawItemsNext h1 raw hent fun h3 ho3 hT hk => ⟨_, rfl, ?_⟩
    refine wpAny_letOwnedTupleGo_items ho3 fun h4 he4 hs4 => ?_
    have neT : s.heap.objs.size ≠ it := Nat.ne_of_gt (Heap.lt_size h1)
    have J : Inv X pins σ H { s with heap := h4, toks := s.toks } := I.turnedL (fp := [it]) (fun b o hb q => (hs4.2 b (fun z => hb (by simp [z]))).trans (hk b o (fun z => hb (by simp [z])) q)) hf
    have fr : H s.heap.objs.size = none := I.hok.fresh (Nat.le_refl _)
    refine ⟨.ref s.heap.objs.size, upd H s.heap.objs.size (.tup [.ref q, x]), ?_, rfl, ⟨_, q, ky, x, rfl, fr, rfl, hx, pk⟩, ⟨_, _, he4⟩, fun b hb => ?_⟩
    · exact J.newTup I (Nat.le_refl _) fr (us := [.ref q, u]) (.cons rfl (.cons ru .nil)) (by show 2 ≤ sizeLine; decide) ((hs4.2 _ neT).trans hT)
    · obtain rfl : b = it := by simpa using hb
      rw [upd_ne (Ne.symm neT)]
      exact (hf b hb).1
  done := by
    intro X hP hw hK hc i pins s σ H E I hf st hg
    subst hP hw hK
    obtain ⟨ok, ov, h1⟩ := st
    obtain ⟨hi, he⟩ := hg
    obtain ⟨es', ep', xs, hd', raw, rel, hes, hsz, _⟩ := frz_raw I.hok he
    rw [ho] at hd'
    cases hd'
    exact rawItemsEnd (I.ok.hd hc) h1 raw (by omega) fun h' eb => ⟨rfl, I.turnedL (t' := s.toks) (fp := [it]) (fun b o hb q => eb b o (fun z => hb (by simp [z])) q) hf⟩
  self := fun _ _ _ _ _ st h => by
    obtain ⟨ok, ov, h1⟩ := st
    exact PySem.W.kcp_self h1 h
section
variable {X : Cx}
def VwI (v d : Addr) : Heap → Prop := fun h => h.IsItemsView v d
def VwV (v d : Addr) : Heap → Prop := fun h => h.IsValuesView v d
theorem vw_okI {P : Program} {w : World} {H : Hp} {h : Heap} {v d : Addr} (x : h.IsItemsView v d) : ObjOk P w H h v (.ext (VwI v d)) :=
  ⟨x, let ⟨o, e, _⟩ := x; ⟨o, e⟩, fun h1 h2 y k => let ⟨o, e, r⟩ := y; ⟨o, k o e, r⟩⟩
theorem vw_okV {P : Program} {w : World} {H : Hp} {h : Heap} {v d : Addr} (x : h.IsValuesView v d) : ObjOk P w H h v (.ext (VwV v d)) :=
  ⟨x, let ⟨o, e, _⟩ := x; ⟨o, e⟩, fun h1 h2 y k => let ⟨o, e, r⟩ := y; ⟨o, k o e, r⟩⟩
theorem dt_raw {P : Program} {w : World} {H : Hp} {h : Heap} {B : Bool} {kvs : List (PKy × V)} {d : Addr} (ok : HOk P w H h) (e : Rd H d (.dT B kvs)) :
    ∃ o es ep xs, h.get? d = some o ∧ o.data = .dict es ep ∧ DRaw h d es ep ∧ KT B H kvs xs ∧ es.toList = xs.map (entryOfKey (pairKind P w B)) ∧ es.size = kvs.length ∧ (d == sysModules) = false := by
  obtain ⟨z, y, xs, r, ob, es, ep, e1, h2, h3, h4, _⟩ := (show ObjOk P w H h d (.dT B kvs) from rd_of ok e)
  have hl : es.size = kvs.length := by
    have := congrArg List.length h4
    rw [Array.length_toList, List.length_map, ← Paired.length r] at this
    exact this
  exact ⟨ob, es, ep, xs, e1, h3, ⟨ob, e1, h2, h3⟩, r, h4, hl, y⟩
theorem mt_values : MtR X "dict.values" (fun x xs H Q => ∃ d B kvs, x = .ref d ∧ xs = [] ∧ H d = some (.dT B kvs) ∧ ∀ v, H v = none → Q (.ref v) (upd H v (.ext (VwV v d)))) := by
  intro pins s σ H x xs v us Q I rx rs q
  obtain ⟨d, B, kvs, rfl, rfl, e, q⟩ := q
  cases rx
  cases rs
  obtain ⟨o, es, ep, xs, _, _, raw, _, _, _, hd⟩ := dt_raw I.hok (.inl e)
  refine rawValues hd raw ⟨.ref s.heap.objs.size, _, ?_, rfl, q _ (I.hok.fresh (Nat.le_refl _))⟩
  exact I.laid (a := s.heap.objs.size) (t' := s.toks) (fun _ _ q => Heap.get?_push_of_some _ q) (Nat.le_refl _) (vw_okV ⟨_, Heap.get?_push_size _ rfl, rfl, rfl⟩)
def iItems (td : TE) : TI := fun σ H R => td σ H fun x H1 => ∃ d B kvs, x = .ref d ∧ H1 d = some (.dT B kvs) ∧ ∀ o v, H1 v = none → R (Itd B kvs d o) (upd (upd H1 v (.ext (VwI v d))) d (.frz o (.dT B kvs)))
theorem pi_items {elts : List Expr} {k : Nat} {pos apos cpos : Pos} {e : Expr} {td : TE} (he : PE X e td) (hbase : attributeBase e "items" X.env (eval e X.env) = eval e X.env := by rfl) (hline : (apos.endLine == cpos.line) = true := by rfl) :
    PI X (.Tuple elts k pos) (.Call (.Attribute e "items" apos) [] [] cpos) (iItems td) := by
  intro pins s σ H R I h
  refine wpAny_Call_method0_late hbase hline (thn (he pins s σ H _ I h) fun v s0 ⟨x, H0, I0, rx, d, B, kvs, ex, e0, q⟩ => ?_)
  subst ex
  obtain ⟨t1, t2⟩ := tyV_is I0 rx (T := "dict") (.inr (.inr (.inl ⟨rfl, .inr ⟨B, kvs, e0⟩⟩)))
  cases rx
  obtain ⟨_, _, _, _, _, _, raw0, _, _, _, hd0⟩ := dt_raw I0.hok (.inl e0)
  refine ⟨"dict", "dict.items", PySem.F.plainAttrs_dict, PySem.F.slot_dict_items, PySem.F.type_dict_items, t1, t2, Calls.callWith_builtin rfl (PySem.evalArgs_none (rawItems hd0 raw0 ?_))⟩
  have fr : H0 s0.heap.objs.size = none := I0.hok.fresh (Nat.le_refl _)
  have I1 : Inv X pins σ (upd H0 s0.heap.objs.size (.ext (VwI s0.heap.objs.size d))) { s0 with heap := s0.heap.push { cls := .type "dict_items", data := .fields #[.ref d] } } :=
    I0.laid (a := s0.heap.objs.size) (t' := s0.toks) (fun _ _ q => Heap.get?_push_of_some _ q) (Nat.le_refl _) (vw_okI ⟨_, Heap.get?_push_size _ rfl, rfl, rfl⟩)
  have q1 := fun o => q o _ fr
  have e1 : upd H0 s0.heap.objs.size (.ext (VwI s0.heap.objs.size d)) d = some (.dT B kvs) := by
    rw [upd_ne (ne_of_none e0 fr)]
    exact e0
  have e2 : upd H0 s0.heap.objs.size (.ext (VwI s0.heap.objs.size d)) s0.heap.objs.size = some (.ext (VwI s0.heap.objs.size d)) := upd_same
  generalize upd H0 s0.heap.objs.size (.ext (VwI s0.heap.objs.size d)) = H1 at I1 q1 e1 e2
  generalize hvw : s0.heap.objs.size = vw at e2
  have hvw' : (Value.ref s0.heap.objs.size) = Value.ref vw := by rw [hvw]
  generalize hs1 : ({ s0 with heap := s0.heap.push { cls := .type "dict_items", data := .fields #[.ref d] } } : Shared) = s1 at I1 ⊢
  clear hs1 fr q
  obtain ⟨o, es, ep, xs, g1, g2, raw, rel, hes, hsz, hd⟩ := dt_raw I1.hok (.inl e1)
  obtain ⟨hv, _, _⟩ := (show ObjOk X.prog X.w H1 s1.heap vw (.ext (VwI vw d)) from I1.hok vw _ e2)
  refine rawItemsIter hv raw ?_
  have I2 : Inv X pins σ (upd H1 d (.frz o (.dT B kvs))) s1 := by
    have := I1.write (x := d) (e := d) (o := .frz o (.dT B kvs)) (h' := s1.heap) (t' := s1.toks) (by rw [e1]; exact True.intro) (.inl rfl) (fun b u _ z => z) ⟨o, g1⟩ ⟨g1, ?_⟩
    · exact this
    · obtain ⟨z, y, xs', r', ob, es', ep', j1, j2, j3, j4, j5⟩ := (show ObjOk X.prog X.w H1 s1.heap d (.dT B kvs) from I1.hok d _ e1)
      refine ⟨z, y, xs', KT.keeps (show KT B H1 kvs xs' from r') fun c ys ec => ?_, ob, es', ep', j1, j2, j3, j4, j5⟩
      rw [upd_ne (ne_of ec e1 (fun z => nomatch z))]
      exact ec
  have I3 := I2.kept (t' := s1.toks) (h' := s1.heap.push { cls := .type "dict_itemiterator", data := .fields #[.none, .bool false, .ref d, .int 0 0, .int es.size 0, .int ep 0, .none, .none] }) fun b o q => Heap.get?_push_of_some _ q
  refine ⟨s1.heap.objs.size, [s1.heap.objs.size], _, Itd B kvs d o, _, rfl, I3, turn_items d _ (Nat.ne_of_lt (Heap.lt_size g1)) g2, ⟨_, _, Heap.get?_push_size _ rfl⟩, fun b hb => ?_, q1 o⟩
  obtain rfl : b = s1.heap.objs.size := by simpa using hb
  exact I2.fpOk (Nat.le_refl _) (I2.hok.fresh (Nat.le_refl _))
theorem preSum_take (ns : List Int) : ∀ k, k ≤ ns.length → preSum (fun i => ns.getD i 0) k = (ns.take k).sum
  | 0, _ => rfl
  | k + 1, h => by
    have ih := preSum_take ns k (by omega)
    rw [List.take_succ, List.sum_append, ← ih, List.getElem?_eq_getElem (by omega)]
    show preSum (fun i => ns.getD i 0) k + ns.getD k 0 = _
    rw [List.getD_eq_getElem?_getD, List.getElem?_eq_getElem (by omega)]
    simp
theorem call_sumV (hc : X.calm = true) : CallR X (.builtin "sum") (fun xs H Q => ∃ (v d : Addr) (B : Bool) (kvs : List (PKy × V)) (ns : List Int), xs = [.ref v] ∧ H v = some (.ext (VwV v d)) ∧ Rd H d (.dT B kvs) ∧ kvs.map (·.2) = ns.map .int ∧ Q (.int ns.sum) H) := by
  intro pins s σ H xs us Q I r h
  obtain ⟨v, d, B, kvs, ns, rfl, e1, e2, hns, q⟩ := h
  obtain ⟨u, rfl, ru⟩ := vals1 r
  cases ru
  obtain ⟨hv, _, _⟩ := (show ObjOk X.prog X.w H s.heap v (.ext (VwV v d)) from I.hok v _ e1)
  obtain ⟨o, es, ep, ys, g1, g2, raw, rel, hes, hsz, hd⟩ := dt_raw I.hok e2
  have hl : es.size = ns.length := by
    have := congrArg List.length hns
    rw [List.length_map, List.length_map] at this
    omega
  have hne : d ≠ s.heap.objs.size := Nat.ne_of_lt (Heap.lt_size g1)
  refine call_sum_walkG (rawValuesIter hv raw ⟨s.heap.objs.size, _, _, _, _, _, fun i => ns.getD i 0, rfl, rawWalk (A := X.A.in1) (I.ok.hd hc) _ d hne es ep, ⟨⟨_, Heap.get?_push_size _ rfl, rfl, rfl⟩, raw.to fun o e => Heap.get?_push_of_some _ e⟩, fun b hb => ?_, fun i w' hw => ?_, fun h1 tk t1 kk => ⟨.int ns.sum, H, ?_, ⟨t1, ?_⟩, q⟩⟩)
  · show b < (s.heap.push _).objs.size
    rw [Heap.size_push]
    rcases List.mem_cons.mp hb with e | hb
    · rw [e]; exact Nat.lt_succ_self _
    · rw [List.mem_singleton.mp hb]; exact Nat.lt_succ_of_lt (Heap.lt_size g1)
  · obtain ⟨e, he, rfl⟩ := hw
    have hi : i < es.size := (Array.getElem?_eq_some_iff.mp he).1
    have hik : i < kvs.length := by omega
    have hin : i < ns.length := by omega
    obtain ⟨⟨k', q', u'⟩, hxs, rk, pk, ru⟩ := pairedGet rel (i := i) (a := kvs[i]) (by simp [hik])
    have hent : es[i]? = some (entryOfKey (pairKind X.prog X.w B) (k', q', u')) := by
      rw [← Array.getElem?_toList, hes, List.getElem?_map, hxs]
      rfl
    rw [he] at hent
    cases hent
    have hv2 : kvs[i].2 = V.int (ns.getD i 0) := by
      have := congrArg (fun l => l[i]?) hns
      simp only [List.getElem?_map, List.getElem?_eq_getElem hik, List.getElem?_eq_getElem hin, Option.map_some, Option.some.injEq] at this
      rw [this, List.getD_eq_getElem?_getD, List.getElem?_eq_getElem hin]
      rfl
    have ru : RelV kvs[i].2 u' := ru
    rw [hv2] at ru
    exact ru
  · exact I.kept fun b o e => kk b o (fun z => absurd (Heap.lt_size e) (by rw [List.mem_singleton.mp z]; exact Nat.lt_irrefl _)) (Heap.get?_push_of_some _ e)
  · rw [hl, preSum_take ns _ (Nat.le_refl _), List.take_length]
def tDisp1 (B : Bool) (tk tv : TE) : TE := fun σ H Q => ∀ p, H p = none → tPairs [(tk, tv)] σ (upd H p (.dT B [])) fun ps H2 => ∃ x y k q, ps = [(x, y)] ∧ x = .ref q ∧ H2 p = some (.dT B []) ∧ PKey B H2 k q ∧ Q (.ref p) (upd H2 p (.dT B [(k, y)]))
theorem pe_disp1 {pos : Pos} {ke ve : Expr} {tk tv : TE} (B : Bool) (hu : X.A.units + 20 < cLine) (hk : PE X ke tk) (hv : PE X ve tv) : PE X (.Dict [some ke] [ve] pos) (tDisp1 B tk tv) := by
  intro pins s σ H Q I q
  have hn := I.hok.fresh (Nat.le_refl s.heap.objs.size)
  have I1 := I.laid (a := s.heap.objs.size) (o := .dT B []) (h' := s.heap.push { cls := .type "dict", data := .dict #[] }) (t' := s.toks) (fun _ _ q => Heap.get?_push_of_some _ q) (Nat.le_refl _) (dt_empty s.heap I.big)
  refine wpAny_Dict_any rfl rfl (by simp) (by simp) (thn (pps_cons hk hv pps_nil pins _ σ _ _ I1 (q _ hn)) ?_)
  · rintro ws s2 ⟨ps, H2, I2, rel, x, y, k, qa, rfl, rfl, e, pk, q2⟩
    cases rel with
    | @cons _ b _ _ h0 t0 =>
      cases t0
      obtain ⟨b1, b2⟩ := b
      obtain ⟨rx, ry⟩ := h0
      obtain rfl : b1 = Value.ref qa := rx
      obtain ⟨z, hd, xs, rl, dd⟩ := dt_of I2.hok e
      cases rl
      unfold storeAll
      rw [List.forIn_cons]
      refine wpAny_bind (wpAny_bind (wpAny_dictSet_heap (hsz := by simp) (knd := pairKind X.prog X.w B) ?_ (key_of I2.hok pk) dd fun h' dd' hs => wpAny_pure ?_))
      · show X.A.units + 8 < cLine
        omega
      show wpAny _ _ (storeAll s.heap.objs.size []) _ _ _
      unfold storeAll
      rw [List.forIn_nil]
      refine wpAny_pure ⟨.ref s.heap.objs.size, _, ?_, rfl, q2⟩
      obtain ⟨ob, es, ep, hq, h2, h3, h4, _, h5⟩ := dd'
      refine d_write I2 (by rw [e]; exact True.intro) hs ⟨ob, hq⟩ ⟨by show 1 ≤ sizeLine; decide, hd, _, ?_, ob, es, ep, hq, h2, h3, h4, h5⟩
      refine .cons ⟨rfl, pk.stay fun c ys ec => ?_, ry⟩ .nil
      rw [upd_ne (ne_of ec e (fun z => nomatch z))]
      exact ec
end
end L2
set_option Elab.async false
set_option linter.all false
set_option maxRecDepth 100000
set_option maxHeartbeats 4000000
namespace L2
open PySem PySem.Spec PyProof.Rows
section
variable {X : Cx}
def rCatT0 (K : PySem.W.Frag) : R2 := fun x y H Q => (∃ a b ys, x = .ref a ∧ y = .ref b ∧ SqT K H a [] ∧ SqT K H b ys ∧ Q (.ref b) H) ∨ rCatT K x y H Q
theorem op_catT0 : OpR X (binaryOp .Add) (rCatT0 X.K) := by
  intro pins s σ H x y v u Q I rx ry h
  rcases h with ⟨a, b, ys, rfl, rfl, ha, hb, q⟩ | h
  · cases rx
    cases ry
    obtain ⟨its, r1, p1, _⟩ := I.tuple ha
    obtain ⟨its2, r2, p2, _⟩ := I.tuple hb
    cases r1
    obtain ⟨⟨cls, dd, data, sl⟩, ho, hc, n, hd⟩ := p1
    obtain ⟨⟨cls2, dd2, data2, sl2⟩, ho2, hc2, n2, hd2⟩ := p2
    simp only at hc hd hc2 hd2
    subst hc hd hc2 hd2
    exact concat_meets ⟨_, ho, rfl⟩ ⟨_, ho2, rfl⟩ noFill_tuple_add seq_tuple_add PySem.F.slot_tuple_add PySem.F.entry_tuple_add (PySem.F.args_tuple_add_2 _ _)
      (tuple_addW0 a b _ _ n n2 dd dd2 sl sl2 rfl) ⟨ho, ho2, ⟨.ref b, H, I, rfl, q⟩⟩
  · exact op_catT pins s σ H x y v u Q I rx ry h
end
end L2
set_option Elab.async false
set_option linter.all false
set_option maxRecDepth 100000
set_option maxHeartbeats 4000000
namespace My
open PySem L2 PySem.Spec PyProof.Rows
def clash (x y : Nat) : Bool := (List.range 5).any fun q => bit x q && bit y q
def clashN (x y : Nat) : Bool := (List.range 5).any fun q => bit x q && !bit y q
def less (a b : Nat) : Nat := (((List.range 5).filter fun q => bit a q && !bit b q).map fun q => 2 ^ q).sum
def setN (m : List Int) : Nat := m.foldl (fun s p => s ||| 2 ^ p.toNat) 0
theorem less_lt : ∀ a < 32, ∀ b < 32, less a b < 32 := by decide +kernel
theorem less_bit : ∀ a < 32, ∀ b < 32, ∀ q < 5, bit (less a b) q = (bit a q && !bit b q) := by decide +kernel
theorem less_int : ∀ a < 32, ∀ b < 32, Builtin.bitAnd ((a : Nat) : Int) (Builtin.bitNot ((b : Nat) : Int)) = ((less a b : Nat) : Int) := by decide +kernel
theorem clash_int : ∀ a < 32, ∀ b < 32, (Builtin.bitAnd ((a : Nat) : Int) ((b : Nat) : Int) = 0 ↔ clash a b = false) := by decide +kernel
theorem clashN_int : ∀ a < 32, ∀ b < 32, (Builtin.bitAnd ((a : Nat) : Int) (Builtin.bitNot ((b : Nat) : Int)) = 0 ↔ clashN a b = false) := by decide +kernel
theorem or_lt : ∀ a < 32, ∀ p < 5, a ||| 2 ^ p < 32 := by decide +kernel
theorem or_bit : ∀ a < 32, ∀ p < 5, ∀ q < 5, bit (a ||| 2 ^ p) q = (decide (q = p) || bit a q) := by decide +kernel
theorem or_int : ∀ a < 32, ∀ p < 5, Builtin.bitOr ((a : Nat) : Int) ((2 ^ p : Nat) : Int) = ((a ||| 2 ^ p : Nat) : Int) := by decide +kernel
theorem or_add : ∀ a < 32, ∀ p < 5, bit a p = false → a ||| 2 ^ p = a + 2 ^ p := by decide +kernel
def left (n S : Nat) : Nat := ((List.range n).filter fun q => !bit S q).length
theorem left_step : ∀ n < 6, ∀ S < 2 ^ n, ∀ p < n, bit S p = false → left n (S + 2 ^ p) + 1 = left n S := by decide +kernel
theorem left_none : ∀ n < 6, ∀ S < 2 ^ n, (left n S = 0 ↔ S = 2 ^ n - 1) := by decide +kernel
theorem left_zero : ∀ n < 6, left n 0 = n := by decide +kernel
theorem setN_go {m : List Int} : ∀ {S : Nat}, S < 32 → (∀ p ∈ m, 0 ≤ p ∧ p < 5) → m.foldl (fun s p => s ||| 2 ^ p.toNat) S < 32 ∧ ∀ q : Nat, q < 5 → bit (m.foldl (fun s p => s ||| 2 ^ p.toNat) S) q = (decide ((q : Int) ∈ m) || bit S q) := by
  induction m with
  | nil =>
    intro S hS _
    exact ⟨hS, fun q _ => by rw [decide_eq_false (fun z => nomatch z), Bool.false_or]; rfl⟩
  | cons p r ih =>
    intro S hS h
    obtain ⟨p0, p5⟩ := h p (.head _)
    have hp : p.toNat < 5 := by omega
    obtain ⟨a, b⟩ := ih (S := S ||| 2 ^ p.toNat) (or_lt S hS _ hp) fun x hx => h x (.tail _ hx)
    refine ⟨a, fun q hq => ?_⟩
    rw [List.foldl_cons, b q hq, or_bit S hS _ hp q hq]
    by_cases c : q = p.toNat
    · rw [decide_eq_true c, decide_eq_true (show (q : Int) ∈ p :: r from List.mem_cons.mpr (.inl (by omega)))]
      simp
    · rw [decide_eq_false c, Bool.false_or]
      congr 1
      by_cases d : (q : Int) ∈ r
      · rw [decide_eq_true d, decide_eq_true (List.mem_cons.mpr (.inr d))]
      · rw [decide_eq_false d, decide_eq_false fun z => (List.mem_cons.mp z).elim (fun e => c (by omega)) d]
theorem setN_lt {m : List Int} (h : ∀ p ∈ m, 0 ≤ p ∧ p < 5) : setN m < 32 := (setN_go (S := 0) (by decide) h).1
theorem setN_bit {m : List Int} (h : ∀ p ∈ m, 0 ≤ p ∧ p < 5) {q : Nat} (hq : q < 5) : bit (setN m) q = decide ((q : Int) ∈ m) := by
  have := (setN_go (S := 0) (by decide) h).2 q hq
  rw [bit_high (Nat.two_pow_pos q), Bool.or_false] at this
  exact this
structure Wk where
  n : Nat
  ts : List (List Int)
  kd : Str
  bd : Int
def nb1 (p : Nat) : List Int → Nat
  | [a, b, _] => (if a.toNat = p then 2 ^ b.toNat else 0) + (if b.toNat = p then 2 ^ a.toNat else 0)
  | _ => 0
def nb (ts : List (List Int)) (p : Nat) : Nat := (ts.map (nb1 p)).sum
def lastT (W : Wk) (S : Nat) (m : List Int) (p : Nat) : Option (List Int) :=
  if (W.n : Int) - 1 ≤ W.bd then some []
  else if clash (nb W.ts p) (less S (setN m)) = true then none
  else if ((m.length + 1 : Nat) : Int) ≤ W.bd then some (m ++ [(p : Int)])
  else if clashN (nb W.ts ((m ++ [(p : Int)]).headD 0).toNat) (S + 2 ^ p) = true then none
  else some ((m ++ [(p : Int)]).tail)
def matT (W : Wk) (S : Nat) (m : List Int) (p : Nat) : Option (List Int) :=
  if W.kd = "longest" then lastT W S m p
  else if W.kd = "total" then (if cutZ W.ts (S + 2 ^ p) + m.headD 0 ≤ W.bd then some [cutZ W.ts (S + 2 ^ p) + m.headD 0] else none)
  else if cutZ W.ts (S + 2 ^ p) ≤ W.bd then some [] else none
def stepK (W : Wk) (k : PKy) (p : Nat) : Option PKy := if bit k.1.toNat p = true then none else (matT W k.1.toNat k.2 p).map fun m => (((k.1.toNat + 2 ^ p : Nat) : Int), m)
def begK (W : Wk) : PKy := (0, if W.kd = "total" then [0] else [])
def nextsTo (W : Wk) (k : PKy) (j : Nat) : List (Nat × PKy) := (List.range j).filterMap fun p => (stepK W k p).map fun k' => (p, k')
def nexts (W : Wk) (k : PKy) : List (Nat × PKy) := nextsTo W k W.n
def rows (W : Wk) (k : PKy) : Nat → List (List Int)
  | 0 => [[]]
  | d + 1 => (nexts W k).flatMap fun x => (rows W x.2 d).map fun r => (x.1 : Int) :: r
def runK (W : Wk) (k : PKy) : List Int → Option PKy
  | [] => some k
  | p :: r => (stepK W k p.toNat).bind fun k' => runK W k' r
def exts (n : Nat) (o : List Int) : Nat → List (List Int)
  | 0 => [[]]
  | d + 1 => ((upto n).filter fun p => !decide (p ∈ o)).flatMap fun p => (exts n (o ++ [p]) d).map fun r => p :: r
theorem exts_succ (n : Nat) (o : List Int) (d : Nat) : exts n o (d + 1) = ((upto n).filter fun p => !decide (p ∈ o)).flatMap fun p => (exts n (o ++ [p]) d).map fun r => p :: r := rfl
theorem flat_map {α β γ : Type} (f : β → γ) (g : α → List β) : ∀ l : List α, (l.flatMap g).map f = l.flatMap fun x => (g x).map f
  | [] => rfl
  | a :: r => by rw [List.flatMap_cons, List.map_append, flat_map f g r, List.flatMap_cons]
theorem flat_flat {α β γ : Type} (f : β → List γ) (g : α → List β) : ∀ l : List α, (l.flatMap g).flatMap f = l.flatMap fun x => (g x).flatMap f
  | [] => rfl
  | a :: r => by rw [List.flatMap_cons, List.flatMap_append, flat_flat f g r, List.flatMap_cons]
theorem flat_filter {α β : Type} (c : β → Bool) (g : α → List β) : ∀ l : List α, (l.flatMap g).filter c = l.flatMap fun x => (g x).filter c
  | [] => rfl
  | a :: r => by rw [List.flatMap_cons, List.filter_append, flat_filter c g r, List.flatMap_cons]
theorem flat_congr {α β : Type} {f g : α → List β} : ∀ {l : List α}, (∀ x ∈ l, f x = g x) → l.flatMap f = l.flatMap g
  | [], _ => rfl
  | a :: r, h => by rw [List.flatMap_cons, List.flatMap_cons, h a (.head _), flat_congr fun x hx => h x (.tail _ hx)]
theorem flat_of_map {α β γ : Type} (f : α → β) (g : β → List γ) : ∀ l : List α, (l.map f).flatMap g = l.flatMap fun x => g (f x)
  | [] => rfl
  | a :: r => by rw [List.map_cons, List.flatMap_cons, flat_of_map f g r, List.flatMap_cons]
theorem flat_of_filter {α β : Type} (c : α → Bool) (g : α → List β) : ∀ l : List α, (l.filter c).flatMap g = l.flatMap fun x => if c x = true then g x else []
  | [] => rfl
  | a :: r => by
    rw [List.flatMap_cons, ← flat_of_filter c g r, List.filter_cons]
    by_cases h : c a = true
    · rw [if_pos h, if_pos h, List.flatMap_cons]
    · rw [if_neg h, if_neg h, List.nil_append]
theorem flat_of_filterMap {α β γ : Type} (f : α → Option β) (g : β → List γ) : ∀ l : List α, (l.filterMap f).flatMap g = l.flatMap fun x => match f x with | some y => g y | none => []
  | [] => rfl
  | a :: r => by
    rw [List.flatMap_cons, ← flat_of_filterMap f g r, List.filterMap_cons]
    cases f a with
    | none => rfl
    | some y => exact List.flatMap_cons
theorem all_exts (n : Nat) : ∀ (d j : Nat), allTo n (j + d) = (allTo n j).flatMap fun o => (exts n o d).map fun r => o ++ r
  | 0, j => by
    show allTo n j = (allTo n j).flatMap fun o => [o ++ []]
    have : ∀ l : List (List Int), l.flatMap (fun o => [o ++ []]) = l := fun l => by
      induction l with
      | nil => rfl
      | cons a r ih => rw [List.flatMap_cons, ih, List.append_nil]; rfl
    exact (this _).symm
  | d + 1, j => by
    have e : j + (d + 1) = (j + 1) + d := by omega
    rw [e, all_exts n d (j + 1)]
    show ((allTo n j).flatMap (extOf n)).flatMap _ = _
    rw [flat_flat]
    refine flat_congr fun o _ => ?_
    unfold extOf
    rw [flat_of_map]
    rw [exts_succ, flat_map]
    refine flat_congr fun p _ => ?_
    rw [List.map_map]
    refine List.map_congr_left fun r _ => ?_
    simp
theorem all_is (n : Nat) : allTo n n = exts n [] n := by
  have := all_exts n n 0
  rw [Nat.zero_add] at this
  rw [this]
  show [[]].flatMap _ = _
  rw [List.flatMap_cons, List.flatMap_nil, List.append_nil]
  have : ∀ l : List (List Int), l.map (fun r => [] ++ r) = l := fun l => by simp
  exact this _
theorem stepK_fst {W : Wk} {k k' : PKy} {p : Nat} (h : stepK W k p = some k') : bit k.1.toNat p = false ∧ k'.1 = ((k.1.toNat + 2 ^ p : Nat) : Int) ∧ matT W k.1.toNat k.2 p = some k'.2 := by
  unfold stepK at h
  by_cases c : bit k.1.toNat p = true
  · rw [if_pos c] at h
    cases h
  · rw [if_neg c] at h
    cases e : matT W k.1.toNat k.2 p with
    | none => rw [e] at h; cases h
    | some m =>
      rw [e] at h
      cases h
      exact ⟨Bool.eq_false_iff.mpr c, rfl, rfl⟩
theorem rows_exts {W : Wk} (hn : W.n ≤ 5) : ∀ (d : Nat) (o : List Int) (k : PKy), k.1.toNat < 2 ^ W.n → (∀ q : Nat, q < W.n → bit k.1.toNat q = decide ((q : Int) ∈ o)) → rows W k d = (exts W.n o d).filter fun r => (runK W k r).isSome
  | 0, o, k, _, _ => rfl
  | d + 1, o, k, hS, hb => by
    rw [exts_succ]
    unfold rows nexts nextsTo
    rw [flat_filter, flat_of_filterMap, flat_of_filter]
    unfold upto
    rw [flat_of_map]
    refine flat_congr fun p hp => ?_
    have hpn := List.mem_range.mp hp
    have hbp := hb p hpn
    by_cases c : (p : Int) ∈ o
    · have hbt : bit k.1.toNat p = true := by rw [hbp]; exact decide_eq_true c
      have hs : stepK W k p = none := by unfold stepK; rw [if_pos hbt]
      rw [hs, decide_eq_true c]
      rfl
    · have hbf : bit k.1.toNat p = false := by rw [hbp]; exact decide_eq_false c
      rw [decide_eq_false c, if_pos (show (!false) = true from rfl), List.filter_map]
      cases hs : stepK W k p with
      | none =>
        have : (exts W.n (o ++ [(p : Int)]) d).filter ((fun r => (runK W k r).isSome) ∘ fun r => (p : Int) :: r) = [] := by
          rw [List.filter_eq_nil_iff]
          intro r _
          show ¬ (runK W k ((p : Int) :: r)).isSome = true
          unfold runK
          rw [Int.toNat_natCast, hs]
          exact Bool.false_ne_true
        rw [this]
        rfl
      | some k' =>
        obtain ⟨_, e1, _⟩ := stepK_fst hs
        have ih := rows_exts hn d (o ++ [(p : Int)]) k' (by rw [e1, Int.toNat_natCast]; exact bits_lt W.n (by omega) _ hS p hpn hbf) (fun q hq => by
          rw [e1, Int.toNat_natCast, bits_put _ (lt32 hn hS) p (by omega) q (by omega) hbf, hb q hq]
          by_cases d1 : q = p
          · rw [decide_eq_true d1, decide_eq_true (List.mem_append.mpr (.inr (List.mem_singleton.mpr (by omega))))]
            rfl
          · rw [decide_eq_false d1, Bool.false_or]
            by_cases d2 : (q : Int) ∈ o
            · rw [decide_eq_true d2, decide_eq_true (List.mem_append.mpr (.inl d2))]
            · rw [decide_eq_false d2, decide_eq_false fun z => (List.mem_append.mp z).elim d2 fun z => d1 (by have := List.mem_singleton.mp z; omega)])
        show (rows W k' d).map _ = _
        rw [ih]
        congr 1
        refine List.filter_congr fun r _ => ?_
        show (runK W k' r).isSome = (runK W k ((p : Int) :: r)).isSome
        conv => rhs; unfold runK
        rw [Int.toNat_natCast, hs]
        rfl
theorem begK_fst (W : Wk) : (begK W).1 = 0 := rfl
theorem rows_all {W : Wk} (hn : W.n ≤ 5) : rows W (begK W) W.n = (allTo W.n W.n).filter fun os => (runK W (begK W) os).isSome := by
  rw [all_is]
  exact rows_exts hn W.n [] (begK W) (by rw [begK_fst]; exact Nat.two_pow_pos _) fun q _ => by
    rw [begK_fst, decide_eq_false (fun z => nomatch z)]
    exact bit_high (Nat.two_pow_pos q)
end My
set_option Elab.async false
set_option linter.all false
set_option maxRecDepth 100000
set_option maxHeartbeats 4000000
namespace My
open PySem L2 PySem.Spec PyProof.Rows
theorem ties_later {n : Int} : ∀ {ts : List (List Int)} {x y : Int}, tiesOk n [x, y] ts = true → ∀ t ∈ ts, ∃ a c d, t = [a, c, d] ∧ (x < a ∨ (x = a ∧ y < c))
  | [], _, _, _, t, ht => absurd ht List.not_mem_nil
  | t :: r, x, y, h, s, hs => by
    unfold tiesOk at h
    rw [Bool.and_eq_true, Bool.and_eq_true] at h
    obtain ⟨h1, h2, h3⟩ := h
    obtain ⟨a, c, d, rfl, _⟩ := tieOk_three h1
    have hlt : x < a ∨ (x = a ∧ y < c) := by
      have z : HT.lexLe [a, c] [x, y] = false := by simpa using h2
      rw [HT.lexLe_cons] at z
      by_cases e : a = x
      · rw [if_pos e, HT.lexLe_cons] at z
        by_cases e2 : c = y
        · rw [if_pos e2] at z
          cases z
        · rw [if_neg e2] at z
          have := of_decide_eq_false z
          omega
      · rw [if_neg e] at z
        have := of_decide_eq_false z
        omega
    rcases List.mem_cons.mp hs with rfl | hs
    · exact ⟨a, c, d, rfl, hlt⟩
    · obtain ⟨a', c', d', rfl, q⟩ := ties_later h3 s hs
      exact ⟨a', c', d', rfl, by omega⟩
def Tied (ts : List (List Int)) (p q : Nat) : Prop := ∃ c : Int, [(p : Int), (q : Int), c] ∈ ts ∨ [(q : Int), (p : Int), c] ∈ ts
theorem nb_bits {n : Nat} (hn : n ≤ 5) {p : Nat} (hp : p < n) : ∀ {ts : List (List Int)} {x y : Int}, tiesOk n [x, y] ts = true → nb ts p < 2 ^ n ∧ ∀ q, q < n → (bit (nb ts p) q = true ↔ Tied ts p q)
  | [], _, _, _ => ⟨Nat.two_pow_pos n, fun q _ => by
      have : bit (nb [] p) q = false := bit_high (Nat.two_pow_pos q)
      rw [this]
      exact ⟨fun z => Bool.noConfusion z, fun ⟨c, z⟩ => z.elim (fun w => absurd w List.not_mem_nil) fun w => absurd w List.not_mem_nil⟩⟩
  | t :: r, x, y, h => by
    unfold tiesOk at h
    rw [Bool.and_eq_true, Bool.and_eq_true] at h
    obtain ⟨h1, h2, h3⟩ := h
    obtain ⟨a, c, d, rfl, g1, g2, g3, g4, g5, g6⟩ := tieOk_three h1
    obtain ⟨a, rfl⟩ : ∃ m : Nat, a = m := ⟨a.toNat, by omega⟩
    obtain ⟨c, rfl⟩ : ∃ m : Nat, c = m := ⟨c.toNat, by omega⟩
    obtain ⟨ih1, ih2⟩ := nb_bits hn hp h3
    have later := ties_later h3
    have later3 := tiesOk_all h3
    have e : nb ([(a : Int), (c : Int), d] :: r) p = nb r p + ((if a = p then 2 ^ c else 0) + (if c = p then 2 ^ a else 0)) := by
      unfold nb
      rw [List.map_cons, List.sum_cons, Nat.add_comm]
      rfl
    have noac : ∀ z : Int, [(a : Int), (c : Int), z] ∉ r := fun z hz => by
      obtain ⟨a', c', d', ee, q⟩ := later _ hz
      simp only [List.cons.injEq] at ee
      omega
    have noca : ∀ z : Int, [(c : Int), (a : Int), z] ∉ r := fun z hz => by
      obtain ⟨a', c', d', ee, q1, q2, q3, q4, _⟩ := tieOk_three (later3 _ hz)
      simp only [List.cons.injEq] at ee
      omega
    have tcons : ∀ q : Nat, Tied ([(a : Int), (c : Int), d] :: r) p q ↔ ((p = a ∧ q = c) ∨ (p = c ∧ q = a)) ∨ Tied r p q := fun q => by
      constructor
      · rintro ⟨z, hz | hz⟩
        · rcases List.mem_cons.mp hz with ee | hz
          · simp only [List.cons.injEq] at ee
            exact .inl (.inl ⟨by omega, by omega⟩)
          · exact .inr ⟨z, .inl hz⟩
        · rcases List.mem_cons.mp hz with ee | hz
          · simp only [List.cons.injEq] at ee
            exact .inl (.inr ⟨by omega, by omega⟩)
          · exact .inr ⟨z, .inr hz⟩
      · rintro ((⟨rfl, rfl⟩ | ⟨rfl, rfl⟩) | ⟨z, hz | hz⟩)
        · exact ⟨d, .inl (.head _)⟩
        · exact ⟨d, .inr (.head _)⟩
        · exact ⟨z, .inl (.tail _ hz)⟩
        · exact ⟨z, .inr (.tail _ hz)⟩
    have put : ∀ b : Nat, b < n → ¬ Tied r p b → (nb r p + 2 ^ b < 2 ^ n ∧ ∀ q, q < n → (bit (nb r p + 2 ^ b) q = true ↔ (q = b ∨ Tied r p q))) := fun b hb nt => by
      have hf : bit (nb r p) b = false := Bool.eq_false_iff.mpr fun z => nt ((ih2 b hb).mp z)
      refine ⟨bits_lt n (by omega) _ ih1 b hb hf, fun q hq => ?_⟩
      rw [bits_put _ (lt32 hn ih1) b (by omega) q (by omega) hf, Bool.or_eq_true, decide_eq_true_iff, ih2 q hq]
    rw [e]
    by_cases ca : a = p
    · have cc : ¬ c = p := by omega
      rw [if_pos ca, if_neg cc, Nat.add_zero]
      subst ca
      obtain ⟨z1, z2⟩ := put c (by omega) (fun ⟨z, hz⟩ => hz.elim (noac z) (noca z))
      refine ⟨z1, fun q hq => ?_⟩
      rw [z2 q hq, tcons q]
      constructor
      · rintro (rfl | z)
        · exact .inl (.inl ⟨rfl, rfl⟩)
        · exact .inr z
      · rintro ((⟨_, rfl⟩ | ⟨z, _⟩) | z)
        · exact .inl rfl
        · omega
        · exact .inr z
    · by_cases cc : c = p
      · rw [if_neg ca, if_pos cc, Nat.zero_add]
        subst cc
        obtain ⟨z1, z2⟩ := put a (by omega) (fun ⟨z, hz⟩ => hz.elim (noca z) (noac z))
        refine ⟨z1, fun q hq => ?_⟩
        rw [z2 q hq, tcons q]
        constructor
        · rintro (rfl | z)
          · exact .inl (.inr ⟨rfl, rfl⟩)
          · exact .inr z
        · rintro ((⟨z, _⟩ | ⟨_, rfl⟩) | z)
          · omega
          · exact .inl rfl
          · exact .inr z
      · rw [if_neg ca, if_neg cc]
        refine ⟨ih1, fun q hq => ?_⟩
        show bit (nb r p) q = true ↔ _
        rw [ih2 q hq, tcons q]
        constructor
        · exact fun z => .inr z
        · rintro ((⟨z, _⟩ | ⟨z, _⟩) | z)
          · omega
          · omega
          · exact z
theorem idx_at {os : List Int} (hd : os.Nodup) {j : Nat} {x : Int} (h : os[j]? = some x) : idx os x = j := by
  obtain ⟨hj, rfl⟩ := List.getElem?_eq_some_iff.mp h
  exact hd.idxOf_getElem j hj
theorem at_idx {os : List Int} {x : Int} (h : x ∈ os) : os[idx os x]? = some x := by
  have hl := idx_lt h
  rw [List.getElem?_eq_getElem hl]
  exact congrArg some (List.getElem_idxOf hl)
theorem mem_win {os : List Int} (hd : os.Nodup) {x : Int} (hx : x ∈ os) {i c : Nat} : x ∈ (os.take i).drop c ↔ c ≤ idx os x ∧ idx os x < i := by
  constructor
  · intro h
    have h1 := (mem_take_idx hx).mp (List.mem_of_mem_drop h)
    refine ⟨?_, h1⟩
    obtain ⟨t, ht⟩ := List.mem_iff_getElem?.mp h
    rw [List.getElem?_drop] at ht
    have h2 : os[c + t]? = some x := by
      rw [List.getElem?_take] at ht
      by_cases z : c + t < i
      · rw [if_pos z] at ht; exact ht
      · rw [if_neg z] at ht; cases ht
    have := idx_at hd h2
    omega
  · rintro ⟨h1, h2⟩
    refine List.mem_iff_getElem?.mpr ⟨idx os x - c, ?_⟩
    rw [List.getElem?_drop, show c + (idx os x - c) = idx os x by omega, List.getElem?_take, if_pos h2]
    exact at_idx hx
theorem upTo_succ {os : List Int} {j : Nat} {x : Int} (h : os[j]? = some x) : upTo os (j + 1) = upTo os j + 2 ^ x.toNat := by
  unfold upTo
  rw [List.take_succ, h]
  simp [setOf]
def cutSum (ts : List (List Int)) (os : List Int) (j : Nat) : Int := ((List.range j).map fun g => cutZ ts (upTo os (g + 1))).sum
theorem cutSum_succ (ts : List (List Int)) (os : List Int) (j : Nat) : cutSum ts os (j + 1) = cutZ ts (upTo os (j + 1)) + cutSum ts os j := by
  unfold cutSum
  rw [List.range_succ, List.map_append, List.sum_append]
  simp
  omega
def mtr (W : Wk) (os : List Int) (j : Nat) : List Int :=
  if W.kd = "longest" then (if (W.n : Int) - 1 ≤ W.bd then [] else (os.take j).drop (j - W.bd.toNat))
  else if W.kd = "total" then [cutSum W.ts os j] else []
def keyAt (W : Wk) (os : List Int) (j : Nat) : PKy := (((upTo os j : Nat) : Int), mtr W os j)
theorem keyAt_zero (W : Wk) (os : List Int) : keyAt W os 0 = begK W := by
  unfold keyAt begK mtr upTo
  congr 1
  by_cases c : W.kd = "longest"
  · have c2 : ¬ W.kd = "total" := by rw [c]; decide
    rw [if_pos c, if_neg c2]
    by_cases d : (W.n : Int) - 1 ≤ W.bd
    · rw [if_pos d]
    · rw [if_neg d, List.take_zero, List.drop_nil]
  · rw [if_neg c]
    rfl
theorem key_next {W : Wk} {os : List Int} (hb : 0 ≤ W.bd) {j : Nat} {x : Int} (h : os[j]? = some x) (hx0 : 0 ≤ x) {k' : PKy} (hs : stepK W (keyAt W os j) x.toNat = some k') : k' = keyAt W os (j + 1) := by
  obtain ⟨_, e1, e2⟩ := stepK_fst hs
  have ef : (keyAt W os j).1.toNat = upTo os j := Int.toNat_natCast _
  have ex : ((x.toNat : Nat) : Int) = x := Int.toNat_of_nonneg hx0
  have hjl : j < os.length := (List.getElem?_eq_some_iff.mp h).1
  have htk : os.take (j + 1) = os.take j ++ [x] := by
    rw [List.take_succ, h]
    rfl
  rw [ef, ← upTo_succ h] at e1
  rw [ef] at e2
  refine Prod.ext e1 ?_
  show k'.2 = mtr W os (j + 1)
  unfold matT at e2
  unfold mtr
  by_cases c : W.kd = "longest"
  · rw [if_pos c] at e2
    rw [if_pos c]
    unfold lastT at e2
    by_cases d : (W.n : Int) - 1 ≤ W.bd
    · rw [if_pos d] at e2
      rw [if_pos d]
      exact (Option.some.inj e2).symm
    · rw [if_neg d] at e2
      rw [if_neg d]
      have em : (keyAt W os j).2 = (os.take j).drop (j - W.bd.toNat) := by
        show mtr W os j = _
        unfold mtr
        rw [if_pos c, if_neg d]
      rw [em] at e2
      by_cases c1 : clash (nb W.ts x.toNat) (less (upTo os j) (setN ((os.take j).drop (j - W.bd.toNat)))) = true
      · rw [if_pos c1] at e2
        cases e2
      rw [if_neg c1] at e2
      have hlen : ((os.take j).drop (j - W.bd.toNat)).length = j - (j - W.bd.toNat) := by
        rw [List.length_drop, List.length_take]
        omega
      have happ : (os.take j).drop (j - W.bd.toNat) ++ [((x.toNat : Nat) : Int)] = (os.take (j + 1)).drop (j - W.bd.toNat) := by
        rw [ex, htk, List.drop_append_of_le_length (by rw [List.length_take]; omega)]
      by_cases c2 : ((((os.take j).drop (j - W.bd.toNat)).length + 1 : Nat) : Int) ≤ W.bd
      · rw [if_pos c2] at e2
        rw [← Option.some.inj e2, happ]
        congr 1
        rw [hlen] at c2
        omega
      · rw [if_neg c2, happ] at e2
        by_cases c3 : clashN (nb W.ts (((os.take (j + 1)).drop (j - W.bd.toNat)).headD 0).toNat) (upTo os j + 2 ^ x.toNat) = true
        · rw [if_pos c3] at e2
          cases e2
        · rw [if_neg c3] at e2
          rw [← Option.some.inj e2, List.tail_drop]
          congr 1
          rw [hlen] at c2
          omega
  · rw [if_neg c] at e2
    rw [if_neg c]
    by_cases d : W.kd = "total"
    · rw [if_pos d] at e2
      rw [if_pos d]
      have em : (keyAt W os j).2 = [cutSum W.ts os j] := by
        show mtr W os j = _
        unfold mtr
        rw [if_neg c, if_pos d]
      rw [em, ← upTo_succ h] at e2
      by_cases c1 : cutZ W.ts (upTo os (j + 1)) + [cutSum W.ts os j].headD 0 ≤ W.bd
      · rw [if_pos c1] at e2
        rw [← Option.some.inj e2, cutSum_succ]
        rfl
      · rw [if_neg c1] at e2
        cases e2
    · rw [if_neg d] at e2
      rw [if_neg d]
      by_cases c1 : cutZ W.ts (upTo os j + 2 ^ x.toNat) ≤ W.bd
      · rw [if_pos c1] at e2
        exact (Option.some.inj e2).symm
      · rw [if_neg c1] at e2
        cases e2
theorem run_iff {W : Wk} {os : List Int} (hb : 0 ≤ W.bd) (h0 : ∀ x ∈ os, 0 ≤ x) : ∀ (d j : Nat), j + d = os.length → ((runK W (keyAt W os j) (os.drop j)).isSome = true ↔ ∀ i x, j ≤ i → os[i]? = some x → (stepK W (keyAt W os i) x.toNat).isSome = true)
  | 0, j, e => by
    rw [List.drop_of_length_le (by omega)]
    refine ⟨fun _ i x hi hx => ?_, fun _ => rfl⟩
    have := (List.getElem?_eq_some_iff.mp hx).1
    omega
  | d + 1, j, e => by
    have hj : j < os.length := by omega
    have hx : os[j]? = some os[j] := List.getElem?_eq_getElem hj
    rw [List.drop_eq_getElem_cons hj]
    unfold runK
    cases hs : stepK W (keyAt W os j) os[j].toNat with
    | none =>
      refine ⟨fun z => ?_, fun z => ?_⟩
      · cases z
      · have := z j _ (Nat.le_refl _) hx
        rw [hs] at this
        cases this
    | some k' =>
      have ek := key_next hb hx (h0 _ (List.getElem_mem hj)) hs
      subst ek
      show (runK W (keyAt W os (j + 1)) (os.drop (j + 1))).isSome = true ↔ _
      rw [run_iff hb h0 d (j + 1) (by omega)]
      refine ⟨fun z i x hi hix => ?_, fun z i x hi hix => z i x (by omega) hix⟩
      by_cases c : i = j
      · subst c
        rw [hx] at hix
        cases hix
        rw [hs]
        rfl
      · exact z i x (by omega) hix
end My
set_option Elab.async false
set_option linter.all false
set_option maxRecDepth 100000
set_option maxHeartbeats 4000000
namespace My
open PySem L2 PySem.Spec PyProof.Rows
def measF (kd : Str) (n : Int) (os : List Int) (ts : List (List Int)) : Int := if kd = "longest" then longF n os ts else if kd = "most" then mostF n os ts else totF n os ts
theorem maxOf_le {b : Int} : ∀ {ns : List Int}, maxOf ns ≤ b ↔ 0 ≤ b ∧ ∀ x ∈ ns, x ≤ b
  | [] => ⟨fun h => ⟨h, fun x hx => absurd hx List.not_mem_nil⟩, fun h => h.1⟩
  | a :: r => by
    show max a (maxOf r) ≤ b ↔ _
    have ih := maxOf_le (b := b) (ns := r)
    constructor
    · intro h
      obtain ⟨h1, h2⟩ := ih.mp (by omega)
      exact ⟨h1, fun x hx => (List.mem_cons.mp hx).elim (fun e => by omega) (h2 x)⟩
    · rintro ⟨h1, h2⟩
      have := ih.mpr ⟨h1, fun x hx => h2 x (.tail _ hx)⟩
      have := h2 a (.head _)
      omega
theorem cut1_nonneg {n : Int} {S : Nat} {t : List Int} (h : tieOk n t = true) : 0 ≤ cut1 S t := by
  obtain ⟨a, b, c, rfl, _, _, _, _, h5, _⟩ := tieOk_three h
  show 0 ≤ (if bit S a.toNat = bit S b.toNat then 0 else c)
  split <;> omega
theorem cutZ_nonneg {n : Int} {S : Nat} : ∀ {ts : List (List Int)}, (∀ t ∈ ts, tieOk n t = true) → 0 ≤ cutZ ts S
  | [], _ => Int.le_refl _
  | t :: r, h => by
    have h1 := cut1_nonneg (S := S) (h t (.head _))
    have h2 := cutZ_nonneg (S := S) (ts := r) fun t' ht => h t' (.tail _ ht)
    unfold cutZ at h2 ⊢
    rw [List.map_cons, List.sum_cons]
    omega
theorem cutSum_le {n : Int} {ts : List (List Int)} (h : ∀ t ∈ ts, tieOk n t = true) (os : List Int) (i : Nat) : ∀ d, cutSum ts os i ≤ cutSum ts os (i + d)
  | 0 => Int.le_refl _
  | d + 1 => by
    have := cutSum_le h os i d
    rw [← Nat.add_assoc, cutSum_succ]
    have := cutZ_nonneg (S := upTo os (i + d + 1)) h
    omega
theorem step_is {W : Wk} (hn : W.n ≤ 5) {os : List Int} (ho : ordOk W.n os = true) {i : Nat} {x : Int} (hx : os[i]? = some x) : (stepK W (keyAt W os i) x.toNat).isSome = (matT W (upTo os i) (mtr W os i) x.toNat).isSome := by
  obtain ⟨h1, h2, h3⟩ := ordOk_of ho
  have hm := h2 x (List.mem_of_getElem? hx)
  have hf : bit (upTo os i) x.toNat = false := by
    rw [(upTo_bits hn ho i).2 x.toNat (by omega), Int.toNat_of_nonneg hm.1, idx_at h3 hx]
    exact decide_eq_false (Nat.lt_irrefl _)
  unfold stepK
  have ef : (keyAt W os i).1.toNat = upTo os i := Int.toNat_natCast _
  rw [ef, hf, if_neg Bool.false_ne_true, Option.isSome_map]
  rfl
theorem ite_some {α : Type} {c : Prop} [Decidable c] {a : α} : (if c then some a else none).isSome = decide c := by
  by_cases h : c
  · rw [if_pos h, decide_eq_true h]; rfl
  · rw [if_neg h, decide_eq_false h]; rfl
section
variable {W : Wk} {os : List Int}
theorem most_iff (hn : W.n ≤ 5) (ht : ∀ t ∈ W.ts, tieOk W.n t = true) (ho : ordOk W.n os = true) (hb : 0 ≤ W.bd) (hk : W.kd = "most") :
    (∀ i x, os[i]? = some x → (matT W (upTo os i) (mtr W os i) x.toNat).isSome = true) ↔ mostF W.n os W.ts ≤ W.bd := by
  obtain ⟨h1, h2, h3⟩ := ordOk_of ho
  have k1 : ¬ W.kd = "longest" := by rw [hk]; decide
  have k2 : ¬ W.kd = "total" := by rw [hk]; decide
  have st : ∀ i x, os[i]? = some x → ((matT W (upTo os i) (mtr W os i) x.toNat).isSome = true ↔ cutZ W.ts (upTo os (i + 1)) ≤ W.bd) := fun i x hx => by
    unfold matT
    rw [if_neg k1, if_neg k2, ← upTo_succ hx, ite_some, decide_eq_true_iff]
  unfold mostF
  rw [maxOf_le]
  constructor
  · intro h
    refine ⟨hb, fun y hy => ?_⟩
    unfold gapsL at hy
    obtain ⟨g, hg, rfl⟩ := List.mem_map.mp hy
    have hg := List.mem_range.mp hg
    rw [gap_cut hn ho ht]
    have hgl : g < os.length := by omega
    exact (st g _ (List.getElem?_eq_getElem hgl)).mp (h g _ (List.getElem?_eq_getElem hgl))
  · rintro ⟨_, h⟩ i x hx
    rw [st i x hx]
    have hil := (List.getElem?_eq_some_iff.mp hx).1
    by_cases c : i + 1 = W.n
    · rw [c, cut_full hn ho ht]
      exact hb
    · rw [← gap_cut hn ho ht]
      exact h _ (List.mem_map.mpr ⟨i, List.mem_range.mpr (by omega), rfl⟩)
theorem tot_iff (hn : W.n ≤ 5) (ht : ∀ t ∈ W.ts, tieOk W.n t = true) (ho : ordOk W.n os = true) (hb : 0 ≤ W.bd) (hk : W.kd = "total") :
    (∀ i x, os[i]? = some x → (matT W (upTo os i) (mtr W os i) x.toNat).isSome = true) ↔ totF W.n os W.ts ≤ W.bd := by
  obtain ⟨h1, h2, h3⟩ := ordOk_of ho
  have k1 : ¬ W.kd = "longest" := by rw [hk]; decide
  have st : ∀ i x, os[i]? = some x → ((matT W (upTo os i) (mtr W os i) x.toNat).isSome = true ↔ cutSum W.ts os (i + 1) ≤ W.bd) := fun i x hx => by
    have em : mtr W os i = [cutSum W.ts os i] := by
      unfold mtr
      rw [if_neg k1, if_pos hk]
    unfold matT
    rw [if_neg k1, if_pos hk, ← upTo_succ hx, ite_some, decide_eq_true_iff, em, cutSum_succ]
    rfl
  have et : totF W.n os W.ts = cutSum W.ts os os.length := by
    rw [tot_way hn ho ht]
    have e := way_take (ts := W.ts) (os := os) (k := os.length) (Nat.le_refl _)
    rw [List.take_length] at e
    exact e
  rw [et]
  constructor
  · intro h
    cases e : os.length with
    | zero => exact hb
    | succ m =>
      have hm : m < os.length := by omega
      exact (st m _ (List.getElem?_eq_getElem hm)).mp (h m _ (List.getElem?_eq_getElem hm))
  · intro h i x hx
    rw [st i x hx]
    have hil := (List.getElem?_eq_some_iff.mp hx).1
    have := cutSum_le ht os (i + 1) (os.length - (i + 1))
    rw [show i + 1 + (os.length - (i + 1)) = os.length by omega] at this
    omega
theorem any5 {f : Nat → Bool} : (List.range 5).any f = false ↔ ∀ q < 5, f q = false := by
  rw [List.any_eq_false]
  exact ⟨fun h q hq => Bool.eq_false_iff.mpr (h q (List.mem_range.mpr hq)), fun h q hq => by rw [h q (List.mem_range.mp hq)]; exact Bool.false_ne_true⟩
theorem len_le {n : Nat} {b : Int} (ht : ∀ t ∈ W.ts, tieOk n t = true) (hb : 0 ≤ b) : longF n os W.ts ≤ b ↔ ∀ p q : Nat, Tied W.ts p q → ((idx os (p : Int) : Nat) : Int) ≤ (idx os (q : Int) : Nat) + b := by
  unfold longF
  rw [maxOf_le]
  have tl : ∀ a c : Nat, ∀ d : Int, tieLen os [(a : Int), (c : Int), d] ≤ b ↔ ((idx os (a : Int) : Nat) : Int) ≤ (idx os (c : Int) : Nat) + b ∧ ((idx os (c : Int) : Nat) : Int) ≤ (idx os (a : Int) : Nat) + b := fun a c d => by
    show absI _ ≤ b ↔ _
    unfold absI
    split <;> omega
  constructor
  · rintro ⟨_, h⟩ p q ⟨d, hz | hz⟩
    · exact ((tl p q d).mp (h _ (List.mem_map.mpr ⟨_, hz, rfl⟩))).1
    · exact ((tl q p d).mp (h _ (List.mem_map.mpr ⟨_, hz, rfl⟩))).2
  · intro h
    refine ⟨hb, fun y hy => ?_⟩
    obtain ⟨t, hmt, rfl⟩ := List.mem_map.mp hy
    obtain ⟨a, c, d, rfl, g1, g2, g3, g4, _⟩ := tieOk_three (ht t hmt)
    obtain ⟨a, rfl⟩ : ∃ m : Nat, a = m := ⟨a.toNat, by omega⟩
    obtain ⟨c, rfl⟩ : ∃ m : Nat, c = m := ⟨c.toNat, by omega⟩
    exact (tl a c d).mpr ⟨h a c ⟨d, .inl hmt⟩, h c a ⟨d, .inr hmt⟩⟩
theorem long_iff (hn : W.n ≤ 5) (hw : webOk W.n W.ts = true) (ho : ordOk W.n os = true) (hb : 0 ≤ W.bd) (hk : W.kd = "longest") :
    (∀ i x, os[i]? = some x → (matT W (upTo os i) (mtr W os i) x.toNat).isSome = true) ↔ longF W.n os W.ts ≤ W.bd := by
  obtain ⟨h1, h2, h3⟩ := ordOk_of ho
  have htk : tiesOk W.n [-1, -1] W.ts = true := by
    unfold webOk at hw
    rw [Bool.and_eq_true] at hw
    exact hw.2
  have ht := tiesOk_all htk
  rw [len_le ht hb]
  have tin : ∀ {p q : Nat}, Tied W.ts p q → p < W.n ∧ q < W.n := fun {p q} ⟨d, z⟩ => by
    rcases z with z | z
    · obtain ⟨a, c, d', ee, g1, g2, g3, g4, _⟩ := tieOk_three (ht _ z)
      simp only [List.cons.injEq] at ee
      omega
    · obtain ⟨a, c, d', ee, g1, g2, g3, g4, _⟩ := tieOk_three (ht _ z)
      simp only [List.cons.injEq] at ee
      omega
  have tsym : ∀ {p q : Nat}, Tied W.ts p q → Tied W.ts q p := fun {p q} ⟨d, z⟩ => ⟨d, z.symm⟩
  have ilt : ∀ {q : Nat}, q < W.n → idx os (q : Int) < os.length := fun {q} hq => idx_lt (ord_all ho (k := (q : Int)) (by omega) (by omega))
  by_cases d : (W.n : Int) - 1 ≤ W.bd
  · constructor
    · intro _ p q hpq
      have := ilt (tin hpq).1
      omega
    · intro _ i x hx
      unfold matT lastT
      rw [if_pos hk, if_pos d]
      rfl
  have nbb : ∀ {p : Nat}, p < W.n → ∀ q, q < 5 → (bit (nb W.ts p) q = true ↔ Tied W.ts p q) := fun {p} hp q hq => by
    obtain ⟨z1, z2⟩ := nb_bits hn hp htk
    by_cases c : q < W.n
    · exact z2 q c
    · rw [bit_out z1 (by omega)]
      exact ⟨fun z => Bool.noConfusion z, fun z => absurd (tin z).2 c⟩
  have st : ∀ i x, os[i]? = some x → ((matT W (upTo os i) (mtr W os i) x.toNat).isSome = true ↔ (∀ q : Nat, Tied W.ts x.toNat q → (i : Int) ≤ (idx os (q : Int) : Nat) + W.bd) ∧
      (W.bd ≤ i → ∀ y, os[i - W.bd.toNat]? = some y → ∀ q : Nat, Tied W.ts y.toNat q → idx os (q : Int) ≤ i)) := fun i x hx => by
    have hil := (List.getElem?_eq_some_iff.mp hx).1
    have hxm := h2 x (List.mem_of_getElem? hx)
    have ex : ((x.toNat : Nat) : Int) = x := Int.toNat_of_nonneg hxm.1
    have em : mtr W os i = (os.take i).drop (i - W.bd.toNat) := by
      unfold mtr
      rw [if_pos hk, if_neg d]
    obtain ⟨u1, u2⟩ := upTo_bits hn ho i
    obtain ⟨v1, v2⟩ := upTo_bits hn ho (i + 1)
    have mw : ∀ p ∈ (os.take i).drop (i - W.bd.toNat), 0 ≤ p ∧ p < 5 := fun p hp => by
      have := h2 p (List.mem_of_mem_take (List.mem_of_mem_drop hp))
      omega
    have t1 : clash (nb W.ts x.toNat) (less (upTo os i) (setN ((os.take i).drop (i - W.bd.toNat)))) = false ↔ ∀ q : Nat, Tied W.ts x.toNat q → (i : Int) ≤ (idx os (q : Int) : Nat) + W.bd := by
      unfold clash
      rw [any5]
      constructor
      · intro h q hq
        obtain ⟨_, hqn⟩ := tin hq
        have z := h q (by omega)
        rw [(nbb (by omega) q (by omega)).mpr hq, Bool.true_and, less_bit _ (lt32 hn u1) _ (setN_lt mw) q (by omega), u2 q hqn, setN_bit mw (by omega)] at z
        have hqm := ord_all ho (k := (q : Int)) (by omega) (by omega)
        by_cases c1 : idx os (q : Int) < i
        · rw [decide_eq_true c1, Bool.true_and] at z
          have z2 : decide ((q : Int) ∈ (os.take i).drop (i - W.bd.toNat)) = true := by simpa using z
          have := (mem_win h3 hqm).mp (of_decide_eq_true z2)
          omega
        · omega
      · intro h q hq
        by_cases c : Tied W.ts x.toNat q
        · obtain ⟨_, hqn⟩ := tin c
          have hqm := ord_all ho (k := (q : Int)) (by omega) (by omega)
          rw [less_bit _ (lt32 hn u1) _ (setN_lt mw) q hq, u2 q hqn, setN_bit mw hq]
          by_cases c1 : idx os (q : Int) < i
          · have := h q c
            rw [decide_eq_true (show (q : Int) ∈ (os.take i).drop (i - W.bd.toNat) from (mem_win h3 hqm).mpr ⟨by omega, c1⟩)]
            simp
          · rw [decide_eq_false c1]
            simp
        · have : bit (nb W.ts x.toNat) q = false := Bool.eq_false_iff.mpr fun z => c ((nbb (by omega) q hq).mp z)
          rw [this, Bool.false_and]
    have hlen : ((os.take i).drop (i - W.bd.toNat)).length = i - (i - W.bd.toNat) := by
      rw [List.length_drop, List.length_take]
      omega
    unfold matT lastT
    rw [if_pos hk, if_neg d, em]
    by_cases c1 : clash (nb W.ts x.toNat) (less (upTo os i) (setN ((os.take i).drop (i - W.bd.toNat)))) = true
    · rw [if_pos c1]
      refine ⟨fun z => ?_, fun z => ?_⟩
      · cases z
      · rw [t1.mpr z.1] at c1
        cases c1
    · rw [if_neg c1]
      have c1' := t1.mp (Bool.eq_false_iff.mpr c1)
      by_cases c2 : ((((os.take i).drop (i - W.bd.toNat)).length + 1 : Nat) : Int) ≤ W.bd
      · rw [if_pos c2]
        refine ⟨fun _ => ⟨c1', fun z => ?_⟩, fun _ => rfl⟩
        rw [hlen] at c2
        omega
      · rw [if_neg c2]
        have hbi : W.bd ≤ i := by
          rw [hlen] at c2
          omega
        have htk1 : os.take (i + 1) = os.take i ++ [x] := by
          rw [List.take_succ, hx]
          rfl
        have happ : (os.take i).drop (i - W.bd.toNat) ++ [((x.toNat : Nat) : Int)] = (os.take (i + 1)).drop (i - W.bd.toNat) := by
          rw [ex, htk1, List.drop_append_of_le_length (by rw [List.length_take]; omega)]
        have hhl : i - W.bd.toNat < os.length := by omega
        have hhd : ((os.take (i + 1)).drop (i - W.bd.toNat)).headD 0 = os[i - W.bd.toNat] := by
          rw [List.headD_eq_head?_getD, List.head?_drop, List.getElem?_take, if_pos (by omega), List.getElem?_eq_getElem hhl]
          rfl
        have hym := h2 _ (List.getElem_mem hhl)
        rw [happ, hhd, ← upTo_succ hx]
        have t2 : clashN (nb W.ts os[i - W.bd.toNat].toNat) (upTo os (i + 1)) = false ↔ ∀ q : Nat, Tied W.ts os[i - W.bd.toNat].toNat q → idx os (q : Int) ≤ i := by
          unfold clashN
          rw [any5]
          constructor
          · intro h q hq
            obtain ⟨_, hqn⟩ := tin hq
            have z := h q (by omega)
            rw [(nbb (by omega) q (by omega)).mpr hq, Bool.true_and, v2 q hqn] at z
            have z2 : decide (idx os (q : Int) < i + 1) = true := by simpa using z
            have := of_decide_eq_true z2
            omega
          · intro h q hq
            by_cases c : Tied W.ts os[i - W.bd.toNat].toNat q
            · obtain ⟨_, hqn⟩ := tin c
              rw [v2 q hqn, decide_eq_true (by have := h q c; omega)]
              simp
            · have : bit (nb W.ts os[i - W.bd.toNat].toNat) q = false := Bool.eq_false_iff.mpr fun z => c ((nbb (by omega) q hq).mp z)
              rw [this, Bool.false_and]
        by_cases c3 : clashN (nb W.ts os[i - W.bd.toNat].toNat) (upTo os (i + 1)) = true
        · rw [if_pos c3]
          refine ⟨fun z => ?_, fun z => ?_⟩
          · cases z
          · rw [t2.mpr (z.2 hbi _ (List.getElem?_eq_getElem hhl))] at c3
            cases c3
        · rw [if_neg c3]
          refine ⟨fun _ => ⟨c1', fun _ y hy => ?_⟩, fun _ => rfl⟩
          rw [List.getElem?_eq_getElem hhl] at hy
          cases hy
          exact t2.mp (Bool.eq_false_iff.mpr c3)
  constructor
  · intro h p q hpq
    obtain ⟨hp, hq⟩ := tin hpq
    have hpm := ord_all ho (k := (p : Int)) (by omega) (by omega)
    have hx := at_idx hpm
    have := ((st _ _ hx).mp (h _ _ hx)).1 q (by rw [Int.toNat_natCast]; exact hpq)
    exact this
  · intro h i x hx
    have hxm := h2 x (List.mem_of_getElem? hx)
    refine (st i x hx).mpr ⟨fun q hq => ?_, fun hbi y hy q hq => ?_⟩
    · have := h _ _ hq
      rw [Int.toNat_of_nonneg hxm.1, idx_at h3 hx] at this
      exact this
    · have hym := h2 y (List.mem_of_getElem? hy)
      have := h _ _ (tsym hq)
      rw [Int.toNat_of_nonneg hym.1, idx_at h3 hy] at this
      omega
end
theorem run_meas {W : Wk} (hn : W.n ≤ 5) (hw : webOk W.n W.ts = true) (hk : isKind W.kd) (hb : 0 ≤ W.bd) {os : List Int} (ho : ordOk W.n os = true) : (runK W (begK W) os).isSome = decide (measF W.kd W.n os W.ts ≤ W.bd) := by
  obtain ⟨h1, h2, h3⟩ := ordOk_of ho
  have ht : ∀ t ∈ W.ts, tieOk W.n t = true := by
    unfold webOk at hw
    rw [Bool.and_eq_true] at hw
    exact tiesOk_all hw.2
  have hr := run_iff (W := W) (os := os) hb (fun x hx => (h2 x hx).1) os.length 0 (by omega)
  rw [keyAt_zero, List.drop_zero] at hr
  rw [Bool.eq_iff_iff, hr, decide_eq_true_iff]
  have e : (∀ i x, 0 ≤ i → os[i]? = some x → (stepK W (keyAt W os i) x.toNat).isSome = true) ↔ ∀ i x, os[i]? = some x → (matT W (upTo os i) (mtr W os i) x.toNat).isSome = true := by
    constructor
    · intro h i x hx
      rw [← step_is hn ho hx]
      exact h i x (Nat.zero_le _) hx
    · intro h i x _ hx
      rw [step_is hn ho hx]
      exact h i x hx
  rw [e]
  unfold measF
  rcases hk with k | k | k
  · rw [if_pos k]
    exact long_iff hn hw ho hb k
  · rw [if_neg (by rw [k]; decide), if_pos k]
    exact most_iff hn ht ho hb k
  · rw [if_neg (by rw [k]; decide), if_neg (by rw [k]; decide)]
    exact tot_iff hn ht ho hb k
theorem rows_good {W : Wk} (hn : W.n ≤ 5) (hw : webOk W.n W.ts = true) (hk : isKind W.kd) (hb : 0 ≤ W.bd) : rows W (begK W) W.n = (allTo W.n W.n).filter fun os => decide (measF W.kd W.n os W.ts ≤ W.bd) := by
  rw [rows_all hn]
  exact List.filter_congr fun os h => run_meas hn hw hk hb ((allTo_ord os).mp h)
end My
set_option Elab.async false
set_option linter.all false
set_option maxRecDepth 100000
set_option maxHeartbeats 4000000
namespace My
open PySem L2 PySem.Spec PyProof.Rows
def toV (L : List (PKy × Int)) : List (PKy × V) := L.map fun x => (x.1, V.int x.2)
def addL : List (PKy × Int) → PKy → Int → List (PKy × Int)
  | [], k, w => [(k, w)]
  | x :: r, k, w => if x.1 = k then (x.1, x.2 + w) :: r else x :: addL r k w
def getL : List (PKy × Int) → PKy → Int
  | [], _ => 0
  | x :: r, k => if x.1 = k then x.2 else getL r k
theorem valV_toV (k : PKy) : ∀ L : List (PKy × Int), (valV (toV L) k).getD (.int 0) = .int (getL L k) ∧ ((valV (toV L) k = none) ↔ k ∉ L.map (·.1))
  | [] => ⟨rfl, ⟨fun _ => List.not_mem_nil, fun _ => rfl⟩⟩
  | x :: r => by
    obtain ⟨i1, i2⟩ := valV_toV k r
    show (valV ((x.1, V.int x.2) :: toV r) k).getD (.int 0) = .int (if x.1 = k then x.2 else getL r k) ∧ _
    by_cases c : x.1 = k
    · rw [valV_pos (p := (x.1, V.int x.2)) c, if_pos c]
      refine ⟨rfl, ⟨fun z => ?_, fun z => absurd (List.mem_cons.mpr (.inl c.symm)) z⟩⟩
      have z' : valV ((x.1, V.int x.2) :: toV r) k = none := z
      rw [valV_pos (p := (x.1, V.int x.2)) c] at z'
      cases z'
    · rw [valV_neg (p := (x.1, V.int x.2)) c, if_neg c]
      refine ⟨i1, ?_⟩
      show valV ((x.1, V.int x.2) :: toV r) k = none ↔ _
      rw [valV_neg (p := (x.1, V.int x.2)) c, i2, List.map_cons, List.mem_cons]
      exact ⟨fun z y => y.elim (fun e => c e.symm) z, fun z y => z (.inr y)⟩
theorem repl_none {k : PKy} {v : V} : ∀ {L : List (PKy × Int)}, k ∉ L.map (·.1) → (toV L).map (fun kv => if kv.1 = k then (kv.1, v) else kv) = toV L
  | [], _ => rfl
  | x :: r, h => by
    rw [List.map_cons, List.mem_cons] at h
    show (if x.1 = k then (x.1, v) else (x.1, V.int x.2)) :: (toV r).map _ = (x.1, V.int x.2) :: toV r
    rw [if_neg fun z => h (.inl z.symm), repl_none fun z => h (.inr z)]
theorem put_toV (k : PKy) (w : Int) : ∀ {L : List (PKy × Int)}, (L.map (·.1)).Nodup → putK (toV L) k (.int (getL L k + w)) = toV (addL L k w)
  | [], _ => by
    show putK [] k (.int (0 + w)) = [(k, V.int w)]
    rw [Int.zero_add]
    rfl
  | x :: r, hd => by
    rw [List.map_cons] at hd
    obtain ⟨h1, h2⟩ := List.nodup_cons.mp hd
    have ih := put_toV k w h2
    by_cases c : x.1 = k
    · have a : ((toV (x :: r)).any fun kv => decide (kv.1 = k)) = true := by
        show (decide (x.1 = k) || _) = true
        rw [decide_eq_true c]
        rfl
      unfold putK
      rw [if_pos a]
      show (if x.1 = k then (x.1, V.int _) else (x.1, V.int x.2)) :: (toV r).map (fun kv => if kv.1 = k then (kv.1, _) else kv) = toV (if x.1 = k then (x.1, x.2 + w) :: r else x :: addL r k w)
      rw [if_pos c, if_pos c, repl_none (by rw [← c]; exact h1)]
      show (x.1, V.int ((if x.1 = k then x.2 else getL r k) + w)) :: toV r = _
      rw [if_pos c]
      rfl
    · have a : ((toV (x :: r)).any fun kv => decide (kv.1 = k)) = ((toV r).any fun kv => decide (kv.1 = k)) := by
        show (decide (x.1 = k) || _) = _
        rw [decide_eq_false c, Bool.false_or]
        rfl
      have eg : getL (x :: r) k = getL r k := by
        show (if x.1 = k then x.2 else getL r k) = _
        rw [if_neg c]
      have ea : toV (addL (x :: r) k w) = (x.1, V.int x.2) :: toV (addL r k w) := by
        show toV (if x.1 = k then (x.1, x.2 + w) :: r else x :: addL r k w) = _
        rw [if_neg c]
        rfl
      rw [eg, ea, ← ih]
      unfold putK
      rw [a]
      by_cases b : ((toV r).any fun kv => decide (kv.1 = k)) = true
      · rw [if_pos b, if_pos b]
        show (if x.1 = k then (x.1, V.int _) else (x.1, V.int x.2)) :: (toV r).map _ = _
        rw [if_neg c]
      · rw [if_neg b, if_neg b]
        rfl
theorem keys_add (k : PKy) (w : Int) : ∀ (L : List (PKy × Int)) (y : PKy), y ∈ (addL L k w).map (·.1) ↔ y = k ∨ y ∈ L.map (·.1)
  | [], y => by
    show y ∈ [k] ↔ _
    rw [List.mem_singleton]
    exact ⟨.inl, fun h => h.elim id fun z => absurd z List.not_mem_nil⟩
  | x :: r, y => by
    show y ∈ (if x.1 = k then (x.1, x.2 + w) :: r else x :: addL r k w).map (·.1) ↔ _
    by_cases c : x.1 = k
    · rw [if_pos c, List.map_cons, List.map_cons]
      show y ∈ x.1 :: r.map (·.1) ↔ y = k ∨ y ∈ x.1 :: r.map (·.1)
      rw [List.mem_cons, c]
      exact ⟨fun h => h.elim .inl fun z => .inr (.inr z), fun h => h.elim .inl id⟩
    · rw [if_neg c, List.map_cons, List.map_cons, List.mem_cons, List.mem_cons, keys_add k w r y]
      exact ⟨fun h => h.elim (fun z => .inr (.inl z)) fun z => z.elim .inl fun t => .inr (.inr t), fun h => h.elim (fun z => .inr (.inl z)) fun z => z.elim .inl fun t => .inr (.inr t)⟩
theorem nodup_add (k : PKy) (w : Int) : ∀ {L : List (PKy × Int)}, (L.map (·.1)).Nodup → ((addL L k w).map (·.1)).Nodup
  | [], _ => List.nodup_cons.mpr ⟨List.not_mem_nil, List.nodup_nil⟩
  | x :: r, h => by
    rw [List.map_cons] at h
    obtain ⟨h1, h2⟩ := List.nodup_cons.mp h
    show ((if x.1 = k then (x.1, x.2 + w) :: r else x :: addL r k w).map (·.1)).Nodup
    by_cases c : x.1 = k
    · rw [if_pos c]
      exact List.nodup_cons.mpr ⟨h1, h2⟩
    · rw [if_neg c, List.map_cons]
      refine List.nodup_cons.mpr ⟨fun z => ?_, nodup_add k w h2⟩
      rcases (keys_add k w r x.1).mp z with z | z
      · exact c z
      · exact h1 z
theorem len_add (k : PKy) (w : Int) : ∀ L : List (PKy × Int), (addL L k w).length ≤ L.length + 1
  | [] => Nat.le_refl _
  | x :: r => by
    show (if x.1 = k then (x.1, x.2 + w) :: r else x :: addL r k w).length ≤ _
    by_cases c : x.1 = k
    · rw [if_pos c, List.length_cons, List.length_cons]
      omega
    · rw [if_neg c, List.length_cons, List.length_cons]
      have := len_add k w r
      omega
def cnt (W : Wk) (k : PKy) (d : Nat) : Int := ((rows W k d).length : Int)
def wsum (W : Wk) (d : Nat) (L : List (PKy × Int)) : Int := (L.map fun x => x.2 * cnt W x.1 d).sum
theorem wsum_add (W : Wk) (d : Nat) (k : PKy) (w : Int) : ∀ L : List (PKy × Int), wsum W d (addL L k w) = wsum W d L + w * cnt W k d
  | [] => by
    show w * cnt W k d + 0 = 0 + w * cnt W k d
    omega
  | x :: r => by
    have ih := wsum_add W d k w r
    show wsum W d (if x.1 = k then (x.1, x.2 + w) :: r else x :: addL r k w) = wsum W d (x :: r) + _
    by_cases c : x.1 = k
    · rw [if_pos c]
      show (x.2 + w) * cnt W x.1 d + wsum W d r = (x.2 * cnt W x.1 d + wsum W d r) + w * cnt W k d
      rw [c, Int.add_mul]
      omega
    · rw [if_neg c]
      show x.2 * cnt W x.1 d + wsum W d (addL r k w) = (x.2 * cnt W x.1 d + wsum W d r) + _
      rw [ih]
      omega
def addAll (L : List (PKy × Int)) (w : Int) (ns : List (Nat × PKy)) : List (PKy × Int) := ns.foldl (fun acc x => addL acc x.2 w) L
theorem addAll_snoc (L : List (PKy × Int)) (w : Int) (ns : List (Nat × PKy)) (x : Nat × PKy) : addAll L w (ns ++ [x]) = addL (addAll L w ns) x.2 w := by
  unfold addAll
  rw [List.foldl_append]
  rfl
def behindTo (W : Wk) (acc L : List (PKy × Int)) : List (PKy × Int) := L.foldl (fun acc x => addAll acc x.2 (nexts W x.1)) acc
theorem behind_snoc (W : Wk) (acc L : List (PKy × Int)) (x : PKy × Int) : behindTo W acc (L ++ [x]) = addAll (behindTo W acc L) x.2 (nexts W x.1) := by
  unfold behindTo
  rw [List.foldl_append]
  rfl
theorem wsum_all (W : Wk) (d : Nat) (w : Int) : ∀ (ns : List (Nat × PKy)) (L : List (PKy × Int)), wsum W d (addAll L w ns) = wsum W d L + w * (ns.map fun x => cnt W x.2 d).sum
  | [], L => by
    show wsum W d L = wsum W d L + w * 0
    omega
  | x :: r, L => by
    show wsum W d (addAll (addL L x.2 w) w r) = _
    rw [wsum_all W d w r, wsum_add, List.map_cons, List.sum_cons, Int.mul_add]
    omega
theorem len_flat {α β : Type} (g : α → List β) : ∀ l : List α, ((l.flatMap g).length : Int) = (l.map fun x => ((g x).length : Int)).sum
  | [] => rfl
  | a :: r => by
    rw [List.flatMap_cons, List.length_append, List.map_cons, List.sum_cons, ← len_flat g r]
    omega
theorem cnt_succ (W : Wk) (k : PKy) (d : Nat) : cnt W k (d + 1) = ((nexts W k).map fun x => cnt W x.2 d).sum := by
  unfold cnt
  show (((nexts W k).flatMap fun x => (rows W x.2 d).map fun r => (x.1 : Int) :: r).length : Int) = _
  rw [len_flat]
  congr 1
  exact List.map_congr_left fun x _ => by rw [List.length_map]
theorem wsum_behind (W : Wk) (d : Nat) : ∀ (L acc : List (PKy × Int)), wsum W d (behindTo W acc L) = wsum W d acc + wsum W (d + 1) L
  | [], acc => by
    show wsum W d acc = wsum W d acc + 0
    omega
  | x :: r, acc => by
    show wsum W d (behindTo W (addAll acc x.2 (nexts W x.1)) r) = wsum W d acc + (x.2 * cnt W x.1 (d + 1) + wsum W (d + 1) r)
    rw [wsum_behind W d r, wsum_all, cnt_succ]
    omega
def layerN (W : Wk) : Nat → List (PKy × Int)
  | 0 => [(begK W, 1)]
  | j + 1 => behindTo W [] (layerN W j)
theorem layer_sum (W : Wk) : ∀ (j d : Nat), wsum W d (layerN W j) = cnt W (begK W) (j + d)
  | 0, d => by
    show 1 * cnt W (begK W) d + 0 = cnt W (begK W) (0 + d)
    rw [Nat.zero_add]
    omega
  | j + 1, d => by
    show wsum W d (behindTo W [] (layerN W j)) = _
    rw [wsum_behind, layer_sum W j (d + 1)]
    show 0 + _ = _
    rw [show j + (d + 1) = j + 1 + d by omega]
    omega
theorem wsum_zero (W : Wk) (L : List (PKy × Int)) : wsum W 0 L = (L.map (·.2)).sum := by
  unfold wsum
  congr 1
  refine List.map_congr_left fun x _ => ?_
  show x.2 * 1 = x.2
  omega
structure KOk (W : Wk) (d : Nat) (k : PKy) : Prop where
  s0 : 0 ≤ k.1
  lt : k.1.toNat < 2 ^ W.n
  lf : left W.n k.1.toNat = d
  tot : W.kd = "total" → ∃ m, k.2 = [m]
  oth : W.kd ≠ "total" → (∀ p ∈ k.2, 0 ≤ p ∧ p < (W.n : Int)) ∧ k.2.length ≤ 5
theorem beg_ok {W : Wk} (hn : W.n ≤ 5) : KOk W W.n (begK W) where
  s0 := Int.le_refl _
  lt := Nat.two_pow_pos _
  lf := left_zero _ (by omega)
  tot := fun h => ⟨0, by unfold begK; rw [if_pos h]⟩
  oth := fun h => by
    unfold begK
    rw [if_neg h]
    exact ⟨fun p hp => absurd hp List.not_mem_nil, Nat.zero_le _⟩
theorem KOk.step {W : Wk} (hn : W.n ≤ 5) {d p : Nat} {k k' : PKy} (h : KOk W d k) (hp : p < W.n) (hs : stepK W k p = some k') : ∃ e, d = e + 1 ∧ KOk W e k' := by
  obtain ⟨hf, e1, e2⟩ := stepK_fst hs
  have hl := left_step W.n (by omega) _ h.lt p hp hf
  have en : k'.1.toNat = k.1.toNat + 2 ^ p := by rw [e1, Int.toNat_natCast]
  refine ⟨left W.n (k.1.toNat + 2 ^ p), by rw [hl, h.lf], by rw [e1]; exact Int.natCast_nonneg _, by rw [en]; exact bits_lt _ (by omega) _ h.lt p hp hf, by rw [en], fun c => ?_, fun c => ?_⟩
  · unfold matT at e2
    rw [if_neg (by rw [c]; decide), if_pos c] at e2
    split at e2
    · exact ⟨_, (Option.some.inj e2).symm⟩
    · cases e2
  · unfold matT at e2
    obtain ⟨o1, o2⟩ := h.oth c
    by_cases c1 : W.kd = "longest"
    · rw [if_pos c1] at e2
      unfold lastT at e2
      have app : ∀ x ∈ k.2 ++ [((p : Nat) : Int)], 0 ≤ x ∧ x < (W.n : Int) := fun x hx => by
        rcases List.mem_append.mp hx with z | z
        · exact o1 x z
        · rw [List.mem_singleton.mp z]
          omega
      split at e2
      · rw [← Option.some.inj e2]
        exact ⟨fun p hp => absurd hp List.not_mem_nil, Nat.zero_le _⟩
      · rename_i hd
        split at e2
        · cases e2
        · split at e2
          · rename_i hlen
            rw [← Option.some.inj e2]
            refine ⟨app, ?_⟩
            rw [List.length_append, List.length_singleton]
            omega
          · split at e2
            · cases e2
            · rw [← Option.some.inj e2]
              refine ⟨fun x hx => app x (List.mem_of_mem_tail hx), ?_⟩
              rw [List.length_tail, List.length_append, List.length_singleton]
              omega
    · rw [if_neg c1, if_neg c] at e2
      split at e2
      · rw [← Option.some.inj e2]
        exact ⟨fun p hp => absurd hp List.not_mem_nil, Nat.zero_le _⟩
      · cases e2
theorem mem_nexts {W : Wk} {k : PKy} {j : Nat} {x : Nat × PKy} (h : x ∈ nextsTo W k j) : x.1 < j ∧ stepK W k x.1 = some x.2 := by
  unfold nextsTo at h
  obtain ⟨p, hp, e⟩ := List.mem_filterMap.mp h
  have hp := List.mem_range.mp hp
  cases hs : stepK W k p with
  | none => rw [hs] at e; cases e
  | some k' =>
    rw [hs] at e
    cases e
    exact ⟨hp, hs⟩
theorem nexts_succ (W : Wk) (k : PKy) (j : Nat) : nextsTo W k (j + 1) = nextsTo W k j ++ (match stepK W k j with | some k' => [(j, k')] | none => []) := by
  unfold nextsTo
  rw [List.range_succ, List.filterMap_append]
  congr 1
  rw [List.filterMap_cons]
  cases stepK W k j <;> rfl
theorem nexts_len (W : Wk) (k : PKy) (j : Nat) : (nextsTo W k j).length ≤ j := by
  unfold nextsTo
  exact Nat.le_trans (List.length_filterMap_le _ _) (by rw [List.length_range]; exact Nat.le_refl _)
structure LOk (W : Wk) (d : Nat) (L : List (PKy × Int)) : Prop where
  nd : (L.map (·.1)).Nodup
  ok : ∀ k ∈ L.map (·.1), KOk W d k
theorem LOk.add {W : Wk} {d : Nat} {L : List (PKy × Int)} (h : LOk W d L) {k : PKy} (hk : KOk W d k) (w : Int) : LOk W d (addL L k w) :=
  ⟨nodup_add k w h.nd, fun y hy => by
    rcases (keys_add k w L y).mp hy with z | z
    · rw [z]; exact hk
    · exact h.ok y z⟩
theorem LOk.all {W : Wk} {d : Nat} (w : Int) : ∀ {ns : List (Nat × PKy)} {L : List (PKy × Int)}, LOk W d L → (∀ x ∈ ns, KOk W d x.2) → LOk W d (addAll L w ns)
  | [], _, h, _ => h
  | x :: r, L, h, hn => by
    show LOk W d (addAll (addL L x.2 w) w r)
    exact LOk.all w (h.add (hn x (.head _)) w) fun y hy => hn y (.tail _ hy)
theorem len_all (w : Int) : ∀ (ns : List (Nat × PKy)) (L : List (PKy × Int)), (addAll L w ns).length ≤ L.length + ns.length
  | [], _ => Nat.le_refl _
  | x :: r, L => by
    have h1 := len_all w r (addL L x.2 w)
    have h2 := len_add x.2 w L
    show (addAll (addL L x.2 w) w r).length ≤ _
    rw [List.length_cons]
    omega
theorem LOk.behind {W : Wk} (hn : W.n ≤ 5) {d : Nat} : ∀ {L acc : List (PKy × Int)}, LOk W d acc → (∀ k ∈ L.map (·.1), KOk W (d + 1) k) → LOk W d (behindTo W acc L) ∧ (behindTo W acc L).length ≤ acc.length + 5 * L.length
  | [], acc, h, _ => ⟨h, Nat.le_refl _⟩
  | x :: r, acc, h, hk => by
    have hx := hk x.1 (.head _)
    have h1 : LOk W d (addAll acc x.2 (nexts W x.1)) := h.all _ fun y hy => by
      obtain ⟨z1, z2⟩ := mem_nexts hy
      obtain ⟨e, e1, e2⟩ := hx.step hn z1 z2
      have : d = e := by omega
      subst this
      exact e2
    obtain ⟨a, b⟩ := LOk.behind hn h1 fun y hy => hk y (.tail _ hy)
    refine ⟨a, ?_⟩
    have l1 := len_all x.2 (nexts W x.1) acc
    have l2 := nexts_len W x.1 W.n
    unfold nexts at l1
    show (behindTo W (addAll acc x.2 (nexts W x.1)) r).length ≤ _
    rw [List.length_cons]
    unfold nexts at b ⊢
    omega
theorem layer_ok {W : Wk} (hn : W.n ≤ 5) : ∀ (j : Nat), j ≤ W.n → LOk W (W.n - j) (layerN W j) ∧ (layerN W j).length ≤ 5 ^ j
  | 0, _ => ⟨⟨List.nodup_cons.mpr ⟨List.not_mem_nil, List.nodup_nil⟩, fun k hk => by rw [List.mem_singleton.mp hk]; exact beg_ok hn⟩, Nat.le_refl _⟩
  | j + 1, h => by
    obtain ⟨a, b⟩ := layer_ok hn j (by omega)
    have e : W.n - j = (W.n - (j + 1)) + 1 := by omega
    rw [e] at a
    obtain ⟨c, d⟩ := LOk.behind hn (d := W.n - (j + 1)) (L := layerN W j) (acc := []) ⟨List.nodup_nil, fun k hk => absurd hk List.not_mem_nil⟩ a.ok
    refine ⟨c, Nat.le_trans d ?_⟩
    show 0 + 5 * (layerN W j).length ≤ 5 ^ j * 5
    omega
def lms (n : Nat) (ts : List (List Int)) : Nat → List Int
  | 0 => []
  | 1 => [0]
  | k + 2 => lms n ts (k + 1) ++ [max (minL ((fewer n (k + 1)).map fun f => (lms n ts (k + 1)).getD f 0)) (cutZ ts (k + 1))]
theorem lms_len (n : Nat) (ts : List (List Int)) : ∀ k, (lms n ts k).length = k
  | 0 => rfl
  | 1 => rfl
  | k + 2 => by
    unfold lms
    rw [List.length_append, lms_len n ts (k + 1)]
    rfl
def lm (n : Nat) (ts : List (List Int)) (S : Nat) : Int := (lms n ts (S + 1)).getD S 0
theorem lms_get {n : Nat} {ts : List (List Int)} {S : Nat} : ∀ {k : Nat}, S < k → (lms n ts k).getD S 0 = lm n ts S
  | 0, h => absurd h (Nat.not_lt_zero _)
  | 1, h => by
    obtain rfl : S = 0 := by omega
    rfl
  | k + 2, h => by
    by_cases c : S < k + 1
    · show ((lms n ts (k + 1)) ++ _).getD S 0 = _
      rw [getD_append_left (by rw [lms_len]; exact c)]
      exact lms_get c
    · obtain rfl : S = k + 1 := by omega
      rfl
theorem lm_succ {n : Nat} {ts : List (List Int)} {S : Nat} (hn : n ≤ 5) (hS : S < 2 ^ n) (h0 : S ≠ 0) : lm n ts S = max (minL ((fewer n S).map (lm n ts))) (cutZ ts S) := by
  obtain ⟨k, rfl⟩ : ∃ k, S = k + 1 := ⟨S - 1, by omega⟩
  have e : (fewer n (k + 1)).map (fun f => (lms n ts (k + 1)).getD f 0) = (fewer n (k + 1)).map (lm n ts) :=
    List.map_congr_left fun f hf => lms_get (fewer_lt (lt32 hn hS) hn hf)
  unfold lm
  show (lms n ts (k + 1) ++ [_]).getD (k + 1) 0 = _
  rw [List.getD_eq_getElem?_getD, List.getElem?_append_right (by rw [lms_len]; exact Nat.le_refl _), lms_len, Nat.sub_self]
  show max (minL ((fewer n (k + 1)).map fun f => (lms n ts (k + 1)).getD f 0)) (cutZ ts (k + 1)) = _
  rw [e]
  rfl
theorem lm_step {n : Nat} (hn : n ≤ 5) {ts : List (List Int)} {S p : Nat} (hS : S < 2 ^ n) (hp : p < n) (hb : bit S p = false) : lm n ts (S + 2 ^ p) ≤ max (lm n ts S) (cutZ ts (S + 2 ^ p)) := by
  have hlt := bits_lt n (by omega) S hS p hp hb
  have h0 : S + 2 ^ p ≠ 0 := by have := two_pos p; omega
  rw [lm_succ hn hlt h0]
  have hbp : bit (S + 2 ^ p) p = true := by
    rw [bits_put S (lt32 hn hS) p (by omega) p (by omega) hb, decide_eq_true rfl]
    rfl
  have hm : S ∈ fewer n (S + 2 ^ p) := by
    unfold fewer
    exact List.mem_map.mpr ⟨p, spots_mem.mpr ⟨hp, hbp⟩, by omega⟩
  have := (minL_is (ns := (fewer n (S + 2 ^ p)).map (lm n ts)) (fun e => by rw [List.map_eq_nil_iff.mp e] at hm; cases hm)).2 _ (List.mem_map.mpr ⟨S, hm, rfl⟩)
  omega
theorem lm_least {n : Nat} (hn : n ≤ 5) {os : List Int} (ho : ordOk n os = true) {ts : List (List Int)} (ht : ∀ t ∈ ts, tieOk n t = true) : lm n ts (2 ^ n - 1) ≤ mostF n os ts := by
  obtain ⟨h1, h2, h3⟩ := ordOk_of ho
  have hz := maxOf_le.mp (Int.le_refl (mostF n os ts))
  have go : ∀ j, j ≤ n → lm n ts (upTo os j) ≤ mostF n os ts := by
    intro j
    induction j with
    | zero => intro _; exact hz.1
    | succ j ih =>
      intro hj
      have hjl : j < os.length := by omega
      have hx : os[j]? = some os[j] := List.getElem?_eq_getElem hjl
      have hm := h2 _ (List.getElem_mem hjl)
      obtain ⟨u1, u2⟩ := upTo_bits hn ho j
      have hf : bit (upTo os j) os[j].toNat = false := by
        rw [u2 _ (by omega), Int.toNat_of_nonneg hm.1, idx_at h3 hx]
        exact decide_eq_false (Nat.lt_irrefl _)
      have := lm_step hn (ts := ts) u1 (show os[j].toNat < n by omega) hf
      rw [← upTo_succ hx] at this
      have i := ih (by omega)
      have c : cutZ ts (upTo os (j + 1)) ≤ mostF n os ts := by
        by_cases e : j + 1 = n
        · rw [e, cut_full hn ho ht]
          exact hz.1
        · rw [← gap_cut hn ho ht]
          exact hz.2 _ (List.mem_map.mpr ⟨j, List.mem_range.mpr (by omega), rfl⟩)
      omega
  have := go n (Nat.le_refl _)
  have e : upTo os n = 2 ^ n - 1 := by
    rw [← setOf_full hn ho]
    unfold upTo
    rw [List.take_of_length_le (by omega)]
  rw [e] at this
  exact this
end My
set_option Elab.async false
set_option linter.all false
set_option maxRecDepth 100000
set_option maxHeartbeats 4000000
namespace My
open PySem L2 PySem.Spec PyProof.Rows
variable {A : Er}
def walkF (W : Wk) (ol tl : Addr) : List (Str × V) :=
  putF "tied" (.ref tl) (putF "out" (.ref ol) (putF "bound" (.int W.bd) (putF "kind" (.str W.kd) (putF "every" (.int (((2 ^ W.n : Nat) : Int) - 1)) (putF "places" (.int W.n) [])))))
section
variable (W : Wk) (ol tl : Addr)
theorem walk_places : (walkF W ol tl).lookup ("places" : Str) = some (.int W.n) := by
  unfold walkF
  rw [lookup_putF, if_neg (by decide +kernel), lookup_putF, if_neg (by decide +kernel), lookup_putF, if_neg (by decide +kernel), lookup_putF, if_neg (by decide +kernel), lookup_putF, if_neg (by decide +kernel), lookup_putF, if_pos rfl]
theorem walk_every : (walkF W ol tl).lookup ("every" : Str) = some (.int (((2 ^ W.n : Nat) : Int) - 1)) := by
  unfold walkF
  rw [lookup_putF, if_neg (by decide +kernel), lookup_putF, if_neg (by decide +kernel), lookup_putF, if_neg (by decide +kernel), lookup_putF, if_neg (by decide +kernel), lookup_putF, if_pos rfl]
theorem walk_kind : (walkF W ol tl).lookup ("kind" : Str) = some (.str W.kd) := by
  unfold walkF
  rw [lookup_putF, if_neg (by decide +kernel), lookup_putF, if_neg (by decide +kernel), lookup_putF, if_neg (by decide +kernel), lookup_putF, if_pos rfl]
theorem walk_bound : (walkF W ol tl).lookup ("bound" : Str) = some (.int W.bd) := by
  unfold walkF
  rw [lookup_putF, if_neg (by decide +kernel), lookup_putF, if_neg (by decide +kernel), lookup_putF, if_pos rfl]
theorem walk_out : (walkF W ol tl).lookup ("out" : Str) = some (.ref ol) := by
  unfold walkF
  rw [lookup_putF, if_neg (by decide +kernel), lookup_putF, if_pos rfl]
theorem walk_tied : (walkF W ol tl).lookup ("tied" : Str) = some (.ref tl) := by
  unfold walkF
  rw [lookup_putF, if_pos rfl]
theorem walk_no {m : Str} (h1 : ¬ m = "tied") (h2 : ¬ m = "out") (h3 : ¬ m = "bound") (h4 : ¬ m = "kind") (h5 : ¬ m = "every") (h6 : ¬ m = "places") : (walkF W ol tl).lookup m = none := by
  unfold walkF
  rw [lookup_putF, if_neg h1, lookup_putF, if_neg h2, lookup_putF, if_neg h3, lookup_putF, if_neg h4, lookup_putF, if_neg h5, lookup_putF, if_neg h6]
  rfl
end
def outs (W : Wk) : List Int := (List.range (2 ^ W.n)).map (cutZ W.ts)
def nbs (W : Wk) : List Int := (List.range W.n).map fun p => ((nb W.ts p : Nat) : Int)
def WalkAt (C : Addr) (H : Hp) (x : Addr) (W : Wk) : Prop := ∃ dx ol tl, H x = some (.ins C dx (walkF W ol tl)) ∧ H ol = some (.lst ((outs W).map .int)) ∧ H tl = some (.lst ((nbs W).map .int))
theorem WalkAt.mono {C : Addr} {H H' : Hp} {x : Addr} {W : Wk} (h : WalkAt C H x W) (e : Same H H') : WalkAt C H' x W := by
  obtain ⟨dx, ol, tl, h1, h2, h3⟩ := h
  exact ⟨dx, ol, tl, e _ _ h1, e _ _ h2, e _ _ h3⟩
structure WIn (W : Wk) : Prop where
  n5 : W.n ≤ 5
  web : webOk W.n W.ts = true
  kd : isKind W.kd
  b0 : 0 ≤ W.bd
def flag (W : Wk) : Bool := decide (W.kd = "total")
theorem flag_t {W : Wk} (h : W.kd = "total") : flag W = true := decide_eq_true h
theorem flag_f {W : Wk} (h : ¬ W.kd = "total") : flag W = false := decide_eq_false h
theorem PKey.mono {B : Bool} {H H' : Hp} {k : PKy} {q : Addr} (x : PKey B H k q) (e : Same H H') : PKey B H' k q := x.stay fun b xs h => e b _ h
def MV (B : Bool) (H : Hp) (m : List Int) (v : V) : Prop := if B = true then ∃ z : Int, m = [z] ∧ v = .int z else ∃ c, v = .ref c ∧ H c = some (.tup (m.map .int))
theorem MV.key {B : Bool} {H : Hp} {m : List Int} {v : V} {i : Int} {q : Addr} (h : MV B H m v) (hq : H q = some (.tup [.int i, v])) : PKey B H (i, m) q := by
  cases B with
  | true =>
    obtain ⟨z, rfl, rfl⟩ : ∃ z : Int, m = [z] ∧ v = .int z := h
    exact ⟨z, rfl, hq⟩
  | false =>
    obtain ⟨c, rfl, hc⟩ : ∃ c, v = .ref c ∧ H c = some (.tup (m.map .int)) := h
    exact ⟨c, hq, hc⟩
theorem MV.mono {B : Bool} {H H' : Hp} {m : List Int} {v : V} (h : MV B H m v) (e : Same H H') : MV B H' m v := by
  cases B with
  | true => exact h
  | false =>
    obtain ⟨c, rfl, hc⟩ : ∃ c, v = .ref c ∧ H c = some (.tup (m.map .int)) := h
    exact ⟨c, rfl, e _ _ hc⟩
theorem PKey.val {B : Bool} {H : Hp} {k : PKy} {q : Addr} (h : PKey B H k q) : ∃ v, H q = some (.tup [.int k.1, v]) ∧ MV B H k.2 v := by
  cases B with
  | true =>
    obtain ⟨m, e, hq⟩ : ∃ m : Int, k.2 = [m] ∧ H q = some (.tup [.int k.1, .int m]) := h
    exact ⟨_, hq, m, e, rfl⟩
  | false =>
    obtain ⟨c, hq, hc⟩ : ∃ c, H q = some (.tup [.int k.1, .ref c]) ∧ H c = some (.tup (k.2.map V.int)) := h
    exact ⟨_, hq, c, rfl, hc⟩
def StepsAt (B : Bool) (H : Hp) (ns : List (Nat × PKy)) (xs : List V) : Prop := Paired (fun (y : Nat × PKy) v => ∃ t q, v = .ref t ∧ H t = some (.tup [.int (y.1 : Nat), .ref q]) ∧ PKey B H y.2 q) ns xs
theorem StepsAt.mono {B : Bool} {H H' : Hp} {ns : List (Nat × PKy)} {xs : List V} (h : StepsAt B H ns xs) (e : ∀ b ys, H b = some (.tup ys) → H' b = some (.tup ys)) : StepsAt B H' ns xs :=
  Paired.mapP h fun y v ⟨t, q, a, b, c⟩ => ⟨t, q, a, e _ _ b, c.stay e⟩
def spSetOf : Sp := fun vs H Q _ => ∃ (t : Addr) (m : List Int), vs = [.ref t] ∧ H t = some (.tup (m.map .int)) ∧ (∀ p ∈ m, 0 ≤ p ∧ p < 5) ∧ m.length ≤ 100 ∧ ∀ H', Same H H' → Q (.int ((setN m : Nat) : Int)) H'
def spNeigh : Sp := fun vs H Q _ => ∃ (v : V) (n : Nat) (ts : List (List Int)), vs = [v] ∧ Dat H (webD n ts) v ∧ webOk n ts = true ∧ WebIn n ts ∧ n ≤ 5 ∧
  ∀ l H', H l = none → Same H H' → H' l = some (.lst (((List.range n).map fun p => ((nb ts p : Nat) : Int)).map .int)) → Q (.ref l) H'
def spWInit (C : Addr) : Sp := fun vs H Q _ => ∃ (x dx : Addr) (v : V) (W : Wk), vs = [.ref x, v, .str W.kd, .int W.bd] ∧ H x = some (.ins C dx []) ∧ Dat H (webD W.n W.ts) v ∧ webOk W.n W.ts = true ∧ WebIn W.n W.ts ∧ W.n ≤ 5 ∧
  ∀ H', Same (mask x H) H' → WalkAt C H' x W → Q .non H'
def spBegin (C : Addr) : Sp := fun vs H Q _ => ∃ (x : Addr) (W : Wk), vs = [.ref x] ∧ WalkAt C H x W ∧ ∀ q H', Same H H' → PKey (flag W) H' (begK W) q → Q (.ref q) H'
def spLast (C : Addr) : Sp := fun vs H Q _ => ∃ (x q : Addr) (W : Wk) (k : PKy) (d p : Nat), vs = [.ref x, .ref q, .int p] ∧ WalkAt C H x W ∧ WIn W ∧ W.kd = "longest" ∧ PKey (flag W) H k q ∧ KOk W d k ∧ p < W.n ∧ bit k.1.toNat p = false ∧
  (lastT W k.1.toNat k.2 p = none → ∀ H', Same H H' → Q .non H') ∧ ∀ m, lastT W k.1.toNat k.2 p = some m → ∀ v H', Same H H' → MV (flag W) H' m v → Q v H'
def spMat (C : Addr) : Sp := fun vs H Q _ => ∃ (x q : Addr) (W : Wk) (k : PKy) (d p : Nat), vs = [.ref x, .ref q, .int p] ∧ WalkAt C H x W ∧ WIn W ∧ PKey (flag W) H k q ∧ KOk W d k ∧ p < W.n ∧ bit k.1.toNat p = false ∧
  (matT W k.1.toNat k.2 p = none → ∀ H', Same H H' → Q .non H') ∧ ∀ m, matT W k.1.toNat k.2 p = some m → ∀ v H', Same H H' → MV (flag W) H' m v → Q v H'
def spSteps (C : Addr) : Sp := fun vs H Q _ => ∃ (x q : Addr) (W : Wk) (k : PKy) (d : Nat), vs = [.ref x, .ref q] ∧ WalkAt C H x W ∧ WIn W ∧ PKey (flag W) H k q ∧ KOk W d k ∧
  ∀ l xs H', H l = none → Same H H' → H' l = some (.lst xs) → StepsAt (flag W) H' (nexts W k) xs → Q (.ref l) H'
def spBehind (C : Addr) : Sp := fun vs H Q _ => ∃ (x a : Addr) (W : Wk) (d : Nat) (L : List (PKy × Int)), vs = [.ref x, .ref a] ∧ WalkAt C H x W ∧ WIn W ∧ H a = some (.dT (flag W) (toV L)) ∧ LOk W (d + 1) L ∧ L.length ≤ 10000 ∧
  ∀ p H', H p = none → Same (mask a H) H' → H' p = some (.dT (flag W) (toV (behindTo W [] L))) → Q (.ref p) H'
def spLayers (C : Addr) : Sp := fun vs H Q _ => ∃ (x : Addr) (W : Wk), vs = [.ref x] ∧ WalkAt C H x W ∧ WIn W ∧
  ∀ l p xs H', Same H H' → H' l = some (.lst (xs ++ [.ref p])) → H' p = some (.dT (flag W) (toV (layerN W W.n))) → Q (.ref l) H'
def DeadOk (W : Wk) (dd : List (PKy × V)) : Prop := ∀ k ∈ dd.map (·.1), rows W k (left W.n k.1.toNat) = []
def calls : Nat → Nat
  | 0 => 1
  | d + 1 => 1 + 5 * calls d
def spRest (C : Addr) (e : Nat) : Sp := fun vs H Q _ => ∃ (x q D : Addr) (W : Wk) (k : PKy) (d : Nat) (dd : List (PKy × V)), vs = [.ref x, .ref q, .ref D] ∧ d ≤ e ∧ WalkAt C H x W ∧ WIn W ∧ PKey (flag W) H k q ∧ KOk W d k ∧ H D = some (.dT (flag W) dd) ∧ DeadOk W dd ∧ dd.length + calls d ≤ 10000 ∧
  ∀ H' dd', Same (mask D H) H' → H' D = some (.dT (flag W) dd') → DeadOk W dd' → dd'.length ≤ dd.length + calls d →
    (rows W k d = [] → Q .non H') ∧ ∀ r rest, rows W k d = r :: rest → ∀ l, mask D H l = none → l ≠ D → H' l = some (.lst (r.map .int)) → Q (.ref l) H'
def spNever : Sp := fun _ _ _ _ => False
theorem never_ok {P : Program} {w : World} {K : PySem.W.Frag} {mg : Str → Option Value} {base : Heap} {CX : CXT} {k : Nat} {f : Addr} {fd : FuncData} {ps : List Str} : FnOk P w K mg base CX k f fd ps spNever :=
  ⟨fun _ _ _ _ h => h.elim, fun _ _ _ _ _ _ _ _ _ _ _ _ _ h => h.elim⟩
def FR (W : Wk) (rv : V) (H : Hp) : Prop := (rv = .non ∧ rows W (begK W) W.n = []) ∨ ∃ l r rest, rv = .ref l ∧ H l = some (.lst (r.map .int)) ∧ rows W (begK W) W.n = r :: rest
def spFirstR (C : Addr) : Sp := fun vs H Q _ => ∃ (x : Addr) (W : Wk), vs = [.ref x] ∧ WalkAt C H x W ∧ WIn W ∧ ∀ rv H', Same H H' → FR W rv H' → Q rv H'
def spLeastM : Sp := fun vs H Q _ => ∃ (v : V) (n : Nat) (ts : List (List Int)), vs = [v] ∧ Dat H (webD n ts) v ∧ webOk n ts = true ∧ WebIn n ts ∧ n ≤ 5 ∧ ∀ H', Same H H' → Q (.int (lm n ts (2 ^ n - 1))) H'
def spTry : Sp := fun vs H Q _ => ∃ (v : V) (n : Nat) (ts : List (List Int)) (kd : Str), vs = [v, .str kd] ∧ Dat H (webD n ts) v ∧ webOk n ts = true ∧ WebIn n ts ∧ n ≤ 5 ∧ isKind kd ∧
  ∀ b H', Same H H' → 0 ≤ b → (∀ os, ordOk n os = true → b ≤ measF kd n os ts) → Q (.int b) H'
structure Ask (A : Er) (H : Hp) (v : V) (n : Int) (ts : List (List Int)) (kd : Str) (bd : Int) (E : XK) : Prop where
  dat : Dat H (webD n ts) v
  win : WebIn n ts
  n5 : webOk n ts = true → n ≤ 5
  k1 : kd.length ≤ 1000
  k2 : ∀ c ∈ kd.cps.toList, c < 16 ^ 8
  ew : webOk n ts = false → ∀ H', Same H H' → E (.ref A.BadWeb) none H'
  ek : webOk n ts = true → ¬ (isKind kd ∧ 0 ≤ bd ∧ bd ≤ 1000000) → ∀ H', Same H H' → E (.ref A.BadKind) none H'
def spAsked (A : Er) : Sp := fun vs H Q E => ∃ (v : V) (n : Int) (ts : List (List Int)) (kd : Str) (bd : Int), vs = [v, .str kd, .int bd] ∧ Ask A H v n ts kd bd E ∧
  (webOk n ts = true → isKind kd → 0 ≤ bd → bd ≤ 1000000 → ∀ H', Same H H' → Q .non H')
def goodL (n : Nat) (ts : List (List Int)) (kd : Str) (bd : Int) : List (List Int) := (allTo n n).filter fun os => decide (measF kd n os ts ≤ bd)
def spHow (A : Er) : Sp := fun vs H Q E => ∃ (v : V) (n : Int) (ts : List (List Int)) (kd : Str) (bd : Int), vs = [v, .str kd, .int bd] ∧ Ask A H v n ts kd bd E ∧
  (webOk n ts = true → isKind kd → 0 ≤ bd → bd ≤ 1000000 → ∀ H', Same H H' → Q (.int ((goodL n.toNat ts kd bd).length : Nat)) H')
def spFirst (A : Er) : Sp := fun vs H Q E => ∃ (v : V) (n : Int) (ts : List (List Int)) (kd : Str) (bd : Int), vs = [v, .str kd, .int bd] ∧ Ask A H v n ts kd bd E ∧
  (webOk n ts = true → isKind kd → 0 ≤ bd → bd ≤ 1000000 → (goodL n.toNat ts kd bd = [] → ∀ H', Same H H' → Q .non H') ∧
    ∀ r rest, goodL n.toNat ts kd bd = r :: rest → ∀ l H', Same H H' → H' l = some (.lst (r.map .int)) → Q (.ref l) H')
def spLeastW (A : Er) : Sp := fun vs H Q E => ∃ (v : V) (n : Int) (ts : List (List Int)) (kd : Str), vs = [v, .str kd] ∧ Ask A H v n ts kd 0 E ∧
  (webOk n ts = true → isKind kd → ∃ M r rest, goodL n.toNat ts kd M = r :: rest ∧ (∀ os, ordOk n os = true → M ≤ measF kd n os ts) ∧
    ∀ t l H', Same H H' → H' t = some (.tup [.int M, .ref l]) → H' l = some (.lst (r.map .int)) → Q (.ref t) H')
end My
set_option Elab.async false
set_option linter.all false
set_option maxRecDepth 100000
set_option maxHeartbeats 4000000
namespace My
open PySem L2 PySem.Spec PyProof.Rows
theorem atNb {W : Wk} {p : Nat} (h : p < W.n) : atI ((nbs W).map V.int) (p : Int) = some (.int ((nb W.ts p : Nat) : Int)) := by
  refine atI_nat ?_
  unfold nbs
  rw [List.getElem?_map, List.getElem?_map, List.getElem?_range h]
  rfl
theorem nb_lt {W : Wk} (h : WIn W) {p : Nat} (hp : p < W.n) : nb W.ts p < 32 := by
  have hw := h.web
  unfold webOk at hw
  rw [Bool.and_eq_true] at hw
  exact lt32 h.n5 (nb_bits h.n5 hp hw.2).1
theorem iteNZ {a : Int} {b : Bool} {X Y : Prop} (h : a = 0 ↔ b = false) (h1 : b = true → X) (h2 : b = false → Y) : if (!decide (V.int a = V.int 0)) = true then X else Y := by
  by_cases c : a = 0
  · rw [decide_eq_true (congrArg V.int c)]
    exact iteF (h2 (h.mp c))
  · rw [decide_eq_false fun z => c (V.int.inj z)]
    refine iteT (h1 ?_)
    cases b with
    | true => rfl
    | false => exact absurd (h.mpr rfl) c
theorem iteLe {p : Prop} [Decidable p] {X Y : Prop} (h1 : p → X) (h2 : ¬ p → Y) : if decide p = true then X else Y := by
  by_cases c : p
  · rw [decide_eq_true c]; exact iteT (h1 c)
  · rw [decide_eq_false c]; exact iteF (h2 c)
theorem cat0_in {K : PySem.W.Frag} {H : Hp} {a b : Addr} {xs ys : List V} {Q : VK} (ha : SqT K H a xs) (hb : H b = some (.tup ys)) (hne : ys ≠ []) (hz : xs.length + ys.length ≤ sizeLine) (h : ∀ la H2, Same H H2 → H2 la = some (.tup (xs ++ ys)) → Q (.ref la) H2) : rCatT0 K (.ref a) (.ref b) H Q := by
  by_cases c : xs = []
  · subst c
    exact .inl ⟨a, b, ys, rfl, rfl, ha, SqT.of hb, h b H (Same.refl _) hb⟩
  · refine .inr ⟨a, b, xs, ys, rfl, rfl, ha, SqT.of hb, c, hz, fun z => absurd z hne, fun _ p hp => ?_⟩
    obtain ⟨s1, n1⟩ := new_pair (o := .tup (xs ++ ys)) hp
    exact h p _ s1 n1
theorem atOut {W : Wk} {S : Nat} (h : S < 2 ^ W.n) : atI ((outs W).map V.int) (S : Int) = some (.int (cutZ W.ts S)) := by
  refine atI_nat ?_
  unfold outs
  rw [List.getElem?_map, List.getElem?_map, List.getElem?_range h]
  rfl
theorem or_put {S p : Nat} {i : Int} (e : i = S) (hS : S < 32) (hp : p < 5) (hb : bit S p = false) : Builtin.bitOr i (1 * 2 ^ ((p : Int)).toNat) = ((S + 2 ^ p : Nat) : Int) := by
  have e1 : (1 : Int) * 2 ^ ((p : Int)).toNat = ((2 ^ p : Nat) : Int) := by
    rw [Int.one_mul, Int.toNat_natCast]
    exact_mod_cast rfl
  rw [e1, e, or_int S hS p hp, or_add S hS p hp hb]
theorem iteNonT {v : V} {X Y : Prop} (h : v ≠ .non) (hx : X) : if (!decide (v = V.non)) = true then X else Y := by rw [decide_eq_false h]; exact iteT hx
theorem iteNonF {X Y : Prop} (hy : Y) : if (!decide (V.non = V.non)) = true then X else Y := by rw [decide_eq_true rfl]; exact iteF hy
theorem toV_take (L : List (PKy × Int)) {i : Nat} {k : PKy} {x : V} (h : (toV L)[i]? = some (k, x)) : ∃ c, x = .int c ∧ L[i]? = some (k, c) := by
  unfold toV at h
  rw [List.getElem?_map] at h
  obtain ⟨⟨k', c⟩, h1, h2⟩ := Option.map_eq_some_iff.mp h
  cases h2
  exact ⟨c, rfl, h1⟩
theorem same_mask {D : Addr} {H H' : Hp} (e : Same (mask D H) H') {b : Addr} {u : HO} (h : H b = some u) (ne : b ≠ D) : H' b = some u := e b u ((mask_ne ne).trans h)
theorem keys_put {k : PKy} {v : V} {kvs : List (PKy × V)} {y : PKy} (h : y ∈ (putK kvs k v).map (·.1)) : y = k ∨ y ∈ kvs.map (·.1) := by
  unfold putK at h
  split at h
  · rw [List.map_map] at h
    obtain ⟨p, hp, e⟩ := List.mem_map.mp h
    have e' : (if p.1 = k then (p.1, v) else p).1 = y := e
    right
    refine List.mem_map.mpr ⟨p, hp, ?_⟩
    split at e'
    · exact e'
    · exact e'
  · rw [List.map_append, List.mem_append] at h
    rcases h with h | h
    · exact .inr h
    · exact .inl (List.mem_singleton.mp h)
theorem flat_nil {α β : Type} {f : α → List β} : ∀ {l : List α}, (∀ x ∈ l, f x = []) → l.flatMap f = []
  | [], _ => rfl
  | a :: r, h => by rw [List.flatMap_cons, h a (.head _), flat_nil fun x hx => h x (.tail _ hx)]; rfl
theorem rows_none {W : Wk} {k : PKy} {d : Nat} (h : ∀ y ∈ nexts W k, rows W y.2 d = []) : rows W k (d + 1) = [] := by
  show (nexts W k).flatMap _ = []
  exact flat_nil fun x hx => by rw [h x hx]; rfl
theorem rows_first {W : Wk} {k : PKy} {d j : Nat} {p : Nat} {k' : PKy} {r : List Int} {rest : List (List Int)} (hj : (nexts W k)[j]? = some (p, k')) (h : ∀ y ∈ (nexts W k).take j, rows W y.2 d = []) (hr : rows W k' d = r :: rest) : ∃ tl, rows W k (d + 1) = ((p : Int) :: r) :: tl := by
  show ∃ tl, (nexts W k).flatMap _ = _
  have e : nexts W k = (nexts W k).take j ++ (nexts W k).drop j := (List.take_append_drop _ _).symm
  obtain ⟨hl, he⟩ := List.getElem?_eq_some_iff.mp hj
  rw [List.drop_eq_getElem_cons hl, he] at e
  rw [e, List.flatMap_append, flat_nil (fun x hx => by rw [h x hx]; rfl), List.nil_append, List.flatMap_cons, hr]
  exact ⟨_, rfl⟩
theorem walk_made {C x dx : Addr} {Hc : Hp} {v : V} {W : Wk} {Z : Hp → Prop} {E : XK} (dat : Dat Hc (webD W.n W.ts) v) (hw : webOk W.n W.ts = true) (win : WebIn W.n W.ts) (n5 : W.n ≤ 5) (nx : Hc x = none) (ndx : Hc dx = none) (h : ∀ H2, Same Hc H2 → WalkAt C H2 x W → Z H2) :
    spWInit C [.ref x, v, .str W.kd, .int W.bd] (upd (upd Hc dx (.own x)) x (.ins C dx [])) (fun u H2 => u = .non ∧ Z H2) E := by
  have s0 : Same Hc (upd (upd Hc dx (.own x)) x (.ins C dx [])) := fun b o e => by
    rw [upd_ne (ne_of_none e nx), upd_ne (ne_of_none e ndx)]
    exact e
  exact ⟨x, dx, v, W, rfl, upd_same, dat.mono s0, hw, win, n5, fun H2 e2 hW => ⟨rfl, h H2 (fun b u z => same_mask e2 (s0 _ _ z) (ne_of_none z nx)) hW⟩⟩
theorem good_rows {W : Wk} (wi : WIn W) : rows W (begK W) W.n = goodL W.n W.ts W.kd W.bd := rows_good wi.n5 wi.web wi.kd wi.b0
theorem tot_nonneg {n : Nat} (hn : n ≤ 5) {os : List Int} (ho : ordOk n os = true) {ts : List (List Int)} (ht : ∀ t ∈ ts, tieOk n t = true) : 0 ≤ totF n os ts := by
  rw [tot_way hn ho ht]
  have e := way_take (ts := ts) (os := os) (k := os.length) (Nat.le_refl _)
  rw [List.take_length] at e
  rw [e]
  have := cutSum_le ht os 0 os.length
  rw [Nat.zero_add] at this
  exact this
theorem lm_nonneg {n : Nat} (hn : n ≤ 5) {ts : List (List Int)} (ht : ∀ t ∈ ts, tieOk n t = true) {S : Nat} (hS : S < 2 ^ n) : 0 ≤ lm n ts S := by
  by_cases c : S = 0
  · subst c
    exact Int.le_refl _
  · rw [lm_succ hn hS c]
    have := cutZ_nonneg (S := S) ht
    omega
theorem web_ties {n : Int} {ts : List (List Int)} (hw : webOk n ts = true) : ∀ t ∈ ts, tieOk n t = true := by
  unfold webOk at hw
  rw [Bool.and_eq_true] at hw
  exact tiesOk_all hw.2
theorem meas_nonneg {kd : Str} {n : Nat} (hn : n ≤ 5) {os : List Int} (ho : ordOk n os = true) {ts : List (List Int)} (ht : ∀ t ∈ ts, tieOk n t = true) : 0 ≤ measF kd n os ts := by
  unfold measF
  split
  · exact (maxOf_le.mp (Int.le_refl (longF n os ts))).1
  · split
    · exact (maxOf_le.mp (Int.le_refl (mostF n os ts))).1
    · exact tot_nonneg hn ho ht
theorem good_mem {n : Nat} {ts : List (List Int)} {kd : Str} {b : Int} {os : List Int} : os ∈ goodL n ts kd b ↔ ordOk n os = true ∧ measF kd n os ts ≤ b := by
  unfold goodL
  rw [List.mem_filter, allTo_ord, decide_eq_true_iff]
theorem cutZ_le {n : Int} {S : Nat} : ∀ {ts : List (List Int)}, (∀ t ∈ ts, tieOk n t = true) → cutZ ts S ≤ 100 * (ts.length : Int)
  | [], _ => Int.le_refl _
  | t :: r, h => by
    obtain ⟨a, b, c, rfl, _, _, _, _, h5, h6⟩ := tieOk_three (h t (.head _))
    have h2 := cutZ_le (S := S) (ts := r) fun t' ht => h t' (.tail _ ht)
    have h1 : cut1 S [a, b, c] ≤ 100 := by
      show (if bit S a.toNat = bit S b.toNat then 0 else c) ≤ 100
      split <;> omega
    unfold cutZ at h2 ⊢
    rw [List.map_cons, List.sum_cons, List.length_cons]
    omega
theorem meas_le {kd : Str} {n : Nat} (hn : n ≤ 5) {os : List Int} (ho : ordOk n os = true) {ts : List (List Int)} (ht : ∀ t ∈ ts, tieOk n t = true) (hl : ts.length ≤ 64) : measF kd n os ts ≤ 100000 := by
  have cz : ∀ S, cutZ ts S ≤ 6400 := fun S => by
    have := cutZ_le (S := S) ht
    omega
  obtain ⟨h1, _, _⟩ := ordOk_of ho
  unfold measF
  split
  · refine (len_le (W := ⟨n, ts, "", 0⟩) ht (by decide)).mpr fun p q ⟨d, hz⟩ => ?_
    have hp : p < n := by
      rcases hz with z | z
      · obtain ⟨a, c, d', ee, g1, g2, g3, g4, _⟩ := tieOk_three (ht _ z)
        simp only [List.cons.injEq] at ee
        omega
      · obtain ⟨a, c, d', ee, g1, g2, g3, g4, _⟩ := tieOk_three (ht _ z)
        simp only [List.cons.injEq] at ee
        omega
    have := idx_lt (ord_all ho (k := (p : Int)) (by omega) (by omega))
    omega
  · split
    · refine maxOf_le.mpr ⟨by decide, fun x hx => ?_⟩
      unfold gapsL at hx
      obtain ⟨g, _, rfl⟩ := List.mem_map.mp hx
      rw [gap_cut hn ho ht]
      have := cz (upTo os (g + 1))
      omega
    · rw [tot_way hn ho ht]
      have e := way_take (ts := ts) (os := os) (k := os.length) (Nat.le_refl _)
      rw [List.take_length] at e
      rw [e]
      have go : ∀ j, cutSum ts os j ≤ 6400 * (j : Int) := by
        intro j
        induction j with
        | zero => exact Int.le_refl _
        | succ j ih =>
          rw [cutSum_succ]
          have := cz (upTo os (j + 1))
          omega
      have := go os.length
      unfold cutSum at this
      omega
theorem kind_small {kd : Str} (h : isKind kd) : kd.length ≤ 1000 ∧ ∀ c ∈ kd.cps.toList, c < 16 ^ 8 := by
  rcases h with rfl | rfl | rfl
  · exact ⟨by decide +kernel, by decide +kernel⟩
  · exact ⟨by decide +kernel, by decide +kernel⟩
  · exact ⟨by decide +kernel, by decide +kernel⟩
def spLTold (A : Er) : Sp := fun vs H Q _ => ∃ (way : Int) (v : V) (n : Int) (ts : List (List Int)) (kd : Str) (bd : Int), vs = [.int way, v, .str kd, .int bd] ∧ Dat H (webD n ts) v ∧ WebIn n ts ∧ (webOk n ts = true → n ≤ 5) ∧ kd.length ≤ 1000 ∧ (∀ c ∈ kd.cps.toList, c < 16 ^ 8) ∧ 0 ≤ way ∧ way ≤ 2 ∧
  (webOk n ts = false → ∀ H', Same H H' → Q (.str "web") H') ∧
  (webOk n ts = true → ¬ (isKind kd ∧ (way ≤ 1 → 0 ≤ bd ∧ bd ≤ 1000000)) → ∀ H', Same H H' → Q (.str "kind") H') ∧
  (webOk n ts = true → isKind kd → (way = 0 → 0 ≤ bd → bd ≤ 1000000 → ∀ H', Same H H' → Q (.int ((goodL n.toNat ts kd bd).length : Nat)) H') ∧
    (way = 1 → 0 ≤ bd → bd ≤ 1000000 → (goodL n.toNat ts kd bd = [] → ∀ H', Same H H' → Q .non H') ∧ ∀ r rest, goodL n.toNat ts kd bd = r :: rest → ∀ l H', Same H H' → H' l = some (.lst (r.map .int)) → Q (.ref l) H') ∧
    (way = 2 → ∃ M r rest, goodL n.toNat ts kd M = r :: rest ∧ (∀ os, ordOk n os = true → M ≤ measF kd n os ts) ∧ ∀ t l H', Same H H' → H' t = some (.tup [.int M, .ref l]) → H' l = some (.lst (r.map .int)) → Q (.ref t) H'))
theorem if_int {c : Bool} {X : Prop} {F : Int → Hp → Prop} {G : Int → Prop} {b0 : Int} {H : Hp} (h0 : G b0) (fin : ∀ b Hz, G b → Same H Hz → F b Hz) (hx : (∀ b Hz, G b → Same H Hz → F b Hz) → c = true → X) : if c = true then X else F b0 H := by
  cases c with
  | true => exact iteT (hx fin rfl)
  | false => exact iteF (fin b0 H h0 (Same.refl _))
theorem pick_range {α β : Type} (l : List α) (d0 : α) (p : α → Bool) (f : α → β) : ((List.range l.length).filter fun i => p (l.getD i d0)).map (fun i => f (l.getD i d0)) = (l.filter p).map f := by
  have e := map_range_get (fun x => x) d0 l
  rw [List.map_id''] at e
  · have h1 : ((List.range l.length).filter fun i => p (l.getD i d0)).map (fun i => l.getD i d0) = l.filter p := by
      have := List.filter_map (f := fun i => l.getD i d0) (p := p) (l := List.range l.length)
      rw [e] at this
      exact this.symm
    rw [← h1, List.map_map]
    rfl
  · intro x
    rfl
theorem lcf_inN {J : It} {g : TG} {tt : TT} {te : TE} {H1 : Hp} {σ0 : L2.St} {QD : Addr → Hp → Prop} (S : L2.St → Prop) (n : Nat) (c : Nat → Bool) (d : Nat → PyData) (s0 : S σ0) (hgo : ∀ i H2, i < n → Same H1 H2 → J.go i H2) (hstop : ∀ H2, Same H1 H2 → J.stop n H2) (hn : n ≤ sizeLine)
    (step : ∀ D i x σ2 H2 H3 (Y : V → L2.St → Hp → Prop) (Z : L2.St → Hp → Prop), H1 D = none → i < n → Same H1 H2 → (∃ ys, H2 D = some (.lst ys)) → S σ2 → J.yld i H2 x H3 → (∀ y σ4 H6, c i = true → S σ4 → Same H2 H6 → Dat (mask D H6) (d i) y → Y y σ4 H6) →
      (∀ σ4 H5, c i = false → S σ4 → Same H2 H5 → Z σ4 H5) → g x σ2 H3 fun σ4 H4 => tt σ4 H4 fun b H5 => if b = true then te σ4 H5 fun y H6 => Y y σ4 H6 else Z σ4 H5)
    (fin : ∀ D ys H2, H1 D = none → Same H1 H2 → H2 D = some (.lst ys) → DatL (mask D H2) (((List.range n).filter c).map d) ys → QD D H2) :
    ∀ D, H1 D = none → ∃ W : Nat → Nat → L2.St → Hp → Prop, (∃ m, W 0 m σ0 (upd H1 D (.lst []))) ∧
      ∀ i m σ2 H2, W i m σ2 H2 → (J.stop i H2 ∧ QD D H2) ∨ (J.go i H2 ∧ ∀ x H3, J.yld i H2 x H3 → g x σ2 H3 fun σ4 H4 => tt σ4 H4 fun b H5 =>
        if b = true then te σ4 H5 fun y H6 => ∃ xs, H6 D = some (.lst xs) ∧ xs.length < sizeLine ∧ ∃ m', m' < m ∧ W (i + 1) m' σ4 (upd H6 D (.lst (xs ++ [y]))) else ∃ m', m' < m ∧ W (i + 1) m' σ4 H5) := by
  intro D hD
  refine ⟨fun i m σ2 H2 => i + m = n ∧ S σ2 ∧ Same H1 H2 ∧ ∃ ys, H2 D = some (.lst ys) ∧ DatL (mask D H2) (((List.range i).filter c).map d) ys, ⟨n, by omega, s0, same_new hD, [], upd_same, .nil⟩, ?_⟩
  intro i m σ2 H2 ⟨hi, hs, e, ys, hy, dl⟩
  by_cases h : i < n
  · refine .inr ⟨hgo i H2 h e, fun x H3 yl => ?_⟩
    have hl := dl.length
    have hle : ((List.range i).filter c).length ≤ i := Nat.le_trans (List.length_filter_le _ _) (by rw [List.length_range]; exact Nat.le_refl _)
    rw [List.length_map] at hl
    refine step D i x σ2 H2 H3 (fun y σ4 H6 => ∃ xs, H6 D = some (.lst xs) ∧ xs.length < sizeLine ∧ ∃ m', m' < m ∧ _) (fun σ4 H5 => ∃ m', m' < m ∧ _) hD h e ⟨ys, hy⟩ hs yl (fun y σ4 H6 hc s4 e6 dy => ?_) fun σ4 H5 hc s4 e5 => ?_
    · refine ⟨ys, e6 _ _ hy, by omega, m - 1, by omega, by omega, s4, (e.trans e6).put hD, ys ++ [y], upd_same, ?_⟩
      rw [mask_upd, List.range_succ, List.filter_append, List.map_append]
      have z : (List.filter c [i]) = [i] := by rw [List.filter_cons, if_pos hc]; rfl
      rw [z]
      exact (dl.mono (mask_mono e6)).snoc dy
    · refine ⟨m - 1, by omega, by omega, s4, e.trans e5, ys, e5 _ _ hy, ?_⟩
      have z : (List.filter c [i]) = [] := by rw [List.filter_cons, if_neg (by rw [hc]; exact Bool.false_ne_true)]; rfl
      rw [List.range_succ, List.filter_append, z, List.append_nil]
      exact dl.mono (mask_mono e5)
  · have hin : i = n := by omega
    subst hin
    exact .inl ⟨hstop H2 e, fin D ys H2 hD e hy dl⟩
theorem first_good {M : Int} (f : List Int → Int) : ∀ {l : List (List Int)} {r : List Int} {rest : List (List Int)}, (∀ x ∈ l, M ≤ f x) → (l.filter fun x => decide (f x ≤ M)) = r :: rest → M ∈ l.map f ∧ l[idx (l.map f) M]? = some r
  | [], _, _, _, h => by cases h
  | a :: l, r, rest, hl, h => by
    have ha := hl a (.head _)
    by_cases c : f a = M
    · rw [List.filter_cons, if_pos (decide_eq_true (by omega))] at h
      cases h
      refine ⟨List.mem_cons.mpr (.inl c.symm), ?_⟩
      have : idx ((a :: l).map f) M = 0 := by
        unfold idx
        rw [List.map_cons, c, List.idxOf_cons_self]
      rw [this]
      rfl
    · rw [List.filter_cons, if_neg (by rw [decide_eq_false (by omega)]; exact Bool.false_ne_true)] at h
      obtain ⟨h1, h2⟩ := first_good f (fun x hx => hl x (.tail _ hx)) h
      refine ⟨List.mem_cons.mpr (.inr h1), ?_⟩
      rw [List.map_cons, idx_cons c]
      exact h2
theorem join_at {H : Hp} {R : Hp → Prop} {G : Prop} (main : (∀ Hz, Same H Hz → R Hz) → G) (fin : ∀ Hz, Same H Hz → R Hz) : G := main fin
end My
set_option Elab.async false
set_option linter.all false
set_option maxRecDepth 100000
set_option maxHeartbeats 4000000
namespace My
open PySem L2 PySem.Spec PyProof.Rows
def top (i : Nat) : Stmt := PySem.Challenge.pw_rowlay_k30_whole_bounds.main.body.getD i (.Pass ⟨0, 0, 0, 0⟩)
abbrev s_wall : Stmt := top 0
abbrev s_set_count : Stmt := top 9
abbrev s_holds : Stmt := top 10
abbrev s_set_of : Stmt := top 11
abbrev s_place_fewer : Stmt := top 12
abbrev s_least_before : Stmt := top 13
abbrev s_leading_out : Stmt := top 14
abbrev s_neighbours : Stmt := top 15
abbrev s_is_whole : Stmt := top 20
abbrev s_is_within : Stmt := top 21
abbrev s_is_tie : Stmt := top 22
abbrev s_look_ties : Stmt := top 23
abbrev s_look_web : Stmt := top 24
abbrev s_look_kind : Stmt := top 25
abbrev s_prices : Stmt := top 27
abbrev s_least_total : Stmt := top 28
abbrev s_look_asked : Stmt := top 32
abbrev s_layer_behind : Stmt := top 33
abbrev s_layers : Stmt := top 34
abbrev s_rest_of_row : Stmt := top 35
abbrev s_first_row : Stmt := top 36
abbrev s_least_most : Stmt := top 37
abbrev s_bound_to_try : Stmt := top 38
abbrev s_how_many : Stmt := top 39
abbrev s_first : Stmt := top 40
abbrev s_least : Stmt := top 41
abbrev s_law_cell : Stmt := top 43
abbrev s_law_mix : Stmt := top 44
abbrev s_law_whole : Stmt := top 45
abbrev s_law_web : Stmt := top 46
abbrev s_law_lengths : Stmt := top 47
abbrev s_law_gaps : Stmt := top 48
abbrev s_law_measured : Stmt := top 49
abbrev s_law_all : Stmt := top 50
abbrev s_law_refusal : Stmt := top 51
abbrev s_law_told : Stmt := top 52
abbrev s_law : Stmt := top 53
abbrev s_Walk_init : Stmt := inClass (top 31) 0
abbrev s_Walk_beginning : Stmt := inClass (top 31) 1
abbrev s_Walk_last_then : Stmt := inClass (top 31) 2
abbrev s_Walk_matters_then : Stmt := inClass (top 31) 3
abbrev s_Walk_steps : Stmt := inClass (top 31) 4
abbrev s_Walk_may_matter : Stmt := inClass (top 31) 5
abbrev s_Walk_may_stand : Stmt := inClass (top 31) 6
abbrev bmV : List Value := [.type "ValueError", .type "Exception", .type "BaseException", .type "object"]
structure Ad where
  wall : Addr
  set_count : Addr
  holds : Addr
  set_of : Addr
  place_fewer : Addr
  least_before : Addr
  leading_out : Addr
  neighbours : Addr
  is_whole : Addr
  is_within : Addr
  is_tie : Addr
  look_ties : Addr
  look_web : Addr
  look_kind : Addr
  prices : Addr
  least_total : Addr
  look_asked : Addr
  layer_behind : Addr
  layers : Addr
  rest_of_row : Addr
  first_row : Addr
  least_most : Addr
  bound_to_try : Addr
  how_many : Addr
  first : Addr
  least : Addr
  law_cell : Addr
  law_mix : Addr
  law_whole : Addr
  law_web : Addr
  law_lengths : Addr
  law_gaps : Addr
  law_measured : Addr
  law_all : Addr
  law_refusal : Addr
  law_told : Addr
  law : Addr
  LayError : Addr
  BadWeb : Addr
  BadOrder : Addr
  BadSpot : Addr
  BadKind : Addr
  BadText : Addr
  KINDS : Addr
  Walk : Addr
  Walk_init : Addr
  Walk_beginning : Addr
  Walk_last_then : Addr
  Walk_matters_then : Addr
  Walk_steps : Addr
  Walk_may_matter : Addr
  Walk_may_stand : Addr
abbrev Ad.er (A : Ad) : Er := ⟨A.LayError, A.BadWeb, A.BadOrder, A.BadSpot, A.BadKind, A.BadText⟩
structure FD where
  wall : FuncData
  set_count : FuncData
  holds : FuncData
  set_of : FuncData
  place_fewer : FuncData
  least_before : FuncData
  leading_out : FuncData
  neighbours : FuncData
  is_whole : FuncData
  is_within : FuncData
  is_tie : FuncData
  look_ties : FuncData
  look_web : FuncData
  look_kind : FuncData
  prices : FuncData
  least_total : FuncData
  look_asked : FuncData
  layer_behind : FuncData
  layers : FuncData
  rest_of_row : FuncData
  first_row : FuncData
  least_most : FuncData
  bound_to_try : FuncData
  how_many : FuncData
  first : FuncData
  least : FuncData
  law_cell : FuncData
  law_mix : FuncData
  law_whole : FuncData
  law_web : FuncData
  law_lengths : FuncData
  law_gaps : FuncData
  law_measured : FuncData
  law_all : FuncData
  law_refusal : FuncData
  law_told : FuncData
  law : FuncData
  Walk_init : FuncData
  Walk_beginning : FuncData
  Walk_last_then : FuncData
  Walk_matters_then : FuncData
  Walk_steps : FuncData
  Walk_may_matter : FuncData
  Walk_may_stand : FuncData
structure Txt (K : PySem.W.Frag) (mg : Str → Option Value) (A : Ad) (D : FD) : Prop where
  F_wall : Fun K "_wall" "_wall" s_wall A.wall D.wall
  m_wall : mg "_wall" = some (.ref A.wall)
  b_wall : Binds K D.wall ["k"] []
  F_set_count : Fun K "set_count" "set_count" s_set_count A.set_count D.set_count
  m_set_count : mg "set_count" = some (.ref A.set_count)
  b_set_count : Binds K D.set_count ["places"] []
  F_holds : Fun K "holds" "holds" s_holds A.holds D.holds
  m_holds : mg "holds" = some (.ref A.holds)
  b_holds : Binds K D.holds ["some", "place"] []
  F_set_of : Fun K "set_of" "set_of" s_set_of A.set_of D.set_of
  m_set_of : mg "set_of" = some (.ref A.set_of)
  b_set_of : Binds K D.set_of ["places"] []
  F_place_fewer : Fun K "place_fewer" "place_fewer" s_place_fewer A.place_fewer D.place_fewer
  m_place_fewer : mg "place_fewer" = some (.ref A.place_fewer)
  b_place_fewer : Binds K D.place_fewer ["some"] []
  F_least_before : Fun K "least_before" "least_before" s_least_before A.least_before D.least_before
  m_least_before : mg "least_before" = some (.ref A.least_before)
  b_least_before : Binds K D.least_before ["numbers", "some"] []
  F_leading_out : Fun K "leading_out" "leading_out" s_leading_out A.leading_out D.leading_out
  m_leading_out : mg "leading_out" = some (.ref A.leading_out)
  b_leading_out : Binds K D.leading_out ["web"] []
  F_neighbours : Fun K "neighbours" "neighbours" s_neighbours A.neighbours D.neighbours
  m_neighbours : mg "neighbours" = some (.ref A.neighbours)
  b_neighbours : Binds K D.neighbours ["web"] []
  F_is_whole : Fun K "is_whole" "is_whole" s_is_whole A.is_whole D.is_whole
  m_is_whole : mg "is_whole" = some (.ref A.is_whole)
  b_is_whole : Binds K D.is_whole ["value"] []
  F_is_within : Fun K "is_within" "is_within" s_is_within A.is_within D.is_within
  m_is_within : mg "is_within" = some (.ref A.is_within)
  b_is_within : Binds K D.is_within ["value", "least", "greatest"] []
  F_is_tie : Fun K "is_tie" "is_tie" s_is_tie A.is_tie D.is_tie
  m_is_tie : mg "is_tie" = some (.ref A.is_tie)
  b_is_tie : Binds K D.is_tie ["tie", "places"] []
  F_look_ties : Fun K "look_ties" "look_ties" s_look_ties A.look_ties D.look_ties
  m_look_ties : mg "look_ties" = some (.ref A.look_ties)
  b_look_ties : Binds K D.look_ties ["places", "ties"] []
  F_look_web : Fun K "look_web" "look_web" s_look_web A.look_web D.look_web
  m_look_web : mg "look_web" = some (.ref A.look_web)
  b_look_web : Binds K D.look_web ["web"] []
  F_look_kind : Fun K "look_kind" "look_kind" s_look_kind A.look_kind D.look_kind
  m_look_kind : mg "look_kind" = some (.ref A.look_kind)
  b_look_kind : Binds K D.look_kind ["kind"] []
  F_prices : Fun K "prices" "prices" s_prices A.prices D.prices
  m_prices : mg "prices" = some (.ref A.prices)
  b_prices : Binds K D.prices ["web"] []
  F_least_total : Fun K "least_total" "least_total" s_least_total A.least_total D.least_total
  m_least_total : mg "least_total" = some (.ref A.least_total)
  b_least_total : Binds K D.least_total ["web"] []
  F_look_asked : Fun K "look_asked" "look_asked" s_look_asked A.look_asked D.look_asked
  m_look_asked : mg "look_asked" = some (.ref A.look_asked)
  b_look_asked : Binds K D.look_asked ["web", "kind", "bound"] []
  F_layer_behind : Fun K "layer_behind" "layer_behind" s_layer_behind A.layer_behind D.layer_behind
  m_layer_behind : mg "layer_behind" = some (.ref A.layer_behind)
  b_layer_behind : Binds K D.layer_behind ["walk", "layer"] []
  F_layers : Fun K "layers" "layers" s_layers A.layers D.layers
  m_layers : mg "layers" = some (.ref A.layers)
  b_layers : Binds K D.layers ["walk"] []
  F_rest_of_row : Fun K "rest_of_row" "rest_of_row" s_rest_of_row A.rest_of_row D.rest_of_row
  m_rest_of_row : mg "rest_of_row" = some (.ref A.rest_of_row)
  b_rest_of_row : Binds K D.rest_of_row ["walk", "pair", "dead"] []
  F_first_row : Fun K "first_row" "first_row" s_first_row A.first_row D.first_row
  m_first_row : mg "first_row" = some (.ref A.first_row)
  b_first_row : Binds K D.first_row ["walk"] []
  F_least_most : Fun K "least_most" "least_most" s_least_most A.least_most D.least_most
  m_least_most : mg "least_most" = some (.ref A.least_most)
  b_least_most : Binds K D.least_most ["web"] []
  F_bound_to_try : Fun K "bound_to_try" "bound_to_try" s_bound_to_try A.bound_to_try D.bound_to_try
  m_bound_to_try : mg "bound_to_try" = some (.ref A.bound_to_try)
  b_bound_to_try : Binds K D.bound_to_try ["web", "kind"] []
  F_how_many : Fun K "how_many" "how_many" s_how_many A.how_many D.how_many
  m_how_many : mg "how_many" = some (.ref A.how_many)
  b_how_many : Binds K D.how_many ["web", "kind", "bound"] []
  F_first : Fun K "first" "first" s_first A.first D.first
  m_first : mg "first" = some (.ref A.first)
  b_first : Binds K D.first ["web", "kind", "bound"] []
  F_least : Fun K "least" "least" s_least A.least D.least
  m_least : mg "least" = some (.ref A.least)
  b_least : Binds K D.least ["web", "kind"] []
  F_law_cell : Fun K "_law_cell" "_law_cell" s_law_cell A.law_cell D.law_cell
  m_law_cell : mg "_law_cell" = some (.ref A.law_cell)
  b_law_cell : Binds K D.law_cell ["_law_script", "_law_k"] []
  F_law_mix : Fun K "_law_mix" "_law_mix" s_law_mix A.law_mix D.law_mix
  m_law_mix : mg "_law_mix" = some (.ref A.law_mix)
  b_law_mix : Binds K D.law_mix ["_law_script", "_law_k"] []
  F_law_whole : Fun K "_law_whole" "_law_whole" s_law_whole A.law_whole D.law_whole
  m_law_whole : mg "_law_whole" = some (.ref A.law_whole)
  b_law_whole : Binds K D.law_whole ["_law_found"] []
  F_law_web : Fun K "_law_web" "_law_web" s_law_web A.law_web D.law_web
  m_law_web : mg "_law_web" = some (.ref A.law_web)
  b_law_web : Binds K D.law_web ["_law_script", "_law_k", "_law_places"] []
  F_law_lengths : Fun K "_law_lengths" "_law_lengths" s_law_lengths A.law_lengths D.law_lengths
  m_law_lengths : mg "_law_lengths" = some (.ref A.law_lengths)
  b_law_lengths : Binds K D.law_lengths ["_law_web_here", "_law_order"] []
  F_law_gaps : Fun K "_law_gaps" "_law_gaps" s_law_gaps A.law_gaps D.law_gaps
  m_law_gaps : mg "_law_gaps" = some (.ref A.law_gaps)
  b_law_gaps : Binds K D.law_gaps ["_law_web_here", "_law_order"] []
  F_law_measured : Fun K "_law_measured" "_law_measured" s_law_measured A.law_measured D.law_measured
  m_law_measured : mg "_law_measured" = some (.ref A.law_measured)
  b_law_measured : Binds K D.law_measured ["_law_web_here", "_law_kind", "_law_order"] []
  F_law_all : Fun K "_law_all" "_law_all" s_law_all A.law_all D.law_all
  m_law_all : mg "_law_all" = some (.ref A.law_all)
  b_law_all : Binds K D.law_all ["_law_many"] []
  F_law_refusal : Fun K "_law_refusal" "_law_refusal" s_law_refusal A.law_refusal D.law_refusal
  m_law_refusal : mg "_law_refusal" = some (.ref A.law_refusal)
  b_law_refusal : Binds K D.law_refusal ["_law_kept"] []
  F_law_told : Fun K "_law_told" "_law_told" s_law_told A.law_told D.law_told
  m_law_told : mg "_law_told" = some (.ref A.law_told)
  b_law_told : Binds K D.law_told ["_law_way", "_law_web_here", "_law_kind", "_law_bound"] []
  F_law : Fun K "law" "law" s_law A.law D.law
  m_law : mg "law" = some (.ref A.law)
  b_law : Binds K D.law ["_law_script"] []
  bl_law : ∀ (s : Shared) (u : Value), BindsTo s D.law ⟨[u], []⟩ [("_law_script", u)]
  m_LayError : mg "LayError" = some (.ref A.LayError)
  x_LayError : PySem.W.excIn K A.LayError bmV "ValueError.__new__" = true
  m_BadWeb : mg "BadWeb" = some (.ref A.BadWeb)
  x_BadWeb : PySem.W.excIn K A.BadWeb bmV "ValueError.__new__" = true
  l_BadWeb : ExcLook K A.BadWeb
  s_BadWeb : PySem.W.mroIn K A.BadWeb (.ref A.LayError) = some true
  v_BadWeb : PySem.W.kitOne K (.ref A.BadWeb) (.type "ValueError") = some true
  m_BadOrder : mg "BadOrder" = some (.ref A.BadOrder)
  x_BadOrder : PySem.W.excIn K A.BadOrder bmV "ValueError.__new__" = true
  l_BadOrder : ExcLook K A.BadOrder
  s_BadOrder : PySem.W.mroIn K A.BadOrder (.ref A.LayError) = some true
  v_BadOrder : PySem.W.kitOne K (.ref A.BadOrder) (.type "ValueError") = some true
  m_BadSpot : mg "BadSpot" = some (.ref A.BadSpot)
  x_BadSpot : PySem.W.excIn K A.BadSpot bmV "ValueError.__new__" = true
  l_BadSpot : ExcLook K A.BadSpot
  s_BadSpot : PySem.W.mroIn K A.BadSpot (.ref A.LayError) = some true
  v_BadSpot : PySem.W.kitOne K (.ref A.BadSpot) (.type "ValueError") = some true
  m_BadKind : mg "BadKind" = some (.ref A.BadKind)
  x_BadKind : PySem.W.excIn K A.BadKind bmV "ValueError.__new__" = true
  l_BadKind : ExcLook K A.BadKind
  s_BadKind : PySem.W.mroIn K A.BadKind (.ref A.LayError) = some true
  v_BadKind : PySem.W.kitOne K (.ref A.BadKind) (.type "ValueError") = some true
  m_BadText : mg "BadText" = some (.ref A.BadText)
  x_BadText : PySem.W.excIn K A.BadText bmV "ValueError.__new__" = true
  l_BadText : ExcLook K A.BadText
  s_BadText : PySem.W.mroIn K A.BadText (.ref A.LayError) = some true
  v_BadText : PySem.W.kitOne K (.ref A.BadText) (.type "ValueError") = some true
  i_BadWeb_BadWeb : PySem.W.kitOne K (.ref A.BadWeb) (.ref A.BadWeb) = some true
  i_BadWeb_BadOrder : PySem.W.kitOne K (.ref A.BadWeb) (.ref A.BadOrder) = some false
  i_BadWeb_BadSpot : PySem.W.kitOne K (.ref A.BadWeb) (.ref A.BadSpot) = some false
  i_BadWeb_BadKind : PySem.W.kitOne K (.ref A.BadWeb) (.ref A.BadKind) = some false
  i_BadWeb_BadText : PySem.W.kitOne K (.ref A.BadWeb) (.ref A.BadText) = some false
  i_BadOrder_BadWeb : PySem.W.kitOne K (.ref A.BadOrder) (.ref A.BadWeb) = some false
  i_BadOrder_BadOrder : PySem.W.kitOne K (.ref A.BadOrder) (.ref A.BadOrder) = some true
  i_BadOrder_BadSpot : PySem.W.kitOne K (.ref A.BadOrder) (.ref A.BadSpot) = some false
  i_BadOrder_BadKind : PySem.W.kitOne K (.ref A.BadOrder) (.ref A.BadKind) = some false
  i_BadOrder_BadText : PySem.W.kitOne K (.ref A.BadOrder) (.ref A.BadText) = some false
  i_BadSpot_BadWeb : PySem.W.kitOne K (.ref A.BadSpot) (.ref A.BadWeb) = some false
  i_BadSpot_BadOrder : PySem.W.kitOne K (.ref A.BadSpot) (.ref A.BadOrder) = some false
  i_BadSpot_BadSpot : PySem.W.kitOne K (.ref A.BadSpot) (.ref A.BadSpot) = some true
  i_BadSpot_BadKind : PySem.W.kitOne K (.ref A.BadSpot) (.ref A.BadKind) = some false
  i_BadSpot_BadText : PySem.W.kitOne K (.ref A.BadSpot) (.ref A.BadText) = some false
  i_BadKind_BadWeb : PySem.W.kitOne K (.ref A.BadKind) (.ref A.BadWeb) = some false
  i_BadKind_BadOrder : PySem.W.kitOne K (.ref A.BadKind) (.ref A.BadOrder) = some false
  i_BadKind_BadSpot : PySem.W.kitOne K (.ref A.BadKind) (.ref A.BadSpot) = some false
  i_BadKind_BadKind : PySem.W.kitOne K (.ref A.BadKind) (.ref A.BadKind) = some true
  i_BadKind_BadText : PySem.W.kitOne K (.ref A.BadKind) (.ref A.BadText) = some false
  i_BadText_BadWeb : PySem.W.kitOne K (.ref A.BadText) (.ref A.BadWeb) = some false
  i_BadText_BadOrder : PySem.W.kitOne K (.ref A.BadText) (.ref A.BadOrder) = some false
  i_BadText_BadSpot : PySem.W.kitOne K (.ref A.BadText) (.ref A.BadSpot) = some false
  i_BadText_BadKind : PySem.W.kitOne K (.ref A.BadText) (.ref A.BadKind) = some false
  i_BadText_BadText : PySem.W.kitOne K (.ref A.BadText) (.ref A.BadText) = some true
  g_MOST_PLACES : ∃ t, mg "MOST_PLACES" = some (.int 8 t)
  g_MOST_WEIGHT : ∃ t, mg "MOST_WEIGHT" = some (.int 100 t)
  g_GREATEST_BOUND : ∃ t, mg "GREATEST_BOUND" = some (.int 1000000 t)
  m_KINDS : mg "KINDS" = some (.ref A.KINDS)
  t_KINDS : ∀ H, SqT K H A.KINDS [.str "longest", .str "most", .str "total"]
  m_Walk : mg "Walk" = some (.ref A.Walk)
  cl_Walk : Cls K A.Walk
  mk_Walk : Mk K A.Walk A.Walk_init
  n_Walk_bound : NoAttr K A.Walk "bound"
  n_Walk_every : NoAttr K A.Walk "every"
  n_Walk_kind : NoAttr K A.Walk "kind"
  n_Walk_out : NoAttr K A.Walk "out"
  n_Walk_places : NoAttr K A.Walk "places"
  n_Walk_tied : NoAttr K A.Walk "tied"
  F_Walk_init : Fun K "__init__" "Walk.__init__" s_Walk_init A.Walk_init D.Walk_init
  b_Walk_init : Binds K D.Walk_init ["self", "web", "kind", "bound"] []
  F_Walk_beginning : Fun K "beginning" "Walk.beginning" s_Walk_beginning A.Walk_beginning D.Walk_beginning
  me_Walk_beginning : Meth K A.Walk "beginning" A.Walk_beginning
  b_Walk_beginning : Binds K D.Walk_beginning ["self"] []
  F_Walk_last_then : Fun K "last_then" "Walk.last_then" s_Walk_last_then A.Walk_last_then D.Walk_last_then
  me_Walk_last_then : Meth K A.Walk "last_then" A.Walk_last_then
  b_Walk_last_then : Binds K D.Walk_last_then ["self", "pair", "place"] []
  F_Walk_matters_then : Fun K "matters_then" "Walk.matters_then" s_Walk_matters_then A.Walk_matters_then D.Walk_matters_then
  me_Walk_matters_then : Meth K A.Walk "matters_then" A.Walk_matters_then
  b_Walk_matters_then : Binds K D.Walk_matters_then ["self", "pair", "place"] []
  F_Walk_steps : Fun K "steps" "Walk.steps" s_Walk_steps A.Walk_steps D.Walk_steps
  me_Walk_steps : Meth K A.Walk "steps" A.Walk_steps
  b_Walk_steps : Binds K D.Walk_steps ["self", "pair"] []
  F_Walk_may_matter : Fun K "may_matter" "Walk.may_matter" s_Walk_may_matter A.Walk_may_matter D.Walk_may_matter
  me_Walk_may_matter : Meth K A.Walk "may_matter" A.Walk_may_matter
  b_Walk_may_matter : Binds K D.Walk_may_matter ["self", "some", "matters"] []
  F_Walk_may_stand : Fun K "may_stand" "Walk.may_stand" s_Walk_may_stand A.Walk_may_stand D.Walk_may_stand
  me_Walk_may_stand : Meth K A.Walk "may_stand" A.Walk_may_stand
  b_Walk_may_stand : Binds K D.Walk_may_stand ["self", "pair"] []
  z_abs : mg "abs" = none
  z_bool : mg "bool" = none
  z_int : mg "int" = none
  z_isinstance : mg "isinstance" = none
  z_len : mg "len" = none
  z_list : mg "list" = none
  z_max : mg "max" = none
  z_min : mg "min" = none
  z_range : mg "range" = none
  z_sorted : mg "sorted" = none
  z_sum : mg "sum" = none
  z_tuple : mg "tuple" = none
  z_ValueError : mg "ValueError" = none
  k_bool_bool : PySem.W.kitOne K (.type "bool") (.type "bool") = some true
  k_bool_int : PySem.W.kitOne K (.type "bool") (.type "int") = some true
  k_bool_str : PySem.W.kitOne K (.type "bool") (.type "str") = some false
  k_bool_list : PySem.W.kitOne K (.type "bool") (.type "list") = some false
  k_bool_tuple : PySem.W.kitOne K (.type "bool") (.type "tuple") = some false
  k_int_bool : PySem.W.kitOne K (.type "int") (.type "bool") = some false
  k_int_int : PySem.W.kitOne K (.type "int") (.type "int") = some true
  k_int_str : PySem.W.kitOne K (.type "int") (.type "str") = some false
  k_int_list : PySem.W.kitOne K (.type "int") (.type "list") = some false
  k_int_tuple : PySem.W.kitOne K (.type "int") (.type "tuple") = some false
  k_str_bool : PySem.W.kitOne K (.type "str") (.type "bool") = some false
  k_str_int : PySem.W.kitOne K (.type "str") (.type "int") = some false
  k_str_str : PySem.W.kitOne K (.type "str") (.type "str") = some true
  k_str_list : PySem.W.kitOne K (.type "str") (.type "list") = some false
  k_str_tuple : PySem.W.kitOne K (.type "str") (.type "tuple") = some false
  k_list_bool : PySem.W.kitOne K (.type "list") (.type "bool") = some false
  k_list_int : PySem.W.kitOne K (.type "list") (.type "int") = some false
  k_list_str : PySem.W.kitOne K (.type "list") (.type "str") = some false
  k_list_list : PySem.W.kitOne K (.type "list") (.type "list") = some true
  k_list_tuple : PySem.W.kitOne K (.type "list") (.type "tuple") = some false
  k_tuple_bool : PySem.W.kitOne K (.type "tuple") (.type "bool") = some false
  k_tuple_int : PySem.W.kitOne K (.type "tuple") (.type "int") = some false
  k_tuple_str : PySem.W.kitOne K (.type "tuple") (.type "str") = some false
  k_tuple_list : PySem.W.kitOne K (.type "tuple") (.type "list") = some false
  k_tuple_tuple : PySem.W.kitOne K (.type "tuple") (.type "tuple") = some true
theorem txt_mk {K : PySem.W.Frag} {h : Heap} {mg : Str → Option Value} (X : K.In h) (G : h.Ns mainGlobals mg)
    {f_wall : Addr} {od0 an0 : Option Addr} {sl0 : Array (Option Value)} {oc0 kV0 dc0 pm0 cd0 ct0 : Value}
    {f_set_count : Addr} {od1 an1 : Option Addr} {sl1 : Array (Option Value)} {oc1 kV1 dc1 pm1 cd1 ct1 : Value}
    {f_holds : Addr} {od2 an2 : Option Addr} {sl2 : Array (Option Value)} {oc2 kV2 dc2 pm2 cd2 ct2 : Value}
    {f_set_of : Addr} {od3 an3 : Option Addr} {sl3 : Array (Option Value)} {oc3 kV3 dc3 pm3 cd3 ct3 : Value}
    {f_place_fewer : Addr} {od4 an4 : Option Addr} {sl4 : Array (Option Value)} {oc4 kV4 dc4 pm4 cd4 ct4 : Value}
    {f_least_before : Addr} {od5 an5 : Option Addr} {sl5 : Array (Option Value)} {oc5 kV5 dc5 pm5 cd5 ct5 : Value}
    {f_leading_out : Addr} {od6 an6 : Option Addr} {sl6 : Array (Option Value)} {oc6 kV6 dc6 pm6 cd6 ct6 : Value}
    {f_neighbours : Addr} {od7 an7 : Option Addr} {sl7 : Array (Option Value)} {oc7 kV7 dc7 pm7 cd7 ct7 : Value}
    {f_is_whole : Addr} {od8 an8 : Option Addr} {sl8 : Array (Option Value)} {oc8 kV8 dc8 pm8 cd8 ct8 : Value}
    {f_is_within : Addr} {od9 an9 : Option Addr} {sl9 : Array (Option Value)} {oc9 kV9 dc9 pm9 cd9 ct9 : Value}
    {f_is_tie : Addr} {od10 an10 : Option Addr} {sl10 : Array (Option Value)} {oc10 kV10 dc10 pm10 cd10 ct10 : Value}
    {f_look_ties : Addr} {od11 an11 : Option Addr} {sl11 : Array (Option Value)} {oc11 kV11 dc11 pm11 cd11 ct11 : Value}
    {f_look_web : Addr} {od12 an12 : Option Addr} {sl12 : Array (Option Value)} {oc12 kV12 dc12 pm12 cd12 ct12 : Value}
    {f_look_kind : Addr} {od13 an13 : Option Addr} {sl13 : Array (Option Value)} {oc13 kV13 dc13 pm13 cd13 ct13 : Value}
    {f_prices : Addr} {od14 an14 : Option Addr} {sl14 : Array (Option Value)} {oc14 kV14 dc14 pm14 cd14 ct14 : Value}
    {f_least_total : Addr} {od15 an15 : Option Addr} {sl15 : Array (Option Value)} {oc15 kV15 dc15 pm15 cd15 ct15 : Value}
    {f_look_asked : Addr} {od16 an16 : Option Addr} {sl16 : Array (Option Value)} {oc16 kV16 dc16 pm16 cd16 ct16 : Value}
    {f_layer_behind : Addr} {od17 an17 : Option Addr} {sl17 : Array (Option Value)} {oc17 kV17 dc17 pm17 cd17 ct17 : Value}
    {f_layers : Addr} {od18 an18 : Option Addr} {sl18 : Array (Option Value)} {oc18 kV18 dc18 pm18 cd18 ct18 : Value}
    {f_rest_of_row : Addr} {od19 an19 : Option Addr} {sl19 : Array (Option Value)} {oc19 kV19 dc19 pm19 cd19 ct19 : Value}
    {f_first_row : Addr} {od20 an20 : Option Addr} {sl20 : Array (Option Value)} {oc20 kV20 dc20 pm20 cd20 ct20 : Value}
    {f_least_most : Addr} {od21 an21 : Option Addr} {sl21 : Array (Option Value)} {oc21 kV21 dc21 pm21 cd21 ct21 : Value}
    {f_bound_to_try : Addr} {od22 an22 : Option Addr} {sl22 : Array (Option Value)} {oc22 kV22 dc22 pm22 cd22 ct22 : Value}
    {f_how_many : Addr} {od23 an23 : Option Addr} {sl23 : Array (Option Value)} {oc23 kV23 dc23 pm23 cd23 ct23 : Value}
    {f_first : Addr} {od24 an24 : Option Addr} {sl24 : Array (Option Value)} {oc24 kV24 dc24 pm24 cd24 ct24 : Value}
    {f_least : Addr} {od25 an25 : Option Addr} {sl25 : Array (Option Value)} {oc25 kV25 dc25 pm25 cd25 ct25 : Value}
    {f_law_cell : Addr} {od26 an26 : Option Addr} {sl26 : Array (Option Value)} {oc26 kV26 dc26 pm26 cd26 ct26 : Value}
    {f_law_mix : Addr} {od27 an27 : Option Addr} {sl27 : Array (Option Value)} {oc27 kV27 dc27 pm27 cd27 ct27 : Value}
    {f_law_whole : Addr} {od28 an28 : Option Addr} {sl28 : Array (Option Value)} {oc28 kV28 dc28 pm28 cd28 ct28 : Value}
    {f_law_web : Addr} {od29 an29 : Option Addr} {sl29 : Array (Option Value)} {oc29 kV29 dc29 pm29 cd29 ct29 : Value}
    {f_law_lengths : Addr} {od30 an30 : Option Addr} {sl30 : Array (Option Value)} {oc30 kV30 dc30 pm30 cd30 ct30 : Value}
    {f_law_gaps : Addr} {od31 an31 : Option Addr} {sl31 : Array (Option Value)} {oc31 kV31 dc31 pm31 cd31 ct31 : Value}
    {f_law_measured : Addr} {od32 an32 : Option Addr} {sl32 : Array (Option Value)} {oc32 kV32 dc32 pm32 cd32 ct32 : Value}
    {f_law_all : Addr} {od33 an33 : Option Addr} {sl33 : Array (Option Value)} {oc33 kV33 dc33 pm33 cd33 ct33 : Value}
    {f_law_refusal : Addr} {od34 an34 : Option Addr} {sl34 : Array (Option Value)} {oc34 kV34 dc34 pm34 cd34 ct34 : Value}
    {f_law_told : Addr} {od35 an35 : Option Addr} {sl35 : Array (Option Value)} {oc35 kV35 dc35 pm35 cd35 ct35 : Value}
    {f_law : Addr} {od36 an36 : Option Addr} {sl36 : Array (Option Value)} {oc36 kV36 dc36 pm36 cd36 ct36 : Value}
    {f_LayError : Addr}
    {f_BadWeb : Addr}
    {cl_BadWeb : ClassData}
    {f_BadOrder : Addr}
    {cl_BadOrder : ClassData}
    {f_BadSpot : Addr}
    {cl_BadSpot : ClassData}
    {f_BadKind : Addr}
    {cl_BadKind : ClassData}
    {f_BadText : Addr}
    {cl_BadText : ClassData}
    {t_MOST_PLACES : Tok}
    {t_MOST_WEIGHT : Tok}
    {t_GREATEST_BOUND : Tok}
    {f_KINDS : Addr} {od_KINDS : Option Addr} {n_KINDS : Nat} {sl_KINDS : Array (Option Value)} {t_KINDS0 t_KINDS1 t_KINDS2 : Tok}
    {f_Walk : Addr}
    {f_Walk_init : Addr} {cod0_0 can0_0 : Option Addr} {csl0_0 : Array (Option Value)} {coc0_0 ckV0_0 cdc0_0 cpm0_0 ccd0_0 cct0_0 : Value}
    {f_Walk_beginning : Addr} {cod0_1 can0_1 : Option Addr} {csl0_1 : Array (Option Value)} {coc0_1 ckV0_1 cdc0_1 cpm0_1 ccd0_1 cct0_1 : Value}
    {f_Walk_last_then : Addr} {cod0_2 can0_2 : Option Addr} {csl0_2 : Array (Option Value)} {coc0_2 ckV0_2 cdc0_2 cpm0_2 ccd0_2 cct0_2 : Value}
    {f_Walk_matters_then : Addr} {cod0_3 can0_3 : Option Addr} {csl0_3 : Array (Option Value)} {coc0_3 ckV0_3 cdc0_3 cpm0_3 ccd0_3 cct0_3 : Value}
    {f_Walk_steps : Addr} {cod0_4 can0_4 : Option Addr} {csl0_4 : Array (Option Value)} {coc0_4 ckV0_4 cdc0_4 cpm0_4 ccd0_4 cct0_4 : Value}
    {f_Walk_may_matter : Addr} {cod0_5 can0_5 : Option Addr} {csl0_5 : Array (Option Value)} {coc0_5 ckV0_5 cdc0_5 cpm0_5 ccd0_5 cct0_5 : Value}
    {f_Walk_may_stand : Addr} {cod0_6 can0_6 : Option Addr} {csl0_6 : Array (Option Value)} {coc0_6 ckV0_6 cdc0_6 cpm0_6 ccd0_6 cct0_6 : Value}
    (a_wall : PySem.W.nsIn K mainGlobals "_wall" = some (some (.ref f_wall))) (l_wall : K.lookup f_wall = some ⟨oc0, od0, .func (PySem.W.fnOf "_wall" "_wall" (defArgs s_wall) (defBody s_wall) (defScope s_wall) .none kV0 dc0 pm0 an0 cd0 ct0), sl0⟩) (c_wall : PySem.W.codeIn K cd0 "_wall" = true) (k_wall : PySem.W.keepIn K (.ref f_wall) = true)
    (a_set_count : PySem.W.nsIn K mainGlobals "set_count" = some (some (.ref f_set_count))) (l_set_count : K.lookup f_set_count = some ⟨oc1, od1, .func (PySem.W.fnOf "set_count" "set_count" (defArgs s_set_count) (defBody s_set_count) (defScope s_set_count) .none kV1 dc1 pm1 an1 cd1 ct1), sl1⟩) (c_set_count : PySem.W.codeIn K cd1 "set_count" = true) (k_set_count : PySem.W.keepIn K (.ref f_set_count) = true)
    (a_holds : PySem.W.nsIn K mainGlobals "holds" = some (some (.ref f_holds))) (l_holds : K.lookup f_holds = some ⟨oc2, od2, .func (PySem.W.fnOf "holds" "holds" (defArgs s_holds) (defBody s_holds) (defScope s_holds) .none kV2 dc2 pm2 an2 cd2 ct2), sl2⟩) (c_holds : PySem.W.codeIn K cd2 "holds" = true) (k_holds : PySem.W.keepIn K (.ref f_holds) = true)
    (a_set_of : PySem.W.nsIn K mainGlobals "set_of" = some (some (.ref f_set_of))) (l_set_of : K.lookup f_set_of = some ⟨oc3, od3, .func (PySem.W.fnOf "set_of" "set_of" (defArgs s_set_of) (defBody s_set_of) (defScope s_set_of) .none kV3 dc3 pm3 an3 cd3 ct3), sl3⟩) (c_set_of : PySem.W.codeIn K cd3 "set_of" = true) (k_set_of : PySem.W.keepIn K (.ref f_set_of) = true)
    (a_place_fewer : PySem.W.nsIn K mainGlobals "place_fewer" = some (some (.ref f_place_fewer))) (l_place_fewer : K.lookup f_place_fewer = some ⟨oc4, od4, .func (PySem.W.fnOf "place_fewer" "place_fewer" (defArgs s_place_fewer) (defBody s_place_fewer) (defScope s_place_fewer) .none kV4 dc4 pm4 an4 cd4 ct4), sl4⟩) (c_place_fewer : PySem.W.codeIn K cd4 "place_fewer" = true) (k_place_fewer : PySem.W.keepIn K (.ref f_place_fewer) = true)
    (a_least_before : PySem.W.nsIn K mainGlobals "least_before" = some (some (.ref f_least_before))) (l_least_before : K.lookup f_least_before = some ⟨oc5, od5, .func (PySem.W.fnOf "least_before" "least_before" (defArgs s_least_before) (defBody s_least_before) (defScope s_least_before) .none kV5 dc5 pm5 an5 cd5 ct5), sl5⟩) (c_least_before : PySem.W.codeIn K cd5 "least_before" = true) (k_least_before : PySem.W.keepIn K (.ref f_least_before) = true)
    (a_leading_out : PySem.W.nsIn K mainGlobals "leading_out" = some (some (.ref f_leading_out))) (l_leading_out : K.lookup f_leading_out = some ⟨oc6, od6, .func (PySem.W.fnOf "leading_out" "leading_out" (defArgs s_leading_out) (defBody s_leading_out) (defScope s_leading_out) .none kV6 dc6 pm6 an6 cd6 ct6), sl6⟩) (c_leading_out : PySem.W.codeIn K cd6 "leading_out" = true) (k_leading_out : PySem.W.keepIn K (.ref f_leading_out) = true)
    (a_neighbours : PySem.W.nsIn K mainGlobals "neighbours" = some (some (.ref f_neighbours))) (l_neighbours : K.lookup f_neighbours = some ⟨oc7, od7, .func (PySem.W.fnOf "neighbours" "neighbours" (defArgs s_neighbours) (defBody s_neighbours) (defScope s_neighbours) .none kV7 dc7 pm7 an7 cd7 ct7), sl7⟩) (c_neighbours : PySem.W.codeIn K cd7 "neighbours" = true) (k_neighbours : PySem.W.keepIn K (.ref f_neighbours) = true)
    (a_is_whole : PySem.W.nsIn K mainGlobals "is_whole" = some (some (.ref f_is_whole))) (l_is_whole : K.lookup f_is_whole = some ⟨oc8, od8, .func (PySem.W.fnOf "is_whole" "is_whole" (defArgs s_is_whole) (defBody s_is_whole) (defScope s_is_whole) .none kV8 dc8 pm8 an8 cd8 ct8), sl8⟩) (c_is_whole : PySem.W.codeIn K cd8 "is_whole" = true) (k_is_whole : PySem.W.keepIn K (.ref f_is_whole) = true)
    (a_is_within : PySem.W.nsIn K mainGlobals "is_within" = some (some (.ref f_is_within))) (l_is_within : K.lookup f_is_within = some ⟨oc9, od9, .func (PySem.W.fnOf "is_within" "is_within" (defArgs s_is_within) (defBody s_is_within) (defScope s_is_within) .none kV9 dc9 pm9 an9 cd9 ct9), sl9⟩) (c_is_within : PySem.W.codeIn K cd9 "is_within" = true) (k_is_within : PySem.W.keepIn K (.ref f_is_within) = true)
    (a_is_tie : PySem.W.nsIn K mainGlobals "is_tie" = some (some (.ref f_is_tie))) (l_is_tie : K.lookup f_is_tie = some ⟨oc10, od10, .func (PySem.W.fnOf "is_tie" "is_tie" (defArgs s_is_tie) (defBody s_is_tie) (defScope s_is_tie) .none kV10 dc10 pm10 an10 cd10 ct10), sl10⟩) (c_is_tie : PySem.W.codeIn K cd10 "is_tie" = true) (k_is_tie : PySem.W.keepIn K (.ref f_is_tie) = true)
    (a_look_ties : PySem.W.nsIn K mainGlobals "look_ties" = some (some (.ref f_look_ties))) (l_look_ties : K.lookup f_look_ties = some ⟨oc11, od11, .func (PySem.W.fnOf "look_ties" "look_ties" (defArgs s_look_ties) (defBody s_look_ties) (defScope s_look_ties) .none kV11 dc11 pm11 an11 cd11 ct11), sl11⟩) (c_look_ties : PySem.W.codeIn K cd11 "look_ties" = true) (k_look_ties : PySem.W.keepIn K (.ref f_look_ties) = true)
    (a_look_web : PySem.W.nsIn K mainGlobals "look_web" = some (some (.ref f_look_web))) (l_look_web : K.lookup f_look_web = some ⟨oc12, od12, .func (PySem.W.fnOf "look_web" "look_web" (defArgs s_look_web) (defBody s_look_web) (defScope s_look_web) .none kV12 dc12 pm12 an12 cd12 ct12), sl12⟩) (c_look_web : PySem.W.codeIn K cd12 "look_web" = true) (k_look_web : PySem.W.keepIn K (.ref f_look_web) = true)
    (a_look_kind : PySem.W.nsIn K mainGlobals "look_kind" = some (some (.ref f_look_kind))) (l_look_kind : K.lookup f_look_kind = some ⟨oc13, od13, .func (PySem.W.fnOf "look_kind" "look_kind" (defArgs s_look_kind) (defBody s_look_kind) (defScope s_look_kind) .none kV13 dc13 pm13 an13 cd13 ct13), sl13⟩) (c_look_kind : PySem.W.codeIn K cd13 "look_kind" = true) (k_look_kind : PySem.W.keepIn K (.ref f_look_kind) = true)
    (a_prices : PySem.W.nsIn K mainGlobals "prices" = some (some (.ref f_prices))) (l_prices : K.lookup f_prices = some ⟨oc14, od14, .func (PySem.W.fnOf "prices" "prices" (defArgs s_prices) (defBody s_prices) (defScope s_prices) .none kV14 dc14 pm14 an14 cd14 ct14), sl14⟩) (c_prices : PySem.W.codeIn K cd14 "prices" = true) (k_prices : PySem.W.keepIn K (.ref f_prices) = true)
    (a_least_total : PySem.W.nsIn K mainGlobals "least_total" = some (some (.ref f_least_total))) (l_least_total : K.lookup f_least_total = some ⟨oc15, od15, .func (PySem.W.fnOf "least_total" "least_total" (defArgs s_least_total) (defBody s_least_total) (defScope s_least_total) .none kV15 dc15 pm15 an15 cd15 ct15), sl15⟩) (c_least_total : PySem.W.codeIn K cd15 "least_total" = true) (k_least_total : PySem.W.keepIn K (.ref f_least_total) = true)
    (a_look_asked : PySem.W.nsIn K mainGlobals "look_asked" = some (some (.ref f_look_asked))) (l_look_asked : K.lookup f_look_asked = some ⟨oc16, od16, .func (PySem.W.fnOf "look_asked" "look_asked" (defArgs s_look_asked) (defBody s_look_asked) (defScope s_look_asked) .none kV16 dc16 pm16 an16 cd16 ct16), sl16⟩) (c_look_asked : PySem.W.codeIn K cd16 "look_asked" = true) (k_look_asked : PySem.W.keepIn K (.ref f_look_asked) = true)
    (a_layer_behind : PySem.W.nsIn K mainGlobals "layer_behind" = some (some (.ref f_layer_behind))) (l_layer_behind : K.lookup f_layer_behind = some ⟨oc17, od17, .func (PySem.W.fnOf "layer_behind" "layer_behind" (defArgs s_layer_behind) (defBody s_layer_behind) (defScope s_layer_behind) .none kV17 dc17 pm17 an17 cd17 ct17), sl17⟩) (c_layer_behind : PySem.W.codeIn K cd17 "layer_behind" = true) (k_layer_behind : PySem.W.keepIn K (.ref f_layer_behind) = true)
    (a_layers : PySem.W.nsIn K mainGlobals "layers" = some (some (.ref f_layers))) (l_layers : K.lookup f_layers = some ⟨oc18, od18, .func (PySem.W.fnOf "layers" "layers" (defArgs s_layers) (defBody s_layers) (defScope s_layers) .none kV18 dc18 pm18 an18 cd18 ct18), sl18⟩) (c_layers : PySem.W.codeIn K cd18 "layers" = true) (k_layers : PySem.W.keepIn K (.ref f_layers) = true)
    (a_rest_of_row : PySem.W.nsIn K mainGlobals "rest_of_row" = some (some (.ref f_rest_of_row))) (l_rest_of_row : K.lookup f_rest_of_row = some ⟨oc19, od19, .func (PySem.W.fnOf "rest_of_row" "rest_of_row" (defArgs s_rest_of_row) (defBody s_rest_of_row) (defScope s_rest_of_row) .none kV19 dc19 pm19 an19 cd19 ct19), sl19⟩) (c_rest_of_row : PySem.W.codeIn K cd19 "rest_of_row" = true) (k_rest_of_row : PySem.W.keepIn K (.ref f_rest_of_row) = true)
    (a_first_row : PySem.W.nsIn K mainGlobals "first_row" = some (some (.ref f_first_row))) (l_first_row : K.lookup f_first_row = some ⟨oc20, od20, .func (PySem.W.fnOf "first_row" "first_row" (defArgs s_first_row) (defBody s_first_row) (defScope s_first_row) .none kV20 dc20 pm20 an20 cd20 ct20), sl20⟩) (c_first_row : PySem.W.codeIn K cd20 "first_row" = true) (k_first_row : PySem.W.keepIn K (.ref f_first_row) = true)
    (a_least_most : PySem.W.nsIn K mainGlobals "least_most" = some (some (.ref f_least_most))) (l_least_most : K.lookup f_least_most = some ⟨oc21, od21, .func (PySem.W.fnOf "least_most" "least_most" (defArgs s_least_most) (defBody s_least_most) (defScope s_least_most) .none kV21 dc21 pm21 an21 cd21 ct21), sl21⟩) (c_least_most : PySem.W.codeIn K cd21 "least_most" = true) (k_least_most : PySem.W.keepIn K (.ref f_least_most) = true)
    (a_bound_to_try : PySem.W.nsIn K mainGlobals "bound_to_try" = some (some (.ref f_bound_to_try))) (l_bound_to_try : K.lookup f_bound_to_try = some ⟨oc22, od22, .func (PySem.W.fnOf "bound_to_try" "bound_to_try" (defArgs s_bound_to_try) (defBody s_bound_to_try) (defScope s_bound_to_try) .none kV22 dc22 pm22 an22 cd22 ct22), sl22⟩) (c_bound_to_try : PySem.W.codeIn K cd22 "bound_to_try" = true) (k_bound_to_try : PySem.W.keepIn K (.ref f_bound_to_try) = true)
    (a_how_many : PySem.W.nsIn K mainGlobals "how_many" = some (some (.ref f_how_many))) (l_how_many : K.lookup f_how_many = some ⟨oc23, od23, .func (PySem.W.fnOf "how_many" "how_many" (defArgs s_how_many) (defBody s_how_many) (defScope s_how_many) .none kV23 dc23 pm23 an23 cd23 ct23), sl23⟩) (c_how_many : PySem.W.codeIn K cd23 "how_many" = true) (k_how_many : PySem.W.keepIn K (.ref f_how_many) = true)
    (a_first : PySem.W.nsIn K mainGlobals "first" = some (some (.ref f_first))) (l_first : K.lookup f_first = some ⟨oc24, od24, .func (PySem.W.fnOf "first" "first" (defArgs s_first) (defBody s_first) (defScope s_first) .none kV24 dc24 pm24 an24 cd24 ct24), sl24⟩) (c_first : PySem.W.codeIn K cd24 "first" = true) (k_first : PySem.W.keepIn K (.ref f_first) = true)
    (a_least : PySem.W.nsIn K mainGlobals "least" = some (some (.ref f_least))) (l_least : K.lookup f_least = some ⟨oc25, od25, .func (PySem.W.fnOf "least" "least" (defArgs s_least) (defBody s_least) (defScope s_least) .none kV25 dc25 pm25 an25 cd25 ct25), sl25⟩) (c_least : PySem.W.codeIn K cd25 "least" = true) (k_least : PySem.W.keepIn K (.ref f_least) = true)
    (a_law_cell : PySem.W.nsIn K mainGlobals "_law_cell" = some (some (.ref f_law_cell))) (l_law_cell : K.lookup f_law_cell = some ⟨oc26, od26, .func (PySem.W.fnOf "_law_cell" "_law_cell" (defArgs s_law_cell) (defBody s_law_cell) (defScope s_law_cell) .none kV26 dc26 pm26 an26 cd26 ct26), sl26⟩) (c_law_cell : PySem.W.codeIn K cd26 "_law_cell" = true) (k_law_cell : PySem.W.keepIn K (.ref f_law_cell) = true)
    (a_law_mix : PySem.W.nsIn K mainGlobals "_law_mix" = some (some (.ref f_law_mix))) (l_law_mix : K.lookup f_law_mix = some ⟨oc27, od27, .func (PySem.W.fnOf "_law_mix" "_law_mix" (defArgs s_law_mix) (defBody s_law_mix) (defScope s_law_mix) .none kV27 dc27 pm27 an27 cd27 ct27), sl27⟩) (c_law_mix : PySem.W.codeIn K cd27 "_law_mix" = true) (k_law_mix : PySem.W.keepIn K (.ref f_law_mix) = true)
    (a_law_whole : PySem.W.nsIn K mainGlobals "_law_whole" = some (some (.ref f_law_whole))) (l_law_whole : K.lookup f_law_whole = some ⟨oc28, od28, .func (PySem.W.fnOf "_law_whole" "_law_whole" (defArgs s_law_whole) (defBody s_law_whole) (defScope s_law_whole) .none kV28 dc28 pm28 an28 cd28 ct28), sl28⟩) (c_law_whole : PySem.W.codeIn K cd28 "_law_whole" = true) (k_law_whole : PySem.W.keepIn K (.ref f_law_whole) = true)
    (a_law_web : PySem.W.nsIn K mainGlobals "_law_web" = some (some (.ref f_law_web))) (l_law_web : K.lookup f_law_web = some ⟨oc29, od29, .func (PySem.W.fnOf "_law_web" "_law_web" (defArgs s_law_web) (defBody s_law_web) (defScope s_law_web) .none kV29 dc29 pm29 an29 cd29 ct29), sl29⟩) (c_law_web : PySem.W.codeIn K cd29 "_law_web" = true) (k_law_web : PySem.W.keepIn K (.ref f_law_web) = true)
    (a_law_lengths : PySem.W.nsIn K mainGlobals "_law_lengths" = some (some (.ref f_law_lengths))) (l_law_lengths : K.lookup f_law_lengths = some ⟨oc30, od30, .func (PySem.W.fnOf "_law_lengths" "_law_lengths" (defArgs s_law_lengths) (defBody s_law_lengths) (defScope s_law_lengths) .none kV30 dc30 pm30 an30 cd30 ct30), sl30⟩) (c_law_lengths : PySem.W.codeIn K cd30 "_law_lengths" = true) (k_law_lengths : PySem.W.keepIn K (.ref f_law_lengths) = true)
    (a_law_gaps : PySem.W.nsIn K mainGlobals "_law_gaps" = some (some (.ref f_law_gaps))) (l_law_gaps : K.lookup f_law_gaps = some ⟨oc31, od31, .func (PySem.W.fnOf "_law_gaps" "_law_gaps" (defArgs s_law_gaps) (defBody s_law_gaps) (defScope s_law_gaps) .none kV31 dc31 pm31 an31 cd31 ct31), sl31⟩) (c_law_gaps : PySem.W.codeIn K cd31 "_law_gaps" = true) (k_law_gaps : PySem.W.keepIn K (.ref f_law_gaps) = true)
    (a_law_measured : PySem.W.nsIn K mainGlobals "_law_measured" = some (some (.ref f_law_measured))) (l_law_measured : K.lookup f_law_measured = some ⟨oc32, od32, .func (PySem.W.fnOf "_law_measured" "_law_measured" (defArgs s_law_measured) (defBody s_law_measured) (defScope s_law_measured) .none kV32 dc32 pm32 an32 cd32 ct32), sl32⟩) (c_law_measured : PySem.W.codeIn K cd32 "_law_measured" = true) (k_law_measured : PySem.W.keepIn K (.ref f_law_measured) = true)
    (a_law_all : PySem.W.nsIn K mainGlobals "_law_all" = some (some (.ref f_law_all))) (l_law_all : K.lookup f_law_all = some ⟨oc33, od33, .func (PySem.W.fnOf "_law_all" "_law_all" (defArgs s_law_all) (defBody s_law_all) (defScope s_law_all) .none kV33 dc33 pm33 an33 cd33 ct33), sl33⟩) (c_law_all : PySem.W.codeIn K cd33 "_law_all" = true) (k_law_all : PySem.W.keepIn K (.ref f_law_all) = true)
    (a_law_refusal : PySem.W.nsIn K mainGlobals "_law_refusal" = some (some (.ref f_law_refusal))) (l_law_refusal : K.lookup f_law_refusal = some ⟨oc34, od34, .func (PySem.W.fnOf "_law_refusal" "_law_refusal" (defArgs s_law_refusal) (defBody s_law_refusal) (defScope s_law_refusal) .none kV34 dc34 pm34 an34 cd34 ct34), sl34⟩) (c_law_refusal : PySem.W.codeIn K cd34 "_law_refusal" = true) (k_law_refusal : PySem.W.keepIn K (.ref f_law_refusal) = true)
    (a_law_told : PySem.W.nsIn K mainGlobals "_law_told" = some (some (.ref f_law_told))) (l_law_told : K.lookup f_law_told = some ⟨oc35, od35, .func (PySem.W.fnOf "_law_told" "_law_told" (defArgs s_law_told) (defBody s_law_told) (defScope s_law_told) .none kV35 dc35 pm35 an35 cd35 ct35), sl35⟩) (c_law_told : PySem.W.codeIn K cd35 "_law_told" = true) (k_law_told : PySem.W.keepIn K (.ref f_law_told) = true)
    (a_law : PySem.W.nsIn K mainGlobals "law" = some (some (.ref f_law))) (l_law : K.lookup f_law = some ⟨oc36, od36, .func (PySem.W.fnOf "law" "law" (defArgs s_law) (defBody s_law) (defScope s_law) .none kV36 dc36 pm36 an36 cd36 ct36), sl36⟩) (c_law : PySem.W.codeIn K cd36 "law" = true) (k_law : PySem.W.keepIn K (.ref f_law) = true)
    (a_LayError : PySem.W.nsIn K mainGlobals "LayError" = some (some (.ref f_LayError))) (x_LayError : PySem.W.excIn K f_LayError bmV "ValueError.__new__" = true)
    (a_BadWeb : PySem.W.nsIn K mainGlobals "BadWeb" = some (some (.ref f_BadWeb))) (x_BadWeb : PySem.W.excIn K f_BadWeb bmV "ValueError.__new__" = true)
    (e1_BadWeb : PySem.W.findIn K (.ref f_BadWeb) "__getattribute__" = some (some (.builtin "BaseException.__getattribute__"))) (e2_BadWeb : PySem.W.findIn K (.ref f_BadWeb) "__getattr__" = some none) (e3_BadWeb : PySem.W.findIn K (.ref f_BadWeb) "__class__" = some (some (.builtin "object.__class__")))
    (e4_BadWeb : PySem.W.mroIn K f_BadWeb (.type "object") = some true) (e5_BadWeb : PySem.W.mroIn K f_BadWeb (.type "BaseException") = some true) (e6_BadWeb : PySem.W.clsIn K f_BadWeb = some cl_BadWeb) (s_BadWeb : PySem.W.mroIn K f_BadWeb (.ref f_LayError) = some true) (v_BadWeb : PySem.W.kitOne K (.ref f_BadWeb) (.type "ValueError") = some true)
    (a_BadOrder : PySem.W.nsIn K mainGlobals "BadOrder" = some (some (.ref f_BadOrder))) (x_BadOrder : PySem.W.excIn K f_BadOrder bmV "ValueError.__new__" = true)
    (e1_BadOrder : PySem.W.findIn K (.ref f_BadOrder) "__getattribute__" = some (some (.builtin "BaseException.__getattribute__"))) (e2_BadOrder : PySem.W.findIn K (.ref f_BadOrder) "__getattr__" = some none) (e3_BadOrder : PySem.W.findIn K (.ref f_BadOrder) "__class__" = some (some (.builtin "object.__class__")))
    (e4_BadOrder : PySem.W.mroIn K f_BadOrder (.type "object") = some true) (e5_BadOrder : PySem.W.mroIn K f_BadOrder (.type "BaseException") = some true) (e6_BadOrder : PySem.W.clsIn K f_BadOrder = some cl_BadOrder) (s_BadOrder : PySem.W.mroIn K f_BadOrder (.ref f_LayError) = some true) (v_BadOrder : PySem.W.kitOne K (.ref f_BadOrder) (.type "ValueError") = some true)
    (a_BadSpot : PySem.W.nsIn K mainGlobals "BadSpot" = some (some (.ref f_BadSpot))) (x_BadSpot : PySem.W.excIn K f_BadSpot bmV "ValueError.__new__" = true)
    (e1_BadSpot : PySem.W.findIn K (.ref f_BadSpot) "__getattribute__" = some (some (.builtin "BaseException.__getattribute__"))) (e2_BadSpot : PySem.W.findIn K (.ref f_BadSpot) "__getattr__" = some none) (e3_BadSpot : PySem.W.findIn K (.ref f_BadSpot) "__class__" = some (some (.builtin "object.__class__")))
    (e4_BadSpot : PySem.W.mroIn K f_BadSpot (.type "object") = some true) (e5_BadSpot : PySem.W.mroIn K f_BadSpot (.type "BaseException") = some true) (e6_BadSpot : PySem.W.clsIn K f_BadSpot = some cl_BadSpot) (s_BadSpot : PySem.W.mroIn K f_BadSpot (.ref f_LayError) = some true) (v_BadSpot : PySem.W.kitOne K (.ref f_BadSpot) (.type "ValueError") = some true)
    (a_BadKind : PySem.W.nsIn K mainGlobals "BadKind" = some (some (.ref f_BadKind))) (x_BadKind : PySem.W.excIn K f_BadKind bmV "ValueError.__new__" = true)
    (e1_BadKind : PySem.W.findIn K (.ref f_BadKind) "__getattribute__" = some (some (.builtin "BaseException.__getattribute__"))) (e2_BadKind : PySem.W.findIn K (.ref f_BadKind) "__getattr__" = some none) (e3_BadKind : PySem.W.findIn K (.ref f_BadKind) "__class__" = some (some (.builtin "object.__class__")))
    (e4_BadKind : PySem.W.mroIn K f_BadKind (.type "object") = some true) (e5_BadKind : PySem.W.mroIn K f_BadKind (.type "BaseException") = some true) (e6_BadKind : PySem.W.clsIn K f_BadKind = some cl_BadKind) (s_BadKind : PySem.W.mroIn K f_BadKind (.ref f_LayError) = some true) (v_BadKind : PySem.W.kitOne K (.ref f_BadKind) (.type "ValueError") = some true)
    (a_BadText : PySem.W.nsIn K mainGlobals "BadText" = some (some (.ref f_BadText))) (x_BadText : PySem.W.excIn K f_BadText bmV "ValueError.__new__" = true)
    (e1_BadText : PySem.W.findIn K (.ref f_BadText) "__getattribute__" = some (some (.builtin "BaseException.__getattribute__"))) (e2_BadText : PySem.W.findIn K (.ref f_BadText) "__getattr__" = some none) (e3_BadText : PySem.W.findIn K (.ref f_BadText) "__class__" = some (some (.builtin "object.__class__")))
    (e4_BadText : PySem.W.mroIn K f_BadText (.type "object") = some true) (e5_BadText : PySem.W.mroIn K f_BadText (.type "BaseException") = some true) (e6_BadText : PySem.W.clsIn K f_BadText = some cl_BadText) (s_BadText : PySem.W.mroIn K f_BadText (.ref f_LayError) = some true) (v_BadText : PySem.W.kitOne K (.ref f_BadText) (.type "ValueError") = some true)
    (i_BadWeb_BadWeb : PySem.W.kitOne K (.ref f_BadWeb) (.ref f_BadWeb) = some true)
    (i_BadWeb_BadOrder : PySem.W.kitOne K (.ref f_BadWeb) (.ref f_BadOrder) = some false)
    (i_BadWeb_BadSpot : PySem.W.kitOne K (.ref f_BadWeb) (.ref f_BadSpot) = some false)
    (i_BadWeb_BadKind : PySem.W.kitOne K (.ref f_BadWeb) (.ref f_BadKind) = some false)
    (i_BadWeb_BadText : PySem.W.kitOne K (.ref f_BadWeb) (.ref f_BadText) = some false)
    (i_BadOrder_BadWeb : PySem.W.kitOne K (.ref f_BadOrder) (.ref f_BadWeb) = some false)
    (i_BadOrder_BadOrder : PySem.W.kitOne K (.ref f_BadOrder) (.ref f_BadOrder) = some true)
    (i_BadOrder_BadSpot : PySem.W.kitOne K (.ref f_BadOrder) (.ref f_BadSpot) = some false)
    (i_BadOrder_BadKind : PySem.W.kitOne K (.ref f_BadOrder) (.ref f_BadKind) = some false)
    (i_BadOrder_BadText : PySem.W.kitOne K (.ref f_BadOrder) (.ref f_BadText) = some false)
    (i_BadSpot_BadWeb : PySem.W.kitOne K (.ref f_BadSpot) (.ref f_BadWeb) = some false)
    (i_BadSpot_BadOrder : PySem.W.kitOne K (.ref f_BadSpot) (.ref f_BadOrder) = some false)
    (i_BadSpot_BadSpot : PySem.W.kitOne K (.ref f_BadSpot) (.ref f_BadSpot) = some true)
    (i_BadSpot_BadKind : PySem.W.kitOne K (.ref f_BadSpot) (.ref f_BadKind) = some false)
    (i_BadSpot_BadText : PySem.W.kitOne K (.ref f_BadSpot) (.ref f_BadText) = some false)
    (i_BadKind_BadWeb : PySem.W.kitOne K (.ref f_BadKind) (.ref f_BadWeb) = some false)
    (i_BadKind_BadOrder : PySem.W.kitOne K (.ref f_BadKind) (.ref f_BadOrder) = some false)
    (i_BadKind_BadSpot : PySem.W.kitOne K (.ref f_BadKind) (.ref f_BadSpot) = some false)
    (i_BadKind_BadKind : PySem.W.kitOne K (.ref f_BadKind) (.ref f_BadKind) = some true)
    (i_BadKind_BadText : PySem.W.kitOne K (.ref f_BadKind) (.ref f_BadText) = some false)
    (i_BadText_BadWeb : PySem.W.kitOne K (.ref f_BadText) (.ref f_BadWeb) = some false)
    (i_BadText_BadOrder : PySem.W.kitOne K (.ref f_BadText) (.ref f_BadOrder) = some false)
    (i_BadText_BadSpot : PySem.W.kitOne K (.ref f_BadText) (.ref f_BadSpot) = some false)
    (i_BadText_BadKind : PySem.W.kitOne K (.ref f_BadText) (.ref f_BadKind) = some false)
    (i_BadText_BadText : PySem.W.kitOne K (.ref f_BadText) (.ref f_BadText) = some true)
    (g_MOST_PLACES : PySem.W.nsIn K mainGlobals "MOST_PLACES" = some (some (.int 8 t_MOST_PLACES)))
    (g_MOST_WEIGHT : PySem.W.nsIn K mainGlobals "MOST_WEIGHT" = some (some (.int 100 t_MOST_WEIGHT)))
    (g_GREATEST_BOUND : PySem.W.nsIn K mainGlobals "GREATEST_BOUND" = some (some (.int 1000000 t_GREATEST_BOUND)))
    (a_KINDS : PySem.W.nsIn K mainGlobals "KINDS" = some (some (.ref f_KINDS))) (l_KINDS : K.lookup f_KINDS = some ⟨.type "tuple", od_KINDS, .seq #[.str "longest" t_KINDS0, .str "most" t_KINDS1, .str "total" t_KINDS2] n_KINDS, sl_KINDS⟩)
    (a_Walk : PySem.W.nsIn K mainGlobals "Walk" = some (some (.ref f_Walk)))
    (a_Walk_init : PySem.W.findIn K (.ref f_Walk) "__init__" = some (some (.ref f_Walk_init))) (i_Walk_init : PySem.W.isFn K (.ref f_Walk_init) = true) (l_Walk_init : K.lookup f_Walk_init = some ⟨coc0_0, cod0_0, .func (PySem.W.fnOf "__init__" "Walk.__init__" (defArgs s_Walk_init) (defBody s_Walk_init) (defScope s_Walk_init) .none ckV0_0 cdc0_0 cpm0_0 can0_0 ccd0_0 cct0_0), csl0_0⟩) (c_Walk_init : PySem.W.codeIn K ccd0_0 "Walk.__init__" = true) (k_Walk_init : PySem.W.keepIn K (.ref f_Walk_init) = true)
    (a_Walk_beginning : PySem.W.findIn K (.ref f_Walk) "beginning" = some (some (.ref f_Walk_beginning))) (i_Walk_beginning : PySem.W.isFn K (.ref f_Walk_beginning) = true) (l_Walk_beginning : K.lookup f_Walk_beginning = some ⟨coc0_1, cod0_1, .func (PySem.W.fnOf "beginning" "Walk.beginning" (defArgs s_Walk_beginning) (defBody s_Walk_beginning) (defScope s_Walk_beginning) .none ckV0_1 cdc0_1 cpm0_1 can0_1 ccd0_1 cct0_1), csl0_1⟩) (c_Walk_beginning : PySem.W.codeIn K ccd0_1 "Walk.beginning" = true) (k_Walk_beginning : PySem.W.keepIn K (.ref f_Walk_beginning) = true)
    (a_Walk_last_then : PySem.W.findIn K (.ref f_Walk) "last_then" = some (some (.ref f_Walk_last_then))) (i_Walk_last_then : PySem.W.isFn K (.ref f_Walk_last_then) = true) (l_Walk_last_then : K.lookup f_Walk_last_then = some ⟨coc0_2, cod0_2, .func (PySem.W.fnOf "last_then" "Walk.last_then" (defArgs s_Walk_last_then) (defBody s_Walk_last_then) (defScope s_Walk_last_then) .none ckV0_2 cdc0_2 cpm0_2 can0_2 ccd0_2 cct0_2), csl0_2⟩) (c_Walk_last_then : PySem.W.codeIn K ccd0_2 "Walk.last_then" = true) (k_Walk_last_then : PySem.W.keepIn K (.ref f_Walk_last_then) = true)
    (a_Walk_matters_then : PySem.W.findIn K (.ref f_Walk) "matters_then" = some (some (.ref f_Walk_matters_then))) (i_Walk_matters_then : PySem.W.isFn K (.ref f_Walk_matters_then) = true) (l_Walk_matters_then : K.lookup f_Walk_matters_then = some ⟨coc0_3, cod0_3, .func (PySem.W.fnOf "matters_then" "Walk.matters_then" (defArgs s_Walk_matters_then) (defBody s_Walk_matters_then) (defScope s_Walk_matters_then) .none ckV0_3 cdc0_3 cpm0_3 can0_3 ccd0_3 cct0_3), csl0_3⟩) (c_Walk_matters_then : PySem.W.codeIn K ccd0_3 "Walk.matters_then" = true) (k_Walk_matters_then : PySem.W.keepIn K (.ref f_Walk_matters_then) = true)
    (a_Walk_steps : PySem.W.findIn K (.ref f_Walk) "steps" = some (some (.ref f_Walk_steps))) (i_Walk_steps : PySem.W.isFn K (.ref f_Walk_steps) = true) (l_Walk_steps : K.lookup f_Walk_steps = some ⟨coc0_4, cod0_4, .func (PySem.W.fnOf "steps" "Walk.steps" (defArgs s_Walk_steps) (defBody s_Walk_steps) (defScope s_Walk_steps) .none ckV0_4 cdc0_4 cpm0_4 can0_4 ccd0_4 cct0_4), csl0_4⟩) (c_Walk_steps : PySem.W.codeIn K ccd0_4 "Walk.steps" = true) (k_Walk_steps : PySem.W.keepIn K (.ref f_Walk_steps) = true)
    (a_Walk_may_matter : PySem.W.findIn K (.ref f_Walk) "may_matter" = some (some (.ref f_Walk_may_matter))) (i_Walk_may_matter : PySem.W.isFn K (.ref f_Walk_may_matter) = true) (l_Walk_may_matter : K.lookup f_Walk_may_matter = some ⟨coc0_5, cod0_5, .func (PySem.W.fnOf "may_matter" "Walk.may_matter" (defArgs s_Walk_may_matter) (defBody s_Walk_may_matter) (defScope s_Walk_may_matter) .none ckV0_5 cdc0_5 cpm0_5 can0_5 ccd0_5 cct0_5), csl0_5⟩) (c_Walk_may_matter : PySem.W.codeIn K ccd0_5 "Walk.may_matter" = true) (k_Walk_may_matter : PySem.W.keepIn K (.ref f_Walk_may_matter) = true)
    (a_Walk_may_stand : PySem.W.findIn K (.ref f_Walk) "may_stand" = some (some (.ref f_Walk_may_stand))) (i_Walk_may_stand : PySem.W.isFn K (.ref f_Walk_may_stand) = true) (l_Walk_may_stand : K.lookup f_Walk_may_stand = some ⟨coc0_6, cod0_6, .func (PySem.W.fnOf "may_stand" "Walk.may_stand" (defArgs s_Walk_may_stand) (defBody s_Walk_may_stand) (defScope s_Walk_may_stand) .none ckV0_6 cdc0_6 cpm0_6 can0_6 ccd0_6 cct0_6), csl0_6⟩) (c_Walk_may_stand : PySem.W.codeIn K ccd0_6 "Walk.may_stand" = true) (k_Walk_may_stand : PySem.W.keepIn K (.ref f_Walk_may_stand) = true)
    (pg_Walk : PySem.W.plainGet K f_Walk Str.empty = true) (hd_Walk : PySem.W.hasDictIn K f_Walk = true) (po_Walk : PySem.W.plainOver K f_Walk = true) (sa_Walk : PySem.W.findIn K (.ref f_Walk) "__setattr__" = some (some (.builtin "object.__setattr__"))) (mk_Walk : PySem.W.makesIn K f_Walk = true) (kc_Walk : PySem.W.keepIn K (.ref f_Walk) = true)
    (n_Walk_bound : PySem.W.findIn K (.ref f_Walk) "bound" = some none)
    (n_Walk_every : PySem.W.findIn K (.ref f_Walk) "every" = some none)
    (n_Walk_kind : PySem.W.findIn K (.ref f_Walk) "kind" = some none)
    (n_Walk_out : PySem.W.findIn K (.ref f_Walk) "out" = some none)
    (n_Walk_places : PySem.W.findIn K (.ref f_Walk) "places" = some none)
    (n_Walk_tied : PySem.W.findIn K (.ref f_Walk) "tied" = some none)
    (z_abs : PySem.W.nsIn K mainGlobals "abs" = some none)
    (z_bool : PySem.W.nsIn K mainGlobals "bool" = some none)
    (z_int : PySem.W.nsIn K mainGlobals "int" = some none)
    (z_isinstance : PySem.W.nsIn K mainGlobals "isinstance" = some none)
    (z_len : PySem.W.nsIn K mainGlobals "len" = some none)
    (z_list : PySem.W.nsIn K mainGlobals "list" = some none)
    (z_max : PySem.W.nsIn K mainGlobals "max" = some none)
    (z_min : PySem.W.nsIn K mainGlobals "min" = some none)
    (z_range : PySem.W.nsIn K mainGlobals "range" = some none)
    (z_sorted : PySem.W.nsIn K mainGlobals "sorted" = some none)
    (z_sum : PySem.W.nsIn K mainGlobals "sum" = some none)
    (z_tuple : PySem.W.nsIn K mainGlobals "tuple" = some none)
    (z_ValueError : PySem.W.nsIn K mainGlobals "ValueError" = some none)
    (k_bool_bool : PySem.W.kitOne K (.type "bool") (.type "bool") = some true)
    (k_bool_int : PySem.W.kitOne K (.type "bool") (.type "int") = some true)
    (k_bool_str : PySem.W.kitOne K (.type "bool") (.type "str") = some false)
    (k_bool_list : PySem.W.kitOne K (.type "bool") (.type "list") = some false)
    (k_bool_tuple : PySem.W.kitOne K (.type "bool") (.type "tuple") = some false)
    (k_int_bool : PySem.W.kitOne K (.type "int") (.type "bool") = some false)
    (k_int_int : PySem.W.kitOne K (.type "int") (.type "int") = some true)
    (k_int_str : PySem.W.kitOne K (.type "int") (.type "str") = some false)
    (k_int_list : PySem.W.kitOne K (.type "int") (.type "list") = some false)
    (k_int_tuple : PySem.W.kitOne K (.type "int") (.type "tuple") = some false)
    (k_str_bool : PySem.W.kitOne K (.type "str") (.type "bool") = some false)
    (k_str_int : PySem.W.kitOne K (.type "str") (.type "int") = some false)
    (k_str_str : PySem.W.kitOne K (.type "str") (.type "str") = some true)
    (k_str_list : PySem.W.kitOne K (.type "str") (.type "list") = some false)
    (k_str_tuple : PySem.W.kitOne K (.type "str") (.type "tuple") = some false)
    (k_list_bool : PySem.W.kitOne K (.type "list") (.type "bool") = some false)
    (k_list_int : PySem.W.kitOne K (.type "list") (.type "int") = some false)
    (k_list_str : PySem.W.kitOne K (.type "list") (.type "str") = some false)
    (k_list_list : PySem.W.kitOne K (.type "list") (.type "list") = some true)
    (k_list_tuple : PySem.W.kitOne K (.type "list") (.type "tuple") = some false)
    (k_tuple_bool : PySem.W.kitOne K (.type "tuple") (.type "bool") = some false)
    (k_tuple_int : PySem.W.kitOne K (.type "tuple") (.type "int") = some false)
    (k_tuple_str : PySem.W.kitOne K (.type "tuple") (.type "str") = some false)
    (k_tuple_list : PySem.W.kitOne K (.type "tuple") (.type "list") = some false)
    (k_tuple_tuple : PySem.W.kitOne K (.type "tuple") (.type "tuple") = some true) :
    ∃ (A : Ad) (D : FD), Txt K mg A D := by
  refine ⟨⟨f_wall, f_set_count, f_holds, f_set_of, f_place_fewer, f_least_before, f_leading_out, f_neighbours, f_is_whole, f_is_within, f_is_tie, f_look_ties, f_look_web, f_look_kind, f_prices, f_least_total, f_look_asked, f_layer_behind, f_layers, f_rest_of_row, f_first_row, f_least_most, f_bound_to_try, f_how_many, f_first, f_least, f_law_cell, f_law_mix, f_law_whole, f_law_web, f_law_lengths, f_law_gaps, f_law_measured, f_law_all, f_law_refusal, f_law_told, f_law, f_LayError, f_BadWeb, f_BadOrder, f_BadSpot, f_BadKind, f_BadText, f_KINDS, f_Walk, f_Walk_init, f_Walk_beginning, f_Walk_last_then, f_Walk_matters_then, f_Walk_steps, f_Walk_may_matter, f_Walk_may_stand⟩, ⟨PySem.W.fnOf "_wall" "_wall" (defArgs s_wall) (defBody s_wall) (defScope s_wall) .none kV0 dc0 pm0 an0 cd0 ct0, PySem.W.fnOf "set_count" "set_count" (defArgs s_set_count) (defBody s_set_count) (defScope s_set_count) .none kV1 dc1 pm1 an1 cd1 ct1, PySem.W.fnOf "holds" "holds" (defArgs s_holds) (defBody s_holds) (defScope s_holds) .none kV2 dc2 pm2 an2 cd2 ct2, PySem.W.fnOf "set_of" "set_of" (defArgs s_set_of) (defBody s_set_of) (defScope s_set_of) .none kV3 dc3 pm3 an3 cd3 ct3, PySem.W.fnOf "place_fewer" "place_fewer" (defArgs s_place_fewer) (defBody s_place_fewer) (defScope s_place_fewer) .none kV4 dc4 pm4 an4 cd4 ct4, PySem.W.fnOf "least_before" "least_before" (defArgs s_least_before) (defBody s_least_before) (defScope s_least_before) .none kV5 dc5 pm5 an5 cd5 ct5, PySem.W.fnOf "leading_out" "leading_out" (defArgs s_leading_out) (defBody s_leading_out) (defScope s_leading_out) .none kV6 dc6 pm6 an6 cd6 ct6, PySem.W.fnOf "neighbours" "neighbours" (defArgs s_neighbours) (defBody s_neighbours) (defScope s_neighbours) .none kV7 dc7 pm7 an7 cd7 ct7, PySem.W.fnOf "is_whole" "is_whole" (defArgs s_is_whole) (defBody s_is_whole) (defScope s_is_whole) .none kV8 dc8 pm8 an8 cd8 ct8, PySem.W.fnOf "is_within" "is_within" (defArgs s_is_within) (defBody s_is_within) (defScope s_is_within) .none kV9 dc9 pm9 an9 cd9 ct9, PySem.W.fnOf "is_tie" "is_tie" (defArgs s_is_tie) (defBody s_is_tie) (defScope s_is_tie) .none kV10 dc10 pm10 an10 cd10 ct10, PySem.W.fnOf "look_ties" "look_ties" (defArgs s_look_ties) (defBody s_look_ties) (defScope s_look_ties) .none kV11 dc11 pm11 an11 cd11 ct11, PySem.W.fnOf "look_web" "look_web" (defArgs s_look_web) (defBody s_look_web) (defScope s_look_web) .none kV12 dc12 pm12 an12 cd12 ct12, PySem.W.fnOf "look_kind" "look_kind" (defArgs s_look_kind) (defBody s_look_kind) (defScope s_look_kind) .none kV13 dc13 pm13 an13 cd13 ct13, PySem.W.fnOf "prices" "prices" (defArgs s_prices) (defBody s_prices) (defScope s_prices) .none kV14 dc14 pm14 an14 cd14 ct14, PySem.W.fnOf "least_total" "least_total" (defArgs s_least_total) (defBody s_least_total) (defScope s_least_total) .none kV15 dc15 pm15 an15 cd15 ct15, PySem.W.fnOf "look_asked" "look_asked" (defArgs s_look_asked) (defBody s_look_asked) (defScope s_look_asked) .none kV16 dc16 pm16 an16 cd16 ct16, PySem.W.fnOf "layer_behind" "layer_behind" (defArgs s_layer_behind) (defBody s_layer_behind) (defScope s_layer_behind) .none kV17 dc17 pm17 an17 cd17 ct17, PySem.W.fnOf "layers" "layers" (defArgs s_layers) (defBody s_layers) (defScope s_layers) .none kV18 dc18 pm18 an18 cd18 ct18, PySem.W.fnOf "rest_of_row" "rest_of_row" (defArgs s_rest_of_row) (defBody s_rest_of_row) (defScope s_rest_of_row) .none kV19 dc19 pm19 an19 cd19 ct19, PySem.W.fnOf "first_row" "first_row" (defArgs s_first_row) (defBody s_first_row) (defScope s_first_row) .none kV20 dc20 pm20 an20 cd20 ct20, PySem.W.fnOf "least_most" "least_most" (defArgs s_least_most) (defBody s_least_most) (defScope s_least_most) .none kV21 dc21 pm21 an21 cd21 ct21, PySem.W.fnOf "bound_to_try" "bound_to_try" (defArgs s_bound_to_try) (defBody s_bound_to_try) (defScope s_bound_to_try) .none kV22 dc22 pm22 an22 cd22 ct22, PySem.W.fnOf "how_many" "how_many" (defArgs s_how_many) (defBody s_how_many) (defScope s_how_many) .none kV23 dc23 pm23 an23 cd23 ct23, PySem.W.fnOf "first" "first" (defArgs s_first) (defBody s_first) (defScope s_first) .none kV24 dc24 pm24 an24 cd24 ct24, PySem.W.fnOf "least" "least" (defArgs s_least) (defBody s_least) (defScope s_least) .none kV25 dc25 pm25 an25 cd25 ct25, PySem.W.fnOf "_law_cell" "_law_cell" (defArgs s_law_cell) (defBody s_law_cell) (defScope s_law_cell) .none kV26 dc26 pm26 an26 cd26 ct26, PySem.W.fnOf "_law_mix" "_law_mix" (defArgs s_law_mix) (defBody s_law_mix) (defScope s_law_mix) .none kV27 dc27 pm27 an27 cd27 ct27, PySem.W.fnOf "_law_whole" "_law_whole" (defArgs s_law_whole) (defBody s_law_whole) (defScope s_law_whole) .none kV28 dc28 pm28 an28 cd28 ct28, PySem.W.fnOf "_law_web" "_law_web" (defArgs s_law_web) (defBody s_law_web) (defScope s_law_web) .none kV29 dc29 pm29 an29 cd29 ct29, PySem.W.fnOf "_law_lengths" "_law_lengths" (defArgs s_law_lengths) (defBody s_law_lengths) (defScope s_law_lengths) .none kV30 dc30 pm30 an30 cd30 ct30, PySem.W.fnOf "_law_gaps" "_law_gaps" (defArgs s_law_gaps) (defBody s_law_gaps) (defScope s_law_gaps) .none kV31 dc31 pm31 an31 cd31 ct31, PySem.W.fnOf "_law_measured" "_law_measured" (defArgs s_law_measured) (defBody s_law_measured) (defScope s_law_measured) .none kV32 dc32 pm32 an32 cd32 ct32, PySem.W.fnOf "_law_all" "_law_all" (defArgs s_law_all) (defBody s_law_all) (defScope s_law_all) .none kV33 dc33 pm33 an33 cd33 ct33, PySem.W.fnOf "_law_refusal" "_law_refusal" (defArgs s_law_refusal) (defBody s_law_refusal) (defScope s_law_refusal) .none kV34 dc34 pm34 an34 cd34 ct34, PySem.W.fnOf "_law_told" "_law_told" (defArgs s_law_told) (defBody s_law_told) (defScope s_law_told) .none kV35 dc35 pm35 an35 cd35 ct35, PySem.W.fnOf "law" "law" (defArgs s_law) (defBody s_law) (defScope s_law) .none kV36 dc36 pm36 an36 cd36 ct36, PySem.W.fnOf "__init__" "Walk.__init__" (defArgs s_Walk_init) (defBody s_Walk_init) (defScope s_Walk_init) .none ckV0_0 cdc0_0 cpm0_0 can0_0 ccd0_0 cct0_0, PySem.W.fnOf "beginning" "Walk.beginning" (defArgs s_Walk_beginning) (defBody s_Walk_beginning) (defScope s_Walk_beginning) .none ckV0_1 cdc0_1 cpm0_1 can0_1 ccd0_1 cct0_1, PySem.W.fnOf "last_then" "Walk.last_then" (defArgs s_Walk_last_then) (defBody s_Walk_last_then) (defScope s_Walk_last_then) .none ckV0_2 cdc0_2 cpm0_2 can0_2 ccd0_2 cct0_2, PySem.W.fnOf "matters_then" "Walk.matters_then" (defArgs s_Walk_matters_then) (defBody s_Walk_matters_then) (defScope s_Walk_matters_then) .none ckV0_3 cdc0_3 cpm0_3 can0_3 ccd0_3 cct0_3, PySem.W.fnOf "steps" "Walk.steps" (defArgs s_Walk_steps) (defBody s_Walk_steps) (defScope s_Walk_steps) .none ckV0_4 cdc0_4 cpm0_4 can0_4 ccd0_4 cct0_4, PySem.W.fnOf "may_matter" "Walk.may_matter" (defArgs s_Walk_may_matter) (defBody s_Walk_may_matter) (defScope s_Walk_may_matter) .none ckV0_5 cdc0_5 cpm0_5 can0_5 ccd0_5 cct0_5, PySem.W.fnOf "may_stand" "Walk.may_stand" (defArgs s_Walk_may_stand) (defBody s_Walk_may_stand) (defScope s_Walk_may_stand) .none ckV0_6 cdc0_6 cpm0_6 can0_6 ccd0_6 cct0_6⟩, ?_⟩
  constructor
  · exact fun_mk (st := s_wall) l_wall c_wall k_wall
  · exact PySem.W.mg_of X G a_wall
  · exact (fun_mk (st := s_wall) l_wall c_wall k_wall).binds (ps := ["k"]) fun _ _ _ _ _ _ us hl => match us, hl with | [_], _ => rfl
  · exact fun_mk (st := s_set_count) l_set_count c_set_count k_set_count
  · exact PySem.W.mg_of X G a_set_count
  · exact (fun_mk (st := s_set_count) l_set_count c_set_count k_set_count).binds (ps := ["places"]) fun _ _ _ _ _ _ us hl => match us, hl with | [_], _ => rfl
  · exact fun_mk (st := s_holds) l_holds c_holds k_holds
  · exact PySem.W.mg_of X G a_holds
  · exact (fun_mk (st := s_holds) l_holds c_holds k_holds).binds (ps := ["some", "place"]) fun _ _ _ _ _ _ us hl => match us, hl with | [_, _], _ => rfl
  · exact fun_mk (st := s_set_of) l_set_of c_set_of k_set_of
  · exact PySem.W.mg_of X G a_set_of
  · exact (fun_mk (st := s_set_of) l_set_of c_set_of k_set_of).binds (ps := ["places"]) fun _ _ _ _ _ _ us hl => match us, hl with | [_], _ => rfl
  · exact fun_mk (st := s_place_fewer) l_place_fewer c_place_fewer k_place_fewer
  · exact PySem.W.mg_of X G a_place_fewer
  · exact (fun_mk (st := s_place_fewer) l_place_fewer c_place_fewer k_place_fewer).binds (ps := ["some"]) fun _ _ _ _ _ _ us hl => match us, hl with | [_], _ => rfl
  · exact fun_mk (st := s_least_before) l_least_before c_least_before k_least_before
  · exact PySem.W.mg_of X G a_least_before
  · exact (fun_mk (st := s_least_before) l_least_before c_least_before k_least_before).binds (ps := ["numbers", "some"]) fun _ _ _ _ _ _ us hl => match us, hl with | [_, _], _ => rfl
  · exact fun_mk (st := s_leading_out) l_leading_out c_leading_out k_leading_out
  · exact PySem.W.mg_of X G a_leading_out
  · exact (fun_mk (st := s_leading_out) l_leading_out c_leading_out k_leading_out).binds (ps := ["web"]) fun _ _ _ _ _ _ us hl => match us, hl with | [_], _ => rfl
  · exact fun_mk (st := s_neighbours) l_neighbours c_neighbours k_neighbours
  · exact PySem.W.mg_of X G a_neighbours
  · exact (fun_mk (st := s_neighbours) l_neighbours c_neighbours k_neighbours).binds (ps := ["web"]) fun _ _ _ _ _ _ us hl => match us, hl with | [_], _ => rfl
  · exact fun_mk (st := s_is_whole) l_is_whole c_is_whole k_is_whole
  · exact PySem.W.mg_of X G a_is_whole
  · exact (fun_mk (st := s_is_whole) l_is_whole c_is_whole k_is_whole).binds (ps := ["value"]) fun _ _ _ _ _ _ us hl => match us, hl with | [_], _ => rfl
  · exact fun_mk (st := s_is_within) l_is_within c_is_within k_is_within
  · exact PySem.W.mg_of X G a_is_within
  · exact (fun_mk (st := s_is_within) l_is_within c_is_within k_is_within).binds (ps := ["value", "least", "greatest"]) fun _ _ _ _ _ _ us hl => match us, hl with | [_, _, _], _ => rfl
  · exact fun_mk (st := s_is_tie) l_is_tie c_is_tie k_is_tie
  · exact PySem.W.mg_of X G a_is_tie
  · exact (fun_mk (st := s_is_tie) l_is_tie c_is_tie k_is_tie).binds (ps := ["tie", "places"]) fun _ _ _ _ _ _ us hl => match us, hl with | [_, _], _ => rfl
  · exact fun_mk (st := s_look_ties) l_look_ties c_look_ties k_look_ties
  · exact PySem.W.mg_of X G a_look_ties
  · exact (fun_mk (st := s_look_ties) l_look_ties c_look_ties k_look_ties).binds (ps := ["places", "ties"]) fun _ _ _ _ _ _ us hl => match us, hl with | [_, _], _ => rfl
  · exact fun_mk (st := s_look_web) l_look_web c_look_web k_look_web
  · exact PySem.W.mg_of X G a_look_web
  · exact (fun_mk (st := s_look_web) l_look_web c_look_web k_look_web).binds (ps := ["web"]) fun _ _ _ _ _ _ us hl => match us, hl with | [_], _ => rfl
  · exact fun_mk (st := s_look_kind) l_look_kind c_look_kind k_look_kind
  · exact PySem.W.mg_of X G a_look_kind
  · exact (fun_mk (st := s_look_kind) l_look_kind c_look_kind k_look_kind).binds (ps := ["kind"]) fun _ _ _ _ _ _ us hl => match us, hl with | [_], _ => rfl
  · exact fun_mk (st := s_prices) l_prices c_prices k_prices
  · exact PySem.W.mg_of X G a_prices
  · exact (fun_mk (st := s_prices) l_prices c_prices k_prices).binds (ps := ["web"]) fun _ _ _ _ _ _ us hl => match us, hl with | [_], _ => rfl
  · exact fun_mk (st := s_least_total) l_least_total c_least_total k_least_total
  · exact PySem.W.mg_of X G a_least_total
  · exact (fun_mk (st := s_least_total) l_least_total c_least_total k_least_total).binds (ps := ["web"]) fun _ _ _ _ _ _ us hl => match us, hl with | [_], _ => rfl
  · exact fun_mk (st := s_look_asked) l_look_asked c_look_asked k_look_asked
  · exact PySem.W.mg_of X G a_look_asked
  · exact (fun_mk (st := s_look_asked) l_look_asked c_look_asked k_look_asked).binds (ps := ["web", "kind", "bound"]) fun _ _ _ _ _ _ us hl => match us, hl with | [_, _, _], _ => rfl
  · exact fun_mk (st := s_layer_behind) l_layer_behind c_layer_behind k_layer_behind
  · exact PySem.W.mg_of X G a_layer_behind
  · exact (fun_mk (st := s_layer_behind) l_layer_behind c_layer_behind k_layer_behind).binds (ps := ["walk", "layer"]) fun _ _ _ _ _ _ us hl => match us, hl with | [_, _], _ => rfl
  · exact fun_mk (st := s_layers) l_layers c_layers k_layers
  · exact PySem.W.mg_of X G a_layers
  · exact (fun_mk (st := s_layers) l_layers c_layers k_layers).binds (ps := ["walk"]) fun _ _ _ _ _ _ us hl => match us, hl with | [_], _ => rfl
  · exact fun_mk (st := s_rest_of_row) l_rest_of_row c_rest_of_row k_rest_of_row
  · exact PySem.W.mg_of X G a_rest_of_row
  · exact (fun_mk (st := s_rest_of_row) l_rest_of_row c_rest_of_row k_rest_of_row).binds (ps := ["walk", "pair", "dead"]) fun _ _ _ _ _ _ us hl => match us, hl with | [_, _, _], _ => rfl
  · exact fun_mk (st := s_first_row) l_first_row c_first_row k_first_row
  · exact PySem.W.mg_of X G a_first_row
  · exact (fun_mk (st := s_first_row) l_first_row c_first_row k_first_row).binds (ps := ["walk"]) fun _ _ _ _ _ _ us hl => match us, hl with | [_], _ => rfl
  · exact fun_mk (st := s_least_most) l_least_most c_least_most k_least_most
  · exact PySem.W.mg_of X G a_least_most
  · exact (fun_mk (st := s_least_most) l_least_most c_least_most k_least_most).binds (ps := ["web"]) fun _ _ _ _ _ _ us hl => match us, hl with | [_], _ => rfl
  · exact fun_mk (st := s_bound_to_try) l_bound_to_try c_bound_to_try k_bound_to_try
  · exact PySem.W.mg_of X G a_bound_to_try
  · exact (fun_mk (st := s_bound_to_try) l_bound_to_try c_bound_to_try k_bound_to_try).binds (ps := ["web", "kind"]) fun _ _ _ _ _ _ us hl => match us, hl with | [_, _], _ => rfl
  · exact fun_mk (st := s_how_many) l_how_many c_how_many k_how_many
  · exact PySem.W.mg_of X G a_how_many
  · exact (fun_mk (st := s_how_many) l_how_many c_how_many k_how_many).binds (ps := ["web", "kind", "bound"]) fun _ _ _ _ _ _ us hl => match us, hl with | [_, _, _], _ => rfl
  · exact fun_mk (st := s_first) l_first c_first k_first
  · exact PySem.W.mg_of X G a_first
  · exact (fun_mk (st := s_first) l_first c_first k_first).binds (ps := ["web", "kind", "bound"]) fun _ _ _ _ _ _ us hl => match us, hl with | [_, _, _], _ => rfl
  · exact fun_mk (st := s_least) l_least c_least k_least
  · exact PySem.W.mg_of X G a_least
  · exact (fun_mk (st := s_least) l_least c_least k_least).binds (ps := ["web", "kind"]) fun _ _ _ _ _ _ us hl => match us, hl with | [_, _], _ => rfl
  · exact fun_mk (st := s_law_cell) l_law_cell c_law_cell k_law_cell
  · exact PySem.W.mg_of X G a_law_cell
  · exact (fun_mk (st := s_law_cell) l_law_cell c_law_cell k_law_cell).binds (ps := ["_law_script", "_law_k"]) fun _ _ _ _ _ _ us hl => match us, hl with | [_, _], _ => rfl
  · exact fun_mk (st := s_law_mix) l_law_mix c_law_mix k_law_mix
  · exact PySem.W.mg_of X G a_law_mix
  · exact (fun_mk (st := s_law_mix) l_law_mix c_law_mix k_law_mix).binds (ps := ["_law_script", "_law_k"]) fun _ _ _ _ _ _ us hl => match us, hl with | [_, _], _ => rfl
  · exact fun_mk (st := s_law_whole) l_law_whole c_law_whole k_law_whole
  · exact PySem.W.mg_of X G a_law_whole
  · exact (fun_mk (st := s_law_whole) l_law_whole c_law_whole k_law_whole).binds (ps := ["_law_found"]) fun _ _ _ _ _ _ us hl => match us, hl with | [_], _ => rfl
  · exact fun_mk (st := s_law_web) l_law_web c_law_web k_law_web
  · exact PySem.W.mg_of X G a_law_web
  · exact (fun_mk (st := s_law_web) l_law_web c_law_web k_law_web).binds (ps := ["_law_script", "_law_k", "_law_places"]) fun _ _ _ _ _ _ us hl => match us, hl with | [_, _, _], _ => rfl
  · exact fun_mk (st := s_law_lengths) l_law_lengths c_law_lengths k_law_lengths
  · exact PySem.W.mg_of X G a_law_lengths
  · exact (fun_mk (st := s_law_lengths) l_law_lengths c_law_lengths k_law_lengths).binds (ps := ["_law_web_here", "_law_order"]) fun _ _ _ _ _ _ us hl => match us, hl with | [_, _], _ => rfl
  · exact fun_mk (st := s_law_gaps) l_law_gaps c_law_gaps k_law_gaps
  · exact PySem.W.mg_of X G a_law_gaps
  · exact (fun_mk (st := s_law_gaps) l_law_gaps c_law_gaps k_law_gaps).binds (ps := ["_law_web_here", "_law_order"]) fun _ _ _ _ _ _ us hl => match us, hl with | [_, _], _ => rfl
  · exact fun_mk (st := s_law_measured) l_law_measured c_law_measured k_law_measured
  · exact PySem.W.mg_of X G a_law_measured
  · exact (fun_mk (st := s_law_measured) l_law_measured c_law_measured k_law_measured).binds (ps := ["_law_web_here", "_law_kind", "_law_order"]) fun _ _ _ _ _ _ us hl => match us, hl with | [_, _, _], _ => rfl
  · exact fun_mk (st := s_law_all) l_law_all c_law_all k_law_all
  · exact PySem.W.mg_of X G a_law_all
  · exact (fun_mk (st := s_law_all) l_law_all c_law_all k_law_all).binds (ps := ["_law_many"]) fun _ _ _ _ _ _ us hl => match us, hl with | [_], _ => rfl
  · exact fun_mk (st := s_law_refusal) l_law_refusal c_law_refusal k_law_refusal
  · exact PySem.W.mg_of X G a_law_refusal
  · exact (fun_mk (st := s_law_refusal) l_law_refusal c_law_refusal k_law_refusal).binds (ps := ["_law_kept"]) fun _ _ _ _ _ _ us hl => match us, hl with | [_], _ => rfl
  · exact fun_mk (st := s_law_told) l_law_told c_law_told k_law_told
  · exact PySem.W.mg_of X G a_law_told
  · exact (fun_mk (st := s_law_told) l_law_told c_law_told k_law_told).binds (ps := ["_law_way", "_law_web_here", "_law_kind", "_law_bound"]) fun _ _ _ _ _ _ us hl => match us, hl with | [_, _, _, _], _ => rfl
  · exact fun_mk (st := s_law) l_law c_law k_law
  · exact PySem.W.mg_of X G a_law
  · exact (fun_mk (st := s_law) l_law c_law k_law).binds (ps := ["_law_script"]) fun _ _ _ _ _ _ us hl => match us, hl with | [_], _ => rfl
  · exact fun s v => .of_eq rfl
  · exact PySem.W.mg_of X G a_LayError
  · exact x_LayError
  · exact PySem.W.mg_of X G a_BadWeb
  · exact x_BadWeb
  · exact ⟨e1_BadWeb, e2_BadWeb, e3_BadWeb, e4_BadWeb, e5_BadWeb, _, e6_BadWeb⟩
  · exact s_BadWeb
  · exact v_BadWeb
  · exact PySem.W.mg_of X G a_BadOrder
  · exact x_BadOrder
  · exact ⟨e1_BadOrder, e2_BadOrder, e3_BadOrder, e4_BadOrder, e5_BadOrder, _, e6_BadOrder⟩
  · exact s_BadOrder
  · exact v_BadOrder
  · exact PySem.W.mg_of X G a_BadSpot
  · exact x_BadSpot
  · exact ⟨e1_BadSpot, e2_BadSpot, e3_BadSpot, e4_BadSpot, e5_BadSpot, _, e6_BadSpot⟩
  · exact s_BadSpot
  · exact v_BadSpot
  · exact PySem.W.mg_of X G a_BadKind
  · exact x_BadKind
  · exact ⟨e1_BadKind, e2_BadKind, e3_BadKind, e4_BadKind, e5_BadKind, _, e6_BadKind⟩
  · exact s_BadKind
  · exact v_BadKind
  · exact PySem.W.mg_of X G a_BadText
  · exact x_BadText
  · exact ⟨e1_BadText, e2_BadText, e3_BadText, e4_BadText, e5_BadText, _, e6_BadText⟩
  · exact s_BadText
  · exact v_BadText
  · exact i_BadWeb_BadWeb
  · exact i_BadWeb_BadOrder
  · exact i_BadWeb_BadSpot
  · exact i_BadWeb_BadKind
  · exact i_BadWeb_BadText
  · exact i_BadOrder_BadWeb
  · exact i_BadOrder_BadOrder
  · exact i_BadOrder_BadSpot
  · exact i_BadOrder_BadKind
  · exact i_BadOrder_BadText
  · exact i_BadSpot_BadWeb
  · exact i_BadSpot_BadOrder
  · exact i_BadSpot_BadSpot
  · exact i_BadSpot_BadKind
  · exact i_BadSpot_BadText
  · exact i_BadKind_BadWeb
  · exact i_BadKind_BadOrder
  · exact i_BadKind_BadSpot
  · exact i_BadKind_BadKind
  · exact i_BadKind_BadText
  · exact i_BadText_BadWeb
  · exact i_BadText_BadOrder
  · exact i_BadText_BadSpot
  · exact i_BadText_BadKind
  · exact i_BadText_BadText
  · exact ⟨_, PySem.W.mg_of X G g_MOST_PLACES⟩
  · exact ⟨_, PySem.W.mg_of X G g_MOST_WEIGHT⟩
  · exact ⟨_, PySem.W.mg_of X G g_GREATEST_BOUND⟩
  · exact PySem.W.mg_of X G a_KINDS
  · exact fun H => .inr ⟨_, _, _, l_KINDS, rfl, rfl, (by show 3 ≤ sizeLine; decide), (.cons ⟨_, rfl⟩ (.cons ⟨_, rfl⟩ (.cons ⟨_, rfl⟩ .nil)))⟩
  · exact PySem.W.mg_of X G a_Walk
  · exact ⟨pg_Walk, hd_Walk, po_Walk, sa_Walk⟩
  · exact ⟨mk_Walk, a_Walk_init, i_Walk_init, kc_Walk⟩
  · exact n_Walk_bound
  · exact n_Walk_every
  · exact n_Walk_kind
  · exact n_Walk_out
  · exact n_Walk_places
  · exact n_Walk_tied
  · exact fun_mk (st := s_Walk_init) l_Walk_init c_Walk_init k_Walk_init
  · exact (fun_mk (st := s_Walk_init) l_Walk_init c_Walk_init k_Walk_init).binds (ps := ["self", "web", "kind", "bound"]) fun _ _ _ _ _ _ us hl => match us, hl with | [_, _, _, _], _ => rfl
  · exact fun_mk (st := s_Walk_beginning) l_Walk_beginning c_Walk_beginning k_Walk_beginning
  · exact ⟨a_Walk_beginning, i_Walk_beginning, k_Walk_beginning⟩
  · exact (fun_mk (st := s_Walk_beginning) l_Walk_beginning c_Walk_beginning k_Walk_beginning).binds (ps := ["self"]) fun _ _ _ _ _ _ us hl => match us, hl with | [_], _ => rfl
  · exact fun_mk (st := s_Walk_last_then) l_Walk_last_then c_Walk_last_then k_Walk_last_then
  · exact ⟨a_Walk_last_then, i_Walk_last_then, k_Walk_last_then⟩
  · exact (fun_mk (st := s_Walk_last_then) l_Walk_last_then c_Walk_last_then k_Walk_last_then).binds (ps := ["self", "pair", "place"]) fun _ _ _ _ _ _ us hl => match us, hl with | [_, _, _], _ => rfl
  · exact fun_mk (st := s_Walk_matters_then) l_Walk_matters_then c_Walk_matters_then k_Walk_matters_then
  · exact ⟨a_Walk_matters_then, i_Walk_matters_then, k_Walk_matters_then⟩
  · exact (fun_mk (st := s_Walk_matters_then) l_Walk_matters_then c_Walk_matters_then k_Walk_matters_then).binds (ps := ["self", "pair", "place"]) fun _ _ _ _ _ _ us hl => match us, hl with | [_, _, _], _ => rfl
  · exact fun_mk (st := s_Walk_steps) l_Walk_steps c_Walk_steps k_Walk_steps
  · exact ⟨a_Walk_steps, i_Walk_steps, k_Walk_steps⟩
  · exact (fun_mk (st := s_Walk_steps) l_Walk_steps c_Walk_steps k_Walk_steps).binds (ps := ["self", "pair"]) fun _ _ _ _ _ _ us hl => match us, hl with | [_, _], _ => rfl
  · exact fun_mk (st := s_Walk_may_matter) l_Walk_may_matter c_Walk_may_matter k_Walk_may_matter
  · exact ⟨a_Walk_may_matter, i_Walk_may_matter, k_Walk_may_matter⟩
  · exact (fun_mk (st := s_Walk_may_matter) l_Walk_may_matter c_Walk_may_matter k_Walk_may_matter).binds (ps := ["self", "some", "matters"]) fun _ _ _ _ _ _ us hl => match us, hl with | [_, _, _], _ => rfl
  · exact fun_mk (st := s_Walk_may_stand) l_Walk_may_stand c_Walk_may_stand k_Walk_may_stand
  · exact ⟨a_Walk_may_stand, i_Walk_may_stand, k_Walk_may_stand⟩
  · exact (fun_mk (st := s_Walk_may_stand) l_Walk_may_stand c_Walk_may_stand k_Walk_may_stand).binds (ps := ["self", "pair"]) fun _ _ _ _ _ _ us hl => match us, hl with | [_, _], _ => rfl
  · exact PySem.W.mg_none_of X G z_abs
  · exact PySem.W.mg_none_of X G z_bool
  · exact PySem.W.mg_none_of X G z_int
  · exact PySem.W.mg_none_of X G z_isinstance
  · exact PySem.W.mg_none_of X G z_len
  · exact PySem.W.mg_none_of X G z_list
  · exact PySem.W.mg_none_of X G z_max
  · exact PySem.W.mg_none_of X G z_min
  · exact PySem.W.mg_none_of X G z_range
  · exact PySem.W.mg_none_of X G z_sorted
  · exact PySem.W.mg_none_of X G z_sum
  · exact PySem.W.mg_none_of X G z_tuple
  · exact PySem.W.mg_none_of X G z_ValueError
  · exact k_bool_bool
  · exact k_bool_int
  · exact k_bool_str
  · exact k_bool_list
  · exact k_bool_tuple
  · exact k_int_bool
  · exact k_int_int
  · exact k_int_str
  · exact k_int_list
  · exact k_int_tuple
  · exact k_str_bool
  · exact k_str_int
  · exact k_str_str
  · exact k_str_list
  · exact k_str_tuple
  · exact k_list_bool
  · exact k_list_int
  · exact k_list_str
  · exact k_list_list
  · exact k_list_tuple
  · exact k_tuple_bool
  · exact k_tuple_int
  · exact k_tuple_str
  · exact k_tuple_list
  · exact k_tuple_tuple
end My
namespace My
open PySem L2 PySem.Spec PyProof.Rows
variable {P : Program} {w : World} {K : PySem.W.Frag} {mg : Str → Option Value} {base : Heap} {A : Ad} {D : FD}
theorem ref_facts (T : Txt K mg A D) {C : Addr} {y : Str} (h : refWord A.er C y) : PySem.W.excIn K C bmV "ValueError.__new__" = true ∧ PySem.W.mroIn K C (.ref A.LayError) = some true ∧ ExcLook K C ∧ PySem.W.kitOne K (.ref C) (.type "ValueError") = some true := by
  rcases h with ⟨rfl, _⟩ | ⟨rfl, _⟩ | ⟨rfl, _⟩ | ⟨rfl, _⟩ | ⟨rfl, _⟩
  · exact ⟨T.x_BadKind, T.s_BadKind, T.l_BadKind, T.v_BadKind⟩
  · exact ⟨T.x_BadOrder, T.s_BadOrder, T.l_BadOrder, T.v_BadOrder⟩
  · exact ⟨T.x_BadSpot, T.s_BadSpot, T.l_BadSpot, T.v_BadSpot⟩
  · exact ⟨T.x_BadText, T.s_BadText, T.l_BadText, T.v_BadText⟩
  · exact ⟨T.x_BadWeb, T.s_BadWeb, T.l_BadWeb, T.v_BadWeb⟩
theorem sc_is_whole : FnScope ["value"] ["value"] (defScope s_is_whole) := ⟨rfl, rfl, rfl, by decide +kernel, rfl, by decide +kernel, by decide +kernel⟩
theorem ok_whole (T : Txt K mg A D) {k : Nat} : FnOk P w K mg base (CXF P w) (k + 1) A.is_whole D.is_whole ["value"] spWhole := by
  refine T.F_is_whole.okF sc_is_whole (fun vs H Q E h => ?_) (fun cdv A' outer s H vs Q E hr h => ?_)
  · obtain ⟨_, rfl, _⟩ := h
    rfl
  obtain ⟨x, rfl, h⟩ := h
  refine ⟨_, (pss_one (ps_ret (pe_and (pe_callB call_isinst rfl T.z_isinstance bt_isinstance (pa_cons (pv 0) (pa_cons (pe_bltn (v := .ty "int") rfl T.z_int bt_int rfl) pa_nil))) (pe_one (pe_not (pe_callB call_isinst rfl T.z_isinstance bt_isinstance (pa_cons (pv 0) (pa_cons (pe_bltn (v := .ty "bool") rfl T.z_bool bt_bool rfl) pa_nil)))))))), ?_⟩
  rcases h with ⟨i, rfl, q⟩ | ⟨a, xs, rfl, ha, q⟩
  · refine ⟨_, rfl, _, _, _, _, _, rfl, rfl, .int i, T.k_int_int, _, rfl, iteT ?_⟩
    exact ⟨_, rfl, _, _, _, _, _, rfl, rfl, .int i, T.k_int_bool, _, rfl, q⟩
  · exact ⟨_, rfl, _, _, _, _, _, rfl, rfl, .tup ha, T.k_tuple_int, _, rfl, iteF q⟩
theorem sc_is_within : FnScope ["value", "least", "greatest"] ["value", "least", "greatest"] (defScope s_is_within) := ⟨rfl, rfl, rfl, by decide +kernel, rfl, by decide +kernel, by decide +kernel⟩
theorem ok_within (T : Txt K mg A D) {k : Nat} (G_is_whole : FnOk P w K mg base (CXF P w) k A.is_whole D.is_whole ["value"] spWhole) : FnOk P w K mg base (CXF P w) (k + 1) A.is_within D.is_within ["value", "least", "greatest"] spWithin := by
  refine T.F_is_within.okF sc_is_within (fun vs H Q E h => ?_) (fun cdv A' outer s H vs Q E hr h => ?_)
  · obtain ⟨_, _, _, rfl, _⟩ := h
    rfl
  obtain ⟨v, a, b, rfl, q⟩ := h
  refine ⟨_, (pss_one (ps_ret (pe_and (pe_call G_is_whole hr rfl T.m_is_whole T.F_is_whole.kp T.b_is_whole .nil pass0F (pa_cons (pv 0) pa_nil)) (pe_one (pe_chain op_le op_le (pv 1) (pv 0) (pv 2)))))), ?_⟩
  refine ⟨_, rfl, _, rfl, .inl ⟨v, rfl, _, rfl, iteT ?_⟩⟩
  refine ⟨_, rfl, _, rfl, _, _, rfl, rfl, _, rfl, ite2 (fun c => ?_) (fun c => ?_)⟩
  · refine ⟨_, rfl, _, _, rfl, rfl, ?_⟩
    have c' : a ≤ v := of_decide_eq_true c
    rw [decide_eq_true c', Bool.true_and] at q
    exact q
  · have c' : ¬ a ≤ v := of_decide_eq_false (Bool.eq_false_iff.mpr c)
    rw [decide_eq_false c', Bool.false_and] at q
    exact q
theorem sc_is_tie : FnScope ["tie", "places"] ["tie", "places"] (defScope s_is_tie) := ⟨rfl, rfl, rfl, by decide +kernel, rfl, by decide +kernel, by decide +kernel⟩
theorem ok_tie (T : Txt K mg A D) {k : Nat} (G_is_within : FnOk P w K mg base (CXF P w) k A.is_within D.is_within ["value", "least", "greatest"] spWithin) : FnOk P w K mg base (CXF P w) (k + 1) A.is_tie D.is_tie ["tie", "places"] spTie := by
  refine T.F_is_tie.okF sc_is_tie (fun vs H Q E h => ?_) (fun cdv A' outer s H vs Q E hr h => ?_)
  · obtain ⟨_, _, _, rfl, _⟩ := h
    rfl
  obtain ⟨p, t, n, rfl, ht, q⟩ := h
  obtain ⟨tw, hC_MOST_WEIGHT⟩ := T.g_MOST_WEIGHT
  refine ⟨_, (pss_cons (ps_if (PW.pt (pw_or (pt_not (pt_val (pe_callB call_isinst rfl T.z_isinstance bt_isinstance (pa_cons (pv 0) (pa_cons (pe_bltn (v := .ty "tuple") rfl T.z_tuple bt_tuple rfl) pa_nil))))) (pw_or1 (pt_cmpR op_ne (pe_callB call_len_seq rfl T.z_len PySem.boot_len (pa_cons (pv 0) pa_nil)) pe_int (nomark _)))))
(pss_one (ps_ret pe_bl))
pss_nil)
(pss_cons (ps_if (pt_not (pt_val (pe_call G_is_within hr rfl T.m_is_within T.F_is_within.kp T.b_is_within .nil pass0F (pa_cons (pe_ix ix_tup (pv 0) pe_int (fun _ _ => rfl)) (pa_cons pe_int (pa_cons (pe_op op_sub (pv 1) pe_int) pa_nil))))))
(pss_one (ps_ret pe_bl))
pss_nil)
(pss_one (ps_ret (pe_and (pe_call G_is_within hr rfl T.m_is_within T.F_is_within.kp T.b_is_within .nil pass0F (pa_cons (pe_ix ix_tup (pv 0) pe_int (fun _ _ => rfl)) (pa_cons pe_int (pa_cons (pe_op op_sub (pe_ix ix_tup (pv 0) pe_int (fun _ _ => rfl)) pe_int) pa_nil)))) (pe_one (pe_call G_is_within hr rfl T.m_is_within T.F_is_within.kp T.b_is_within .nil pass0F (pa_cons (pe_ix ix_tup (pv 0) pe_int (fun _ _ => rfl)) (pa_cons pe_int (pa_cons (pe_glob (v := .int 100) rfl hC_MOST_WEIGHT ⟨_, rfl⟩) pa_nil)))))))))), ?_⟩
  refine ⟨_, rfl, _, _, _, _, _, rfl, rfl, .tup ht, T.k_tuple_tuple, _, rfl, iteF ?_⟩
  refine ⟨_, rfl, p, _, rfl, .inr (SqT.of ht), rfl, _, rfl, ?_⟩
  by_cases h3 : t.length = 3
  · obtain ⟨a, b, c, rfl⟩ : ∃ a b c, t = [a, b, c] := by
      match t, h3 with
      | [a, b, c], _ => exact ⟨a, b, c, rfl⟩
    refine iteF ?_
    refine ⟨_, rfl, _, _, _, _, rfl, rfl, SqT.of ht, rfl, _, rfl, _, _, rfl, rfl, b, 0, n - 1, rfl, _, rfl, ?_⟩
    show if (!(decide (0 ≤ b) && decide (b ≤ n - 1))) = true then _ else _
    cases e1 : (decide (0 ≤ b) && decide (b ≤ n - 1)) with
    | false =>
      refine iteT ?_
      have z : tieOk n [a, b, c] = false := by rw [tieOk_eq, e1, Bool.false_and]
      rw [z] at q
      exact q
    | true =>
      refine iteF ?_
      refine ⟨_, rfl, _, _, _, _, rfl, rfl, SqT.of ht, rfl, _, rfl, _, _, _, _, rfl, rfl, SqT.of ht, rfl, _, _, rfl, rfl, a, 0, b - 1, rfl, _, rfl, ?_⟩
      cases e2 : (decide (0 ≤ a) && decide (a ≤ b - 1)) with
      | false =>
        refine iteF ?_
        have z : tieOk n [a, b, c] = false := by rw [tieOk_eq, e1, e2, Bool.false_and, Bool.true_and]
        rw [z] at q
        exact q
      | true =>
        refine iteT ?_
        refine ⟨_, rfl, _, _, _, _, rfl, rfl, SqT.of ht, rfl, c, 1, 100, rfl, ?_⟩
        have z : tieOk n [a, b, c] = (decide (1 ≤ c) && decide (c ≤ 100)) := by rw [tieOk_eq, e1, e2, Bool.true_and, Bool.true_and]
        rw [z] at q
        exact q
  · have hl : ((t.map V.int).length : Int) ≠ 3 := by rw [List.length_map]; omega
    have c : (!decide (V.int ((t.map V.int).length : Int) = V.int 3)) = true := by
      rw [decide_eq_false (fun z => hl (V.int.inj z))]
      rfl
    rw [c]
    refine iteT ?_
    have z : tieOk n t = false := by
      unfold tieOk
      split
      · exact absurd rfl h3
      · rfl
    rw [z] at q
    exact q
theorem sc_look_ties : FnScope ["places", "ties", "before", "tie"] ["places", "ties"] (defScope s_look_ties) := ⟨rfl, rfl, rfl, by decide +kernel, rfl, by decide +kernel, by decide +kernel⟩
theorem ok_ties (T : Txt K mg A D) {k : Nat} (G_is_tie : FnOk P w K mg base (CXF P w) k A.is_tie D.is_tie ["tie", "places"] spTie) : FnOk P w K mg base (CXF P w) (k + 1) A.look_ties D.look_ties ["places", "ties"] (spTies A.er) := by
  refine T.F_look_ties.okF sc_look_ties (fun vs H Q E h => ?_) (fun cdv A' outer s H vs Q E hr h => ?_)
  · obtain ⟨_, _, _, _, rfl, _⟩ := h
    rfl
  obtain ⟨n, l, xs, ts, rfl, hl, dl, win, qn, qe⟩ := h
  refine ⟨_, (pss_cons (ps_set (i := 2) sc_look_ties.nd rfl (Or.inl rfl) (pe_tup (pa_cons (pe_un un_neg pe_int) (pa_cons (pe_un un_neg pe_int) pa_nil))))
(pss_one (ps_for passesOwn_cx rfl (pi_list (pv 1)) (pg_name (i := 3) sc_look_ties.nd rfl (Or.inl rfl))
(pss_cons (ps_if (pt_not (pt_val (pe_call G_is_tie hr rfl T.m_is_tie T.F_is_tie.kp T.b_is_tie .nil pass0F (pa_cons (pv 3) (pa_cons (pv 0) pa_nil)))))
(pss_one (ps_raise raises_cx rfl T.m_BadWeb T.x_BadWeb PySem.F.excBase_ValueError rfl (pa_cons (pe_fstr (pstrs_cons (pstr_tupr hr 3) (pstrs_cons pstr_const (pstrs_cons (pstr_int 0) (pstrs_cons pstr_const pstrs_nil))))) pa_nil)))
pss_nil)
(pss_cons (ps_if (pt_cmpR (op_leT hr.units0) (pe_slice sl_tup (pv 3) po_none (po_some pe_int)) (pv 2) (nomark _))
(pss_one (ps_raise raises_cx rfl T.m_BadWeb T.x_BadWeb PySem.F.excBase_ValueError rfl (pa_cons (pe_fstr (pstrs_cons (pstr_tupr hr 3) (pstrs_cons pstr_const pstrs_nil))) pa_nil)))
pss_nil)
(pss_one (ps_set (i := 2) sc_look_ties.nd rfl (Or.inl rfl) (pe_slice sl_tup (pv 3) po_none (po_some pe_int))))))))), ?_⟩
  refine ⟨_, rfl, _, rfl, by decide, fun p hp => ?_⟩
  have e0 : Same H (upd H p (.tup [.int (-1), .int (-1)])) := same_new hp
  refine ⟨_, rfl, l, rfl, ⟨xs, SqL.of (e0 _ _ hl)⟩, ?_⟩
  have hlen : xs.length = ts.length := by rw [← dl.length, List.length_map]
  refine for_in ts.length (fun i σ H' => ∃ b v3 bef, σ = [some (.int n), some (.ref l), some (.ref b), v3] ∧ Same H H' ∧ H' b = some (.tup (bef.map V.int)) ∧ tiesOk n bef (ts.drop i) = tiesOk n [-1, -1] ts)
    ⟨p, none, [-1, -1], rfl, e0, upd_same, rfl⟩ ?_ ?_ ?_ ?_
  · rintro i σ H' hi ⟨b, v3, bef, rfl, e, hb, ht⟩
    have hx : i < xs.length := by omega
    exact ⟨xs, xs[i], SqL.of (e _ _ hl), List.getElem?_eq_getElem hx⟩
  · rintro σ H' ⟨b, v3, bef, rfl, e, hb, ht⟩
    exact ⟨xs, SqL.of (e _ _ hl), by omega⟩
  · rintro i x σ H2 H3 hi ⟨b, v3, bef, rfl, e, hb, ht⟩ ⟨rfl, hx⟩
    obtain ⟨t, htt⟩ : ∃ t, ts[i]? = some t := ⟨ts[i], List.getElem?_eq_getElem hi⟩
    obtain ⟨a, hxa, hta⟩ := tie_at (dl.mono e) htt
    have hx2 := hx xs (SqL.of (e _ _ hl))
    rw [hxa] at hx2
    cases hx2
    have hin := win.tie t (List.mem_of_getElem? htt)
    have hdrop : ts.drop i = t :: ts.drop (i + 1) := by
      obtain ⟨h1, h2⟩ := List.getElem?_eq_some_iff.mp htt
      rw [← h2]
      exact List.drop_eq_getElem_cons h1
    rw [hdrop] at ht
    refine ⟨_, rfl, _, rfl, a, t, n, rfl, hta, _, rfl, ?_⟩
    cases e1 : tieOk n t with
    | false =>
      refine iteT ?_
      refine ⟨⟨⟨a, t, rfl, SqT.of hta, hin.1, hin.2⟩, trivial, ⟨n, rfl, win.n⟩, trivial, trivial⟩, by decide, fun x hx => ?_⟩
      refine ⟨(by show 1 ≤ sizeLine; decide), qe ?_ _ e⟩
      rw [← ht, tiesOk, e1, Bool.false_and]
    | true =>
      refine iteF ?_
      obtain ⟨ta, tb, tc, rfl, _⟩ := tieOk_three e1
      refine ⟨_, rfl, _, rfl, a, _, rfl, SqT.of hta, (by show ¬ (HT.sIx 3 0 none = 0 ∧ HT.sIx 3 3 (some 2) = 3); decide), fun p2 hp2 => ?_⟩
      have hpb : b ≠ p2 := fun z => by subst z; rw [hp2] at hb; cases hb
      refine ⟨_, rfl, p2, b, [ta, tb], bef, rfl, rfl, SqT.of upd_same, SqT.of (by rw [upd_ne hpb]; exact hb), _, rfl, ?_⟩
      cases e2 : HT.lexLe [ta, tb] bef with
      | true =>
        refine iteT ?_
        have hta2 := same_new (o := .tup (cutV ([ta, tb, tc].map V.int) none (some 2))) hp2 _ _ hta
        refine ⟨⟨⟨a, [ta, tb, tc], rfl, SqT.of hta2, hin.1, hin.2⟩, trivial, trivial⟩, by decide, fun x hx => ?_⟩
        refine ⟨(by show 1 ≤ sizeLine; decide), qe ?_ _ (e.trans (same_new hp2))⟩
        rw [← ht, tiesOk, e1, Bool.true_and]
        show (!HT.lexLe [ta, tb] bef && _) = false
        rw [e2]
        rfl
      | false =>
        refine iteF ?_
        have hta2 := same_new (o := .tup (cutV ([ta, tb, tc].map V.int) none (some 2))) hp2 _ _ hta
        refine ⟨_, rfl, _, rfl, a, _, rfl, SqT.of hta2, (by show ¬ (HT.sIx 3 0 none = 0 ∧ HT.sIx 3 3 (some 2) = 3); decide), fun p3 hp3 => ?_⟩
        refine ⟨p3, _, [ta, tb], rfl, (e.trans (same_new hp2)).trans (same_new hp3), upd_same, ?_⟩
        rw [← ht, tiesOk, e1, Bool.true_and]
        show _ = (!HT.lexLe [ta, tb] bef && _)
        rw [e2]
        rfl
  · rintro σ H' ⟨b, v3, bef, rfl, e, hb, ht⟩
    rw [List.drop_length] at ht
    exact qn ht.symm _ e
theorem sc_look_web : FnScope ["web"] ["web"] (defScope s_look_web) := ⟨rfl, rfl, rfl, by decide +kernel, rfl, by decide +kernel, by decide +kernel⟩
theorem ok_web (T : Txt K mg A D) {k : Nat} (G_is_within : FnOk P w K mg base (CXF P w) k A.is_within D.is_within ["value", "least", "greatest"] spWithin)
    (G_look_ties : FnOk P w K mg base (CXF P w) k A.look_ties D.look_ties ["places", "ties"] (spTies A.er)) : FnOk P w K mg base (CXF P w) (k + 1) A.look_web D.look_web ["web"] (spWeb A.er) := by
  refine T.F_look_web.okF sc_look_web (fun vs H Q E h => ?_) (fun cdv A' outer s H vs Q E hr h => ?_)
  · obtain ⟨_, _, _, rfl, _⟩ := h
    rfl
  obtain ⟨v, n, ts, rfl, dv, win, qn, qe⟩ := h
  obtain ⟨a, l, xs, rfl, ha, hl, dl⟩ := web_of dv
  obtain ⟨tp, hC_MOST_PLACES⟩ := T.g_MOST_PLACES
  refine ⟨_, (pss_cons (ps_if (PW.pt (pw_or (pt_not (pt_val (pe_callB call_isinst rfl T.z_isinstance bt_isinstance (pa_cons (pv 0) (pa_cons (pe_bltn (v := .ty "tuple") rfl T.z_tuple bt_tuple rfl) pa_nil))))) (pw_or1 (pt_cmpR op_ne (pe_callB call_len_seq rfl T.z_len PySem.boot_len (pa_cons (pv 0) pa_nil)) pe_int (nomark _)))))
(pss_one (ps_raise raises_cx rfl T.m_BadWeb T.x_BadWeb PySem.F.excBase_ValueError rfl (pa_cons pe_str pa_nil)))
pss_nil)
(pss_cons (ps_if (pt_not (pt_val (pe_call G_is_within hr rfl T.m_is_within T.F_is_within.kp T.b_is_within .nil pass0F (pa_cons (pe_ix ix_tup (pv 0) pe_int (fun _ _ => rfl)) (pa_cons pe_int (pa_cons (pe_glob (v := .int 8) rfl hC_MOST_PLACES ⟨_, rfl⟩) pa_nil))))))
(pss_one (ps_raise raises_cx rfl T.m_BadWeb T.x_BadWeb PySem.F.excBase_ValueError rfl (pa_cons (pe_fstr (pstrs_cons pstr_const (pstrs_cons (pstr_g (pe_glob (v := .int 8) rfl hC_MOST_PLACES ⟨_, rfl⟩) (by decide)) (pstrs_cons pstr_const pstrs_nil)))) pa_nil)))
pss_nil)
(pss_cons (ps_if (pt_not (pt_val (pe_callB call_isinst rfl T.z_isinstance bt_isinstance (pa_cons (pe_ix ix_tup (pv 0) pe_int (fun _ _ => rfl)) (pa_cons (pe_bltn (v := .ty "list") rfl T.z_list bt_list rfl) pa_nil)))))
(pss_one (ps_raise raises_cx rfl T.m_BadWeb T.x_BadWeb PySem.F.excBase_ValueError rfl (pa_cons pe_str pa_nil)))
pss_nil)
(pss_one (ps_expr (pe_call G_look_ties hr rfl T.m_look_ties T.F_look_ties.kp T.b_look_ties .nil passes_cx (pa_cons (pe_ix ix_tup (pv 0) pe_int (fun _ _ => rfl)) (pa_cons (pe_ix ix_tup (pv 0) pe_int (fun _ _ => rfl)) pa_nil)))))))), ?_⟩
  refine ⟨_, rfl, _, _, _, _, _, rfl, rfl, .tup ha, T.k_tuple_tuple, _, rfl, iteF ?_⟩
  refine ⟨_, rfl, a, _, rfl, .inr (SqT.of ha), rfl, _, rfl, iteF ?_⟩
  refine ⟨_, rfl, _, _, _, _, rfl, rfl, SqT.of ha, rfl, n, 0, 8, rfl, _, rfl, ?_⟩
  show if (!(decide (0 ≤ n) && decide (n ≤ 8))) = true then _ else _
  cases e1 : (decide (0 ≤ n) && decide (n ≤ 8)) with
  | false =>
    refine iteT ?_
    refine ⟨⟨trivial, trivial, trivial, trivial⟩, by decide, fun x hx => ⟨(by show 1 ≤ sizeLine; decide), qe ?_ _ (Same.refl _)⟩⟩
    unfold webOk
    rw [e1, Bool.false_and]
  | true =>
    refine iteF ?_
    have z : webOk n ts = tiesOk n [-1, -1] ts := by unfold webOk; rw [e1, Bool.true_and]
    refine ⟨_, rfl, _, _, _, _, rfl, rfl, SqT.of ha, rfl, _, _, _, _, _, rfl, rfl, .lst hl, T.k_list_list, _, rfl, iteF ?_⟩
    refine ⟨_, rfl, _, _, _, _, rfl, rfl, SqT.of ha, rfl, _, rfl, _, _, _, _, rfl, rfl, SqT.of ha, rfl, n, l, xs, ts, rfl, hl, dl, win, fun c H' e => qn (z.trans c) H' e, fun c H' e => qe (z.trans c) H' e⟩
theorem sc_look_kind : FnScope ["kind"] ["kind"] (defScope s_look_kind) := ⟨rfl, rfl, rfl, by decide +kernel, rfl, by decide +kernel, by decide +kernel⟩
theorem ok_kind (T : Txt K mg A D) {k : Nat} : FnOk P w K mg base (CXF P w) (k + 1) A.look_kind D.look_kind ["kind"] (spKind A.er) := by
  refine T.F_look_kind.okF sc_look_kind (fun vs H Q E h => ?_) (fun cdv A' outer s H vs Q E hr h => ?_)
  · obtain ⟨_, rfl, _⟩ := h
    rfl
  obtain ⟨kd, rfl, hk1, hk2, qn, qe⟩ := h
  refine ⟨_, (pss_one (ps_if (pt_cmpR op_notIn_seq (pv 0) (pe_glob (v := .ref A.KINDS) rfl T.m_KINDS rfl) (by with_unfolding_all rfl))
(pss_one (ps_raise raises_cx rfl T.m_BadKind T.x_BadKind PySem.F.excBase_ValueError rfl (pa_cons (pe_fstr (pstrs_cons (pstr_strr 0) (pstrs_cons pstr_const pstrs_nil))) pa_nil)))
pss_nil)), ?_⟩
  refine ⟨_, rfl, _, _, rfl, .inr (T.t_KINDS H), rfl, rfl, _, rfl, ?_⟩
  show if (!inV (.str kd) [.str "longest", .str "most", .str "total"]) = true then _ else _
  rw [kinds_in]
  by_cases c : isKind kd
  · rw [decide_eq_true c]
    exact iteF (qn c)
  · rw [decide_eq_false c]
    refine iteT ?_
    exact ⟨⟨⟨kd, rfl, hk1, hk2⟩, trivial, trivial⟩, by decide, fun x hx => ⟨(by show 1 ≤ sizeLine; decide), qe c⟩⟩
theorem sc_set_count : FnScope ["places"] ["places"] (defScope s_set_count) := ⟨rfl, rfl, rfl, by decide +kernel, rfl, by decide +kernel, by decide +kernel⟩
theorem ok_set_count (T : Txt K mg A D) {k : Nat} : FnOk P w K mg base (CXF P w) (k + 1) A.set_count D.set_count ["places"] spCount := by
  refine T.F_set_count.okF sc_set_count (fun vs H Q E h => ?_) (fun cdv A' outer s H vs Q E hr h => ?_)
  · obtain ⟨_, rfl, _⟩ := h
    rfl
  obtain ⟨n, rfl, hn, q⟩ := h
  refine ⟨_, (pss_one (ps_ret (pe_op op_shl pe_int (pv 0)))), ?_⟩
  refine ⟨_, rfl, _, _, rfl, rfl, ⟨by omega, by omega, by decide⟩, ?_⟩
  dsimp only
  rw [Int.one_mul, Int.toNat_natCast]
  exact_mod_cast q
theorem sc_holds : FnScope ["some", "place"] ["some", "place"] (defScope s_holds) := ⟨rfl, rfl, rfl, by decide +kernel, rfl, by decide +kernel, by decide +kernel⟩
theorem ok_holds (T : Txt K mg A D) {k : Nat} : FnOk P w K mg base (CXF P w) (k + 1) A.holds D.holds ["some", "place"] spHolds := by
  refine T.F_holds.okF sc_holds (fun vs H Q E h => ?_) (fun cdv A' outer s H vs Q E hr h => ?_)
  · obtain ⟨_, _, rfl, _⟩ := h
    rfl
  obtain ⟨S, p, rfl, hp, q⟩ := h
  refine ⟨_, (pss_one (ps_ret (pe_cmpR op_eq (pe_op op_and (pe_op op_shr (pv 0) (pv 1)) pe_int) pe_int (nomark _)))), ?_⟩
  refine ⟨_, rfl, _, rfl, _, _, rfl, rfl, by omega, _, _, rfl, rfl, rfl, ?_⟩
  have e : Builtin.bitAnd ((S : Int) / 2 ^ ((p : Int)).toNat) 1 = ((S / 2 ^ p % 2 : Nat) : Int) := by
    rw [Int.toNat_natCast]
    have z : (S : Int) / 2 ^ p = ((S / 2 ^ p : Nat) : Int) := by
      rw [Int.natCast_ediv, Int.natCast_pow]
      rfl
    rw [z, bitAnd_pp (Int.natCast_nonneg _) (by decide), Int.toNat_natCast]
    show (((S / 2 ^ p) &&& 1 : Nat) : Int) = _
    rw [Nat.and_one_is_mod]
  have b : decide (V.int (Builtin.bitAnd ((S : Int) / 2 ^ ((p : Int)).toNat) 1) = V.int 1) = bit S p := by
    rw [e]
    unfold bit
    rw [Bool.eq_iff_iff, decide_eq_true_iff, beq_iff_eq]
    exact ⟨fun h => by have := V.int.inj h; omega, fun h => by rw [h]; rfl⟩
  show Q (V.bl (decide (V.int (Builtin.bitAnd ((S : Int) / 2 ^ ((p : Int)).toNat) 1) = V.int 1))) H
  rw [b]
  exact q
theorem sc_set_of : FnScope ["places", "some", "place"] ["places"] (defScope s_set_of) := ⟨rfl, rfl, rfl, by decide +kernel, rfl, by decide +kernel, by decide +kernel⟩
theorem ok_set_of (T : Txt K mg A D) {k : Nat} : FnOk P w K mg base (CXF P w) (k + 1) A.set_of D.set_of ["places"] spSetOf := by
  refine T.F_set_of.okF sc_set_of (fun vs H Q E h => ?_) (fun cdv A' outer s H vs Q E hr h => ?_)
  · obtain ⟨_, _, rfl, _⟩ := h
    rfl
  obtain ⟨t, m, rfl, ht, hm, hl, q⟩ := h
  refine ⟨_, (pss_cons (ps_set (i := 1) sc_set_of.nd rfl (Or.inl rfl) pe_int)
(pss_cons (ps_for passesOwn_cx rfl (pi_tup (pv 0)) (pg_name (i := 2) sc_set_of.nd rfl (Or.inl rfl))
(pss_one (ps_set (i := 1) sc_set_of.nd rfl (Or.inl rfl) (pe_op op_or (pv 1) (pe_op op_shl pe_int (pv 2))))))
(pss_one (ps_ret (pv 1))))), ?_⟩
  refine ⟨_, rfl, t, rfl, ⟨_, SqT.of ht⟩, ?_⟩
  refine for_in m.length (fun i σ H' => ∃ v2, σ = [some (.ref t), some (.int ((setN (m.take i) : Nat) : Int)), v2] ∧ Same H H')
    ⟨none, rfl, Same.refl _⟩ ?_ ?_ ?_ ?_
  · rintro i σ H' hi ⟨v2, rfl, e⟩
    exact ⟨_, V.int m[i], SqT.of (e _ _ ht), by rw [List.getElem?_map, List.getElem?_eq_getElem hi]; rfl⟩
  · rintro σ H' ⟨v2, rfl, e⟩
    exact ⟨_, SqT.of (e _ _ ht), by rw [List.length_map]; exact Nat.le_refl _⟩
  · rintro i x σ H2 H3 hi ⟨v2, rfl, e2⟩ ⟨rfl, hx⟩
    have hx2 := hx _ (SqT.of (e2 _ _ ht))
    have hgi : m[i]? = some m[i] := List.getElem?_eq_getElem hi
    rw [List.getElem?_map, hgi] at hx2
    cases hx2
    have hmi := hm _ (List.getElem_mem hi)
    obtain ⟨p, hp⟩ : ∃ p : Nat, m[i] = p := ⟨m[i].toNat, by omega⟩
    have hS : setN (m.take i) < 32 := setN_lt fun p hp => hm p (List.mem_of_mem_take hp)
    have e : Builtin.bitOr ((setN (m.take i) : Nat) : Int) (1 * 2 ^ (m[i]).toNat) = ((setN (m.take (i + 1)) : Nat) : Int) := by
      have e1 : (1 : Int) * 2 ^ (m[i]).toNat = ((2 ^ p : Nat) : Int) := by
        rw [Int.one_mul, hp, Int.toNat_natCast]
        exact_mod_cast rfl
      rw [e1, or_int _ hS p (by omega)]
      congr 1
      unfold setN
      rw [List.take_succ, hgi, List.foldl_append]
      show _ = _ ||| 2 ^ (m[i]).toNat
      rw [hp, Int.toNat_natCast]
    refine ⟨_, rfl, _, rfl, _, _, rfl, rfl, ⟨by omega, by omega, by decide⟩, _, _, rfl, rfl, some (.int m[i]), ?_, e2⟩
    show [_, some (V.int (Builtin.bitOr ((setN (m.take i) : Nat) : Int) (1 * 2 ^ (m[i]).toNat))), _] = _
    rw [e]
  · rintro σ H' ⟨v2, rfl, e⟩
    rw [List.take_length]
    exact ⟨_, rfl, q H' e⟩
theorem sc_place_fewer : FnScope ["some"] ["some"] (defScope s_place_fewer) := ⟨rfl, rfl, rfl, by decide +kernel, rfl, by decide +kernel, by decide +kernel⟩
theorem nd_place_fewer_1 : List.Nodup (["some", "place"] : List Str) := by decide +kernel
theorem ok_place_fewer (T : Txt K mg A D) {k : Nat} (G_holds : FnOk P w K mg base (CXF P w) k A.holds D.holds ["some", "place"] spHolds) : FnOk P w K mg base (CXF P w) (k + 1) A.place_fewer D.place_fewer ["some"] spFewer := by
  refine T.F_place_fewer.okF sc_place_fewer (fun vs H Q E h => ?_) (fun cdv A' outer s H vs Q E hr h => ?_)
  · obtain ⟨_, rfl, _⟩ := h
    rfl
  obtain ⟨S, rfl, hS, q⟩ := h
  have hm : Builtin.Int.intBits (S : Int) ≤ 1000 := by
    have z : Builtin.Int.intBits (S : Int) ≤ 10 := by
      unfold Builtin.Int.intBits
      by_cases c : (S : Int) = 0
      · rw [if_pos (by rw [c]; rfl)]
        omega
      · rw [if_neg (fun z => c (eq_of_beq z))]
        show S.log2 + 1 ≤ 10
        have : S.log2 < 10 := (Nat.log2_lt (by omega)).mpr (by omega)
        omega
    omega
  refine ⟨_, (pss_one (ps_ret (pe_lc rfl (cn_of (N := ["some", "place"]) (js := [some 0, none]) rfl rfl (by decide +kernel) (by decide +kernel) rfl (List.forall_mem_cons.mpr ⟨rfl, fun _ h => nomatch h⟩) (List.forall_mem_cons.mpr ⟨(fun h => nomatch h), (List.forall_mem_cons.mpr ⟨(fun h => nomatch h), (List.forall_mem_cons.mpr ⟨(fun h => nomatch h), (List.forall_mem_cons.mpr ⟨(fun _ => rfl), fun _ h => nomatch h⟩)⟩)⟩)⟩) (List.forall_mem_cons.mpr ⟨(fun j h => (by cases h; exact ⟨rfl, rfl, rfl⟩)), (List.forall_mem_cons.mpr ⟨(fun j h => nomatch h), fun _ h => nomatch h⟩)⟩) rfl) (pi_range1 rfl T.z_range (pa_cons (pe_bm0 PySem.F.plainAttrs_int PySem.F.slot_int_bit_length PySem.F.type_int_bit_length mt_bits (pv 0)) pa_nil)) (fun _ _ _ _ => (pg_name (i := 1) nd_place_fewer_1 rfl (Or.inl rfl) (hf := Or.inr rfl))) (fun _ _ _ _ => (pts_one (pt_val (pe_call G_holds hr rfl T.m_holds T.F_holds.kp T.b_holds .nil pass0F (pa_cons (pv 0) (pa_cons (pv 1) pa_nil)))))) (fun _ _ _ _ => (pe_op op_sub (pv 0) (pe_op op_shl pe_int (pv 1))))))), ?_⟩
  refine ⟨_, rfl, rfl, S, rfl, rfl, _, rfl, by omega, by omega, ?_⟩
  generalize Builtin.Int.intBits (S : Int) = m at hm q
  rw [Int.toNat_natCast]
  refine lcf_in (fun σ => ∃ y, σ = [some (.int S), y]) m (bit S) (fun i => .int ((S - 2 ^ i : Nat) : Int)) ⟨none, rfl⟩ (fun i H2 hi _ => hi) (fun H2 _ => Nat.le_refl _) (by rw [sizeLine_eq]; omega) ?_ ?_
  · rintro Dd i x σ2 H3 H4 Y Z hi e3 hD ⟨y1, rfl⟩ ⟨rfl, rfl⟩ yes no
    have ei : (0 : Int) + (i : Nat) = i := by omega
    rw [ei]
    refine ⟨_, rfl, _, rfl, S, i, rfl, by omega, _, rfl, ite2 (fun c => ?_) (fun c => ?_)⟩
    · refine ⟨_, rfl, _, rfl, _, _, rfl, rfl, ⟨by omega, by omega, by decide⟩, _, _, rfl, rfl, ?_⟩
      refine yes _ _ _ c ⟨_, rfl⟩ (Same.refl _) ?_
      have hle := bit_le c
      have z : (S : Int) - 1 * 2 ^ ((i : Nat) : Int).toNat = ((S - 2 ^ i : Nat) : Int) := by
        rw [Int.one_mul, Int.toNat_natCast, Int.natCast_sub hle, Int.natCast_pow]
        rfl
      dsimp only
      rw [z]
      exact .int
    · exact no _ _ (Bool.eq_false_iff.mpr c) ⟨_, rfl⟩ (Same.refl _)
  · intro Dd ys H3 hD e3 hy dy
    have z : (((List.range m).filter (bit S)).map fun i => PyData.int ((S - 2 ^ i : Nat) : Int)) = (((fewer m S).map fun f => ((f : Nat) : Int))).map PyData.int := by
      unfold fewer spots
      rw [List.map_map, List.map_map]
      rfl
    rw [z] at dy
    rw [dy.ints_of, List.map_map] at hy
    exact q Dd H3 hD e3 hy
theorem sc_least_before : FnScope ["numbers", "some"] ["numbers", "some"] (defScope s_least_before) := ⟨rfl, rfl, rfl, by decide +kernel, rfl, by decide +kernel, by decide +kernel⟩
theorem nd_least_before_1 : List.Nodup (["numbers", "fewer"] : List Str) := by decide +kernel
theorem ok_least_before (T : Txt K mg A D) {k : Nat} (G_place_fewer : FnOk P w K mg base (CXF P w) k A.place_fewer D.place_fewer ["some"] spFewer) : FnOk P w K mg base (CXF P w) (k + 1) A.least_before D.least_before ["numbers", "some"] spLeast := by
  refine T.F_least_before.okF sc_least_before (fun vs H Q E h => ?_) (fun cdv A' outer s H vs Q E hr h => ?_)
  · obtain ⟨_, _, _, _, rfl, _⟩ := h
    rfl
  obtain ⟨l, ns, S, n, rfl, hl, hn, hSn, hS0, hlen, q⟩ := h
  have hS32 := lt32 hn hSn
  refine ⟨_, (pss_one (ps_ret (pe_callB (call_minL rfl) rfl T.z_min bt_min (pa_cons (pe_lc rfl (cn_of (N := ["numbers", "fewer"]) (js := [some 0, none]) rfl rfl (by decide +kernel) (by decide +kernel) rfl (List.forall_mem_cons.mpr ⟨rfl, fun _ h => nomatch h⟩) (List.forall_mem_cons.mpr ⟨(fun h => nomatch h), (List.forall_mem_cons.mpr ⟨(fun h => nomatch h), (List.forall_mem_cons.mpr ⟨(fun _ => rfl), fun _ h => nomatch h⟩)⟩)⟩) (List.forall_mem_cons.mpr ⟨(fun j h => (by cases h; exact ⟨rfl, rfl, rfl⟩)), (List.forall_mem_cons.mpr ⟨(fun j h => nomatch h), fun _ h => nomatch h⟩)⟩) rfl) (pi_list (pe_call G_place_fewer hr rfl T.m_place_fewer T.F_place_fewer.kp T.b_place_fewer .nil pass0F (pa_cons (pv 1) pa_nil))) (fun _ _ _ _ => (pg_name (i := 1) nd_least_before_1 rfl (Or.inl rfl) (hf := Or.inr rfl))) (fun _ _ _ _ => pts_nil) (fun _ _ _ _ => (pe_ix (ix_listK (K := K) rfl) (pv 0) (pv 1) (fun _ _ => rfl)))) pa_nil)))), ?_⟩
  refine ⟨_, rfl, S, rfl, by omega, fun p H1 hp e1 hp1 => ⟨p, rfl, ⟨_, SqL.of hp1⟩, ?_⟩⟩
  have ef : fewer (Builtin.Int.intBits (S : Int)) S = fewer n S := by
    unfold fewer
    rw [spots_any hSn (intBits_lt S)]
  rw [ef] at hp1
  have hflt : ∀ f ∈ fewer n S, f < S := fun f hf => fewer_lt hS32 hn hf
  have hfl : (fewer n S).length ≤ 5 := by
    unfold fewer spots
    rw [List.length_map]
    exact Nat.le_trans (List.length_filter_le _ _) (by rw [List.length_range]; exact hn)
  have hne := fewer_ne hn hSn hS0
  generalize fewer n S = fs at hp1 hflt hfl hne q
  refine lc_in (fun σ => ∃ y, σ = [some (.ref l), y]) fs.length (fun i => .int (ns.getD (fs.getD i 0) 0)) ⟨none, rfl⟩ ?_ ?_ (by rw [sizeLine_eq]; omega) ?_ ?_
  · intro i H2 hi e2
    exact ⟨_, V.int (fs[i] : Nat), SqL.of (e2 _ _ hp1), by unfold natsV; rw [List.getElem?_map, List.getElem?_eq_getElem hi]; rfl⟩
  · intro H2 e2
    exact ⟨_, SqL.of (e2 _ _ hp1), by unfold natsV; rw [List.length_map]; exact Nat.le_refl _⟩
  · rintro Dd i x σ2 H3 H4 N hi e3 hD ⟨y1, rfl⟩ ⟨rfl, hx⟩ fin
    have hx2 := hx _ (SqL.of (e3 _ _ hp1))
    unfold natsV at hx2
    rw [List.getElem?_map, List.getElem?_eq_getElem hi] at hx2
    cases hx2
    have hlt := hflt _ (List.getElem_mem hi)
    have hn2 : fs[i] < ns.length := by omega
    refine ⟨_, rfl, _, rfl, l, _, _, V.int (ns[fs[i]]), rfl, rfl, SqL.of (e3 _ _ (e1 _ _ hl)), ?_, ?_⟩
    · exact atI_nat (by rw [List.getElem?_map, List.getElem?_eq_getElem hn2]; rfl)
    refine fin _ _ _ ⟨_, rfl⟩ (Same.refl _) ?_
    have z : ns.getD (fs.getD i 0) 0 = ns[fs[i]] := by
      rw [List.getD_eq_getElem?_getD (l := fs), List.getElem?_eq_getElem hi]
      show ns.getD fs[i] 0 = _
      rw [List.getD_eq_getElem?_getD, List.getElem?_eq_getElem hn2]
      rfl
    rw [z]
    exact .int
  · intro Dd ys H3 hD e3 hy dy
    have z : (List.range fs.length).map (fun i => PyData.int (ns.getD (fs.getD i 0) 0)) = (fs.map fun f => ns.getD f 0).map .int := by
      rw [map_range_get (fun f => PyData.int (ns.getD f 0)) 0 fs, List.map_map]
      rfl
    rw [z] at dy
    rw [dy.ints_of] at hy
    refine ⟨Dd, fs.map fun f => ns.getD f 0, rfl, SqL.of hy, fun e => hne (List.map_eq_nil_iff.mp e), fun M hM => ?_⟩
    rw [hM.uniq (minL_is (fun e => hne (List.map_eq_nil_iff.mp e)))]
    exact q H3 (e1.trans e3)
theorem sc_leading_out : FnScope ["web", "found", "some", "weights"] ["web"] (defScope s_leading_out) := ⟨rfl, rfl, rfl, by decide +kernel, rfl, by decide +kernel, by decide +kernel⟩
theorem nd_leading_out_1 : List.Nodup (["some", "one", "other", "weight"] : List Str) := by decide +kernel
theorem ok_leading_out (T : Txt K mg A D) {k : Nat} (G_set_count : FnOk P w K mg base (CXF P w) k A.set_count D.set_count ["places"] spCount) (G_holds : FnOk P w K mg base (CXF P w) k A.holds D.holds ["some", "place"] spHolds) : FnOk P w K mg base (CXF P w) (k + 1) A.leading_out D.leading_out ["web"] spLead := by
  refine T.F_leading_out.okF sc_leading_out (fun vs H Q E h => ?_) (fun cdv A' outer s H vs Q E hr h => ?_)
  · obtain ⟨_, _, _, rfl, _⟩ := h
    rfl
  obtain ⟨v, n, ts, rfl, dv, hw, hin, hn, q⟩ := h
  obtain ⟨hn0, hn8, htt⟩ := webOk_of hw
  obtain ⟨a, tl, xs, rfl, ha, hl, dl⟩ := web_of dv
  have hlen : xs.length = ts.length := by rw [← dl.length, List.length_map]
  have hts := hin.len
  have h32 : 2 ^ n ≤ 32 := show 2 ^ n ≤ 2 ^ 5 from Nat.pow_le_pow_right (by decide) hn
  refine ⟨_, (pss_cons (ps_set (i := 1) sc_leading_out.nd rfl (Or.inl rfl) (pe_lst pa_nil))
(pss_cons (ps_for passesOwn_cx rfl (pi_range1 rfl T.z_range (pa_cons (pe_call G_set_count hr rfl T.m_set_count T.F_set_count.kp T.b_set_count .nil pass0F (pa_cons (pe_ix ix_tup (pv 0) pe_int (fun _ _ => rfl)) pa_nil)) pa_nil)) (pg_name (i := 2) sc_leading_out.nd rfl (Or.inr rfl))
(pss_cons (ps_setLC rfl (cn_of (N := ["some", "one", "other", "weight"]) (js := [some 2, none, none, none]) rfl rfl (by decide +kernel) (by decide +kernel) rfl (List.forall_mem_cons.mpr ⟨rfl, fun _ h => nomatch h⟩) (List.forall_mem_cons.mpr ⟨(fun h => nomatch h), (List.forall_mem_cons.mpr ⟨(fun h => nomatch h), (List.forall_mem_cons.mpr ⟨(fun h => nomatch h), (List.forall_mem_cons.mpr ⟨(fun h => nomatch h), (List.forall_mem_cons.mpr ⟨(fun h => nomatch h), (List.forall_mem_cons.mpr ⟨(fun _ => rfl), fun _ h => nomatch h⟩)⟩)⟩)⟩)⟩)⟩) (List.forall_mem_cons.mpr ⟨(fun j h => (by cases h; exact ⟨rfl, rfl, rfl⟩)), (List.forall_mem_cons.mpr ⟨(fun j h => nomatch h), (List.forall_mem_cons.mpr ⟨(fun j h => nomatch h), (List.forall_mem_cons.mpr ⟨(fun j h => nomatch h), fun _ h => nomatch h⟩)⟩)⟩)⟩) rfl) (pi_list (pe_ix ix_tup (pv 0) pe_int (fun _ _ => rfl))) sc_leading_out.nd (k := 3) rfl rfl (fun _ _ _ _ => (pg_tupK (K := K) (n := 3) rfl rfl (pgs_cons (pg_name (i := 1) nd_leading_out_1 rfl (Or.inl rfl) (hf := Or.inr rfl)) (pgs_cons (pg_name (i := 2) nd_leading_out_1 rfl (Or.inl rfl) (hf := Or.inr rfl)) (pgs_cons (pg_name (i := 3) nd_leading_out_1 rfl (Or.inl rfl) (hf := Or.inr rfl)) pgs_nil))) rfl rfl)) (fun _ _ _ _ => (pts_one (pt_cmpR op_ne (pe_call G_holds hr rfl T.m_holds T.F_holds.kp T.b_holds .nil pass0F (pa_cons (pv 0) (pa_cons (pv 1) pa_nil))) (pe_call G_holds hr rfl T.m_holds T.F_holds.kp T.b_holds .nil pass0F (pa_cons (pv 0) (pa_cons (pv 2) pa_nil))) (nomark _)))) (fun _ _ _ _ => (pv 3)) (by rfl))
(pss_one (ps_expr (pe_bm PySem.F.plainAttrs_list PySem.F.slot_list_append PySem.F.type_list_append mt_append (pv 1) (pa_cons (pe_callB (call_sum rfl) rfl T.z_sum bt_sum (pa_cons (pv 3) pa_nil)) pa_nil))))))
(pss_one (ps_ret (pv 1))))), ?_⟩
  refine ⟨Nat.zero_le _, fun f hf => ?_⟩
  have e0 : Same H (upd H f (.lst [])) := same_new hf
  refine ⟨_, rfl, _, _, _, _, rfl, rfl, SqT.of (e0 _ _ ha), rfl, n, rfl, by omega, _, rfl, Int.le_trans (by decide) (Int.natCast_nonneg _), Int.lt_of_le_of_lt (Int.ofNat_le.mpr h32) (by decide), ?_⟩
  rw [Int.toNat_natCast]
  refine for_in (2 ^ n) (fun i σ H' => ∃ v2 v3, σ = [some (.ref a), some (.ref f), v2, v3] ∧ Same H H' ∧ H' f = some (.lst (((List.range i).map (cutZ ts)).map .int)))
    ⟨none, none, rfl, e0, upd_same⟩ (fun i σ H' hi _ => hi) (fun σ H' _ => Nat.le_refl _) ?_ ?_
  · rintro S x σ H2 H3 hi ⟨v2, v3, rfl, e2, hg⟩ ⟨rfl, rfl⟩
    have ei : (0 : Int) + (S : Nat) = S := by omega
    rw [ei]
    refine ⟨_, rfl, _, _, _, _, rfl, rfl, SqT.of (e2 _ _ ha), rfl, tl, rfl, ⟨xs, SqL.of (e2 _ _ hl)⟩, ?_⟩
    refine lcf_in (fun σ => ∃ x y z, σ = [some (.int S), x, y, z]) ts.length (fun i => cne S (ts.getD i [])) (fun i => .int (w3 (ts.getD i []))) ⟨none, none, none, rfl⟩ ?_ ?_ (by rw [sizeLine_eq]; omega) ?_ ?_
    · intro i H4 hi4 e4
      have hx : i < xs.length := by omega
      exact ⟨xs, xs[i], SqL.of (e4 _ _ (e2 _ _ hl)), List.getElem?_eq_getElem hx⟩
    · intro H4 e4
      exact ⟨xs, SqL.of (e4 _ _ (e2 _ _ hl)), by omega⟩
    · rintro Dd i x σ2 H4 H5 Y Z hi4 e4 hD ⟨x1, y1, z1, rfl⟩ ⟨rfl, hx⟩ yes no
      obtain ⟨t, htt2⟩ : ∃ t, ts[i]? = some t := ⟨ts[i], List.getElem?_eq_getElem hi4⟩
      obtain ⟨ta, hxa, hta⟩ := tie_at (dl.mono (e2.trans e4)) htt2
      have hx2 := hx xs (SqL.of (e4 _ _ (e2 _ _ hl)))
      rw [hxa] at hx2
      cases hx2
      have htd : ts.getD i [] = t := by rw [List.getD_eq_getElem?_getD, htt2]; rfl
      obtain ⟨pa, pb, pc, rfl, h1, h2, h3, h4, h5, h6⟩ := htt t (List.mem_of_getElem? htt2)
      obtain ⟨pa, rfl⟩ : ∃ m : Nat, pa = m := ⟨pa.toNat, by omega⟩
      obtain ⟨pb, rfl⟩ : ∃ m : Nat, pb = m := ⟨pb.toNat, by omega⟩
      refine ⟨ta, _, rfl, SqT.of hta, rfl, _, _, rfl, _, _, rfl, _, _, rfl, rfl, ?_⟩
      refine ⟨_, rfl, _, rfl, S, pa, rfl, by omega, _, rfl, _, rfl, S, pb, rfl, by omega, rfl, _, rfl, ?_⟩
      have hc : cne S (ts.getD i []) = !decide (bit S pa = bit S pb) := by
        rw [htd]
        rfl
      have hb : (!decide (V.bl (bit S pa) = V.bl (bit S pb))) = cne S (ts.getD i []) := by
        rw [hc, dec_bl]
        cases bit S pa <;> cases bit S pb <;> rfl
      rw [hb]
      refine ite2 (fun c => ?_) (fun c => ?_)
      · refine ⟨_, rfl, yes _ _ _ c ⟨_, _, _, rfl⟩ (Same.refl _) ?_⟩
        rw [htd]
        exact .int
      · exact no _ _ (Bool.eq_false_iff.mpr c) ⟨_, _, _, rfl⟩ (Same.refl _)
    · intro Dd ys H4 hD e4 hy dy
      have z : (((List.range ts.length).filter fun i => cne S (ts.getD i [])).map fun i => PyData.int (w3 (ts.getD i []))) = (((List.range ts.length).filter fun i => cne S (ts.getD i [])).map fun i => w3 (ts.getD i [])).map .int := by
        rw [List.map_map]
        rfl
      rw [z] at dy
      rw [dy.ints_of] at hy
      have hg4 := e4 _ _ hg
      have hfl : (((List.range S).map (cutZ ts)).map V.int).length < sizeLine := by
        rw [List.length_map, List.length_map, List.length_range, sizeLine_eq]
        omega
      refine ⟨_, rfl, .inl ⟨rfl, _, SqL.of hg4⟩, _, rfl, Dd, _, rfl, SqL.of hy, _, _, _, rfl, rfl, hg4, hfl, _, _, rfl, (e2.trans e4).put hf, ?_⟩
      rw [upd_same, cut_sum, List.range_succ, List.map_append, List.map_append]
      rfl
  · rintro σ H' ⟨v2, v3, rfl, e, hg⟩
    exact ⟨_, rfl, q f H' hf e hg⟩
theorem nb_snoc (ts : List (List Int)) (t : List Int) (p : Nat) : nb (ts ++ [t]) p = nb ts p + nb1 p t := by
  unfold nb
  rw [List.map_append, List.sum_append]
  rfl
theorem sc_neighbours : FnScope ["web", "found", "one", "other", "weight"] ["web"] (defScope s_neighbours) := ⟨rfl, rfl, rfl, by decide +kernel, rfl, by decide +kernel, by decide +kernel⟩
theorem nd_neighbours_1 : List.Nodup (["place"] : List Str) := by decide +kernel
theorem ok_neighbours (T : Txt K mg A D) {k : Nat} : FnOk P w K mg base (CXF P w) (k + 1) A.neighbours D.neighbours ["web"] spNeigh := by
  refine T.F_neighbours.okF sc_neighbours (fun vs H Q E h => ?_) (fun cdv A' outer s H vs Q E hr h => ?_)
  · obtain ⟨_, _, _, rfl, _⟩ := h
    rfl
  obtain ⟨v, n, ts, rfl, dv, hw, hin, hn, q⟩ := h
  obtain ⟨hn0, hn8, htt⟩ := webOk_of hw
  obtain ⟨a, tl, xs, rfl, ha, hl, dl⟩ := web_of dv
  have hlen : xs.length = ts.length := by rw [← dl.length, List.length_map]
  refine ⟨_, (pss_cons (ps_setLC rfl (cn_none (N := ["place"]) (js := [none]) rfl rfl (by decide +kernel) (by decide +kernel) (by decide +kernel) rfl (by decide) rfl) (pi_range1 rfl T.z_range (pa_cons (pe_ix ix_tup (pv 0) pe_int (fun _ _ => rfl)) pa_nil)) sc_neighbours.nd (k := 1) rfl rfl (fun _ _ _ _ => (pg_name (i := 0) nd_neighbours_1 rfl (Or.inl rfl) (hf := Or.inr rfl))) (fun _ _ _ _ => pts_nil) (fun _ _ _ _ => pe_int) (by rfl))
(pss_cons (ps_for passesOwn_cx rfl (pi_list (pe_ix ix_tup (pv 0) pe_int (fun _ _ => rfl))) (pg_tup rfl (pgs_cons (pg_name (i := 2) sc_neighbours.nd rfl (Or.inl rfl)) (pgs_cons (pg_name (i := 3) sc_neighbours.nd rfl (Or.inl rfl)) (pgs_cons (pg_name (i := 4) sc_neighbours.nd rfl (Or.inl rfl)) pgs_nil))))
(pss_cons (ps_augS (pv 1) (pv 2) get_list (pe_op op_shl pe_int (pv 3)) ip_add set_list)
(pss_one (ps_augS (pv 1) (pv 3) get_list (pe_op op_shl pe_int (pv 2)) ip_add set_list))))
(pss_one (ps_ret (pv 1))))), ?_⟩
  refine ⟨_, rfl, _, _, _, _, rfl, rfl, SqT.of ha, rfl, (n : Int), rfl, by omega, by omega, ?_⟩
  rw [Int.toNat_natCast]
  refine lc_in (fun σ => ∃ x, σ = [x]) n (fun i => .int 0) ⟨none, rfl⟩ (fun i H3 hi e3 => hi) (fun H3 e3 => Nat.le_refl _) (by rw [sizeLine_eq]; omega) ?_ ?_
  · rintro Dd i x σ2 H3 H4 N hi e3 hD ⟨x1, rfl⟩ ⟨rfl, rfl⟩ fin
    exact fin _ _ _ ⟨_, rfl⟩ (Same.refl _) .int
  intro f ys H3 hf e3 hy dy
  have z0 : (List.range n).map (fun _ => PyData.int 0) = ((List.range n).map fun p => ((nb [] p : Nat) : Int)).map .int := by
    rw [List.map_map]
    rfl
  rw [z0] at dy
  rw [dy.ints_of] at hy
  refine ⟨_, rfl, _, _, _, _, rfl, rfl, SqT.of (e3 _ _ ha), rfl, tl, rfl, ⟨xs, SqL.of (e3 _ _ hl)⟩, ?_⟩
  refine for_in ts.length (fun i σ H' => ∃ v2 v3 v4, σ = [some (.ref a), some (.ref f), v2, v3, v4] ∧ Same H H' ∧ H' f = some (.lst (((List.range n).map fun p => ((nb (ts.take i) p : Nat) : Int)).map .int)))
    ⟨_, _, _, rfl, e3, hy⟩ ?_ ?_ ?_ ?_
  · rintro i σ H' hi ⟨v2, v3, v4, rfl, e, hg⟩
    have hx : i < xs.length := by omega
    exact ⟨xs, xs[i], SqL.of (e _ _ hl), List.getElem?_eq_getElem hx⟩
  · rintro σ H' ⟨v2, v3, v4, rfl, e, hg⟩
    exact ⟨xs, SqL.of (e _ _ hl), by omega⟩
  · rintro i x σ H4 H5 hi ⟨v2, v3, v4, rfl, e, hg⟩ ⟨rfl, hx⟩
    obtain ⟨t, htt2⟩ : ∃ t, ts[i]? = some t := ⟨ts[i], List.getElem?_eq_getElem hi⟩
    obtain ⟨ta, hxa, hta⟩ := tie_at (dl.mono e) htt2
    have hx2 := hx xs (SqL.of (e _ _ hl))
    rw [hxa] at hx2
    cases hx2
    have htk : ts.take (i + 1) = ts.take i ++ [t] := by rw [List.take_succ, htt2]; rfl
    obtain ⟨pa, pb, pc, rfl, h1, h2, h3, h4, h5, h6⟩ := htt t (List.mem_of_getElem? htt2)
    obtain ⟨pa, rfl⟩ : ∃ m : Nat, pa = m := ⟨pa.toNat, by omega⟩
    obtain ⟨pb, rfl⟩ : ∃ m : Nat, pb = m := ⟨pb.toNat, by omega⟩
    refine ⟨ta, _, rfl, SqT.of hta, rfl, _, _, rfl, _, _, rfl, _, _, rfl, rfl, ?_⟩
    have sh : ∀ b : Nat, (1 : Int) * 2 ^ ((b : Int)).toNat = ((2 ^ b : Nat) : Int) := fun b => by
      rw [Int.one_mul, Int.toNat_natCast]
      exact_mod_cast rfl
    have ix : ∀ {g : Nat → Int} {b : Nat}, b < n → ixN (((List.range n).map g).map V.int).length (b : Int) = some b := fun {g b} hb => by
      simp only [List.length_map, List.length_range]
      unfold ixN
      rw [if_pos (by omega), if_pos (by omega)]
      congr 1
    refine ⟨_, rfl, _, rfl, f, _, pa, .int ((nb (ts.take i) pa : Nat) : Int), rfl, rfl, SqL.of hg, ?_, _, rfl, _, _, rfl, rfl, ⟨by omega, by omega, by decide⟩, _, _, rfl, rfl, f, _, _, pa, rfl, rfl, hg, ix (by omega), ?_⟩
    · rw [List.getElem?_map, List.getElem?_map, List.getElem?_range (by omega)]
      rfl
    have hg1 : upd H5 f (.lst ((((List.range n).map fun p => ((nb (ts.take i) p : Nat) : Int)).map V.int).set pa (V.int (((nb (ts.take i) pa : Nat) : Int) + 1 * 2 ^ ((pb : Int)).toNat)))) f = some (.lst (((List.range n).map fun p => ((nb (ts.take i) p + (if pa = p then 2 ^ pb else 0) : Nat) : Int)).map .int)) := by
      rw [upd_same, ← List.map_set, set_range (f' := fun p => ((nb (ts.take i) p + (if pa = p then 2 ^ pb else 0) : Nat) : Int))]
      · intro g hgk
        rw [if_neg (fun z => hgk z.symm), Nat.add_zero]
      · rw [if_pos rfl, sh, Int.natCast_add]
    have e1 : Same H (upd H5 f (.lst ((((List.range n).map fun p => ((nb (ts.take i) p : Nat) : Int)).map V.int).set pa (V.int (((nb (ts.take i) pa : Nat) : Int) + 1 * 2 ^ ((pb : Int)).toNat))))) := e.put hf
    refine ⟨_, rfl, _, rfl, f, _, pb, .int ((nb (ts.take i) pb + (if pa = pb then 2 ^ pb else 0) : Nat) : Int), rfl, rfl, SqL.of hg1, ?_, _, rfl, _, _, rfl, rfl, ⟨by omega, by omega, by decide⟩, _, _, rfl, rfl, f, _, _, pb, rfl, rfl, hg1, ix (by omega), _, _, _, rfl, e1.put hf, ?_⟩
    · rw [List.getElem?_map, List.getElem?_map, List.getElem?_range (by omega)]
      rfl
    · rw [upd_same, ← List.map_set, set_range (f' := fun p => ((nb (ts.take (i + 1)) p : Nat) : Int))]
      · intro g hgk
        rw [htk, nb_snoc]
        show _ = ((nb (ts.take i) g + ((if pa = g then 2 ^ pb else 0) + (if pb = g then 2 ^ pa else 0)) : Nat) : Int)
        rw [if_neg (fun z : pb = g => hgk z.symm), Nat.add_zero]
      · rw [htk, nb_snoc]
        show ((nb (ts.take i) pb + ((if pa = pb then 2 ^ pb else 0) + (if pb = pb then 2 ^ pa else 0)) : Nat) : Int) = _
        rw [if_pos rfl, sh, ← Nat.add_assoc]
        exact Int.natCast_add _ _
  · rintro σ H' ⟨v2, v3, v4, rfl, e, hg⟩
    rw [List.take_length] at hg
    exact ⟨_, rfl, q f H' hf e hg⟩
theorem sc_prices : FnScope ["web", "out", "found", "some"] ["web"] (defScope s_prices) := ⟨rfl, rfl, rfl, by decide +kernel, rfl, by decide +kernel, by decide +kernel⟩
theorem ok_prices (T : Txt K mg A D) {k : Nat} (G_look_web : FnOk P w K mg base (CXF P w) k A.look_web D.look_web ["web"] (spWeb A.er)) (G_leading_out : FnOk P w K mg base (CXF P w) k A.leading_out D.leading_out ["web"] spLead) (G_least_before : FnOk P w K mg base (CXF P w) k A.least_before D.least_before ["numbers", "some"] spLeast) :
    FnOk P w K mg base (CXF P w) (k + 1) A.prices D.prices ["web"] (spPrices A.er) := by
  refine T.F_prices.okF sc_prices (fun vs H Q E h => ?_) (fun cdv A' outer s H vs Q E hr h => ?_)
  · obtain ⟨_, _, _, rfl, _⟩ := h
    rfl
  obtain ⟨v, n, ts, rfl, dv, win, h5, q1, q2⟩ := h
  refine ⟨_, (pss_cons (ps_expr (pe_call G_look_web hr rfl T.m_look_web T.F_look_web.kp T.b_look_web .nil passes_cx (pa_cons (pv 0) pa_nil)))
(pss_cons (ps_set (i := 1) sc_prices.nd rfl (Or.inl rfl) (pe_call G_leading_out hr rfl T.m_leading_out T.F_leading_out.kp T.b_leading_out .nil pass0F (pa_cons (pv 0) pa_nil)))
(pss_cons (ps_set (i := 2) sc_prices.nd rfl (Or.inl rfl) (pe_lst (pa_cons pe_int pa_nil)))
(pss_cons (ps_for passesOwn_cx rfl (pi_range2 rfl T.z_range (pa_cons pe_int (pa_cons (pe_callB call_len_seq rfl T.z_len PySem.boot_len (pa_cons (pv 1) pa_nil)) pa_nil))) (pg_name (i := 3) sc_prices.nd rfl (Or.inl rfl))
(pss_one (ps_expr (pe_bm PySem.F.plainAttrs_list PySem.F.slot_list_append PySem.F.type_list_append mt_append (pv 2) (pa_cons (pe_op op_add (pe_call G_least_before hr rfl T.m_least_before T.F_least_before.kp T.b_least_before .nil pass0F (pa_cons (pv 2) (pa_cons (pv 3) pa_nil))) (pe_ix ix_list (pv 1) (pv 3) (fun _ _ => rfl))) pa_nil)))))
(pss_one (ps_ret (pv 2))))))), ?_⟩
  refine ⟨_, rfl, v, n, ts, rfl, dv, win, fun hw H1 e1 => ?_, fun hw H1 e1 => q2 hw H1 e1⟩
  obtain ⟨hn0, _, _⟩ := webOk_of hw
  obtain ⟨N, rfl⟩ : ∃ N : Nat, n = N := ⟨n.toNat, by omega⟩
  have hN : N ≤ 5 := by have := h5 hw; omega
  have h32 : 2 ^ N ≤ 32 := show 2 ^ N ≤ 2 ^ 5 from Nat.pow_le_pow_right (by decide) hN
  have hpos := two_pos N
  refine ⟨_, rfl, v, N, ts, rfl, dv.mono e1, hw, win, hN, fun ol H2 hol e2 ho => ?_⟩
  refine ⟨(by show 1 ≤ sizeLine; decide), fun f hf => ?_⟩
  obtain ⟨s3, n3⟩ := new_pair (o := .lst [V.int 0]) hf
  have hlo : ((((List.range (2 ^ N)).map (cutZ ts)).map V.int).length : Int) = ((2 ^ N : Nat) : Int) := by rw [List.length_map, List.length_map, List.length_range]
  refine ⟨_, rfl, _, _, rfl, .inl (SqL.of (s3 _ _ ho)), _, _, rfl, ?_⟩
  rw [hlo]
  generalize hM : 2 ^ N = M at h32 hpos hlo ho
  refine ⟨⟨by omega, by omega, by omega, by omega⟩, ?_⟩
  have hto : ((M : Int) - 1).toNat = M - 1 := by omega
  rw [hto]
  refine for_in (M - 1) (fun i σ H' => ∃ v3, σ = [some v, some (.ref ol), some (.ref f), v3] ∧ Same H2 H' ∧ H' f = some (.lst ((prs N ts (i + 1)).map .int)))
    ⟨none, rfl, s3, n3⟩ (fun i σ H' hi _ => hi) (fun σ H' _ => Nat.le_refl _) ?_ ?_
  · rintro i x σ H4 H5 hi ⟨v3, rfl, e4, hg⟩ ⟨rfl, rfl⟩
    have ei : (1 : Int) + (i : Nat) = ((i + 1 : Nat) : Int) := by omega
    rw [ei]
    have hlt : i + 1 < 2 ^ N := by omega
    have hl1 : ((prs N ts (i + 1)).map V.int).length = i + 1 := by rw [List.length_map, prs_len]
    refine ⟨_, rfl, .inl ⟨rfl, _, SqL.of hg⟩, _, rfl, _, rfl, f, prs N ts (i + 1), i + 1, N, rfl, hg, hN, hlt, by omega, by rw [prs_len]; exact Nat.le_refl _, fun H6 e6 => ?_⟩
    have ho6 := e6 _ _ (e4 _ _ ho)
    have hg6 := e6 _ _ hg
    have hat : atI (((List.range M).map (cutZ ts)).map V.int) (((i + 1 : Nat) : Int)) = some (.int (cutZ ts (i + 1))) := by
      refine atI_nat ?_
      rw [List.getElem?_map, List.getElem?_map, List.getElem?_range (by omega)]
      rfl
    refine ⟨_, rfl, _, rfl, ol, _, _, _, rfl, rfl, SqL.of ho6, hat, _, _, rfl, rfl, _, _, _, rfl, rfl, hg6, by rw [hl1, sizeLine_eq]; omega, _, rfl, (e4.trans e6).put hf, ?_⟩
    rw [upd_same]
    show _ = some (HO.lst ((prs N ts (i + 1) ++ [_]).map V.int))
    rw [List.map_append]
    rfl
  · rintro σ H' ⟨v3, rfl, e, hg⟩
    have z : M - 1 + 1 = 2 ^ N := by omega
    rw [z] at hg
    exact ⟨_, rfl, q1 hw f H' ((e1.trans e2).free hf) ((e1.trans e2).trans e) hg⟩
theorem sc_least_total : FnScope ["web"] ["web"] (defScope s_least_total) := ⟨rfl, rfl, rfl, by decide +kernel, rfl, by decide +kernel, by decide +kernel⟩
theorem ok_least_total (T : Txt K mg A D) {k : Nat} (G_prices : FnOk P w K mg base (CXF P w) k A.prices D.prices ["web"] (spPrices A.er)) : FnOk P w K mg base (CXF P w) (k + 1) A.least_total D.least_total ["web"] (spLeastT A.er) := by
  refine T.F_least_total.okF sc_least_total (fun vs H Q E h => ?_) (fun cdv A' outer s H vs Q E hr h => ?_)
  · obtain ⟨_, _, _, rfl, _⟩ := h
    rfl
  obtain ⟨v, n, ts, rfl, dv, win, h5, q1, q2⟩ := h
  refine ⟨_, (pss_one (ps_ret (pe_ix ix_list (pe_call G_prices hr rfl T.m_prices T.F_prices.kp T.b_prices .nil passes_cx (pa_cons (pv 0) pa_nil)) (pe_un un_neg pe_int) (fun _ _ => rfl)))), ?_⟩
  refine ⟨_, rfl, v, n, ts, rfl, dv, win, h5, fun hw l H1 hl e1 hl1 => ?_, q2⟩
  have hpos := two_pos n.toNat
  have hne : prs n.toNat ts (2 ^ n.toNat) ≠ [] := fun e => by
    have := prs_len n.toNat ts (2 ^ n.toNat)
    rw [e] at this
    have z : 0 = 2 ^ n.toNat := this
    omega
  refine ⟨_, rfl, l, _, _, _, rfl, rfl, SqL.of hl1, atI_neg1 hne, ?_⟩
  rw [prs_len, prs_get (by omega)]
  exact q1 hw H1 e1
theorem putF_lt {f : Str} {v : V} {fs : List (Str × V)} {n : Nat} (h : fs.length ≤ n) : (putF f v fs).length ≤ n + 1 := by
  have := length_putF f v fs
  omega
theorem sc_Walk_init : FnScope ["self", "web", "kind", "bound"] ["self", "web", "kind", "bound"] (defScope s_Walk_init) := ⟨rfl, rfl, rfl, by decide +kernel, rfl, by decide +kernel, by decide +kernel⟩
theorem ok_Walk_init (T : Txt K mg A D) {k : Nat} (G_set_count : FnOk P w K mg base (CXF P w) k A.set_count D.set_count ["places"] spCount) (G_leading_out : FnOk P w K mg base (CXF P w) k A.leading_out D.leading_out ["web"] spLead) (G_neighbours : FnOk P w K mg base (CXF P w) k A.neighbours D.neighbours ["web"] spNeigh) :
    FnOk P w K mg base (CXF P w) (k + 1) A.Walk_init D.Walk_init ["self", "web", "kind", "bound"] (spWInit A.Walk) := by
  refine T.F_Walk_init.okF sc_Walk_init (fun vs H Q E h => ?_) (fun cdv A' outer s H vs Q E hr h => ?_)
  · obtain ⟨_, _, _, _, rfl, _⟩ := h
    rfl
  obtain ⟨x, dx, v, W, rfl, hx, dv, hw, win, hn, q⟩ := h
  obtain ⟨a, tl0, xs, rfl, ha, hl, dl⟩ := web_of dv
  have ax : a ≠ x := fun z => by rw [z, hx] at ha; cases ha
  -- what is handed in stays, but for x
  have stay : ∀ {Hz : Hp} {o : HO}, Same (mask x H) Hz → Same (mask x H) (upd Hz x o) := fun {Hz o} e b u z => by
    have := (mask_some z).1
    rw [upd_ne this]
    exact e b u z
  have dwm : Dat (mask x H) (webD W.n W.ts) (.ref a) := by
    refine web_mk ((mask_ne ax).trans ha) ((mask_ne fun z => by rw [z, hx] at hl; cases hl).trans hl) (ties_mono (fun c ys z => ?_) dl)
    exact (mask_ne fun y => by rw [y, hx] at z; cases z).trans z
  have hC := T.cl_Walk
  refine ⟨_, (pss_cons (ps_fld (pv 0) (pe_ix ix_tup (pv 1) pe_int (fun _ _ => rfl)) rfl)
(pss_cons (ps_fld (pv 0) (pe_op op_sub (pe_call G_set_count hr rfl T.m_set_count T.F_set_count.kp T.b_set_count .nil pass0F (pa_cons (pe_ix ix_tup (pv 1) pe_int (fun _ _ => rfl)) pa_nil)) pe_int) rfl)
(pss_cons (ps_fld (pv 0) (pv 2) rfl)
(pss_cons (ps_fld (pv 0) (pv 3) rfl)
(pss_cons (ps_fld (pv 0) (pe_call G_leading_out hr rfl T.m_leading_out T.F_leading_out.kp T.b_leading_out .nil pass0F (pa_cons (pv 1) pa_nil)) rfl)
(pss_one (ps_fld (pv 0) (pe_call G_neighbours hr rfl T.m_neighbours T.F_neighbours.kp T.b_neighbours .nil pass0F (pa_cons (pv 1) pa_nil)) rfl))))))), ?_⟩
  refine ⟨_, rfl, _, _, _, _, rfl, rfl, SqT.of ha, rfl, _, rfl, x, A.Walk, dx, _, rfl, hx, hC, T.n_Walk_places, (by show 0 < 1000; decide), ?_⟩
  have e1 : Same (mask x H) (upd H x (.ins A.Walk dx (putF "places" (.int W.n) []))) := stay mask_same
  have ha1 := e1 _ _ ((mask_ne ax).trans ha)
  have l1 : ∀ {v : V}, (putF "places" v []).length ≤ 1 := putF_lt (Nat.zero_le _)
  have l2 : ∀ {v v' : V}, (putF "every" v (putF "places" v' [])).length ≤ 2 := putF_lt l1
  have l3 : ∀ {v v' v'' : V}, (putF "kind" v (putF "every" v' (putF "places" v'' []))).length ≤ 3 := putF_lt l2
  have l4 : ∀ {v v' v'' v3 : V}, (putF "bound" v (putF "kind" v' (putF "every" v'' (putF "places" v3 [])))).length ≤ 4 := putF_lt l3
  have l5 : ∀ {v v' v'' v3 v4 : V}, (putF "out" v (putF "bound" v' (putF "kind" v'' (putF "every" v3 (putF "places" v4 []))))).length ≤ 5 := putF_lt l4
  refine ⟨_, rfl, _, _, _, _, rfl, rfl, SqT.of ha1, rfl, W.n, rfl, by omega, _, _, rfl, rfl, _, rfl, x, A.Walk, dx, _, rfl, upd_same, hC, T.n_Walk_every, Nat.lt_of_le_of_lt l1 (by decide), ?_⟩
  refine ⟨_, rfl, _, rfl, x, A.Walk, dx, _, rfl, upd_same, hC, T.n_Walk_kind, Nat.lt_of_le_of_lt l2 (by decide), ?_⟩
  refine ⟨_, rfl, _, rfl, x, A.Walk, dx, _, rfl, upd_same, hC, T.n_Walk_bound, Nat.lt_of_le_of_lt l3 (by decide), ?_⟩
  have e4 := stay (o := .ins A.Walk dx (putF "bound" (.int W.bd) (putF "kind" (.str W.kd) (putF "every" (.int (((2 ^ W.n : Nat) : Int) - 1)) (putF "places" (.int W.n) []))))) (stay (o := .ins A.Walk dx (putF "kind" (.str W.kd) (putF "every" (.int (((2 ^ W.n : Nat) : Int) - 1)) (putF "places" (.int W.n) [])))) (stay (o := .ins A.Walk dx (putF "every" (.int (((2 ^ W.n : Nat) : Int) - 1)) (putF "places" (.int W.n) []))) e1))
  refine ⟨_, rfl, .ref a, W.n, W.ts, rfl, dwm.mono e4, hw, win, hn, fun ol H5 hol e5 ho5 => ⟨_, rfl, x, A.Walk, dx, _, rfl, e5 _ _ upd_same, hC, T.n_Walk_out, Nat.lt_of_le_of_lt l4 (by decide), ?_⟩⟩
  have olx : ol ≠ x := (ne_of_none upd_same hol).symm
  have e6 := stay (o := .ins A.Walk dx (putF "out" (.ref ol) (putF "bound" (.int W.bd) (putF "kind" (.str W.kd) (putF "every" (.int (((2 ^ W.n : Nat) : Int) - 1)) (putF "places" (.int W.n) [])))))) (e4.trans e5)
  refine ⟨_, rfl, .ref a, W.n, W.ts, rfl, dwm.mono e6, hw, win, hn, fun tl H7 htl e7 ht7 => ⟨_, rfl, x, A.Walk, dx, _, rfl, e7 _ _ upd_same, hC, T.n_Walk_tied, Nat.lt_of_le_of_lt l5 (by decide), ?_⟩⟩
  have tlx : tl ≠ x := (ne_of_none upd_same htl).symm
  refine q _ (stay (e6.trans e7)) ⟨dx, ol, tl, upd_same, ?_, ?_⟩
  · rw [upd_ne olx]
    exact e7 _ _ ((upd_ne olx).trans ho5)
  · rw [upd_ne tlx]
    exact ht7
theorem sc_Walk_beginning : FnScope ["self"] ["self"] (defScope s_Walk_beginning) := ⟨rfl, rfl, rfl, by decide +kernel, rfl, by decide +kernel, by decide +kernel⟩
theorem ok_Walk_beginning (T : Txt K mg A D) {k : Nat} : FnOk P w K mg base (CXF P w) (k + 1) A.Walk_beginning D.Walk_beginning ["self"] (spBegin A.Walk) := by
  refine T.F_Walk_beginning.okF sc_Walk_beginning (fun vs H Q E h => ?_) (fun cdv A' outer s H vs Q E hr h => ?_)
  · obtain ⟨_, _, rfl, _⟩ := h
    rfl
  obtain ⟨x, W, rfl, hW, q⟩ := h
  obtain ⟨dx, ol, tl, hx, ho, ht⟩ := hW
  refine ⟨_, (pss_cons (ps_if (pt_cmpR op_eq (pe_fld (pv 0) rfl) pe_str (nomark _))
(pss_one (ps_ret (pe_tup (pa_cons pe_int (pa_cons pe_int pa_nil)))))
pss_nil)
(pss_one (ps_ret (pe_tup (pa_cons pe_int (pa_cons (pe_tup pa_nil) pa_nil)))))), ?_⟩
  refine ⟨_, rfl, x, A.Walk, dx, _, _, rfl, hx, T.cl_Walk, T.n_Walk_kind, walk_kind _ _ _, rfl, _, rfl, ite_str (fun c => ?_) fun c => ?_⟩
  · refine ⟨(by show 2 ≤ sizeLine; decide), fun p hp => ?_⟩
    obtain ⟨s1, n1⟩ := new_pair (o := .tup [V.int 0, V.int 0]) hp
    refine q p _ s1 ?_
    rw [flag_t c]
    unfold begK
    rw [if_pos c]
    exact ⟨0, rfl, n1⟩
  · refine ⟨(by show 0 ≤ sizeLine; decide), fun p hp => ⟨(by show 2 ≤ sizeLine; decide), fun p2 hp2 => ?_⟩⟩
    obtain ⟨s1, n1⟩ := new_pair (o := .tup []) hp
    obtain ⟨s2, n2⟩ := new_pair (o := .tup [V.int 0, V.ref p]) hp2
    refine q p2 _ (s1.trans s2) ?_
    rw [flag_f c]
    unfold begK
    rw [if_neg c]
    exact ⟨p, n2, s2 _ _ n1⟩
theorem sc_Walk_last_then : FnScope ["self", "pair", "place", "gone", "last"] ["self", "pair", "place"] (defScope s_Walk_last_then) := ⟨rfl, rfl, rfl, by decide +kernel, rfl, by decide +kernel, by decide +kernel⟩
theorem ok_Walk_last_then (T : Txt K mg A D) {k : Nat} (G_set_of : FnOk P w K mg base (CXF P w) k A.set_of D.set_of ["places"] spSetOf) : FnOk P w K mg base (CXF P w) (k + 1) A.Walk_last_then D.Walk_last_then ["self", "pair", "place"] (spLast A.Walk) := by
  refine T.F_Walk_last_then.okF sc_Walk_last_then (fun vs H Q E h => ?_) (fun cdv A' outer s H vs Q E hr h => ?_)
  · obtain ⟨_, _, _, _, _, _, rfl, _⟩ := h
    rfl
  obtain ⟨x, q, W, ky, d, p, rfl, hW, wi, hk, pk, ok, hp, hb, qn, qs⟩ := h
  obtain ⟨dx, ol, tl, hx, ho, ht⟩ := hW
  have ntot : ¬ W.kd = "total" := by rw [hk]; decide
  rw [flag_f ntot] at pk qs
  obtain ⟨c, hq, hc⟩ : ∃ c, H q = some (.tup [.int ky.1, .ref c]) ∧ H c = some (.tup (ky.2.map V.int)) := pk
  obtain ⟨o1, o2⟩ := ok.oth ntot
  have hn := wi.n5
  have hS := lt32 hn ok.lt
  have m5 : ∀ p ∈ ky.2, 0 ≤ p ∧ p < 5 := fun y hy => by have := o1 y hy; omega
  obtain ⟨S, eS⟩ : ∃ S : Nat, ky.1 = S := ⟨ky.1.toNat, by have := ok.s0; omega⟩
  have eS' : ky.1.toNat = S := by omega
  rw [eS'] at hb qn qs hS
  unfold lastT at qn qs
  refine ⟨_, (pss_cons (ps_if (pt_cmpR op_ge (pe_fld (pv 0) rfl) (pe_op op_sub (pe_fld (pv 0) rfl) pe_int) (nomark _))
(pss_one (ps_ret (pe_tup pa_nil)))
pss_nil)
(pss_cons (ps_set (i := 3) sc_Walk_last_then.nd rfl (Or.inl rfl) (pe_op op_and (pe_ix ix_tup (pv 1) pe_int (fun _ _ => rfl)) (pe_un un_inv (pe_call G_set_of hr rfl T.m_set_of T.F_set_of.kp T.b_set_of .nil pass0F (pa_cons (pe_ix ix_tup (pv 1) pe_int (fun _ _ => rfl)) pa_nil)))))
(pss_cons (ps_if (pt_cmpR op_ne (pe_op op_and (pe_ix ix_list (pe_fld (pv 0) rfl) (pv 2) (fun _ _ => rfl)) (pv 3)) pe_int (nomark _))
(pss_one (ps_ret pe_non))
pss_nil)
(pss_cons (ps_set (i := 4) sc_Walk_last_then.nd rfl (Or.inl rfl) (pe_op op_catT0 (pe_ix ix_tup (pv 1) pe_int (fun _ _ => rfl)) (pe_tup (pa_cons (pv 2) pa_nil))))
(pss_cons (ps_if (pt_cmpR op_le (pe_callB call_len_seq rfl T.z_len PySem.boot_len (pa_cons (pv 4) pa_nil)) (pe_fld (pv 0) rfl) (nomark _))
(pss_one (ps_ret (pv 4)))
pss_nil)
(pss_cons (ps_if (pt_cmpR op_ne (pe_op op_and (pe_ix ix_list (pe_fld (pv 0) rfl) (pe_ix ix_tup (pv 4) pe_int (fun _ _ => rfl)) (fun _ _ => rfl)) (pe_un un_inv (pe_op op_or (pe_ix ix_tup (pv 1) pe_int (fun _ _ => rfl)) (pe_op op_shl pe_int (pv 2))))) pe_int (nomark _))
(pss_one (ps_ret pe_non))
pss_nil)
(pss_one (ps_ret (pe_slice sl_tup (pv 4) (po_some pe_int) po_none))))))))), ?_⟩
  refine ⟨_, rfl, x, A.Walk, dx, _, _, rfl, hx, T.cl_Walk, T.n_Walk_bound, walk_bound _ _ _, _, rfl, x, A.Walk, dx, _, _, rfl, hx, T.cl_Walk, T.n_Walk_places, walk_places _ _ _, _, _, rfl, rfl, _, _, rfl, rfl, _, rfl, iteLe (fun c1 => ?_) fun c1 => ?_⟩
  · refine ⟨(by show 0 ≤ sizeLine; decide), fun r hr => ?_⟩
    obtain ⟨s1, n1⟩ := new_pair (o := .tup []) hr
    exact qs [] (if_pos c1) _ _ s1 ⟨r, rfl, n1⟩
  rw [if_neg c1] at qn
  refine ⟨_, rfl, _, _, _, _, rfl, rfl, SqT.of hq, rfl, _, rfl, _, _, _, _, rfl, rfl, SqT.of hq, rfl, c, ky.2, rfl, hc, m5, by omega, fun H1 e1 => ?_⟩
  refine ⟨_, rfl, _, _, rfl, rfl, ?_⟩
  have eg : Builtin.bitAnd ky.1 (Builtin.bitNot ((setN ky.2 : Nat) : Int)) = ((less S (setN ky.2) : Nat) : Int) := by
    rw [eS]
    exact less_int S hS _ (setN_lt m5)
  dsimp only
  rw [eg]
  have hx1 := e1 _ _ hx
  have ht1 := e1 _ _ ht
  have hq1 := e1 _ _ hq
  have hc1 := e1 _ _ hc
  refine ⟨_, rfl, x, A.Walk, dx, _, _, rfl, hx1, T.cl_Walk, T.n_Walk_tied, walk_tied _ _ _, _, rfl, tl, _, _, _, rfl, rfl, SqL.of ht1, atNb hp, _, rfl, _, _, rfl, rfl, rfl, _, rfl, iteNZ (clash_int _ (nb_lt wi hp) _ (less_lt _ hS _ (setN_lt m5))) (fun c2 => ?_) fun c2 => ?_⟩
  · exact qn (if_pos c2) H1 e1
  have c2' : ¬ clash (nb W.ts p) (less S (setN ky.2)) = true := by rw [c2]; exact Bool.false_ne_true
  rw [if_neg c2'] at qn
  refine ⟨_, rfl, _, _, _, _, rfl, rfl, SqT.of hq1, rfl, _, rfl, (by show 1 ≤ sizeLine; decide), fun u hu => ?_⟩
  obtain ⟨s2, n2⟩ := new_pair (o := .tup [V.int (p : Int)]) hu
  refine cat0_in (SqT.of (s2 _ _ hc1)) n2 (List.cons_ne_nil _ _) (by rw [List.length_map, sizeLine_eq]; show _ + 1 ≤ _; omega) fun la H3 e3' hla => ?_
  have e3 := (e1.trans s2).trans e3'
  have hla : H3 la = some (.tup ((ky.2 ++ [(p : Int)]).map V.int)) := by
    rw [hla, List.map_append]
    rfl
  have hx3 := e3 _ _ hx
  have hlen : (((ky.2 ++ [(p : Int)]).map V.int).length : Int) = ((ky.2.length + 1 : Nat) : Int) := by
    rw [List.length_map, List.length_append]
    rfl
  refine ⟨_, rfl, la, _, rfl, .inr (SqT.of hla), _, rfl, x, A.Walk, dx, _, _, rfl, hx3, T.cl_Walk, T.n_Walk_bound, walk_bound _ _ _, _, _, rfl, rfl, _, rfl, iteLe (fun c3 => ?_) fun c3 => ?_⟩
  · rw [hlen] at c3
    exact ⟨_, rfl, qs _ (by rw [if_neg c1, if_neg c2', if_pos c3]) _ _ e3 ⟨la, rfl, hla⟩⟩
  rw [hlen] at c3
  rw [if_neg c3] at qn
  obtain ⟨h0, hh0, hhn⟩ : ∃ h0 : Nat, (ky.2 ++ [(p : Int)]).headD 0 = h0 ∧ h0 < W.n := by
    have hm : (ky.2 ++ [(p : Int)]).headD 0 ∈ ky.2 ++ [(p : Int)] := by
      cases ky.2 with
      | nil => exact .head _
      | cons y r => exact .head _
    have : 0 ≤ (ky.2 ++ [(p : Int)]).headD 0 ∧ (ky.2 ++ [(p : Int)]).headD 0 < (W.n : Int) := by
      rcases List.mem_append.mp hm with z | z
      · exact o1 _ z
      · rw [List.mem_singleton.mp z]
        omega
    exact ⟨((ky.2 ++ [(p : Int)]).headD 0).toNat, by omega, by omega⟩
  have hat : atI ((ky.2 ++ [(p : Int)]).map V.int) 0 = some (.int (h0 : Int)) := by
    rw [← hh0]
    cases ky.2 with
    | nil => rfl
    | cons y r => exact atI_nat rfl
  rw [hh0, Int.toNat_natCast] at qn
  have eo : Builtin.bitOr ky.1 (1 * 2 ^ ((p : Int)).toNat) = ((S + 2 ^ p : Nat) : Int) := by
    have e1 : (1 : Int) * 2 ^ ((p : Int)).toNat = ((2 ^ p : Nat) : Int) := by
      rw [Int.one_mul, Int.toNat_natCast]
      exact_mod_cast rfl
    rw [e1, eS, or_int S hS p (by omega), or_add S hS p (by omega) hb]
  have hS2 : S + 2 ^ p < 32 := lt32 hn (bits_lt _ (by omega) _ (by rw [← eS']; exact ok.lt) p hp hb)
  have en : Builtin.bitAnd ((nb W.ts h0 : Nat) : Int) (Builtin.bitNot (Builtin.bitOr ky.1 (1 * 2 ^ ((p : Int)).toNat))) = 0 ↔ clashN (nb W.ts h0) (S + 2 ^ p) = false := by
    rw [eo]
    exact clashN_int _ (nb_lt wi hhn) _ hS2
  refine ⟨_, rfl, x, A.Walk, dx, _, _, rfl, hx3, T.cl_Walk, T.n_Walk_tied, walk_tied _ _ _, _, rfl, _, _, _, _, rfl, rfl, SqT.of hla, hat, tl, _, _, _, rfl, rfl, SqL.of (e3 _ _ ht), atNb hhn, _, rfl, _, _, _, _, rfl, rfl, SqT.of (e3 _ _ hq), rfl, _, rfl, _, _, rfl, rfl, ⟨by omega, by omega, by decide⟩, _, _, rfl, rfl, _, rfl, _, _, rfl, rfl, rfl, _, rfl, iteNZ en (fun c4 => ?_) fun c4 => ?_⟩
  · exact qn (if_pos c4) H3 e3
  have c4' : ¬ clashN (nb W.ts h0) (S + 2 ^ p) = true := by rw [c4]; exact Bool.false_ne_true
  refine ⟨_, rfl, _, rfl, la, _, rfl, SqT.of hla, fun z => ?_, fun r hr => ?_⟩
  · have z1 : HT.sIx ((ky.2 ++ [(p : Int)]).map V.int).length 0 (some ((1 : Nat) : Int)) = 0 := z.1
    rw [HT.sIx_nat, List.length_map, List.length_append] at z1
    simp at z1
  · obtain ⟨s5, n5⟩ := new_pair (o := .tup (cutV ((ky.2 ++ [(p : Int)]).map V.int) (some 1) none)) hr
    refine qs ((ky.2 ++ [(p : Int)]).tail) (by rw [if_neg c1, if_neg c2', if_neg c3, hh0, Int.toNat_natCast, if_neg c4']) _ _ (e3.trans s5) ⟨r, rfl, ?_⟩
    rw [n5, show (some (1 : Int)) = some ((1 : Nat) : Int) from rfl, cut_drop, ← List.map_drop, List.drop_one]
theorem sc_Walk_matters_then : FnScope ["self", "pair", "place", "lies"] ["self", "pair", "place"] (defScope s_Walk_matters_then) := ⟨rfl, rfl, rfl, by decide +kernel, rfl, by decide +kernel, by decide +kernel⟩
theorem ok_Walk_matters_then (T : Txt K mg A D) {k : Nat} (G_Walk_last_then : FnOk P w K mg base (CXF P w) k A.Walk_last_then D.Walk_last_then ["self", "pair", "place"] (spLast A.Walk)) : FnOk P w K mg base (CXF P w) (k + 1) A.Walk_matters_then D.Walk_matters_then ["self", "pair", "place"] (spMat A.Walk) := by
  refine T.F_Walk_matters_then.okF sc_Walk_matters_then (fun vs H Q E h => ?_) (fun cdv A' outer s H vs Q E hr h => ?_)
  · obtain ⟨_, _, _, _, _, _, rfl, _⟩ := h
    rfl
  obtain ⟨x, q, W, ky, d, p, rfl, hW, wi, pk, ok, hp, hb, qn, qs⟩ := h
  obtain ⟨dx, ol, tl, hx, ho, ht⟩ := id hW
  obtain ⟨mv, hq, hmv⟩ := PKey.val pk
  have hn := wi.n5
  have hS := lt32 hn ok.lt
  obtain ⟨S, eS⟩ : ∃ S : Nat, ky.1 = S := ⟨ky.1.toNat, by have := ok.s0; omega⟩
  have eS' : ky.1.toNat = S := by omega
  have hlt : S + 2 ^ p < 2 ^ W.n := bits_lt _ (by omega) _ (by rw [← eS']; exact ok.lt) p hp (by rw [← eS']; exact hb)
  have hor := or_put (p := p) eS (by rw [← eS']; exact hS) (by omega) (by rw [← eS']; exact hb)
  have hout : atI ((outs W).map V.int) (Builtin.bitOr ky.1 (1 * 2 ^ ((p : Int)).toNat)) = some (.int (cutZ W.ts (S + 2 ^ p))) := by
    rw [hor]
    exact atOut hlt
  refine ⟨_, (pss_cons (ps_if (pt_cmpR op_eq (pe_fld (pv 0) rfl) pe_str (nomark _))
(pss_one (ps_ret (pe_meth (pv 0) T.cl_Walk T.me_Walk_last_then G_Walk_last_then hr T.b_Walk_last_then .nil pass0F (pa_cons (pv 1) (pa_cons (pv 2) pa_nil)))))
pss_nil)
(pss_cons (ps_set (i := 3) sc_Walk_matters_then.nd rfl (Or.inl rfl) (pe_ix ix_list (pe_fld (pv 0) rfl) (pe_op op_or (pe_ix ix_tup (pv 1) pe_int (fun _ _ => rfl)) (pe_op op_shl pe_int (pv 2))) (fun _ _ => rfl)))
(pss_cons (ps_if (pt_cmpR op_eq (pe_fld (pv 0) rfl) pe_str (nomark _))
(pss_one (ps_aug (i := 3) sc_Walk_matters_then.nd rfl (Or.inl rfl) (pe_ix ix_tup (pv 1) pe_int (fun _ _ => rfl)) ip_add))
pss_nil)
(pss_cons (ps_if (pt_cmpR op_gt (pv 3) (pe_fld (pv 0) rfl) (nomark _))
(pss_one (ps_ret pe_non))
pss_nil)
(pss_one (ps_ret (pe_ifExp (pt_cmpR op_eq (pe_fld (pv 0) rfl) pe_str (nomark _)) (pv 3) (pe_tup pa_nil)))))))), ?_⟩
  refine ⟨_, rfl, x, A.Walk, dx, _, _, rfl, hx, T.cl_Walk, T.n_Walk_kind, walk_kind _ _ _, rfl, _, rfl, ite_str (fun c => ?_) fun c => ?_⟩
  · refine ⟨_, rfl, x, dx, _, rfl, hx, walk_no _ _ _ (by decide +kernel) (by decide +kernel) (by decide +kernel) (by decide +kernel) (by decide +kernel) (by decide +kernel), _, rfl, _, rfl, x, q, W, ky, d, p, rfl, hW, wi, c, pk, ok, hp, hb, fun z => qn ?_, fun m z => qs m ?_⟩
    · unfold matT
      rw [if_pos c]
      exact z
    · unfold matT
      rw [if_pos c]
      exact z
  unfold matT at qn qs
  rw [if_neg c] at qn
  rw [eS'] at qn qs
  refine ⟨_, rfl, x, A.Walk, dx, _, _, rfl, hx, T.cl_Walk, T.n_Walk_out, walk_out _ _ _, _, rfl, _, _, _, _, rfl, rfl, SqT.of hq, rfl, _, rfl, _, _, rfl, rfl, ⟨by omega, by omega, by decide⟩, _, _, rfl, rfl, ol, _, _, _, rfl, rfl, SqL.of ho, hout, ?_⟩
  refine ⟨_, rfl, x, A.Walk, dx, _, _, rfl, hx, T.cl_Walk, T.n_Walk_kind, walk_kind _ _ _, rfl, _, rfl, ite_str (fun c2 => ?_) fun c2 => ?_⟩
  · rw [flag_t c2] at hmv
    obtain ⟨m0, em, rfl⟩ : ∃ z : Int, ky.2 = [z] ∧ mv = .int z := hmv
    rw [em] at qn qs
    rw [if_pos c2] at qn
    refine ⟨_, rfl, _, rfl, _, _, _, _, rfl, rfl, SqT.of hq, rfl, _, _, rfl, rfl, ?_⟩
    refine ⟨_, rfl, _, rfl, x, A.Walk, dx, _, _, rfl, hx, T.cl_Walk, T.n_Walk_bound, walk_bound _ _ _, _, _, rfl, rfl, _, rfl, iteLe (fun c3 => ?_) fun c3 => ?_⟩
    · refine qn (if_neg ?_) H (Same.refl _)
      have c3' : cutZ W.ts (S + 2 ^ p) + m0 > W.bd := c3
      show ¬ cutZ W.ts (S + 2 ^ p) + m0 ≤ W.bd
      omega
    · refine ⟨_, rfl, x, A.Walk, dx, _, _, rfl, hx, T.cl_Walk, T.n_Walk_kind, walk_kind _ _ _, rfl, _, rfl, iteDT (congrArg V.str c2) ⟨_, rfl, ?_⟩⟩
      refine qs [cutZ W.ts (S + 2 ^ p) + m0] ?_ _ H (Same.refl _) ?_
      · rw [if_neg c, if_pos c2]
        refine if_pos ?_
        have c3' : ¬ cutZ W.ts (S + 2 ^ p) + m0 > W.bd := c3
        show cutZ W.ts (S + 2 ^ p) + m0 ≤ W.bd
        omega
      · rw [flag_t c2]
        exact ⟨_, rfl, rfl⟩
  · rw [if_neg c2] at qn
    refine ⟨_, rfl, _, rfl, x, A.Walk, dx, _, _, rfl, hx, T.cl_Walk, T.n_Walk_bound, walk_bound _ _ _, _, _, rfl, rfl, _, rfl, iteLe (fun c3 => ?_) fun c3 => ?_⟩
    · refine qn (if_neg ?_) H (Same.refl _)
      omega
    · refine ⟨_, rfl, x, A.Walk, dx, _, _, rfl, hx, T.cl_Walk, T.n_Walk_kind, walk_kind _ _ _, rfl, _, rfl, iteDF (fun z => c2 (V.str.inj z)) ⟨(by show 0 ≤ sizeLine; decide), fun r hr => ?_⟩⟩
      obtain ⟨s1, n1⟩ := new_pair (o := .tup []) hr
      refine qs [] ?_ _ _ s1 ?_
      · rw [if_neg c, if_neg c2]
        exact if_pos (by omega)
      · rw [flag_f c2]
        exact ⟨r, rfl, n1⟩
theorem sc_Walk_steps : FnScope ["self", "pair", "found", "place", "matters"] ["self", "pair"] (defScope s_Walk_steps) := ⟨rfl, rfl, rfl, by decide +kernel, rfl, by decide +kernel, by decide +kernel⟩
theorem ok_Walk_steps (T : Txt K mg A D) {k : Nat} (G_holds : FnOk P w K mg base (CXF P w) k A.holds D.holds ["some", "place"] spHolds) (G_Walk_matters_then : FnOk P w K mg base (CXF P w) k A.Walk_matters_then D.Walk_matters_then ["self", "pair", "place"] (spMat A.Walk)) : FnOk P w K mg base (CXF P w) (k + 1) A.Walk_steps D.Walk_steps ["self", "pair"] (spSteps A.Walk) := by
  refine T.F_Walk_steps.okF sc_Walk_steps (fun vs H Q E h => ?_) (fun cdv A' outer s H vs Q E hr h => ?_)
  · obtain ⟨_, _, _, _, _, rfl, _⟩ := h
    rfl
  obtain ⟨x, q, W, ky, d, rfl, hW, wi, pk, ok, qq⟩ := h
  obtain ⟨dx, ol, tl, hx, ho, ht⟩ := id hW
  obtain ⟨mv, hq, hmv⟩ := PKey.val pk
  have hn := wi.n5
  have hS := lt32 hn ok.lt
  obtain ⟨S, eS⟩ : ∃ S : Nat, ky.1 = S := ⟨ky.1.toNat, by have := ok.s0; omega⟩
  have eS' : ky.1.toNat = S := by omega
  refine ⟨_, (pss_cons (ps_set (i := 2) sc_Walk_steps.nd rfl (Or.inl rfl) (pe_lst pa_nil))
(pss_cons (ps_for passesOwn_cx rfl (pi_range1 rfl T.z_range (pa_cons (pe_fld (pv 0) rfl) pa_nil)) (pg_name (i := 3) sc_Walk_steps.nd rfl (Or.inl rfl))
(pss_one (ps_if (pt_not (pt_val (pe_call G_holds hr rfl T.m_holds T.F_holds.kp T.b_holds .nil pass0F (pa_cons (pe_ix ix_tup (pv 1) pe_int (fun _ _ => rfl)) (pa_cons (pv 3) pa_nil)))))
(pss_cons (ps_set (i := 4) sc_Walk_steps.nd rfl (Or.inl rfl) (pe_meth (pv 0) T.cl_Walk T.me_Walk_matters_then G_Walk_matters_then hr T.b_Walk_matters_then .nil pass0F (pa_cons (pv 1) (pa_cons (pv 3) pa_nil))))
(pss_one (ps_if (pt_cmp (pc_notN (pv 4)))
(pss_one (ps_expr (pe_bm PySem.F.plainAttrs_list PySem.F.slot_list_append PySem.F.type_list_append mt_append (pv 2) (pa_cons (pe_tup (pa_cons (pv 3) (pa_cons (pe_tup (pa_cons (pe_op op_or (pe_ix ix_tup (pv 1) pe_int (fun _ _ => rfl)) (pe_op op_shl pe_int (pv 3))) (pa_cons (pv 4) pa_nil))) pa_nil))) pa_nil))))
pss_nil)))
pss_nil)))
(pss_one (ps_ret (pv 2))))), ?_⟩
  refine ⟨(by show 0 ≤ sizeLine; decide), fun f hf => ?_⟩
  obtain ⟨s0, n0⟩ := new_pair (o := .lst []) hf
  refine ⟨_, rfl, x, A.Walk, dx, _, _, rfl, s0 _ _ hx, T.cl_Walk, T.n_Walk_places, walk_places _ _ _, (W.n : Int), rfl, by omega, by omega, ?_⟩
  rw [Int.toNat_natCast]
  refine for_in W.n (fun i σ H' => ∃ v3 v4 xs, σ = [some (.ref x), some (.ref q), some (.ref f), v3, v4] ∧ Same H H' ∧ H' f = some (.lst xs) ∧ StepsAt (flag W) H' (nextsTo W ky i) xs)
    ⟨none, none, [], rfl, s0, n0, .nil⟩ (fun i σ H' hi _ => hi) (fun σ H' _ => Nat.le_refl _) ?_ ?_
  · rintro i y σ H4 H5 hi ⟨v3, v4, xs, rfl, e, hf5, st⟩ ⟨rfl, rfl⟩
    have ei : (0 : Int) + (i : Nat) = i := by omega
    rw [ei]
    have hlen : xs.length ≤ 5 := by
      have := Paired.length st
      have := nexts_len W ky i
      omega
    have hq5 := e _ _ hq
    refine ⟨_, rfl, _, _, _, _, rfl, rfl, SqT.of hq5, rfl, _, rfl, S, i, by rw [eS]; rfl, by omega, _, rfl, ?_⟩
    cases hb : bit S i with
    | true =>
      refine iteF ⟨_, _, xs, rfl, e, hf5, ?_⟩
      have hs : stepK W ky i = none := by unfold stepK; rw [eS', if_pos hb]
      rw [nexts_succ, hs, List.append_nil]
      exact st
    | false =>
      refine iteT ⟨_, rfl, x, dx, _, rfl, e _ _ hx, walk_no _ _ _ (by decide +kernel) (by decide +kernel) (by decide +kernel) (by decide +kernel) (by decide +kernel) (by decide +kernel), _, rfl, _, rfl, x, q, W, ky, d, i, rfl, hW.mono e, wi, PKey.mono pk e, ok, hi, (by rw [eS']; exact hb), fun z H6 e6 => ?_, fun m z v H6 e6 hv => ?_⟩
      · refine ⟨_, rfl, _, rfl, iteNonF ⟨_, _, xs, rfl, e.trans e6, e6 _ _ hf5, ?_⟩⟩
        have hs : stepK W ky i = none := by unfold stepK; rw [if_neg (by rw [eS', hb]; exact Bool.false_ne_true), z]; rfl
        rw [nexts_succ, hs, List.append_nil]
        exact st.mono fun b ys h => e6 _ _ h
      · have nv : v ≠ .non := fun y => by
          rw [y] at hv
          unfold MV at hv
          split at hv
          · obtain ⟨_, _, z⟩ := hv
            cases z
          · obtain ⟨_, z, _⟩ := hv
            cases z
        have hor := or_put (p := i) eS (by rw [← eS']; exact hS) (by omega) hb
        have hs : stepK W ky i = some (((S + 2 ^ i : Nat) : Int), m) := by unfold stepK; rw [if_neg (by rw [eS', hb]; exact Bool.false_ne_true), z, eS']; rfl
        refine ⟨_, rfl, _, rfl, iteNonT nv ?_⟩
        have hf6 := e6 _ _ hf5
        refine ⟨_, rfl, .inl ⟨rfl, _, SqL.of hf6⟩, _, rfl, _, rfl, _, _, _, _, rfl, rfl, SqT.of (e6 _ _ hq5), rfl, _, rfl, _, _, rfl, rfl, ⟨by omega, by omega, by decide⟩, _, _, rfl, rfl, _, rfl, (by show 2 ≤ sizeLine; decide), fun t1 ht1 => ⟨(by show 2 ≤ sizeLine; decide), fun t2 ht2 => ?_⟩⟩
        dsimp only at ht1 ht2 ⊢
        rw [hor] at ht2 ⊢
        obtain ⟨s1, n1⟩ := new_pair (o := .tup [V.int ((S + 2 ^ i : Nat) : Int), v]) ht1
        obtain ⟨s2, n2⟩ := new_pair (o := .tup [V.int (i : Int), V.ref t1]) ht2
        have s12 := s1.trans s2
        have e8 := (e.trans e6).trans s12
        refine ⟨_, _, _, rfl, rfl, s12 _ _ hf6, by rw [sizeLine_eq]; omega, _, _, _, rfl, e8.put hf, upd_same, ?_⟩
        rw [nexts_succ, hs]
        have tup : ∀ b ys, upd (upd H6 t1 (.tup [V.int ((S + 2 ^ i : Nat) : Int), v])) t2 (.tup [V.int (i : Int), V.ref t1]) b = some (.tup ys) → upd (upd (upd H6 t1 (.tup [V.int ((S + 2 ^ i : Nat) : Int), v])) t2 (.tup [V.int (i : Int), V.ref t1])) f (.lst (xs ++ [.ref t2])) b = some (.tup ys) := fun b ys z => by
          rw [upd_ne (fun y => by rw [y, s12 _ _ hf6] at z; cases z)]
          exact z
        refine Paired.snoc ((st.mono fun b ys h => s12 _ _ (e6 _ _ h)).mono tup) ⟨t2, t1, rfl, tup _ _ n2, ?_⟩
        exact PKey.stay ((hv.mono s12).key (s2 _ _ n1)) tup
  · rintro σ H' ⟨v3, v4, xs, rfl, e, hf5, st⟩
    exact ⟨_, rfl, qq f xs H' hf e hf5 st⟩
theorem sc_look_asked : FnScope ["web", "kind", "bound"] ["web", "kind", "bound"] (defScope s_look_asked) := ⟨rfl, rfl, rfl, by decide +kernel, rfl, by decide +kernel, by decide +kernel⟩
theorem ok_look_asked (T : Txt K mg A D) {k : Nat} (G_look_web : FnOk P w K mg base (CXF P w) k A.look_web D.look_web ["web"] (spWeb A.er)) (G_look_kind : FnOk P w K mg base (CXF P w) k A.look_kind D.look_kind ["kind"] (spKind A.er)) (G_is_within : FnOk P w K mg base (CXF P w) k A.is_within D.is_within ["value", "least", "greatest"] spWithin) :
    FnOk P w K mg base (CXF P w) (k + 1) A.look_asked D.look_asked ["web", "kind", "bound"] (spAsked A.er) := by
  refine T.F_look_asked.okF sc_look_asked (fun vs H Q E h => ?_) (fun cdv A' outer s H vs Q E hr h => ?_)
  · obtain ⟨_, _, _, _, _, rfl, _⟩ := h
    rfl
  obtain ⟨v, n, ts, kd, bd, rfl, ask, q⟩ := h
  obtain ⟨tg, hC_GREATEST_BOUND⟩ := T.g_GREATEST_BOUND
  refine ⟨_, (pss_cons (ps_expr (pe_call G_look_web hr rfl T.m_look_web T.F_look_web.kp T.b_look_web .nil passes_cx (pa_cons (pv 0) pa_nil)))
(pss_cons (ps_expr (pe_call G_look_kind hr rfl T.m_look_kind T.F_look_kind.kp T.b_look_kind .nil passes_cx (pa_cons (pv 1) pa_nil)))
(pss_one (ps_if (pt_not (pt_val (pe_call G_is_within hr rfl T.m_is_within T.F_is_within.kp T.b_is_within .nil pass0F (pa_cons (pv 2) (pa_cons pe_int (pa_cons (pe_glob (v := .int 1000000) rfl hC_GREATEST_BOUND ⟨_, rfl⟩) pa_nil))))))
(pss_one (ps_raise raises_cx rfl T.m_BadKind T.x_BadKind PySem.F.excBase_ValueError rfl (pa_cons (pe_fstr (pstrs_cons pstr_const (pstrs_cons (pstr_g (pe_glob (v := .int 1000000) rfl hC_GREATEST_BOUND ⟨_, rfl⟩) (by decide)) pstrs_nil))) pa_nil)))
pss_nil)))), ?_⟩
  refine ⟨_, rfl, v, n, ts, rfl, ask.dat, ask.win, fun hw H1 e1 => ?_, fun hw H1 e1 => ask.ew hw H1 e1⟩
  refine ⟨_, rfl, kd, rfl, ask.k1, ask.k2, fun hk => ?_, fun hk => ask.ek hw (fun z => hk z.1) H1 e1⟩
  refine ⟨_, rfl, bd, 0, 1000000, rfl, _, rfl, ?_⟩
  cases e : (decide (0 ≤ bd) && decide (bd ≤ 1000000)) with
  | true =>
    rw [Bool.and_eq_true] at e
    exact iteF (q hw hk (of_decide_eq_true e.1) (of_decide_eq_true e.2) H1 e1)
  | false =>
    refine iteT ⟨⟨trivial, trivial, trivial⟩, by decide, fun x hx => ⟨(by show 1 ≤ sizeLine; decide), ask.ek hw (fun z => ?_) _ e1⟩⟩
    rw [decide_eq_true z.2.1, decide_eq_true z.2.2] at e
    cases e
theorem sc_layer_behind : FnScope ["walk", "layer", "found", "pair", "ways", "place", "after"] ["walk", "layer"] (defScope s_layer_behind) := ⟨rfl, rfl, rfl, by decide +kernel, rfl, by decide +kernel, by decide +kernel⟩
theorem ok_layer_behind (T : Txt K mg A D) {k : Nat} (G_Walk_steps : FnOk P w K mg base (CXF P w) k A.Walk_steps D.Walk_steps ["self", "pair"] (spSteps A.Walk)) : FnOk P w K mg base (CXF P w) (k + 1) A.layer_behind D.layer_behind ["walk", "layer"] (spBehind A.Walk) := by
  refine T.F_layer_behind.okF sc_layer_behind (fun vs H Q E h => ?_) (fun cdv A' outer s H vs Q E hr h => ?_)
  · obtain ⟨_, _, _, _, _, rfl, _⟩ := h
    rfl
  obtain ⟨x, a, W, d, L, rfl, hW, wi, ha, lok, hlen, qq⟩ := h
  obtain ⟨dx, ol, tl, hx, ho, ht⟩ := id hW
  have hn := wi.n5
  refine ⟨_, (pss_cons (ps_set (i := 2) sc_layer_behind.nd rfl (Or.inl rfl) (pe_dnewT (flag W)))
(pss_cons (ps_for passesOwn_cx rfl (pi_items (pv 1)) (pg_tup rfl (pgs_cons (pg_name (i := 3) sc_layer_behind.nd rfl (Or.inl rfl)) (pgs_cons (pg_name (i := 4) sc_layer_behind.nd rfl (Or.inl rfl)) pgs_nil)))
(pss_one (ps_for passesOwn_cx rfl (pi_list (pe_meth (pv 0) T.cl_Walk T.me_Walk_steps G_Walk_steps hr T.b_Walk_steps .nil pass0F (pa_cons (pv 3) pa_nil))) (pg_tup rfl (pgs_cons (pg_name (i := 5) sc_layer_behind.nd rfl (Or.inl rfl)) (pgs_cons (pg_name (i := 6) sc_layer_behind.nd rfl (Or.inl rfl)) pgs_nil)))
(pss_one (ps_dput (hu_of hr) (pv 2) (pv 6) (pe_op op_add (pe_dget2 (hu_of hr) (pv 2) (pv 6) pe_int ⟨rfl, rfl, rfl, rfl⟩) (pv 4)) rfl)))))
(pss_one (ps_ret (pv 2))))), ?_⟩
  refine fun f hf => ?_
  obtain ⟨s0, n0⟩ := new_pair (o := .dT (flag W) []) hf
  refine ⟨_, rfl, a, flag W, toV L, rfl, s0 _ _ ha, fun o vw hvw => ?_⟩
  have xa : x ≠ a := fun z => by rw [z, ha] at hx; cases hx
  have fa : f ≠ a := (ne_of_none ha hf).symm
  have vwf : vw ≠ f := fun z => by rw [z, n0] at hvw; cases hvw
  have vwa : vw ≠ a := fun z => by rw [z, s0 _ _ ha] at hvw; cases hvw
  have wm : ∀ {Hz : Hp}, Same (mask a H) Hz → WalkAt A.Walk Hz x W := fun {Hz} e => ⟨dx, ol, tl, same_mask e hx xa, same_mask e ho (fun z => by rw [z, ha] at ho; cases ho), same_mask e ht (fun z => by rw [z, ha] at ht; cases ht)⟩
  have bl : ∀ i, LOk W d (behindTo W [] (L.take i)) ∧ (behindTo W [] (L.take i)).length ≤ 50000 := fun i => by
    obtain ⟨z1, z2⟩ := LOk.behind hn (d := d) (L := L.take i) (acc := []) ⟨List.nodup_nil, fun k hk => absurd hk List.not_mem_nil⟩ (fun k hk => lok.ok k (by
      obtain ⟨p, hp, e⟩ := List.mem_map.mp hk
      exact List.mem_map.mpr ⟨p, List.mem_of_mem_take hp, e⟩))
    refine ⟨z1, Nat.le_trans z2 ?_⟩
    rw [List.length_take]
    show 0 + 5 * _ ≤ _
    omega
  have tl0 : (toV L).length = L.length := List.length_map _
  refine for_in L.length (fun i σ H' => ∃ v3 v4 v5 v6, σ = [some (.ref x), some (.ref a), some (.ref f), v3, v4, v5, v6] ∧ Same (mask a H) H' ∧ H' a = some (.frz o (.dT (flag W) (toV L))) ∧ H' f = some (.dT (flag W) (toV (behindTo W [] (L.take i)))))
    ⟨none, none, none, none, rfl, ?_, upd_same, ?_⟩ ?_ ?_ ?_ ?_
  · intro b u z
    obtain ⟨z1, z2⟩ := mask_some z
    rw [upd_ne z1, upd_ne (ne_of_none (s0 _ _ z2) hvw)]
    exact s0 _ _ z2
  · rw [upd_ne fa, upd_ne (Ne.symm vwf)]
    exact n0
  · rintro i σ H' hi ⟨v3, v4, v5, v6, rfl, e, h1, h2⟩
    exact ⟨by omega, h1⟩
  · rintro σ H' ⟨v3, v4, v5, v6, rfl, e, h1, h2⟩
    exact ⟨by omega, h1⟩
  · rintro i y σ H2 H3 hi ⟨v3, v4, v5, v6, rfl, e, h1, h2⟩ ⟨T1, q, ky, xv, rfl, hT1, rfl, hkv, pk⟩
    obtain ⟨c, rfl, hL⟩ := toV_take L hkv
    obtain ⟨s3, n3⟩ := new_pair (o := .tup [V.ref q, V.int c]) hT1
    have e3 := e.trans s3
    have kok : KOk W (d + 1) ky := lok.ok ky (List.mem_map.mpr ⟨_, List.mem_of_getElem? hL, rfl⟩)
    refine ⟨T1, _, rfl, SqT.of n3, rfl, _, _, rfl, _, _, rfl, rfl, ?_⟩
    refine ⟨_, rfl, x, dx, _, rfl, same_mask e3 hx xa, walk_no _ _ _ (by decide +kernel) (by decide +kernel) (by decide +kernel) (by decide +kernel) (by decide +kernel) (by decide +kernel), _, rfl, x, q, W, ky, d + 1, rfl, wm e3, wi, PKey.mono pk s3, kok, fun l xs H4 hl e4 hl4 st => ⟨l, rfl, ⟨xs, SqL.of hl4⟩, ?_⟩⟩
    have lf : l ≠ f := (ne_of_none (s3 _ _ h2) hl).symm
    have xl := Paired.length st
    have nl := nexts_len W ky W.n
    have ok2 : ∀ y ∈ nexts W ky, KOk W d y.2 := fun y hy => by
      obtain ⟨z1, z2⟩ := mem_nexts hy
      obtain ⟨e', e1, e2⟩ := kok.step hn z1 z2
      have : d = e' := by omega
      subst this
      exact e2
    have ml : ∀ j, LOk W d (addAll (behindTo W [] (L.take i)) c ((nexts W ky).take j)) ∧ (addAll (behindTo W [] (L.take i)) c ((nexts W ky).take j)).length ≤ 50010 := fun j => by
      refine ⟨(bl i).1.all c fun y hy => ok2 y (List.mem_of_mem_take hy), ?_⟩
      have := len_all c ((nexts W ky).take j) (behindTo W [] (L.take i))
      have := (bl i).2
      rw [List.length_take] at *
      unfold nexts at *
      omega
    refine for_in xs.length (fun j σ H' => ∃ v5 v6, σ = [some (.ref x), some (.ref a), some (.ref f), some (.ref q), some (.int c), v5, v6] ∧ Same (mask a H) H' ∧ H' a = some (.frz o (.dT (flag W) (toV L))) ∧ H' f = some (.dT (flag W) (toV (addAll (behindTo W [] (L.take i)) c ((nexts W ky).take j)))) ∧ H' l = some (.lst xs) ∧ StepsAt (flag W) H' (nexts W ky) xs)
      ⟨_, _, rfl, e3.trans e4, e4 _ _ (s3 _ _ h1), e4 _ _ (s3 _ _ h2), hl4, st⟩ ?_ ?_ ?_ ?_
    · rintro j σ H' hj ⟨v5, v6, rfl, e, g1, g2, g3, g4⟩
      exact ⟨xs, xs[j], SqL.of g3, List.getElem?_eq_getElem hj⟩
    · rintro σ H' ⟨v5, v6, rfl, e, g1, g2, g3, g4⟩
      exact ⟨xs, SqL.of g3, Nat.le_refl _⟩
    · rintro j y σ H5 H6 hj ⟨v5, v6, rfl, e, g1, g2, g3, g4⟩ ⟨rfl, hy⟩
      have hy2 := hy xs (SqL.of g3)
      have hjn : j < (nexts W ky).length := by omega
      obtain ⟨⟨p, k'⟩, hp⟩ : ∃ z, (nexts W ky)[j]? = some z := ⟨_, List.getElem?_eq_getElem hjn⟩
      obtain ⟨yv, hyv, t, q2, rfl, ht2, pk2⟩ := pairedGet g4 hp
      rw [hy2] at hyv
      cases hyv
      refine ⟨t, _, rfl, SqT.of ht2, rfl, _, _, rfl, _, _, rfl, rfl, ?_⟩
      refine ⟨_, rfl, f, rfl, .inr ⟨flag W, _, .inl g2⟩, _, rfl, _, .inr ⟨flag W, _, k', q2, .inl g2, rfl, pk2, rfl⟩, ?_⟩
      rw [(valV_toV k' _).1]
      have hput := put_toV k' c (ml j).1.nd
      have hsn : (nexts W ky).take (j + 1) = (nexts W ky).take j ++ [(p, k')] := by rw [List.take_succ, hp]; rfl
      have hll : (toV (addAll (behindTo W [] (L.take i)) c ((nexts W ky).take j))).length < sizeLine := by
        have := (ml j).2
        unfold toV
        rw [List.length_map, sizeLine_eq]
        omega
      refine ⟨_, rfl, _, _, rfl, rfl, _, rfl, _, rfl, f, _, rfl, .inr ⟨flag W, _, k', q2, g2, rfl, pk2, hll, rfl⟩, ?_⟩
      have fa' : ∀ {b : Addr} {u : HO}, mask a H b = some u → b ≠ f := fun {b u} z y => by
        rw [y] at z
        rw [(mask_some z).2] at hf
        cases hf
      have tup : ∀ b ys, H6 b = some (.tup ys) → upd H6 f (.dT (flag W) (putK (toV (addAll (behindTo W [] (L.take i)) c ((nexts W ky).take j))) k' (.int (getL (addAll (behindTo W [] (L.take i)) c ((nexts W ky).take j)) k' + c)))) b = some (.tup ys) := fun b ys z => by
        rw [upd_ne (fun y => by rw [y, g2] at z; cases z)]
        exact z
      refine ⟨_, _, rfl, fun b u z => ?_, ?_, ?_, ?_, g4.mono tup⟩
      · rw [upd_ne (fa' z)]
        exact e b u z
      · rw [upd_ne (Ne.symm fa)]
        exact g1
      · rw [upd_same]
        show some (HO.dT _ (putK _ k' (.int (getL _ k' + c)))) = _
        rw [hput, hsn, addAll_snoc]
      · rw [upd_ne lf]
        exact g3
    · rintro σ H' ⟨v5, v6, rfl, e, g1, g2, g3, g4⟩
      refine ⟨_, _, _, _, rfl, e, g1, ?_⟩
      rw [g2, show (nexts W ky).take xs.length = nexts W ky from List.take_of_length_le (by omega), show L.take (i + 1) = L.take i ++ [(ky, c)] from by rw [List.take_succ, hL]; rfl, behind_snoc]
  · rintro σ H' ⟨v3, v4, v5, v6, rfl, e, h1, h2⟩
    rw [List.take_length] at h2
    exact ⟨_, rfl, qq f H' hf e h2⟩
theorem sc_layers : FnScope ["walk", "found", "step"] ["walk"] (defScope s_layers) := ⟨rfl, rfl, rfl, by decide +kernel, rfl, by decide +kernel, by decide +kernel⟩
theorem ok_layers (T : Txt K mg A D) {k : Nat} (G_Walk_beginning : FnOk P w K mg base (CXF P w) k A.Walk_beginning D.Walk_beginning ["self"] (spBegin A.Walk)) (G_layer_behind : FnOk P w K mg base (CXF P w) k A.layer_behind D.layer_behind ["walk", "layer"] (spBehind A.Walk)) : FnOk P w K mg base (CXF P w) (k + 1) A.layers D.layers ["walk"] (spLayers A.Walk) := by
  refine T.F_layers.okF sc_layers (fun vs H Q E h => ?_) (fun cdv A' outer s H vs Q E hr h => ?_)
  · obtain ⟨_, _, rfl, _⟩ := h
    rfl
  obtain ⟨x, W, rfl, hW, wi, qq⟩ := h
  obtain ⟨dx, ol, tl, hx, ho, ht⟩ := id hW
  have hn := wi.n5
  refine ⟨_, (pss_cons (ps_set (i := 1) sc_layers.nd rfl (Or.inl rfl) (pe_lst (pa_cons (pe_disp1 (flag W) (hu_of hr) (pe_meth0 (pv 0) T.cl_Walk T.me_Walk_beginning G_Walk_beginning hr T.b_Walk_beginning .nil pass0F) pe_int) pa_nil)))
(pss_cons (ps_for passesOwn_cx rfl (pi_range1 rfl T.z_range (pa_cons (pe_fld (pv 0) rfl) pa_nil)) (pg_name (i := 2) sc_layers.nd rfl (Or.inl rfl))
(pss_one (ps_expr (pe_bm PySem.F.plainAttrs_list PySem.F.slot_list_append PySem.F.type_list_append mt_append (pv 1) (pa_cons (pe_call G_layer_behind hr rfl T.m_layer_behind T.F_layer_behind.kp T.b_layer_behind .nil pass0F (pa_cons (pv 0) (pa_cons (pe_ix ix_list (pv 1) (pe_un un_neg pe_int) (fun _ _ => rfl)) pa_nil))) pa_nil)))))
(pss_one (ps_ret (pv 1))))), ?_⟩
  refine fun p hp => ?_
  obtain ⟨s0, n0⟩ := new_pair (o := .dT (flag W) []) hp
  refine ⟨_, rfl, x, dx, _, rfl, s0 _ _ hx, walk_no _ _ _ (by decide +kernel) (by decide +kernel) (by decide +kernel) (by decide +kernel) (by decide +kernel) (by decide +kernel), x, W, rfl, hW.mono s0, fun q H2 e2 pk => ⟨_, _, _, q, rfl, rfl, e2 _ _ n0, pk, (by show 1 ≤ sizeLine; decide), fun l hl => ?_⟩⟩
  have e2' : Same H (upd H2 p (.dT (flag W) [(begK W, .int 1)])) := (s0.trans e2).put hp
  obtain ⟨s3, n3⟩ := new_pair (o := .lst [V.ref p]) hl
  have hlH : H l = none := e2'.free hl
  have e3 := e2'.trans s3
  refine ⟨_, rfl, x, A.Walk, dx, _, _, rfl, e3 _ _ hx, T.cl_Walk, T.n_Walk_places, walk_places _ _ _, (W.n : Int), rfl, by omega, by omega, ?_⟩
  rw [Int.toNat_natCast]
  refine for_in W.n (fun i σ H' => ∃ v2 xs p, σ = [some (.ref x), some (.ref l), v2] ∧ Same H H' ∧ H' l = some (.lst (xs ++ [.ref p])) ∧ xs.length = i ∧ H' p = some (.dT (flag W) (toV (layerN W i))) ∧ H p = none)
    ⟨none, [], p, rfl, e3, n3, rfl, s3 _ _ upd_same, hp⟩ (fun i σ H' hi _ => hi) (fun σ H' _ => Nat.le_refl _) ?_ ?_
  · rintro i y σ H4 H5 hi ⟨v2, xs, p, rfl, e, hl5, hxl, hp5, hpH⟩ ⟨rfl, rfl⟩
    obtain ⟨lok, llen⟩ := layer_ok hn i (by omega)
    have h5 : 5 ^ i ≤ 3125 := show 5 ^ i ≤ 5 ^ 5 from Nat.pow_le_pow_right (by decide) (by omega)
    have lok' : LOk W (W.n - (i + 1) + 1) (layerN W i) := by
      rw [show W.n - (i + 1) + 1 = W.n - i by omega]
      exact lok
    refine ⟨_, rfl, .inl ⟨rfl, _, SqL.of hl5⟩, _, rfl, _, rfl, _, rfl, l, _, _, _, rfl, rfl, SqL.of hl5, atI_last _ _, x, p, W, W.n - (i + 1), layerN W i, rfl, hW.mono e, wi, hp5, lok', by omega, fun p2 H6 hp2 e6 hp6 => ?_⟩
    have lp : l ≠ p := fun z => by rw [z, hp5] at hl5; cases hl5
    have hl6 := same_mask e6 hl5 lp
    have eH6 : Same H H6 := fun b u z => same_mask e6 (e _ _ z) (ne_of_none z hpH)
    have p2l : p2 ≠ l := (ne_of_none hl5 hp2).symm
    refine ⟨_, _, _, rfl, rfl, hl6, (by rw [List.length_append, sizeLine_eq]; show _ + 1 < _; omega), _, xs ++ [.ref p], p2, rfl, eH6.put hlH, upd_same, (by rw [List.length_append]; show _ + 1 = _; omega), ?_, e.free hp2⟩
    rw [upd_ne p2l]
    exact hp6
  · rintro σ H' ⟨v2, xs, p, rfl, e, hl5, hxl, hp5, hpH⟩
    exact ⟨_, rfl, qq l p xs H' e hl5 hp5⟩
theorem sc_rest_of_row : FnScope ["walk", "pair", "dead", "place", "after", "rest"] ["walk", "pair", "dead"] (defScope s_rest_of_row) := ⟨rfl, rfl, rfl, by decide +kernel, rfl, by decide +kernel, by decide +kernel⟩
theorem rest_step (T : Txt K mg A D) {k e : Nat} {spR : Sp} (hR : spR = spNever ∧ e = 0 ∨ ∃ e', e = e' + 1 ∧ spR = spRest A.Walk e') (G_Walk_steps : FnOk P w K mg base (CXF P w) k A.Walk_steps D.Walk_steps ["self", "pair"] (spSteps A.Walk)) (G_rest_of_row : FnOk P w K mg base (CXF P w) k A.rest_of_row D.rest_of_row ["walk", "pair", "dead"] spR) : FnOk P w K mg base (CXF P w) (k + 1) A.rest_of_row D.rest_of_row ["walk", "pair", "dead"] (spRest A.Walk e) := by
  refine T.F_rest_of_row.okF sc_rest_of_row (fun vs H Q E h => ?_) (fun cdv A' outer s H vs Q E hr h => ?_)
  · obtain ⟨_, _, _, _, _, _, _, rfl, _⟩ := h
    rfl
  obtain ⟨x, q, Dd, W, ky, d, dd, rfl, hde, hW, wi, pk, ok, hD, dead, hcap, fin⟩ := h
  obtain ⟨dx, ol, tl, hx, ho, ht⟩ := id hW
  obtain ⟨mv, hq, hmv⟩ := PKey.val pk
  have hn := wi.n5
  obtain ⟨S, eS⟩ : ∃ S : Nat, ky.1 = S := ⟨ky.1.toNat, by have := ok.s0; omega⟩
  have eS' : ky.1.toNat = S := by omega
  have hSn : S < 2 ^ W.n := by rw [← eS']; exact ok.lt
  have hlf : left W.n S = d := by rw [← eS']; exact ok.lf
  have hpos := two_pos W.n
  have hnone := left_none W.n (by omega) S hSn
  refine ⟨_, (pss_cons (ps_if (pt_cmpR op_eq (pe_ix ix_tup (pv 1) pe_int (fun _ _ => rfl)) (pe_fld (pv 0) rfl) (nomark _))
(pss_one (ps_ret (pe_lst pa_nil)))
pss_nil)
(pss_cons (ps_if (pt_cmp (pc_din (hu_of hr) (pv 1) (pv 2)))
(pss_one (ps_ret pe_non))
pss_nil)
(pss_cons (ps_for passesOwn_cx rfl (pi_list (pe_meth (pv 0) T.cl_Walk T.me_Walk_steps G_Walk_steps hr T.b_Walk_steps .nil pass0F (pa_cons (pv 1) pa_nil))) (pg_tup rfl (pgs_cons (pg_name (i := 3) sc_rest_of_row.nd rfl (Or.inl rfl)) (pgs_cons (pg_name (i := 4) sc_rest_of_row.nd rfl (Or.inl rfl)) pgs_nil)))
(pss_cons (ps_set (i := 5) sc_rest_of_row.nd rfl (Or.inl rfl) (pe_call G_rest_of_row hr rfl T.m_rest_of_row T.F_rest_of_row.kp T.b_rest_of_row .nil pass0F (pa_cons (pv 0) (pa_cons (pv 4) (pa_cons (pv 2) pa_nil)))))
(pss_one (ps_if (pt_cmp (pc_notN (pv 5)))
(pss_one (ps_ret (pe_op op_cat (pe_lst (pa_cons (pv 3) pa_nil)) (pv 5))))
pss_nil))))
(pss_cons (ps_dput (hu_of hr) (pv 2) (pv 1) pe_bl rfl)
(pss_one (ps_ret pe_non)))))), ?_⟩
  refine ⟨_, rfl, _, _, _, _, rfl, rfl, SqT.of hq, rfl, _, rfl, x, A.Walk, dx, _, _, rfl, hx, T.cl_Walk, T.n_Walk_every, walk_every _ _ _, rfl, _, rfl, iteLe (fun c => ?_) fun c => ?_⟩
  · have c := V.int.inj c
    have hS1 : S = 2 ^ W.n - 1 := by
      generalize 2 ^ W.n = M at *
      omega
    have hd0 : d = 0 := by rw [← hlf]; exact hnone.mpr hS1
    subst hd0
    refine ⟨(by show 0 ≤ sizeLine; decide), fun l hl => ?_⟩
    obtain ⟨s1, n1⟩ := new_pair (o := .lst []) hl
    have lD : l ≠ Dd := (ne_of_none hD hl).symm
    exact (fin _ dd (mask_same.trans s1) (s1 _ _ hD) dead (Nat.le_add_right _ _)).2 [] [] rfl l ((mask_ne lD).trans hl) lD n1
  have c' : ky.1 ≠ ((2 ^ W.n : Nat) : Int) - 1 := fun z => c (congrArg V.int z)
  obtain ⟨d', hd'⟩ : ∃ d', d = d' + 1 := by
    cases d with
    | zero =>
      exfalso
      have hS1 := hnone.mp hlf
      generalize 2 ^ W.n = M at *
      omega
    | succ d' => exact ⟨d', rfl⟩
  subst hd'
  obtain ⟨e', rfl, rfl⟩ : ∃ e', e = e' + 1 ∧ spR = spRest A.Walk e' := by
    rcases hR with ⟨_, z⟩ | z
    · omega
    · exact z
  refine ⟨_, rfl, _, rfl, Dd, _, rfl, .inr ⟨flag W, dd, ky, q, .inl hD, rfl, pk, rfl⟩, _, rfl, ?_⟩
  cases hv : valV dd ky with
  | some v0 =>
    refine iteT ((fin H dd mask_same hD dead (Nat.le_add_right _ _)).1 ?_)
    have := dead ky (valV_in hv)
    rw [eS', hlf] at this
    exact this
  | none =>
  refine iteF ⟨_, rfl, x, dx, _, rfl, hx, walk_no _ _ _ (by decide +kernel) (by decide +kernel) (by decide +kernel) (by decide +kernel) (by decide +kernel) (by decide +kernel), _, rfl, x, q, W, ky, d' + 1, rfl, hW, wi, pk, ok, fun l xs H1 hl e1 hl1 st => ⟨l, rfl, ⟨xs, SqL.of hl1⟩, ?_⟩⟩
  have lD : l ≠ Dd := (ne_of_none hD hl).symm
  have xD : x ≠ Dd := fun z => by rw [z, hD] at hx; cases hx
  have xl := Paired.length st
  have nl := nexts_len W ky W.n
  have ok2 : ∀ y ∈ nexts W ky, KOk W d' y.2 := fun y hy => by
    obtain ⟨z1, z2⟩ := mem_nexts hy
    obtain ⟨e2, e3, e4⟩ := ok.step hn z1 z2
    have : d' = e2 := by omega
    subst this
    exact e4
  have wm : ∀ {Hz : Hp}, Same (mask Dd H) Hz → WalkAt A.Walk Hz x W := fun {Hz} e => ⟨dx, ol, tl, same_mask e hx xD, same_mask e ho (fun z => by rw [z, hD] at ho; cases ho), same_mask e ht (fun z => by rw [z, hD] at ht; cases ht)⟩
  have pkm : ∀ {Hz : Hp}, Same (mask Dd H) Hz → PKey (flag W) Hz ky q := fun {Hz} e => pk.stay fun b ys z => same_mask e z (fun y => by rw [y, hD] at z; cases z)
  have ecap : calls (d' + 1) = 1 + 5 * calls d' := rfl
  rw [ecap] at hcap fin
  refine for_in xs.length (fun j σ H' => ∃ v3 v4 v5 dj, σ = [some (.ref x), some (.ref q), some (.ref Dd), v3, v4, v5] ∧ Same (mask Dd H) H' ∧ H' Dd = some (.dT (flag W) dj) ∧ DeadOk W dj ∧ dj.length ≤ dd.length + j * calls d' ∧ (∀ y ∈ (nexts W ky).take j, rows W y.2 d' = []) ∧ H' l = some (.lst xs) ∧ StepsAt (flag W) H' (nexts W ky) xs)
    ⟨none, none, none, dd, rfl, mask_same.trans e1, e1 _ _ hD, dead, by omega, fun y hy => absurd hy (by simp), hl1, st⟩ ?_ ?_ ?_ ?_
  · rintro j σ H' hj ⟨v3, v4, v5, dj, rfl, e, g1, g2, g3, g4, g5, g6⟩
    exact ⟨xs, xs[j], SqL.of g5, List.getElem?_eq_getElem hj⟩
  · rintro σ H' ⟨v3, v4, v5, dj, rfl, e, g1, g2, g3, g4, g5, g6⟩
    exact ⟨xs, SqL.of g5, Nat.le_refl _⟩
  · rintro j y σ H5 H6 hj ⟨v3, v4, v5, dj, rfl, e, g1, g2, g3, g4, g5, g6⟩ ⟨rfl, hy⟩
    have hy2 := hy xs (SqL.of g5)
    have hjn : j < (nexts W ky).length := by omega
    obtain ⟨⟨p, k'⟩, hp⟩ : ∃ z, (nexts W ky)[j]? = some z := ⟨_, List.getElem?_eq_getElem hjn⟩
    obtain ⟨yv, hyv, t, q2, rfl, ht2, pk2⟩ := pairedGet g6 hp
    rw [hy2] at hyv
    cases hyv
    have hj5 : j + 1 ≤ 5 := by
      unfold nexts at hjn
      omega
    have hmul : j * calls d' + calls d' ≤ 5 * calls d' := by
      have := Nat.mul_le_mul_right (calls d') hj5
      rw [Nat.succ_mul] at this
      exact this
    refine ⟨t, _, rfl, SqT.of ht2, rfl, _, _, rfl, _, _, rfl, rfl, ?_⟩
    refine ⟨_, rfl, _, rfl, _, rfl, x, q2, Dd, W, k', d', dj, rfl, by omega, wm e, wi, pk2, ok2 _ (List.mem_of_getElem? hp), g1, g2, by omega, fun H7 d7 e7 h7 dead7 len7 => ⟨fun hnil => ?_, fun r rest hr l2 hl2 l2D hl2' => ?_⟩⟩
    · have eH7 : Same (mask Dd H) H7 := fun b u z => same_mask e7 (e b u z) (mask_some z).1
      refine ⟨_, rfl, _, rfl, iteNonF ⟨_, _, _, d7, rfl, eH7, h7, dead7, ?_, fun y hy => ?_, same_mask e7 g5 lD, g6.mono fun b ys z => same_mask e7 z (fun y => by rw [y, g1] at z; cases z)⟩⟩
      · rw [Nat.succ_mul]
        omega
      · rw [List.take_succ, hp] at hy
        rcases List.mem_append.mp hy with z | z
        · exact g4 y z
        · have z : y = (p, k') := by simpa using z
          rw [z]
          exact hnil
    · have eH7 : Same (mask Dd H) H7 := fun b u z => same_mask e7 (e b u z) (mask_some z).1
      obtain ⟨tl', htl⟩ := rows_first hp g4 hr
      have hrl : r.length ≤ 100 := by
        have hmem : r ∈ rows W k' d' := by rw [hr]; exact .head _
        have : ∀ (m : Nat) (k : PKy) (r : List Int), r ∈ rows W k m → r.length = m := by
          intro m
          induction m with
          | zero => intro k r h; rw [List.mem_singleton.mp h]; rfl
          | succ m ih =>
            intro k r h
            obtain ⟨y, _, h2⟩ := List.mem_flatMap.mp h
            obtain ⟨r2, h3, rfl⟩ := List.mem_map.mp h2
            rw [List.length_cons, ih _ _ h3]
        have hrd := this d' k' r hmem
        have := ok.lf
        have hle : left W.n ky.1.toNat ≤ W.n := by
          unfold left
          exact Nat.le_trans (List.length_filter_le _ _) (by rw [List.length_range]; exact Nat.le_refl _)
        omega
      refine ⟨_, rfl, _, rfl, iteNonT (fun z => nomatch z) ⟨_, rfl, (by show 1 ≤ sizeLine; decide), fun u hu => ⟨_, rfl, ?_⟩⟩⟩
      obtain ⟨s8, n8⟩ := new_pair (o := .lst [V.int (p : Int)]) hu
      refine ⟨_, _, _, _, rfl, rfl, n8, s8 _ _ hl2', (by rw [sizeLine_eq, List.length_map]; show 1 + _ ≤ _; omega), fun z hz => ?_⟩
      obtain ⟨s9, n9⟩ := new_pair (o := .lst ([V.int (p : Int)] ++ r.map V.int)) hz
      have h9 := s9 _ _ (s8 _ _ h7)
      have zD : z ≠ Dd := (ne_of_none (s8 _ _ h7) hz).symm
      refine (fin _ d7 (eH7.trans (s8.trans s9)) h9 dead7 (by omega)).2 ((p : Int) :: r) tl' htl z ?_ zD n9
      rw [mask_ne zD]
      have z7 : H7 z = none := s8.free hz
      cases hzz : H z with
      | none => rfl
      | some u' =>
        have := eH7 _ _ ((mask_ne zD).trans hzz)
        rw [z7] at this
        cases this
  · rintro σ H' ⟨v3, v4, v5, dj, rfl, e, g1, g2, g3, g4, g5, g6⟩
    have hall : rows W ky (d' + 1) = [] := rows_none fun y hy => g4 y (by rw [List.take_of_length_le (by omega)]; exact hy)
    have hmul : xs.length * calls d' ≤ 5 * calls d' := Nat.mul_le_mul_right _ (by unfold nexts at xl; omega)
    refine ⟨_, rfl, _, rfl, Dd, _, rfl, .inr ⟨flag W, _, ky, q, g1, rfl, pkm e, (by rw [sizeLine_eq]; omega), rfl⟩, ?_⟩
    refine (fin _ (putK dj ky (.bl true)) (fun b u z => ?_) upd_same (fun y hy => ?_) ?_).1 hall
    · rw [upd_ne (mask_some z).1]
      exact e b u z
    · rcases keys_put hy with z | z
      · rw [z, eS', hlf]
        exact hall
      · exact g2 y z
    · have := length_putK dj ky (.bl true)
      omega
theorem ok_rest_of_row (T : Txt K mg A D) {k : Nat} (G_Walk_steps : FnOk P w K mg base (CXF P w) k A.Walk_steps D.Walk_steps ["self", "pair"] (spSteps A.Walk)) : FnOk P w K mg base (CXF P w) (k + 6) A.rest_of_row D.rest_of_row ["walk", "pair", "dead"] (spRest A.Walk 5) := by
  have g0 := rest_step (e := 0) T (.inl ⟨rfl, rfl⟩) G_Walk_steps never_ok
  have g1 := rest_step (e := 1) T (.inr ⟨0, rfl, rfl⟩) (G_Walk_steps.mono (Nat.le_succ _)) g0
  have g2 := rest_step (e := 2) T (.inr ⟨1, rfl, rfl⟩) (G_Walk_steps.mono (Nat.le_add_right _ 2)) g1
  have g3 := rest_step (e := 3) T (.inr ⟨2, rfl, rfl⟩) (G_Walk_steps.mono (Nat.le_add_right _ 3)) g2
  have g4 := rest_step (e := 4) T (.inr ⟨3, rfl, rfl⟩) (G_Walk_steps.mono (Nat.le_add_right _ 4)) g3
  exact rest_step (e := 5) T (.inr ⟨4, rfl, rfl⟩) (G_Walk_steps.mono (Nat.le_add_right _ 5)) g4
theorem sc_first_row : FnScope ["walk"] ["walk"] (defScope s_first_row) := ⟨rfl, rfl, rfl, by decide +kernel, rfl, by decide +kernel, by decide +kernel⟩
theorem ok_first_row (T : Txt K mg A D) {k : Nat} (G_Walk_beginning : FnOk P w K mg base (CXF P w) k A.Walk_beginning D.Walk_beginning ["self"] (spBegin A.Walk)) (G_rest_of_row : FnOk P w K mg base (CXF P w) k A.rest_of_row D.rest_of_row ["walk", "pair", "dead"] (spRest A.Walk 5)) : FnOk P w K mg base (CXF P w) (k + 1) A.first_row D.first_row ["walk"] (spFirstR A.Walk) := by
  refine T.F_first_row.okF sc_first_row (fun vs H Q E h => ?_) (fun cdv A' outer s H vs Q E hr h => ?_)
  · obtain ⟨_, _, rfl, _⟩ := h
    rfl
  obtain ⟨x, W, rfl, hW, wi, qq⟩ := h
  obtain ⟨dx, ol, tl, hx, ho, ht⟩ := id hW
  refine ⟨_, (pss_one (ps_ret (pe_call G_rest_of_row hr rfl T.m_rest_of_row T.F_rest_of_row.kp T.b_rest_of_row .nil pass0F (pa_cons (pv 0) (pa_cons (pe_meth0 (pv 0) T.cl_Walk T.me_Walk_beginning G_Walk_beginning hr T.b_Walk_beginning .nil pass0F) (pa_cons (pe_dnewT (flag W)) pa_nil)))))), ?_⟩
  refine ⟨_, rfl, _, rfl, x, dx, _, rfl, hx, walk_no _ _ _ (by decide +kernel) (by decide +kernel) (by decide +kernel) (by decide +kernel) (by decide +kernel) (by decide +kernel), x, W, rfl, hW, fun q H1 e1 pk => fun Dd hD => ?_⟩
  obtain ⟨s2, n2⟩ := new_pair (o := .dT (flag W) []) hD
  have e2 := e1.trans s2
  have hDH : H Dd = none := e1.free hD
  have c5 : calls W.n ≤ 3906 := by
    have := wi.n5
    have : W.n = 0 ∨ W.n = 1 ∨ W.n = 2 ∨ W.n = 3 ∨ W.n = 4 ∨ W.n = 5 := by omega
    rcases this with z | z | z | z | z | z <;> rw [z] <;> decide
  refine ⟨x, q, Dd, W, begK W, W.n, [], rfl, wi.n5, hW.mono e2, wi, PKey.mono pk s2, beg_ok wi.n5, n2, fun k hk => absurd hk List.not_mem_nil, (by show 0 + _ ≤ _; omega), fun H' dd' e' hD' _ _ => ?_⟩
  have e3 : Same H H' := fun b u z => same_mask e' (e2 _ _ z) (ne_of_none z hDH)
  exact ⟨fun z => qq _ H' e3 (.inl ⟨rfl, z⟩), fun r rest z l hl hlD hl' => qq _ H' e3 (.inr ⟨l, r, rest, rfl, hl', z⟩)⟩
theorem sc_least_most : FnScope ["web", "out", "found", "some"] ["web"] (defScope s_least_most) := ⟨rfl, rfl, rfl, by decide +kernel, rfl, by decide +kernel, by decide +kernel⟩
theorem ok_least_most (T : Txt K mg A D) {k : Nat} (G_leading_out : FnOk P w K mg base (CXF P w) k A.leading_out D.leading_out ["web"] spLead) (G_least_before : FnOk P w K mg base (CXF P w) k A.least_before D.least_before ["numbers", "some"] spLeast) :
    FnOk P w K mg base (CXF P w) (k + 1) A.least_most D.least_most ["web"] spLeastM := by
  refine T.F_least_most.okF sc_least_most (fun vs H Q E h => ?_) (fun cdv A' outer s H vs Q E hr h => ?_)
  · obtain ⟨_, _, _, rfl, _⟩ := h
    rfl
  obtain ⟨v, N, ts, rfl, dv, hw, win, hN, q1⟩ := h
  refine ⟨_, (pss_cons (ps_set (i := 1) sc_least_most.nd rfl (Or.inl rfl) (pe_call G_leading_out hr rfl T.m_leading_out T.F_leading_out.kp T.b_leading_out .nil pass0F (pa_cons (pv 0) pa_nil)))
(pss_cons (ps_set (i := 2) sc_least_most.nd rfl (Or.inl rfl) (pe_lst (pa_cons pe_int pa_nil)))
(pss_cons (ps_for passesOwn_cx rfl (pi_range2 rfl T.z_range (pa_cons pe_int (pa_cons (pe_callB call_len_seq rfl T.z_len PySem.boot_len (pa_cons (pv 1) pa_nil)) pa_nil))) (pg_name (i := 3) sc_least_most.nd rfl (Or.inl rfl))
(pss_one (ps_expr (pe_bm PySem.F.plainAttrs_list PySem.F.slot_list_append PySem.F.type_list_append mt_append (pv 2) (pa_cons (pe_callB (call_max2 rfl) rfl T.z_max bt_max (pa_cons (pe_call G_least_before hr rfl T.m_least_before T.F_least_before.kp T.b_least_before .nil pass0F (pa_cons (pv 2) (pa_cons (pv 3) pa_nil))) (pa_cons (pe_ix ix_list (pv 1) (pv 3) (fun _ _ => rfl)) pa_nil))) pa_nil)))))
(pss_one (ps_ret (pe_ix ix_list (pv 2) (pe_un un_neg pe_int) (fun _ _ => rfl))))))), ?_⟩
  have h32 : 2 ^ N ≤ 32 := show 2 ^ N ≤ 2 ^ 5 from Nat.pow_le_pow_right (by decide) hN
  have hpos := two_pos N
  refine ⟨_, rfl, v, N, ts, rfl, dv, hw, win, hN, fun ol H2 hol e2 ho => ?_⟩
  refine ⟨(by show 1 ≤ sizeLine; decide), fun f hf => ?_⟩
  obtain ⟨s3, n3⟩ := new_pair (o := .lst [V.int 0]) hf
  have hlo : ((((List.range (2 ^ N)).map (cutZ ts)).map V.int).length : Int) = ((2 ^ N : Nat) : Int) := by rw [List.length_map, List.length_map, List.length_range]
  refine ⟨_, rfl, _, _, rfl, .inl (SqL.of (s3 _ _ ho)), _, _, rfl, ?_⟩
  rw [hlo]
  generalize hM : 2 ^ N = M at h32 hpos hlo ho q1
  refine ⟨⟨by omega, by omega, by omega, by omega⟩, ?_⟩
  have hto : ((M : Int) - 1).toNat = M - 1 := by omega
  rw [hto]
  refine for_in (M - 1) (fun i σ H' => ∃ v3, σ = [some v, some (.ref ol), some (.ref f), v3] ∧ Same H2 H' ∧ H' f = some (.lst ((lms N ts (i + 1)).map .int)))
    ⟨none, rfl, s3, n3⟩ (fun i σ H' hi _ => hi) (fun σ H' _ => Nat.le_refl _) ?_ ?_
  · rintro i x σ H4 H5 hi ⟨v3, rfl, e4, hg⟩ ⟨rfl, rfl⟩
    have ei : (1 : Int) + (i : Nat) = ((i + 1 : Nat) : Int) := by omega
    rw [ei]
    have hlt : i + 1 < 2 ^ N := by omega
    have hl1 : ((lms N ts (i + 1)).map V.int).length = i + 1 := by rw [List.length_map, lms_len]
    refine ⟨_, rfl, .inl ⟨rfl, _, SqL.of hg⟩, _, rfl, _, rfl, f, lms N ts (i + 1), i + 1, N, rfl, hg, hN, hlt, by omega, by rw [lms_len]; exact Nat.le_refl _, fun H6 e6 => ?_⟩
    have ho6 := e6 _ _ (e4 _ _ ho)
    have hg6 := e6 _ _ hg
    have hat : atI (((List.range M).map (cutZ ts)).map V.int) (((i + 1 : Nat) : Int)) = some (.int (cutZ ts (i + 1))) := by
      refine atI_nat ?_
      rw [List.getElem?_map, List.getElem?_map, List.getElem?_range (by omega)]
      rfl
    refine ⟨_, rfl, _, rfl, ol, _, _, _, rfl, rfl, SqL.of ho6, hat, _, _, rfl, _, _, _, rfl, rfl, hg6, by rw [hl1, sizeLine_eq]; omega, _, rfl, (e4.trans e6).put hf, ?_⟩
    rw [upd_same]
    show _ = some (HO.lst ((lms N ts (i + 1) ++ [max (minL ((fewer N (i + 1)).map fun f => (lms N ts (i + 1)).getD f 0)) (cutZ ts (i + 1))]).map V.int))
    rw [List.map_append]
    congr 3
    show [V.int (if cutZ ts (i + 1) > _ then cutZ ts (i + 1) else _)] = [V.int _]
    congr 2
    split <;> omega
  · rintro σ H' ⟨v3, rfl, e, hg⟩
    have z : M - 1 + 1 = M := by omega
    rw [z] at hg
    have hne : lms N ts M ≠ [] := fun e => by
      have := lms_len N ts M
      rw [e] at this
      have z : 0 = M := this
      omega
    refine ⟨_, rfl, _, rfl, f, _, _, _, rfl, rfl, SqL.of hg, atI_neg1 hne, ?_⟩
    rw [lms_len, lms_get (by omega)]
    exact q1 H' (e2.trans e)
theorem sc_bound_to_try : FnScope ["web", "kind"] ["web", "kind"] (defScope s_bound_to_try) := ⟨rfl, rfl, rfl, by decide +kernel, rfl, by decide +kernel, by decide +kernel⟩
theorem ok_bound_to_try (T : Txt K mg A D) {k : Nat} (G_least_total : FnOk P w K mg base (CXF P w) k A.least_total D.least_total ["web"] (spLeastT A.er)) (G_least_most : FnOk P w K mg base (CXF P w) k A.least_most D.least_most ["web"] spLeastM) :
    FnOk P w K mg base (CXF P w) (k + 1) A.bound_to_try D.bound_to_try ["web", "kind"] spTry := by
  refine T.F_bound_to_try.okF sc_bound_to_try (fun vs H Q E h => ?_) (fun cdv A' outer s H vs Q E hr h => ?_)
  · obtain ⟨_, _, _, _, rfl, _⟩ := h
    rfl
  obtain ⟨v, n, ts, kd, rfl, dv, hw, win, hn, hk, q⟩ := h
  have ht := web_ties hw
  have hpos := two_pos n
  refine ⟨_, (pss_cons (ps_if (pt_cmpR op_eq (pv 1) pe_str (nomark _))
(pss_one (ps_ret (pe_call G_least_total hr rfl T.m_least_total T.F_least_total.kp T.b_least_total .nil passes_cx (pa_cons (pv 0) pa_nil))))
pss_nil)
(pss_cons (ps_if (pt_cmpR op_eq (pv 1) pe_str (nomark _))
(pss_one (ps_ret (pe_call G_least_most hr rfl T.m_least_most T.F_least_most.kp T.b_least_most .nil pass0F (pa_cons (pv 0) pa_nil))))
pss_nil)
(pss_one (ps_ret pe_int)))), ?_⟩
  refine ⟨_, rfl, rfl, _, rfl, ite_str (fun c => ?_) fun c => ?_⟩
  · refine ⟨_, rfl, v, n, ts, rfl, dv, win, fun _ => by omega, fun _ H1 e1 => ?_, fun z => by rw [hw] at z; cases z⟩
    rw [Int.toNat_natCast]
    obtain ⟨os, ho, e⟩ := price_some hn ht
    refine q _ H1 e1 (by rw [← e]; exact tot_nonneg hn ho ht) fun os2 ho2 => ?_
    unfold measF
    rw [if_neg (by rw [c]; decide), if_neg (by rw [c]; decide)]
    exact tot_most hn ho2 ht (T := price n ts) (Int.le_refl _) fun S p hS hp hb => price_step hn hS hp hb
  refine ⟨_, rfl, rfl, _, rfl, ite_str (fun c2 => ?_) fun c2 => ?_⟩
  · refine ⟨_, rfl, v, n, ts, rfl, dv, hw, win, hn, fun H1 e1 => q _ H1 e1 (lm_nonneg hn ht (by omega)) fun os ho => ?_⟩
    unfold measF
    rw [if_neg (by rw [c2]; decide), if_pos c2]
    exact lm_least hn ho ht
  · exact q 0 H (Same.refl _) (Int.le_refl _) fun os ho => meas_nonneg hn ho ht
theorem sc_how_many : FnScope ["web", "kind", "bound"] ["web", "kind", "bound"] (defScope s_how_many) := ⟨rfl, rfl, rfl, by decide +kernel, rfl, by decide +kernel, by decide +kernel⟩
theorem ok_how_many (T : Txt K mg A D) {k : Nat} (G_look_asked : FnOk P w K mg base (CXF P w) (k + 1) A.look_asked D.look_asked ["web", "kind", "bound"] (spAsked A.er)) (G_layers : FnOk P w K mg base (CXF P w) (k + 1) A.layers D.layers ["walk"] (spLayers A.Walk)) (G_Walk_init : FnOk P w K mg base (CXF P w) k A.Walk_init D.Walk_init ["self", "web", "kind", "bound"] (spWInit A.Walk)) :
    FnOk P w K mg base (CXF P w) (k + 2) A.how_many D.how_many ["web", "kind", "bound"] (spHow A.er) := by
  refine T.F_how_many.okF sc_how_many (fun vs H Q E h => ?_) (fun cdv A' outer s H vs Q E hr h => ?_)
  · obtain ⟨_, _, _, _, _, rfl, _⟩ := h
    rfl
  obtain ⟨v, n, ts, kd, bd, rfl, ask, q⟩ := h
  refine ⟨_, (pss_cons (ps_expr (pe_call G_look_asked hr rfl T.m_look_asked T.F_look_asked.kp T.b_look_asked .nil passes_cx (pa_cons (pv 0) (pa_cons (pv 1) (pa_cons (pv 2) pa_nil)))))
(pss_one (ps_ret (pe_callB (call_sumV rfl) rfl T.z_sum bt_sum (pa_cons (pe_bm0 PySem.F.plainAttrs_dict PySem.F.slot_dict_values PySem.F.type_dict_values mt_values (pe_ix ix_list (pe_call G_layers hr rfl T.m_layers T.F_layers.kp T.b_layers .nil pass0F (pa_cons (pe_make T.mk_Walk G_Walk_init hr rfl T.m_Walk T.b_Walk_init .nil pass0F (pa_cons (pv 0) (pa_cons (pv 1) (pa_cons (pv 2) pa_nil)))) pa_nil)) (pe_un un_neg pe_int) (fun _ _ => rfl))) pa_nil))))), ?_⟩
  refine ⟨_, rfl, _, rfl, _, rfl, v, n, ts, kd, bd, rfl, ask, fun hw hk h0 h1 H1 e1 => ?_⟩
  obtain ⟨hn0, _, _⟩ := webOk_of hw
  obtain ⟨N, rfl⟩ : ∃ N : Nat, n = N := ⟨n.toNat, by omega⟩
  have hN : N ≤ 5 := by have := ask.n5 hw; omega
  have wi : WIn ⟨N, ts, kd, bd⟩ := ⟨hN, hw, hk, h0⟩
  refine ⟨_, rfl, _, rfl, _, rfl, fun x dx nx ndx ne => walk_made (W := ⟨N, ts, kd, bd⟩) (ask.dat.mono e1) hw ask.win hN nx ndx fun H2 e2 hW => ⟨x, ⟨N, ts, kd, bd⟩, rfl, hW, wi, fun l p xs H3 e3 hl hp => ?_⟩⟩
  refine ⟨_, rfl, l, _, _, _, rfl, rfl, SqL.of hl, atI_last _ _, .inr (.inr (.inl ⟨rfl, .inr ⟨_, _, hp⟩⟩)), p, _, _, rfl, rfl, hp, fun vw hvw => ?_⟩
  obtain ⟨s4, n4⟩ := new_pair (o := .ext (VwV vw p)) hvw
  refine ⟨vw, p, _, _, (layerN ⟨N, ts, kd, bd⟩ N).map (·.2), rfl, n4, .inl (s4 _ _ hp), ?_, ?_⟩
  · unfold toV
    rw [List.map_map, List.map_map]
    rfl
  · rw [← wsum_zero ⟨N, ts, kd, bd⟩, layer_sum]
    show Q (.int (cnt ⟨N, ts, kd, bd⟩ _ (N + 0))) _
    have e : cnt ⟨N, ts, kd, bd⟩ (begK ⟨N, ts, kd, bd⟩) (N + 0) = ((goodL N ts kd bd).length : Nat) := by
      unfold cnt
      congr 2
      exact rows_good (W := ⟨N, ts, kd, bd⟩) hN hw hk h0
    rw [e]
    have := q hw hk h0 h1 _ (e1.trans (e2.trans (e3.trans s4)))
    rw [Int.toNat_natCast] at this
    exact this
theorem sc_first : FnScope ["web", "kind", "bound"] ["web", "kind", "bound"] (defScope s_first) := ⟨rfl, rfl, rfl, by decide +kernel, rfl, by decide +kernel, by decide +kernel⟩
theorem ok_first (T : Txt K mg A D) {k : Nat} (G_look_asked : FnOk P w K mg base (CXF P w) (k + 1) A.look_asked D.look_asked ["web", "kind", "bound"] (spAsked A.er)) (G_first_row : FnOk P w K mg base (CXF P w) (k + 1) A.first_row D.first_row ["walk"] (spFirstR A.Walk)) (G_Walk_init : FnOk P w K mg base (CXF P w) k A.Walk_init D.Walk_init ["self", "web", "kind", "bound"] (spWInit A.Walk)) :
    FnOk P w K mg base (CXF P w) (k + 2) A.first D.first ["web", "kind", "bound"] (spFirst A.er) := by
  refine T.F_first.okF sc_first (fun vs H Q E h => ?_) (fun cdv A' outer s H vs Q E hr h => ?_)
  · obtain ⟨_, _, _, _, _, rfl, _⟩ := h
    rfl
  obtain ⟨v, n, ts, kd, bd, rfl, ask, q⟩ := h
  refine ⟨_, (pss_cons (ps_expr (pe_call G_look_asked hr rfl T.m_look_asked T.F_look_asked.kp T.b_look_asked .nil passes_cx (pa_cons (pv 0) (pa_cons (pv 1) (pa_cons (pv 2) pa_nil)))))
(pss_one (ps_ret (pe_call G_first_row hr rfl T.m_first_row T.F_first_row.kp T.b_first_row .nil pass0F (pa_cons (pe_make T.mk_Walk G_Walk_init hr rfl T.m_Walk T.b_Walk_init .nil pass0F (pa_cons (pv 0) (pa_cons (pv 1) (pa_cons (pv 2) pa_nil)))) pa_nil))))), ?_⟩
  refine ⟨_, rfl, _, rfl, _, rfl, v, n, ts, kd, bd, rfl, ask, fun hw hk h0 h1 H1 e1 => ?_⟩
  obtain ⟨hn0, _, _⟩ := webOk_of hw
  obtain ⟨N, rfl⟩ : ∃ N : Nat, n = N := ⟨n.toNat, by omega⟩
  have hN : N ≤ 5 := by have := ask.n5 hw; omega
  have wi : WIn ⟨N, ts, kd, bd⟩ := ⟨hN, hw, hk, h0⟩
  obtain ⟨q1, q2⟩ := q hw hk h0 h1
  rw [Int.toNat_natCast] at q1 q2
  refine ⟨_, rfl, _, rfl, _, rfl, fun x dx nx ndx ne => walk_made (W := ⟨N, ts, kd, bd⟩) (ask.dat.mono e1) hw ask.win hN nx ndx fun H2 e2 hW => ⟨x, ⟨N, ts, kd, bd⟩, rfl, hW, wi, fun rv H3 e3 hR => ?_⟩⟩
  have e13 := e1.trans (e2.trans e3)
  unfold FR at hR
  rw [good_rows wi] at hR
  rcases hR with ⟨rfl, z⟩ | ⟨l, r, rest, rfl, hl, z⟩
  · exact q1 z H3 e13
  · exact q2 r rest z l H3 e13 hl
theorem sc_least : FnScope ["web", "kind", "bound", "row"] ["web", "kind"] (defScope s_least) := ⟨rfl, rfl, rfl, by decide +kernel, rfl, by decide +kernel, by decide +kernel⟩
theorem ok_least (T : Txt K mg A D) {k : Nat} (G_look_web : FnOk P w K mg base (CXF P w) (k + 1) A.look_web D.look_web ["web"] (spWeb A.er)) (G_look_kind : FnOk P w K mg base (CXF P w) (k + 1) A.look_kind D.look_kind ["kind"] (spKind A.er)) (G_bound_to_try : FnOk P w K mg base (CXF P w) (k + 1) A.bound_to_try D.bound_to_try ["web", "kind"] spTry) (G_first_row : FnOk P w K mg base (CXF P w) (k + 1) A.first_row D.first_row ["walk"] (spFirstR A.Walk)) (G_Walk_init : FnOk P w K mg base (CXF P w) k A.Walk_init D.Walk_init ["self", "web", "kind", "bound"] (spWInit A.Walk)) :
    FnOk P w K mg base (CXF P w) (k + 2) A.least D.least ["web", "kind"] (spLeastW A.er) := by
  refine T.F_least.okF sc_least (fun vs H Q E h => ?_) (fun cdv A' outer s H vs Q E hr h => ?_)
  · obtain ⟨_, _, _, _, rfl, _⟩ := h
    rfl
  obtain ⟨v, n, ts, kd, rfl, ask, q⟩ := h
  refine ⟨_, (pss_cons (ps_expr (pe_call G_look_web hr rfl T.m_look_web T.F_look_web.kp T.b_look_web .nil passes_cx (pa_cons (pv 0) pa_nil)))
(pss_cons (ps_expr (pe_call G_look_kind hr rfl T.m_look_kind T.F_look_kind.kp T.b_look_kind .nil passes_cx (pa_cons (pv 1) pa_nil)))
(pss_cons (ps_set (i := 2) sc_least.nd rfl (Or.inl rfl) (pe_call G_bound_to_try hr rfl T.m_bound_to_try T.F_bound_to_try.kp T.b_bound_to_try .nil pass0F (pa_cons (pv 0) (pa_cons (pv 1) pa_nil))))
(pss_cons (ps_set (i := 3) sc_least.nd rfl (Or.inl rfl) (pe_call G_first_row hr rfl T.m_first_row T.F_first_row.kp T.b_first_row .nil pass0F (pa_cons (pe_make T.mk_Walk G_Walk_init hr rfl T.m_Walk T.b_Walk_init .nil pass0F (pa_cons (pv 0) (pa_cons (pv 1) (pa_cons (pv 2) pa_nil)))) pa_nil)))
(pss_cons (ps_while passesOwn_cx (pt_cmp (pc_isN (pv 3)))
(pss_cons (ps_aug (i := 2) sc_least.nd rfl (Or.inl rfl) pe_int ip_add)
(pss_one (ps_set (i := 3) sc_least.nd rfl (Or.inl rfl) (pe_call G_first_row hr rfl T.m_first_row T.F_first_row.kp T.b_first_row .nil pass0F (pa_cons (pe_make T.mk_Walk G_Walk_init hr rfl T.m_Walk T.b_Walk_init .nil pass0F (pa_cons (pv 0) (pa_cons (pv 1) (pa_cons (pv 2) pa_nil)))) pa_nil))))))
(pss_one (ps_ret (pe_tup (pa_cons (pv 2) (pa_cons (pv 3) pa_nil)))))))))), ?_⟩
  refine ⟨_, rfl, v, n, ts, rfl, ask.dat, ask.win, fun hw H1 e1 => ?_, fun hw H1 e1 => ask.ew hw H1 e1⟩
  refine ⟨_, rfl, kd, rfl, ask.k1, ask.k2, fun hk => ?_, fun hk => ask.ek hw (fun z => hk z.1) H1 e1⟩
  obtain ⟨hn0, _, _⟩ := webOk_of hw
  obtain ⟨N, rfl⟩ : ∃ N : Nat, n = N := ⟨n.toNat, by omega⟩
  have hN : N ≤ 5 := by have := ask.n5 hw; omega
  obtain ⟨M, r, rest, hg, hlow, qq⟩ := q hw hk
  rw [Int.toNat_natCast] at hg
  have hrm : ordOk N r = true ∧ measF kd N r ts ≤ M := good_mem.mp (by rw [hg]; exact .head _)
  refine ⟨_, rfl, _, rfl, v, N, ts, kd, rfl, ask.dat.mono e1, hw, ask.win, hN, hk, fun b0 H2 e2 hb0 hbl => ?_⟩
  have hb0M : b0 ≤ M := Int.le_trans (hbl r hrm.1) hrm.2
  have e12 := e1.trans e2
  have wi : ∀ {b : Int}, 0 ≤ b → WIn ⟨N, ts, kd, b⟩ := fun hb => ⟨hN, hw, hk, hb⟩
  refine ⟨_, rfl, _, rfl, _, rfl, fun x dx nx ndx ne => walk_made (W := ⟨N, ts, kd, b0⟩) (ask.dat.mono e12) hw ask.win hN nx ndx fun H2' e2' hW => ⟨x, ⟨N, ts, kd, b0⟩, rfl, hW, wi hb0, fun rv H3 e3' hrv => ?_⟩⟩
  have e3 := e12.trans (e2'.trans e3')
  refine ⟨fun m σ H' => ∃ b rv, σ = [some v, some (.str kd), some (.int b), some rv] ∧ Same H H' ∧ 0 ≤ b ∧ b ≤ M ∧ m = (M - b).toNat ∧ FR ⟨N, ts, kd, b⟩ rv H', ⟨_, b0, rv, rfl, e3, hb0, hb0M, rfl, hrv⟩, ?_⟩
  rintro m σ H' ⟨b, rv, rfl, e, hb, hbM, rfl, hR⟩
  unfold FR at hR
  rw [good_rows (wi hb)] at hR
  refine ⟨_, rfl, _, rfl, ?_⟩
  rcases hR with ⟨rfl, hnil⟩ | ⟨l, r', rest', rfl, hl, hgb⟩
  · have hlt : b < M := by
      by_cases c : b = M
      · have hnil : goodL N ts kd b = [] := hnil
        rw [c, hg] at hnil
        cases hnil
      · omega
    refine iteDT rfl ⟨fun σ H' => ∃ b' rv, σ = [some v, some (.str kd), some (.int b'), some rv] ∧ Same H H' ∧ 0 ≤ b' ∧ b' ≤ M ∧ b' = b + 1 ∧ FR ⟨N, ts, kd, b'⟩ rv H', ?_, ?_⟩
    · rintro σ' H4 ⟨b', rv', rfl, e4, g1, g2, g3, g4⟩
      exact ⟨(M - b').toNat, by omega, b', rv', rfl, e4, g1, g2, rfl, g4⟩
    · refine ⟨_, rfl, _, _, rfl, rfl, ?_⟩
      have h1 : (0 : Int) ≤ b + 1 := by omega
      refine ⟨_, rfl, _, rfl, _, rfl, fun x dx nx ndx ne => walk_made (W := ⟨N, ts, kd, b + 1⟩) (ask.dat.mono e) hw ask.win hN nx ndx fun H5 e5 hW5 => ⟨x, ⟨N, ts, kd, b + 1⟩, rfl, hW5, wi h1, fun rv5 H6 e6 hR6 => ?_⟩⟩
      exact ⟨b + 1, rv5, rfl, e.trans (e5.trans e6), h1, by omega, rfl, hR6⟩
  · have hgb : goodL N ts kd b = r' :: rest' := hgb
    have hr' : ordOk N r' = true ∧ measF kd N r' ts ≤ b := good_mem.mp (by rw [hgb]; exact .head _)
    have hbe : b = M := by
      have := hlow r' hr'.1
      omega
    subst hbe
    rw [hg] at hgb
    cases hgb
    refine iteDF (fun z => nomatch z) ⟨_, rfl, _, rfl, (by show 2 ≤ sizeLine; decide), fun t ht => ?_⟩
    obtain ⟨s4, n4⟩ := new_pair (o := .tup [V.int b, V.ref l]) ht
    exact qq t l _ (e.trans s4) n4 (s4 _ _ hl)
theorem sc_law_cell : FnScope ["_law_script", "_law_k"] ["_law_script", "_law_k"] (defScope s_law_cell) := ⟨rfl, rfl, rfl, by decide +kernel, rfl, by decide +kernel, by decide +kernel⟩
theorem ok_law_cell (T : Txt K mg A D) {k : Nat} : FnOk P w K mg base (CXF P w) (k + 1) A.law_cell D.law_cell ["_law_script", "_law_k"] (spCell K) := by
  refine T.F_law_cell.okF sc_law_cell (fun vs H Q E h => ?_) (fun cdv A' outer s H vs Q E hr h => ?_)
  · obtain ⟨_, _, _, rfl, _⟩ := h
    rfl
  obtain ⟨a, ns, i, rfl, hS, q⟩ := h
  refine ⟨_, (pss_cons (ps_if (pt_truth (pv 0) (fun _ => rfl))
(pss_one (ps_ret (pe_ix ix_list (pv 0) (pe_op op_mod (pv 1) (pe_callB call_len_seq rfl T.z_len PySem.boot_len (pa_cons (pv 0) pa_nil))) (fun _ _ => rfl))))
pss_nil)
(pss_one (ps_ret pe_int))), ?_⟩
  refine ⟨_, rfl, _, .inl ⟨_, hS, rfl⟩, ?_⟩
  cases ns with
  | nil => exact iteF q
  | cons x r =>
    refine iteT ?_
    exact ⟨_, rfl, _, rfl, _, rfl, _, _, rfl, .inl hS, _, _, rfl, rfl, (by rw [List.length_map, List.length_cons]; omega), _, _, _, _, rfl, rfl, hS, cell_at (List.cons_ne_nil x r) i, q⟩
theorem sc_law_mix : FnScope ["_law_script", "_law_k", "_law_number"] ["_law_script", "_law_k"] (defScope s_law_mix) := ⟨rfl, rfl, rfl, by decide +kernel, rfl, by decide +kernel, by decide +kernel⟩
theorem ok_law_mix (T : Txt K mg A D) {k : Nat} (G_law_cell : FnOk P w K mg base (CXF P w) k A.law_cell D.law_cell ["_law_script", "_law_k"] (spCell K)) : FnOk P w K mg base (CXF P w) (k + 1) A.law_mix D.law_mix ["_law_script", "_law_k"] (spMix K) := by
  refine T.F_law_mix.okF sc_law_mix (fun vs H Q E h => ?_) (fun cdv A' outer s H vs Q E hr h => ?_)
  · obtain ⟨_, _, _, rfl, _⟩ := h
    rfl
  obtain ⟨a, ns, i, rfl, hS, q⟩ := h
  refine ⟨_, (pss_cons (ps_set (i := 2) sc_law_mix.nd rfl (Or.inl rfl) (pe_op op_mod (pe_op op_add (pe_call G_law_cell hr rfl T.m_law_cell T.F_law_cell.kp T.b_law_cell .nil pass0F (pa_cons (pv 0) (pa_cons (pv 1) pa_nil))) (pe_op op_mul pe_int (pe_op op_add (pv 1) pe_int))) pe_int))
(pss_cons (ps_set (i := 2) sc_law_mix.nd rfl (Or.inl rfl) (pe_op op_mod (pe_op op_mul (pv 2) pe_int) pe_int))
(pss_one (ps_ret (pe_op op_mod (pe_op op_add (pe_op op_mul (pe_op op_fdiv (pv 2) pe_int) pe_int) (pv 2)) pe_int))))), ?_⟩
  refine ⟨_, rfl, _, rfl, a, ns, i, rfl, hS, _, rfl, _, _, rfl, rfl, _, _, rfl, rfl, .inl ⟨by decide, by decide⟩, _, _, rfl, rfl, _, _, rfl, rfl, (by show (0 : Int) < 4294967291; decide), ?_⟩
  refine ⟨_, rfl, _, _, rfl, rfl, .inr ⟨by decide, by decide⟩, _, _, rfl, rfl, (by show (0 : Int) < 4294967279; decide), ?_⟩
  exact ⟨_, rfl, _, _, rfl, rfl, ⟨by decide, by decide⟩, _, _, rfl, rfl, .inr ⟨by decide, by decide⟩, _, rfl, _, _, rfl, rfl, _, _, rfl, rfl, (by show (0 : Int) < 4294967231; decide), q⟩
theorem sc_law_whole : FnScope ["_law_found"] ["_law_found"] (defScope s_law_whole) := ⟨rfl, rfl, rfl, by decide +kernel, rfl, by decide +kernel, by decide +kernel⟩
theorem ok_law_whole (T : Txt K mg A D) {k : Nat} : FnOk P w K mg base (CXF P w) (k + 1) A.law_whole D.law_whole ["_law_found"] spWhole := by
  refine T.F_law_whole.okF sc_law_whole (fun vs H Q E h => ?_) (fun cdv A' outer s H vs Q E hr h => ?_)
  · obtain ⟨_, rfl, _⟩ := h
    rfl
  obtain ⟨x, rfl, h⟩ := h
  refine ⟨_, (pss_one (ps_ret (pe_and (pe_callB call_isinst rfl T.z_isinstance bt_isinstance (pa_cons (pv 0) (pa_cons (pe_bltn (v := .ty "int") rfl T.z_int bt_int rfl) pa_nil))) (pe_one (pe_not (pe_callB call_isinst rfl T.z_isinstance bt_isinstance (pa_cons (pv 0) (pa_cons (pe_bltn (v := .ty "bool") rfl T.z_bool bt_bool rfl) pa_nil)))))))), ?_⟩
  rcases h with ⟨i, rfl, q⟩ | ⟨a, xs, rfl, ha, q⟩
  · refine ⟨_, rfl, _, _, _, _, _, rfl, rfl, .int i, T.k_int_int, _, rfl, iteT ?_⟩
    exact ⟨_, rfl, _, _, _, _, _, rfl, rfl, .int i, T.k_int_bool, _, rfl, q⟩
  · exact ⟨_, rfl, _, _, _, _, _, rfl, rfl, .tup ha, T.k_tuple_int, _, rfl, iteF q⟩
theorem sc_law_web : FnScope ["_law_script", "_law_k", "_law_places", "_law_many", "_law_dense", "_law_ties", "_law_one", "_law_other", "_law_number"] ["_law_script", "_law_k", "_law_places"] (defScope s_law_web) := ⟨rfl, rfl, rfl, by decide +kernel, rfl, by decide +kernel, by decide +kernel⟩
theorem ok_law_web (T : Txt K mg A D) {k : Nat} (G_law_mix : FnOk P w K mg base (CXF P w) k A.law_mix D.law_mix ["_law_script", "_law_k"] (spMix K)) : FnOk P w K mg base (CXF P w) (k + 1) A.law_web D.law_web ["_law_script", "_law_k", "_law_places"] (spLWeb K) := by
  refine T.F_law_web.okF sc_law_web (fun vs H Q E h => ?_) (fun cdv A' outer s H vs Q E hr h => ?_)
  · obtain ⟨_, _, _, _, rfl, _⟩ := h
    rfl
  obtain ⟨a, ns, k0, m, rfl, hS, hm0, hm8, q⟩ := h
  refine ⟨_, (pss_cons (ps_set (i := 3) sc_law_web.nd rfl (Or.inl rfl) (pe_op op_mod (pe_call G_law_mix hr rfl T.m_law_mix T.F_law_mix.kp T.b_law_mix .nil pass0F (pa_cons (pv 0) (pa_cons (pv 1) pa_nil))) (pe_op op_add (pv 2) pe_int)))
(pss_cons (ps_set (i := 4) sc_law_web.nd rfl (Or.inl rfl) (pe_op op_add pe_int (pe_op op_mod (pe_call G_law_mix hr rfl T.m_law_mix T.F_law_mix.kp T.b_law_mix .nil pass0F (pa_cons (pv 0) (pa_cons (pe_op op_add (pv 1) pe_int) pa_nil))) pe_int)))
(pss_cons (ps_set (i := 5) sc_law_web.nd rfl (Or.inl rfl) (pe_lst pa_nil))
(pss_cons (ps_for passesOwn_cx rfl (pi_range1 rfl T.z_range (pa_cons (pv 3) pa_nil)) (pg_name (i := 6) sc_law_web.nd rfl (Or.inl rfl))
(pss_one (ps_for passesOwn_cx rfl (pi_range2 rfl T.z_range (pa_cons (pe_op op_add (pv 6) pe_int) (pa_cons (pv 3) pa_nil))) (pg_name (i := 7) sc_law_web.nd rfl (Or.inl rfl))
(pss_cons (ps_set (i := 8) sc_law_web.nd rfl (Or.inl rfl) (pe_call G_law_mix hr rfl T.m_law_mix T.F_law_mix.kp T.b_law_mix .nil pass0F (pa_cons (pv 0) (pa_cons (pe_op op_add (pe_op op_add (pe_op op_add (pv 1) pe_int) (pe_op op_mul pe_int (pv 6))) (pv 7)) pa_nil))))
(pss_one (ps_if (pt_cmpR op_lt (pe_op op_mod (pe_op op_fdiv (pv 8) pe_int) pe_int) (pv 4) (nomark _))
(pss_one (ps_expr (pe_bm PySem.F.plainAttrs_list PySem.F.slot_list_append PySem.F.type_list_append mt_append (pv 5) (pa_cons (pe_tup (pa_cons (pv 6) (pa_cons (pv 7) (pa_cons (pe_ix ix_list (pe_lst (pa_cons pe_int (pa_cons pe_int (pa_cons pe_int (pa_cons pe_int (pa_cons pe_int (pa_cons pe_int pa_nil))))))) (pe_op op_mod (pe_op op_fdiv (pv 8) pe_int) pe_int) (fun _ _ => rfl)) pa_nil)))) pa_nil))))
pss_nil))))))
(pss_one (ps_ret (pe_tup (pa_cons (pv 3) (pa_cons (pv 5) pa_nil))))))))), ?_⟩
  refine ⟨_, rfl, _, rfl, a, ns, k0, rfl, hS, _, rfl, _, _, rfl, rfl, _, _, rfl, rfl, (by show 0 < m + 1; omega), ?_⟩
  have hn0 : 0 ≤ mixI ns k0 % (m + 1) := Int.emod_nonneg _ (by omega)
  have hn1 : mixI ns k0 % (m + 1) < m + 1 := Int.emod_lt_of_pos _ (by omega)
  dsimp only
  generalize mixI ns k0 % (m + 1) = n at hn0 hn1 ⊢
  refine ⟨_, rfl, _, rfl, _, _, rfl, rfl, a, ns, _, rfl, hS, _, _, rfl, rfl, (by show (0 : Int) < 4; decide), _, _, rfl, rfl, Nat.zero_le _, fun t ht => ?_⟩
  dsimp only
  generalize 1 + mixI ns (k0 + 1) % 4 = de
  have e0 : Same H (upd H t (.lst [])) := same_new ht
  refine ⟨_, rfl, _, rfl, by omega, by omega, ?_⟩
  refine for_in n.toNat (fun i σ H' => ∃ v6 v7 v8 ts xs, σ = [some (.ref a), some (.int k0), some (.int m), some (.int n), some (.int de), some (.ref t), v6, v7, v8] ∧ Same H H' ∧ H' t = some (.lst xs) ∧ DatL (mask t H') (ts.map tieD) xs ∧ TW n (i : Int) 0 ts ∧ ts.length ≤ 8 * i)
    ⟨none, none, none, [], [], rfl, e0, upd_same, .nil, .nil, Nat.zero_le _⟩ (fun i σ H' hi _ => hi) (fun σ H' _ => Nat.le_refl _) ?_ ?_
  · rintro i x σ H2 H3 hi ⟨v6, v7, v8, ts0, xs0, rfl, e2, hx0, dl0, tw0, hl0⟩ ⟨rfl, rfl⟩
    have ei : (0 : Int) + (i : Nat) = i := by omega
    rw [ei]
    refine ⟨_, rfl, _, _, rfl, rfl, _, rfl, _, _, rfl, ⟨by omega, by omega, by omega, by omega⟩, ?_⟩
    refine for_in (n - ((i : Int) + 1)).toNat (fun j σ H' => ∃ v7 v8 ts xs, σ = [some (.ref a), some (.int k0), some (.int m), some (.int n), some (.int de), some (.ref t), some (.int i), v7, v8] ∧ Same H H' ∧ H' t = some (.lst xs) ∧ DatL (mask t H') (ts.map tieD) xs ∧ TW n (i : Int) ((i : Int) + 1 + j) ts ∧ ts.length ≤ 8 * i + j)
      ⟨v7, v8, ts0, xs0, rfl, e2, hx0, dl0, tw0.later (by omega), by omega⟩ (fun j σ H' hj _ => hj) (fun σ H' _ => Nat.le_refl _) ?_ ?_
    · rintro j x σ H4 H5 hj ⟨v7, v8, ts, xs, rfl, e4, hx, dl, tw, hl⟩ ⟨rfl, rfl⟩
      have hS4 := e4.seq hS
      refine ⟨_, rfl, _, rfl, _, _, rfl, rfl, _, rfl, _, _, rfl, rfl, .inl ⟨by decide, by decide⟩, _, _, rfl, rfl, _, rfl, _, _, rfl, rfl, a, ns, _, rfl, hS4, ?_⟩
      have hx0 := mixI_nonneg ns (k0 + 2 + 8 * (i : Int) + ((i : Int) + 1 + (j : Nat)))
      dsimp only
      generalize mixI ns (k0 + 2 + 8 * (i : Int) + ((i : Int) + 1 + (j : Nat))) = nu at hx0 ⊢
      refine ⟨_, rfl, _, _, rfl, rfl, ⟨by decide, by decide⟩, _, _, rfl, rfl, (by show (0 : Int) < 4; decide), _, rfl, _, _, rfl, rfl, _, rfl, ite2 (fun c => ?_) (fun c => ?_)⟩
      · obtain ⟨wt, hw, hw1, hw2⟩ := weights_at (i := nu / 64 % 6) (Int.emod_nonneg _ (by decide)) (Int.emod_lt_of_pos _ (by decide))
        refine ⟨_, rfl, .inl ⟨rfl, _, SqL.of hx⟩, _, rfl, _, rfl, (by show 6 ≤ sizeLine; decide), fun p hp => ?_⟩
        refine ⟨_, rfl, _, _, rfl, rfl, ⟨by decide, by decide⟩, _, _, rfl, rfl, (by show (0 : Int) < 6; decide), _, _, _, _, rfl, rfl, SqL.of upd_same, hw, (by show 3 ≤ sizeLine; decide), fun r hr2 => ?_⟩
        have s1 := same_new (o := .lst [V.int 1, V.int 1, V.int 2, V.int 3, V.int 7, V.int 100]) hp
        have s2 := same_new (o := .tup [V.int i, V.int ((i : Int) + 1 + (j : Nat)), V.int wt]) hr2
        have s3 := s1.trans s2
        have hlx : xs.length = ts.length := by rw [← dl.length, List.length_map]
        have hrt : r ≠ t := ne_new hr2 (s1 _ _ hx)
        have ht4 : H t = none := ht
        refine ⟨_, _, _, rfl, rfl, s3 _ _ hx, (by rw [hlx, sizeLine_eq]; omega), _, _, ts ++ [[(i : Int), (i : Int) + 1 + (j : Nat), wt]], _, rfl, (e4.trans s3).put ht, upd_same, ?_, ?_, ?_⟩
        · rw [mask_upd, List.map_append]
          refine (dl.mono (mask_mono s3)).append (.cons (Dat.intsT (ns := [(i : Int), (i : Int) + 1 + (j : Nat), wt]) ?_) .nil)
          rw [mask_ne hrt]
          exact upd_same
        · have := tw.add (w := wt) (by omega) (by omega) (by omega) hw1 hw2
          have e : (i : Int) + 1 + ((j + 1 : Nat) : Int) = (i : Int) + 1 + (j : Nat) + 1 := by omega
          rw [e]
          exact this
        · rw [List.length_append]
          show ts.length + 1 ≤ _
          omega
      · exact ⟨_, _, ts, xs, rfl, e4, hx, dl, tw.later (by omega), by omega⟩
    · rintro σ H4 ⟨v7, v8, ts, xs, rfl, e4, hx, dl, tw, hl⟩
      exact ⟨_, _, _, ts, xs, rfl, e4, hx, dl, tw.later (by omega), by omega⟩
  · rintro σ H' ⟨v6, v7, v8, ts, xs, rfl, e2, hx, dl, tw, hl⟩
    refine ⟨_, rfl, _, rfl, (by show 2 ≤ sizeLine; decide), fun p hp => ?_⟩
    have s1 := same_new (o := .tup [V.int n, V.ref t]) hp
    have hw : webOk n ts = true := by
      unfold webOk
      rw [tw.ok, decide_eq_true hn0, decide_eq_true (show n ≤ 8 by omega)]
      rfl
    refine q _ _ n ts (e2.trans s1) (web_mk upd_same (s1 _ _ hx) (dl.mono (mask_same.trans s1))) hw (webIn_of hw (by omega)) (by omega) (by omega)
theorem sc_law_lengths : FnScope ["_law_web_here", "_law_order"] ["_law_web_here", "_law_order"] (defScope s_law_lengths) := ⟨rfl, rfl, rfl, by decide +kernel, rfl, by decide +kernel, by decide +kernel⟩
theorem nd_law_lengths_1 : List.Nodup (["_law_order", "_law_one", "_law_other", "_law_weight"] : List Str) := by decide +kernel
theorem ok_law_lengths (T : Txt K mg A D) {k : Nat} : FnOk P w K mg base (CXF P w) (k + 1) A.law_lengths D.law_lengths ["_law_web_here", "_law_order"] spLLens := by
  refine T.F_law_lengths.okF sc_law_lengths (fun vs H Q E h => ?_) (fun cdv A' outer s H vs Q E hr h => ?_)
  · obtain ⟨_, _, _, _, _, rfl, _⟩ := h
    rfl
  obtain ⟨v, l, n, ts, os, rfl, dv, hl0, hw, hin, ho, q⟩ := h
  obtain ⟨hol, hok, hon⟩ := ordOk_of ho
  obtain ⟨hn0, hn8, htt⟩ := webOk_of hw
  obtain ⟨a, tl, xs, rfl, ha, hl, dl⟩ := web_of dv
  have hlen : xs.length = ts.length := by rw [← dl.length, List.length_map]
  refine ⟨_, (pss_one (ps_ret (pe_lc rfl (cn_of (N := ["_law_order", "_law_one", "_law_other", "_law_weight"]) (js := [some 1, none, none, none]) rfl rfl (by decide +kernel) (by decide +kernel) rfl (List.forall_mem_cons.mpr ⟨rfl, fun _ h => nomatch h⟩) (List.forall_mem_cons.mpr ⟨(fun h => nomatch h), (List.forall_mem_cons.mpr ⟨(fun h => nomatch h), (List.forall_mem_cons.mpr ⟨(fun h => nomatch h), (List.forall_mem_cons.mpr ⟨(fun h => nomatch h), (List.forall_mem_cons.mpr ⟨(fun h => nomatch h), (List.forall_mem_cons.mpr ⟨(fun _ => rfl), fun _ h => nomatch h⟩)⟩)⟩)⟩)⟩)⟩) (List.forall_mem_cons.mpr ⟨(fun j h => (by cases h; exact ⟨rfl, rfl, rfl⟩)), (List.forall_mem_cons.mpr ⟨(fun j h => nomatch h), (List.forall_mem_cons.mpr ⟨(fun j h => nomatch h), (List.forall_mem_cons.mpr ⟨(fun j h => nomatch h), fun _ h => nomatch h⟩)⟩)⟩)⟩) rfl) (pi_list (pe_ix ix_tup (pv 0) pe_int (fun _ _ => rfl))) (fun _ _ _ _ => (pg_tupK (K := K) (n := 3) rfl rfl (pgs_cons (pg_name (i := 1) nd_law_lengths_1 rfl (Or.inl rfl) (hf := Or.inr rfl)) (pgs_cons (pg_name (i := 2) nd_law_lengths_1 rfl (Or.inl rfl) (hf := Or.inr rfl)) (pgs_cons (pg_name (i := 3) nd_law_lengths_1 rfl (Or.inl rfl) (hf := Or.inr rfl)) pgs_nil))) rfl rfl)) (fun _ _ _ _ => pts_nil) (fun _ _ _ _ => (pe_callB call_abs rfl T.z_abs bt_abs (pa_cons (pe_op op_sub (pe_bmK (K := K) rfl PySem.F.plainAttrs_list PySem.F.slot_list_index PySem.F.type_list_index (mt_indexK (K := K) rfl) (pv 0) (pa_cons (pv 1) pa_nil) rfl rfl rfl rfl rfl) (pe_bmK (K := K) rfl PySem.F.plainAttrs_list PySem.F.slot_list_index PySem.F.type_list_index (mt_indexK (K := K) rfl) (pv 0) (pa_cons (pv 2) pa_nil) rfl rfl rfl rfl rfl)) pa_nil)))))), ?_⟩
  refine ⟨_, rfl, _, _, _, _, rfl, rfl, SqT.of ha, rfl, tl, rfl, ⟨xs, SqL.of hl⟩, ?_⟩
  refine lc_in (fun σ => ∃ x y z, σ = [some (.ref l), x, y, z]) ts.length (fun i => .int (tieLen os (ts.getD i []))) ⟨none, none, none, rfl⟩ ?_ ?_ ?_ ?_ ?_
  · intro i H3 hi e3
    have hx : i < xs.length := by omega
    exact ⟨xs, xs[i], SqL.of (e3 _ _ hl), List.getElem?_eq_getElem hx⟩
  · intro H3 e3
    exact ⟨xs, SqL.of (e3 _ _ hl), by omega⟩
  · have := hin.len
    rw [sizeLine_eq]
    omega
  · rintro Dd i x σ2 H3 H4 N hi e3 hD ⟨x1, y1, z1, rfl⟩ ⟨rfl, hx⟩ fin
    obtain ⟨t, htt2⟩ : ∃ t, ts[i]? = some t := ⟨ts[i], List.getElem?_eq_getElem hi⟩
    obtain ⟨ta, hxa, hta⟩ := tie_at (dl.mono e3) htt2
    have hx2 := hx xs (SqL.of (e3 _ _ hl))
    rw [hxa] at hx2
    cases hx2
    have htd : ts.getD i [] = t := by rw [List.getD_eq_getElem?_getD, htt2]; rfl
    obtain ⟨pa, pb, pc, rfl, h1, h2, h3, h4, h5, h6⟩ := htt t (List.mem_of_getElem? htt2)
    have ma := ord_all ho h3 (by omega)
    have mb := ord_all ho h1 h2
    have hl3 := e3 _ _ hl0
    refine ⟨ta, _, rfl, SqT.of hta, rfl, _, _, rfl, _, _, rfl, _, _, rfl, rfl, ?_⟩
    refine ⟨_, rfl, .inl ⟨rfl, _, SqL.of hl3⟩, _, rfl, _, _, _, _, rfl, rfl, SqL.of hl3, flat_ints os, rfl, index_of ma, _, rfl, .inl ⟨rfl, _, SqL.of hl3⟩, _, rfl, _, _, _, _, rfl, rfl, SqL.of hl3, flat_ints os, rfl, index_of mb, _, _, rfl, rfl, _, rfl, ?_⟩
    refine fin _ _ _ ⟨_, _, _, rfl⟩ (Same.refl _) ?_
    rw [htd]
    exact .int
  · intro Dd ys H3 hD e3 hy dy
    have z : (List.range ts.length).map (fun i => PyData.int (tieLen os (ts.getD i []))) = (lens os ts).map .int := by
      rw [map_range_get (fun t => PyData.int (tieLen os t)) [] ts]
      unfold lens
      rw [List.map_map]
      rfl
    rw [z] at dy
    rw [dy.ints_of] at hy
    exact q Dd H3 hD e3 hy
theorem sc_law_gaps : FnScope ["_law_web_here", "_law_order", "_law_found", "_law_gap", "_law_over", "_law_one", "_law_other", "_law_weight", "_law_spots"] ["_law_web_here", "_law_order"] (defScope s_law_gaps) := ⟨rfl, rfl, rfl, by decide +kernel, rfl, by decide +kernel, by decide +kernel⟩
theorem ok_law_gaps (T : Txt K mg A D) {k : Nat} : FnOk P w K mg base (CXF P w) (k + 1) A.law_gaps D.law_gaps ["_law_web_here", "_law_order"] spLGaps := by
  refine T.F_law_gaps.okF sc_law_gaps (fun vs H Q E h => ?_) (fun cdv A' outer s H vs Q E hr h => ?_)
  · obtain ⟨_, _, _, _, _, rfl, _⟩ := h
    rfl
  obtain ⟨v, l, n, ts, os, rfl, dv, hl0, hw, hin, ho, q⟩ := h
  obtain ⟨hol, hok, hon⟩ := ordOk_of ho
  obtain ⟨hn0, hn8, htt⟩ := webOk_of hw
  obtain ⟨a, tl, xs, rfl, ha, hl, dl⟩ := web_of dv
  have hlen : xs.length = ts.length := by rw [← dl.length, List.length_map]
  refine ⟨_, (pss_cons (ps_set (i := 2) sc_law_gaps.nd rfl (Or.inl rfl) (pe_lst pa_nil))
(pss_cons (ps_for passesOwn_cx rfl (pi_range1 rfl T.z_range (pa_cons (pe_op op_sub (pe_callB call_len_seq rfl T.z_len PySem.boot_len (pa_cons (pv 1) pa_nil)) pe_int) pa_nil)) (pg_name (i := 3) sc_law_gaps.nd rfl (Or.inl rfl))
(pss_cons (ps_set (i := 4) sc_law_gaps.nd rfl (Or.inl rfl) pe_int)
(pss_cons (ps_for passesOwn_cx rfl (pi_list (pe_ix ix_tup (pv 0) pe_int (fun _ _ => rfl))) (pg_tup rfl (pgs_cons (pg_name (i := 5) sc_law_gaps.nd rfl (Or.inl rfl)) (pgs_cons (pg_name (i := 6) sc_law_gaps.nd rfl (Or.inl rfl)) (pgs_cons (pg_name (i := 7) sc_law_gaps.nd rfl (Or.inl rfl)) pgs_nil))))
(pss_cons (ps_set (i := 8) sc_law_gaps.nd rfl (Or.inl rfl) (pe_callB call_sorted rfl T.z_sorted bt_sorted (pa_cons (pe_lst (pa_cons (pe_bm PySem.F.plainAttrs_list PySem.F.slot_list_index PySem.F.type_list_index mt_index (pv 1) (pa_cons (pv 5) pa_nil)) (pa_cons (pe_bm PySem.F.plainAttrs_list PySem.F.slot_list_index PySem.F.type_list_index mt_index (pv 1) (pa_cons (pv 6) pa_nil)) pa_nil))) pa_nil)))
(pss_one (ps_set (i := 4) sc_law_gaps.nd rfl (Or.inl rfl) (pe_op op_add (pv 4) (pe_op op_mul (pv 7) (pe_callTy call_int1 rfl T.z_int bt_int (pa_cons (pe_chain op_le op_lt (pe_ix ix_list (pv 8) pe_int (fun _ _ => rfl)) (pv 3) (pe_ix ix_list (pv 8) pe_int (fun _ _ => rfl))) pa_nil))))))))
(pss_one (ps_expr (pe_bm PySem.F.plainAttrs_list PySem.F.slot_list_append PySem.F.type_list_append mt_append (pv 2) (pa_cons (pv 4) pa_nil)))))))
(pss_one (ps_ret (pv 2))))), ?_⟩
  refine ⟨Nat.zero_le _, fun f hf => ?_⟩
  have e0 : Same H (upd H f (.lst [])) := same_new hf
  refine ⟨_, rfl, _, _, rfl, .inl (SqL.of (e0 _ _ hl0)), _, _, rfl, rfl, _, rfl, (by rw [List.length_map, hol]; omega), (by rw [List.length_map, hol]; omega), ?_⟩
  have hj : ((os.map V.int).length : Int) - 1 = n - 1 := by rw [List.length_map, hol]
  rw [hj]
  refine for_in (n - 1).toNat (fun i σ H' => ∃ v3 v4 v5 v6 v7 v8, σ = [some (.ref a), some (.ref l), some (.ref f), v3, v4, v5, v6, v7, v8] ∧ Same H H' ∧ H' f = some (.lst (((List.range i).map (gapAt os ts)).map .int)))
    ⟨none, none, none, none, none, none, rfl, e0, upd_same⟩ (fun i σ H' hi _ => hi) (fun σ H' _ => Nat.le_refl _) ?_ ?_
  · rintro i x σ H2 H3 hi ⟨v3, v4, v5, v6, v7, v8, rfl, e2, hg⟩ ⟨rfl, rfl⟩
    have ei : (0 : Int) + (i : Nat) = i := by omega
    rw [ei]
    refine ⟨_, rfl, _, _, _, _, rfl, rfl, SqT.of (e2 _ _ ha), rfl, tl, rfl, ⟨xs, SqL.of (e2 _ _ hl)⟩, ?_⟩
    refine for_in ts.length (fun j σ H' => ∃ v5 v6 v7 v8, σ = [some (.ref a), some (.ref l), some (.ref f), some (.int i), some (.int (gapAt os (ts.take j) i)), v5, v6, v7, v8] ∧ Same H H' ∧ H' f = some (.lst (((List.range i).map (gapAt os ts)).map .int)))
      ⟨v5, v6, v7, v8, rfl, e2, hg⟩ ?_ ?_ ?_ ?_
    · rintro j σ H' hj ⟨v5, v6, v7, v8, rfl, e, hg'⟩
      have hx : j < xs.length := by omega
      exact ⟨xs, xs[j], SqL.of (e _ _ hl), List.getElem?_eq_getElem hx⟩
    · rintro σ H' ⟨v5, v6, v7, v8, rfl, e, hg'⟩
      exact ⟨xs, SqL.of (e _ _ hl), by omega⟩
    · rintro j x σ H4 H5 hj ⟨v5, v6, v7, v8, rfl, e, hg'⟩ ⟨rfl, hx⟩
      obtain ⟨t, htt2⟩ : ∃ t, ts[j]? = some t := ⟨ts[j], List.getElem?_eq_getElem hj⟩
      obtain ⟨ta, hxa, hta⟩ := tie_at (dl.mono e) htt2
      have hx2 := hx xs (SqL.of (e _ _ hl))
      rw [hxa] at hx2
      cases hx2
      have htk : ts.take (j + 1) = ts.take j ++ [t] := by rw [List.take_succ, htt2]; rfl
      obtain ⟨pa, pb, pc, rfl, h1, h2, h3, h4, h5, h6⟩ := htt t (List.mem_of_getElem? htt2)
      have ma := ord_all ho h3 (by omega)
      have mb := ord_all ho h1 h2
      have hl4 := e _ _ hl0
      refine ⟨ta, _, rfl, SqT.of hta, rfl, _, _, rfl, _, _, rfl, _, _, rfl, rfl, ?_⟩
      refine ⟨_, rfl, .inl ⟨rfl, _, SqL.of hl4⟩, _, rfl, _, _, _, _, rfl, rfl, SqL.of hl4, flat_ints os, rfl, index_of ma, _, rfl, .inl ⟨rfl, _, SqL.of hl4⟩, _, rfl, _, _, _, _, rfl, rfl, SqL.of hl4, flat_ints os, rfl, index_of mb, (by show 2 ≤ sizeLine; decide), fun p hp => ?_⟩
      refine ⟨p, [((idx os pa : Nat) : Int), ((idx os pb : Nat) : Int)], rfl, SqL.of upd_same, (by show 2 < 64; decide), fun sl ms hsl hp2 hs => ?_⟩
      have hms := sorted2 hp2 hs
      subst hms
      have s1 := same_new (o := .lst [V.int ((idx os pa : Nat) : Int), V.int ((idx os pb : Nat) : Int)]) hp
      have s2 := same_new (o := .lst ([((min (idx os pa) (idx os pb) : Nat) : Int), ((max (idx os pa) (idx os pb) : Nat) : Int)].map V.int)) hsl
      have e5 := (e.trans s1).trans s2
      have hg5 := s2 _ _ (s1 _ _ hg')
      have key1 : (min (idx os pa) (idx os pb) ≤ i ∧ i < max (idx os pa) (idx os pb)) → gapAt os (ts.take (j + 1)) i = gapAt os (ts.take j) i + pc * 1 := fun c => by
        rw [htk, gapAt_snoc, Int.mul_one]
        congr 1
        exact if_pos c
      have key0 : ¬ (min (idx os pa) (idx os pb) ≤ i ∧ i < max (idx os pa) (idx os pb)) → gapAt os (ts.take (j + 1)) i = gapAt os (ts.take j) i + pc * 0 := fun c => by
        rw [htk, gapAt_snoc, Int.mul_zero]
        congr 1
        exact if_neg c
      refine ⟨_, rfl, _, rfl, _, rfl, _, _, _, _, rfl, rfl, SqL.of upd_same, rfl, _, rfl, _, _, rfl, rfl, _, rfl, ite2 (fun c => ?_) (fun c => ?_)⟩
      · have c1 : ((min (idx os pa) (idx os pb) : Nat) : Int) ≤ i := of_decide_eq_true c
        refine ⟨_, rfl, _, _, _, _, rfl, rfl, SqL.of upd_same, rfl, _, _, rfl, rfl, .inr ⟨_, rfl, _, _, rfl, rfl, .inl ⟨by omega, by omega⟩, _, _, rfl, rfl, ?_⟩⟩
        refine ⟨some (.int pa), some (.int pb), some (.int pc), some (.ref sl), ?_, e5, hg5⟩
        dsimp only
        by_cases c2 : i < max (idx os pa) (idx os pb)
        · have c3 : decide ((i : Int) < ((max (idx os pa) (idx os pb) : Nat) : Int)) = true := decide_eq_true (by omega)
          rw [c3, key1 ⟨by omega, c2⟩]
          rfl
        · have c3 : decide ((i : Int) < ((max (idx os pa) (idx os pb) : Nat) : Int)) = false := decide_eq_false (by omega)
          rw [c3, key0 (fun z => c2 z.2)]
          rfl
      · have c1 : ¬ ((min (idx os pa) (idx os pb) : Nat) : Int) ≤ i := of_decide_eq_false (Bool.eq_false_iff.mpr c)
        refine .inr ⟨_, rfl, _, _, rfl, rfl, .inl ⟨by omega, by omega⟩, _, _, rfl, rfl, ?_⟩
        refine ⟨some (.int pa), some (.int pb), some (.int pc), some (.ref sl), ?_, e5, hg5⟩
        dsimp only
        rw [key0 (fun z => c1 (by have := z.1; omega))]
        rfl
    · rintro σ H4 ⟨v5, v6, v7, v8, rfl, e, hg'⟩
      rw [List.take_length]
      have hfl : (((List.range i).map (gapAt os ts)).map V.int).length < sizeLine := by
        rw [List.length_map, List.length_map, List.length_range, sizeLine_eq]
        omega
      refine ⟨_, rfl, .inl ⟨rfl, _, SqL.of hg'⟩, _, rfl, _, _, _, rfl, rfl, hg', hfl, _, _, _, _, _, _, rfl, e.put hf, ?_⟩
      rw [upd_same, List.range_succ, List.map_append, List.map_append]
      rfl
  · rintro σ H' ⟨v3, v4, v5, v6, v7, v8, rfl, e, hg⟩
    exact ⟨_, rfl, q f H' hf e hg⟩
theorem sc_law_measured : FnScope ["_law_web_here", "_law_kind", "_law_order", "_law_gaps_here"] ["_law_web_here", "_law_kind", "_law_order"] (defScope s_law_measured) := ⟨rfl, rfl, rfl, by decide +kernel, rfl, by decide +kernel, by decide +kernel⟩
theorem ok_law_measured (T : Txt K mg A D) {k : Nat} (G_law_lengths : FnOk P w K mg base (CXF P w) k A.law_lengths D.law_lengths ["_law_web_here", "_law_order"] spLLens) (G_law_gaps : FnOk P w K mg base (CXF P w) k A.law_gaps D.law_gaps ["_law_web_here", "_law_order"] spLGaps) :
    FnOk P w K mg base (CXF P w) (k + 1) A.law_measured D.law_measured ["_law_web_here", "_law_kind", "_law_order"] spLMeas := by
  refine T.F_law_measured.okF sc_law_measured (fun vs H Q E h => ?_) (fun cdv A' outer s H vs Q E hr h => ?_)
  · obtain ⟨_, _, _, _, _, _, rfl, _⟩ := h
    rfl
  obtain ⟨v, kd, l, n, ts, os, rfl, dv, hl, hw, win, hl64, ho, q1, q2, q3⟩ := h
  obtain ⟨hn0, hn8, _⟩ := webOk_of hw
  have htk : ∀ t ∈ ts, tieOk n t = true := by
    unfold webOk at hw
    rw [Bool.and_eq_true] at hw
    exact tiesOk_all hw.2
  refine ⟨_, (pss_cons (ps_if (pt_cmpR op_eq (pv 1) pe_str (nomark _))
(pss_one (ps_ret (pe_callB (call_maxL rfl) rfl T.z_max bt_max (pa_cons (pe_op op_cat (pe_lst (pa_cons pe_int pa_nil)) (pe_call G_law_lengths hr rfl T.m_law_lengths T.F_law_lengths.kp T.b_law_lengths .nil pass0F (pa_cons (pv 0) (pa_cons (pv 2) pa_nil)))) pa_nil))))
pss_nil)
(pss_cons (ps_set (i := 3) sc_law_measured.nd rfl (Or.inl rfl) (pe_call G_law_gaps hr rfl T.m_law_gaps T.F_law_gaps.kp T.b_law_gaps .nil pass0F (pa_cons (pv 0) (pa_cons (pv 2) pa_nil))))
(pss_one (ps_ret (pe_ifExp (pt_cmpR op_eq (pv 1) pe_str (nomark _)) (pe_callB (call_maxL rfl) rfl T.z_max bt_max (pa_cons (pe_op op_cat (pe_lst (pa_cons pe_int pa_nil)) (pv 3)) pa_nil)) (pe_callB (call_sum rfl) rfl T.z_sum bt_sum (pa_cons (pv 3) pa_nil))))))), ?_⟩
  refine ⟨_, rfl, rfl, _, rfl, ite_str (fun c => ?_) fun c1 => ?_⟩
  · refine ⟨(by show 1 ≤ sizeLine; decide), fun p1 hp1 => ?_⟩
    obtain ⟨s1, n1⟩ := new_pair (o := .lst [V.int 0]) hp1
    refine ⟨_, rfl, _, rfl, v, l, n, ts, os, rfl, dv.mono s1, s1 _ _ hl, hw, win, ho, fun p2 H2 hp2 e2 h2 => ?_⟩
    have hfl : ((lens os ts).map V.int).length ≤ 64 := by rw [List.length_map, lens_len]; exact hl64
    refine ⟨_, _, _, _, rfl, rfl, e2 _ _ n1, h2, (by rw [sizeLine_eq]; show 1 + _ ≤ _; omega), fun p3 hp3 => ?_⟩
    obtain ⟨s3, n3⟩ := new_pair (o := .lst ([V.int 0] ++ (lens os ts).map V.int)) hp3
    refine ⟨p3, [0] ++ lens os ts, rfl, SqL.of (n3.trans (by rw [List.map_append]; rfl)), (by simp), fun M hM => ?_⟩
    rw [isMax_zero lens_nonneg hM]
    exact q1 c _ ((s1.trans e2).trans s3)
  · refine ⟨_, rfl, _, rfl, v, l, n, ts, os, rfl, dv, hl, hw, win, ho, fun p2 H2 hp2 e2 h2 => ?_⟩
    have hgl : ((gapsL (n - 1).toNat os ts).map V.int).length ≤ 64 := by
      unfold gapsL
      rw [List.length_map, List.length_map, List.length_range]
      omega
    refine ⟨_, rfl, rfl, _, rfl, ite_str (fun c => ?_) fun c2 => ?_⟩
    · refine ⟨(by show 1 ≤ sizeLine; decide), fun p1 hp1 => ?_⟩
      obtain ⟨s1, n1⟩ := new_pair (o := .lst [V.int 0]) hp1
      refine ⟨_, rfl, _, _, _, _, rfl, rfl, n1, s1 _ _ h2, (by rw [sizeLine_eq]; show 1 + _ ≤ _; omega), fun p3 hp3 => ?_⟩
      obtain ⟨s3, n3⟩ := new_pair (o := .lst ([V.int 0] ++ (gapsL (n - 1).toNat os ts).map V.int)) hp3
      refine ⟨p3, [0] ++ gapsL (n - 1).toNat os ts, rfl, SqL.of (n3.trans (by rw [List.map_append]; rfl)), (by simp), fun M hM => ?_⟩
      rw [isMax_zero (gaps_nonneg htk) hM]
      exact q2 c _ ((e2.trans s1).trans s3)
    · refine ⟨_, rfl, p2, _, rfl, SqL.of h2, ?_⟩
      rw [gaps_sum ho htk]
      exact q3 c1 c2 _ e2
theorem ext_comp (n : Nat) (o : List Int) : (((List.range n).filter fun i : Nat => !decide ((i : Int) ∈ o)).map fun i : Nat => ordD (o ++ [(i : Int)])) = (extOf n o).map ordD := by
  unfold extOf upto
  rw [List.filter_map, List.map_map, List.map_map]
  rfl
theorem sc_law_all : FnScope ["_law_many", "_law_found", "_law_k", "_law_longer", "_law_order"] ["_law_many"] (defScope s_law_all) := ⟨rfl, rfl, rfl, by decide +kernel, rfl, by decide +kernel, by decide +kernel⟩
theorem nd_law_all_1 : List.Nodup (["_law_order", "_law_place"] : List Str) := by decide +kernel
theorem ok_law_all (T : Txt K mg A D) {k : Nat} : FnOk P w K mg base (CXF P w) (k + 1) A.law_all D.law_all ["_law_many"] spLAll := by
  refine T.F_law_all.okF sc_law_all (fun vs H Q E h => ?_) (fun cdv A' outer s H vs Q E hr h => ?_)
  · obtain ⟨_, rfl, _⟩ := h
    rfl
  obtain ⟨n, rfl, hn, q⟩ := h
  refine ⟨_, (pss_cons (ps_set (i := 1) sc_law_all.nd rfl (Or.inl rfl) (pe_lst (pa_cons (pe_lst pa_nil) pa_nil)))
(pss_cons (ps_for passesOwn_cx rfl (pi_range1 rfl T.z_range (pa_cons (pv 0) pa_nil)) (pg_name (i := 2) sc_law_all.nd rfl (Or.inl rfl))
(pss_cons (ps_set (i := 3) sc_law_all.nd rfl (Or.inl rfl) (pe_lst pa_nil))
(pss_cons (ps_for passesOwn_cx rfl (pi_list (pv 1)) (pg_name (i := 4) sc_law_all.nd rfl (Or.inr rfl))
(pss_one (ps_set (i := 3) sc_law_all.nd rfl (Or.inl rfl) (pe_op op_cat (pv 3) (pe_lc rfl (cn_of (N := ["_law_order", "_law_place"]) (js := [some 4, none]) rfl rfl (by decide +kernel) (by decide +kernel) rfl (List.forall_mem_cons.mpr ⟨rfl, fun _ h => nomatch h⟩) (List.forall_mem_cons.mpr ⟨(fun h => nomatch h), (List.forall_mem_cons.mpr ⟨(fun h => nomatch h), (List.forall_mem_cons.mpr ⟨(fun _ => rfl), fun _ h => nomatch h⟩)⟩)⟩) (List.forall_mem_cons.mpr ⟨(fun j h => (by cases h; exact ⟨rfl, rfl, rfl⟩)), (List.forall_mem_cons.mpr ⟨(fun j h => nomatch h), fun _ h => nomatch h⟩)⟩) rfl) (pi_range1 rfl T.z_range (pa_cons (pv 0) pa_nil)) (fun _ _ _ _ => (pg_name (i := 1) nd_law_all_1 rfl (Or.inl rfl) (hf := Or.inr rfl))) (fun _ _ _ _ => (pts_one (pt_cmpR (op_notIn_seqK (K := K) rfl) (pv 1) (pv 0) (by with_unfolding_all rfl)))) (fun _ _ _ _ => (pe_op op_cat (pv 0) (pe_lst (pa_cons (pv 1) pa_nil)))))))))
(pss_one (ps_set (i := 1) sc_law_all.nd rfl (Or.inl rfl) (pv 3))))))
(pss_one (ps_ret (pv 1))))), ?_⟩
  refine ⟨(by show 0 ≤ sizeLine; decide), fun p0 hp0 => ⟨(by show 1 ≤ sizeLine; decide), fun p1 hp1 => ?_⟩⟩
  obtain ⟨s0, n0⟩ := new_pair (o := .lst []) hp0
  obtain ⟨s1, n1⟩ := new_pair (o := .lst [V.ref p0]) hp1
  refine ⟨_, rfl, (n : Int), rfl, by omega, by omega, ?_⟩
  rw [Int.toNat_natCast]
  refine for_in n (fun i σ H' => ∃ fv v2 v3 v4, σ = [some (.int (n : Int)), some fv, v2, v3, v4] ∧ Same H H' ∧ Dat H' (.list ((allTo n i).map ordD)) fv)
    ⟨_, none, none, none, rfl, s0.trans s1, .list n1 (.cons (.list (s1 _ _ n0) .nil) .nil)⟩ (fun i σ H' hi _ => hi) (fun σ H' _ => Nat.le_refl _) ?_ ?_
  · rintro i x σ H4 H5 hi ⟨fv, v2, v3, v4, rfl, e4, df⟩ ⟨rfl, rfl⟩
    obtain ⟨fl, xs, rfl, hf, dx⟩ := df.list_of
    have hal := all_len hn i
    have h5 : 5 ^ i ≤ 3125 := show 5 ^ i ≤ 5 ^ 5 from Nat.pow_le_pow_right (by decide) (by omega)
    have hxl : xs.length = (allTo n i).length := by rw [← dx.length, List.length_map]
    refine ⟨(by show 0 ≤ sizeLine; decide), fun q1 hq1 => ?_⟩
    obtain ⟨sq, nq⟩ := new_pair (o := .lst []) hq1
    refine ⟨_, rfl, fl, rfl, ⟨_, SqL.of (sq _ _ hf)⟩, ?_⟩
    refine for_in xs.length (fun j σ H' => ∃ lv v4, σ = [some (.int (n : Int)), some (.ref fl), some (.int (0 + (i : Nat))), some lv, v4] ∧ Same H5 H' ∧ Dat H' (.list ((((allTo n i).take j).flatMap (extOf n)).map ordD)) lv)
      ⟨_, _, rfl, sq, .list nq .nil⟩ ?_ ?_ ?_ ?_
    · rintro j σ H' hj ⟨lv, v4', rfl, e, _⟩
      exact ⟨xs, xs[j], SqL.of (e _ _ hf), List.getElem?_eq_getElem hj⟩
    · rintro σ H' ⟨lv, v4', rfl, e, _⟩
      exact ⟨xs, SqL.of (e _ _ hf), Nat.le_refl _⟩
    · rintro j x σ H6 H7 hj ⟨lv, v4', rfl, e6, dlv⟩ ⟨rfl, hx⟩
      have hx2 := hx xs (SqL.of (e6 _ _ hf))
      have hja : j < (allTo n i).length := by omega
      obtain ⟨o, ho⟩ : ∃ o, (allTo n i)[j]? = some o := ⟨_, List.getElem?_eq_getElem hja⟩
      obtain ⟨y, hy, dy⟩ := (dx.mono e6).get (d := ordD o) (by rw [List.getElem?_map, ho]; rfl)
      rw [hx2] at hy
      cases hy
      obtain ⟨ol, rfl, hol⟩ := ord_of dy
      obtain ⟨ll, ys, rfl, hll, dys⟩ := dlv.list_of
      have hol5 : o.length = i := (mem_allTo.mp (List.mem_of_getElem? ho)).1
      refine ⟨_, rfl, _, rfl, (n : Int), rfl, by omega, by omega, ?_⟩
      rw [Int.toNat_natCast]
      refine lcf_in (fun σ => ∃ x, σ = [some (.ref ol), x]) n (fun i => !decide ((i : Int) ∈ o)) (fun i => ordD (o ++ [(i : Int)])) ⟨none, rfl⟩ (fun i H3 hi e3 => hi) (fun H3 e3 => Nat.le_refl _) (by rw [sizeLine_eq]; omega) ?_ ?_
      · rintro Dd m x σ2 H8 H9 Y Z hm e8 ⟨ysD, hD⟩ ⟨x1, rfl⟩ ⟨rfl, rfl⟩ yes no
        have em : (0 : Int) + (m : Nat) = ((m : Nat) : Int) := by omega
        rw [em]
        have ho8 := e8 _ _ hol
        refine ⟨_, rfl, _, rfl, ol, _, rfl, .inl (SqL.of ho8), rfl, flat_ints o, _, rfl, ?_⟩
        have hb : (if true = true then !inV (.int (m : Int)) (o.map V.int) else inV (.int (m : Int)) (o.map V.int)) = !decide ((m : Int) ∈ o) := by
          rw [if_pos rfl, in_ints]
        refine iteOf hb (fun c => ?_) (fun c => ?_)
        · refine ⟨_, rfl, _, rfl, (by show 1 ≤ sizeLine; decide), fun r1 hr1 => ?_⟩
          obtain ⟨t1, m1⟩ := new_pair (o := .lst [V.int (m : Int)]) hr1
          refine ⟨_, _, _, _, rfl, rfl, t1 _ _ ho8, m1, (by rw [sizeLine_eq, List.length_map]; show _ + 1 ≤ _; omega), fun r2 hr2 => ?_⟩
          obtain ⟨t2, m2⟩ := new_pair (o := .lst (o.map V.int ++ [V.int (m : Int)])) hr2
          refine yes _ _ _ c ⟨_, rfl⟩ (t1.trans t2) (Dat.ints ?_)
          rw [mask_ne (ne_new hr2 (t1 _ _ hD)), m2, List.map_append]
          rfl
        · exact no _ _ c ⟨_, rfl⟩ (Same.refl _)
      · intro Dd zs H8 hD e8 hzs dzs
        rw [ext_comp] at dzs
        have l1 := dys.length
        have l2 := dzs.length
        rw [List.length_map] at l1 l2
        have l3 := flat_len hn ((allTo n i).take j)
        have l4 := ext_len (n := n) o
        rw [List.length_take] at l3
        refine ⟨_, _, _, _, rfl, rfl, e8 _ _ hll, hzs, (by rw [sizeLine_eq]; omega), fun r hr => ?_⟩
        obtain ⟨t1, m1⟩ := new_pair (o := .lst (ys ++ zs)) hr
        refine ⟨_, _, rfl, e6.trans (e8.trans t1), .list m1 ?_⟩
        rw [List.take_succ, ho]
        show DatL _ ((List.flatMap (extOf n) ((allTo n i).take j ++ [o])).map ordD) _
        rw [List.flatMap_append, List.map_append]
        refine (dys.mono (e8.trans t1)).append ?_
        rw [List.flatMap_cons, List.flatMap_nil, List.append_nil]
        exact dzs.mono (mask_same.trans t1)
    · rintro σ H6 ⟨lv, v4', rfl, e6, dlv⟩
      rw [hxl, List.take_length] at dlv
      exact ⟨_, rfl, _, _, _, _, rfl, e4.trans e6, dlv⟩
  · rintro σ H' ⟨fv, v2, v3, v4, rfl, e, df⟩
    exact ⟨_, rfl, q fv H' e df⟩
theorem sc_law_refusal : FnScope ["_law_kept", "_law_kinds"] ["_law_kept"] (defScope s_law_refusal) := ⟨rfl, rfl, rfl, by decide +kernel, rfl, by decide +kernel, by decide +kernel⟩
theorem ok_law_refusal (T : Txt K mg A D) {k : Nat} : FnOk P w K mg base (CXF P w) (k + 1) A.law_refusal D.law_refusal ["_law_kept"] (spRef A.er) := by
  refine T.F_law_refusal.okF sc_law_refusal (fun vs H Q E h => ?_) (fun cdv A' outer s H vs Q E hr h => ?_)
  · obtain ⟨_, rfl, _⟩ := h
    rfl
  obtain ⟨x, rfl, h⟩ := h
  refine ⟨_, (pss_cons (ps_if (pt_cmp (pc_isN (pv 0)))
(pss_one (ps_ret pe_str))
pss_nil)
(pss_cons (ps_set (i := 1) sc_law_refusal.nd rfl (Or.inl rfl) (pe_lst (pa_cons (pe_callB call_isinstX rfl T.z_isinstance bt_isinstance (pa_cons (pv 0) (pa_cons (pe_glob (v := .ref A.BadKind) rfl T.m_BadKind rfl) pa_nil))) (pa_cons (pe_callB call_isinstX rfl T.z_isinstance bt_isinstance (pa_cons (pv 0) (pa_cons (pe_glob (v := .ref A.BadOrder) rfl T.m_BadOrder rfl) pa_nil))) (pa_cons (pe_callB call_isinstX rfl T.z_isinstance bt_isinstance (pa_cons (pv 0) (pa_cons (pe_glob (v := .ref A.BadSpot) rfl T.m_BadSpot rfl) pa_nil))) pa_nil)))))
(pss_cons (ps_set (i := 1) sc_law_refusal.nd rfl (Or.inl rfl) (pe_op op_cat (pv 1) (pe_lst (pa_cons (pe_callB call_isinstX rfl T.z_isinstance bt_isinstance (pa_cons (pv 0) (pa_cons (pe_glob (v := .ref A.BadText) rfl T.m_BadText rfl) pa_nil))) (pa_cons (pe_callB call_isinstX rfl T.z_isinstance bt_isinstance (pa_cons (pv 0) (pa_cons (pe_glob (v := .ref A.BadWeb) rfl T.m_BadWeb rfl) pa_nil))) pa_nil)))))
(pss_cons (ps_if (PW.pt (pw_or (pt_cmpR op_ne (pe_bm PySem.F.plainAttrs_list PySem.F.slot_list_count PySem.F.type_list_count mt_count (pv 1) (pa_cons pe_bl pa_nil)) pe_int (nomark _)) (pw_or1 (pt_not (pt_val (pe_callB call_isinstX rfl T.z_isinstance bt_isinstance (pa_cons (pv 0) (pa_cons (pe_bltn (v := .ty "ValueError") rfl T.z_ValueError bt_ValueError rfl) pa_nil))))))))
(pss_one (ps_ret pe_str))
pss_nil)
(pss_one (ps_ret (pe_ix ix_list (pe_lst (pa_cons pe_str (pa_cons pe_str (pa_cons pe_str (pa_cons pe_str (pa_cons pe_str pa_nil)))))) (pe_bm PySem.F.plainAttrs_list PySem.F.slot_list_index PySem.F.type_list_index mt_index (pv 1) (pa_cons pe_bl pa_nil)) (fun _ _ => rfl)))))))), ?_⟩
  rcases h with ⟨rfl, q⟩ | ⟨a, C, y, rfl, ha, hw, q⟩
  · exact ⟨_, rfl, _, rfl, iteDT rfl q⟩
  refine ⟨_, rfl, _, rfl, iteDF (fun z => nomatch z) ?_⟩
  obtain ⟨_, _, L, hV⟩ := ref_facts T hw
  obtain ⟨bK, bO, bS, bT, bW, j, h1, h2, h3, h4, h5, h6, h7, h8⟩ : ∃ (bK bO bS bT bW : Bool) (j : Nat), PySem.W.kitOne K (.ref C) (.ref A.BadKind) = some bK ∧ PySem.W.kitOne K (.ref C) (.ref A.BadOrder) = some bO ∧ PySem.W.kitOne K (.ref C) (.ref A.BadSpot) = some bS ∧ PySem.W.kitOne K (.ref C) (.ref A.BadText) = some bT ∧ PySem.W.kitOne K (.ref C) (.ref A.BadWeb) = some bW ∧
      V.int (([V.bl bK, V.bl bO, V.bl bS, V.bl bT, V.bl bW].countP fun z => eqV z (.bl true) : Nat) : Int) = V.int 1 ∧ [V.bl bK, V.bl bO, V.bl bS, V.bl bT, V.bl bW].findIdx? (fun z => eqV z (.bl true)) = some j ∧
      atI [V.str "kind", V.str "order", V.str "spot", V.str "text", V.str "web"] (j : Int) = some (.str y) := by
    rcases hw with ⟨rfl, rfl⟩ | ⟨rfl, rfl⟩ | ⟨rfl, rfl⟩ | ⟨rfl, rfl⟩ | ⟨rfl, rfl⟩
    · exact ⟨true, false, false, false, false, 0, T.i_BadKind_BadKind, T.i_BadKind_BadOrder, T.i_BadKind_BadSpot, T.i_BadKind_BadText, T.i_BadKind_BadWeb, rfl, rfl, rfl⟩
    · exact ⟨false, true, false, false, false, 1, T.i_BadOrder_BadKind, T.i_BadOrder_BadOrder, T.i_BadOrder_BadSpot, T.i_BadOrder_BadText, T.i_BadOrder_BadWeb, rfl, rfl, rfl⟩
    · exact ⟨false, false, true, false, false, 2, T.i_BadSpot_BadKind, T.i_BadSpot_BadOrder, T.i_BadSpot_BadSpot, T.i_BadSpot_BadText, T.i_BadSpot_BadWeb, rfl, rfl, rfl⟩
    · exact ⟨false, false, false, true, false, 3, T.i_BadText_BadKind, T.i_BadText_BadOrder, T.i_BadText_BadSpot, T.i_BadText_BadText, T.i_BadText_BadWeb, rfl, rfl, rfl⟩
    · exact ⟨false, false, false, false, true, 4, T.i_BadWeb_BadKind, T.i_BadWeb_BadOrder, T.i_BadWeb_BadSpot, T.i_BadWeb_BadText, T.i_BadWeb_BadWeb, rfl, rfl, rfl⟩
  refine ⟨_, rfl, _, _, _, _, _, rfl, rfl, ha, L, h1, _, rfl, _, _, _, _, _, rfl, rfl, ha, L, h2, _, rfl, _, _, _, _, _, rfl, rfl, ha, L, h3, (by show 3 ≤ sizeLine; decide), fun p hp => ?_⟩
  have s1 := same_new (o := .lst [V.bl bK, V.bl bO, V.bl bS]) hp
  refine ⟨_, rfl, _, rfl, _, _, _, _, _, rfl, rfl, s1 _ _ ha, L, h4, _, rfl, _, _, _, _, _, rfl, rfl, s1 _ _ ha, L, h5, (by show 2 ≤ sizeLine; decide), fun p2 hp2 => ?_⟩
  have s2 := same_new (o := .lst [V.bl bT, V.bl bW]) hp2
  refine ⟨_, _, _, _, rfl, rfl, s2 _ _ upd_same, upd_same, (by show 5 ≤ sizeLine; decide), fun p3 hp3 => ?_⟩
  have s3 := same_new (o := .lst ([V.bl bK, V.bl bO, V.bl bS] ++ [V.bl bT, V.bl bW])) hp3
  have ha3 := s3 _ _ (s2 _ _ (s1 _ _ ha))
  refine ⟨_, rfl, .inl ⟨rfl, _, SqL.of upd_same⟩, _, _, _, rfl, rfl, SqL.of upd_same, rfl, rfl, rfl, _, rfl, iteNS h6 ?_⟩
  refine ⟨_, rfl, _, _, _, _, _, rfl, rfl, ha3, L, hV, _, rfl, iteF ?_⟩
  refine ⟨(by show 5 ≤ sizeLine; decide), fun p4 hp4 => ?_⟩
  have s4 := same_new (o := .lst [V.str "kind", V.str "order", V.str "spot", V.str "text", V.str "web"]) hp4
  exact ⟨_, rfl, .inl ⟨rfl, _, SqL.of (s4 _ _ upd_same)⟩, _, _, _, _, rfl, rfl, SqL.of (s4 _ _ upd_same), rfl, rfl, h7, _, _, _, _, rfl, rfl, SqL.of upd_same, h8, q _ (((s1.trans s2).trans s3).trans s4)⟩
theorem sc_law_told : FnScope ["_law_way", "_law_web_here", "_law_kind", "_law_bound", "_law_kept", "_law_found", "e"] ["_law_way", "_law_web_here", "_law_kind", "_law_bound"] (defScope s_law_told) := ⟨rfl, rfl, rfl, by decide +kernel, rfl, by decide +kernel, by decide +kernel⟩
theorem ok_law_told (T : Txt K mg A D) {k : Nat} (G_how_many : FnOk P w K mg base (CXF P w) k A.how_many D.how_many ["web", "kind", "bound"] (spHow A.er)) (G_first : FnOk P w K mg base (CXF P w) k A.first D.first ["web", "kind", "bound"] (spFirst A.er)) (G_least : FnOk P w K mg base (CXF P w) k A.least D.least ["web", "kind"] (spLeastW A.er)) (G_law_refusal : FnOk P w K mg base (CXF P w) k A.law_refusal D.law_refusal ["_law_kept"] (spRef A.er)) :
    FnOk P w K mg base (CXF P w) (k + 1) A.law_told D.law_told ["_law_way", "_law_web_here", "_law_kind", "_law_bound"] (spLTold A.er) := by
  refine T.F_law_told.okF sc_law_told (fun vs H Q E h => ?_) (fun cdv A' outer s H vs Q E hr h => ?_)
  · obtain ⟨_, _, _, _, _, _, rfl, _⟩ := h
    rfl
  obtain ⟨way, v, n, ts, kd, bd, rfl, dv, win, n5, k1, k2, w0, w2, qw, qk, qq⟩ := h
  have ask : ∀ b : Int, (webOk n ts = true → ¬ (isKind kd ∧ 0 ≤ b ∧ b ≤ 1000000) → ¬ (isKind kd ∧ (way ≤ 1 → 0 ≤ bd ∧ bd ≤ 1000000))) → Ask A.er H v n ts kd b (Told A.er H Q) := fun b hb => ⟨dv, win, n5, k1, k2, fun h H' e => ⟨"web", _, e, rfl, .web, fun H'' e' => qw h H'' (e.trans e')⟩, fun h z H' e => ⟨"kind", _, e, rfl, .kind, fun H'' e' => qk h (hb h z) H'' (e.trans e')⟩⟩
  refine ⟨_, (pss_cons (ps_set (i := 4) sc_law_told.nd rfl (Or.inl rfl) pe_non)
(pss_cons (ps_set (i := 5) sc_law_told.nd rfl (Or.inl rfl) pe_non)
(pss_cons (ps_try own_cx rfl rfl T.m_LayError T.x_LayError rfl sc_law_told.nd (i := 6) rfl rfl (fun xe pn E PX => (pss_one (ps_if (pt_cmpR op_eq (pv 0) pe_int (nomark _))
(pss_one (ps_set (i := 5) sc_law_told.nd rfl (Or.inl rfl) (pe_call G_how_many hr rfl T.m_how_many T.F_how_many.kp T.b_how_many .nil PX (pa_cons (pv 1) (pa_cons (pv 2) (pa_cons (pv 3) pa_nil))))))
(pss_one (ps_set (i := 5) sc_law_told.nd rfl (Or.inl rfl) (pe_ifExp (pt_cmpR op_eq (pv 0) pe_int (nomark _)) (pe_call G_first hr rfl T.m_first T.F_first.kp T.b_first .nil PX (pa_cons (pv 1) (pa_cons (pv 2) (pa_cons (pv 3) pa_nil)))) (pe_call G_least hr rfl T.m_least T.F_least.kp T.b_least .nil PX (pa_cons (pv 1) (pa_cons (pv 2) pa_nil))))))))) (fun v => (pss_one (ps_set (i := 4) sc_law_told.nd rfl (Or.inl rfl) (pv 6)))))
(pss_one (ps_ret (pe_ifExp (pt_cmp (pc_isN (pv 4))) (pv 5) (pe_call G_law_refusal hr rfl T.m_law_refusal T.F_law_refusal.kp T.b_law_refusal .nil pass0F (pa_cons (pv 4) pa_nil)))))))), ?_⟩
  refine ⟨Told A.er H Q, ?_, ?_⟩
  · refine ⟨_, rfl, rfl, _, rfl, ?_⟩
    by_cases c0 : way = 0
    · refine iteDT (congrArg V.int c0) ⟨_, rfl, _, rfl, _, rfl, v, n, ts, kd, bd, rfl, ask bd (fun _ z y => z ⟨y.1, y.2 (by omega)⟩), fun hw hk h0 h1 H1 e1 => ?_⟩
      exact ⟨_, rfl, _, rfl, iteDT rfl ⟨_, rfl, (qq hw hk).1 c0 h0 h1 H1 e1⟩⟩
    refine iteDF (fun z => c0 (V.int.inj z)) ⟨_, rfl, rfl, _, rfl, ?_⟩
    by_cases c1 : way = 1
    · refine iteDT (congrArg V.int c1) ⟨_, rfl, _, rfl, _, rfl, v, n, ts, kd, bd, rfl, ask bd (fun _ z y => z ⟨y.1, y.2 (by omega)⟩), fun hw hk h0 h1 => ⟨fun z H1 e1 => ?_, fun r rest z l H1 e1 hl => ?_⟩⟩
      · exact ⟨_, rfl, _, rfl, iteDT rfl ⟨_, rfl, ((qq hw hk).2.1 c1 h0 h1).1 z H1 e1⟩⟩
      · exact ⟨_, rfl, _, rfl, iteDT rfl ⟨_, rfl, ((qq hw hk).2.1 c1 h0 h1).2 r rest z l H1 e1 hl⟩⟩
    refine iteDF (fun z => c1 (V.int.inj z)) ⟨_, rfl, _, rfl, v, n, ts, kd, rfl, ask 0 (fun _ z y => z ⟨y.1, by omega, by omega⟩), fun hw hk => ?_⟩
    obtain ⟨M, r, rest, g1, g2, g3⟩ := (qq hw hk).2.2 (by omega)
    exact ⟨M, r, rest, g1, g2, fun t l H1 e1 ht hl => ⟨_, rfl, _, rfl, iteDT rfl ⟨_, rfl, g3 t l H1 e1 ht hl⟩⟩⟩
  · rintro C m H1 ⟨y, C', e1, hC, hw, q⟩
    cases hC
    obtain ⟨f1, f2, _, _⟩ := ref_facts T hw
    refine ⟨⟨_, _, f1⟩, f2, fun a H2 e2 ha => ?_⟩
    exact ⟨_, rfl, _, rfl, _, rfl, iteDF (fun z => nomatch z) ⟨_, rfl, _, rfl, .inr ⟨a, C, y, rfl, ha, hw, fun H' e' => q H' (e2.trans e')⟩⟩⟩
def spLaw (K : PySem.W.Frag) : Sp := fun vs H Q _ => ∃ (a : Addr) (ns : List Int), vs = [.ref a] ∧ SqL K H a (ns.map .int) ∧ ns.length ≤ 63 ∧ ∀ H', Q (.bl true) H'
theorem pick3 {p1 p2 p3 : V} {i : Int} {Z : V → Prop} (h0 : 0 ≤ i) (h7 : i < 3) (z1 : Z p1) (z2 : Z p2) (z3 : Z p3) : ∃ v, atI [p1, p2, p3] i = some v ∧ Z v := by
  have : i = 0 ∨ i = 1 ∨ i = 2 := by omega
  rcases this with rfl | rfl | rfl
  · exact ⟨p1, rfl, z1⟩
  · exact ⟨p2, rfl, z2⟩
  · exact ⟨p3, rfl, z3⟩
theorem pick4 {p1 p2 p3 p4 : V} {i : Int} {Z : V → Prop} (h0 : 0 ≤ i) (h7 : i < 4) (z1 : Z p1) (z2 : Z p2) (z3 : Z p3) (z4 : Z p4) : ∃ v, atI [p1, p2, p3, p4] i = some v ∧ Z v := by
  have : i = 0 ∨ i = 1 ∨ i = 2 ∨ i = 3 := by omega
  rcases this with rfl | rfl | rfl | rfl
  · exact ⟨p1, rfl, z1⟩
  · exact ⟨p2, rfl, z2⟩
  · exact ⟨p3, rfl, z3⟩
  · exact ⟨p4, rfl, z4⟩
theorem bad9 : webOk 9 [] = false := by decide
theorem lay_kind2 : PyData.canLay0 (.list [.str "kind", .str "kind"]) = true := by decide +kernel
theorem lay_kind3 : PyData.canLay0 (.list [.str "kind", .str "kind", .str "kind"]) = true := by decide +kernel
theorem lay_web3 : PyData.canLay0 (.list [.str "web", .str "web", .str "web"]) = true := by decide +kernel
theorem lay_told (M : Int) (r : List Int) : PyData.canLay0 (.tuple [.int M, ordD r]) = true := by
  have := lay_ints r
  show (PyData.canLay0 (.int M) && (PyData.canLayAll0 (r.map .int) && true)) = true
  rw [this]
  rfl
theorem not_gaps : ¬ isKind ("gaps" : Str) := by decide +kernel
theorem gaps_small : ("gaps" : Str).length ≤ 1000 ∧ ∀ c ∈ ("gaps" : Str).cps.toList, c < 16 ^ 8 := ⟨by decide +kernel, by decide +kernel⟩
theorem sc_law : FnScope ["_law_script", "_law_web_here", "_law_kind", "_law_orders", "_law_some", "_law_bound", "_law_good", "_law_found", "_law_bad"] ["_law_script"] (defScope s_law) := ⟨rfl, rfl, rfl, by decide +kernel, rfl, by decide +kernel, by decide +kernel⟩
theorem nd_law_1 : List.Nodup (["_law_kind", "_law_web_here", "_law_order"] : List Str) := by decide +kernel
theorem nd_law_2 : List.Nodup (["_law_bound", "_law_orders", "_law_some", "_law_k"] : List Str) := by decide +kernel
theorem nd_law_3 : List.Nodup (["_law_bad", "_law_kind", "_law_web_here", "_law_way"] : List Str) := by decide +kernel
theorem nd_law_4 : List.Nodup (["_law_web_here", "_law_way"] : List Str) := by decide +kernel
theorem nd_law_5 : List.Nodup (["_law_way"] : List Str) := by decide +kernel
theorem ok_law (T : Txt K mg A D) {k : Nat} (G_law_mix : FnOk P w K mg base (CXF P w) k A.law_mix D.law_mix ["_law_script", "_law_k"] (spMix K)) (G_law_web : FnOk P w K mg base (CXF P w) k A.law_web D.law_web ["_law_script", "_law_k", "_law_places"] (spLWeb K))
    (G_law_measured : FnOk P w K mg base (CXF P w) k A.law_measured D.law_measured ["_law_web_here", "_law_kind", "_law_order"] spLMeas) (G_law_all : FnOk P w K mg base (CXF P w) k A.law_all D.law_all ["_law_many"] spLAll) (G_law_whole : FnOk P w K mg base (CXF P w) k A.law_whole D.law_whole ["_law_found"] spWhole) (G_law_told : FnOk P w K mg base (CXF P w) k A.law_told D.law_told ["_law_way", "_law_web_here", "_law_kind", "_law_bound"] (spLTold A.er)) :
    FnOk P w K mg base (CXF P w) (k + 1) A.law D.law ["_law_script"] (spLaw K) := by
  refine T.F_law.okF sc_law (fun vs H Q E h => ?_) (fun cdv A' outer s H vs Q E hr h => ?_)
  · obtain ⟨_, _, rfl, _⟩ := h
    rfl
  obtain ⟨a, ns, rfl, hS, h63, q⟩ := h
  refine ⟨_, (pss_cons (ps_set (i := 1) sc_law.nd rfl (Or.inr rfl) (pe_call G_law_web hr rfl T.m_law_web T.F_law_web.kp T.b_law_web .nil pass0F (pa_cons (pv 0) (pa_cons pe_int (pa_cons pe_int pa_nil)))))
(pss_cons (ps_set (i := 2) sc_law.nd rfl (Or.inr rfl) (pe_ix ix_list (pe_lst (pa_cons pe_str (pa_cons pe_str (pa_cons pe_str pa_nil)))) (pe_op op_mod (pe_call G_law_mix hr rfl T.m_law_mix T.F_law_mix.kp T.b_law_mix .nil pass0F (pa_cons (pv 0) (pa_cons pe_int pa_nil))) pe_int) (fun _ _ => rfl)))
(pss_cons (ps_set (i := 3) sc_law.nd rfl (Or.inr rfl) (pe_call G_law_all hr rfl T.m_law_all T.F_law_all.kp T.b_law_all .nil pass0F (pa_cons (pe_ix ix_tup (pv 1) pe_int (fun _ _ => rfl)) pa_nil)))
(pss_cons (ps_set (i := 4) sc_law.nd rfl (Or.inr rfl) (pe_lc rfl (cn_of (N := ["_law_kind", "_law_web_here", "_law_order"]) (js := [some 2, some 1, none]) rfl rfl (by decide +kernel) (by decide +kernel) rfl (List.forall_mem_cons.mpr ⟨rfl, (List.forall_mem_cons.mpr ⟨rfl, fun _ h => nomatch h⟩)⟩) (List.forall_mem_cons.mpr ⟨(fun h => nomatch h), (List.forall_mem_cons.mpr ⟨(fun h => nomatch h), (List.forall_mem_cons.mpr ⟨(fun h => nomatch h), (List.forall_mem_cons.mpr ⟨(fun _ => rfl), (List.forall_mem_cons.mpr ⟨(fun _ => rfl), fun _ h => nomatch h⟩)⟩)⟩)⟩)⟩) (List.forall_mem_cons.mpr ⟨(fun j h => (by cases h; exact ⟨rfl, rfl, rfl⟩)), (List.forall_mem_cons.mpr ⟨(fun j h => (by cases h; exact ⟨rfl, rfl, rfl⟩)), (List.forall_mem_cons.mpr ⟨(fun j h => nomatch h), fun _ h => nomatch h⟩)⟩)⟩) rfl) (pi_list (pv 3)) (fun _ _ _ _ => (pg_name (i := 2) nd_law_1 rfl (Or.inl rfl) (hf := Or.inr rfl))) (fun _ _ _ _ => pts_nil) (fun _ _ _ _ => (pe_call G_law_measured hr rfl T.m_law_measured T.F_law_measured.kp T.b_law_measured .nil pass0F (pa_cons (pv 1) (pa_cons (pv 0) (pa_cons (pv 2) pa_nil)))))))
(pss_cons (ps_set (i := 5) sc_law.nd rfl (Or.inr rfl) (pe_op op_add (pe_ix ix_list (pv 4) (pe_op op_mod (pe_call G_law_mix hr rfl T.m_law_mix T.F_law_mix.kp T.b_law_mix .nil pass0F (pa_cons (pv 0) (pa_cons pe_int pa_nil))) (pe_callB call_len_seq rfl T.z_len PySem.boot_len (pa_cons (pv 4) pa_nil))) (fun _ _ => rfl)) (pe_ix ix_list (pe_lst (pa_cons pe_int (pa_cons pe_int (pa_cons (pe_un un_neg pe_int) (pa_cons pe_int pa_nil))))) (pe_op op_mod (pe_call G_law_mix hr rfl T.m_law_mix T.F_law_mix.kp T.b_law_mix .nil pass0F (pa_cons (pv 0) (pa_cons pe_int pa_nil))) pe_int) (fun _ _ => rfl))))
(pss_cons (ps_if (pt_cmpR op_eq (pe_op op_mod (pe_call G_law_mix hr rfl T.m_law_mix T.F_law_mix.kp T.b_law_mix .nil pass0F (pa_cons (pv 0) (pa_cons pe_int pa_nil))) pe_int) pe_int (nomark _))
(pss_one (ps_set (i := 5) sc_law.nd rfl (Or.inr rfl) (pe_ix ix_list (pe_lst (pa_cons pe_int (pa_cons pe_int (pa_cons (pe_callB (call_minL rfl) rfl T.z_min bt_min (pa_cons (pv 4) pa_nil)) pa_nil)))) (pe_op op_mod (pe_call G_law_mix hr rfl T.m_law_mix T.F_law_mix.kp T.b_law_mix .nil pass0F (pa_cons (pv 0) (pa_cons pe_int pa_nil))) pe_int) (fun _ _ => rfl))))
pss_nil)
(pss_cons (ps_set (i := 5) sc_law.nd rfl (Or.inr rfl) (pe_callB (call_max2 rfl) rfl T.z_max bt_max (pa_cons pe_int (pa_cons (pv 5) pa_nil))))
(pss_cons (ps_setLC rfl (cn_of (N := ["_law_bound", "_law_orders", "_law_some", "_law_k"]) (js := [some 5, some 3, some 4, none]) rfl rfl (by decide +kernel) (by decide +kernel) rfl (List.forall_mem_cons.mpr ⟨rfl, (List.forall_mem_cons.mpr ⟨rfl, (List.forall_mem_cons.mpr ⟨rfl, fun _ h => nomatch h⟩)⟩)⟩) (List.forall_mem_cons.mpr ⟨(fun h => nomatch h), (List.forall_mem_cons.mpr ⟨(fun h => nomatch h), (List.forall_mem_cons.mpr ⟨(fun _ => rfl), (List.forall_mem_cons.mpr ⟨(fun _ => rfl), (List.forall_mem_cons.mpr ⟨(fun _ => rfl), fun _ h => nomatch h⟩)⟩)⟩)⟩)⟩) (List.forall_mem_cons.mpr ⟨(fun j h => (by cases h; exact ⟨rfl, rfl, rfl⟩)), (List.forall_mem_cons.mpr ⟨(fun j h => (by cases h; exact ⟨rfl, rfl, rfl⟩)), (List.forall_mem_cons.mpr ⟨(fun j h => (by cases h; exact ⟨rfl, rfl, rfl⟩)), (List.forall_mem_cons.mpr ⟨(fun j h => nomatch h), fun _ h => nomatch h⟩)⟩)⟩)⟩) rfl) (pi_range1 rfl T.z_range (pa_cons (pe_callB call_len_seq rfl T.z_len PySem.boot_len (pa_cons (pv 3) pa_nil)) pa_nil)) sc_law.nd (k := 6) rfl rfl (fun _ _ _ _ => (pg_name (i := 3) nd_law_2 rfl (Or.inl rfl) (hf := Or.inr rfl))) (fun _ _ _ _ => (pts_one (pt_cmpR op_le (pe_ix (ix_listK (K := K) rfl) (pv 2) (pv 3) (fun _ _ => rfl)) (pv 0) (nomark _)))) (fun _ _ _ _ => (pe_ix (ix_listK (K := K) rfl) (pv 1) (pv 3) (fun _ _ => rfl))) (by rfl))
(pss_cons (ps_set (i := 7) sc_law.nd rfl (Or.inl rfl) (pe_call G_law_told hr rfl T.m_law_told T.F_law_told.kp T.b_law_told .nil pass0F (pa_cons pe_int (pa_cons (pv 1) (pa_cons (pv 2) (pa_cons (pv 5) pa_nil))))))
(pss_cons (ps_if (PW.pt (pw_or (pt_not (pt_val (pe_call G_law_whole hr rfl T.m_law_whole T.F_law_whole.kp T.b_law_whole .nil pass0F (pa_cons (pv 7) pa_nil)))) (pw_or (pt_cmpR (op_neD hr.units) (pv 7) (pe_callB call_len_seq rfl T.z_len PySem.boot_len (pa_cons (pv 6) pa_nil)) (nomark _)) (pw_or1 (pt_cmpR (op_neD hr.units) (pe_call G_law_told hr rfl T.m_law_told T.F_law_told.kp T.b_law_told .nil pass0F (pa_cons pe_int (pa_cons (pv 1) (pa_cons (pv 2) (pa_cons (pv 5) pa_nil))))) (pe_ifExp (pt_truth (pv 6) (fun _ => rfl)) (pe_ix ix_list (pv 6) pe_int (fun _ _ => rfl)) pe_non) (nomark _))))))
(pss_one (ps_ret pe_bl))
pss_nil)
(pss_cons (ps_set (i := 7) sc_law.nd rfl (Or.inl rfl) (pe_call G_law_told hr rfl T.m_law_told T.F_law_told.kp T.b_law_told .nil pass0F (pa_cons pe_int (pa_cons (pv 1) (pa_cons (pv 2) (pa_cons pe_int pa_nil))))))
(pss_cons (ps_if (PW.pt (pw_or (pt_cmpR (op_neD hr.units) (pv 7) (pe_tup (pa_cons (pe_callB (call_minL rfl) rfl T.z_min bt_min (pa_cons (pv 4) pa_nil)) (pa_cons (pe_ix ix_list (pv 3) (pe_bm PySem.F.plainAttrs_list PySem.F.slot_list_index PySem.F.type_list_index mt_index (pv 4) (pa_cons (pe_callB (call_minL rfl) rfl T.z_min bt_min (pa_cons (pv 4) pa_nil)) pa_nil)) (fun _ _ => rfl)) pa_nil))) (nomark _)) (pw_or1 (pt_not (pt_val (pe_call G_law_whole hr rfl T.m_law_whole T.F_law_whole.kp T.b_law_whole .nil pass0F (pa_cons (pe_ix ix_tup (pv 7) pe_int (fun _ _ => rfl)) pa_nil)))))))
(pss_one (ps_ret pe_bl))
pss_nil)
(pss_cons (ps_for passesOwn_cx rfl (pi_tup (pe_tup (pa_cons (pe_un un_neg pe_int) (pa_cons pe_int pa_nil)))) (pg_name (i := 8) sc_law.nd rfl (Or.inr rfl))
(pss_one (ps_if (pt_cmpR (op_neD hr.units) (pe_lc rfl (cn_of (N := ["_law_bad", "_law_kind", "_law_web_here", "_law_way"]) (js := [some 8, some 2, some 1, none]) rfl rfl (by decide +kernel) (by decide +kernel) rfl (List.forall_mem_cons.mpr ⟨rfl, (List.forall_mem_cons.mpr ⟨rfl, (List.forall_mem_cons.mpr ⟨rfl, fun _ h => nomatch h⟩)⟩)⟩) (List.forall_mem_cons.mpr ⟨(fun h => nomatch h), (List.forall_mem_cons.mpr ⟨(fun h => nomatch h), (List.forall_mem_cons.mpr ⟨(fun h => nomatch h), (List.forall_mem_cons.mpr ⟨(fun _ => rfl), (List.forall_mem_cons.mpr ⟨(fun _ => rfl), (List.forall_mem_cons.mpr ⟨(fun _ => rfl), fun _ h => nomatch h⟩)⟩)⟩)⟩)⟩)⟩) (List.forall_mem_cons.mpr ⟨(fun j h => (by cases h; exact ⟨rfl, rfl, rfl⟩)), (List.forall_mem_cons.mpr ⟨(fun j h => (by cases h; exact ⟨rfl, rfl, rfl⟩)), (List.forall_mem_cons.mpr ⟨(fun j h => (by cases h; exact ⟨rfl, rfl, rfl⟩)), (List.forall_mem_cons.mpr ⟨(fun j h => nomatch h), fun _ h => nomatch h⟩)⟩)⟩)⟩) rfl) (pi_range1 rfl T.z_range (pa_cons pe_int pa_nil)) (fun _ _ _ _ => (pg_name (i := 3) nd_law_3 rfl (Or.inl rfl) (hf := Or.inr rfl))) (fun _ _ _ _ => pts_nil) (fun _ _ _ _ => (pe_call G_law_told hr rfl T.m_law_told T.F_law_told.kp T.b_law_told .nil pass0F (pa_cons (pv 3) (pa_cons (pv 2) (pa_cons (pv 1) (pa_cons (pv 0) pa_nil))))))) (pe_op op_rep (pe_lst (pa_cons pe_str pa_nil)) pe_int) (nomark _))
(pss_one (ps_ret pe_bl))
pss_nil)))
(pss_cons (ps_if (pt_cmpR (op_neD hr.units) (pe_lc rfl (cn_of (N := ["_law_web_here", "_law_way"]) (js := [some 1, none]) rfl rfl (by decide +kernel) (by decide +kernel) rfl (List.forall_mem_cons.mpr ⟨rfl, fun _ h => nomatch h⟩) (List.forall_mem_cons.mpr ⟨(fun h => nomatch h), (List.forall_mem_cons.mpr ⟨(fun h => nomatch h), (List.forall_mem_cons.mpr ⟨(fun h => nomatch h), (List.forall_mem_cons.mpr ⟨(fun _ => rfl), fun _ h => nomatch h⟩)⟩)⟩)⟩) (List.forall_mem_cons.mpr ⟨(fun j h => (by cases h; exact ⟨rfl, rfl, rfl⟩)), (List.forall_mem_cons.mpr ⟨(fun j h => nomatch h), fun _ h => nomatch h⟩)⟩) rfl) (pi_range1 rfl T.z_range (pa_cons pe_int pa_nil)) (fun _ _ _ _ => (pg_name (i := 1) nd_law_4 rfl (Or.inl rfl) (hf := Or.inr rfl))) (fun _ _ _ _ => pts_nil) (fun _ _ _ _ => (pe_call G_law_told hr rfl T.m_law_told T.F_law_told.kp T.b_law_told .nil pass0F (pa_cons (pv 1) (pa_cons (pv 0) (pa_cons pe_str (pa_cons pe_int pa_nil))))))) (pe_op op_rep (pe_lst (pa_cons pe_str pa_nil)) pe_int) (nomark _))
(pss_one (ps_ret pe_bl))
pss_nil)
(pss_one (ps_ret (pe_cmpR (op_eqD hr.units) (pe_lc rfl (cn_none (N := ["_law_way"]) (js := [none]) rfl rfl (by decide +kernel) (by decide +kernel) (by decide +kernel) rfl (by decide) rfl) (pi_range1 rfl T.z_range (pa_cons pe_int pa_nil)) (fun _ _ _ _ => (pg_name (i := 0) nd_law_5 rfl (Or.inl rfl) (hf := Or.inr rfl))) (fun _ _ _ _ => pts_nil) (fun _ _ _ _ => (pe_call G_law_told hr rfl T.m_law_told T.F_law_told.kp T.b_law_told .nil pass0F (pa_cons (pv 0) (pa_cons (pe_tup (pa_cons pe_int (pa_cons (pe_lst pa_nil) pa_nil))) (pa_cons pe_str (pa_cons pe_int pa_nil))))))) (pe_op op_rep (pe_lst (pa_cons pe_str pa_nil)) pe_int) (nomark _)))))))))))))))))), ?_⟩
  -- the web
  refine ⟨_, rfl, a, ns, 0, 5, rfl, hS, by decide, by decide, fun wv H1 n ts e1 dw hw win hn5 hl64 => ?_⟩
  obtain ⟨wa, tl, xs, rfl, hwa, htl, dl⟩ := web_of dw
  obtain ⟨hn0, _, htt⟩ := webOk_of hw
  obtain ⟨N, rfl⟩ : ∃ N : Nat, n = N := ⟨n.toNat, by omega⟩
  have hN5 : N ≤ 5 := by omega
  have htk := web_ties hw
  -- the kind
  refine ⟨(by show 3 ≤ sizeLine; decide), fun q1 hq1 => ?_⟩
  obtain ⟨s1, n1⟩ := new_pair (o := .lst [V.str "longest", V.str "most", V.str "total"]) hq1
  obtain ⟨kv, hkv, kd, rfl, hk⟩ := pick3 (i := mixI ns 90 % 3) (p1 := .str "longest") (p2 := .str "most") (p3 := .str "total") (Z := fun v => ∃ kd, v = .str kd ∧ isKind kd) (Int.emod_nonneg _ (by decide)) (Int.emod_lt_of_pos _ (by decide)) ⟨_, rfl, .inl rfl⟩ ⟨_, rfl, .inr (.inl rfl)⟩ ⟨_, rfl, .inr (.inr rfl)⟩
  obtain ⟨kd1, kd2⟩ := kind_small hk
  refine ⟨_, rfl, a, ns, 90, rfl, (e1.trans s1).seq hS, _, _, rfl, rfl, (by show (0 : Int) < 3; decide), q1, _, _, _, rfl, rfl, SqL.of n1, hkv, ?_⟩
  -- the orders
  refine ⟨_, rfl, _, _, _, _, rfl, rfl, SqT.of (s1 _ _ hwa), rfl, N, rfl, hN5, fun av H2 e2 dav => ?_⟩
  obtain ⟨al, axs, rfl, hal, dax⟩ := dav.list_of
  have haxl : axs.length = (allTo N N).length := by rw [← dax.length, List.length_map]
  have hall := all_len hN5 N
  have h5 : 5 ^ N ≤ 3125 := show 5 ^ N ≤ 5 ^ 5 from Nat.pow_le_pow_right (by decide) hN5
  have e12 := s1.trans e2
  refine ⟨_, rfl, al, rfl, ⟨_, SqL.of hal⟩, ?_⟩
  refine lc_in (fun σ => ∃ x, σ = [some (.str kd), some (.ref wa), x]) axs.length (fun i => .int (measF kd N ((allTo N N).getD i []) ts)) ⟨none, rfl⟩ ?_ ?_ (by rw [sizeLine_eq]; omega) ?_ ?_
  · intro i H3 hi e3
    exact ⟨axs, axs[i], SqL.of (e3 _ _ hal), List.getElem?_eq_getElem hi⟩
  · intro H3 e3
    exact ⟨axs, SqL.of (e3 _ _ hal), Nat.le_refl _⟩
  · rintro Dd i x σ2 H3 H4 Nx hi e3 hD ⟨x1, rfl⟩ ⟨rfl, hx⟩ fin
    have hx2 := hx _ (SqL.of (e3 _ _ hal))
    obtain ⟨o, ho⟩ : ∃ o, (allTo N N)[i]? = some o := ⟨_, List.getElem?_eq_getElem (by omega)⟩
    obtain ⟨y, hy, dy⟩ := (dax.mono e3).get (d := ordD o) (by rw [List.getElem?_map, ho]; rfl)
    rw [hx2] at hy
    cases hy
    obtain ⟨ol, rfl, hol⟩ := ord_of dy
    have hgd : (allTo N N).getD i [] = o := by rw [List.getD_eq_getElem?_getD, ho]; rfl
    refine ⟨_, rfl, _, rfl, _, rfl, .ref wa, kd, ol, N, ts, o, rfl, dw.mono (e12.trans e3), hol, hw, win, hl64, (allTo_ord o).mp (List.mem_of_getElem? ho), fun z H' e => fin _ _ _ ⟨_, rfl⟩ e ?_, fun z H' e => fin _ _ _ ⟨_, rfl⟩ e ?_, fun z1 z2 H' e => fin _ _ _ ⟨_, rfl⟩ e ?_⟩
    · rw [hgd]
      unfold measF
      rw [if_pos z]
      exact .int
    · rw [hgd]
      unfold measF
      rw [if_neg (by rw [z]; decide), if_pos z]
      exact .int
    · rw [hgd]
      unfold measF
      rw [if_neg z1, if_neg z2]
      exact .int
  intro D1 ys1 H3 hD1 e3 hy1 dy1
  have z1 : (List.range axs.length).map (fun i => PyData.int (measF kd N ((allTo N N).getD i []) ts)) = ((allTo N N).map fun os => measF kd N os ts).map .int := by
    rw [haxl, map_range_get (fun os => PyData.int (measF kd N os ts)) [] (allTo N N), List.map_map]
    rfl
  rw [z1] at dy1
  rw [dy1.ints_of] at hy1
  obtain ⟨ord0, hord0⟩ : ∃ os, ordOk N os = true := let ⟨os, h, _⟩ := price_some hN5 htk; ⟨os, h⟩
  have hane : allTo N N ≠ [] := fun z => by
    have := (allTo_ord ord0).mpr hord0
    rw [z] at this
    cases this
  have hl0 : 0 < (allTo N N).length := List.length_pos_iff.mpr hane
  have e13 := e12.trans e3
  have eH3 := e1.trans e13
  generalize hms : (allTo N N).map (fun os => measF kd N os ts) = ms at hy1
  have hml : ms.length = (allTo N N).length := by rw [← hms, List.length_map]
  have hmle : ∀ m ∈ ms, m ≤ 100000 := fun m hm => by
    rw [← hms] at hm
    obtain ⟨os, h1, rfl⟩ := List.mem_map.mp hm
    exact meas_le hN5 ((allTo_ord os).mp h1) htk hl64
  have hmne : ms ≠ [] := fun z => by rw [z] at hml; simp at hml; omega
  -- the bound
  obtain ⟨p, hp, hpl⟩ : ∃ p : Nat, mixI ns 91 % ((ms.map V.int).length : Int) = (p : Int) ∧ p < ms.length := by
    have hlm : ((ms.map V.int).length : Int) = (ms.length : Int) := by rw [List.length_map]
    rw [hlm]
    have z1 := Int.emod_nonneg (mixI ns 91) (show (ms.length : Int) ≠ 0 by omega)
    have z2 := Int.emod_lt_of_pos (mixI ns 91) (show (0 : Int) < (ms.length : Int) by omega)
    exact ⟨(mixI ns 91 % (ms.length : Int)).toNat, by omega, by omega⟩
  refine ⟨_, rfl, _, rfl, a, ns, 91, rfl, eH3.seq hS, _, rfl, D1, _, rfl, .inl (SqL.of hy1), _, _, rfl, rfl, (by show (0 : Int) < _; rw [List.length_map]; omega), ?_⟩
  dsimp only
  rw [hp]
  refine ⟨D1, _, _, _, rfl, rfl, SqL.of hy1, atI_at hpl, _, rfl, (by show 4 ≤ sizeLine; decide), fun q2 hq2 => ?_⟩
  obtain ⟨s4, n4⟩ := new_pair (o := .lst [V.int 0, V.int 0, V.int (-1), V.int 1]) hq2
  obtain ⟨dv, hdv, dd, rfl, hdd⟩ := pick4 (i := mixI ns 92 % 4) (p1 := .int 0) (p2 := .int 0) (p3 := .int (-1)) (p4 := .int 1) (Z := fun v => ∃ d, v = .int d ∧ d ≤ 1) (Int.emod_nonneg _ (by decide)) (Int.emod_lt_of_pos _ (by decide)) ⟨_, rfl, by decide⟩ ⟨_, rfl, by decide⟩ ⟨_, rfl, by decide⟩ ⟨_, rfl, by decide⟩
  refine ⟨_, rfl, a, ns, 92, rfl, (eH3.trans s4).seq hS, _, _, rfl, rfl, (by show (0 : Int) < 4; decide), q2, _, _, _, rfl, rfl, SqL.of n4, hdv, _, _, rfl, rfl, ?_⟩
  dsimp only
  have hb0l : ms.getD p 0 + dd ≤ 1000000 := by
    have := hmle (ms.getD p 0) (by rw [List.getD_eq_getElem?_getD, List.getElem?_eq_getElem hpl]; exact List.getElem_mem hpl)
    omega
  generalize ms.getD p 0 + dd = b0 at hb0l ⊢
  have n4' := n4
  clear n4
  generalize upd H3 q2 (HO.lst [V.int 0, V.int 0, V.int (-1), V.int 1]) = H4 at s4 ⊢
  have e14 := e13.trans s4
  have eH4 := e1.trans e14
  have hy4 := s4 _ _ hy1
  refine ⟨_, rfl, a, ns, 93, rfl, eH4.seq hS, _, _, rfl, rfl, (by show (0 : Int) < 8; decide), rfl, _, rfl, ?_⟩
  show if (_ : Bool) = true then _ else _
  apply if_int (G := fun b => b ≤ 1000000) (b0 := b0) (H := H4) hb0l
  rotate_left
  · intro fin _
    refine ⟨_, rfl, D1, ms, rfl, SqL.of hy4, hmne, fun M hM => ⟨(by show 3 ≤ sizeLine; decide), fun q3 hq3 => ?_⟩⟩
    obtain ⟨s5, n5⟩ := new_pair (o := .lst [V.int 0, V.int 1000000, V.int M]) hq3
    have hMl := hmle M hM.1
    obtain ⟨dv, hdv2, dd2, rfl, hdd2⟩ := pick3 (i := mixI ns 94 % 3) (p1 := .int 0) (p2 := .int 1000000) (p3 := .int M) (Z := fun v => ∃ d, v = .int d ∧ d ≤ 1000000) (Int.emod_nonneg _ (by decide)) (Int.emod_lt_of_pos _ (by decide)) ⟨_, rfl, by decide⟩ ⟨_, rfl, by decide⟩ ⟨_, rfl, by omega⟩
    exact ⟨_, rfl, a, ns, 94, rfl, (eH4.trans s5).seq hS, _, _, rfl, rfl, (by show (0 : Int) < 3; decide), q3, _, _, _, rfl, rfl, SqL.of n5, hdv2, fin dd2 _ hdd2 s5⟩
  intro b H5 hb e5
  have e15 := e14.trans e5
  have eH5 := e1.trans e15
  refine ⟨_, rfl, _, _, rfl, ?_⟩
  have hB0 : 0 ≤ (if b > 0 then b else 0) := by split <;> omega
  have hB1 : (if b > 0 then b else 0) ≤ 1000000 := by split <;> omega
  generalize (if b > 0 then b else 0) = B at hB0 hB1 ⊢
  have hal5 := (e3.trans (s4.trans e5)) _ _ hal
  have hy5 := e5 _ _ hy4
  have dax5 := dax.mono (e3.trans (s4.trans e5))
  have msg : ∀ i, i < ms.length → ms.getD i 0 = measF kd N ((allTo N N).getD i []) ts := fun i hi => by
    rw [← hms, List.getD_eq_getElem?_getD, List.getElem?_map, List.getD_eq_getElem?_getD, List.getElem?_eq_getElem (by omega)]
    rfl
  -- those that keep it
  refine ⟨_, rfl, al, _, rfl, .inl (SqL.of hal5), ((axs.length : Nat) : Int), rfl, by omega, by omega, ?_⟩
  rw [Int.toNat_natCast]
  refine lcf_inN (fun σ => ∃ x, σ = [some (.int B), some (.ref al), some (.ref D1), x]) axs.length (fun i => decide (measF kd N ((allTo N N).getD i []) ts ≤ B)) (fun i => ordD ((allTo N N).getD i [])) ⟨none, rfl⟩ (fun i H3 hi e3 => hi) (fun H3 e3 => Nat.le_refl _) (by rw [sizeLine_eq]; omega) ?_ ?_
  · rintro Dd i x σ2 H6 H7 Y Z hDd hi e6 ⟨ysD, hD⟩ ⟨x1, rfl⟩ ⟨rfl, rfl⟩ yes no
    have ei : (0 : Int) + (i : Nat) = ((i : Nat) : Int) := by omega
    rw [ei]
    have him : i < ms.length := by omega
    refine ⟨_, rfl, _, rfl, D1, _, _, _, rfl, rfl, SqL.of (e6 _ _ hy5), atI_at him, _, rfl, _, _, rfl, rfl, _, rfl, ?_⟩
    rw [msg i him]
    obtain ⟨o, ho⟩ : ∃ o, (allTo N N)[i]? = some o := ⟨_, List.getElem?_eq_getElem (by omega)⟩
    obtain ⟨y, hy, dy⟩ := dax5.get (d := ordD o) (by rw [List.getElem?_map, ho]; rfl)
    have hgd : (allTo N N).getD i [] = o := by rw [List.getD_eq_getElem?_getD, ho]; rfl
    refine iteOf rfl (fun c => ?_) (fun c => ?_)
    · refine ⟨_, rfl, _, rfl, al, _, _, y, rfl, rfl, SqL.of (e6 _ _ hal5), atI_nat hy, yes _ _ _ c ⟨_, rfl⟩ (Same.refl _) ?_⟩
      rw [hgd]
      obtain ⟨ol, rfl, hol⟩ := ord_of dy
      refine Dat.ints ?_
      rw [mask_ne (ne_of_none hol hDd)]
      exact e6 _ _ hol
    · exact no _ _ c ⟨_, rfl⟩ (Same.refl _)
  intro Dg gys H6 hDg e6 hg6 dg6
  rw [haxl, pick_range (allTo N N) [] (fun os => decide (measF kd N os ts ≤ B)) ordD] at dg6
  have dg : DatL H6 ((goodL N ts kd B).map ordD) gys := dg6.mono mask_same
  clear dg6
  have hgl : gys.length = (goodL N ts kd B).length := by rw [← dg.length, List.length_map]
  have e16 := e15.trans e6
  have eH6 := e1.trans e16
  -- how many
  have nw : ∀ {Z : Prop}, webOk (N : Int) ts = false → Z := fun z => by rw [hw] at z; cases z
  refine ⟨_, rfl, _, rfl, _, rfl, 0, .ref wa, N, ts, kd, B, rfl, dw.mono e16, win, fun _ => hn5, kd1, kd2, by decide, by decide, nw, fun _ z => absurd ⟨hk, fun _ => ⟨hB0, hB1⟩⟩ z, fun _ _ => ⟨fun _ _ _ H7 e7 => ?_, fun z => absurd z (by decide), fun z => absurd z (by decide)⟩⟩
  rw [Int.toNat_natCast]
  have e17 := e16.trans e7
  have hg7 := e7 _ _ hg6
  refine ⟨_, rfl, _, rfl, .inl ⟨_, rfl, _, rfl, iteF ?_⟩⟩
  refine ⟨_, rfl, _, rfl, Dg, _, rfl, .inl (SqL.of hg7), ?_⟩
  rw [hgl]
  refine ⟨.int _, .int _, Dat.int.rep, Dat.int.rep, rfl, rfl, (by show min 0 0 ≤ 60; decide), _, rfl, ite_ne_same rfl ?_⟩
  -- the first
  apply join_at (H := H7)
  · intro fin
    refine ⟨_, rfl, _, rfl, _, rfl, 1, .ref wa, N, ts, kd, B, rfl, dw.mono e17, win, fun _ => hn5, kd1, kd2, by decide, by decide, nw, fun _ z => absurd ⟨hk, fun _ => ⟨hB0, hB1⟩⟩ z, fun _ _ => ⟨fun z => absurd z (by decide), fun _ _ _ => ⟨fun hnil H8 e8 => ?_, fun r rest hr l H8 e8 hl => ?_⟩, fun z => absurd z (by decide)⟩⟩
    · rw [Int.toNat_natCast] at hnil
      refine ⟨_, rfl, _, .inl ⟨_, SqL.of (e8 _ _ hg7), rfl⟩, ?_⟩
      have hz : gys = [] := List.length_eq_zero_iff.mp (by rw [hgl, hnil]; rfl)
      rw [hz]
      exact iteF ⟨.none, .none, Dat.none.rep, Dat.none.rep, rfl, rfl, (by show min 0 0 ≤ 60; decide), _, rfl, ite_ne_same rfl (fin H8 e8)⟩
    · rw [Int.toNat_natCast] at hr
      have dg8 := dg.mono (e7.trans e8)
      rw [hr, List.map_cons] at dg8
      obtain ⟨g0, gr, hgg, dg0, _⟩ := DatL.uncons dg8
      have hg8 := e8 _ _ hg7
      rw [hgg] at hg8
      refine ⟨_, rfl, _, .inl ⟨_, SqL.of hg8, rfl⟩, iteT ⟨_, rfl, Dg, _, _, g0, rfl, rfl, SqL.of hg8, atI_nat (j := 0) rfl, ?_⟩⟩
      exact ⟨ordD r, ordD r, (Dat.ints hl).rep, dg0.rep, lay_ints _, lay_ints _, (by show min (PyData.depthAll (r.map .int) + 1) _ ≤ 60; rw [depth_ints]; omega), _, rfl, ite_ne_same (lay_ints _) (fin H8 e8)⟩
  intro H8 e8
  have e18 := e17.trans e8
  have eH8 := e1.trans e18
  have hy8 := e8 _ _ (e7 _ _ (e6 _ _ hy5))
  have hal8 := e8 _ _ (e7 _ _ (e6 _ _ hal5))
  have dax8 := dax5.mono (e6.trans (e7.trans e8))
  -- the least
  have hM := minL_is hmne
  generalize minL ms = M at hM
  have hlow : ∀ os, ordOk N os = true → M ≤ measF kd N os ts := fun os ho => hM.2 _ (by rw [← hms]; exact List.mem_map.mpr ⟨os, (allTo_ord os).mpr ho, rfl⟩)
  obtain ⟨r, rest, hgM⟩ : ∃ r rest, goodL N ts kd M = r :: rest := by
    have h := hM.1
    rw [← hms] at h
    obtain ⟨os, h1, h2⟩ := List.mem_map.mp h
    have h3 : os ∈ goodL N ts kd M := good_mem.mpr ⟨(allTo_ord os).mp h1, by omega⟩
    cases hg : goodL N ts kd M with
    | nil => rw [hg] at h3; cases h3
    | cons r rest => exact ⟨r, rest, rfl⟩
  obtain ⟨hMm, hMi⟩ := first_good (M := M) (fun os => measF kd N os ts) (fun x hx => hlow x ((allTo_ord x).mp hx)) hgM
  rw [hms] at hMm hMi
  refine ⟨_, rfl, _, rfl, 2, .ref wa, N, ts, kd, 0, rfl, dw.mono e18, win, fun _ => hn5, kd1, kd2, by decide, by decide, nw, fun _ z => absurd ⟨hk, fun y => absurd y (by decide)⟩ z, fun _ _ => ⟨fun z => absurd z (by decide), fun z => absurd z (by decide), fun _ => ⟨M, r, rest, by rw [Int.toNat_natCast]; exact hgM, hlow, fun t l H10 e10 ht hl => ?_⟩⟩⟩
  have e110 := e18.trans e10
  have hy10 := e10 _ _ hy8
  have hal10 := e10 _ _ hal8
  obtain ⟨yo, hyo, dyo⟩ := (dax8.mono e10).get (d := ordD r) (by rw [List.getElem?_map, hMi]; rfl)
  refine ⟨_, rfl, _, rfl, D1, ms, rfl, SqL.of hy10, hmne, fun M1 hM1 => ?_⟩
  obtain rfl := hM1.uniq hM
  refine ⟨_, rfl, _, rfl, .inl ⟨rfl, _, SqL.of hy10⟩, _, rfl, D1, ms, rfl, SqL.of hy10, hmne, fun M2 hM2 => ?_⟩
  obtain rfl := hM2.uniq hM
  refine ⟨_, _, _, _, rfl, rfl, SqL.of hy10, flat_ints ms, rfl, index_of hMm, al, _, _, yo, rfl, rfl, SqL.of hal10, atI_nat hyo, (by show 2 ≤ sizeLine; decide), fun t2 ht2 => ?_⟩
  obtain ⟨s11, n11⟩ := new_pair (o := .tup [V.int M2, yo]) ht2
  refine ⟨.tuple [.int M2, ordD r], .tuple [.int M2, ordD r], (Dat.tuple (s11 _ _ ht) (.cons .int (.cons (Dat.ints (s11 _ _ hl)) .nil))).rep, (Dat.tuple n11 (.cons .int (.cons (dyo.mono s11) .nil))).rep, lay_told _ _, lay_told _ _, ?_, _, rfl, ite_ne_same (lay_told _ _) ?_⟩
  · show min (max 0 (max (PyData.depthAll (r.map .int) + 1) 0) + 1) _ ≤ 60
    rw [depth_ints]
    omega
  refine ⟨_, rfl, _, _, _, _, rfl, rfl, SqT.of (s11 _ _ ht), rfl, _, rfl, .inl ⟨_, rfl, _, rfl, iteF ?_⟩⟩
  generalize upd H10 t2 (HO.tup [V.int M2, yo]) = H11 at s11 ⊢
  have e111 := e110.trans s11
  -- bounds that are none
  refine ⟨_, rfl, (by show 2 ≤ sizeLine; decide), fun tb htb => ⟨tb, rfl, ⟨_, SqT.of upd_same⟩, ?_⟩⟩
  obtain ⟨s12, n12⟩ := new_pair (o := .tup [V.int (-1), V.int 1000001]) htb
  have e112 := e111.trans s12
  refine for_in 2 (fun i σ H' => ∃ v8, σ = [some (.ref a), some (.ref wa), some (.str kd), some (.ref al), some (.ref D1), some (.int B), some (.ref Dg), some (.ref t), v8] ∧ Same (upd H11 tb (.tup [V.int (-1), V.int 1000001])) H')
    ⟨_, rfl, Same.refl _⟩ ?_ ?_ ?_ ?_
  · rintro i σ H' hi ⟨v8, rfl, e⟩
    have hi2 : i = 0 ∨ i = 1 := by omega
    rcases hi2 with rfl | rfl
    · exact ⟨_, _, SqT.of (e _ _ n12), rfl⟩
    · exact ⟨_, _, SqT.of (e _ _ n12), rfl⟩
  · rintro σ H' ⟨v8, rfl, e⟩
    exact ⟨_, SqT.of (e _ _ n12), Nat.le_refl _⟩
  · rintro i y σ H13 H14 hi ⟨v8, rfl, e13⟩ ⟨rfl, hy⟩
    have hy2 := hy _ (SqT.of (e13 _ _ n12))
    obtain ⟨bad, rfl, hbad⟩ : ∃ bad : Int, y = .int bad ∧ ¬ (0 ≤ bad ∧ bad ≤ 1000000) := by
      have hi2 : i = 0 ∨ i = 1 := by omega
      rcases hi2 with rfl | rfl
      · cases hy2
        exact ⟨-1, rfl, by decide⟩
      · cases hy2
        exact ⟨1000001, rfl, by decide⟩
    have e113 := e112.trans e13
    refine ⟨2, rfl, by decide, by decide, ?_⟩
    refine lc_in (fun σ => ∃ x, σ = [some (.int bad), some (.str kd), some (.ref wa), x]) 2 (fun _ => .str "kind") ⟨none, rfl⟩ (fun i H3 hi e3 => hi) (fun H3 e3 => Nat.le_refl _) (by decide) ?_ ?_
    · rintro Dd j x σ2 H3' H4' Nx hj e3' hD ⟨x1, rfl⟩ ⟨rfl, rfl⟩ fin
      exact ⟨_, rfl, _, rfl, _, rfl, _, rfl, _, .ref wa, N, ts, kd, bad, rfl, dw.mono (e113.trans e3'), win, fun _ => hn5, kd1, kd2, by omega, by omega, nw, fun _ _ H' e' => fin _ _ _ ⟨_, rfl⟩ e' .str, fun _ _ => ⟨fun _ h0 h1 => absurd ⟨h0, h1⟩ hbad, fun _ h0 h1 => absurd ⟨h0, h1⟩ hbad, fun z => absurd z (by omega)⟩⟩
    · intro D5 ys5 H25 hD5 e25 hy5' dy5
      refine ⟨(by show 1 ≤ sizeLine; decide), fun w1 hw1 => ⟨_, _, _, rfl, rfl, upd_same, by decide, by decide, (by show 1 * 2 ≤ sizeLine; decide), fun w2 hw2 => ?_⟩⟩
      have x1 := same_new (o := .lst [V.str "kind"]) hw1
      have x2 := same_new (o := .lst (List.replicate (2 : Int).toNat [V.str "kind"]).flatten) hw2
      exact ⟨.list [.str "kind", .str "kind"], .list [.str "kind", .str "kind"], (Dat.list (x2 _ _ (x1 _ _ hy5')) (dy5.mono (mask_same.trans (x1.trans x2)))).rep, (Dat.list upd_same (.cons .str (.cons .str .nil))).rep, lay_kind2, lay_kind2, (by decide +kernel), _, rfl, ite_ne_same lay_kind2 ⟨_, rfl, e13.trans (e25.trans (x1.trans x2))⟩⟩
  rintro σ H13 ⟨v8, rfl, e13⟩
  have e113 := e112.trans e13
  -- no kind
  refine ⟨3, rfl, by decide, by decide, ?_⟩
  refine lc_in (fun σ => ∃ x, σ = [some (.ref wa), x]) 3 (fun _ => .str "kind") ⟨none, rfl⟩ (fun i H3 hi e3 => hi) (fun H3 e3 => Nat.le_refl _) (by decide) ?_ ?_
  · rintro Dd j x σ2 H3' H4' Nx hj e3' hD ⟨x1, rfl⟩ ⟨rfl, rfl⟩ fin
    exact ⟨_, rfl, _, rfl, _, .ref wa, N, ts, "gaps", 1, rfl, dw.mono (e113.trans e3'), win, fun _ => hn5, gaps_small.1, gaps_small.2, by omega, by omega, nw, fun _ _ H' e' => fin _ _ _ ⟨_, rfl⟩ e' .str, fun _ z => absurd z not_gaps⟩
  intro D5 ys5 H25 hD5 e25 hy5' dy5
  refine ⟨(by show 1 ≤ sizeLine; decide), fun w1 hw1 => ⟨_, _, _, rfl, rfl, upd_same, by decide, by decide, (by show 1 * 3 ≤ sizeLine; decide), fun w2 hw2 => ?_⟩⟩
  have x1 := same_new (o := .lst [V.str "kind"]) hw1
  have x2 := same_new (o := .lst (List.replicate (3 : Int).toNat [V.str "kind"]).flatten) hw2
  refine ⟨.list [.str "kind", .str "kind", .str "kind"], .list [.str "kind", .str "kind", .str "kind"], (Dat.list (x2 _ _ (x1 _ _ hy5')) (dy5.mono (mask_same.trans (x1.trans x2)))).rep, (Dat.list upd_same (.cons .str (.cons .str (.cons .str .nil)))).rep, lay_kind3, lay_kind3, (by decide +kernel), _, rfl, ite_ne_same lay_kind3 ?_⟩
  -- no web
  have win9 : WebIn 9 [] := ⟨by unfold small; decide, by decide, fun t h => absurd h List.not_mem_nil⟩
  have nb9 : ∀ {Z : Prop}, webOk 9 [] = true → Z := fun z => by rw [bad9] at z; cases z
  refine ⟨3, rfl, by decide, by decide, ?_⟩
  refine lc_in (fun σ => ∃ x, σ = [x]) 3 (fun _ => .str "web") ⟨none, rfl⟩ (fun i H3 hi e3 => hi) (fun H3 e3 => Nat.le_refl _) (by decide) ?_ ?_
  · rintro Dd j x σ2 H3' H4' Nx hj e3' hD ⟨x1, rfl⟩ ⟨rfl, rfl⟩ fin
    refine ⟨_, rfl, (by show 0 ≤ sizeLine; decide), fun r1 hr1 => ⟨(by show 2 ≤ sizeLine; decide), fun r2 hr2 => ?_⟩⟩
    obtain ⟨t1, m1⟩ := new_pair (o := .lst []) hr1
    obtain ⟨t2, m2⟩ := new_pair (o := .tup [V.int 9, V.ref r1]) hr2
    exact ⟨_, .ref r2, 9, [], "gaps", 1, rfl, web_mk m2 (t2 _ _ m1) .nil, win9, nb9, gaps_small.1, gaps_small.2, by omega, by omega, fun _ H' e' => fin _ _ _ ⟨_, rfl⟩ ((t1.trans t2).trans e') .str, nb9, nb9⟩
  · intro D6 ys6 H26 hD6 e26 hy6 dy6
    refine ⟨(by show 1 ≤ sizeLine; decide), fun w3 hw3 => ⟨_, _, _, rfl, rfl, upd_same, by decide, by decide, (by show 1 * 3 ≤ sizeLine; decide), fun w4 hw4 => ?_⟩⟩
    have x3 := same_new (o := .lst [V.str "web"]) hw3
    have x4 := same_new (o := .lst (List.replicate (3 : Int).toNat [V.str "web"]).flatten) hw4
    refine ⟨.list [.str "web", .str "web", .str "web"], .list [.str "web", .str "web", .str "web"], (Dat.list (x4 _ _ (x3 _ _ hy6)) (dy6.mono (mask_same.trans (x3.trans x4)))).rep, (Dat.list upd_same (.cons .str (.cons .str (.cons .str .nil)))).rep, lay_web3, lay_web3, (by decide +kernel), ?_⟩
    rw [eq_same lay_web3]
    exact q _
theorem all_ok (T : Txt K mg A D) : FnOk P w K mg base (CXF P w) 14 A.law D.law ["_law_script"] (spLaw K) := by
  have G_is_whole := ok_whole (P := P) (w := w) (base := base) (k := 0) T 
  have G_is_within := ok_within (P := P) (w := w) (base := base) (k := 1) T (G_is_whole := G_is_whole.mono (by decide))
  have G_is_tie := ok_tie (P := P) (w := w) (base := base) (k := 2) T (G_is_within := G_is_within.mono (by decide))
  have G_look_ties := ok_ties (P := P) (w := w) (base := base) (k := 3) T (G_is_tie := G_is_tie.mono (by decide))
  have G_look_web := ok_web (P := P) (w := w) (base := base) (k := 4) T (G_is_within := G_is_within.mono (by decide)) (G_look_ties := G_look_ties.mono (by decide))
  have G_look_kind := ok_kind (P := P) (w := w) (base := base) (k := 0) T 
  have G_set_count := ok_set_count (P := P) (w := w) (base := base) (k := 0) T 
  have G_holds := ok_holds (P := P) (w := w) (base := base) (k := 0) T 
  have G_set_of := ok_set_of (P := P) (w := w) (base := base) (k := 0) T 
  have G_place_fewer := ok_place_fewer (P := P) (w := w) (base := base) (k := 1) T (G_holds := G_holds.mono (by decide))
  have G_least_before := ok_least_before (P := P) (w := w) (base := base) (k := 2) T (G_place_fewer := G_place_fewer.mono (by decide))
  have G_leading_out := ok_leading_out (P := P) (w := w) (base := base) (k := 1) T (G_set_count := G_set_count.mono (by decide)) (G_holds := G_holds.mono (by decide))
  have G_neighbours := ok_neighbours (P := P) (w := w) (base := base) (k := 0) T 
  have G_prices := ok_prices (P := P) (w := w) (base := base) (k := 5) T (G_look_web := G_look_web.mono (by decide)) (G_leading_out := G_leading_out.mono (by decide)) (G_least_before := G_least_before.mono (by decide))
  have G_least_total := ok_least_total (P := P) (w := w) (base := base) (k := 6) T (G_prices := G_prices.mono (by decide))
  have G_Walk_init := ok_Walk_init (P := P) (w := w) (base := base) (k := 2) T (G_set_count := G_set_count.mono (by decide)) (G_leading_out := G_leading_out.mono (by decide)) (G_neighbours := G_neighbours.mono (by decide))
  have G_Walk_beginning := ok_Walk_beginning (P := P) (w := w) (base := base) (k := 0) T 
  have G_Walk_last_then := ok_Walk_last_then (P := P) (w := w) (base := base) (k := 1) T (G_set_of := G_set_of.mono (by decide))
  have G_Walk_matters_then := ok_Walk_matters_then (P := P) (w := w) (base := base) (k := 2) T (G_Walk_last_then := G_Walk_last_then.mono (by decide))
  have G_Walk_steps := ok_Walk_steps (P := P) (w := w) (base := base) (k := 3) T (G_holds := G_holds.mono (by decide)) (G_Walk_matters_then := G_Walk_matters_then.mono (by decide))
  have G_look_asked := ok_look_asked (P := P) (w := w) (base := base) (k := 5) T (G_look_web := G_look_web.mono (by decide)) (G_look_kind := G_look_kind.mono (by decide)) (G_is_within := G_is_within.mono (by decide))
  have G_layer_behind := ok_layer_behind (P := P) (w := w) (base := base) (k := 4) T (G_Walk_steps := G_Walk_steps.mono (by decide))
  have G_layers := ok_layers (P := P) (w := w) (base := base) (k := 5) T (G_Walk_beginning := G_Walk_beginning.mono (by decide)) (G_layer_behind := G_layer_behind.mono (by decide))
  have G_rest_of_row := ok_rest_of_row (P := P) (w := w) (base := base) (k := 4) T (G_Walk_steps := G_Walk_steps.mono (by decide))
  have G_first_row := ok_first_row (P := P) (w := w) (base := base) (k := 10) T (G_Walk_beginning := G_Walk_beginning.mono (by decide)) (G_rest_of_row := G_rest_of_row.mono (by decide))
  have G_least_most := ok_least_most (P := P) (w := w) (base := base) (k := 3) T (G_leading_out := G_leading_out.mono (by decide)) (G_least_before := G_least_before.mono (by decide))
  have G_bound_to_try := ok_bound_to_try (P := P) (w := w) (base := base) (k := 7) T (G_least_total := G_least_total.mono (by decide)) (G_least_most := G_least_most.mono (by decide))
  have G_how_many := ok_how_many (P := P) (w := w) (base := base) (k := 5) T (G_look_asked := G_look_asked.mono (by decide)) (G_layers := G_layers.mono (by decide)) (G_Walk_init := G_Walk_init.mono (by decide))
  have G_first := ok_first (P := P) (w := w) (base := base) (k := 10) T (G_look_asked := G_look_asked.mono (by decide)) (G_first_row := G_first_row.mono (by decide)) (G_Walk_init := G_Walk_init.mono (by decide))
  have G_least := ok_least (P := P) (w := w) (base := base) (k := 10) T (G_look_web := G_look_web.mono (by decide)) (G_look_kind := G_look_kind.mono (by decide)) (G_bound_to_try := G_bound_to_try.mono (by decide)) (G_first_row := G_first_row.mono (by decide)) (G_Walk_init := G_Walk_init.mono (by decide))
  have G_law_cell := ok_law_cell (P := P) (w := w) (base := base) (k := 0) T 
  have G_law_mix := ok_law_mix (P := P) (w := w) (base := base) (k := 1) T (G_law_cell := G_law_cell.mono (by decide))
  have G_law_whole := ok_law_whole (P := P) (w := w) (base := base) (k := 0) T 
  have G_law_web := ok_law_web (P := P) (w := w) (base := base) (k := 2) T (G_law_mix := G_law_mix.mono (by decide))
  have G_law_lengths := ok_law_lengths (P := P) (w := w) (base := base) (k := 0) T 
  have G_law_gaps := ok_law_gaps (P := P) (w := w) (base := base) (k := 0) T 
  have G_law_measured := ok_law_measured (P := P) (w := w) (base := base) (k := 1) T (G_law_lengths := G_law_lengths.mono (by decide)) (G_law_gaps := G_law_gaps.mono (by decide))
  have G_law_all := ok_law_all (P := P) (w := w) (base := base) (k := 0) T 
  have G_law_refusal := ok_law_refusal (P := P) (w := w) (base := base) (k := 0) T 
  have G_law_told := ok_law_told (P := P) (w := w) (base := base) (k := 12) T (G_how_many := G_how_many.mono (by decide)) (G_first := G_first.mono (by decide)) (G_least := G_least.mono (by decide)) (G_law_refusal := G_law_refusal.mono (by decide))
  have G_law := ok_law (P := P) (w := w) (base := base) (k := 13) T (G_law_mix := G_law_mix.mono (by decide)) (G_law_web := G_law_web.mono (by decide)) (G_law_measured := G_law_measured.mono (by decide)) (G_law_all := G_law_all.mono (by decide)) (G_law_whole := G_law_whole.mono (by decide)) (G_law_told := G_law_told.mono (by decide))
  exact G_law
theorem walk {l : PySem.W.OpenLaw} {q : Program} {loose : List Str} {XP : (Str → Option Value) → Heap → Prop} {YP : World → Heap → Prop} {d : DefRec} {K : Params → PySem.W.Frag} (hn : l.most = some 63) (hdf : d.params.defaults = [])
    (hY : ∀ (w : World) (h : Heap), YP w h → (K w.params).In h)
    (F : ∀ (w : World) (mg : Str → Option Value) (fa : Addr) (h : Heap), (K w.params).In h → h.Ns mainGlobals mg → mg d.name = some (.ref fa) →
      ∃ fd : FuncData, (∀ (s : Shared) (u : Value), BindsTo s fd ⟨[u], []⟩ [("_law_script", u)]) ∧ ∀ base : Heap, (K w.params).In base → base.Ns mainGlobals mg → FnOk l.prog w (K w.params) mg base (CXF l.prog w) 14 fa fd ["_law_script"] (spLaw (K w.params))) :
    PySem.W.WalkO q loose XP YP l.row.toRowW d [] (fun f vs => PySem.call f vs) :=
  L2.walk_of (n := 63) (k := 14) (x := "_law_script") (CX := fun w => CXF l.prog w) (sp := fun w => spLaw (K w.params)) hn (by decide) hdf ⟨rfl, by decide, by decide, rfl⟩ hY F (fun _ _ a ns hl _ hS => ⟨a, ns, rfl, hS, hl, fun _ => rfl⟩) fun _ _ _ _ _ ⟨_, _, _, _, _, _, _, _, _, _, _, z⟩ => z
theorem given {l : PySem.W.OpenLaw} {w : World} {K : PySem.W.Frag} {mg : Str → Option Value} {fa : Addr} (hfa : mg "law" = some (.ref fa)) (h : ∃ A D, Txt K mg A D) :
    ∃ fd : FuncData, (∀ (s : Shared) (u : Value), BindsTo s fd ⟨[u], []⟩ [("_law_script", u)]) ∧ ∀ base : Heap, K.In base → base.Ns mainGlobals mg → FnOk l.prog w K mg base (CXF l.prog w) 14 fa fd ["_law_script"] (spLaw K) := by
  obtain ⟨A, D, T⟩ := h
  have e := hfa.symm.trans T.m_law
  cases e
  exact ⟨D.law, T.bl_law, fun base _ _ => all_ok T⟩
def without (ns : List Nat) (k : Nat) : List Stmt → List Stmt
  | [] => []
  | s :: r => if ns.contains k then without ns (k + 1) r else s :: without ns (k + 1) r
def view : Program := { PySem.Challenge.pw_rowlay_k30_whole_bounds with main := { PySem.Challenge.pw_rowlay_k30_whole_bounds.main with body := without [1, 8, 16, 26, 29, 42] 0 PySem.Challenge.pw_rowlay_k30_whole_bounds.main.body } }
theorem head {r : PySem.W.OpenRow} {q : Program} {loose : List Str} {d : DefRec} {kwd : List (Str × PySem.Expr)} {N : Nat} (H : PySem.W.Hook)
    (hl : PySem.W.LeftO r.prog q loose (fun s => PySem.W.xlAt q [] s && PySem.W.recOk r.toRowW.records s) H.obs H.val N) (hd : PySem.W.defOf q r.name = some (d, kwd))
    (ht : r.prog.theDef r.name = some (d.params, d.body, d.scope)) (hk : PySem.W.kwWritten? d.params.kwonlyargs d.params.kw_defaults = some kwd)
    (hr : (!r.writes || List.isEmpty r.records) = true) (hs : r.wellSaid = true) (hg : (PySem.W.chainsOk q && PySem.W.opensWell r.prog && (PySem.W.frees r.toRowW && r.within.isEmpty)) = true)
    (hb : r.prog.bare) (hw : r.promised) (hc : PySem.W.WalkO q loose (PySem.W.XL q []) H.says r.toRowW d kwd fun f vs => PySem.call f vs) : r.Holds :=
  PySem.W.holds_open hl H.of H.keeps (fun s e => PySem.W.xl_of s (Bool.and_eq_true_iff.mp e).1) PySem.W.XL.keeps hd ht hk (fun s e => PySem.W.recFacts_of (Bool.and_eq_true_iff.mp e).2) hr hs hg hb hw hc
end My
open PySem PySem.W PyProof.Rows
local macro_rules
  | `(tactic| o_head $H) => `(tactic| (refine My.head (q := My.view) (loose := []) (N := 5912) $H ?hl rfl rfl rfl rfl (by assumption) (by decide +kernel) ⟨rfl, rfl, rfl, rfl, rfl, by decide +kernel⟩ ?hw ?hc
                                       (case hl => exact My.left_of (by kernel_rfl) (by rfl) (fun s => by kernel_rfl) fun w os => by rw [PySem.W.Fast.te15663120176360888729]; kernel_rfl)))
set_option maxRecDepth 100000 in
set_option maxHeartbeats 0 in
theorem PySem.Challenge.cw_rowlay_k30_whole_bounds_holds : PySem.Challenge.rw_rowlay_k30_whole_bounds.Holds := by
  w_on; o_law; k_head; (case hw => w_witness2)
  k_fill
  refine My.walk (l := PySem.Challenge.rw_rowlay_k30_whole_bounds) rfl rfl (fun w h Y => PySem.W.kIn_of Y) ?F
  case F =>
    intro w mg fa h KX G hmg
    refine My.given hmg ?_
    refine' My.txt_mk KX G ?a_wall ?l_wall ?c_wall ?k_wall ?a_set_count ?l_set_count ?c_set_count ?k_set_count ?a_holds ?l_holds ?c_holds ?k_holds ?a_set_of ?l_set_of ?c_set_of ?k_set_of ?a_place_fewer ?l_place_fewer ?c_place_fewer ?k_place_fewer ?a_least_before ?l_least_before ?c_least_before ?k_least_before ?a_leading_out ?l_leading_out ?c_leading_out ?k_leading_out ?a_neighbours ?l_neighbours ?c_neighbours ?k_neighbours ?a_is_whole ?l_is_whole ?c_is_whole ?k_is_whole ?a_is_within ?l_is_within ?c_is_within ?k_is_within ?a_is_tie ?l_is_tie ?c_is_tie ?k_is_tie ?a_look_ties ?l_look_ties ?c_look_ties ?k_look_ties ?a_look_web ?l_look_web ?c_look_web ?k_look_web ?a_look_kind ?l_look_kind ?c_look_kind ?k_look_kind ?a_prices ?l_prices ?c_prices ?k_prices ?a_least_total ?l_least_total ?c_least_total ?k_least_total ?a_look_asked ?l_look_asked ?c_look_asked ?k_look_asked ?a_layer_behind ?l_layer_behind ?c_layer_behind ?k_layer_behind ?a_layers ?l_layers ?c_layers ?k_layers ?a_rest_of_row ?l_rest_of_row ?c_rest_of_row ?k_rest_of_row ?a_first_row ?l_first_row ?c_first_row ?k_first_row ?a_least_most ?l_least_most ?c_least_most ?k_least_most ?a_bound_to_try ?l_bound_to_try ?c_bound_to_try ?k_bound_to_try ?a_how_many ?l_how_many ?c_how_many ?k_how_many ?a_first ?l_first ?c_first ?k_first ?a_least ?l_least ?c_least ?k_least ?a_law_cell ?l_law_cell ?c_law_cell ?k_law_cell ?a_law_mix ?l_law_mix ?c_law_mix ?k_law_mix ?a_law_whole ?l_law_whole ?c_law_whole ?k_law_whole ?a_law_web ?l_law_web ?c_law_web ?k_law_web ?a_law_lengths ?l_law_lengths ?c_law_lengths ?k_law_lengths ?a_law_gaps ?l_law_gaps ?c_law_gaps ?k_law_gaps ?a_law_measured ?l_law_measured ?c_law_measured ?k_law_measured ?a_law_all ?l_law_all ?c_law_all ?k_law_all ?a_law_refusal ?l_law_refusal ?c_law_refusal ?k_law_refusal ?a_law_told ?l_law_told ?c_law_told ?k_law_told ?a_law ?l_law ?c_law ?k_law ?a_LayError ?x_LayError ?a_BadWeb ?x_BadWeb ?e1_BadWeb ?e2_BadWeb ?e3_BadWeb ?e4_BadWeb ?e5_BadWeb ?e6_BadWeb ?s_BadWeb ?v_BadWeb ?a_BadOrder ?x_BadOrder ?e1_BadOrder ?e2_BadOrder ?e3_BadOrder ?e4_BadOrder ?e5_BadOrder ?e6_BadOrder ?s_BadOrder ?v_BadOrder ?a_BadSpot ?x_BadSpot ?e1_BadSpot ?e2_BadSpot ?e3_BadSpot ?e4_BadSpot ?e5_BadSpot ?e6_BadSpot ?s_BadSpot ?v_BadSpot ?a_BadKind ?x_BadKind ?e1_BadKind ?e2_BadKind ?e3_BadKind ?e4_BadKind ?e5_BadKind ?e6_BadKind ?s_BadKind ?v_BadKind ?a_BadText ?x_BadText ?e1_BadText ?e2_BadText ?e3_BadText ?e4_BadText ?e5_BadText ?e6_BadText ?s_BadText ?v_BadText ?i_BadWeb_BadWeb ?i_BadWeb_BadOrder ?i_BadWeb_BadSpot ?i_BadWeb_BadKind ?i_BadWeb_BadText ?i_BadOrder_BadWeb ?i_BadOrder_BadOrder ?i_BadOrder_BadSpot ?i_BadOrder_BadKind ?i_BadOrder_BadText ?i_BadSpot_BadWeb ?i_BadSpot_BadOrder ?i_BadSpot_BadSpot ?i_BadSpot_BadKind ?i_BadSpot_BadText ?i_BadKind_BadWeb ?i_BadKind_BadOrder ?i_BadKind_BadSpot ?i_BadKind_BadKind ?i_BadKind_BadText ?i_BadText_BadWeb ?i_BadText_BadOrder ?i_BadText_BadSpot ?i_BadText_BadKind ?i_BadText_BadText ?g_MOST_PLACES ?g_MOST_WEIGHT ?g_GREATEST_BOUND ?a_KINDS ?l_KINDS ?a_Walk ?a_Walk_init ?i_Walk_init ?l_Walk_init ?c_Walk_init ?k_Walk_init ?a_Walk_beginning ?i_Walk_beginning ?l_Walk_beginning ?c_Walk_beginning ?k_Walk_beginning ?a_Walk_last_then ?i_Walk_last_then ?l_Walk_last_then ?c_Walk_last_then ?k_Walk_last_then ?a_Walk_matters_then ?i_Walk_matters_then ?l_Walk_matters_then ?c_Walk_matters_then ?k_Walk_matters_then ?a_Walk_steps ?i_Walk_steps ?l_Walk_steps ?c_Walk_steps ?k_Walk_steps ?a_Walk_may_matter ?i_Walk_may_matter ?l_Walk_may_matter ?c_Walk_may_matter ?k_Walk_may_matter ?a_Walk_may_stand ?i_Walk_may_stand ?l_Walk_may_stand ?c_Walk_may_stand ?k_Walk_may_stand ?pg_Walk ?hd_Walk ?po_Walk ?sa_Walk ?mk_Walk ?kc_Walk ?n_Walk_bound ?n_Walk_every ?n_Walk_kind ?n_Walk_out ?n_Walk_places ?n_Walk_tied ?z_abs ?z_bool ?z_int ?z_isinstance ?z_len ?z_list ?z_max ?z_min ?z_range ?z_sorted ?z_sum ?z_tuple ?z_ValueError ?k_bool_bool ?k_bool_int ?k_bool_str ?k_bool_list ?k_bool_tuple ?k_int_bool ?k_int_int ?k_int_str ?k_int_list ?k_int_tuple ?k_str_bool ?k_str_int ?k_str_str ?k_str_list ?k_str_tuple ?k_list_bool ?k_list_int ?k_list_str ?k_list_list ?k_list_tuple ?k_tuple_bool ?k_tuple_int ?k_tuple_str ?k_tuple_list ?k_tuple_tuple
    (case a_wall => k_is)
    (case l_wall => k_is)
    (case c_wall => k_is)
    (case k_wall => k_is)
    (case a_set_count => k_is)
    (case l_set_count => k_is)
    (case c_set_count => k_is)
    (case k_set_count => k_is)
    (case a_holds => k_is)
    (case l_holds => k_is)
    (case c_holds => k_is)
    (case k_holds => k_is)
    (case a_set_of => k_is)
    (case l_set_of => k_is)
    (case c_set_of => k_is)
    (case k_set_of => k_is)
    (case a_place_fewer => k_is)
    (case l_place_fewer => k_is)
    (case c_place_fewer => k_is)
    (case k_place_fewer => k_is)
    (case a_least_before => k_is)
    (case l_least_before => k_is)
    (case c_least_before => k_is)
    (case k_least_before => k_is)
    (case a_leading_out => k_is)
    (case l_leading_out => k_is)
    (case c_leading_out => k_is)
    (case k_leading_out => k_is)
    (case a_neighbours => k_is)
    (case l_neighbours => k_is)
    (case c_neighbours => k_is)
    (case k_neighbours => k_is)
    (case a_is_whole => k_is)
    (case l_is_whole => k_is)
    (case c_is_whole => k_is)
    (case k_is_whole => k_is)
    (case a_is_within => k_is)
    (case l_is_within => k_is)
    (case c_is_within => k_is)
    (case k_is_within => k_is)
    (case a_is_tie => k_is)
    (case l_is_tie => k_is)
    (case c_is_tie => k_is)
    (case k_is_tie => k_is)
    (case a_look_ties => k_is)
    (case l_look_ties => k_is)
    (case c_look_ties => k_is)
    (case k_look_ties => k_is)
    (case a_look_web => k_is)
    (case l_look_web => k_is)
    (case c_look_web => k_is)
    (case k_look_web => k_is)
    (case a_look_kind => k_is)
    (case l_look_kind => k_is)
    (case c_look_kind => k_is)
    (case k_look_kind => k_is)
    (case a_prices => k_is)
    (case l_prices => k_is)
    (case c_prices => k_is)
    (case k_prices => k_is)
    (case a_least_total => k_is)
    (case l_least_total => k_is)
    (case c_least_total => k_is)
    (case k_least_total => k_is)
    (case a_look_asked => k_is)
    (case l_look_asked => k_is)
    (case c_look_asked => k_is)
    (case k_look_asked => k_is)
    (case a_layer_behind => k_is)
    (case l_layer_behind => k_is)
    (case c_layer_behind => k_is)
    (case k_layer_behind => k_is)
    (case a_layers => k_is)
    (case l_layers => k_is)
    (case c_layers => k_is)
    (case k_layers => k_is)
    (case a_rest_of_row => k_is)
    (case l_rest_of_row => k_is)
    (case c_rest_of_row => k_is)
    (case k_rest_of_row => k_is)
    (case a_first_row => k_is)
    (case l_first_row => k_is)
    (case c_first_row => k_is)
    (case k_first_row => k_is)
    (case a_least_most => k_is)
    (case l_least_most => k_is)
    (case c_least_most => k_is)
    (case k_least_most => k_is)
    (case a_bound_to_try => k_is)
    (case l_bound_to_try => k_is)
    (case c_bound_to_try => k_is)
    (case k_bound_to_try => k_is)
    (case a_how_many => k_is)
    (case l_how_many => k_is)
    (case c_how_many => k_is)
    (case k_how_many => k_is)
    (case a_first => k_is)
    (case l_first => k_is)
    (case c_first => k_is)
    (case k_first => k_is)
    (case a_least => k_is)
    (case l_least => k_is)
    (case c_least => k_is)
    (case k_least => k_is)
    (case a_law_cell => k_is)
    (case l_law_cell => k_is)
    (case c_law_cell => k_is)
    (case k_law_cell => k_is)
    (case a_law_mix => k_is)
    (case l_law_mix => k_is)
    (case c_law_mix => k_is)
    (case k_law_mix => k_is)
    (case a_law_whole => k_is)
    (case l_law_whole => k_is)
    (case c_law_whole => k_is)
    (case k_law_whole => k_is)
    (case a_law_web => k_is)
    (case l_law_web => k_is)
    (case c_law_web => k_is)
    (case k_law_web => k_is)
    (case a_law_lengths => k_is)
    (case l_law_lengths => k_is)
    (case c_law_lengths => k_is)
    (case k_law_lengths => k_is)
    (case a_law_gaps => k_is)
    (case l_law_gaps => k_is)
    (case c_law_gaps => k_is)
    (case k_law_gaps => k_is)
    (case a_law_measured => k_is)
    (case l_law_measured => k_is)
    (case c_law_measured => k_is)
    (case k_law_measured => k_is)
    (case a_law_all => k_is)
    (case l_law_all => k_is)
    (case c_law_all => k_is)
    (case k_law_all => k_is)
    (case a_law_refusal => k_is)
    (case l_law_refusal => k_is)
    (case c_law_refusal => k_is)
    (case k_law_refusal => k_is)
    (case a_law_told => k_is)
    (case l_law_told => k_is)
    (case c_law_told => k_is)
    (case k_law_told => k_is)
    (case a_law => k_is)
    (case l_law => k_is)
    (case c_law => k_is)
    (case k_law => k_is)
    (case a_LayError => k_is)
    (case x_LayError => k_exc)
    (case a_BadWeb => k_is)
    (case x_BadWeb => k_exc)
    (case e1_BadWeb => k_is)
    (case e2_BadWeb => k_is)
    (case e3_BadWeb => k_is)
    (case e4_BadWeb => k_is)
    (case e5_BadWeb => k_is)
    (case e6_BadWeb => k_is)
    (case s_BadWeb => k_is)
    (case v_BadWeb => kit_is)
    (case a_BadOrder => k_is)
    (case x_BadOrder => k_exc)
    (case e1_BadOrder => k_is)
    (case e2_BadOrder => k_is)
    (case e3_BadOrder => k_is)
    (case e4_BadOrder => k_is)
    (case e5_BadOrder => k_is)
    (case e6_BadOrder => k_is)
    (case s_BadOrder => k_is)
    (case v_BadOrder => kit_is)
    (case a_BadSpot => k_is)
    (case x_BadSpot => k_exc)
    (case e1_BadSpot => k_is)
    (case e2_BadSpot => k_is)
    (case e3_BadSpot => k_is)
    (case e4_BadSpot => k_is)
    (case e5_BadSpot => k_is)
    (case e6_BadSpot => k_is)
    (case s_BadSpot => k_is)
    (case v_BadSpot => kit_is)
    (case a_BadKind => k_is)
    (case x_BadKind => k_exc)
    (case e1_BadKind => k_is)
    (case e2_BadKind => k_is)
    (case e3_BadKind => k_is)
    (case e4_BadKind => k_is)
    (case e5_BadKind => k_is)
    (case e6_BadKind => k_is)
    (case s_BadKind => k_is)
    (case v_BadKind => kit_is)
    (case a_BadText => k_is)
    (case x_BadText => k_exc)
    (case e1_BadText => k_is)
    (case e2_BadText => k_is)
    (case e3_BadText => k_is)
    (case e4_BadText => k_is)
    (case e5_BadText => k_is)
    (case e6_BadText => k_is)
    (case s_BadText => k_is)
    (case v_BadText => kit_is)
    (case i_BadWeb_BadWeb => kit_is)
    (case i_BadWeb_BadOrder => kit_is)
    (case i_BadWeb_BadSpot => kit_is)
    (case i_BadWeb_BadKind => kit_is)
    (case i_BadWeb_BadText => kit_is)
    (case i_BadOrder_BadWeb => kit_is)
    (case i_BadOrder_BadOrder => kit_is)
    (case i_BadOrder_BadSpot => kit_is)
    (case i_BadOrder_BadKind => kit_is)
    (case i_BadOrder_BadText => kit_is)
    (case i_BadSpot_BadWeb => kit_is)
    (case i_BadSpot_BadOrder => kit_is)
    (case i_BadSpot_BadSpot => kit_is)
    (case i_BadSpot_BadKind => kit_is)
    (case i_BadSpot_BadText => kit_is)
    (case i_BadKind_BadWeb => kit_is)
    (case i_BadKind_BadOrder => kit_is)
    (case i_BadKind_BadSpot => kit_is)
    (case i_BadKind_BadKind => kit_is)
    (case i_BadKind_BadText => kit_is)
    (case i_BadText_BadWeb => kit_is)
    (case i_BadText_BadOrder => kit_is)
    (case i_BadText_BadSpot => kit_is)
    (case i_BadText_BadKind => kit_is)
    (case i_BadText_BadText => kit_is)
    (case g_MOST_PLACES => k_is)
    (case g_MOST_WEIGHT => k_is)
    (case g_GREATEST_BOUND => k_is)
    (case a_KINDS => k_is)
    (case l_KINDS => k_is)
    (case a_Walk => k_is)
    (case a_Walk_init => k_is)
    (case i_Walk_init => k_is)
    (case l_Walk_init => k_is)
    (case c_Walk_init => k_is)
    (case k_Walk_init => k_is)
    (case a_Walk_beginning => k_is)
    (case i_Walk_beginning => k_is)
    (case l_Walk_beginning => k_is)
    (case c_Walk_beginning => k_is)
    (case k_Walk_beginning => k_is)
    (case a_Walk_last_then => k_is)
    (case i_Walk_last_then => k_is)
    (case l_Walk_last_then => k_is)
    (case c_Walk_last_then => k_is)
    (case k_Walk_last_then => k_is)
    (case a_Walk_matters_then => k_is)
    (case i_Walk_matters_then => k_is)
    (case l_Walk_matters_then => k_is)
    (case c_Walk_matters_then => k_is)
    (case k_Walk_matters_then => k_is)
    (case a_Walk_steps => k_is)
    (case i_Walk_steps => k_is)
    (case l_Walk_steps => k_is)
    (case c_Walk_steps => k_is)
    (case k_Walk_steps => k_is)
    (case a_Walk_may_matter => k_is)
    (case i_Walk_may_matter => k_is)
    (case l_Walk_may_matter => k_is)
    (case c_Walk_may_matter => k_is)
    (case k_Walk_may_matter => k_is)
    (case a_Walk_may_stand => k_is)
    (case i_Walk_may_stand => k_is)
    (case l_Walk_may_stand => k_is)
    (case c_Walk_may_stand => k_is)
    (case k_Walk_may_stand => k_is)
    (case pg_Walk => k_is)
    (case hd_Walk => k_is)
    (case po_Walk => k_is)
    (case sa_Walk => k_is)
    (case mk_Walk => k_is)
    (case kc_Walk => k_is)
    (case n_Walk_bound => k_is)
    (case n_Walk_every => k_is)
    (case n_Walk_kind => k_is)
    (case n_Walk_out => k_is)
    (case n_Walk_places => k_is)
    (case n_Walk_tied => k_is)
    (case z_abs => k_is)
    (case z_bool => k_is)
    (case z_int => k_is)
    (case z_isinstance => k_is)
    (case z_len => k_is)
    (case z_list => k_is)
    (case z_max => k_is)
    (case z_min => k_is)
    (case z_range => k_is)
    (case z_sorted => k_is)
    (case z_sum => k_is)
    (case z_tuple => k_is)
    (case z_ValueError => k_is)
    (case k_bool_bool => kit_is)
    (case k_bool_int => kit_is)
    (case k_bool_str => kit_is)
    (case k_bool_list => kit_is)
    (case k_bool_tuple => kit_is)
    (case k_int_bool => kit_is)
    (case k_int_int => kit_is)
    (case k_int_str => kit_is)
    (case k_int_list => kit_is)
    (case k_int_tuple => kit_is)
    (case k_str_bool => kit_is)
    (case k_str_int => kit_is)
    (case k_str_str => kit_is)
    (case k_str_list => kit_is)
    (case k_str_tuple => kit_is)
    (case k_list_bool => kit_is)
    (case k_list_int => kit_is)
    (case k_list_str => kit_is)
    (case k_list_list => kit_is)
    (case k_list_tuple => kit_is)
    (case k_tuple_bool => kit_is)
    (case k_tuple_int => kit_is)
    (case k_tuple_str => kit_is)
    (case k_tuple_list => kit_is)
    (case k_tuple_tuple => kit_is)
