/- Drawn regions in which two blocks are made, at whatever time, beside a chain of calls. No condition. -/
import Derived.Test.YtgncjcnobojgbaaB3
import Derived.Test.YtgncjcnobojgbaaB1
namespace Go.Proofs.Ytgncjcnobojgbaa
open Go.RowKit
set_option linter.unusedVariables false

/-- Two operations that make a block each: their numbers, their slots, the blocks. -/
structure Two where
  i1 : Nat
  i2 : Nat
  d1 : Nat
  d2 : Nat
  T1 : TypeId
  T2 : TypeId
  z1 : Array Value
  z2 : Array Value
/-- A block that may have been made already. -/
inductive Al (T : TypeId) (z : Array Value) : Bool → Value → List Res → Prop where
  | no : Al T z false undef []
  | yes (g : Nat) : Al T z true (.pointer (some ⟨g, 0, none⟩)) [.blk g T z]
def put2 (q : Two) (a : Act) (x1 x2 : Value) : Act := { a with tmps := (a.tmps.setIfInBounds q.d1 x1).setIfInBounds q.d2 x2 }
def list2 (q : Two) (L : Array Bool) (b1 b2 : Bool) : Array Bool := (L.setIfInBounds q.i1 b1).setIfInBounds q.i2 b2
theorem set_swap {α : Type} (L : Array α) {i j : Nat} (h : i ≠ j) (x y : α) : (L.setIfInBounds i x).setIfInBounds j y = (L.setIfInBounds j y).setIfInBounds i x := by
  apply Array.ext'
  simp only [Array.toList_setIfInBounds]
  exact List.set_comm _ _ h
theorem set_over {α : Type} (L : Array α) (i : Nat) (x y : α) : (L.setIfInBounds i x).setIfInBounds i y = L.setIfInBounds i y := by
  apply Array.ext'
  simp only [Array.toList_setIfInBounds]
  exact List.set_set _

section
variable {P : Program} {Q : Exit → Act → World → Prop} {md : Region.Mode} {S : World → Prop} {ks : List Nat} {l : List Oper} {q : Two} {S0 : List Nat} {w0 : World}
theorem list2_1 (L : Array Bool) (b2 : Bool) (h : q.i1 ≠ q.i2) : (list2 q L false b2).setIfInBounds q.i1 true = list2 q L true b2 := by
  unfold list2
  rw [set_swap _ (Ne.symm h), set_over]
theorem list2_2 (L : Array Bool) (b1 : Bool) : (list2 q L b1 false).setIfInBounds q.i2 true = list2 q L b1 true := by
  unfold list2
  rw [set_over]
theorem list2_c (L : Array Bool) (b1 b2 : Bool) {c : Nat} (h1 : q.i1 ≠ c) (h2 : q.i2 ≠ c) : (list2 q L b1 b2).setIfInBounds c true = list2 q (L.setIfInBounds c true) b1 b2 := by
  unfold list2
  rw [set_swap _ h2, set_swap _ h1]
theorem put2_1 (a : Act) (x x1 x2 : Value) (h : q.d1 ≠ q.d2) : (put2 q a x x2).put (some q.d1) x1 = put2 q a x1 x2 := by
  unfold put2 Act.put
  simp only
  rw [set_swap _ (Ne.symm h), set_over]
theorem put2_2 (a : Act) (x x1 x2 : Value) : (put2 q a x1 x).put (some q.d2) x2 = put2 q a x1 x2 := by
  unfold put2 Act.put
  simp only
  rw [set_over]
theorem put2_c (a : Act) (x1 x2 v : Value) {d : Nat} (h1 : q.d1 ≠ d) (h2 : q.d2 ≠ d) : (put2 q a x1 x2).put (some d) v = put2 q (a.put (some d) v) x1 x2 := by
  unfold put2 Act.put
  simp only
  rw [set_swap _ h2, set_swap _ h1]
/-- The region goes on rightly from here, whichever of the two blocks has been made. -/
def wpA (P : Program) (md : Region.Mode) (l : List Oper) (Q : Exit → Act → World → Prop) (S : World → Prop) (ks : List Nat) (q : Two) (S0 : List Nat) (w0 : World) (n : Nat) (L : Array Bool) (a : Act) (rs : List Res) : Prop :=
  ∀ (b1 b2 : Bool) (x1 x2 : Value) (e1 e2 : List Res) (W : World), Al q.T1 q.z1 b1 x1 e1 → Al q.T2 q.z2 b2 x2 e2 → Sep S0 w0 W (e1 ++ (e2 ++ rs)) →
    wpAnyT P md l.toArray Q S ks (n + ((!b1).toNat + (!b2).toNat)) (list2 q L b1 b2) (put2 q a x1 x2) W
theorem wpA_start {n : Nat} {L : Array Bool} {a : Act} {rs : List Res} {W : World} (hL : list2 q L false false = L) (ha : put2 q a undef undef = a) (M : Sep S0 w0 W rs) (h : wpA P md l Q S ks q S0 w0 n L a rs) : wpAnyT P md l.toArray Q S ks (n + 2) L a W := by
  have h1 := h false false undef undef [] [] W .no .no M
  rw [hL, ha] at h1
  exact h1
/-- What the two operations are. -/
structure Makes (P : Program) (l : List Oper) (q : Two) : Prop where
  ne : q.i1 ≠ q.i2
  dn : q.d1 ≠ q.d2
  one : ∃ o, l[q.i1]? = some o ∧ o.guard = none ∧ o.dst = some q.d1 ∧ ∀ (a : Act) (W : World), (execOp a.eval o).run P W = .ok (.value (.pointer (some ⟨W.heap.size, 0, none⟩))) (W.alloc (.cells q.z1 q.T1))
  two : ∃ o, l[q.i2]? = some o ∧ o.guard = none ∧ o.dst = some q.d2 ∧ ∀ (a : Act) (W : World), (execOp a.eval o).run P W = .ok (.value (.pointer (some ⟨W.heap.size, 0, none⟩))) (W.alloc (.cells q.z2 q.T2))
theorem wpA_startH {n : Nat} {L : Array Bool} {a : Act} {rs : List Res} {W : World} (hL : list2 q L false false = L) (ha : put2 q a undef undef = a) (M : Sep S0 w0 W rs) (H : Makes P l q) (h : Makes P l q → wpA P md l Q S ks q S0 w0 n L a rs) : wpAnyT P md l.toArray Q S ks (n + 2) L a W := wpA_start hL ha M (h H)
theorem wpOp_go {i : Nat} {o : Oper} {K : Act → World → Prop} {a : Act} {W : World} (ho : l[i]? = some o) (hg : o.guard = none) (h : o.wp P a W K Q) : wpOp P l.toArray Q i K a W := by
  have ho' : l.toArray[i]? = some o := by simpa using ho
  unfold wpOp
  rw [ho']
  simp only [Region.wanted, hg, if_true]
  exact .inl h
theorem wpOp_value {i : Nat} {o : Oper} {K : Act → World → Prop} {a : Act} {W W' : World} {v : Value} (ho : l[i]? = some o) (hg : o.guard = none) (hr : (execOp a.eval o).run P W = .ok (.value v) W') (h : K (a.put o.dst v) W') : wpOp P l.toArray Q i K a W := by
  refine wpOp_go ho hg ?_
  unfold Oper.wp
  rw [hr]
  exact h
theorem wpOp_calls {i : Nat} {o : Oper} {K : Act → World → Prop} {a : Act} {W : World} {f : FuncId} {args : Array Value} (ho : l[i]? = some o) (hg : o.guard = none) (hr : (execOp a.eval o).run P W = .ok (.enter f args) W) (h : Calls P f args W fun r W' => ∃ v, r = .returned v ∧ K (a.put o.dst v) W') : wpOp P l.toArray Q i K a W := by
  refine wpOp_go ho hg ?_
  unfold Oper.wp
  rw [hr]
  refine h.mono ?_
  rintro r W' ⟨v, rfl, hK⟩
  exact hK
/-- One of the two blocks is made: what is left is asked with it there. -/
theorem made1 (H : Makes P l q) {m : Nat} {L : Array Bool} {a : Act} {x2 : Value} {rs : List Res} {W : World} (hS : ∀ V e, Sep S0 w0 V (e ++ rs) → S V) (M : Sep S0 w0 W rs) (h : ∀ g V, Sep S0 w0 V (.blk g q.T1 q.z1 :: rs) → wpAnyT P md l.toArray Q S ks m L (put2 q a (.pointer (some ⟨g, 0, none⟩)) x2) V) :
    wpOp P l.toArray Q q.i1 (fun a' w' => (calmB ks L = true → S w') ∧ wpAnyT P md l.toArray Q S ks m L a' w') (put2 q a undef x2) W := by
  obtain ⟨o, ho, hg, hd, hx⟩ := H.one
  refine wpOp_value ho hg (hx _ _) ?_
  have M1 := M.allocN q.T1 q.z1
  refine ⟨fun _ => hS _ [_] M1, ?_⟩
  rw [hd, put2_1 _ _ _ _ H.dn]
  exact h _ _ M1
theorem made2 (H : Makes P l q) {m : Nat} {L : Array Bool} {a : Act} {x1 : Value} {rs : List Res} {W : World} (hS : ∀ V e, Sep S0 w0 V (e ++ rs) → S V) (M : Sep S0 w0 W rs) (h : ∀ g V, Sep S0 w0 V (.blk g q.T2 q.z2 :: rs) → wpAnyT P md l.toArray Q S ks m L (put2 q a x1 (.pointer (some ⟨g, 0, none⟩))) V) :
    wpOp P l.toArray Q q.i2 (fun a' w' => (calmB ks L = true → S w') ∧ wpAnyT P md l.toArray Q S ks m L a' w') (put2 q a x1 undef) W := by
  obtain ⟨o, ho, hg, hd, hx⟩ := H.two
  refine wpOp_value ho hg (hx _ _) ?_
  have M1 := M.allocN q.T2 q.z2
  refine ⟨fun _ => hS _ [_] M1, ?_⟩
  rw [hd, put2_2]
  exact h _ _ M1
/-- The chain's next operation, beside the two. -/
theorem wpA_step (H : Makes P l q) {c n : Nat} {L : Array Bool} {a : Act} {rs : List Res} (h1 : q.i1 ≠ c) (h2 : q.i2 ≠ c)
    (hr : ∀ b1 b2, Region.ready md l.toArray (list2 q L b1 b2) = c :: ((if b1 then [] else [q.i1]) ++ (if b2 then [] else [q.i2])))
    (hS : ∀ V e, Sep S0 w0 V (e ++ rs) → S V)
    (hc : ∀ (b1 b2 : Bool) (x1 x2 : Value) (e1 e2 : List Res) (W : World), Al q.T1 q.z1 b1 x1 e1 → Al q.T2 q.z2 b2 x2 e2 → Sep S0 w0 W (e1 ++ (e2 ++ rs)) →
      wpOp P l.toArray Q c (fun a' w' => (calmB ks (list2 q (L.setIfInBounds c true) b1 b2) = true → S w') ∧ wpAnyT P md l.toArray Q S ks (n + ((!b1).toNat + (!b2).toNat)) (list2 q (L.setIfInBounds c true) b1 b2) a' w') (put2 q a x1 x2) W) :
    wpA P md l Q S ks q S0 w0 (n + 1) L a rs := by
  have hc' : ∀ (b1 b2 : Bool) (x1 x2 : Value) (e1 e2 : List Res) (W : World), Al q.T1 q.z1 b1 x1 e1 → Al q.T2 q.z2 b2 x2 e2 → Sep S0 w0 W (e1 ++ (e2 ++ rs)) →
      wpOp P l.toArray Q c (fun a' w' => (calmB ks ((list2 q L b1 b2).setIfInBounds c true) = true → S w') ∧ wpAnyT P md l.toArray Q S ks (n + ((!b1).toNat + (!b2).toNat)) ((list2 q L b1 b2).setIfInBounds c true) a' w') (put2 q a x1 x2) W := by
    intro b1 b2 x1 x2 e1 e2 W hA hB M
    rw [list2_c _ _ _ h1 h2]
    exact hc b1 b2 x1 x2 e1 e2 W hA hB M
  have tt : ∀ (g1 g2 : Nat) (W : World), Sep S0 w0 W (.blk g1 q.T1 q.z1 :: .blk g2 q.T2 q.z2 :: rs) → wpAnyT P md l.toArray Q S ks (n + 1) (list2 q L true true) (put2 q a (.pointer (some ⟨g1, 0, none⟩)) (.pointer (some ⟨g2, 0, none⟩))) W := by
    intro g1 g2 W M
    refine ⟨fun h0 => (by rw [hr] at h0; cases h0), fun i hi => ?_⟩
    rw [hr] at hi
    simp only [if_true, List.append_nil, List.mem_singleton] at hi
    subst hi
    exact hc' true true _ _ _ _ W (.yes g1) (.yes g2) M
  have tf : ∀ (g1 : Nat) (W : World), Sep S0 w0 W (.blk g1 q.T1 q.z1 :: rs) → wpAnyT P md l.toArray Q S ks (n + 2) (list2 q L true false) (put2 q a (.pointer (some ⟨g1, 0, none⟩)) undef) W := by
    intro g1 W M
    refine ⟨fun h0 => (by rw [hr] at h0; cases h0), fun i hi => ?_⟩
    rw [hr] at hi
    simp only [if_true, Bool.false_eq_true, if_false, List.nil_append, List.mem_cons, List.not_mem_nil, or_false] at hi
    rcases hi with rfl | rfl
    · exact hc' true false _ _ _ _ W (.yes g1) .no M
    · rw [list2_2]
      exact made2 H (rs := .blk g1 q.T1 q.z1 :: rs) (fun V e hM => hS V (e ++ [.blk g1 q.T1 q.z1]) (by simpa using hM)) M (fun g V hM => tt g1 g V (hM.perm (List.Perm.swap ..)))
  have ft : ∀ (g2 : Nat) (W : World), Sep S0 w0 W (.blk g2 q.T2 q.z2 :: rs) → wpAnyT P md l.toArray Q S ks (n + 2) (list2 q L false true) (put2 q a undef (.pointer (some ⟨g2, 0, none⟩))) W := by
    intro g2 W M
    refine ⟨fun h0 => (by rw [hr] at h0; cases h0), fun i hi => ?_⟩
    rw [hr] at hi
    simp only [if_true, Bool.false_eq_true, if_false, List.append_nil, List.mem_cons, List.not_mem_nil, or_false] at hi
    rcases hi with rfl | rfl
    · exact hc' false true _ _ _ _ W .no (.yes g2) M
    · rw [list2_1 _ _ H.ne]
      exact made1 H (rs := .blk g2 q.T2 q.z2 :: rs) (fun V e hM => hS V (e ++ [.blk g2 q.T2 q.z2]) (by simpa using hM)) M (fun g V hM => tt g g2 V hM)
  have ff : ∀ (W : World), Sep S0 w0 W rs → wpAnyT P md l.toArray Q S ks (n + 3) (list2 q L false false) (put2 q a undef undef) W := by
    intro W M
    refine ⟨fun h0 => (by rw [hr] at h0; cases h0), fun i hi => ?_⟩
    rw [hr] at hi
    simp only [Bool.false_eq_true, if_false, List.cons_append, List.nil_append, List.mem_cons, List.not_mem_nil, or_false] at hi
    rcases hi with rfl | rfl | rfl
    · exact hc' false false _ _ _ _ W .no .no M
    · rw [list2_1 _ _ H.ne]
      exact made1 H hS M (fun g V hM => tf g V hM)
    · rw [list2_2]
      exact made2 H hS M (fun g V hM => ft g V hM)
  intro b1 b2 x1 x2 e1 e2 W hA hB M
  cases hA <;> cases hB
  · exact ff W M
  · exact ft _ W M
  · exact tf _ W M
  · exact tt _ _ W M
/-- The chain is at its end: what is left of the two is made. -/
theorem wpA_end (H : Makes P l q) {n : Nat} {L : Array Bool} {a : Act} {rs : List Res}
    (hr : ∀ b1 b2, (b1 && b2) = false → Region.ready md l.toArray (list2 q L b1 b2) = (if b1 then [] else [q.i1]) ++ (if b2 then [] else [q.i2]))
    (hS : ∀ V e, Sep S0 w0 V (e ++ rs) → S V)
    (tt : ∀ (g1 g2 : Nat) (W : World), Sep S0 w0 W (.blk g1 q.T1 q.z1 :: .blk g2 q.T2 q.z2 :: rs) → wpAnyT P md l.toArray Q S ks n (list2 q L true true) (put2 q a (.pointer (some ⟨g1, 0, none⟩)) (.pointer (some ⟨g2, 0, none⟩))) W) :
    wpA P md l Q S ks q S0 w0 n L a rs := by
  have tf : ∀ (g1 : Nat) (W : World), Sep S0 w0 W (.blk g1 q.T1 q.z1 :: rs) → wpAnyT P md l.toArray Q S ks (n + 1) (list2 q L true false) (put2 q a (.pointer (some ⟨g1, 0, none⟩)) undef) W := by
    intro g1 W M
    refine ⟨fun h0 => (by rw [hr _ _ rfl] at h0; simp at h0), fun i hi => ?_⟩
    rw [hr _ _ rfl] at hi
    simp only [if_true, Bool.false_eq_true, if_false, List.nil_append, List.mem_cons, List.not_mem_nil, or_false] at hi
    subst hi
    rw [list2_2]
    exact made2 H (rs := .blk g1 q.T1 q.z1 :: rs) (fun V e hM => hS V (e ++ [.blk g1 q.T1 q.z1]) (by simpa using hM)) M (fun g V hM => tt g1 g V (hM.perm (List.Perm.swap ..)))
  have ft : ∀ (g2 : Nat) (W : World), Sep S0 w0 W (.blk g2 q.T2 q.z2 :: rs) → wpAnyT P md l.toArray Q S ks (n + 1) (list2 q L false true) (put2 q a undef (.pointer (some ⟨g2, 0, none⟩))) W := by
    intro g2 W M
    refine ⟨fun h0 => (by rw [hr _ _ rfl] at h0; simp at h0), fun i hi => ?_⟩
    rw [hr _ _ rfl] at hi
    simp only [if_true, Bool.false_eq_true, if_false, List.append_nil, List.mem_cons, List.not_mem_nil, or_false] at hi
    subst hi
    rw [list2_1 _ _ H.ne]
    exact made1 H (rs := .blk g2 q.T2 q.z2 :: rs) (fun V e hM => hS V (e ++ [.blk g2 q.T2 q.z2]) (by simpa using hM)) M (fun g V hM => tt g g2 V hM)
  have ff : ∀ (W : World), Sep S0 w0 W rs → wpAnyT P md l.toArray Q S ks (n + 2) (list2 q L false false) (put2 q a undef undef) W := by
    intro W M
    refine ⟨fun h0 => (by rw [hr _ _ rfl] at h0; simp at h0), fun i hi => ?_⟩
    rw [hr _ _ rfl] at hi
    simp only [Bool.false_eq_true, if_false, List.cons_append, List.nil_append, List.mem_cons, List.not_mem_nil, or_false] at hi
    rcases hi with rfl | rfl
    · rw [list2_1 _ _ H.ne]
      exact made1 H hS M (fun g V hM => tf g V hM)
    · rw [list2_2]
      exact made2 H hS M (fun g V hM => ft g V hM)
  intro b1 b2 x1 x2 e1 e2 W hA hB M
  cases hA <;> cases hB
  · exact ff W M
  · exact ft _ W M
  · exact tf _ W M
  · exact tt _ _ W M
/-- A call. -/
theorem wpA_call (H : Makes P l q) {c n d : Nat} {oc : Oper} {L : Array Bool} {a : Act} {rs : List Res} {f : FuncId} {args : Array Value} (Nx : Value → List Res → Prop) (hoc : l[c]? = some oc) (hg : oc.guard = none) (hd : oc.dst = some d) (h1 : q.i1 ≠ c) (h2 : q.i2 ≠ c) (h3 : q.d1 ≠ d) (h4 : q.d2 ≠ d)
    (hr : ∀ b1 b2, Region.ready md l.toArray (list2 q L b1 b2) = c :: ((if b1 then [] else [q.i1]) ++ (if b2 then [] else [q.i2])))
    (hS : ∀ V e, Sep S0 w0 V (e ++ rs) → S V)
    (hx : ∀ x1 x2 W, (execOp (put2 q a x1 x2).eval oc).run P W = .ok (.enter f args) W)
    (hcall : ∀ W, Sep S0 w0 W rs → Calls P f args W fun r W' => ∃ v new, r = .returned v ∧ Sep [] W W' new ∧ Nx v new)
    (hnext : ∀ v new, Nx v new → wpA P md l Q S ks q S0 w0 n (L.setIfInBounds c true) (a.put (some d) v) (new ++ rs)) :
    wpA P md l Q S ks q S0 w0 (n + 1) L a rs := by
  refine wpA_step H h1 h2 hr hS ?_
  intro b1 b2 x1 x2 e1 e2 W hA hB M
  refine wpOp_calls hoc hg (hx _ _ _) ?_
  refine (hcall W (M.sub (by rw [← List.append_assoc]; exact List.sublist_append_right _ _))).mono ?_
  rintro r W' ⟨v, new, rfl, k, hN⟩
  have M1 : Sep S0 w0 W' (e1 ++ (e2 ++ (new ++ rs))) := (Sep.new M k).perm (by
    have p1 : (new ++ (e1 ++ (e2 ++ rs))).Perm (e1 ++ (new ++ (e2 ++ rs))) := List.perm_append_comm_assoc ..
    have p2 : (new ++ (e2 ++ rs)).Perm (e2 ++ (new ++ rs)) := List.perm_append_comm_assoc ..
    exact p1.trans (List.Perm.append_left e1 p2))
  refine ⟨v, rfl, fun _ => hS W' (e1 ++ (e2 ++ new)) (by simpa using M1), ?_⟩
  rw [hd, put2_c _ _ _ _ h3 h4]
  exact hnext v new hN b1 b2 x1 x2 e1 e2 W' hA hB M1
/-- An operation that yields a value in whatever world is taken first. -/
theorem wpA_take {c n d : Nat} {oc : Oper} {L : Array Bool} {a : Act} {rs : List Res} {v : Value} (hoc : l[c]? = some oc) (hg : oc.guard = none) (hd : oc.dst = some d) (h1 : q.i1 ≠ c) (h2 : q.i2 ≠ c) (h3 : q.d1 ≠ d) (h4 : q.d2 ≠ d)
    (hs : Region.noSelect l.toArray = true) (hf : ∀ b1 b2, Region.free md l.toArray (list2 q L b1 b2) c = true) (hr : ∀ b1 b2, (Region.ready md l.toArray (list2 q L b1 b2)).contains c = true) (hk : ks.contains c = false)
    (hQ : ∀ c' a' w', Q (.panic c') (a'.put oc.dst v) w' → Q (.panic c') a' w')
    (hS : ∀ V e, Sep S0 w0 V (e ++ rs) → S V)
    (hx : ∀ x1 x2 W, (execOp (put2 q a x1 x2).eval oc).run P W = .ok (.value v) W)
    (hnext : wpA P md l Q S ks q S0 w0 n (L.setIfInBounds c true) (a.put (some d) v) rs) :
    wpA P md l Q S ks q S0 w0 (n + 1) L a rs := by
  intro b1 b2 x1 x2 e1 e2 W hA hB M
  have h := hnext b1 b2 x1 x2 e1 e2 W hA hB M
  rw [← put2_c _ _ _ _ h3 h4, ← list2_c _ _ _ h1 h2, ← hd] at h
  have h5 := wpAnyT_takeY (S := S) hoc hs (hf b1 b2) (hr b1 b2) hk hQ (by simp only [Region.wanted, hg]) (hx x1 x2) (fun _ => hS W (e1 ++ e2) (by simpa using M)) h
  rw [Nat.add_right_comm] at h5
  exact h5
end
end Go.Proofs.Ytgncjcnobojgbaa
