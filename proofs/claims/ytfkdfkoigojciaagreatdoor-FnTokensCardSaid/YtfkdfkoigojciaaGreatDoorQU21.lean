import Derived.Test.YtfkdfkoigojciaaGreatDoorQU20
import Derived.Test.YtfkdfkoigojciaaGreatDoorQU13
import Derived.Test.YtfkdfkoigojciaaGreatDoorQU19
import Derived.Test.YtfkdfkoigojciaaGreatDoorQU06

namespace Go.Proofs.YtfkdfkoigojciaaGreatDoor
open Go.RowKit
set_option linter.unusedVariables false
set_option maxHeartbeats 800000
set_option maxRecDepth 100000
theorem newTask_p (lv tn : Int) (w : World) :
 Calls Tryz.prog 147 #[.int .i64 lv, .int .i64 tn] w fun r w' => r = .returned (.agg #[.int .i64 1, .int .i64 lv, .int .i64 (-1), .int .i64 0, .int .i64 0, .int .i64 0, .int .i64 tn]) ∧ Below w.heap.size w w' := by
 go_enter Tryz.func147, Tryz.ntmps147
 go_wp2
 exact bodyPost_ret (v := .agg #[.int .i64 1, .int .i64 lv, .int .i64 (-1), .int .i64 0, .int .i64 0, .int .i64 0, .int .i64 tn]) (by simp [results, Tryz.results147, go_sem]) rfl ⟨rfl, by go_grown⟩
theorem wp_append_sep {P : Program} {w : World} {o : Oper} {a : Act} {y : Nat → Option Bool} {K : Act → World → Prop} {Q : Exit → Act → World → Prop} {R : Prop} (hgd : o.guard = none) (s x : Operand) (t : TypeId)
 (ho : o.op = .call { callee := .builtin .append, args := #[s, x], argTypes := #[t, t] })
 (e : TypeId) (i : TypeInfo) (z : Value) (size bytes : Nat) (ht : P.underlying t = some (.slice e)) (hi : P.info? e = some i) (hz : i.zero = some z)
 (hsize : i.size = size) (hby : i.bytes = bytes) (hzs : z.cells.size = size) (hsz : 0 < size)
 (A : Option Addr) (n c : Nat) (xs : List Value) (hs : a.eval s = .slice A n c) (hown : w.ownsRow 0 e size (.slice A n c) n xs)
 (sp : Addr) (m cc : Nat) (news : List Value) (hx : a.eval x = .slice (some sp) m cc) (hl : news.length = m * size) (hrow : Row w (some sp) news) (hne : 0 < news.length) (h1 : ∀ u ∈ news, u.oneCell' = true)
 (h63 : n + m ≤ maxLen) (hbytes : (n + m) * bytes ≤ 140737488355328)
 (h : ∀ A' c' w', Sep (fps [.row e size (.slice A n c) n xs]) w w' [.row e size (.slice A' (n + m) c') (n + m) (xs ++ news)] → K (a.put o.dst (.slice A' (n + m) c')) w') : if Region.wanted o y = true then Oper.wp P o a w K Q else R := by
 obtain ⟨A', c', w', hrun, r1⟩ := run_append_sep (P := P) (w := w) t o.type e i z size bytes ht hi hz hsize hby hzs hsz A n c xs hown sp m cc news hl hrow hne h1 h63 hbytes
 rw [if_pos (by simp only [Region.wanted, hgd])]
 unfold Oper.wp
 simp [execOp, ho, resolve, invoke, builtin, hs, hx, hrun, Result.andThen]
 exact h A' c' w' r1
theorem Blk.row {W : World} {g : Nat} {t : TypeId} {cs : List Value} (h : Blk W g t cs.toArray) : Row W (some ⟨g, 0, none⟩) cs := fun _ => ⟨g, 0, rfl, fun j u hu => by
 have h1 := h.cell j
 rw [Nat.zero_add, h1]
 simpa using hu⟩
theorem tcells_snoc2 (ts : List T7) (x : T7) : tcells ts ++ x.cs = tcells (ts ++ [x]) := by simp [tcells]
theorem spawn_level (ts : List T7) (ks : List Int) (fs : List F2) (A0 A1 A2 : Option Addr) (c0 c1 c2 : Nat) (tn : Int) (st : Bool) (g : Nat) (a b c d e lv : Int) (w : World) (ht : ts.length ≤ 1048576) (hk : ks.length ≤ 1048576) (hf : fs.length ≤ 1048576) (h : Sep (fps [.blk g 35 #[.slice A0 ts.length c0, .slice A1 ks.length c1, .slice A2 fs.length c2, .int .i64 tn, .bool st], rT ts.length A0 c0 ts, rK ks.length A1 c1 ks, rF fs.length A2 c2 fs]) w w [.blk g 35 #[.slice A0 ts.length c0, .slice A1 ks.length c1, .slice A2 fs.length c2, .int .i64 tn, .bool st], rT ts.length A0 c0 ts, rK ks.length A1 c1 ks, rF fs.length A2 c2 fs]) (pl1 : 1 ≤ c) (pl2 : c ≤ 30) (hlv : btw lv 0 (c - 1) = false) :
 Calls Tryz.prog 87 #[.pointer (some ⟨g, 0, none⟩), .agg #[.int .i64 a, .int .i64 b, .int .i64 c, .int .i64 d, .int .i64 e], .int .i64 lv] w (fun r w' => r = .panicked [{ v := .iface 137 (.int .i64 8), recovered := false }] ∧ Sep (fps [.blk g 35 #[.slice A0 ts.length c0, .slice A1 ks.length c1, .slice A2 fs.length c2, .int .i64 tn, .bool st], rT ts.length A0 c0 ts, rK ks.length A1 c1 ks, rF fs.length A2 c2 fs]) w w' []) := by
 obtain ⟨S, hS⟩ : ∃ S, S = fps [.blk g 35 #[.slice A0 ts.length c0, .slice A1 ks.length c1, .slice A2 fs.length c2, .int .i64 tn, .bool st], rT ts.length A0 c0 ts, rK ks.length A1 c1 ks, rF fs.length A2 c2 fs] := ⟨_, rfl⟩
 rw [← hS] at h ⊢
 clear hS
 have M0 := hide h
 clear h
 go_enter Tryz.func87, Tryz.ntmps87
 go_wp2_with fail
 have M := (M0.out.alloc 28 #[.int .i64 a, .int .i64 b, .int .i64 c, .int .i64 d, .int .i64 e] w.heap.size rfl).alloc 38 #[.int .i64 0, .int .i64 0] (w.heap.size + 1) (by simp)
 clear M0
 generalize (w.alloc (.cells #[.int .i64 a, .int .i64 b, .int .i64 c, .int .i64 d, .int .i64 e] 28)).alloc (.cells #[.int .i64 0, .int .i64 0] 38) = W1 at M ⊢
 obtain ⟨tR, Ab, Af, Aa, Al⟩ := M.f2 0 rfl
 obtain ⟨tP, As, Aq, Ap, Av, Aw, Ar, Au, Ax, Ao, At⟩ := M.f5 1 rfl
 obtain ⟨tY, Ad, Ai, Am, Aj, An, Ak, Ah, Ac, Ag, Ae⟩ := M.f5 2 rfl
 go_wp2_with fail
 have hW := hasLevel_any a b c d e lv W1 pl1 pl2
 rw [hlv] at hW
 refine Calls.mono (by with_reducible exact hW) ?_
 clear hW
 rintro r W2 ⟨rfl, g1⟩
 clear tR Ab Af Aa Al tP As Aq Ap Av Aw Ar Au Ax Ao At tY Ad Ai Am Aj An Ak Ah Ac Ag Ae
 replace M := M.call g1
 clear g1
 obtain ⟨tR, Ab, Af, Aa, Al⟩ := M.f2 0 rfl
 obtain ⟨tP, As, Aq, Ap, Av, Aw, Ar, Au, Ax, Ao, At⟩ := M.f5 1 rfl
 obtain ⟨tY, Ad, Ai, Am, Aj, An, Ak, Ah, Ac, Ag, Ae⟩ := M.f5 2 rfl
 go_wp2_with fail
 go_call (giveUp_yes 8 _) as r W ⟨rfl, rfl⟩
 clear tR Ab Af Aa Al tP As Aq Ap Av Aw Ar Au Ax Ao At tY Ad Ai Am Aj An Ak Ah Ac Ag Ae
 go_wp2_with fail
 exact ⟨rfl, rfl, M.drop 6⟩
theorem spawn_stop (ts : List T7) (ks : List Int) (fs : List F2) (A0 A1 A2 : Option Addr) (c0 c1 c2 : Nat) (tn : Int) (g : Nat) (a b c d e lv : Int) (w : World) (ht : ts.length ≤ 1048576) (hk : ks.length ≤ 1048576) (hf : fs.length ≤ 1048576) (h : Sep (fps [.blk g 35 #[.slice A0 ts.length c0, .slice A1 ks.length c1, .slice A2 fs.length c2, .int .i64 tn, .bool true], rT ts.length A0 c0 ts, rK ks.length A1 c1 ks, rF fs.length A2 c2 fs]) w w [.blk g 35 #[.slice A0 ts.length c0, .slice A1 ks.length c1, .slice A2 fs.length c2, .int .i64 tn, .bool true], rT ts.length A0 c0 ts, rK ks.length A1 c1 ks, rF fs.length A2 c2 fs]) (pl1 : 1 ≤ c) (pl2 : c ≤ 30) (hlv : btw lv 0 (c - 1) = true) :
 Calls Tryz.prog 87 #[.pointer (some ⟨g, 0, none⟩), .agg #[.int .i64 a, .int .i64 b, .int .i64 c, .int .i64 d, .int .i64 e], .int .i64 lv] w (fun r w' => r = .panicked [{ v := .iface 137 (.int .i64 6), recovered := false }] ∧ Sep (fps [.blk g 35 #[.slice A0 ts.length c0, .slice A1 ks.length c1, .slice A2 fs.length c2, .int .i64 tn, .bool true], rT ts.length A0 c0 ts, rK ks.length A1 c1 ks, rF fs.length A2 c2 fs]) w w' []) := by
 obtain ⟨S, hS⟩ : ∃ S, S = fps [.blk g 35 #[.slice A0 ts.length c0, .slice A1 ks.length c1, .slice A2 fs.length c2, .int .i64 tn, .bool true], rT ts.length A0 c0 ts, rK ks.length A1 c1 ks, rF fs.length A2 c2 fs] := ⟨_, rfl⟩
 rw [← hS] at h ⊢
 clear hS
 have M0 := hide h
 clear h
 go_enter Tryz.func87, Tryz.ntmps87
 go_wp2_with fail
 have M := (M0.out.alloc 28 #[.int .i64 a, .int .i64 b, .int .i64 c, .int .i64 d, .int .i64 e] w.heap.size rfl).alloc 38 #[.int .i64 0, .int .i64 0] (w.heap.size + 1) (by simp)
 clear M0
 generalize (w.alloc (.cells #[.int .i64 a, .int .i64 b, .int .i64 c, .int .i64 d, .int .i64 e] 28)).alloc (.cells #[.int .i64 0, .int .i64 0] 38) = W1 at M ⊢
 obtain ⟨tR, Ab, Af, Aa, Al⟩ := M.f2 0 rfl
 obtain ⟨tP, As, Aq, Ap, Av, Aw, Ar, Au, Ax, Ao, At⟩ := M.f5 1 rfl
 obtain ⟨tY, Ad, Ai, Am, Aj, An, Ak, Ah, Ac, Ag, Ae⟩ := M.f5 2 rfl
 go_wp2_with fail
 have hW := hasLevel_any a b c d e lv W1 pl1 pl2
 rw [hlv] at hW
 refine Calls.mono (by with_reducible exact hW) ?_
 clear hW
 rintro r W2 ⟨rfl, g1⟩
 clear tR Ab Af Aa Al tP As Aq Ap Av Aw Ar Au Ax Ao At tY Ad Ai Am Aj An Ak Ah Ac Ag Ae
 replace M := M.call g1
 clear g1
 obtain ⟨tR, Ab, Af, Aa, Al⟩ := M.f2 0 rfl
 obtain ⟨tP, As, Aq, Ap, Av, Aw, Ar, Au, Ax, Ao, At⟩ := M.f5 1 rfl
 obtain ⟨tY, Ad, Ai, Am, Aj, An, Ak, Ah, Ac, Ag, Ae⟩ := M.f5 2 rfl
 go_wp2_with fail
 go_call (giveUp_no 8 _) as r W ⟨rfl, rfl⟩
 go_wp2_with fail
 go_call (giveUp_yes 6 _) as r W ⟨rfl, rfl⟩
 clear tR Ab Af Aa Al tP As Aq Ap Av Aw Ar Au Ax Ao At tY Ad Ai Am Aj An Ak Ah Ac Ag Ae
 go_wp2_with fail
 exact ⟨rfl, rfl, M.drop 6⟩
theorem spawn_full (ts : List T7) (ks : List Int) (fs : List F2) (A0 A1 A2 : Option Addr) (c0 c1 c2 : Nat) (tn : Int) (g : Nat) (a b c d e lv : Int) (w : World) (ht : ts.length ≤ 1048576) (hk : ks.length ≤ 1048576) (hf : fs.length ≤ 1048576) (h : Sep (fps [.blk g 35 #[.slice A0 ts.length c0, .slice A1 ks.length c1, .slice A2 fs.length c2, .int .i64 tn, .bool false], rT ts.length A0 c0 ts, rK ks.length A1 c1 ks, rF fs.length A2 c2 fs]) w w [.blk g 35 #[.slice A0 ts.length c0, .slice A1 ks.length c1, .slice A2 fs.length c2, .int .i64 tn, .bool false], rT ts.length A0 c0 ts, rK ks.length A1 c1 ks, rF fs.length A2 c2 fs]) (pl1 : 1 ≤ c) (pl2 : c ≤ 30) (hlv : btw lv 0 (c - 1) = true) (hfull : b ≤ (ts.length : Int)) :
 Calls Tryz.prog 87 #[.pointer (some ⟨g, 0, none⟩), .agg #[.int .i64 a, .int .i64 b, .int .i64 c, .int .i64 d, .int .i64 e], .int .i64 lv] w (fun r w' => r = .panicked [{ v := .iface 137 (.int .i64 4), recovered := false }] ∧ Sep (fps [.blk g 35 #[.slice A0 ts.length c0, .slice A1 ks.length c1, .slice A2 fs.length c2, .int .i64 tn, .bool false], rT ts.length A0 c0 ts, rK ks.length A1 c1 ks, rF fs.length A2 c2 fs]) w w' []) := by
 obtain ⟨S, hS⟩ : ∃ S, S = fps [.blk g 35 #[.slice A0 ts.length c0, .slice A1 ks.length c1, .slice A2 fs.length c2, .int .i64 tn, .bool false], rT ts.length A0 c0 ts, rK ks.length A1 c1 ks, rF fs.length A2 c2 fs] := ⟨_, rfl⟩
 rw [← hS] at h ⊢
 clear hS
 have M0 := hide h
 clear h
 go_enter Tryz.func87, Tryz.ntmps87
 go_wp2_with fail
 have M := (M0.out.alloc 28 #[.int .i64 a, .int .i64 b, .int .i64 c, .int .i64 d, .int .i64 e] w.heap.size rfl).alloc 38 #[.int .i64 0, .int .i64 0] (w.heap.size + 1) (by simp)
 clear M0
 generalize (w.alloc (.cells #[.int .i64 a, .int .i64 b, .int .i64 c, .int .i64 d, .int .i64 e] 28)).alloc (.cells #[.int .i64 0, .int .i64 0] 38) = W1 at M ⊢
 obtain ⟨tR, Ab, Af, Aa, Al⟩ := M.f2 0 rfl
 obtain ⟨tP, As, Aq, Ap, Av, Aw, Ar, Au, Ax, Ao, At⟩ := M.f5 1 rfl
 obtain ⟨tY, Ad, Ai, Am, Aj, An, Ak, Ah, Ac, Ag, Ae⟩ := M.f5 2 rfl
 go_wp2_with fail
 have hW := hasLevel_any a b c d e lv W1 pl1 pl2
 rw [hlv] at hW
 refine Calls.mono (by with_reducible exact hW) ?_
 clear hW
 rintro r W2 ⟨rfl, g1⟩
 clear tR Ab Af Aa Al tP As Aq Ap Av Aw Ar Au Ax Ao At tY Ad Ai Am Aj An Ak Ah Ac Ag Ae
 replace M := M.call g1
 clear g1
 obtain ⟨tR, Ab, Af, Aa, Al⟩ := M.f2 0 rfl
 obtain ⟨tP, As, Aq, Ap, Av, Aw, Ar, Au, Ax, Ao, At⟩ := M.f5 1 rfl
 obtain ⟨tY, Ad, Ai, Am, Aj, An, Ak, Ah, Ac, Ag, Ae⟩ := M.f5 2 rfl
 go_wp2_with fail
 go_call (giveUp_no 8 _) as r W ⟨rfl, rfl⟩
 go_wp2_with fail
 go_call (giveUp_no 6 _) as r W ⟨rfl, rfl⟩
 go_wp2_with fail
 clear tR Ab Af Aa Al tP As Aq Ap Av Aw Ar Au Ax Ao At tY Ad Ai Am Aj An Ak Ah Ac Ag Ae
 refine wp_region_T (S := (fun w' => w'.cell? ⟨w.heap.size, 0, none⟩ = some (.int .i64 a) ∧ w'.cell? ⟨w.heap.size, 1, none⟩ = some (.int .i64 b) ∧ w'.cell? ⟨w.heap.size, 2, none⟩ = some (.int .i64 c) ∧ w'.cell? ⟨w.heap.size, 3, none⟩ = some (.int .i64 d) ∧ w'.cell? ⟨w.heap.size, 4, none⟩ = some (.int .i64 e) ∧ w'.cell? ⟨g, 0, none⟩ = some (.slice A0 ts.length c0) ∧ w'.cell? ⟨g, 1, none⟩ = some (.slice A1 ks.length c1) ∧ w'.cell? ⟨g, 2, none⟩ = some (.slice A2 fs.length c2) ∧ w'.cell? ⟨g, 3, none⟩ = some (.int .i64 tn) ∧ w'.cell? ⟨g, 4, none⟩ = some (.bool false))) (ks := []) (by kernel_rfl) ⟨M.cell 1 0 rfl, M.cell 1 1 rfl, M.cell 1 2 rfl, M.cell 1 3 rfl, M.cell 1 4 rfl, M.cell 2 0 rfl, M.cell 2 1 rfl, M.cell 2 2 rfl, M.cell 2 3 rfl, M.cell 2 4 rfl⟩ (fun hHeld => ?_)
 replace M := M.drew
 generalize W2.drew = W3 at M hHeld ⊢
 refine tkYa 0 _ rfl (fun _ => hHeld) ?_
 try simp only [Act.put, zI, zZ, zS]
 refine tkYa 2 _ rfl (fun _ => hHeld) ?_
 try simp only [Act.put, zI, zZ, zS]
 refine tkLa 3 _ rfl hHeld ?_
 try simp only [Act.put, zI, zZ, zS]
 refine wpAnyT_callL (i := 1) rfl (by kernel_rfl) (fun K hK => ?_)
 go_simp
 refine Calls.mono (by with_reducible exact (size_any ts A0 A1 A2 c0 ks.length c1 fs.length c2 tn false g _ (M.blk 2 rfl))) ?_
 rintro r W4 ⟨rfl, hWW⟩
 subst hWW
 clear hHeld
 go_wp2_with fail
 refine hK.out _ _ ?_ (fun hHeld => ?_)
 ·exact M.c10 1 2 rfl rfl
 clear hK K
 try simp only [Act.put, zI, zZ, zS]
 refine tkYa 4 _ rfl (fun _ => hHeld) ?_
 try simp only [Act.put, zI, zZ, zS]
 refine wpAnyT_callL (i := 5) rfl (by kernel_rfl) (fun K hK => ?_)
 go_simp
 refine Calls.mono (by with_reducible exact (giveUp_yes 4 _)) ?_
 rintro r WG ⟨rfl, hWG⟩
 subst hWG
 go_wp2_with fail
 exact ⟨rfl, rfl, M.drop 6⟩
theorem spawn_turn (ts : List T7) (ks : List Int) (fs : List F2) (A0 A1 A2 : Option Addr) (c0 c1 c2 : Nat) (tn : Int) (g : Nat) (a b c d e lv : Int) (w : World) (ht : ts.length ≤ 1048576) (hk : ks.length ≤ 1048576) (hf : fs.length ≤ 1048576) (h : Sep (fps [.blk g 35 #[.slice A0 ts.length c0, .slice A1 ks.length c1, .slice A2 fs.length c2, .int .i64 tn, .bool false], rT ts.length A0 c0 ts, rK ks.length A1 c1 ks, rF fs.length A2 c2 fs]) w w [.blk g 35 #[.slice A0 ts.length c0, .slice A1 ks.length c1, .slice A2 fs.length c2, .int .i64 tn, .bool false], rT ts.length A0 c0 ts, rK ks.length A1 c1 ks, rF fs.length A2 c2 fs]) (pl1 : 1 ≤ c) (pl2 : c ≤ 30) (hlv : btw lv 0 (c - 1) = true) (hroom : ¬ b ≤ (ts.length : Int)) (t1 : ¬ tn < 1000000) :
 Calls Tryz.prog 87 #[.pointer (some ⟨g, 0, none⟩), .agg #[.int .i64 a, .int .i64 b, .int .i64 c, .int .i64 d, .int .i64 e], .int .i64 lv] w (fun r w' => r = .panicked [{ v := .iface 137 (.int .i64 4), recovered := false }] ∧ Sep (fps [.blk g 35 #[.slice A0 ts.length c0, .slice A1 ks.length c1, .slice A2 fs.length c2, .int .i64 tn, .bool false], rT ts.length A0 c0 ts, rK ks.length A1 c1 ks, rF fs.length A2 c2 fs]) w w' []) := by
 obtain ⟨S, hS⟩ : ∃ S, S = fps [.blk g 35 #[.slice A0 ts.length c0, .slice A1 ks.length c1, .slice A2 fs.length c2, .int .i64 tn, .bool false], rT ts.length A0 c0 ts, rK ks.length A1 c1 ks, rF fs.length A2 c2 fs] := ⟨_, rfl⟩
 rw [← hS] at h ⊢
 clear hS
 have M0 := hide h
 clear h
 go_enter Tryz.func87, Tryz.ntmps87
 go_wp2_with fail
 have M := (M0.out.alloc 28 #[.int .i64 a, .int .i64 b, .int .i64 c, .int .i64 d, .int .i64 e] w.heap.size rfl).alloc 38 #[.int .i64 0, .int .i64 0] (w.heap.size + 1) (by simp)
 clear M0
 generalize (w.alloc (.cells #[.int .i64 a, .int .i64 b, .int .i64 c, .int .i64 d, .int .i64 e] 28)).alloc (.cells #[.int .i64 0, .int .i64 0] 38) = W1 at M ⊢
 obtain ⟨tR, Ab, Af, Aa, Al⟩ := M.f2 0 rfl
 obtain ⟨tP, As, Aq, Ap, Av, Aw, Ar, Au, Ax, Ao, At⟩ := M.f5 1 rfl
 obtain ⟨tY, Ad, Ai, Am, Aj, An, Ak, Ah, Ac, Ag, Ae⟩ := M.f5 2 rfl
 go_wp2_with fail
 have hW := hasLevel_any a b c d e lv W1 pl1 pl2
 rw [hlv] at hW
 refine Calls.mono (by with_reducible exact hW) ?_
 clear hW
 rintro r W2 ⟨rfl, g1⟩
 clear tR Ab Af Aa Al tP As Aq Ap Av Aw Ar Au Ax Ao At tY Ad Ai Am Aj An Ak Ah Ac Ag Ae
 replace M := M.call g1
 clear g1
 obtain ⟨tR, Ab, Af, Aa, Al⟩ := M.f2 0 rfl
 obtain ⟨tP, As, Aq, Ap, Av, Aw, Ar, Au, Ax, Ao, At⟩ := M.f5 1 rfl
 obtain ⟨tY, Ad, Ai, Am, Aj, An, Ak, Ah, Ac, Ag, Ae⟩ := M.f5 2 rfl
 go_wp2_with fail
 go_call (giveUp_no 8 _) as r W ⟨rfl, rfl⟩
 go_wp2_with fail
 go_call (giveUp_no 6 _) as r W ⟨rfl, rfl⟩
 go_wp2_with fail
 clear tR Ab Af Aa Al tP As Aq Ap Av Aw Ar Au Ax Ao At tY Ad Ai Am Aj An Ak Ah Ac Ag Ae
 refine wp_region_T (S := (fun w' => w'.cell? ⟨w.heap.size, 0, none⟩ = some (.int .i64 a) ∧ w'.cell? ⟨w.heap.size, 1, none⟩ = some (.int .i64 b) ∧ w'.cell? ⟨w.heap.size, 2, none⟩ = some (.int .i64 c) ∧ w'.cell? ⟨w.heap.size, 3, none⟩ = some (.int .i64 d) ∧ w'.cell? ⟨w.heap.size, 4, none⟩ = some (.int .i64 e) ∧ w'.cell? ⟨g, 0, none⟩ = some (.slice A0 ts.length c0) ∧ w'.cell? ⟨g, 1, none⟩ = some (.slice A1 ks.length c1) ∧ w'.cell? ⟨g, 2, none⟩ = some (.slice A2 fs.length c2) ∧ w'.cell? ⟨g, 3, none⟩ = some (.int .i64 tn) ∧ w'.cell? ⟨g, 4, none⟩ = some (.bool false))) (ks := []) (by kernel_rfl) ⟨M.cell 1 0 rfl, M.cell 1 1 rfl, M.cell 1 2 rfl, M.cell 1 3 rfl, M.cell 1 4 rfl, M.cell 2 0 rfl, M.cell 2 1 rfl, M.cell 2 2 rfl, M.cell 2 3 rfl, M.cell 2 4 rfl⟩ (fun hHeld => ?_)
 replace M := M.drew
 generalize W2.drew = W3 at M hHeld ⊢
 refine tkYa 0 _ rfl (fun _ => hHeld) ?_
 try simp only [Act.put, zI, zZ, zS]
 refine tkYa 2 _ rfl (fun _ => hHeld) ?_
 try simp only [Act.put, zI, zZ, zS]
 refine tkLa 3 _ rfl hHeld ?_
 try simp only [Act.put, zI, zZ, zS]
 refine wpAnyT_callL (i := 1) rfl (by kernel_rfl) (fun K hK => ?_)
 go_simp
 refine Calls.mono (by with_reducible exact (size_any ts A0 A1 A2 c0 ks.length c1 fs.length c2 tn false g _ (M.blk 2 rfl))) ?_
 rintro r W4 ⟨rfl, hWW⟩
 subst hWW
 clear hHeld
 go_wp2_with fail
 refine hK.out _ _ ?_ (fun hHeld => ?_)
 ·exact M.c10 1 2 rfl rfl
 clear hK K
 try simp only [Act.put, zI, zZ, zS]
 have hnb : decide (b ≤ (ts.length : Int)) = false := decide_eq_false (by omega)
 refine tkYa 4 _ rfl (fun _ => hHeld) ?_
 try simp only [Act.put, zI, zZ, zS]
 refine wpAnyT_callL (i := 5) rfl (by kernel_rfl) (fun K hK => ?_)
 go_simp
 clear hnb
 refine Calls.mono (by with_reducible exact (giveUp_no 4 _)) ?_
 rintro r WG ⟨rfl, hWG⟩
 subst hWG
 clear hHeld
 go_wp2_with fail
 refine hK.out _ _ ?_ (fun hHeld => ?_)
 ·exact M.c10 1 2 rfl rfl
 clear hK K hHeld
 try simp only [Act.put, zI, zZ, zS]
 refine wpAnyT_done (by kernel_rfl) ?_ _
 obtain ⟨tR, Ab, Af, Aa, Al⟩ := M.f2 0 rfl
 obtain ⟨tP, As, Aq, Ap, Av, Aw, Ar, Au, Ax, Ao, At⟩ := M.f5 1 rfl
 obtain ⟨tY, Ad, Ai, Am, Aj, An, Ak, Ah, Ac, Ag, Ae⟩ := M.f5 2 rfl
 go_wp2_with fail
 go_call (size_any ts A0 A1 A2 c0 ks.length c1 fs.length c2 tn false g _ (M.blk 2 rfl)) as r WS ⟨rfl, hWS⟩
 subst hWS
 go_wp2_with fail
 clear tR Ab Af Aa Al tP As Aq Ap Av Aw Ar Au Ax Ao At tY Ad Ai Am Aj An Ak Ah Ac Ag Ae
 refine wp_region_T (S := (fun w' => w'.cell? ⟨g, 0, none⟩ = some (.slice A0 ts.length c0) ∧ w'.cell? ⟨g, 1, none⟩ = some (.slice A1 ks.length c1) ∧ w'.cell? ⟨g, 2, none⟩ = some (.slice A2 fs.length c2) ∧ w'.cell? ⟨g, 3, none⟩ = some (.int .i64 tn) ∧ w'.cell? ⟨g, 4, none⟩ = some (.bool false))) (ks := [13]) (by kernel_rfl) ⟨M.cell 2 0 rfl, M.cell 2 1 rfl, M.cell 2 2 rfl, M.cell 2 3 rfl, M.cell 2 4 rfl⟩ (fun hHeld => ?_)
 replace M := M.drew
 generalize W3.drew = W5 at M hHeld ⊢
 refine tkYa 0 _ rfl (fun _ => hHeld) ?_
 try simp only [Act.put, zI, zZ, zS]
 refine tkYa 1 _ rfl (fun _ => hHeld) ?_
 try simp only [Act.put, zI, zZ, zS]
 refine tkYa 2 _ rfl (fun _ => hHeld) ?_
 try simp only [Act.put, zI, zZ, zS]
 refine tkYa 3 _ rfl (fun _ => hHeld) ?_
 try simp only [Act.put, zI, zZ, zS]
 refine tkLa 4 _ rfl hHeld ?_
 try simp only [Act.put, zI, zZ, zS]
 refine tkYa 5 _ rfl (fun _ => hHeld) ?_
 try simp only [Act.put, zI, zZ, zS]
 refine tkYa 6 _ rfl (fun _ => hHeld) ?_
 try simp only [Act.put, zI, zZ, zS]
 refine wpAnyT_callL (i := 7) rfl (by kernel_rfl) (fun K hK => ?_)
 go_simp
 refine Calls.mono (by with_reducible exact (turn_full A0 A1 A2 ts.length c0 ks.length c1 fs.length c2 tn false g _ (by omega) (M.blk 2 rfl))) ?_
 rintro r WG ⟨rfl, rfl⟩
 go_wp2_with fail
 exact ⟨rfl, rfl, M.drop 6⟩
theorem spawn_ok (ts : List T7) (ks : List Int) (fs : List F2) (A0 A1 A2 : Option Addr) (c0 c1 c2 : Nat) (tn : Int) (g : Nat) (a b c d e lv : Int) (w : World) (ht : ts.length ≤ 1048576) (hk : ks.length ≤ 1048576) (hf : fs.length ≤ 1048576) (h : Sep (fps [.blk g 35 #[.slice A0 ts.length c0, .slice A1 ks.length c1, .slice A2 fs.length c2, .int .i64 tn, .bool false], rT ts.length A0 c0 ts, rK ks.length A1 c1 ks, rF fs.length A2 c2 fs]) w w [.blk g 35 #[.slice A0 ts.length c0, .slice A1 ks.length c1, .slice A2 fs.length c2, .int .i64 tn, .bool false], rT ts.length A0 c0 ts, rK ks.length A1 c1 ks, rF fs.length A2 c2 fs]) (pl1 : 1 ≤ c) (pl2 : c ≤ 30) (hlv : btw lv 0 (c - 1) = true) (hroom : ¬ b ≤ (ts.length : Int)) (t0 : 0 ≤ tn) (t1 : tn < 1000000) :
 Calls Tryz.prog 87 #[.pointer (some ⟨g, 0, none⟩), .agg #[.int .i64 a, .int .i64 b, .int .i64 c, .int .i64 d, .int .i64 e], .int .i64 lv] w (fun r w' => ∃ (D0 D1 D2 : Option Addr) (f0 f1 f2 : Nat), r = .returned (.agg #[.int .i64 1, .int .i64 (ts.length : Int)]) ∧ Sep (fps [.blk g 35 #[.slice A0 ts.length c0, .slice A1 ks.length c1, .slice A2 fs.length c2, .int .i64 tn, .bool false], rT ts.length A0 c0 ts, rK ks.length A1 c1 ks, rF fs.length A2 c2 fs]) w w' [.blk g 35 #[.slice D0 (ts ++ [(⟨1, lv, -1, 0, 0, 0, tn⟩ : T7)]).length f0, .slice D1 ks.length f1, .slice D2 fs.length f2, .int .i64 (tn + 1), .bool false], rT (ts ++ [(⟨1, lv, -1, 0, 0, 0, tn⟩ : T7)]).length D0 f0 (ts ++ [(⟨1, lv, -1, 0, 0, 0, tn⟩ : T7)]), rK ks.length D1 f1 ks, rF fs.length D2 f2 fs]) := by
 obtain ⟨S, hS⟩ : ∃ S, S = fps [.blk g 35 #[.slice A0 ts.length c0, .slice A1 ks.length c1, .slice A2 fs.length c2, .int .i64 tn, .bool false], rT ts.length A0 c0 ts, rK ks.length A1 c1 ks, rF fs.length A2 c2 fs] := ⟨_, rfl⟩
 rw [← hS] at h ⊢
 clear hS
 have M0 := hide h
 clear h
 obtain ⟨i0, hi, hz0, hz1, hz2⟩ := info_parts infoTask
 go_enter Tryz.func87, Tryz.ntmps87
 go_wp2_with fail
 have M := (M0.out.alloc 28 #[.int .i64 a, .int .i64 b, .int .i64 c, .int .i64 d, .int .i64 e] w.heap.size rfl).alloc 38 #[.int .i64 0, .int .i64 0] (w.heap.size + 1) (by simp)
 clear M0
 generalize (w.alloc (.cells #[.int .i64 a, .int .i64 b, .int .i64 c, .int .i64 d, .int .i64 e] 28)).alloc (.cells #[.int .i64 0, .int .i64 0] 38) = W1 at M ⊢
 obtain ⟨tR, Ab, Af, Aa, Al⟩ := M.f2 0 rfl
 obtain ⟨tP, As, Aq, Ap, Av, Aw, Ar, Au, Ax, Ao, At⟩ := M.f5 1 rfl
 obtain ⟨tY, Ad, Ai, Am, Aj, An, Ak, Ah, Ac, Ag, Ae⟩ := M.f5 2 rfl
 go_wp2_with fail
 have hW := hasLevel_any a b c d e lv W1 pl1 pl2
 rw [hlv] at hW
 refine Calls.mono (by with_reducible exact hW) ?_
 clear hW
 rintro r W2 ⟨rfl, g1⟩
 clear tR Ab Af Aa Al tP As Aq Ap Av Aw Ar Au Ax Ao At tY Ad Ai Am Aj An Ak Ah Ac Ag Ae
 replace M := M.call g1
 clear g1
 obtain ⟨tR, Ab, Af, Aa, Al⟩ := M.f2 0 rfl
 obtain ⟨tP, As, Aq, Ap, Av, Aw, Ar, Au, Ax, Ao, At⟩ := M.f5 1 rfl
 obtain ⟨tY, Ad, Ai, Am, Aj, An, Ak, Ah, Ac, Ag, Ae⟩ := M.f5 2 rfl
 go_wp2_with fail
 go_call (giveUp_no 8 _) as r W ⟨rfl, rfl⟩
 go_wp2_with fail
 go_call (giveUp_no 6 _) as r W ⟨rfl, rfl⟩
 go_wp2_with fail
 clear tR Ab Af Aa Al tP As Aq Ap Av Aw Ar Au Ax Ao At tY Ad Ai Am Aj An Ak Ah Ac Ag Ae
 refine wp_region_T (S := (fun w' => w'.cell? ⟨w.heap.size, 0, none⟩ = some (.int .i64 a) ∧ w'.cell? ⟨w.heap.size, 1, none⟩ = some (.int .i64 b) ∧ w'.cell? ⟨w.heap.size, 2, none⟩ = some (.int .i64 c) ∧ w'.cell? ⟨w.heap.size, 3, none⟩ = some (.int .i64 d) ∧ w'.cell? ⟨w.heap.size, 4, none⟩ = some (.int .i64 e) ∧ w'.cell? ⟨g, 0, none⟩ = some (.slice A0 ts.length c0) ∧ w'.cell? ⟨g, 1, none⟩ = some (.slice A1 ks.length c1) ∧ w'.cell? ⟨g, 2, none⟩ = some (.slice A2 fs.length c2) ∧ w'.cell? ⟨g, 3, none⟩ = some (.int .i64 tn) ∧ w'.cell? ⟨g, 4, none⟩ = some (.bool false))) (ks := []) (by kernel_rfl) ⟨M.cell 1 0 rfl, M.cell 1 1 rfl, M.cell 1 2 rfl, M.cell 1 3 rfl, M.cell 1 4 rfl, M.cell 2 0 rfl, M.cell 2 1 rfl, M.cell 2 2 rfl, M.cell 2 3 rfl, M.cell 2 4 rfl⟩ (fun hHeld => ?_)
 replace M := M.drew
 generalize W2.drew = W3 at M hHeld ⊢
 refine tkYa 0 _ rfl (fun _ => hHeld) ?_
 try simp only [Act.put, zI, zZ, zS]
 refine tkYa 2 _ rfl (fun _ => hHeld) ?_
 try simp only [Act.put, zI, zZ, zS]
 refine tkLa 3 _ rfl hHeld ?_
 try simp only [Act.put, zI, zZ, zS]
 refine wpAnyT_callL (i := 1) rfl (by kernel_rfl) (fun K hK => ?_)
 go_simp
 refine Calls.mono (by with_reducible exact (size_any ts A0 A1 A2 c0 ks.length c1 fs.length c2 tn false g _ (M.blk 2 rfl))) ?_
 rintro r W4 ⟨rfl, hWW⟩
 subst hWW
 clear hHeld
 go_wp2_with fail
 refine hK.out _ _ ?_ (fun hHeld => ?_)
 ·exact M.c10 1 2 rfl rfl
 clear hK K
 try simp only [Act.put, zI, zZ, zS]
 have hnb : decide (b ≤ (ts.length : Int)) = false := decide_eq_false (by omega)
 refine tkYa 4 _ rfl (fun _ => hHeld) ?_
 try simp only [Act.put, zI, zZ, zS]
 refine wpAnyT_callL (i := 5) rfl (by kernel_rfl) (fun K hK => ?_)
 go_simp
 clear hnb
 refine Calls.mono (by with_reducible exact (giveUp_no 4 _)) ?_
 rintro r WG ⟨rfl, hWG⟩
 subst hWG
 clear hHeld
 go_wp2_with fail
 refine hK.out _ _ ?_ (fun hHeld => ?_)
 ·exact M.c10 1 2 rfl rfl
 clear hK K hHeld
 try simp only [Act.put, zI, zZ, zS]
 refine wpAnyT_done (by kernel_rfl) ?_ _
 obtain ⟨tR, Ab, Af, Aa, Al⟩ := M.f2 0 rfl
 obtain ⟨tP, As, Aq, Ap, Av, Aw, Ar, Au, Ax, Ao, At⟩ := M.f5 1 rfl
 obtain ⟨tY, Ad, Ai, Am, Aj, An, Ak, Ah, Ac, Ag, Ae⟩ := M.f5 2 rfl
 go_wp2_with fail
 go_call (size_any ts A0 A1 A2 c0 ks.length c1 fs.length c2 tn false g _ (M.blk 2 rfl)) as r WS ⟨rfl, hWS⟩
 subst hWS
 go_wp2_with fail
 clear tR Ab Af Aa Al tP As Aq Ap Av Aw Ar Au Ax Ao At tY Ad Ai Am Aj An Ak Ah Ac Ag Ae
 refine wp_region_T (S := (fun w' => w'.cell? ⟨g, 0, none⟩ = some (.slice A0 ts.length c0))) (ks := [13]) (by kernel_rfl) (M.cell 2 0 rfl) (fun hHeld => ?_)
 replace M := M.drew
 generalize W3.drew = W5 at M hHeld ⊢
 refine tkYa 0 _ rfl (fun _ => hHeld) ?_
 try simp only [Act.put, zI, zZ, zS]
 refine tkYa 1 _ rfl (fun _ => hHeld) ?_
 try simp only [Act.put, zI, zZ, zS]
 refine tkYa 2 _ rfl (fun _ => hHeld) ?_
 try simp only [Act.put, zI, zZ, zS]
 refine tkYa 3 _ rfl (fun _ => hHeld) ?_
 try simp only [Act.put, zI, zZ, zS]
 refine tkLa 4 _ rfl hHeld ?_
 try simp only [Act.put, zI, zZ, zS]
 refine tkYa 5 _ rfl (fun _ => hHeld) ?_
 try simp only [Act.put, zI, zZ, zS]
 refine tkYa 6 _ rfl (fun _ => hHeld) ?_
 try simp only [Act.put, zI, zZ, zS]
 refine wpAnyT_callL (i := 7) rfl (by kernel_rfl) (fun K hK => ?_)
 go_simp
 refine Calls.mono (by with_reducible exact (turn_ok A0 A1 A2 ts.length c0 ks.length c1 fs.length c2 tn false g _ t0 t1 (M.blk 2 rfl))) ?_
 rintro r W6 ⟨rfl, hWG⟩
 replace M := M.set 2 rfl 3 (.int .i64 (tn + 1))
 rw [← hWG] at M
 clear hWG hHeld
 simp only [zZ, zS] at M
 go_wp2_with fail
 replace M : Sep S w W6 [.blk (w.heap.size + 1) 38 #[.int .i64 0, .int .i64 0], .blk (w.heap.size) 28 #[.int .i64 a, .int .i64 b, .int .i64 c, .int .i64 d, .int .i64 e], .blk (g) 35 #[.slice A0 ts.length c0, .slice A1 ks.length c1, .slice A2 fs.length c2, .int .i64 (tn + 1), .bool false], rT ts.length A0 c0 ts, rK ks.length A1 c1 ks, rF fs.length A2 c2 fs] := M
 refine hK.out _ _ ?_ (fun hHeld => ?_)
 ·exact (M.cell 2 0 rfl)
 clear hK K
 try simp only [Act.put, zI, zZ, zS]
 refine wpAnyT_callL (i := 8) rfl (by kernel_rfl) (fun K hK => ?_)
 go_simp
 refine Calls.mono (by with_reducible exact (newTask_p lv tn _)) ?_
 rintro r W7 ⟨rfl, g1⟩
 replace M := M.call g1
 clear g1 hHeld
 go_wp2_with fail
 refine hK.out _ _ ?_ (fun hHeld => ?_)
 ·exact (M.cell 2 0 rfl)
 clear hK K
 try simp only [Act.put, zI, zZ, zS]
 refine wpAnyT_callL (i := 9) rfl (by kernel_rfl) (fun K hK => ?_)
 go_simp
 clear hHeld
 replace M := M.galloc 45 #[.int .i64 1, .int .i64 lv, .int .i64 (-1), .int .i64 0, .int .i64 0, .int .i64 0, .int .i64 tn]
 obtain ⟨W8, eW, M⟩ := M
 rw [eW]
 clear eW
 refine hK.out _ _ ?_ (fun hHeld => ?_)
 ·exact (M.cell 3 0 rfl)
 clear hK K
 try simp only [Act.put, zI, zZ, zS]
 refine wpAnyT_callL (i := 10) rfl (by kernel_rfl) (fun K hK => ?_)
 clear hHeld
 refine wp_append_sep rfl (.tmp 30) (.tmp 35) 31 rfl 45 i0 (.agg #[.int .i64 0, .int .i64 0, .int .i64 0, .int .i64 0, .int .i64 0, .int .i64 0, .int .i64 0]) 7 56 Tryz.underlying31 hi hz0 hz1 hz2 rfl (by decide) A0 ts.length c0 (tcells ts) rfl (M.rowAt 4 rfl) ⟨W7.heap.size, 0, none⟩ 1 1 (T7.cs ⟨1, lv, -1, 0, 0, 0, tn⟩) rfl rfl (Blk.row (M.blk 0 rfl)) (by simp [T7.cs]) (by intro u hu; simp [T7.cs] at hu; rcases hu with rfl | rfl | rfl | rfl | rfl | rfl | rfl <;> rfl) (by unfold maxLen; omega) (by omega) ?_
 intro A' c' W9 k5
 replace M := M.front 4 rfl
 simp only [zE, zF] at M
 have k6 : Sep (fps [rT ts.length A0 c0 ts]) W8 W9 [rT (ts.length + 1) A' c' (ts ++ [⟨1, lv, -1, 0, 0, 0, tn⟩])] := by
  have k7 := k5
  unfold rT
  rw [← tcells_snoc2]
  exact k7
 replace M : Sep S w W9 [rT (ts.length + 1) A' c' (ts ++ [⟨1, lv, -1, 0, 0, 0, tn⟩]), .blk (W7.heap.size) 45 #[.int .i64 1, .int .i64 lv, .int .i64 (-1), .int .i64 0, .int .i64 0, .int .i64 0, .int .i64 tn], .blk (w.heap.size + 1) 38 #[.int .i64 0, .int .i64 0], .blk (w.heap.size) 28 #[.int .i64 a, .int .i64 b, .int .i64 c, .int .i64 d, .int .i64 e], .blk (g) 35 #[.slice A0 ts.length c0, .slice A1 ks.length c1, .slice A2 fs.length c2, .int .i64 (tn + 1), .bool false], rK ks.length A1 c1 ks, rF fs.length A2 c2 fs] := Sep.comp (ps := [rT ts.length A0 c0 ts]) (rs := [.blk (W7.heap.size) 45 #[.int .i64 1, .int .i64 lv, .int .i64 (-1), .int .i64 0, .int .i64 0, .int .i64 0, .int .i64 tn], .blk (w.heap.size + 1) 38 #[.int .i64 0, .int .i64 0], .blk (w.heap.size) 28 #[.int .i64 a, .int .i64 b, .int .i64 c, .int .i64 d, .int .i64 e], .blk (g) 35 #[.slice A0 ts.length c0, .slice A1 ks.length c1, .slice A2 fs.length c2, .int .i64 (tn + 1), .bool false], rK ks.length A1 c1 ks, rF fs.length A2 c2 fs]) M k6
 clear k5 k6
 refine hK.out _ _ ?_ (fun hHeld => ?_)
 ·exact (M.cell 4 0 rfl)
 clear hK K
 try simp only [Act.put, zI, zZ, zS]
 refine tkYa 11 _ rfl (fun _ => hHeld) ?_
 try simp only [Act.put, zI, zZ, zS]
 refine tkYa 12 _ rfl (fun _ => hHeld) ?_
 try simp only [Act.put, zI, zZ, zS]
 obtain ⟨tY, Ad, Ai, Am, Aj, An, Ak, Ah, Ac, Ag, Ae⟩ := M.f5 4 rfl
 refine wpAnyT_oneL (i := 13) rfl (by kernel_rfl) (by kernel_rfl) (fun K hK => ?_)
 go_simp
 refine hK.out _ _ ?_
 clear hK K
 try simp only [Act.put, zI, zZ, zS]
 clear tY Ad Ai Am Aj An Ak Ah Ac Ag Ae
 replace M := M.set 4 rfl 0 (.slice A' (ts.length + 1) c')
 simp only [zZ, zS] at M
 generalize W9.setCell ⟨g, 0, none⟩ (.slice A' (ts.length + 1) c') = W10 at M ⊢
 replace M : Sep S w W10 [rT (ts.length + 1) A' c' (ts ++ [⟨1, lv, -1, 0, 0, 0, tn⟩]), .blk (W7.heap.size) 45 #[.int .i64 1, .int .i64 lv, .int .i64 (-1), .int .i64 0, .int .i64 0, .int .i64 0, .int .i64 tn], .blk (w.heap.size + 1) 38 #[.int .i64 0, .int .i64 0], .blk (w.heap.size) 28 #[.int .i64 a, .int .i64 b, .int .i64 c, .int .i64 d, .int .i64 e], .blk (g) 35 #[.slice A' (ts.length + 1) c', .slice A1 ks.length c1, .slice A2 fs.length c2, .int .i64 (tn + 1), .bool false], rK ks.length A1 c1 ks, rF fs.length A2 c2 fs] := M
 refine wpAnyT_done (by kernel_rfl) ?_ _
 try clear hHeld
 go_wp2_with fail
 go_call (okWith_any ts.length _) as r WO ⟨rfl, g1⟩
 replace M := M.call g1
 clear g1
 obtain ⟨tR, Ab, Af, Aa, Al⟩ := M.f2 2 rfl
 go_wp2_with fail
 clear tR Ab Af Aa Al
 replace M := M.gset2 2 rfl (.int .i64 1) (.int .i64 ts.length)
 obtain ⟨W11, eW, M⟩ := M
 rw [eW]
 clear eW
 simp only [zZ, zS] at M
 replace M := M.front 6 rfl
 simp only [zE, zF] at M
 replace M := M.front 6 rfl
 simp only [zE, zF] at M
 replace M := M.front 2 rfl
 simp only [zE, zF] at M
 replace M := M.front 6 rfl
 simp only [zE, zF] at M
 obtain ⟨tR, Ab, Aa⟩ := M.q2 5 rfl
 exact bodyPost_ret (v := .agg #[.int .i64 1, .int .i64 ts.length]) (by simp [results, Tryz.results87, go_sem, Ab, Aa]) rfl (by rw [show (ts ++ [(⟨1, lv, -1, 0, 0, 0, tn⟩ : T7)]).length = ts.length + 1 by simp]; exact ⟨A', A1, A2, c', c1, c2, rfl, M.take 4⟩)
end Go.Proofs.YtfkdfkoigojciaaGreatDoor
