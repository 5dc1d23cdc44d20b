/- Tokens are not lost. -/
import Derived.Test.YtfkdfkoigojciaaGreatDoorQU45
import Derived.Test.YtfkdfkoigojciaaGreatDoorCards
import Derived.Test.YtfkdfkoigojciaaGreatDoorTie

namespace Go.Proofs.YtfkdfkoigojciaaGreatDoor
open Go.RowKit
set_option linter.unusedVariables false
set_option maxRecDepth 100000 in
set_option maxHeartbeats 1600000 in
theorem fnTokens_any (w : World) (A : Option Addr) (len cap : Nat) (hby : Bytes w w.heap.size A len) (hl : len ≤ 4096) (hgl : Laid w) :
 Calls Tryz.prog 5 #[.slice A len cap] w fun r w' => r = .returned (.bool true) ∧ Below w.heap.size w w' := by
 have HGL := hide hgl
 clear hgl
 go_enter Tryz.func5, Tryz.ntmps5
 go_wp2_with fail
 go_call (big_any A len cap _) as r w' ⟨rfl, rfl⟩
 go_wp2_with fail
 go_call (roll_any w.heap.size w A len cap 7 (Nat.le_refl _) hl hby) as r W1 ⟨rfl, G, d0⟩
 obtain ⟨g, hg⟩ : ∃ g, g = w.heap.size := ⟨_, rfl⟩
 rw [← hg] at d0 ⊢
 have HG := hide hg
 clear hg
 obtain ⟨cs0, hc, M⟩ := dice_start d0
 go_wp2_with fail
 go_call (scheme_any g _ g A len cap (M.diceAt 0 rfl d0 hc)) as r W2 ⟨a, b, c, dd, ee, rfl, a1, a2, b1, b2, c1, c2, p1, p2, q1, q2, gg, d⟩
 have MM := M.diceMoved 0 rfl gg d
 clear M hc gg d
 obtain ⟨cs1, hc, M⟩ := MM
 simp only [List.set_cons_zero] at M
 obtain ⟨dn, rfl⟩ : ∃ n : Nat, dd = n := ⟨dd.toNat, by omega⟩
 obtain ⟨en, rfl⟩ : ∃ n : Nat, ee = n := ⟨ee.toNat, by omega⟩
 have hp : planB a b c dn en = true := by simp [planB, btw]; omega
 have HP := hide hp
 clear hp
 go_wp2_with fail
 replace M := M.al1 28 #[.int .i64 a, .int .i64 b, .int .i64 c, .int .i64 dn, .int .i64 en]
 obtain ⟨aP, W3, e1, e3, M⟩ := M
 rw [e3, e1]
 clear e1 e3
 obtain ⟨tP, Ak, Aj, Am, Al, Ai⟩ := M.q5 0 rfl
 go_wp2_with fail
 go_call (gNewPool_t a b c dn en _ HP.out (by omega)) as r W4 ⟨ts, ks, fs, tn, st, B0, B1, B2, e0, e1, e2, rfl, hT, g1⟩
 clear tP Ak Aj Am Al Ai
 replace M := Sep.new M g1
 simp only [zC, zN] at M
 clear g1
 replace hT := hide hT
 go_wp2_with fail
 replace M := M.al1 35 #[.slice B0 ts.length e0, .slice B1 ks.length e1, .slice B2 fs.length e2, .int .i64 tn, .bool st]
 obtain ⟨aX, W5, e1, e3, M⟩ := M
 rw [e3, e1]
 clear e1 e3
 go_wp2_with fail
 go_call (below_any g _ g A len cap 40 (by omega) (by omega) (M.diceAt 5 rfl d0 hc)) as r W6 ⟨nn, rfl, nn1, nn2, gg, d⟩
 have MM := M.diceMoved 5 rfl gg d
 clear M hc gg d
 obtain ⟨cs2, hc, M⟩ := MM
 simp only [zZ, zS] at M
 go_wp2_with fail
 replace M := M.front 4 rfl
 simp only [zE, zF] at M
 replace M := M.front 5 rfl
 simp only [zE, zF] at M
 replace M := M.front 5 rfl
 simp only [zE, zF] at M
 replace M := M.front 5 rfl
 simp only [zE, zF] at M
 replace M := M.front 5 rfl
 simp only [zE, zF] at M
 replace M := M.front 5 rfl
 simp only [zE, zF] at M
 go_loopw [6, 7, 8] (fun i6 i7 i8 wr => ∃ (gv tk n : Int) (ts : List T7) (ks : List Int) (fs : List F2) (tn : Int) (st : Bool) (B0 B1 B2 : Option Addr) (e0 e1 e2 : Nat) (cs : Array Value), i6 = .int .i64 gv ∧ i7 = .int .i64 tk ∧ i8 = .int .i64 n ∧ (0 ≤ gv ∧ 0 ≤ tk ∧ 0 ≤ n ∧ gv + n ≤ 60 ∧ tk + n ≤ 60) ∧ Hid (TokI a b c dn en ts ks fs tn gv tk) ∧ diceC A len cap cs ∧ Sep [g] W1 wr [.blk (aX) 35 #[.slice B0 ts.length e0, .slice B1 ks.length e1, .slice B2 fs.length e2, .int .i64 tn, .bool st], rT ts.length B0 e0 ts, rK ks.length B1 e1 ks, rF fs.length B2 e2 fs, .blk g 68 cs, .blk (aP) 28 #[.int .i64 a, .int .i64 b, .int .i64 c, .int .i64 dn, .int .i64 en]]) (fun _ _ i _ => (intOf i).toNat)
 case atStart => exact ⟨0, 0, 10 + nn, ts, ks, fs, tn, st, B0, B1, B2, e0, e1, e2, _, rfl, rfl, by go_num, by omega, hT, hc, M.take 6⟩
 case round =>
  clear M hc hT nn1 nn2
  obtain ⟨gv, tk, n, ts, ks, fs, tn, st, B0, B1, B2, e0, e1, e2, cs60, rfl, rfl, rfl, hb, hT, hc, M⟩ := hrel
  obtain ⟨hb1, hb2, hb3, hb4, hb5⟩ := hb
  rename World => W7
  by_cases hlt : 0 < n
  ·obtain ⟨tP, Ak, Aj, Am, Al, Ai⟩ := M.q5 5 rfl
   go_wp2_with fail
   go_call (below_any g _ g A len cap a (by omega) (by omega) (M.diceAt 4 rfl d0 hc)) as r W8 ⟨wk, rfl, wk1, wk2, gg, d⟩
   clear tP Ak Aj Am Al Ai
   have MM := M.diceMoved 4 rfl gg d
   clear M hc gg d
   obtain ⟨cs61, hc, M⟩ := MM
   simp only [zZ, zS] at M
   go_simp
   iterate 22 (first | go_values | go_skip | go_guarded | go_step | go_upon | go_simp)
   replace M := M.al1 38 #[.int .i64 0, .int .i64 0]
   obtain ⟨aAa, W9, e1, e3, M⟩ := M
   rw [e3, e1]
   clear e1 e3
   go_cut [6, 7] (fun g' t' wc => ∃ (gw tw : Int) (ts : List T7) (ks : List Int) (fs : List F2) (tn : Int) (st : Bool) (B0 B1 B2 : Option Addr) (e0 e1 e2 : Nat) (cs : Array Value), g' = .int .i64 gw ∧ t' = .int .i64 tw ∧ (gv ≤ gw ∧ gw ≤ gv + 1 ∧ tk ≤ tw ∧ tw ≤ tk + 1) ∧ Hid (TokI a b c dn en ts ks fs tn gw tw) ∧ diceC A len cap cs ∧ Sep [g] W1 wc [.blk (aX) 35 #[.slice B0 ts.length e0, .slice B1 ks.length e1, .slice B2 fs.length e2, .int .i64 tn, .bool st], rT ts.length B0 e0 ts, rK ks.length B1 e1 ks, rF fs.length B2 e2 fs, .blk g 68 cs, .blk (aP) 28 #[.int .i64 a, .int .i64 b, .int .i64 c, .int .i64 dn, .int .i64 en]])
   case first =>
    go_wp2_with fail
    go_call (below_any g _ g A len cap 5 (by omega) (by omega) (M.diceAt 5 rfl d0 hc)) as r W10 ⟨t, rfl, t1, t2, gg, d⟩
    have MM := M.diceMoved 5 rfl gg d
    clear M hc gg d
    obtain ⟨cs62, hc, M⟩ := MM
    simp only [zZ, zS] at M
    have ht : t = 0 ∨ t = 1 ∨ t = 2 ∨ t = 3 ∨ t = 4 := by omega
    clear t1 t2
    have hl := tok_lens hT.out
    obtain ⟨hl0, hl1, hl2⟩ := hl
    rcases ht with rfl | rfl | rfl | rfl | rfl
    ·obtain ⟨tX, Ag, Ad, Ah, Ac, Ae⟩ := M.q5 1 rfl
     obtain ⟨tP, Ak, Aj, Am, Al, Ai⟩ := M.q5 6 rfl
     go_wp2_with fail
     clear tX Ag Ad Ah Ac Ae tP Ak Aj Am Al Ai
     refine wp_region_T (S := (fun w' => w'.cell? ⟨aP, 0, none⟩ = some (.int .i64 a) ∧ w'.cell? ⟨aP, 1, none⟩ = some (.int .i64 b) ∧ w'.cell? ⟨aP, 2, none⟩ = some (.int .i64 c) ∧ w'.cell? ⟨aP, 3, none⟩ = some (.int .i64 dn) ∧ w'.cell? ⟨aP, 4, none⟩ = some (.int .i64 en) ∧ w'.cell? ⟨aX, 0, none⟩ = some (.slice B0 ts.length e0) ∧ w'.cell? ⟨aX, 1, none⟩ = some (.slice B1 ks.length e1) ∧ w'.cell? ⟨aX, 2, none⟩ = some (.slice B2 fs.length e2) ∧ w'.cell? ⟨aX, 3, none⟩ = some (.int .i64 tn) ∧ w'.cell? ⟨aX, 4, none⟩ = some (.bool st))) (ks := [11]) (by kernel_rfl) ⟨M.cell 6 0 rfl, M.cell 6 1 rfl, M.cell 6 2 rfl, M.cell 6 3 rfl, M.cell 6 4 rfl, M.cell 1 0 rfl, M.cell 1 1 rfl, M.cell 1 2 rfl, M.cell 1 3 rfl, M.cell 1 4 rfl⟩ (fun hHeld => ?_)
     replace M := M.drew
     generalize W10.drew = W11 at M hHeld ⊢
     refine tkLa 0 _ rfl hHeld ?_
     try simp only [Act.put, zI, zZ, zS]
     refine tkLa 1 _ rfl hHeld ?_
     try simp only [Act.put, zI, zZ, zS]
     refine tkYa 2 _ rfl (fun _ => hHeld) ?_
     try simp only [Act.put, zI, zZ, zS]
     refine tkYa 3 _ rfl (fun _ => hHeld) ?_
     try simp only [Act.put, zI, zZ, zS]
     refine tkYa 4 _ rfl (fun _ => hHeld) ?_
     try simp only [Act.put, zI, zZ, zS]
     refine tkLa 5 _ rfl hHeld ?_
     try simp only [Act.put, zI, zZ, zS]
     refine wpAnyT_callL (i := 6) rfl (by kernel_rfl) (fun K hK => ?_)
     go_simp
     refine Calls.mono (by with_reducible exact (below_any g _ g A len cap c (by omega) (by omega) (M.diceAt 5 rfl d0 hc))) ?_
     rintro r W12 ⟨lv, rfl, lv1, lv2, gg, d⟩
     have MM := M.diceMoved 5 rfl gg d
     clear M hc gg d
     obtain ⟨cs63, hc, M⟩ := MM
     simp only [zZ, zS] at M
     clear hHeld
     go_wp2_with fail
     refine hK.out _ _ ?_ (fun hHeld => ?_)
     ·exact M.c10 6 1 rfl rfl
     clear hK K
     try simp only [Act.put, zI, zZ, zS]
     obtain ⟨us1, vk1, vf1, un1, ut1, rq1, oq1, hle, hT2, hI⟩ := tok_spawn a b c dn en ts ks fs tn st wk lv gv tk hT.out
     replace hT2 := hide hT2
     have hin : InPool W12 ts ks fs B0 B1 B2 := ⟨M.rowS 2 rfl, M.rowS 3 rfl, M.rowS 4 rfl⟩
     refine wpAnyT_callL (i := 7) rfl (by kernel_rfl) (fun K hK => ?_)
     go_simp
     refine Calls.mono (by with_reducible exact (hI.out B0 B1 B2 e0 e1 e2 _ hin)) ?_
     rintro r W13 ⟨C0, C1, C2, f0, f1, f2, rfl, g1⟩
     replace M := Sep.new M g1
     simp only [zC, zN] at M
     clear g1 hHeld
     go_wp2_with fail
     refine hK.out _ _ ?_ (fun hHeld => ?_)
     ·exact M.c10 9 4 rfl rfl
     clear hK K
     try simp only [Act.put, zI, zZ, zS]
     refine tkYa 8 _ rfl (fun _ => hHeld) ?_
     try simp only [Act.put, zI, zZ, zS]
     refine tkYa 9 _ rfl (fun _ => hHeld) ?_
     try simp only [Act.put, zI, zZ, zS]
     refine tkYa 10 _ rfl (fun _ => hHeld) ?_
     try simp only [Act.put, zI, zZ, zS]
     obtain ⟨tX, Ag, Aq, Ad, As, Ah, At, Ac, Ar, Ae, Ap⟩ := M.f5 4 rfl
     refine wpAnyT_oneL (i := 11) rfl (by kernel_rfl) (by kernel_rfl) (fun K hK => ?_)
     go_simp
     refine hK.out _ _ ?_
     clear hK K
     try simp only [Act.put, zI, zZ, zS]
     clear tX Ag Aq Ad As Ah At Ac Ar Ae Ap
     replace M := M.gset5 4 rfl (.slice C0 us1.length f0) (.slice C1 vk1.length f1) (.slice C2 vf1.length f2) (.int .i64 un1) (.bool ut1)
     obtain ⟨W14, eW, M⟩ := M
     rw [eW]
     clear eW
     simp only [zZ, zS] at M
     refine wpAnyT_done (by kernel_rfl) ?_ _
     go_wp2_with fail
     replace M := M.front 9 rfl
     simp only [zE, zF] at M
     replace M := M.front 9 rfl
     simp only [zE, zF] at M
     replace M := M.front 4 rfl
     simp only [zE, zF] at M
     replace M := M.front 4 rfl
     simp only [zE, zF] at M
     replace M := M.front 4 rfl
     simp only [zE, zF] at M
     replace M := M.front 6 rfl
     simp only [zE, zF] at M
     go_meet
     exact ⟨gv, tk, us1, vk1, vf1, un1, ut1, C0, C1, C2, f0, f1, f2, _, by go_num, by go_num, by omega, hT2, hc, M.take 6⟩
    ·obtain ⟨us2, vk2, vf2, un2, ut2, rq2, oq2, hle, hT2, hI⟩ := tok_take a b c dn en ts ks fs tn st wk gv tk hT.out
     replace hT2 := hide hT2
     obtain ⟨tX, Ag, Ad, Ah, Ac, Ae⟩ := M.q5 1 rfl
     obtain ⟨tP, Ak, Aj, Am, Al, Ai⟩ := M.q5 6 rfl
     go_wp2_with fail
     go_call (hI.out B0 B1 B2 e0 e1 e2 _ ⟨M.rowS 2 rfl, M.rowS 3 rfl, M.rowS 4 rfl⟩) as r W15 ⟨C0, C1, C2, f0, f1, f2, rfl, g1⟩
     clear tX Ag Ad Ah Ac Ae tP Ak Aj Am Al Ai
     replace M := Sep.new M g1
     simp only [zC, zN] at M
     clear g1
     obtain ⟨tX, Ag, Aq, Ad, As, Ah, At, Ac, Ar, Ae, Ap⟩ := M.f5 4 rfl
     obtain ⟨tP, Ak, Bo, Aj, Bw, Am, Br, Al, By, Ai, Bu⟩ := M.f5 9 rfl
     go_wp2_with fail
     clear tX Ag Aq Ad As Ah At Ac Ar Ae Ap tP Ak Bo Aj Bw Am Br Al By Ai Bu
     replace M := M.gset5 4 rfl (.slice C0 us2.length f0) (.slice C1 vk2.length f1) (.slice C2 vf2.length f2) (.int .i64 un2) (.bool ut2)
     obtain ⟨W16, eW, M⟩ := M
     rw [eW]
     clear eW
     simp only [zZ, zS] at M
     replace M := M.front 9 rfl
     simp only [zE, zF] at M
     replace M := M.front 9 rfl
     simp only [zE, zF] at M
     replace M := M.front 4 rfl
     simp only [zE, zF] at M
     replace M := M.front 4 rfl
     simp only [zE, zF] at M
     replace M := M.front 4 rfl
     simp only [zE, zF] at M
     replace M := M.front 6 rfl
     simp only [zE, zF] at M
     go_meet
     exact ⟨gv, tk, us2, vk2, vf2, un2, ut2, C0, C1, C2, f0, f1, f2, _, by go_num, by go_num, by omega, hT2, hc, M.take 6⟩
    ·obtain ⟨us3, vk3, vf3, un3, ut3, rq3, oq3, hle, hT2, hI⟩ := tok_up a b c dn en ts ks fs tn st wk gv tk hT.out
     replace hT2 := hide hT2
     obtain ⟨tX, Ag, Ad, Ah, Ac, Ae⟩ := M.q5 1 rfl
     obtain ⟨tP, Ak, Aj, Am, Al, Ai⟩ := M.q5 6 rfl
     go_wp2_with fail
     go_call (hI.out B0 B1 B2 e0 e1 e2 _ (HGL.out.below (G.trans (Sep.belowB M (by intro q hq; have := HG.out; simp at hq; omega) G.size))) ⟨M.rowS 2 rfl, M.rowS 3 rfl, M.rowS 4 rfl⟩) as r W17 ⟨C0, C1, C2, f0, f1, f2, rfl, g1⟩
     clear tX Ag Ad Ah Ac Ae tP Ak Aj Am Al Ai
     replace M := Sep.new M g1
     simp only [zC, zN] at M
     clear g1
     obtain ⟨Af, Ab, Ao, Aa, An⟩ := M.f2 3 rfl
     obtain ⟨tX, Ag, Aq, Ad, As, Ah, At, Ac, Ar, Ae, Ap⟩ := M.f5 4 rfl
     go_simp
     iterate 12 (first | go_values | go_skip | go_guarded | go_step | go_upon | go_simp)
     clear Af Ab Ao Aa An tX Ag Aq Ad As Ah At Ac Ar Ae Ap
     replace M := M.gset5 4 rfl (.slice C0 us3.length f0) (.slice C1 vk3.length f1) (.slice C2 vf3.length f2) (.int .i64 un3) (.bool ut3)
     obtain ⟨W18, eW, M⟩ := M
     rw [eW]
     clear eW
     simp only [zZ, zS] at M
     obtain ⟨Af, Ab, Ao, Aa, An⟩ := M.f2 3 rfl
     iterate 3 (first | go_values | go_skip | go_guarded | go_step | go_upon | go_simp)
     clear Af Ab Ao Aa An
     replace M := M.gset2 3 rfl (.int .i64 rq3) (.int .i64 oq3)
     obtain ⟨W19, eW, M⟩ := M
     rw [eW]
     clear eW
     simp only [zZ, zS] at M
     by_cases hr : rq3 = 1
     ·subst hr
      by_cases ho : 0 < oq3
      ·obtain ⟨Af, Ab, Aa⟩ := M.q2 3 rfl
       go_wp2_with fail
       clear Af Ab Aa
       replace M := M.front 9 rfl
       simp only [zE, zF] at M
       replace M := M.front 9 rfl
       simp only [zE, zF] at M
       replace M := M.front 4 rfl
       simp only [zE, zF] at M
       replace M := M.front 4 rfl
       simp only [zE, zF] at M
       replace M := M.front 4 rfl
       simp only [zE, zF] at M
       replace M := M.front 6 rfl
       simp only [zE, zF] at M
       go_meet
       exact ⟨(gv + 1), (tk + 1), us3, vk3, vf3, un3, ut3, C0, C1, C2, f0, f1, f2, _, by go_num, by go_num, by omega, (hide (by have h := hT2.out; rw [if_pos trivial, if_pos (show True ∧ 0 < oq3 from ⟨trivial, ho⟩)] at h; exact h)), hc, M.take 6⟩
      ·obtain ⟨Af, Ab, Aa⟩ := M.q2 3 rfl
       go_wp2_with fail
       clear Af Ab Aa
       replace M := M.front 9 rfl
       simp only [zE, zF] at M
       replace M := M.front 9 rfl
       simp only [zE, zF] at M
       replace M := M.front 4 rfl
       simp only [zE, zF] at M
       replace M := M.front 4 rfl
       simp only [zE, zF] at M
       replace M := M.front 4 rfl
       simp only [zE, zF] at M
       replace M := M.front 6 rfl
       simp only [zE, zF] at M
       go_meet
       exact ⟨(gv + 1), tk, us3, vk3, vf3, un3, ut3, C0, C1, C2, f0, f1, f2, _, by go_num, by go_num, by omega, (hide (by have h := hT2.out; rw [if_pos trivial, if_neg (show ¬ (True ∧ 0 < oq3) from fun h9 => absurd h9.2 (by omega))] at h; exact h)), hc, M.take 6⟩
     ·have hr2 : (rq3 == 1) = false := by simpa using hr
      obtain ⟨Af, Ab, Aa⟩ := M.q2 3 rfl
      go_wp2_with fail
      clear Af Ab Aa
      replace M := M.front 9 rfl
      simp only [zE, zF] at M
      replace M := M.front 9 rfl
      simp only [zE, zF] at M
      replace M := M.front 4 rfl
      simp only [zE, zF] at M
      replace M := M.front 4 rfl
      simp only [zE, zF] at M
      replace M := M.front 4 rfl
      simp only [zE, zF] at M
      replace M := M.front 6 rfl
      simp only [zE, zF] at M
      go_meet
      exact ⟨gv, tk, us3, vk3, vf3, un3, ut3, C0, C1, C2, f0, f1, f2, _, by go_num, by go_num, by omega, (hide (by have h := hT2.out; simpa [hr] using h)), hc, M.take 6⟩
    ·obtain ⟨us4, vk4, vf4, un4, ut4, rq4, oq4, hle, hT2, hI⟩ := tok_down a b c dn en ts ks fs tn st wk gv tk hT.out
     replace hT2 := hide hT2
     obtain ⟨tX, Ag, Ad, Ah, Ac, Ae⟩ := M.q5 1 rfl
     obtain ⟨tP, Ak, Aj, Am, Al, Ai⟩ := M.q5 6 rfl
     go_wp2_with fail
     go_call (hI.out B0 B1 B2 e0 e1 e2 _ (HGL.out.below (G.trans (Sep.belowB M (by intro q hq; have := HG.out; simp at hq; omega) G.size))) ⟨M.rowS 2 rfl, M.rowS 3 rfl, M.rowS 4 rfl⟩) as r W20 ⟨C0, C1, C2, f0, f1, f2, rfl, g1⟩
     clear tX Ag Ad Ah Ac Ae tP Ak Aj Am Al Ai
     replace M := Sep.new M g1
     simp only [zC, zN] at M
     clear g1
     obtain ⟨Af, Ab, Ao, Aa, An⟩ := M.f2 3 rfl
     obtain ⟨tX, Ag, Aq, Ad, As, Ah, At, Ac, Ar, Ae, Ap⟩ := M.f5 4 rfl
     go_simp
     iterate 12 (first | go_values | go_skip | go_guarded | go_step | go_upon | go_simp)
     clear Af Ab Ao Aa An tX Ag Aq Ad As Ah At Ac Ar Ae Ap
     replace M := M.gset5 4 rfl (.slice C0 us4.length f0) (.slice C1 vk4.length f1) (.slice C2 vf4.length f2) (.int .i64 un4) (.bool ut4)
     obtain ⟨W21, eW, M⟩ := M
     rw [eW]
     clear eW
     simp only [zZ, zS] at M
     obtain ⟨Af, Ab, Ao, Aa, An⟩ := M.f2 3 rfl
     iterate 3 (first | go_values | go_skip | go_guarded | go_step | go_upon | go_simp)
     clear Af Ab Ao Aa An
     replace M := M.gset2 3 rfl (.int .i64 rq4) (.int .i64 oq4)
     obtain ⟨W22, eW, M⟩ := M
     rw [eW]
     clear eW
     simp only [zZ, zS] at M
     by_cases hr : rq4 = 1
     ·subst hr
      obtain ⟨Af, Ab, Aa⟩ := M.q2 3 rfl
      go_wp2_with fail
      clear Af Ab Aa
      replace M := M.front 9 rfl
      simp only [zE, zF] at M
      replace M := M.front 9 rfl
      simp only [zE, zF] at M
      replace M := M.front 4 rfl
      simp only [zE, zF] at M
      replace M := M.front 4 rfl
      simp only [zE, zF] at M
      replace M := M.front 4 rfl
      simp only [zE, zF] at M
      replace M := M.front 6 rfl
      simp only [zE, zF] at M
      go_meet
      exact ⟨gv, (tk + 1), us4, vk4, vf4, un4, ut4, C0, C1, C2, f0, f1, f2, _, by go_num, by go_num, by omega, (hide (by have h := hT2.out; simpa using h)), hc, M.take 6⟩
     ·have hr2 : (rq4 == 1) = false := by simpa using hr
      obtain ⟨Af, Ab, Aa⟩ := M.q2 3 rfl
      go_wp2_with fail
      clear Af Ab Aa
      replace M := M.front 9 rfl
      simp only [zE, zF] at M
      replace M := M.front 9 rfl
      simp only [zE, zF] at M
      replace M := M.front 4 rfl
      simp only [zE, zF] at M
      replace M := M.front 4 rfl
      simp only [zE, zF] at M
      replace M := M.front 4 rfl
      simp only [zE, zF] at M
      replace M := M.front 6 rfl
      simp only [zE, zF] at M
      go_meet
      exact ⟨gv, tk, us4, vk4, vf4, un4, ut4, C0, C1, C2, f0, f1, f2, _, by go_num, by go_num, by omega, (hide (by have h := hT2.out; simpa [hr] using h)), hc, M.take 6⟩
    ·obtain ⟨us4, vk4, vf4, un4, ut4, rq4, oq4, hle, hT2, hI⟩ := tok_down a b c dn en ts ks fs tn st wk gv tk hT.out
     replace hT2 := hide hT2
     obtain ⟨tX, Ag, Ad, Ah, Ac, Ae⟩ := M.q5 1 rfl
     obtain ⟨tP, Ak, Aj, Am, Al, Ai⟩ := M.q5 6 rfl
     go_wp2_with fail
     go_call (hI.out B0 B1 B2 e0 e1 e2 _ (HGL.out.below (G.trans (Sep.belowB M (by intro q hq; have := HG.out; simp at hq; omega) G.size))) ⟨M.rowS 2 rfl, M.rowS 3 rfl, M.rowS 4 rfl⟩) as r W23 ⟨C0, C1, C2, f0, f1, f2, rfl, g1⟩
     clear tX Ag Ad Ah Ac Ae tP Ak Aj Am Al Ai
     replace M := Sep.new M g1
     simp only [zC, zN] at M
     clear g1
     obtain ⟨Af, Ab, Ao, Aa, An⟩ := M.f2 3 rfl
     obtain ⟨tX, Ag, Aq, Ad, As, Ah, At, Ac, Ar, Ae, Ap⟩ := M.f5 4 rfl
     go_simp
     iterate 12 (first | go_values | go_skip | go_guarded | go_step | go_upon | go_simp)
     clear Af Ab Ao Aa An tX Ag Aq Ad As Ah At Ac Ar Ae Ap
     replace M := M.gset5 4 rfl (.slice C0 us4.length f0) (.slice C1 vk4.length f1) (.slice C2 vf4.length f2) (.int .i64 un4) (.bool ut4)
     obtain ⟨W24, eW, M⟩ := M
     rw [eW]
     clear eW
     simp only [zZ, zS] at M
     obtain ⟨Af, Ab, Ao, Aa, An⟩ := M.f2 3 rfl
     iterate 3 (first | go_values | go_skip | go_guarded | go_step | go_upon | go_simp)
     clear Af Ab Ao Aa An
     replace M := M.gset2 3 rfl (.int .i64 rq4) (.int .i64 oq4)
     obtain ⟨W25, eW, M⟩ := M
     rw [eW]
     clear eW
     simp only [zZ, zS] at M
     by_cases hr : rq4 = 1
     ·subst hr
      obtain ⟨Af, Ab, Aa⟩ := M.q2 3 rfl
      go_wp2_with fail
      clear Af Ab Aa
      replace M := M.front 9 rfl
      simp only [zE, zF] at M
      replace M := M.front 9 rfl
      simp only [zE, zF] at M
      replace M := M.front 4 rfl
      simp only [zE, zF] at M
      replace M := M.front 4 rfl
      simp only [zE, zF] at M
      replace M := M.front 4 rfl
      simp only [zE, zF] at M
      replace M := M.front 6 rfl
      simp only [zE, zF] at M
      go_meet
      exact ⟨gv, (tk + 1), us4, vk4, vf4, un4, ut4, C0, C1, C2, f0, f1, f2, _, by go_num, by go_num, by omega, (hide (by have h := hT2.out; simpa using h)), hc, M.take 6⟩
     ·have hr2 : (rq4 == 1) = false := by simpa using hr
      obtain ⟨Af, Ab, Aa⟩ := M.q2 3 rfl
      go_wp2_with fail
      clear Af Ab Aa
      replace M := M.front 9 rfl
      simp only [zE, zF] at M
      replace M := M.front 9 rfl
      simp only [zE, zF] at M
      replace M := M.front 4 rfl
      simp only [zE, zF] at M
      replace M := M.front 4 rfl
      simp only [zE, zF] at M
      replace M := M.front 4 rfl
      simp only [zE, zF] at M
      replace M := M.front 6 rfl
      simp only [zE, zF] at M
      go_meet
      exact ⟨gv, tk, us4, vk4, vf4, un4, ut4, C0, C1, C2, f0, f1, f2, _, by go_num, by go_num, by omega, (hide (by have h := hT2.out; simpa [hr] using h)), hc, M.take 6⟩
   case rest =>
    clear M hc hT
    obtain ⟨gw, tw, ts, ks, fs, tn, st, B0, B1, B2, e0, e1, e2, cs61, rfl, rfl, hw, hT, hc, M⟩ := hcut
    obtain ⟨hw1, hw2, hw3, hw4⟩ := hw
    rename World => W26
    have hl := tok_lens hT.out
    obtain ⟨hl0, hl1, hl2⟩ := hl
    obtain ⟨k0, hk0, hs, hn⟩ := hT.out.2
    have hks := get_lt hk0
    have hks0 : ((ks.length : Int) == 0) = false := by rw [beq_eq_false_iff_ne]; omega
    have hks1 : (0 : Int) < (ks.length : Int) := by omega
    replace hn := hide hn
    have hsum : gw = k0 + tw := by omega
    have htk := token_get hT.out.1 hk0
    obtain ⟨htk1, htk2⟩ := htk
    obtain ⟨bk, ok, u1, eB, _, hu, _, zK⟩ := (M.rowS 2 rfl).ks_at hks
    rw [hk0] at hu
    injection hu with hu
    subst hu eB
    simp only [Nat.add_zero] at zK
    have HK0 := hide hk0
    clear hk0 hs
    subst hsum
    obtain ⟨tX, Ag, Ad, Ah, Ac, Ae⟩ := M.q5 0 rfl
    obtain ⟨tP, Ak, Aj, Am, Al, Ai⟩ := M.q5 5 rfl
    go_wp2_with fail
    go_call (gPoolOk_k e0 e1 e2 st true _ (by omega) (by omega) ⟨M.rowS 1 rfl, M.rowS 2 rfl, M.rowS 3 rfl⟩ hT.out.1) as r W27 ⟨rfl, g1⟩
    clear tX Ag Ad Ah Ac Ae tP Ak Aj Am Al Ai
    replace M := M.call g1
    clear g1
    by_cases hk9 : 0 < k0
    ·clear zK
     obtain ⟨bk2, ok2, u2, eB2, _, hu2, _, zK⟩ := (M.rowS 2 rfl).ks_at hks
     injection eB2 with eB2
     injection eB2 with eB2 eB3
     subst eB2 eB3
     rw [HK0.out] at hu2
     injection hu2 with hu2
     subst hu2
     simp only [Nat.add_zero] at zK
     obtain ⟨tX, Ag, Ad, Ah, Ac, Ae⟩ := M.q5 0 rfl
     go_wp2_with fail
     go_call (gWaitersOn_no ts ks fs B0 (some ⟨bk, ok, none⟩) B2 e0 e1 e2 tn st _ (by omega) (hn.out hk9) (M.rowS 1 rfl)) as r W28 ⟨LB, ld, rfl, g1⟩
     clear tX Ag Ad Ah Ac Ae
     replace M := Sep.new M g1
     simp only [zC, zN] at M
     clear g1
     replace M := M.tail
     clear zK
     go_wp2_with fail
     go_roundw
     case rel => exact ⟨k0 + tw, tw, n - 1, ts, ks, fs, tn, st, B0, (some ⟨bk, ok, none⟩), B2, e0, e1, e2, _, rfl, rfl, by go_num, by omega, hT, hc, M⟩
     case measure => simp [intOf]; omega
    ·clear zK
     obtain ⟨bk2, ok2, u2, eB2, _, hu2, _, zK⟩ := (M.rowS 2 rfl).ks_at hks
     injection eB2 with eB2
     injection eB2 with eB2 eB3
     subst eB2 eB3
     rw [HK0.out] at hu2
     injection hu2 with hu2
     subst hu2
     simp only [Nat.add_zero] at zK
     obtain ⟨tX, Ag, Ad, Ah, Ac, Ae⟩ := M.q5 0 rfl
     go_wp2_with fail
     clear tX Ag Ad Ah Ac Ae
     clear zK
     go_roundw
     case rel => exact ⟨k0 + tw, tw, n - 1, ts, ks, fs, tn, st, B0, (some ⟨bk, ok, none⟩), B2, e0, e1, e2, _, rfl, rfl, by go_num, by omega, hT, hc, M⟩
     case measure => simp [intOf]; omega
  ·clear hT
   obtain rfl : n = 0 := by omega
   clear hb1 hb2 hb3 hb4 hb5 hlt
   replace M := M.sub ((List.Sublist.slnil) |>.cons_cons _ |>.cons _ |>.cons _ |>.cons _ |>.cons _ |>.cons _)
   clear hc
   go_wp2_with fail
   have hgs := G.trans (Sep.belowB M (by intro q hq; have := HG.out; simp at hq; omega) G.size)
   have hs2 := hgs.size
   have hby2 : Bytes W7 w.heap.size A len := hby.keep fun b hb => hgs.block b (by omega)
   clear hgs
   go_call (drawUpped_any w.heap.size _ A len cap (by omega) hl hby2) as r W29 ⟨pa, pb, pc, pd, pe, ys, yk, yf, yn, yt, E0, E1, E2, i0, i1, i2, wv, kd, rfl, k0, k1, k2, g1⟩
   replace M := Sep.new M g1
   simp only [zC, zN] at M
   clear g1
   clear hby2 hs2
   obtain ⟨vs, vk, vf, vn, vt, rq, oq, hle, _, hS, hI⟩ := upped_told pa pb pc pd pe ys yk yf yn yt wv kd (by omega)
   go_wp2_with fail
   replace M := M.al2 28 #[.int .i64 pa, .int .i64 pb, .int .i64 pc, .int .i64 pd, .int .i64 pe] 35 #[.slice E0 ys.length i0, .slice E1 yk.length i1, .slice E2 yf.length i2, .int .i64 yn, .bool yt]
   obtain ⟨aQ, aU, W30, e1, e2, e3, M⟩ := M
   rw [e3, e2, e1]
   clear e1 e2 e3
   obtain ⟨tU, Aw, Av, Au, Ax, Bb⟩ := M.q5 0 rfl
   obtain ⟨tQ, Ba, Bc, Bd, Ay, Az⟩ := M.q5 1 rfl
   go_wp2_with fail
   go_call (hI.out E0 E1 E2 i0 i1 i2 _ (HGL.out.below (G.trans (Sep.belowB M (by intro q hq; have := HG.out; simp at hq; omega) G.size))) ⟨M.rowS 2 rfl, M.rowS 3 rfl, M.rowS 4 rfl⟩) as r W31 ⟨G0, G1, G2, j0, j1, j2, rfl, g1⟩
   clear tU Aw Av Au Ax Bb tQ Ba Bc Bd Ay Az
   replace M := Sep.new M g1
   simp only [zC, zN] at M
   clear g1
   obtain ⟨tU, Aw, Av, Au, Ax, Bb⟩ := M.q5 3 rfl
   obtain ⟨tQ, Ba, Bc, Bd, Ay, Az⟩ := M.q5 4 rfl
   go_wp2_with fail
   clear tU Aw Av Au Ax Bb tQ Ba Bc Bd Ay Az
   replace M := M.al2 35 #[.slice G0 vs.length j0, .slice G1 vk.length j1, .slice G2 vf.length j2, .int .i64 vn, .bool vt] 38 #[.int .i64 rq, .int .i64 oq]
   obtain ⟨aV, aVa, W32, e1, e2, e3, M⟩ := M
   rw [e3, e2, e1]
   clear e1 e2 e3
   obtain ⟨tU, Aw, Av, Au, Ax, Bb⟩ := M.q5 5 rfl
   obtain ⟨tQ, Ba, Bc, Bd, Ay, Az⟩ := M.q5 6 rfl
   go_wp2_with fail
   go_call (hS.out E0 E1 E2 i0 i1 i2 _ ⟨M.rowS 7 rfl, M.rowS 8 rfl, M.rowS 9 rfl⟩) as r W33 ⟨H0, H1, H2, n0, n1, n2, rfl, g1⟩
   clear tU Aw Av Au Ax Bb tQ Ba Bc Bd Ay Az
   replace M := Sep.new M g1
   simp only [zC, zN] at M
   clear g1
   clear hS hI
   obtain ⟨Bl, Bi, Bf⟩ := M.q2 3 rfl
   obtain ⟨tV, Bg, Bh, Be, Bj, Bk⟩ := M.q5 4 rfl
   go_wp2_with fail
   clear Bl Bi Bf tV Bg Bh Be Bj Bk
   replace M := M.al2 35 #[.slice H0 vs.length n0, .slice H1 vk.length n1, .slice H2 vf.length n2, .int .i64 vn, .bool vt] 38 #[.int .i64 rq, .int .i64 oq]
   obtain ⟨aT, aTa, W34, e1, e2, e3, M⟩ := M
   rw [e3, e2, e1]
   clear e1 e2 e3
   obtain ⟨Bt, Bn, Bx⟩ := M.q2 0 rfl
   obtain ⟨tT, Bv, Bs, Bp, Bm, Bq⟩ := M.q5 1 rfl
   obtain ⟨Bl, Bi, Bf⟩ := M.q2 5 rfl
   obtain ⟨tV, Bg, Bh, Be, Bj, Bk⟩ := M.q5 6 rfl
   try go_wp2_with fail
   go_call (likePool_same vs vk vf G0 G1 G2 H0 H1 H2 j0 j1 j2 n0 n1 n2 vn vt _ hle ⟨M.rowS 7 rfl, M.rowS 8 rfl, M.rowS 9 rfl⟩ ⟨M.rowS 2 rfl, M.rowS 3 rfl, M.rowS 4 rfl⟩) as r W35 ⟨rfl, g1⟩
   clear Bt Bn Bx tT Bv Bs Bp Bm Bq Bl Bi Bf tV Bg Bh Be Bj Bk
   replace M := M.call g1
   clear g1
   go_wp2
   go_ret
   exact ⟨rfl, G.trans (Sep.belowB M (by intro q hq; have := HG.out; simp at hq; omega) G.size)⟩
set_option maxRecDepth 100000
open Go.ChangeShapes Go.WideShapes Go.ChangeAt Go.RowKit Go.Joins Go.Deep
set_option maxHeartbeats 1600000 in
theorem fnTokens_all (w : World) (A : Option Addr) (len cap : Nat) (hby : Bytes w w.heap.size A len) (hg : Laid w) :
 Calls Tryz.prog 5 #[.slice A len cap] w fun r w' => r = .returned (.bool true) ∧ Below w.heap.size w w' := by
 by_cases hl : len ≤ 4096
 ·exact fnTokens_any w A len cap hby hl hg
 ·go_enter Tryz.func5, Tryz.ntmps5
  go_wp2_with fail
  go_call (big_any A len cap _) as r w' ⟨rfl, rfl⟩
  go_wp2_with fail
  go_ret
  exact ⟨rfl, Below.refl _ _⟩
theorem fnTokens_lifted (os : Os) (started : os.Started) (H : Type) (enc : TypeId × Value → H) :
 ReturnsInHanded {} Tryz.checked os 5 .any (fun w args => (Rows.fnTokensSpec.pre enc Tryz.prog Tryz.f5 [] false w args ∧ laidMetH Tryz.prog Rows.fnTokensRow.laid w) ∧ sizedMet enc Tryz.prog Tryz.f5 (OpenSpec.ofChange Rows.fnTokensSpec) false w args)
  (Rows.fnTokensSpec.post enc Tryz.prog Tryz.f5 false true false false) := by
 refine returnsInHanded_of_change_and (C := Tryz.checked) (X := fun w _ => laidMetH Tryz.prog Rows.fnTokensRow.laid w) (fun _ _ _ hh h => h.of_heap hh) own started (by kernel_rfl) Tryz.func5
  (ChangeSpec.witness_at (enc := enc) (C := Tryz.checked) (os := os) (X := fun w _ => laidMetH Tryz.prog Rows.fnTokensRow.laid w) false (laidWorld os) #[.slice none 0 0] 8 rfl (by kernel_rfl) (by kernel_rfl) (by kernel_rfl) (by kernel_rfl) (by kernel_rfl) (laidWorld_met os _)) ?_
 intro W base args ds gs before hval0 hW _ _ hL _
 have hg : Laid W := laid_of hL
 have hval : ∀ (j : Nat) t v, Tryz.f5.params[j]? = some t → args[j]? = some v → Value.okWide Tryz.prog W .any base t v := hval0
 have hW' := hW
 obtain ⟨p, q, hA0, hV, rfl, hfz, hnd⟩ := hW
 have hA : DataW.TrodAll enc Tryz.prog W 0 (fun _ => true) true Tryz.f5.params.toList args.toList ds p := hA0
 rw [Tryz.params5] at hA hval
 obtain ⟨v0, vs0, d0, ds0, p0, q0, hargs, rfl, rfl, h0, r0⟩ := trodAll_cons hA
 obtain ⟨rfl, rfl, rfl⟩ := trodAll_nil r0
 obtain rfl : args = #[v0] := by cases args; simp_all
 obtain ⟨rfl, rfl⟩ := trodVars_none hV
 have k0 := h0
 have lt0 : ∀ x ∈ p0, x.block < W.heap.size := by obtain ⟨m, hm⟩ := k0; exact DataW.trod_lt m _ _ _ hm
 obtain ⟨a0, len0, cap0, rfl⟩ := okWide_slice Tryz.underlying22 (hval 0 22 v0 rfl rfl)
 have w0 : Bytes W W.heap.size a0 len0 := by
  obtain ⟨fuel, hf⟩ := h0
  rcases open_ints Tryz.underlying22 Tryz.underlying5 (by kernel_rfl) hf with ⟨hcs, _⟩ | ⟨x, l, c, zs, hcs, _, hl, hm, hz, hx, hcell, hwz⟩
  ·simp [Value.cells] at hcs
   obtain ⟨rfl, rfl, rfl⟩ := hcs
   exact fun h => absurd h (by omega)
  ·simp [Value.cells] at hcs
   obtain ⟨rfl, rfl, rfl⟩ := hcs
   exact bytes_of_row hl hz hcell hwz
 clear hA0 hval0
 refine (fnTokens_all W a0 len0 cap0 w0 hg).mono fun e W' ⟨he, bel⟩ => ?_
 subst he
 exact ⟨_, rfl, _, _, _, [], _, [], hW', trodAll_mk1 (shut_bool Tryz.underlying4 _), (trodAll_cons_mk (Below.trod laidOut (by kernel_rfl) (of_decide_eq_true (by kernel_rfl)) k0 bel lt0) trodAll_mk0), rfl, bel.frame _, fun h => by cases h⟩
theorem fnTokens_row : Rows.FnTokensSaid :=
 OpenClaim.holds_of_wide 5 Tryz.f5 rfl rfl rfl rfl rfl rfl rfl ⟨rfl, rfl, rfl, rfl, rfl⟩ rfl rfl rfl rfl rfl (by kernel_rfl) Tryz.func5 (by kernel_rfl)
  (of_decide_eq_true (by kernel_rfl)) (by unfold Func.isWrapper; first | (rw [if_pos (by decide +kernel)]; kernel_rfl) | (rw [if_neg (by decide +kernel)]; exact ⟨rfl, rfl⟩))
  (fun os started H enc _ => fnTokens_lifted os started H enc)
theorem fnTokens_holds : Rows.FnTokensCardSaid :=
 Claim7.holds_tied_plain_at .later [] [.handle] true (true, "1ddc111ef434dc21be07b22c5137ff3ee3e2ba71598e119af0cae3a308b5c8b5") true
  fnTokens_row (fun _ h => by cases h) (by kernel_rfl) (fun _ h => by cases h) fnTokens_row_tie rfl ⟨rfl, rfl⟩ (by kernel_rfl) rfl
  (fun f fn hf hfn => by
   obtain rfl : f = 5 := Option.some.inj ((show Tryz.prog.funcNamed "loop.example/g00706/laws.FnTokens" = some 5 by kernel_rfl).symm.trans hf) |>.symm
   obtain rfl : fn = Tryz.f5 := (Option.some.inj (Tryz.func5.symm.trans hfn)).symm
   exact ⟨by kernel_rfl, fun j t ht => by
    rw [Tryz.params5] at ht
    have hm : t ∈ ([22] : List TypeId) := List.mem_of_getElem? (show [22][j]? = some t by simpa using ht)
    have hm2 := hm
    rcases (show t = 22 by simpa using hm2) with rfl
    ·exact (show Tryz.prog.wantsStandIn 22 = false by kernel_rfl)⟩)
  (by kernel_rfl)
#print axioms fnTokens_holds
end Go.Proofs.YtfkdfkoigojciaaGreatDoor
