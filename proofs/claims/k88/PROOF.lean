import PyProof.Rows.All
import Wide.All
import OpenK.AllK
import Wide.FinOn
import KE.OsRunLaw
import Open.Tops
import PySem.Challenge.RW_tailranks_k88_lines_that_are_no_commands
import HandS.Base
import HandS.Call
import HandS.List
import HandS.Comp
import HandS.Ends
import HandS.Dict
import HandS.Iter
import HandS.Text
import HandS.Words
import HandS.WordsList
import PyProof.ReprRoads
import PyProof.FitsInt
import PyProof.StrOps2
import PyProof.Rows.StrMeet
import KE.GoesMore
import PyProof.Draws
import PyProof.EnumMake
import KE.SortData
import HandS.Codes
import HandS.TupAny
import HandS.TupLe
import KE.KIndexOf
import HandS.Conv
import HandS.Style
import HandS.IsInst
import PyProof.CallFns
import PyProof.ListStr
import HandS.Walk
import KE.GoesZip
import HandS.StrMore
import HandS.Deep
import HandS.Replace
import HandS.SetFor
import PyProof.StrLawsRepr
import HandS.Set
import HandS.SetTxt0
import KE.DataMinMax
import KE.DataCmp
import HandS.Wide
import HandS.Star
import PyProof.P3In
import HandS.ForExc
import HandS.ExcInit
import HandS.ExcIs
import HandS.ExcField
import HandS.TryMany
import HandS.ExcCtx
import HandS.HotCalls
import KE.KExcInit
import KE.KExcIs
import PyProof.NeData
import PyProof.StrBlock2
import HandS.TryOnly
import HandS.TupMul
import HandS.GenList
import PyProof.Rows.ReprOcc
import HandS.FStr
import PyProof.Rows.StrSplitJoin
import PyProof.Rows.StrSplitCount
import HandS.Flow
import KE.KTryMore
import HandS.Property
import KE.KCallOwn
import OpenK.KOps
import HandS.ClsMeth
import KE.KSuper
import HandS.Nested
set_option Elab.async false
set_option linter.all false
set_option maxRecDepth 100000
set_option maxHeartbeats 4000000
set_option exponentiation.threshold 3000
namespace Kh
open PySem PySem.W PyProof.Rows
/-- the boot's state -/
noncomputable abbrev bootS (w : World) (os : OsState) : Shared := ⟨boot_heap w.params, #[], boot_drawn, boot_toks, os⟩
/-- what is seen of the state behind the top -/
def Sees (p q : Program) (loose : List Str) (Xt : Shared → Bool) (K : Params → Frag) (as : List Addr) (w : World) (s : SharedT) : Prop :=
  (HeadRun.looksF p (boot_heap w.params) s.abs, HeadRun.seenQ q loose (importedModules p.main.body) Xt s.abs, as.map (HeadRun.getT s)) = (true, openGood q loose, (K w.params).map fun x => some x.2)
theorem left_of {p q : Program} {loose : List Str} {Xt : Shared → Bool} {K : Params → Frag} {as : List Addr} {ek : ∀ P, as = (K P).map (·.1)} {N M : Nat} (eo : opening p = plainProg p.main.scope.names) (h6 : Nat.ble 600 N = true) (fm : ∀ z, fenceModules? p z = some z) (hM : Nat.ble M N = true)
    (run : ∀ (w : World) (os : OsState), ∃ s : SharedT, topRun treeTable p w (boot_heap w.params).objs.size (HeadRun.bootAnn w) M (bootS w os) (topStub p) = some s.abs ∧ Sees p q loose Xt K as w s) :
    LeftO p q loose Xt (Hook.obs (kHook K as ek)) (Hook.val (kHook K as ek)) N true := by
  intro w
  obtain ⟨⟨bh, bg, bd, bk, os⟩, hb, hv⟩ := Option.map_eq_some_iff.mp (boot_open eo h6 fm w)
  obtain ⟨z1, z2, z3, z4⟩ : bh = boot_heap w.params ∧ bg = Array.mk [] ∧ bd = boot_drawn ∧ bk = boot_toks := by simpa using hv
  subst z1 z2 z3 z4
  obtain ⟨s, hr, hs⟩ := run w os
  obtain ⟨s1, s2, s3⟩ : _ ∧ _ ∧ _ := by simpa only [Sees, Prod.mk.injEq] using hs
  have hr2 := topRun_mono (N - M) M _ _ _ hr
  rw [Nat.add_sub_cancel' (Nat.le_of_ble_eq_true hM)] at hr2
  have tf : topFrom treeTable p w N (bootS w os) = some s.abs := by
    unfold topFrom; dsimp only; rw [HeadRun.boot_ns]
    show (topRun treeTable p w _ (HeadRun.bootAnn w) N (bootS w os) (topStub p)).bind _ = some s.abs
    rw [hr2]
    show (match (HeadRun.looksF p (boot_heap w.params) s.abs) with | true => some s.abs | false => none) = some s.abs
    rw [s1]
  have e3 : Hook.obs (kHook K as ek) s.abs = as.map (HeadRun.getT s) := (List.map_congr_left fun a _ => HeadRun.getT_eq s a).symm
  unfold openEnds; rw [hb]
  show Option.map _ (topFrom treeTable p w N (bootS w os)) = _
  rw [tf]
  refine congrArg some (Prod.ext ?_ ?_)
  · show openSeen q loose _ Xt true s.abs = _
    rw [HeadRun.seenQ_eq]; exact s2
  · show Hook.obs (kHook K as ek) s.abs = _
    rw [e3]; exact s3
/-- from the first statements' pieces and one run of the rest -/
theorem run_of {p : Program} {w : World} {os : OsState} {n0 : Nat} {ann : Option Value} {env : Env} {c : Code} {q pos pB pK : Pos} {k1 kb M M2 : Nat} {Sb Sk : SharedT} {all rest : List Stmt} (hm : (boot_heap w.params).objs.size = n0) (ha : HeadRun.bootAnn w = ann)
    (h1 : (topGo treeTable p w n0 ann k1 (bootS w os) (topStub p)).map (·.2) = some ⟨denote treeTable (.body all env), c, pos, [topFrame q]⟩)
    (h2 : (topGo treeTable p w n0 ann k1 (bootS w os) (topStub p)).bind (fun x => segRun treeTable p w n0 ann 1 kb x.1 (blockOf all env c pos [topFrame q])) = some (.next, Sb.abs, c, pB))
    (h3 : ∀ N r, topRun treeTable p w n0 ann N Sk.abs (restOf rest env c pK [topFrame q]) = some r → topRun treeTable p w n0 ann (M + N) Sb.abs (restOf all env c pB [topFrame q]) = some r)
    {f : SharedT → Prop} (h4 : ∃ s, HeadRun.goF (HeadRun.stepQ (HeadRun.denQ HeadRun.tabQ) p w) n0 ann M2 Sk (restOf rest env c pK [topFrame q]) = some s ∧ f s) :
    ∃ s : SharedT, topRun treeTable p w (boot_heap w.params).objs.size (HeadRun.bootAnn w) (k1 + (kb + (M + M2))) (bootS w os) (topStub p) = some s.abs ∧ f s := by
  obtain ⟨s, hs, fs⟩ := h4
  rw [← HeadRun.tabQ_eq, ← HeadRun.denQ_eq, ← HeadRun.stepQ_eq] at hs
  have r1 := h3 _ _ (HeadRun.goF_ok hs)
  cases hg : topGo treeTable p w n0 ann k1 (bootS w os) (topStub p) with
  | none => rw [hg] at h1; cases h1
  | some x =>
    obtain ⟨sa, ta⟩ := x
    rw [hg] at h1 h2
    injection h1 with h1
    have h1 : ta = _ := h1
    subst h1
    refine ⟨s, ?_, fs⟩
    rw [hm, ha]
    exact go_top hg (piece_block (show segRun treeTable p w n0 ann 1 kb sa _ = _ from h2) r1)
theorem some_of {α β : Type} {o : Option α} {g : α → β} {b : β} (h : o.map g = some b) : ∃ s, o = some s ∧ g s = b := Option.map_eq_some_iff.mp h
end Kh
section HeadOnly
namespace Kp
open PySem PySem.W PyProof.Rows
def topH (i : Nat) : Stmt := PySem.Challenge.pw_tailranks_k88_lines_that_are_no_commands.main.body.getD i (.Pass ⟨0, 0, 0, 0⟩)
def vw : Program := { PySem.Challenge.pw_tailranks_k88_lines_that_are_no_commands with main := { PySem.Challenge.pw_tailranks_k88_lines_that_are_no_commands.main with body := [topH 0, topH 2, topH 3, topH 4, topH 5, topH 6, topH 7, topH 8, topH 9, topH 10, topH 11, topH 12, topH 13, topH 14, topH 15, topH 16, topH 17, topH 18, topH 20, topH 21, topH 22, topH 23, topH 25, topH 26, topH 27, topH 28, topH 29, topH 30, topH 32, topH 34, topH 35, topH 36, topH 38, topH 39, topH 40, topH 41, topH 43, topH 44, topH 45, topH 46, topH 47, topH 48, topH 50, topH 51, topH 52, topH 53, topH 54, topH 55, topH 56, topH 57, topH 58, topH 60, topH 61, topH 63, topH 64, topH 65, topH 66, topH 67, topH 68, topH 69, topH 70, topH 72, topH 73, topH 74, topH 75, topH 76, topH 77, topH 78, topH 79, topH 80, topH 81, topH 82] } }
open_shared sh for PySem.Challenge.pw_tailranks_k88_lines_that_are_no_commands leaving 13
end Kp
open PySem PySem.W PyProof.Rows
open Lean in
local macro_rules | `(tactic| o_headL $H:term) => do
  let f := mkIdent `HF
  `(tactic| exact $f $H)
theorem Kp.left0 (HF : Hook → (PySem.Challenge.rw_tailranks_k88_lines_that_are_no_commands).row.Holds) : (PySem.Challenge.rw_tailranks_k88_lines_that_are_no_commands).row.Holds := by
  k_headL
namespace Kp
def asL : List Addr := [2, 3, 15, 17, 18, 20, 21, 22, 29, 30, 31, 32, 35, 42, 44, 45, 47, 48, 49, 50, 51, 54, 61, 63, 64, 66, 67, 68, 69, 70, 73, 80, 82, 83, 85, 86, 87, 88, 89, 92, 99, 100, 101, 104, 111, 113, 114, 116, 117, 118, 119, 120, 123, 130, 131, 132, 135, 142, 143, 144, 147, 154, 155, 156, 159, 166, 168, 169, 171, 172, 173, 174, 175, 178, 185, 187, 188, 190, 191, 192, 193, 194, 197, 204, 205, 206, 209, 216, 218, 219, 221, 222, 223, 224, 225, 228, 235, 237, 238, 240, 241, 242, 243, 244, 245, 248, 250, 251, 253, 254, 255, 257, 258, 260, 261, 262, 264, 265, 267, 268, 269, 271, 272, 274, 275, 276, 278, 279, 281, 282, 283, 285, 286, 288, 289, 290, 292, 293, 295, 296, 297, 300, 301, 302, 304, 305, 307, 308, 309, 311, 312, 314, 315, 316, 319, 320, 321, 324, 325, 326, 328, 329, 331, 332, 333, 335, 336, 338, 339, 340, 343, 344, 345, 347, 348, 350, 351, 352, 354, 355, 357, 358, 359, 361, 362, 364, 365, 366, 369, 370, 371, 374, 375, 376, 378, 379, 381, 382, 383, 386, 387, 388, 390, 391, 393, 394, 402, 404, 405, 407, 408, 409, 411, 412, 414, 415, 416, 418, 419, 421, 422, 423, 424, 425, 426, 427, 428, 431, 433, 434, 436, 437, 438, 440, 441, 443, 444, 445, 447, 448, 450, 451, 452, 454, 455, 457, 458, 459, 461, 462, 464, 465, 466, 469, 470, 471, 474, 475, 476, 477, 479, 480, 482, 483, 484, 486, 487, 489, 490, 491, 493, 494, 496, 497, 498, 500, 501, 503, 504, 505, 507, 508, 510, 511, 512, 514, 515, 517, 518, 526, 527, 529, 530, 532, 533, 534, 536, 537, 539, 540, 541, 542, 543, 544, 546, 547, 549, 550, 551, 552, 553, 554, 556, 557, 559, 560, 561, 562, 563, 564, 566, 567, 569, 570, 571, 572, 574, 575, 577, 578, 579, 580, 582, 583, 585, 586, 587, 588, 590, 591, 593, 594, 597, 599, 600, 602, 603, 604, 605, 607, 608, 610, 611, 612, 613, 615, 616, 618, 619, 620, 622, 623, 625, 626, 627, 629, 630, 632, 633, 634, 636, 637, 639, 640, 641, 643, 644, 646, 647, 648, 649, 651, 652, 654, 655, 656, 658, 659, 661, 662, 663, 665, 666, 668, 669, 670, 672, 673, 675, 676, 677, 679, 680, 682, 683, 684, 686, 687, 689, 690, 691, 693, 694, 696, 697, 698, 700, 701, 703, 704, 705, 707, 708, 710, 711, 712, 714, 715, 717, 718, 719, 721, 722, 724, 725, 726, 728, 729, 731, 732, 733, 735, 736, 738, 739, 740, 742, 743, 745, 746, 747, 749, 750, 752, 753, 754, 756, 757, 759, 760, 761, 763, 764, 766, 767, 768, 770, 771, 773, 774, 775, 777, 778, 780, 781, 782, 784, 785, 787, 788, 789, 791, 792, 794, 795, 796, 797, 798, 799, 800, 803, 806, 807, 808, 810, 811, 813, 814, 815, 817, 818, 820, 821, 822, 824, 825, 827, 828, 829, 832, 833, 834, 836, 837, 839, 840, 841, 844, 845, 846, 848, 849, 851, 852, 853, 855, 856, 858, 859, 860, 862, 863, 865, 866, 867, 869, 870, 872, 873]
theorem asL_ok : ∀ P, asL = (Kp.left0.heap_1 P).map (·.1) := fun P => by kernel_rfl
abbrev pg : Program := (PySem.Challenge.rw_tailranks_k88_lines_that_are_no_commands).row.prog
abbrev bd : List Stmt := behindTheImports pg
def restS : List Stmt := PySem.Challenge.pw_tailranks_k88_lines_that_are_no_commands.main.body.drop 70
noncomputable abbrev cd0 : Code := .body bd Kp.sh.env_1
theorem run_1 (w : World) (os : OsState) : (topGo treeTable pg w 11 (some (PySem.Value.ref 6)) 12 (Kh.bootS w os) (topStub pg)).map (·.2) = some ⟨denote treeTable (.body bd Kp.sh.env_1), cd0, ⟨0, 0, 0, 0⟩, [topFrame ⟨0, 0, 0, 0⟩]⟩ := by kernel_rfl
theorem run_2 (w : World) (os : OsState) : (topGo treeTable pg w 11 (some (PySem.Value.ref 6)) 12 (Kh.bootS w os) (topStub pg)).bind (fun x => segRun treeTable pg w 11 (some (PySem.Value.ref 6)) 1 1 x.1 (blockOf bd Kp.sh.env_1 cd0 ⟨0, 0, 0, 0⟩ [topFrame ⟨0, 0, 0, 0⟩])) = some (.next, SharedT.abs (⟨Kp.sh.tree_4 w.params, 15, {}, ⟨[]⟩, {}, 187, os⟩ : SharedT), cd0, ⟨0, 0, 0, 0⟩) := by kernel_rfl
theorem all_is : bd = (Kp.sh.sts_4 ++ (Kp.sh.sts_28 ++ (Kp.sh.sts_51 ++ (Kp.sh.sts_74 ++ (Kp.sh.sts_97 ++ (Kp.sh.sts_113 ++ (Kp.sh.sts_136 ++ (Kp.sh.sts_152 ++ (Kp.sh.sts_168 ++ (Kp.sh.sts_184 ++ (Kp.sh.sts_207 ++ (Kp.sh.sts_230 ++ (Kp.sh.sts_246 ++ (Kp.sh.sts_269 ++ (Kp.sh.sts_320 ++ (Kp.sh.sts_399 ++ (Kp.sh.sts_445 ++ (Kp.sh.sts_491 ++ (Kp.sh.sts_570 ++ restS))))))))))))))))))) := by kernel_rfl
theorem run_3 (w : World) (os : OsState) (N : Nat) (r : Shared) (h : topRun treeTable pg w 11 (some (PySem.Value.ref 6)) N (SharedT.abs (⟨Kp.sh.tree_578 w.params, 519, {}, ⟨[]⟩, {}, 863, os⟩ : SharedT)) (restOf restS Kp.sh.env_1 cd0 ⟨251, 0, 256, 26⟩ [topFrame ⟨0, 0, 0, 0⟩]) = some r) : topRun treeTable pg w 11 (some (PySem.Value.ref 6)) (4837 + N) (SharedT.abs (⟨Kp.sh.tree_4 w.params, 15, {}, ⟨[]⟩, {}, 187, os⟩ : SharedT)) (restOf bd Kp.sh.env_1 cd0 ⟨0, 0, 0, 0⟩ [topFrame ⟨0, 0, 0, 0⟩]) = some r := by
  have z := Kp.sh.chain pg bd w os restS N r h
  rw [← all_is] at z
  rw [show (Nat.add 225 (Nat.add 246 (Nat.add 246 (Nat.add 246 (Nat.add 214 (Nat.add 246 (Nat.add 214 (Nat.add 214 (Nat.add 214 (Nat.add 246 (Nat.add 246 (Nat.add 214 (Nat.add 246 (Nat.add 394 (Nat.add 374 (Nat.add 247 (Nat.add 378 (Nat.add 396 (Nat.add 31 N))))))))))))))))))) = 4837 + N by simp only [Nat.add_eq]; omega] at z
  exact z
theorem run_4 (w : World) (os : OsState) : (HeadRun.goF (HeadRun.stepQ (HeadRun.denQ HeadRun.tabQ) pg w) 11 (some (PySem.Value.ref 6)) 2694 (⟨Kp.sh.tree_578 w.params, 519, {}, ⟨[]⟩, {}, 863, os⟩ : SharedT) (restOf restS Kp.sh.env_1 cd0 ⟨251, 0, 256, 26⟩ [topFrame ⟨0, 0, 0, 0⟩])).map (fun s => (HeadRun.looksF pg (boot_heap w.params) s.abs, HeadRun.seenQ Kp.vw ["Console", "SIZES", "Desk"] (importedModules pg.main.body) (fun z => xlAt Kp.vw [] z && recOk (RowW.records (PySem.Challenge.rw_tailranks_k88_lines_that_are_no_commands).row.toRowW) z) s.abs, asL.map (HeadRun.getT s))) = some (true, openGood Kp.vw ["Console", "SIZES", "Desk"], (Kp.left0.heap_1 w.params).map fun x => some x.2) := by kernel_rfl
theorem left1 : LeftO pg Kp.vw ["Console", "SIZES", "Desk"] (fun z => xlAt Kp.vw [] z && recOk (RowW.records (PySem.Challenge.rw_tailranks_k88_lines_that_are_no_commands).row.toRowW) z) (Hook.obs (kHook Kp.left0.heap_1 asL asL_ok)) (Hook.val (kHook Kp.left0.heap_1 asL asL_ok)) 8144 true := Kh.left_of (M := 12 + (1 + (4837 + 2694))) (by kernel_rfl) (by rfl) (fun z => by kernel_rfl) (by rfl) fun w os => Kh.run_of (n0 := 11) (by kernel_rfl) (by kernel_rfl) (run_1 w os) (run_2 w os) (run_3 w os) (Kh.some_of (run_4 w os))
end Kp
end HeadOnly
namespace Kb
open PySem PySem.Spec PyProof.Rows L2
/-! ### repr of data, where no repr is under way -/
/-! ### a def's run at one place alone -/
theorem runAt {P : Program} {w : World} {K : PySem.W.Frag} {mg : Str → Option Value} {base : Heap} {k : Nat} {f : Addr}
    {name qual : Str} {pa : Arguments} {bd : List Stmt} {sc : Scope} {dV kV dc pm cv ct oc : Value} {an od : Option Addr}
    {sl : Array (Option Value)} {N ps : List Str} {A : Around} {outer : List Env} {s : Shared} {H : Hp} {args : Args}
    {us : List Value} {vs : List V} {Q : VK} {t : TS}
    (lk : K.lookup f = some ⟨oc, od, .func (PySem.W.fnOf name qual pa bd sc dV kV dc pm an cv ct), sl⟩)
    (cd : PySem.W.codeIn K cv qual = true) (S : FnScope N ps sc) (hl : vs.length = ps.length) (room : Room (k + 1) A)
    (e0 : Env0 P w K mg base A outer s H)
    (bt : BindsTo s (PySem.W.fnOf name qual pa bd sc dV kV dc pm an cv ct) args (ps.zip us)) (rv : Vals vs us)
    (ht : PSs (cxOf CX0 P w K mg base N qual sc f cv A outer s H E0) bd t)
    (hq : t { nx := fun _ H' => Q .non H', rt := Q } (start N vs) H) :
    codeAny (model P w) A (.call (.ref f) args) (CR CX0 outer P w H s Q E0) s := by
  have kin : K.In s.heap := e0.mod.kin.keeps (fun b o e => (e0.bs b o e).1)
  have lim : s.heap.NoLimit := e0.mod.nolimit.keeps (fun b o e => (e0.bs b o e).1)
  refine codeAny_call_function room.depth (kin _ _ lk) rfl S.co S.gen rfl (PySem.W.codeRec_of kin cd) (bt _ _ _ _ ?_)
  refine wpAny_newFunctionEnv_cells S.kind (fun y hy => ?_) (fun env he s1 x => ?_)
  · obtain ⟨n, v⟩ := y
    cases S.par n (List.of_mem_zip hy).1 with
    | inl q => exact .inl q
    | inr q => exact .inr ⟨q, PySem.W.cellsFrom_some _ _ _ (.inl q)⟩
  · subst he
    refine ⟨lim.keeps x.toInCall.keep, codeAny_func ?_⟩
    have I := inv_start (CX := CX0) (E := E0) S room.hd e0 hl rv x
    refine wpAny_mono (ht.run [] s1 (start N vs) H _ I hq) (fun fl s' z => ?_) (fun e s' z => z)
    cases fl with
    | ret u =>
      obtain ⟨v, σ', H', J, rr, q⟩ := z
      exact ⟨v, H', J.os, J.bare, J.base, J.hok, rr, q⟩
    | next =>
      obtain ⟨σ', H', J, q⟩ := z
      exact ⟨V.non, H', J.os, J.bare, J.base, J.hok, rfl, q⟩
    | brk =>
      obtain ⟨_, _, _, q⟩ := z
      exact q.elim
    | cont =>
      obtain ⟨_, _, _, q⟩ := z
      exact q.elim
/-! ### the law's own call, where its run is known at the caller's place -/
theorem lawAt {P : Program} {w : World} {K : PySem.W.Frag} {mg mb : Str → Option Value} {fa a : Addr} {s₁ : Shared}
    {vs : List Value} {ns : List Int} (kin : K.In s₁.heap) (gl : s₁.heap.Ns mainGlobals mg) (bl : s₁.heap.Ns builtinsNs mb)
    (boot : ∀ x : Str, x ≠ "__name__" → mb x = bootBuiltins x) (lim : s₁.heap.NoLimit) (gens : s₁.gens = #[])
    (oa : s₁.heap.get? a = some { cls := .type "list", data := .seq vs.toArray }) (hiv : IntsAre vs ns)
    (small : ns.length ≤ sizeLine)
    (run : ∀ (base : Heap) (H : Hp), K.In base → base.Ns mainGlobals mg → Env0 P w K mg base callerA [] s₁ H →
      SqL K H a (ns.map V.int) →
      codeAny (model P w) callerA (.call (.ref fa) ⟨[.ref a], []⟩) (CR CX0 [] P w H s₁ (fun v _ => v = .bl true) E0) s₁) :
    codeAny (model P w) callerA (.call (.ref fa) ⟨[.ref a], []⟩)
      (fun r s' => r = .ok (.ret (.bool true)) ∧ OldK s₁.heap s'.heap ∧ s'.os = s₁.os ∧ AllBare s'.gens) s₁ := by
  have rv := vals_ints hiv
  have lv : vs.length = ns.length := hiv.length
  have main : ∀ H : Hp, (∀ b, H b = none ∨ (b = a ∧ K.lookup a = none ∧ ∃ o xs, H b = some (.frz o (.lst xs)))) →
      SqL K H a (ns.map V.int) → HOk P w H s₁.heap →
      codeAny (model P w) callerA (.call (.ref fa) ⟨[.ref a], []⟩)
        (fun r s' => r = .ok (.ret (.bool true)) ∧ OldK s₁.heap s'.heap ∧ s'.os = s₁.os ∧ AllBare s'.gens) s₁ := by
    intro H only sq hok
    have dicts : ∀ {b : Addr} {m : Str → Option Value}, s₁.heap.Ns b m → (hidT s₁.heap H).Ns b m := by
      rintro b m ⟨o, es, ep, g, dd, r⟩
      refine ⟨o, es, ep, hidT_get g ?_, dd, r⟩
      rcases only b with z | ⟨rfl, _, _⟩
      · exact z
      · rw [oa] at g
        cases g
        cases dd
    have kb : K.In (hidT s₁.heap H) := by
      intro b o g
      refine hidT_get (kin b o g) ?_
      rcases only b with z | ⟨rfl, z, _⟩
      · exact z
      · rw [z] at g
        cases g
    have lim' : (hidT s₁.heap H).NoLimit := by
      obtain ⟨mc, z1, z2⟩ := lim
      exact ⟨mc, dicts z1, z2⟩
    have env : Env0 P w K mg (hidT s₁.heap H) callerA [] s₁ H := {
      frames := rfl
      mod := ⟨kb, dicts gl, ⟨mb, dicts bl, boot⟩, lim'⟩
      bs := fun b o g => of_hidT g
      bsz := Nat.le_of_eq (hidT_size _ _)
      funs := trivial
      frf := fun b z => nomatch (show b ∈ ([] : List Addr) from z)
      hok := hok
      bare := .of_eq gens }
    refine codeAny_mono (run _ H kb (dicts gl) env sq) ?_
    rintro (e | fl) s' h
    · exact h.elim
    · cases fl with
      | next => exact h.elim
      | brk => exact h.elim
      | cont => exact h.elim
      | ret u =>
        obtain ⟨v, H', os, bare, un, hok', rel, rfl⟩ := h
        obtain rfl : u = Value.bool true := rel
        refine ⟨rfl, OldK.of_keep ?_, os, bare⟩
        intro b o g
        rcases only b with z | ⟨_, _, ob, xs, z⟩
        · exact un.keep b o g z (fun z => nomatch (show b ∈ ([] : List Addr) from z)) (fun z => nomatch z)
        · have g1 := (hok b _ z).1
          have g2 := (hok' b _ (un.frzs b ob _ z)).1
          rw [g] at g1
          cases g1
          exact g2
  cases own : K.lookup a with
  | some o =>
    have g := kin a o own
    rw [oa] at g
    cases g
    refine main (fun _ => none) (fun b => .inl rfl) (.inr ⟨_, vs.toArray, _, own, rfl, rfl, rfl, ?_, ?_⟩) ?_
    · rw [List.size_toArray, lv]
      exact small
    · simpa using rv
    · intro b u z
      cases z
  | none =>
    refine main (fun b => if b = a then some (.frz { cls := .type "list", data := .seq vs.toArray } (.lst (ns.map V.int))) else none)
      ?_ (.inl (.inr ⟨_, if_pos rfl⟩)) ?_
    · intro b
      by_cases e : b = a
      · exact .inr ⟨e, own, _, _, if_pos e⟩
      · exact .inl (if_neg e)
    · intro b u z
      dsimp only at z
      by_cases e : b = a
      · rw [if_pos e] at z
        cases z
        subst e
        exact ⟨oa, by rw [List.length_map]; exact small, vs, _, rv, oa⟩
      · rw [if_neg e] at z
        cases z
theorem walkAt {l : PySem.W.OpenLaw} {n : Nat} {q : Program} {loose : List Str} {XP : (Str → Option Value) → Heap → Prop}
    {YP : World → Heap → Prop} {d : DefRec} {K : Params → PySem.W.Frag} (most : l.most = some n) (le : n ≤ sizeLine)
    (nodef : d.params.defaults = []) (hY : ∀ (w : World) (h : Heap), YP w h → (K w.params).In h)
    (F : ∀ (w : World) (mg : Str → Option Value) (fa : Addr) (h : Heap), (K w.params).In h → h.Ns mainGlobals mg →
      mg d.name = some (.ref fa) → ∀ (base : Heap) (s : Shared) (H : Hp) (a : Addr) (ns : List Int), ns.length ≤ n →
      (K w.params).In base → base.Ns mainGlobals mg → Env0 l.prog w (K w.params) mg base callerA [] s H →
      SqL (K w.params) H a (ns.map V.int) →
      codeAny (model l.prog w) callerA (.call (.ref fa) ⟨[.ref a], []⟩)
        (CR CX0 [] l.prog w H s (fun v _ => v = .bl true) E0) s) :
    PySem.W.WalkO q loose XP YP l.row.toRowW d [] (fun f vs => PySem.call f vs) := by
  refine Att.attach_call most nodef ?_
  intro w s0 s1 mg mb fa o pm cd doc a vs ns G Y _ _ _ hmg oa hiv len gens
  have kin := hY w _ Y
  refine lawAt kin G.T.g G.T.b G.T.builtins G.T.nolimit gens oa hiv (Nat.le_trans len le) ?_
  intro base H kb gb e0 sq
  exact F w mg fa _ kin G.T.g hmg base s1 H a ns len kb gb e0 sq
/-! ### heaps -/
theorem same_new {H : Hp} {p : Addr} {o : HO} (h : H p = none) : Same H (upd H p o) := fun b x e => by
  rw [upd_ne (ne_of_none e h)]
  exact e
/-- the stream: its list at p, the great cells at b, all cells at c, the number of turns -/
structure Stm (H : Hp) (p b c : Addr) (t : Nat) : Prop where
  ex : ∃ (i : Int) (big cells : List Int), H p = some (.lst [.ref b, .ref c, .int i]) ∧ 0 ≤ i ∧ i ≤ t ∧
    H b = some (.lst (big.map V.int)) ∧ big.length ≤ 63 ∧ H c = some (.lst (cells.map V.int)) ∧ 0 < cells.length ∧ cells.length ≤ 64
  bc : b ≠ c
/-- all but the stream stands -/
def Kept (p b : Addr) (H H' : Hp) : Prop := ∀ (q : Addr) (o : HO), q ≠ p → q ≠ b → H q = some o → H' q = some o
theorem Kept.refl {p b : Addr} (H : Hp) : Kept p b H H := fun _ _ _ _ h => h
theorem Kept.trans {p b : Addr} {H H1 H2 : Hp} (x : Kept p b H H1) (y : Kept p b H1 H2) : Kept p b H H2 :=
  fun q o h1 h2 e => y q o h1 h2 (x q o h1 h2 e)
theorem Kept.same {p b : Addr} {H H1 : Hp} (x : Same H H1) : Kept p b H H1 := fun q o _ _ e => x q o e
theorem Stm.same {H H1 : Hp} {p b c : Addr} {t : Nat} (S : Stm H p b c t) (h : Same H H1) : Stm H1 p b c t := by
  obtain ⟨⟨i, big, cells, h1, h2, h3, h4, h5, h6, h7⟩, h8⟩ := S
  exact ⟨⟨i, big, cells, h _ _ h1, h2, h3, h _ _ h4, h5, h _ _ h6, h7⟩, h8⟩
theorem Stm.mono {H : Hp} {p b c : Addr} {t u : Nat} (S : Stm H p b c t) (h : t ≤ u) : Stm H p b c u := by
  obtain ⟨⟨i, big, cells, h1, h2, h3, h4, h5, h6, h7⟩, h8⟩ := S
  exact ⟨⟨i, big, cells, h1, h2, by omega, h4, h5, h6, h7⟩, h8⟩
theorem dpAll_ints {K : PySem.W.Frag} {H : Hp} : ∀ ns : List Int, DpAll K H (ns.map V.int) (ns.map PyData.int)
  | [] => .nil
  | n :: ns => .cons (.int n) (dpAll_ints ns)
theorem lay_ints : ∀ ns : List Int, PyData.canLayAll0 (ns.map PyData.int) = true
  | [] => rfl
  | n :: ns => by
    simp only [List.map_cons, PyData.canLayAll0, PyData.canLay0, Bool.true_and]
    exact lay_ints ns
theorem depth_ints : ∀ ns : List Int, PyData.depthAll (ns.map PyData.int) ≤ 1
  | [] => by simp [PyData.depthAll]
  | n :: ns => by
    have h := depth_ints ns
    simp only [List.map_cons, PyData.depthAll, PyData.depth]
    omega
theorem shaped_ints (ns : List Int) : SeqAt.shaped (.list (ns.map PyData.int)) = true := by
  have h1 := depth_ints ns
  have h2 : PyData.depth (.list (ns.map PyData.int)) ≤ 64 := by
    simp only [PyData.depth]
    omega
  unfold SeqAt.shaped
  rw [Bool.and_eq_true]
  exact ⟨by simp only [PyData.canLay0]; exact lay_ints ns, decide_eq_true h2⟩
theorem eqv_nil (ns : List Int) : PyData.eqv (.list (ns.map PyData.int)) (.list []) = ns.isEmpty := by
  cases ns with
  | nil => simp [PyData.eqv, PyData.eqvAll]
  | cons n ns => simp [PyData.eqv, PyData.eqvAll]
theorem ix0 (n : Nat) : ixN (n + 1) 0 = some 0 := by
  unfold ixN
  rw [if_pos (by decide), if_pos (by omega)]
  rfl
theorem sq0 (n : Nat) : seqIndex? 0 (n + 1) = some 0 := by
  unfold seqIndex?
  simp
theorem ixNat {n j : Nat} (h : j < n) : ixN n (j : Int) = some j := by
  unfold ixN
  rw [if_pos (by omega), if_pos (by omega)]
  rfl
theorem Stm.upd {H : Hp} {p b c D : Addr} {t : Nat} {o : HO} (S : Stm H p b c t) (h : D ≠ p ∧ D ≠ b ∧ D ≠ c) : Stm (upd H D o) p b c t := by
  obtain ⟨⟨i, big, cells, h1, h2, h3, h4, h5, h6, h7⟩, h8⟩ := S
  exact ⟨⟨i, big, cells, by rw [upd_ne h.1.symm]; exact h1, h2, h3, by rw [upd_ne h.2.1.symm]; exact h4, h5, by rw [upd_ne h.2.2.symm]; exact h6, h7⟩, h8⟩
theorem Kept.upd {p b D : Addr} {H H1 : Hp} {o : HO} (x : Kept p b H H1) (h : H D = none) : Kept p b H (upd H1 D o) := fun q u h1 h2 e => by
  rw [upd_ne (ne_of_none e h)]
  exact x q u h1 h2 e
theorem Kept.free {p b D : Addr} {H H1 : Hp} (x : Kept p b H H1) (h : H1 D = none) (h1 : D ≠ p) (h2 : D ≠ b) : H D = none := by
  cases e : H D with
  | none => rfl
  | some o =>
    rw [x D o h1 h2 e] at h
    cases h
theorem _root_.L2.Same.tup {K : PySem.W.Frag} {H H' : Hp} {a : Addr} {xs : List V} (e : Same H H') (h : SqT K H a xs) : SqT K H' a xs := by
  rcases h with (h | ⟨o, h⟩) | h
  · exact .inl (.inl (e _ _ h))
  · exact .inl (.inr ⟨o, e _ _ h⟩)
  · exact .inr h
end Kb
namespace Km
/-- the tail order of a list of codes -/
def TailOrd (L : List Nat) (r : List Nat) : Prop := r.Perm (List.range L.length) ∧ r.Pairwise (fun i j => L.drop i < L.drop j)
theorem TailOrd.len {L r : List Nat} (h : TailOrd L r) : r.length = L.length := by
  rw [h.1.length_eq, List.length_range]
theorem TailOrd.uniq {L r s : List Nat} (h : TailOrd L r) (g : TailOrd L s) : r = s :=
  List.Perm.eq_of_pairwise (fun _ _ _ _ x y => (List.lt_asymm x y).elim) h.2 g.2 (h.1.trans g.1.symm)
theorem TailOrd.lt {L r : List Nat} (h : TailOrd L r) {i : Nat} (hi : i ∈ r) : i < L.length := List.mem_range.mp (h.1.mem_iff.mp hi)
theorem tri {a b : List Nat} (h : ¬ b < a) (n : a ≠ b) : a < b := by
  by_cases x : a < b
  · exact x
  · exact (n (List.le_antisymm (List.not_lt.mp h) (List.not_lt.mp x))).elim
theorem drops_nodup (L : List Nat) : ((List.range L.length).map (fun i => L.drop i)).Nodup := by
  unfold List.Nodup
  rw [List.pairwise_map]
  refine List.Pairwise.imp_of_mem (fun {a b} ha hb hab => ?_) (List.nodup_range (n := L.length))
  intro e
  have ha := List.mem_range.mp ha
  have hb := List.mem_range.mp hb
  have := congrArg List.length e
  rw [List.length_drop, List.length_drop] at this
  exact hab (by omega)
theorem back_range (L : List Nat) : (((List.range L.length).map (fun i => L.drop i)).map fun y => L.length - y.length) = List.range L.length := by
  rw [List.map_map]
  conv => rhs; rw [← List.map_id (List.range L.length)]
  refine List.map_congr_left (fun i hi => ?_)
  have hi := List.mem_range.mp hi
  show L.length - (L.drop i).length = i
  rw [List.length_drop]
  omega
/-- from the sorted tails -/
theorem of_sorted {L : List Nat} {ys : List (List Nat)} (p : ys.Perm ((List.range L.length).map fun i => L.drop i)) (s : ys.Pairwise fun a b => ¬ b < a) :
    TailOrd L (ys.map fun y => L.length - y.length) := by
  constructor
  · have := p.map (fun y => L.length - y.length)
    rw [back_range] at this
    exact this
  · have nd : ys.Nodup := p.nodup_iff.mpr (drops_nodup L)
    have st : ys.Pairwise (fun a b => a < b) := (s.and nd).imp (fun {a b} h => tri h.1 h.2)
    rw [List.pairwise_map]
    refine List.Pairwise.imp_of_mem (fun {a b} ha hb hab => ?_) st
    have back : ∀ y ∈ ys, L.drop (L.length - y.length) = y := by
      intro y hy
      obtain ⟨i, hi, rfl⟩ := List.mem_map.mp (p.mem_iff.mp hy)
      have hi := List.mem_range.mp hi
      rw [List.length_drop]
      congr 1
      omega
    rw [back a ha, back b hb]
    exact hab
/-- the number of tails that are less -/
def cnt (L : List Nat) (i : Nat) : Nat := ((List.range L.length).filter fun o => decide (L.drop o < L.drop i)).length
theorem cnt_lt {L : List Nat} {i : Nat} (h : i < L.length) : cnt L i < L.length := by
  unfold cnt
  have h1 := List.length_filter_le (fun o => decide (L.drop o < L.drop i)) (List.range L.length)
  rw [List.length_range] at h1
  rcases Nat.lt_or_eq_of_le h1 with h2 | h2
  · exact h2
  · exfalso
    have h3 : ((List.range L.length).filter fun o => decide (L.drop o < L.drop i)).length = (List.range L.length).length := by rw [List.length_range]; exact h2
    have h4 := List.length_filter_eq_length_iff.mp h3 i (List.mem_range.mpr h)
    exact List.lt_irrefl _ (of_decide_eq_true h4)
theorem countP_first {R : Nat → Nat → Prop} [DecidableRel R] (irr : ∀ a, ¬ R a a) (asy : ∀ a b, R a b → ¬ R b a) : ∀ (r : List Nat) (k : Nat) (h : k < r.length), r.Pairwise R → r.countP (fun o => decide (R o r[k])) = k
  | [], k, h, _ => absurd h (Nat.not_lt_zero _)
  | x :: r, 0, h, p => by
    rw [List.pairwise_cons] at p
    rw [List.countP_eq_zero]
    intro o ho
    have ho : o ∈ x :: r := ho
    show ¬ decide (R o x) = true
    rcases List.mem_cons.mp ho with e | e
    · subst e
      simpa using irr o
    · simpa using asy _ _ (p.1 o e)
  | x :: r, k + 1, h, p => by
    rw [List.pairwise_cons] at p
    have hk : k < r.length := by simpa using h
    have ih := countP_first irr asy r k hk p.2
    show (x :: r).countP (fun o => decide (R o r[k])) = k + 1
    rw [List.countP_cons_of_pos, ih]
    simpa using p.1 _ (List.getElem_mem hk)
theorem TailOrd.cnt_at {L r : List Nat} (h : TailOrd L r) (k : Nat) (hk : k < r.length) : cnt L r[k] = k := by
  unfold cnt
  rw [← List.countP_eq_length_filter, ← h.1.countP_eq]
  exact countP_first (R := fun a b => L.drop a < L.drop b) (fun a => List.lt_irrefl _) (fun a b x => List.lt_asymm x) r k hk h.2
/-- the places put at their numbers -/
def putAll (L : List Nat) : Nat → List Nat → List Nat
  | 0, f => f
  | i + 1, f => (putAll L i f).set (cnt L i) i
theorem putAll_len (L : List Nat) : ∀ (i : Nat) (f : List Nat), (putAll L i f).length = f.length
  | 0, f => rfl
  | i + 1, f => by
    show ((putAll L i f).set (cnt L i) i).length = f.length
    rw [List.length_set, putAll_len L i f]
theorem TailOrd.inj {L r : List Nat} (h : TailOrd L r) {i j : Nat} (hi : i < L.length) (hj : j < L.length) (e : cnt L i = cnt L j) : i = j := by
  obtain ⟨a, ha, ea⟩ := List.getElem_of_mem (h.1.mem_iff.mpr (List.mem_range.mpr hi))
  obtain ⟨b, hb, eb⟩ := List.getElem_of_mem (h.1.mem_iff.mpr (List.mem_range.mpr hj))
  have x := h.cnt_at a ha
  have y := h.cnt_at b hb
  rw [ea] at x
  rw [eb] at y
  have : a = b := by omega
  subst this
  exact ea.symm.trans eb
theorem TailOrd.put {L r : List Nat} (h : TailOrd L r) (f : List Nat) (hf : f.length = L.length) : ∀ n, n ≤ L.length → ∀ i, i < n → (putAll L n f)[cnt L i]? = some i
  | 0, _, i, hi => absurd hi (Nat.not_lt_zero _)
  | n + 1, hn, i, hi => by
    show ((putAll L n f).set (cnt L n) n)[cnt L i]? = some i
    by_cases e : i = n
    · subst e
      rw [List.getElem?_set_self]
      rw [putAll_len, hf]
      exact cnt_lt (by omega)
    · rw [List.getElem?_set_ne]
      · exact h.put f hf n (by omega) i (by omega)
      · intro z
        exact e (h.inj (by omega) (by omega) z).symm
end Km
namespace Kb
open PySem PySem.Spec PyProof.Rows L2
/-! ### what repr shows is short -/
structure Sm (d : PyData) (n e : Nat) : Prop where
  sh : d.showable = true
  nd : d.hasDict = false
  dp : d.depth ≤ e
  ln : d.shown.length ≤ n
theorem Sm.int {i : Int} {k : Nat} (k0 : 0 < k) (h : i.natAbs < 10 ^ k) (k1 : k ≤ 400) : Sm (.int i) (k + 1) 1 := by
  refine ⟨?_, by simp [PyData.hasDict], by simp [PyData.depth], ?_⟩
  · simp only [PyData.showable, decide_eq_true_eq]
    by_cases h0 : i.natAbs = 0
    · rw [h0]
      decide
    · rw [Nat.log2_lt h0]
      refine Nat.lt_of_lt_of_le h (Nat.le_trans (Nat.pow_le_pow_left (show 10 ≤ 2 ^ 4 by decide) k) ?_)
      rw [← Nat.pow_mul]
      exact Nat.pow_le_pow_right (by decide) (by omega)
  · simp only [PyData.shown]
    rw [PySem.ofString_length]
    exact int_text_length_le10 k0 h
theorem Sm.mono {d : PyData} {n m e f : Nat} (h : Sm d n e) (hn : n ≤ m) (he : e ≤ f) : Sm d m f := ⟨h.sh, h.nd, Nat.le_trans h.dp he, Nat.le_trans h.ln hn⟩
theorem all_sh : ∀ {ds : List PyData}, (∀ d ∈ ds, d.showable = true) → PyData.showableAll ds = true
  | [], _ => by simp [PyData.showableAll]
  | d :: ds, h => by
    simp only [PyData.showableAll, Bool.and_eq_true]
    exact ⟨h d List.mem_cons_self, all_sh fun x hx => h x (List.mem_cons_of_mem _ hx)⟩
theorem all_nd : ∀ {ds : List PyData}, (∀ d ∈ ds, d.hasDict = false) → PyData.hasDictAll ds = false
  | [], _ => by simp [PyData.hasDictAll]
  | d :: ds, h => by
    simp only [PyData.hasDictAll, Bool.or_eq_false_iff]
    exact ⟨h d List.mem_cons_self, all_nd fun x hx => h x (List.mem_cons_of_mem _ hx)⟩
theorem all_dp {e : Nat} : ∀ {ds : List PyData}, (∀ d ∈ ds, d.depth ≤ e) → PyData.depthAll ds ≤ e
  | [], _ => by simp [PyData.depthAll]
  | d :: ds, h => by
    have h1 := h d List.mem_cons_self
    have h2 := all_dp (ds := ds) fun x hx => h x (List.mem_cons_of_mem _ hx)
    simp only [PyData.depthAll]
    omega
theorem all_ln {n : Nat} : ∀ {ds : List PyData}, (∀ d ∈ ds, d.shown.length ≤ n) → piled (PyData.shownAll ds) ≤ (n + 2) * ds.length
  | [], _ => by simp [PyData.shownAll, piled_nil]
  | d :: ds, h => by
    have h1 := h d List.mem_cons_self
    have h2 := all_ln (ds := ds) fun x hx => h x (List.mem_cons_of_mem _ hx)
    simp only [PyData.shownAll, piled_cons, List.length_cons, Nat.mul_succ]
    omega
theorem textFrom_le : ∀ (ts : List Str) (k : Nat) (acc : Str), (textFrom k acc ts).length ≤ acc.length + piled ts
  | [], _, acc => by
    show acc.length ≤ _
    omega
  | t :: ts, k, acc => by
    have h := textFrom_le ts (k + 1) (acc ++ (if k > 0 then ", " else "" : String) ++ t)
    have e : (Str.ofString (if k > 0 then ", " else "" : String)).length ≤ 2 := by split <;> decide +kernel
    rw [Str.length_append, Str.length_append] at h
    rw [piled_cons]
    show (textFrom (k + 1) (acc ++ (if k > 0 then ", " else "" : String) ++ t) ts).length ≤ _
    omega
theorem listText_le (ts : List Str) : (listText ts).length ≤ piled ts + 2 := by
  have h := textFrom_le ts 0 "["
  have e1 : (Str.ofString "[").length = 1 := by decide +kernel
  have e2 : (Str.ofString "]").length = 1 := by decide +kernel
  unfold listText
  rw [Str.length_append]
  omega
theorem tupleText_le (ts : List Str) : (tupleText ts).length ≤ piled ts + 3 := by
  have e3 : (Str.ofString (if ts.length == 1 then ",)" else ")" : String)).length ≤ 2 := by split <;> decide +kernel
  have e1 : (Str.ofString "(").length = 1 := by decide +kernel
  unfold tupleText
  rw [Str.length_append, Str.length_append]
  by_cases h : ts = []
  · subst h
    decide +kernel
  · have := join_length_add ts h
    omega
theorem Sm.list {ds : List PyData} {n e : Nat} (h : ∀ d ∈ ds, Sm d n e) : Sm (.list ds) ((n + 2) * ds.length + 2) (e + 1) := by
  refine ⟨by simp only [PyData.showable]; exact all_sh fun d hd => (h d hd).sh, by simp only [PyData.hasDict]; exact all_nd fun d hd => (h d hd).nd, ?_, ?_⟩
  · have := all_dp fun d hd => (h d hd).dp
    simp only [PyData.depth]
    omega
  · have h1 := all_ln fun d hd => (h d hd).ln
    have h2 := listText_le (PyData.shownAll ds)
    simp only [PyData.shown]
    omega
theorem Sm.tuple {ds : List PyData} {n e : Nat} (h : ∀ d ∈ ds, Sm d n e) : Sm (.tuple ds) ((n + 2) * ds.length + 3) (e + 1) := by
  refine ⟨by simp only [PyData.showable]; exact all_sh fun d hd => (h d hd).sh, by simp only [PyData.hasDict]; exact all_nd fun d hd => (h d hd).nd, ?_, ?_⟩
  · have := all_dp fun d hd => (h d hd).dp
    simp only [PyData.depth]
    omega
  · have h1 := all_ln fun d hd => (h d hd).ln
    have h2 := tupleText_le (PyData.shownAll ds)
    simp only [PyData.shown]
    omega
theorem Sm.fits {d : PyData} {n e : Nat} (s : Sm d n e) (hn : n ≤ 1000000) : d.shown.length ≤ sizeLine := Nat.le_trans (Nat.le_trans s.ln hn) (by decide)
def plD (r : List Nat) : List PyData := r.map fun i : Nat => PyData.int (i : Int)
theorem sm_pl {r : List Nat} (h : ∀ i ∈ r, i < 1000) : Sm (.tuple (plD r)) (6 * r.length + 3) 2 := by
  have := Sm.tuple (ds := plD r) (n := 4) (e := 1) fun d hd => by
    obtain ⟨i, hi, rfl⟩ := List.mem_map.mp hd
    exact Sm.int (k := 3) (by decide) (by have := h i hi; omega) (by decide)
  unfold plD at *
  rw [List.length_map] at this
  exact this
/-! ### a text times a number -/
def repS (n : Nat) (x : Str) : Str := ⟨(List.replicate n x.cps).foldl (· ++ ·) #[]⟩
theorem rep_fold (a : Array Nat) : ∀ (n : Nat) (acc : Array Nat), ((List.replicate n a).foldl (· ++ ·) acc).toList = acc.toList ++ (List.replicate n a.toList).flatten
  | 0, acc => by simp
  | n + 1, acc => by
    rw [List.replicate_succ, List.foldl_cons, rep_fold a n, List.replicate_succ, List.flatten_cons, Array.toList_append, List.append_assoc]
end Kb
namespace Kb
open PySem PySem.Spec PyProof.Rows L2
open AutoSeq1 (wpAny_loadPart')
/-! ### enumerate of a tuple -/
abbrev tItO (l : Addr) : Obj := { cls := .type "tuple_iterator", data := .fields #[.ref l, .int 0 0] }
abbrev enO (it : Addr) : Obj := { cls := .type "enumerate", data := .fields #[.none, .bool false, .ref it, rawInt 0, .none, .none] }
theorem meets_enumT (l : Addr) (items : Array Value) (n : Nat) (dct : Option Addr) (sl : Array (Option Value)) :
    Meets (Builtin.«enumerate.__new__» ⟨[.type "enumerate", .ref l], []⟩) (fun _ R s =>
      s.heap.get? l = some { cls := .type "tuple", dict := dct, data := .seq items n, slots := sl } ∧
      R (.ok (.ret (.ref (s.heap.push (tItO l)).objs.size))) { s with heap := (s.heap.push (tItO l)).push (enO s.heap.objs.size) }) :=
  Meets.of_wp (by
    intro prog w A R s h
    obtain ⟨hp, g, d, tk, os⟩ := s
    obtain ⟨hl, h⟩ := h
    have hsub := sub_enumerate
    have hT : Heap.IsTuple (Shared.heap ⟨hp, g, d, tk, os⟩) l items := ⟨_, hl, rfl, n, rfl⟩
    wp_walk using wpAny_loadPart' hl
    apply wpAny_stack_any
    intro st
    apply wpAny_pure
    split
    · rename_i c _ _ _ _ _
      cases (c == Value.type "enumerate") <;> (wp_walk using wpAny_loadPart' hl, wpAny_pyIter_tuple hT; exact ⟨_, rfl, h⟩)
    · wp_walk using wpAny_loadPart' hl, wpAny_pyIter_tuple hT
      exact ⟨_, rfl, h⟩)
theorem call_enumT {prog : Program} {w : World} {A : Around} {E : Value → Shared → Prop} {s : Shared} {l : Addr} {items : Array Value} {Q : Value → Shared → Prop} (hT : s.heap.IsTuple l items)
    (h : ∀ h', IsEnum h' (s.heap.objs.size + 1) s.heap.objs.size 0 .none → h'.IsTupleIter s.heap.objs.size l 0 →
      (∀ b o, s.heap.get? b = some o → h'.get? b = some o) → Q (.ref (s.heap.objs.size + 1)) { s with heap := h' }) :
    wpAny (model prog w) A (call (.type "enumerate") [.ref l]) Q E s := by
  obtain ⟨⟨c, dct, dt, sl⟩, hl, hc, n, hd⟩ := hT
  obtain rfl : c = .type "tuple" := hc
  obtain rfl : dt = .seq items n := hd
  refine callType_new F.called_enumerate (by decide) (F.typeCall_enumerate_1 _) (F.newCall_enumerate_1 _) (fun obj => F.args_object_init_2 obj _)
    F.entry_enumerate_new (meets_enumT l items n dct sl) ⟨hl, ?_⟩
  have z1 : (s.heap.push (tItO l)).objs.size = s.heap.objs.size + 1 := Heap.size_push ..
  have z2 : IsEnum ((s.heap.push (tItO l)).push (enO s.heap.objs.size)) (s.heap.objs.size + 1) s.heap.objs.size 0 .none := by
    have z := Heap.get?_push_size (s.heap.push (tItO l)) (o := enO s.heap.objs.size) rfl
    rw [z1] at z
    exact z
  show _ ∧ _
  rw [z1]
  exact ⟨⟨_, z2, rfl⟩, h _ z2 ⟨_, Heap.get?_push_of_some _ (Heap.get?_push_size _ rfl), rfl, rfl⟩ (fun b o q => Heap.get?_push_of_some _ (Heap.get?_push_of_some _ q))⟩
/-- the tuple at a: its items with their numbers, in new pairs -/
def ItET (K : PySem.W.Frag) (a : Addr) : It where
  go := fun i H => ∃ (xs : List V) (x : V), SqT K H a xs ∧ xs[i]? = some x
  yld := fun i H v H' => ∃ T x, v = .ref T ∧ H T = none ∧ H' = upd H T (.tup [.int (i : Nat), x]) ∧ ∀ xs, SqT K H a xs → xs[i]? = some x
  stop := fun i H => ∃ xs : List V, SqT K H a xs ∧ xs.length = i
theorem turnET {P : Program} {w : World} {K : PySem.W.Frag} {elts : List Expr} {kk : Nat} {tpos : Pos} (a e it : Addr) (ha : a ≠ it) (hae : a ≠ e) (hne : e ≠ it) :
    Turn P w K (.Tuple elts kk tpos) (ItET K a) [e, it] e (fun i h => (∃ old, IsEnum h e it ((i : Nat) : Int) old) ∧ h.IsTupleIter it a i) := by
  constructor
  · simp
  · rintro i h ⟨⟨old, he⟩, ⟨o, ho, hc, hd⟩⟩ b hb
    simp only [List.mem_cons, List.not_mem_nil, or_false] at hb
    rcases hb with rfl | rfl
    · exact ⟨_, he, fun v q => nomatch q⟩
    · refine ⟨o, ho, fun v q => ?_⟩
      rw [hd] at q
      cases q
  · rintro i h h' ⟨⟨old, he⟩, hi⟩ k
    exact ⟨⟨old, k e (by simp) _ he⟩, hi.at (fun o q => k it (by simp) o q)⟩
  · intro X hP hw hK hc i pins s σ H E I hf st hg
    subst hP hw hK
    obtain ⟨⟨old, he⟩, hit⟩ := st
    obtain ⟨xs, x, hq, hx⟩ := hg
    obtain ⟨its, rv, p, hz⟩ := I.tuple hq
    obtain ⟨u, hu, ru⟩ := rv.get hx
    have hel : e < s.heap.objs.size := Heap.lt_size he
    have hil : it < s.heap.objs.size := by
      obtain ⟨_, z, _⟩ := hit
      exact Heap.lt_size z
    have hil2 : i < its.toArray.size := by
      have := (List.getElem?_eq_some_iff.mp hu).1
      simpa using this
    have D := Draws.tuple (prog := X.prog) (w := X.w) (A := X.A.in1) (I.ok.hd hc) it a ha its.toArray
    have hef : e ∉ [it, a] := by
      simp only [List.mem_cons, List.not_mem_nil, or_false, not_or]
      exact ⟨hne, hae.symm⟩
    refine wpAny_pyNext_enum_itemD D he ⟨hit, p⟩ hil2 hne hef (fun y h' tk hy ho hst hT hsz hk => ?_)
    have hyu : y = u := by
      have h1 : its.toArray[i]? = some u := by simpa using hu
      exact Option.some.inj (hy.symm.trans h1)
    subst hyu
    refine ⟨_, rfl, wpAny_letOwnedTupleGo_enum (s := { s with heap := h', toks := tk + 1 }) ho (fun h2 he2 sb => ?_)⟩
    have hT2 : h2.get? s.heap.objs.size = some { cls := .type "tuple", data := .seq #[.int i tk, y] } := (sb.2 _ (Nat.ne_of_gt hel)).trans hT
    have new : ObjOk X.prog X.w (upd H s.heap.objs.size (.tup [.int (i : Nat), x])) h2 s.heap.objs.size (.tup [.int (i : Nat), x]) :=
      ⟨by show 2 ≤ sizeLine; decide, [.int i tk, y], .cons ⟨_, rfl⟩ (.cons ru .nil), ⟨_, hT2, rfl, _, rfl⟩⟩
    have I1 : Inv X pins σ (upd H s.heap.objs.size (.tup [.int (i : Nat), x])) { s with heap := h2, toks := tk + 1 } := by
      refine I.turnedNew (ch := [e, it]) (fun b ob hb z => ?_) hf (Nat.le_refl _) new
      simp only [List.mem_cons, List.not_mem_nil, or_false, not_or] at hb
      exact (sb.2 b hb.1).trans (hk b ob hb.1 hb.2 z)
    refine ⟨.ref s.heap.objs.size, _, I1, rfl, ⟨_, x, rfl, I.hok.fresh (Nat.le_refl _), rfl, fun ys hy => ?_⟩, ⟨⟨y, ?_⟩, hst.1.at (fun o q => (sb.2 it (Ne.symm hne)).trans q)⟩, fun b hb => ?_⟩
    · rw [I.tuple_inj hy hq]
      exact hx
    · have e1 : ((i + 1 : Nat) : Int) = (i : Int) + 1 := by omega
      rw [e1]
      exact he2
    · have hlt : b < s.heap.objs.size := by
        simp only [List.mem_cons, List.not_mem_nil, or_false] at hb
        rcases hb with rfl | rfl
        · exact hel
        · exact hil
      rw [upd_ne (Nat.ne_of_lt hlt)]
      exact (hf b hb).1
  · intro X hP hw hK hc i pins s σ H E I hf st hg
    subst hP hw hK
    obtain ⟨⟨old, he⟩, hit⟩ := st
    obtain ⟨xs, hq, hx⟩ := hg
    obtain ⟨its, rv, p, hz⟩ := I.tuple hq
    obtain ⟨f0, f1, f2, f3, f4, f5⟩ := hf it (by simp)
    have hl := rv.length
    have D := Draws.tuple (prog := X.prog) (w := X.w) (A := X.A.in1) (I.ok.hd hc) it a ha its.toArray
    have hsz : its.toArray.size = i := by
      rw [List.size_toArray]
      omega
    refine wpAny_pyNext_enum_endD D he ⟨by rw [hsz]; exact hit, p⟩ (fun h' eb => ⟨rfl, I.turned (t' := s.toks) (fun b o hb z => eb b o hb z) f0 f1 f3 f4 f5⟩)
  · rintro A i s Q E ⟨⟨_, he⟩, _⟩ h
    exact wpAny_pyIter_enum he h
end Kb
namespace Kb
open PySem PySem.Spec PyProof.Rows L2
/-! ### sorted of data -/
end Kb
namespace Kb
open PySem PySem.Spec PyProof.Rows L2
/-! ### the place of an int in a tuple -/
/-! ### tuples whose object is told: they have methods -/
/-- a tuple of places, its object without a dict -/
structure FT (H : Hp) (q : Addr) (xs : List V) : Prop where
  ex : ∃ o : Obj, H q = some (.frz o (.tup xs)) ∧ o.cls = .type "tuple" ∧ o.dict = none
theorem FT.sq {K : PySem.W.Frag} {H : Hp} {q : Addr} {xs : List V} (h : FT H q xs) : SqT K H q xs := by
  obtain ⟨o, h, _⟩ := h.ex
  exact .inl (.inr ⟨o, h⟩)
theorem FT.same {H H1 : Hp} {q : Addr} {xs : List V} (h : FT H q xs) (s : Same H H1) : FT H1 q xs := by
  obtain ⟨o, h, r⟩ := h.ex
  exact ⟨o, s _ _ h, r⟩
theorem FT.kept {H H1 : Hp} {p b q : Addr} {xs : List V} (h : FT H q xs) (s : Kept p b H H1) (h1 : q ≠ p) (h2 : q ≠ b) : FT H1 q xs := by
  obtain ⟨o, h, r⟩ := h.ex
  exact ⟨o, s _ _ h1 h2 h, r⟩
theorem FT.new {H : Hp} {q : Addr} {xs : List V} {o : Obj} (c : o.cls = .type "tuple") (d : o.dict = none) : FT (upd H q (.frz o (.tup xs))) q xs := ⟨o, upd_same, c, d⟩
theorem call_tupF {X : Cx} : CallR X (.type "tuple") (fun xs H Q => ∃ p ys, xs = [.ref p] ∧ SqL X.K H p ys ∧
    ∀ (l : Addr) (o : Obj), H l = none → o.cls = .type "tuple" → o.dict = none → Q (.ref l) (upd H l (.frz o (.tup ys)))) := by
  intro pins s σ H xs us Q I r h
  obtain ⟨p, ys, rfl, hq, q⟩ := h
  obtain ⟨u, rfl, rx⟩ := vals1 r
  cases rx
  obtain ⟨its, rv, pl, hz⟩ := I.list hq
  have hlen := rv.length
  refine call_tuple_list pl.isList (fun h' kp => ?_) (by rw [List.size_toArray]; omega)
  have I1 : Inv X pins σ H { s with heap := h' } := I.kept (t' := s.toks) kp
  have new : ObjOk X.prog X.w (upd H h'.objs.size (.frz { cls := .type "tuple", data := .seq its.toArray } (.tup ys))) (h'.push { cls := .type "tuple", data := .seq its.toArray }) h'.objs.size
      (.frz { cls := .type "tuple", data := .seq its.toArray } (.tup ys)) := ⟨Heap.get?_push_size _ rfl, hz, its, rv, IsTup.new _ _⟩
  have I2 := I1.laid (t' := s.toks) (fun b o e => Heap.get?_push_of_some _ e) (Nat.le_refl _) new
  exact ⟨.ref h'.objs.size, _, I2, rfl, q _ _ (I1.hok.fresh (Nat.le_refl _)) rfl rfl⟩
def tTupF (t : TA) : TE := fun σ H Q => t σ H fun xs H1 => xs.length ≤ sizeLine ∧
  ∀ (p : Addr) (o : Obj), H1 p = none → o.cls = .type "tuple" → o.dict = none → Q (.ref p) (upd H1 p (.frz o (.tup xs)))
theorem pe_tupF {X : Cx} {es : List Expr} {t : TA} {pos : Pos} {x1} (h : PA X es t) : PE X (.Tuple es x1 pos) (tTupF t) := by
  constructor
  intro pins s σ H Q I hq
  refine wpAny_Tuple_spliced (thn (h.run pos pins s σ H _ I hq) ?_)
  rintro us s1 ⟨xs, H1, I1, r, z, q⟩
  refine ⟨by rw [← r.length]; exact z, ?_⟩
  have new : ObjOk X.prog X.w (upd H1 s1.heap.objs.size (.frz { cls := .type "tuple", data := .seq us.toArray } (.tup xs))) (s1.heap.push { cls := .type "tuple", data := .seq us.toArray }) s1.heap.objs.size
      (.frz { cls := .type "tuple", data := .seq us.toArray } (.tup xs)) := ⟨Heap.get?_push_size _ rfl, z, us, r, IsTup.new _ _⟩
  have I2 := I1.laid (t' := s1.toks) (fun b o e => Heap.get?_push_of_some _ e) (Nat.le_refl _) new
  exact ⟨.ref s1.heap.objs.size, _, I2, rfl, q _ _ (I1.hok.fresh (Nat.le_refl _)) rfl rfl⟩
/-! ### sums and slices of tuples, their object left open -/
end Kb
namespace Kb
open PySem PySem.Spec PyProof.Rows L2
/-! ### t[::-1] of a tuple -/
/-! ### tuple(range(..)), its object told -/
end Kb
namespace Kb
open PySem PySem.Spec PyProof.Rows L2
/-! ### data that may be a dict, and its repr -/
mutual
theorem dp_same {K : PySem.W.Frag} {H H' : Hp} (s : Same H H') : ∀ {x : V} {d : PyData}, Dp K H x d → Dp K H' x d
  | _, _, .non => .non
  | _, _, .bl b => .bl b
  | _, _, .int i => .int i
  | _, _, .str x => .str x
  | _, _, .lst h a => .lst (s.seq h) (dpAll_same s a)
  | _, _, .tup h a => .tup (s.tup h) (dpAll_same s a)
theorem dpAll_same {K : PySem.W.Frag} {H H' : Hp} (s : Same H H') : ∀ {xs : List V} {ds : List PyData}, DpAll K H xs ds → DpAll K H' xs ds
  | _, _, .nil => .nil
  | _, _, .cons h r => .cons (dp_same s h) (dpAll_same s r)
end
def keyD : Key → PyData
  | .inl i => .int i
  | .inr x => .str x
inductive DX (K : PySem.W.Frag) (H : Hp) : V → PyData → Prop
  | dp {x : V} {d : PyData} : Dp K H x d → d.hasDict = false → DX K H x d
  | dict {a : Addr} {ks : List (Key × Int)} : H a = some (.dK (ks.map fun p => (p.1, V.int p.2))) → DX K H (.ref a) (.dict (ks.map fun p => (keyD p.1, PyData.int p.2)))
theorem DX.same {K : PySem.W.Frag} {H H' : Hp} {x : V} {d : PyData} (h : DX K H x d) (s : Same H H') : DX K H' x d := by
  cases h with
  | dp h n => exact .dp (dp_same s h) n
  | dict h => exact .dict (s _ _ h)
theorem keys_read {P : Program} {w : World} {h : Heap} : ∀ {es : List DictEntry} {vs : List (Key × Value)}, Pairs (mixKind P w) es vs → ReadsAll h (es.map (·.key)) (vs.map fun kv => keyD kv.1) []
  | _, _, .nil => .nil
  | _, _, .cons (e := e) (kv := kv) h1 h2 r => by
    have : Reads h e.key (keyD kv.1) [] := by
      rcases keyIs_shape (show keyIs kv.1 e.key = true from h1) with ⟨i, t, a, b⟩ | ⟨x, t, a, b⟩
      · rw [a, b]
        exact .int i t
      · rw [a, b]
        exact .str x t
    exact ReadsAll.cons (as := []) (bs := []) this (keys_read r)
theorem ints_read {P : Program} {w : World} {h : Heap} (ks : List (Key × Int)) : ∀ {es : List DictEntry} {vs : List (Key × Value)}, Pairs (mixKind P w) es vs → KV (ks.map fun p => (p.1, V.int p.2)) vs →
    ReadsAll h (es.map (·.val)) (ks.map fun p => PyData.int p.2) [] ∧ vs.map (fun kv => keyD kv.1) = ks.map fun p => keyD p.1 := by
  induction ks with
  | nil =>
    intro es vs ps k
    have k' : Paired _ ([] : List (Key × V)) vs := k
    cases k'
    cases ps
    exact ⟨.nil, rfl⟩
  | cons p ks ih =>
    intro es vs ps k
    have k' : Paired (fun (p : Key × V) (q : Key × Value) => p.1 = q.1 ∧ RelV p.2 q.2) ((p.1, V.int p.2) :: ks.map fun p => (p.1, V.int p.2)) vs := k
    cases k' with
    | cons hk hr =>
      cases ps with
      | cons h1 h2 r =>
        obtain ⟨a, b⟩ := ih r hr
        obtain ⟨k1, t, k2⟩ := hk
        refine ⟨ReadsAll.cons (as := []) (bs := []) ?_ a, ?_⟩
        · dsimp only
          rw [h2, k2]
          exact .int _ t
        · rw [List.map_cons, List.map_cons, b, ← k1]
/-- short data, dicts too -/
structure SmX (d : PyData) (n : Nat) : Prop where
  sh : d.showable = true
  dp : d.depth ≤ 10
  ln : d.shown.length ≤ n
theorem Sm.x {d : PyData} {n e : Nat} (s : Sm d n e) (he : e ≤ 10) : SmX d n := ⟨s.sh, Nat.le_trans s.dp he, s.ln⟩
/-! ### values of many kinds -/
/-- a plain small value -/
def Sc (v : V) : Prop := v = .non ∨ (∃ b, v = .bl b) ∨ (∃ i : Int, v = .int i ∧ i.natAbs < 10 ^ 40) ∨ ∃ z : Str, v = .str z ∧ z.length ≤ 60 ∧ ∀ c ∈ z.cps.toList, c < 1000
def scD : V → PyData
  | .bl b => .bool b
  | .int i => .int i
  | .str z => .str z
  | _ => .none
theorem sc_dp {K : PySem.W.Frag} {H : Hp} {v : V} (h : Sc v) : Dp K H v (scD v) := by
  rcases h with rfl | ⟨b, rfl⟩ | ⟨i, rfl, _⟩ | ⟨z, rfl, _⟩
  · exact .non
  · exact .bl b
  · exact .int i
  · exact .str z
theorem sc_sm {v : V} (h : Sc v) : Sm (scD v) 602 1 := by
  rcases h with rfl | ⟨b, rfl⟩ | ⟨i, rfl, hi⟩ | ⟨z, rfl, hz, hc⟩
  · exact ⟨by simp [scD, PyData.showable], by simp [scD, PyData.hasDict], by simp [scD, PyData.depth], by show (PyData.shown .none).length ≤ 602; simp only [PyData.shown]; decide +kernel⟩
  · refine ⟨by simp [scD, PyData.showable], by simp [scD, PyData.hasDict], by simp [scD, PyData.depth], ?_⟩
    show (PyData.shown (.bool b)).length ≤ 602
    simp only [PyData.shown]
    cases b <;> decide +kernel
  · exact (Sm.int (k := 40) (by decide) hi (by decide)).mono (by decide) (Nat.le_refl _)
  · have lt : ∀ c ∈ z.cps.toList, c < 16 ^ 8 := fun c h => Nat.lt_of_lt_of_le (hc c h) (by decide)
    refine ⟨by simp [scD, PyData.showable], by simp [scD, PyData.hasDict], by simp [scD, PyData.depth], ?_⟩
    show (PyData.shown (.str z)).length ≤ 602
    simp only [PyData.shown]
    have := StrLaws.reprText_len z lt
    omega
structure Scs (cs : List V) : Prop where
  len : cs.length ≤ 60
  all : ∀ v ∈ cs, Sc v
theorem scs_dp {K : PySem.W.Frag} {H : Hp} : ∀ {cs : List V}, (∀ v ∈ cs, Sc v) → DpAll K H cs (cs.map scD)
  | [], _ => .nil
  | v :: cs, h => .cons (sc_dp (h v List.mem_cons_self)) (scs_dp fun x hx => h x (List.mem_cons_of_mem _ hx))
/-- a value of the law: plain, or a list or tuple of plain ones, or one of two dicts -/
inductive Val (H : Hp) : V → Prop
  | sc {v : V} : Sc v → Val H v
  | lst {a : Addr} {cs : List V} : H a = some (.lst cs) → Scs cs → Val H (.ref a)
  | tup {a : Addr} {cs : List V} : H a = some (.tup cs) → Scs cs → Val H (.ref a)
  | dict0 {a : Addr} : H a = some (.dK []) → Val H (.ref a)
  | dict1 {a : Addr} : H a = some (.dK [(Sum.inr "a", V.int 1)]) → Val H (.ref a)
theorem Val.same {H H' : Hp} {v : V} (h : Val H v) (s : Same H H') : Val H' v := by
  cases h with
  | sc h => exact .sc h
  | lst h c => exact .lst (s _ _ h) c
  | tup h c => exact .tup (s _ _ h) c
  | dict0 h => exact .dict0 (s _ _ h)
  | dict1 h => exact .dict1 (s _ _ h)
/-- it is neither of the stream's lists -/
def Apart (p b : Addr) (v : V) : Prop := ∀ a, v = .ref a → a ≠ p ∧ a ≠ b
theorem Val.kept {H H' : Hp} {v : V} {p b : Addr} (h : Val H v) (ap : Apart p b v) (k : Kept p b H H') : Val H' v := by
  have go : ∀ {a : Addr} {u : HO}, v = .ref a → H a = some u → H' a = some u := fun e h => k _ _ (ap _ e).1 (ap _ e).2 h
  cases h with
  | sc h => exact .sc h
  | lst h c => exact .lst (go rfl h) c
  | tup h c => exact .tup (go rfl h) c
  | dict0 h => exact .dict0 (go rfl h)
  | dict1 h => exact .dict1 (go rfl h)
/-- a value's data -/
theorem Val.data {K : PySem.W.Frag} {H : Hp} {v : V} (h : Val H v) : ∃ d, (∀ H', Same H H' → DX K H' v d) ∧ SmX d 1000000 := by
  cases h with
  | sc h => exact ⟨scD v, fun H' _ => .dp (sc_dp h) (sc_sm h).nd, ((sc_sm h).mono (by decide) (Nat.le_refl _)).x (by decide)⟩
  | @lst a cs h c =>
    have sm : Sm (.list (cs.map scD)) ((602 + 2) * (cs.map scD).length + 2) 2 := Sm.list (fun d hd => by
      obtain ⟨v, hv, rfl⟩ := List.mem_map.mp hd
      exact sc_sm (c.all v hv))
    rw [List.length_map] at sm
    have := c.len
    exact ⟨_, fun H' s => .dp (.lst (.inl (.inl (s _ _ h))) (scs_dp c.all)) sm.nd, (sm.mono (by omega) (Nat.le_refl _)).x (by decide)⟩
  | @tup a cs h c =>
    have sm : Sm (.tuple (cs.map scD)) ((602 + 2) * (cs.map scD).length + 3) 2 := Sm.tuple (fun d hd => by
      obtain ⟨v, hv, rfl⟩ := List.mem_map.mp hd
      exact sc_sm (c.all v hv))
    rw [List.length_map] at sm
    have := c.len
    exact ⟨_, fun H' s => .dp (.tup (.inl (.inl (s _ _ h))) (scs_dp c.all)) sm.nd, (sm.mono (by omega) (Nat.le_refl _)).x (by decide)⟩
  | @dict0 a h =>
    refine ⟨_, fun H' s => .dict (ks := []) (s _ _ h), ⟨by simp [PyData.showable, PyData.showableKv], by simp [PyData.depth, PyData.depthKv], ?_⟩⟩
    show (PyData.shown (.dict [])).length ≤ 1000000
    simp only [PyData.shown, PyData.shownKv]
    exact Nat.le_trans (show _ ≤ 10 by decide +kernel) (by decide)
  | @dict1 a h =>
    refine ⟨_, fun H' s => .dict (ks := [(Sum.inr "a", 1)]) (s _ _ h), ⟨?_, ?_, ?_⟩⟩
    · show PyData.showable (.dict [(.str "a", .int 1)]) = true
      simp only [PyData.showable, PyData.showableKv]
      decide +kernel
    · show PyData.depth (.dict [(.str "a", .int 1)]) ≤ 10
      simp only [PyData.depth, PyData.depthKv]
      decide
    · show (PyData.shown (.dict [(.str "a", .int 1)])).length ≤ 1000000
      simp only [PyData.shown, PyData.shownKv]
      exact Nat.le_trans (show _ ≤ 20 by decide +kernel) (by decide)
/-- its type's name -/
theorem Val.ty {K : PySem.W.Frag} {H : Hp} {v : V} (h : Val H v) : ∃ t : String, TyX K H v (.type t) ∧ ((∃ z : Str, v = .str z ∧ t = "str" ∧ z.length ≤ 60 ∧ ∀ c ∈ z.cps.toList, c < 1000) ∨
    (t ∈ ["NoneType", "bool", "int", "list", "tuple", "dict"] ∧ ∀ z, v ≠ .str z)) := by
  cases h with
  | sc h =>
    rcases h with rfl | ⟨b, rfl⟩ | ⟨i, rfl, hi⟩ | ⟨z, rfl, hz, hc⟩
    · exact ⟨"NoneType", .base .non, .inr ⟨by simp, fun z e => nomatch e⟩⟩
    · exact ⟨"bool", .base (.bl b), .inr ⟨by simp, fun z e => nomatch e⟩⟩
    · exact ⟨"int", .base (.int i), .inr ⟨by simp, fun z e => nomatch e⟩⟩
    · exact ⟨"str", .base (.str z), .inl ⟨z, rfl, rfl, hz, hc⟩⟩
  | lst h c => exact ⟨"list", .base (.lst h), .inr ⟨by simp, fun z e => nomatch e⟩⟩
  | tup h c => exact ⟨"tuple", .base (.tup h), .inr ⟨by simp, fun z e => nomatch e⟩⟩
  | dict0 h => exact ⟨"dict", .base (.dK h), .inr ⟨by simp, fun z e => nomatch e⟩⟩
  | dict1 h => exact ⟨"dict", .base (.dK h), .inr ⟨by simp, fun z e => nomatch e⟩⟩
/-! ### list(text) -/
end Kb
namespace Kb
open PySem PySem.Spec PyProof.Rows L2
/-! ### zip of two sources: texts, lists, tuples in any mix -/
inductive Sr
  | t (z : Str)
  | l (a : Addr)
  | u (a : Addr)
def sgV (c : Nat) : V := .str ⟨#[c]⟩
namespace Sr
def v : Sr → V
  | .t z => .str z
  | .l a => .ref a
  | .u a => .ref a
def has (K : PySem.W.Frag) (H : Hp) : Sr → List V → Prop
  | .t z => fun xs => xs = z.cps.toList.map sgV
  | .l a => fun xs => SqL K H a xs
  | .u a => fun xs => SqT K H a xs
def it (tk : Tok) (p : Addr) (i : Nat) (h : Heap) : Sr → Prop
  | .t z => h.IsStrIter p (strIterType z) z tk i
  | .l a => h.IsListIter p a i
  | .u a => h.IsTupleIter p a i
def off (q : Addr) : Sr → Prop
  | .t _ => True
  | .l a => a ≠ q
  | .u a => a ≠ q
theorem it_at {tk : Tok} {p : Addr} {i : Nat} {h h' : Heap} : ∀ {r : Sr}, r.it tk p i h → (∀ o, h.get? p = some o → h'.get? p = some o) → r.it tk p i h'
  | .t z, ⟨o, ho, q⟩, k => ⟨o, k o ho, q⟩
  | .l a, st, k => Heap.IsListIter.at st k
  | .u a, st, k => Heap.IsTupleIter.at st k
theorem it_obj {tk : Tok} {p : Addr} {i : Nat} {h : Heap} : ∀ {r : Sr}, r.it tk p i h → ∃ o, h.get? p = some o ∧ ∀ v, o.data ≠ .cell v
  | .t z, ⟨o, ho, _, d⟩ => ⟨o, ho, fun v q => by rw [d] at q; cases q⟩
  | .l a, ⟨o, ho, _, d⟩ => ⟨o, ho, fun v q => by rw [d] at q; cases q⟩
  | .u a, ⟨o, ho, _, d⟩ => ⟨o, ho, fun v q => by rw [d] at q; cases q⟩
/-- what its iterator draws -/
theorem draws {X : Cx} {pins : List (Addr × Obj)} {σ : L2.St} {H : Hp} {s : Shared} (I : Inv X pins σ H s) (hh : X.A.in1.handled = none) {r : Sr} {xs : List V} {tk : Tok} {p : Addr} {i : Nat} (hx : r.has X.K H xs) (hp : r.off p) (st : r.it tk p i s.heap) :
    ∃ (fp : List Addr) (Pr : Nat → Value → Prop) (St : Nat → Heap → Prop), Draws X.prog X.w X.A.in1 p fp xs.length Pr St ∧ St i s.heap ∧ p ∈ fp ∧ (∀ q, q ≠ p → r.off q → q ∉ fp) ∧
      (∀ j u, Pr j u → ∃ x, xs[j]? = some x ∧ RelV x u) ∧ ∀ j h, St j h → r.it tk p j h := by
  cases r with
  | t z =>
    have e : xs = z.cps.toList.map sgV := hx
    have n : xs.length = z.cps.size := by rw [e, List.length_map, Array.length_toList]
    refine ⟨_, _, _, by rw [n]; exact Draws.text hh p z tk, st, by simp, fun q h1 _ h2 => h1 (by simpa using h2), fun j u hj => ?_, fun j h q => q⟩
    obtain ⟨c, t', hc, rfl⟩ := hj
    refine ⟨sgV c, ?_, t', rfl⟩
    rw [e, List.getElem?_map, Array.getElem?_toList, hc]
    rfl
  | l a =>
    obtain ⟨its, rv, pl, _⟩ := I.list (show SqL X.K H a xs from hx)
    have n : xs.length = its.toArray.size := by rw [List.size_toArray]; exact rv.length
    refine ⟨[p, a], fun i v => its.toArray[i]? = some v, fun i h => h.IsListIter p a i ∧ h.IsList a its.toArray, by rw [n]; exact Draws.list hh p a hp its.toArray, ⟨st, pl.isList⟩, by simp, fun q h1 h2 h3 => ?_, fun j u hj => ?_, fun j h q => q.1⟩
    · simp only [List.mem_cons, List.not_mem_nil, or_false] at h3
      rcases h3 with e | e
      · exact h1 e
      · exact h2 e.symm
    · have hj' : its[j]? = some u := by simpa using hj
      have lt : j < xs.length := by
        have := (List.getElem?_eq_some_iff.mp hj').1
        have := rv.length
        omega
      obtain ⟨u2, h2, r2⟩ := rv.get (List.getElem?_eq_getElem lt)
      rw [hj'] at h2
      cases h2
      exact ⟨_, List.getElem?_eq_getElem lt, r2⟩
  | u a =>
    obtain ⟨its, rv, pl, _⟩ := I.tuple (show SqT X.K H a xs from hx)
    have n : xs.length = its.toArray.size := by rw [List.size_toArray]; exact rv.length
    refine ⟨[p, a], fun i v => its.toArray[i]? = some v, fun i h => h.IsTupleIter p a i ∧ h.IsTuple a its.toArray, by rw [n]; exact Draws.tuple hh p a hp its.toArray, ⟨st, pl⟩, by simp, fun q h1 h2 h3 => ?_, fun j u hj => ?_, fun j h q => q.1⟩
    · simp only [List.mem_cons, List.not_mem_nil, or_false] at h3
      rcases h3 with e | e
      · exact h1 e
      · exact h2 e.symm
    · have hj' : its[j]? = some u := by simpa using hj
      have lt : j < xs.length := by
        have := (List.getElem?_eq_some_iff.mp hj').1
        have := rv.length
        omega
      obtain ⟨u2, h2, r2⟩ := rv.get (List.getElem?_eq_getElem lt)
      rw [hj'] at h2
      cases h2
      exact ⟨_, List.getElem?_eq_getElem lt, r2⟩
theorem inj {X : Cx} {pins : List (Addr × Obj)} {σ : L2.St} {H : Hp} {s : Shared} (I : Inv X pins σ H s) : ∀ {r : Sr} {xs ys : List V}, r.has X.K H xs → r.has X.K H ys → xs = ys
  | .t z, _, _, h1, h2 => by
    have e1 : _ = z.cps.toList.map sgV := h1
    have e2 : _ = z.cps.toList.map sgV := h2
    rw [e1, e2]
  | .l a, _, _, h1, h2 => I.list_inj h1 h2
  | .u a, _, _, h1, h2 => I.tuple_inj h1 h2
/-- how it begins -/
theorem begins {X : Cx} {pins : List (Addr × Obj)} {σ : L2.St} {H : Hp} {s : Shared} (I : Inv X pins σ H s) {r : Sr} {xs : List V} {u : Value} (hx : r.has X.K H xs) (ru : RelV r.v u) :
    ∃ (o : Obj) (B : Heap → Prop) (tk : Tok), Begins u o B ∧ B s.heap ∧ (∀ p h, h.get? p = some o → r.it tk p 0 h) ∧ ∀ q, s.heap.objs.size ≤ q → r.off q := by
  cases r with
  | t z =>
    obtain ⟨tk, rfl⟩ := ru
    exact ⟨_, _, tk, begins_text z tk, trivial, fun p h e => ⟨_, e, rfl, rfl⟩, fun _ _ => trivial⟩
  | l a =>
    obtain ⟨its, rv, pl, _⟩ := I.list (show SqL X.K H a xs from hx)
    cases (show u = Value.ref a from ru)
    exact ⟨_, _, 0, begins_list a its.toArray, pl.isList, fun p h e => ⟨_, e, rfl, rfl⟩, fun q h e => Nat.ne_of_lt (Nat.lt_of_lt_of_le pl.lt h) e⟩
  | u a =>
    obtain ⟨its, rv, pl, _⟩ := I.tuple (show SqT X.K H a xs from hx)
    cases (show u = Value.ref a from ru)
    refine ⟨_, _, 0, begins_tuple a its.toArray, pl, fun p h e => ⟨_, e, rfl, rfl⟩, fun q h e => ?_⟩
    obtain ⟨o, ho, _⟩ := pl
    exact Nat.ne_of_lt (Nat.lt_of_lt_of_le (Heap.lt_size ho) h) e
end Sr
def ItzS (K : PySem.W.Frag) (r1 r2 : Sr) : It where
  go := fun i H => ∃ xs ys x y, r1.has K H xs ∧ r2.has K H ys ∧ xs[i]? = some x ∧ ys[i]? = some y
  yld := fun i H v H' => ∃ T x y, v = .ref T ∧ H T = none ∧ H' = upd H T (.tup [x, y]) ∧ (∀ xs, r1.has K H xs → xs[i]? = some x) ∧ ∀ ys, r2.has K H ys → ys[i]? = some y
  stop := fun i H => ∃ xs ys, r1.has K H xs ∧ r2.has K H ys ∧ i ≤ xs.length ∧ i ≤ ys.length ∧ (i = xs.length ∨ i = ys.length)
structure Far (r1 r2 : Sr) (z TI TO p1 p2 : Addr) : Prop where
  n1 : TI ≠ z
  n2 : TO ≠ z
  n3 : TI ≠ TO
  n4 : TI ≠ p1
  n5 : TI ≠ p2
  n6 : z ≠ p1
  n7 : z ≠ p2
  n8 : TO ≠ p1
  n9 : TO ≠ p2
  n10 : p1 ≠ p2
  o1 : ∀ q ∈ [z, TO, p1, p2], r1.off q
  o2 : ∀ q ∈ [z, TO, p1, p2], r2.off q
theorem Far.sep {r1 r2 : Sr} {z TI TO p1 p2 : Addr} (F : Far r1 r2 z TI TO p1 p2) {fp1 fp2 : List Addr} (m1 : p1 ∈ fp1) (m2 : p2 ∈ fp2) (a1 : ∀ q, q ≠ p1 → r1.off q → q ∉ fp1) (a2 : ∀ q, q ≠ p2 → r2.off q → q ∉ fp2) :
    ZipSep2 z TI TO p1 p2 fp1 fp2 :=
  ⟨F.n1, F.n2, F.n3, F.n4, m1, a1 _ F.n6 (F.o1 _ (by simp)), a1 _ F.n8 (F.o1 _ (by simp)), F.n5, m2, a2 _ F.n7 (F.o2 _ (by simp)), a2 _ F.n9 (F.o2 _ (by simp)), a2 _ F.n10 (F.o2 _ (by simp)), a1 _ F.n10.symm (F.o1 _ (by simp))⟩
theorem turnZS {P : Program} {w : World} {K : PySem.W.Frag} {elts : List Expr} {kk : Nat} {tpos : Pos} {r1 r2 : Sr} {z TI TO p1 p2 : Addr} {t1 t2 : Tok} (F : Far r1 r2 z TI TO p1 p2) :
    Turn P w K (.Tuple elts kk tpos) (ItzS K r1 r2) [z, TI, TO, p1, p2] z (fun i h => IsZip h z TI TO .none ∧ IsTupOf2 h TI (.ref p1) (.ref p2) ∧ (∃ x y, IsTupOf2 h TO x y) ∧ r1.it t1 p1 i h ∧ r2.it t2 p2 i h) := by
  constructor
  · simp
  · rintro i h ⟨hz, hTI, ⟨x, y, hTO⟩, s1, s2⟩ c hc
    have e' : c = z ∨ c = TI ∨ c = TO ∨ c = p1 ∨ c = p2 := by simpa using hc
    rcases e' with rfl | rfl | rfl | rfl | rfl
    · exact ⟨_, hz, fun v q => nomatch q⟩
    · exact ⟨_, hTI, fun v q => nomatch q⟩
    · exact ⟨_, hTO, fun v q => nomatch q⟩
    · exact Sr.it_obj s1
    · exact Sr.it_obj s2
  · rintro i h h' ⟨hz, hTI, ⟨x, y, hTO⟩, s1, s2⟩ k
    exact ⟨k _ (by simp) _ hz, k _ (by simp) _ hTI, ⟨x, y, k _ (by simp) _ hTO⟩, Sr.it_at s1 (fun o q => k _ (by simp) o q), Sr.it_at s2 (fun o q => k _ (by simp) o q)⟩
  · intro X hP hw hK hc i pins s σ H E I hf st hg
    subst hP hw hK
    obtain ⟨hz, hTI, ⟨x0, y0, hTO⟩, s1, s2⟩ := st
    obtain ⟨xs, ys, x, y, hqx, hqy, hx, hy⟩ := hg
    obtain ⟨fp1, P1, S1, D1, d1, m1, a1, e1, f1⟩ := Sr.draws I (I.ok.hd hc) hqx (F.o1 _ (by simp)) s1
    obtain ⟨fp2, P2, S2, D2, d2, m2, a2, e2, f2⟩ := Sr.draws I (I.ok.hd hc) hqy (F.o2 _ (by simp)) s2
    have l1 := (List.getElem?_eq_some_iff.mp hx).1
    have l2 := (List.getElem?_eq_some_iff.mp hy).1
    have hzl : z < s.heap.objs.size := Heap.lt_size hz
    refine wpAny_pyNext_zipD2_item (F.sep m1 m2 a1 a2) D1 D2 hz hTI hTO d1 d2 l1 l2 (fun u1 u2 h' tk y1 y2 z' TO' s1' s2' hT hsz hk => ?_)
    obtain ⟨x', hx', ru⟩ := e1 _ _ y1
    obtain ⟨y', hy', ru2⟩ := e2 _ _ y2
    rw [hx] at hx'
    rw [hy] at hy'
    cases hx'
    cases hy'
    refine ⟨_, rfl, wpAny_letOwnedTupleGo_zip (s := { s with heap := h', toks := tk }) z' (fun h2 z2 sb => ?_)⟩
    have hT2 : h2.get? s.heap.objs.size = some { cls := .type "tuple", data := .seq #[u1, u2] } := (sb.2 _ (Nat.ne_of_gt hzl)).trans hT
    have new : ObjOk X.prog X.w (upd H s.heap.objs.size (.tup [x, y])) h2 s.heap.objs.size (.tup [x, y]) :=
      ⟨by show 2 ≤ sizeLine; decide, [u1, u2], .cons ru (.cons ru2 .nil), ⟨_, hT2, rfl, _, rfl⟩⟩
    have I1 : Inv X pins σ (upd H s.heap.objs.size (.tup [x, y])) { s with heap := h2, toks := tk } := by
      refine I.turnedNew (ch := [z, TI, TO, p1, p2]) (fun c o hb q => ?_) hf (Nat.le_refl _) new
      simp only [List.mem_cons, List.not_mem_nil, or_false, not_or] at hb
      exact (sb.2 c hb.1).trans (hk c o hb.1 hb.2.2.1 hb.2.2.2.1 hb.2.2.2.2 q)
    refine ⟨.ref s.heap.objs.size, _, I1, rfl, ⟨_, x, y, rfl, I.hok.fresh (Nat.le_refl _), rfl, fun l hl => by rw [Sr.inj I hl hqx]; exact hx, fun l hl => by rw [Sr.inj I hl hqy]; exact hy⟩, ⟨z2, ?_, ⟨u1, u2, ?_⟩, ?_, ?_⟩, fun c hcm => ?_⟩
    · exact (sb.2 _ F.n1).trans (hk _ _ F.n1 F.n3 F.n4 F.n5 hTI)
    · exact (sb.2 _ F.n2).trans TO'
    · exact Sr.it_at (f1 _ _ s1') (fun o q => (sb.2 _ F.n6.symm).trans q)
    · exact Sr.it_at (f2 _ _ s2') (fun o q => (sb.2 _ F.n7.symm).trans q)
    · have hlt : c < s.heap.objs.size := by
        have e' : c = z ∨ c = TI ∨ c = TO ∨ c = p1 ∨ c = p2 := by simpa using hcm
        rcases e' with rfl | rfl | rfl | rfl | rfl
        · exact hzl
        · exact Heap.lt_size hTI
        · exact Heap.lt_size hTO
        · obtain ⟨_, q, _⟩ := Sr.it_obj s1
          exact Heap.lt_size q
        · obtain ⟨_, q, _⟩ := Sr.it_obj s2
          exact Heap.lt_size q
      rw [upd_ne (Nat.ne_of_lt hlt)]
      exact (hf c hcm).1
  · intro X hP hw hK hc i pins s σ H E I hf st hg
    subst hP hw hK
    obtain ⟨hz, hTI, ⟨x0, y0, hTO⟩, s1, s2⟩ := st
    obtain ⟨xs, ys, hqx, hqy, le1, le2, hend⟩ := hg
    obtain ⟨fp1, P1, S1, D1, d1, m1, a1, e1, f1⟩ := Sr.draws I (I.ok.hd hc) hqx (F.o1 _ (by simp)) s1
    obtain ⟨fp2, P2, S2, D2, d2, m2, a2, e2, f2⟩ := Sr.draws I (I.ok.hd hc) hqy (F.o2 _ (by simp)) s2
    refine wpAny_pyNext_zipD2_end (F.sep m1 m2 a1 a2) D1 D2 hz hTI hTO d1 d2 le1 le2 hend (fun h' tk hk => ⟨rfl, I.turnedL (ch := [z, TI, TO, p1, p2]) (fun c o hb q => ?_) hf⟩)
    simp only [List.mem_cons, List.not_mem_nil, or_false, not_or] at hb
    exact hk c o hb.1 hb.2.2.1 hb.2.2.2.1 hb.2.2.2.2 q
  · rintro A i s Q E ⟨hz, _⟩ h
    exact wpAny_pyIter_zip hz h
theorem far_new {r1 r2 : Sr} (N : Nat) (f1 : ∀ q, N ≤ q → r1.off q) (f2 : ∀ q, N ≤ q → r2.off q) : Far r1 r2 (N + 4) (N + 2) (N + 3) N (N + 1) := by
  have ne : ∀ i j : Nat, i ≠ j → ¬ (N + i = N + j) := fun i j h e => by omega
  have o : ∀ q ∈ ([N + 4, N + 3, N, N + 1] : List Nat), N ≤ q := fun q hq => by
    simp only [List.mem_cons, List.not_mem_nil, or_false] at hq
    omega
  exact ⟨ne 2 4 (by decide), ne 3 4 (by decide), ne 2 3 (by decide), ne 2 0 (by decide), ne 2 1 (by decide), ne 4 0 (by decide), ne 4 1 (by decide), ne 3 0 (by decide), ne 3 1 (by decide), ne 0 1 (by decide), fun q hq => f1 q (o q hq), fun q hq => f2 q (o q hq)⟩
theorem le_new {N c : Nat} (h : c = N + 4 ∨ c = N + 2 ∨ c = N + 3 ∨ c = N ∨ c = N + 1) : N ≤ c := by omega
def iZipS (K : PySem.W.Frag) (ta : TA) : TI := fun σ H R => ta σ H fun vs H1 => ∃ r1 r2 xs ys, vs = [Sr.v r1, Sr.v r2] ∧ r1.has K H1 xs ∧ r2.has K H1 ys ∧ R (ItzS K r1 r2) H1
theorem pi_zipS {X : Cx} {e e2 : Expr} {ta : TA} {p pos tpos : Pos} {elts : List Expr} {kk : Nat} (hg : Gl X "zip") (hm : X.mg "zip" = none) (ha : PA X [e, e2] ta)
    (hs : starEach [e, e2] X.env = (false, eval e X.env) :: starEach [e2] X.env := by rfl) (hpl : (backTo pos (starEach [e2] X.env)).any (·.1) = false := by rfl) :
    PI X (.Tuple elts kk tpos) (.Call (.Name "zip" p) [e, e2] [] pos) (iZipS X.K ta) := by
  refine ⟨fun pins s σ H R I h => ?_⟩
  have run := ha.run pos pins s σ H _ I h
  refine Call_ (ld_blt I hg hm PyProof.Rows.boot_zip (PyProof.Rows.callWith_type1 (thn run ?_) hs hpl))
  rintro us s1 ⟨vs, H1, I1, rr, r1, r2, xs, ys, rfl, hqx, hqy, q⟩
  cases rr with
  | cons ra rr =>
    cases rr with
    | cons rb rr =>
      cases rr
      obtain ⟨o1, B1, t1, b1, c1, k1, f1⟩ := Sr.begins I1 hqx ra
      obtain ⟨o2, B2, t2, b2, c2, k2, f2⟩ := Sr.begins I1 hqy rb
      refine zip_begins2 b1 b2 c1 c2 (fun h' hz hTI hTO g1 g2 hsz hk => wpAny_pyIter_zip hz ?_)
      have F := far_new s1.heap.objs.size f1 f2
      refine ⟨_, _, _, _, H1, rfl, I1.kept (t' := s1.toks) hk, turnZS (t1 := t1) (t2 := t2) F, ⟨hz, hTI, ⟨_, _, hTO⟩, k1 _ _ g1, k2 _ _ g2⟩, fun c hcm => ?_, q⟩
      have hle : s1.heap.objs.size ≤ c := by
        simp only [List.mem_cons, List.not_mem_nil, or_false] at hcm
        exact le_new hcm
      exact I1.fpOk hle (I1.hok.fresh hle)
end Kb
namespace Kb
open PySem PySem.Spec PyProof.Rows L2
/-! ### min of a tuple of ints -/
end Kb
/-! a world of objects, named by a whole number -/
namespace Kw
open PySem
mutual
def ser : PyData → List Nat
  | .none => [0]
  | .bool b => [1, b.toNat]
  | .int i => [2, (decide (i < 0)).toNat, i.natAbs]
  | .str z => 3 :: z.cps.size :: z.cps.toList
  | .list ds => 4 :: ds.length :: serL ds
  | .tuple ds => 5 :: ds.length :: serL ds
  | .dict kvs => 6 :: kvs.length :: serP kvs
def serL : List PyData → List Nat
  | [] => []
  | d :: ds => ser d ++ serL ds
def serP : List (PyData × PyData) → List Nat
  | [] => []
  | (a, b) :: r => ser a ++ (ser b ++ serP r)
end
/-- one to one, with anything behind -/
def Pre {α : Type} (f : α → List Nat) : Prop := ∀ x y r s, f x ++ r = f y ++ s → x = y ∧ r = s
theorem nats_inj : ∀ (a b r s : List Nat), a.length = b.length → a ++ r = b ++ s → a = b ∧ r = s := fun a b r s h e => List.append_inj e h
mutual
theorem ser_inj : ∀ (x y : PyData) (r s : List Nat), ser x ++ r = ser y ++ s → x = y ∧ r = s
  | .none, y, r, s, h => by
    cases y <;> simp only [ser, List.cons_append, List.nil_append, List.cons.injEq] at h <;> first | exact ⟨rfl, h.2⟩ | omega
  | .bool b, y, r, s, h => by
    cases y <;> simp only [ser, List.cons_append, List.nil_append, List.cons.injEq] at h <;> first | omega | skip
    rename_i c
    obtain ⟨_, h1, h2⟩ := h
    exact ⟨(by cases b <;> cases c <;> first | rfl | (cases h1; done)), h2⟩
  | .int i, y, r, s, h => by
    cases y <;> simp only [ser, List.cons_append, List.nil_append, List.cons.injEq] at h <;> first | omega | skip
    rename_i j
    obtain ⟨_, h1, h2, h3⟩ := h
    refine ⟨?_, h3⟩
    by_cases p : i < 0 <;> by_cases q : j < 0 <;> simp [p, q] at h1 <;> first | (exact congrArg _ (by omega)) | skip
  | .str z, y, r, s, h => by
    cases y <;> simp only [ser, List.cons_append, List.nil_append, List.cons.injEq] at h <;> first | omega | skip
    rename_i w
    obtain ⟨_, h1, h2⟩ := h
    obtain ⟨e1, e2⟩ := nats_inj _ _ _ _ (by rw [Array.length_toList, Array.length_toList]; exact h1) h2
    refine ⟨?_, e2⟩
    cases z; cases w
    simp only at e1
    rw [Array.toList_inj.mp e1]
  | .list ds, y, r, s, h => by
    cases y <;> simp only [ser, List.cons_append, List.nil_append, List.cons.injEq] at h <;> first | omega | skip
    rename_i es
    obtain ⟨_, h1, h2⟩ := h
    obtain ⟨e1, e2⟩ := serL_inj ds es r s h1 h2
    exact ⟨by rw [e1], e2⟩
  | .tuple ds, y, r, s, h => by
    cases y <;> simp only [ser, List.cons_append, List.nil_append, List.cons.injEq] at h <;> first | omega | skip
    rename_i es
    obtain ⟨_, h1, h2⟩ := h
    obtain ⟨e1, e2⟩ := serL_inj ds es r s h1 h2
    exact ⟨by rw [e1], e2⟩
  | .dict ds, y, r, s, h => by
    cases y <;> simp only [ser, List.cons_append, List.nil_append, List.cons.injEq] at h <;> first | omega | skip
    rename_i es
    obtain ⟨_, h1, h2⟩ := h
    obtain ⟨e1, e2⟩ := serP_inj ds es r s h1 h2
    exact ⟨by rw [e1], e2⟩
theorem serL_inj : ∀ (xs ys : List PyData) (r s : List Nat), xs.length = ys.length → serL xs ++ r = serL ys ++ s → xs = ys ∧ r = s
  | [], [], r, s, _, h => ⟨rfl, h⟩
  | [], _ :: _, _, _, h, _ => nomatch h
  | _ :: _, [], _, _, h, _ => nomatch h
  | x :: xs, y :: ys, r, s, h, e => by
    simp only [serL, List.append_assoc] at e
    obtain ⟨e1, e2⟩ := ser_inj x y _ _ e
    obtain ⟨e3, e4⟩ := serL_inj xs ys r s (by simpa using h) e2
    exact ⟨by rw [e1, e3], e4⟩
theorem serP_inj : ∀ (xs ys : List (PyData × PyData)) (r s : List Nat), xs.length = ys.length → serP xs ++ r = serP ys ++ s → xs = ys ∧ r = s
  | [], [], r, s, _, h => ⟨rfl, h⟩
  | [], _ :: _, _, _, h, _ => nomatch h
  | _ :: _, [], _, _, h, _ => nomatch h
  | (x, u) :: xs, (y, v) :: ys, r, s, h, e => by
    simp only [serP, List.append_assoc] at e
    obtain ⟨e1, e2⟩ := ser_inj x y _ _ e
    obtain ⟨f1, f2⟩ := ser_inj u v _ _ e2
    obtain ⟨e3, e4⟩ := serP_inj xs ys r s (by simpa using h) f2
    exact ⟨by rw [e1, f1, e3], e4⟩
end
theorem pre_ser : Pre ser := ser_inj
theorem pre_nat : Pre (fun n : Nat => [n]) := fun x y r s h => by
  simp only [List.cons_append, List.nil_append, List.cons.injEq] at h
  exact h
def serS (z : Str) : List Nat := ser (.str z)
theorem pre_str : Pre serS := fun x y r s h => by
  obtain ⟨e1, e2⟩ := ser_inj _ _ _ _ h
  cases e1
  exact ⟨rfl, e2⟩
def two {α β : Type} (f : α → List Nat) (g : β → List Nat) : α × β → List Nat := fun p => f p.1 ++ g p.2
theorem pre_two {α β : Type} {f : α → List Nat} {g : β → List Nat} (hf : Pre f) (hg : Pre g) : Pre (two f g) := fun ⟨a, b⟩ ⟨c, d⟩ r s h => by
  simp only [two, List.append_assoc] at h
  obtain ⟨e1, e2⟩ := hf a c _ _ h
  obtain ⟨e3, e4⟩ := hg b d _ _ e2
  exact ⟨by rw [e1, e3], e4⟩
def many {α : Type} (f : α → List Nat) (l : List α) : List Nat := l.length :: (l.map f).flatten
theorem pre_many {α : Type} {f : α → List Nat} (hf : Pre f) : Pre (many f) := fun l m r s h => by
  simp only [many, List.cons_append, List.cons.injEq] at h
  obtain ⟨h1, h2⟩ := h
  induction l generalizing m r s with
  | nil =>
    cases m with
    | nil => exact ⟨rfl, h2⟩
    | cons => cases h1
  | cons a l ih =>
    cases m with
    | nil => cases h1
    | cons b m =>
      simp only [List.map_cons, List.flatten_cons, List.append_assoc] at h2
      obtain ⟨e1, e2⟩ := hf a b _ _ h2
      obtain ⟨e3, e4⟩ := ih m r s (by simpa using h1) e2
      exact ⟨by rw [e1, e3], e4⟩
def pair (a b : Nat) : Nat := (a + b) * (a + b) + a
theorem pair_inj {a b c d : Nat} (h : pair a b = pair c d) : a = c ∧ b = d := by
  unfold pair at h
  have key : ∀ {s t x y : Nat}, x ≤ s → s * s + x = t * t + y → s < t → False := fun {s t x y} hx e hs => by
    have h1 := Nat.mul_le_mul (Nat.succ_le_of_lt hs) (Nat.succ_le_of_lt hs)
    have h2 : (s + 1) * (s + 1) = s * s + 2 * s + 1 := by rw [Nat.add_mul, Nat.mul_add]; omega
    have h3 : s.succ * s.succ = (s + 1) * (s + 1) := rfl
    omega
  have e : a + b = c + d := by
    rcases Nat.lt_trichotomy (a + b) (c + d) with z | z | z
    · exact (key (Nat.le_add_right a b) h z).elim
    · exact z
    · exact (key (Nat.le_add_right c d) h.symm z).elim
  rw [e] at h
  omega
def num : List Nat → Nat
  | [] => 0
  | a :: l => pair a (num l) + 1
theorem num_inj : ∀ {l m : List Nat}, num l = num m → l = m
  | [], [], _ => rfl
  | [], _ :: _, h => by simp only [num] at h; omega
  | _ :: _, [], h => by simp only [num] at h; omega
  | a :: l, b :: m, h => by
    simp only [num] at h
    obtain ⟨e1, e2⟩ := pair_inj (Nat.succ.inj h)
    rw [e1, num_inj e2]
/-- an object that changes: an instance, its own dict, a list -/
inductive Ob
  | ins (C dx : Nat) (fs : List (Str × PyData))
  | dd (a : Nat)
  | lst (ds : List PyData)
def serO : Ob → List Nat
  | .ins C dx fs => 0 :: C :: dx :: many (two serS ser) fs
  | .dd a => [1, a]
  | .lst ds => 2 :: many ser ds
theorem pre_ob : Pre serO := fun x y r s h => by
  cases x <;> cases y <;> simp only [serO, List.cons_append, List.nil_append, List.cons.injEq] at h <;> first | omega | skip
  · obtain ⟨_, h1, h2, h3⟩ := h
    obtain ⟨e1, e2⟩ := pre_many (pre_two pre_str pre_ser) _ _ _ _ h3
    exact ⟨by rw [h1, h2, e1], e2⟩
  · obtain ⟨_, h1, h2⟩ := h
    exact ⟨by rw [h1], h2⟩
  · obtain ⟨_, h1⟩ := h
    obtain ⟨e1, e2⟩ := pre_many pre_ser _ _ _ _ h1
    exact ⟨by rw [e1], e2⟩
/-- the world: how often was drawn, the objects -/
structure Wn where
  t : Nat
  obs : List (Nat × Ob)
def serW (w : Wn) : List Nat := w.t :: many (two (fun a => [a]) serO) w.obs
theorem serW_inj {w v : Wn} (h : serW w = serW v) : w = v := by
  simp only [serW, List.cons.injEq] at h
  obtain ⟨e1, _⟩ := pre_many (pre_two pre_nat pre_ob) w.obs v.obs [] [] (by rw [h.2])
  obtain ⟨t, o⟩ := w
  obtain ⟨u, p⟩ := v
  simp only at h e1
  rw [h.1, e1]
def mk (w : Wn) : Nat := num (serW w)
theorem mk_inj {w v : Wn} (h : mk w = mk v) : w = v := serW_inj (num_inj h)
open Classical in
/-- the world that a number names -/
noncomputable def un (n : Nat) : Wn := if h : ∃ w, mk w = n then h.choose else ⟨0, []⟩
theorem un_mk (w : Wn) : un (mk w) = w := by
  unfold un
  have h : ∃ v, mk v = mk w := ⟨w, rfl⟩
  rw [dif_pos h]
  exact mk_inj h.choose_spec
noncomputable def wt (n : Nat) : Nat := (un n).t
noncomputable def ob (n : Nat) (a : Nat) : Option Ob := (un n).obs.lookup a
noncomputable def dom (n : Nat) (a : Nat) : Bool := (ob n a).isSome
/-- k more draws -/
noncomputable def adv (n k : Nat) : Nat := mk { un n with t := wt n + k }
/-- the object at a is x from now on -/
noncomputable def put (n a : Nat) (x : Ob) : Nat := mk { un n with obs := (a, x) :: (un n).obs }
theorem wt_adv (n k : Nat) : wt (adv n k) = wt n + k := by unfold wt adv; rw [un_mk]; rfl
theorem ob_adv (n k : Nat) : ob (adv n k) = ob n := by funext a; unfold ob adv; rw [un_mk]
theorem wt_put (n a : Nat) (x : Ob) : wt (put n a x) = wt n := by unfold wt put; rw [un_mk]
theorem ob_put (n a : Nat) (x : Ob) : ob (put n a x) a = some x := by unfold ob put; rw [un_mk]; simp
theorem ob_put_ne {n a b : Nat} (x : Ob) (h : b ≠ a) : ob (put n a x) b = ob n b := by
  unfold ob put
  rw [un_mk]
  simp only [List.lookup_cons, show (b == a) = false by simpa using h]
theorem dom_put {n a b : Nat} {x : Ob} : dom (put n a x) b = (decide (b = a) || dom n b) := by
  unfold dom
  by_cases h : b = a
  · rw [h, ob_put]; simp
  · rw [ob_put_ne x h]; simp [h]
theorem dom_adv (n k : Nat) : dom (adv n k) = dom n := by unfold dom; rw [ob_adv]
end Kw
namespace Kd
open PySem PySem.Spec PyProof.Rows L2 Kb
/-! ### data under a heap; some addresses hidden -/
def hid (O : Addr → Bool) (H : Hp) : Hp := fun a => if O a = true then none else H a
theorem hid_some {O : Addr → Bool} {H : Hp} {a : Addr} {o : HO} : hid O H a = some o ↔ O a = false ∧ H a = some o := by
  unfold hid
  cases h : O a
  · rw [if_neg (by decide)]
    exact ⟨fun e => ⟨rfl, e⟩, fun e => e.2⟩
  · rw [if_pos rfl]
    exact ⟨fun e => (nomatch e), fun e => (nomatch e.1)⟩
theorem hid_same (O : Addr → Bool) (H : Hp) : Same (hid O H) H := fun _ _ e => (hid_some.mp e).2
/-- a pair of enumerate or zip among the data -/
def PAIR (x y : PyData) : PyData := .dict [(.tuple [x], y)]
/-- the items of a tuple or pair -/
def tupOf : PyData → Option (List PyData)
  | .tuple ds => some ds
  | .dict [(.tuple [x], y)] => some [x, y]
  | _ => none
/-- the stream's token among the data -/
def STRM : PyData := .dict [(.none, .none)]
/-- an object of the world among the data -/
def OBJ (a : Addr) : PyData := .dict [(.none, .int (a : Nat))]
mutual
inductive Dq (K : PySem.W.Frag) (p : Addr) (H : Hp) : V → PyData → Prop
  | non : Dq K p H .non .none
  | bl (b : Bool) : Dq K p H (.bl b) (.bool b)
  | int (i : Int) : Dq K p H (.int i) (.int i)
  | str (x : Str) (h : x.length ≤ sizeLine) : Dq K p H (.str x) (.str x)
  | lst {a : Addr} {xs : List V} {ds : List PyData} : H a = some (.lst xs) → DqAll K p H xs ds → Dq K p H (.ref a) (.list ds)
  | tup {a : Addr} {xs : List V} {ds : List PyData} : FT H a xs → DqAll K p H xs ds → Dq K p H (.ref a) (.tuple ds)
  | pair {a : Addr} {v u : V} {x y : PyData} : H a = some (.tup [v, u]) → Dq K p H v x → Dq K p H u y → Dq K p H (.ref a) (PAIR x y)
  | dct {a : Addr} {vs : List (Key × V)} {ks : List (Key × PyData)} : H a = some (.dK vs) → DqKV K p H vs ks → Dq K p H (.ref a) (.dict (ks.map fun p => (keyD p.1, p.2)))
  | obj (a : Addr) : Dq K p H (.ref a) (OBJ a)
  | stm {d : PyData} (e : d = STRM) : Dq K p H (.ref p) d
inductive DqAll (K : PySem.W.Frag) (p : Addr) (H : Hp) : List V → List PyData → Prop
  | nil : DqAll K p H [] []
  | cons {v : V} {vs : List V} {d : PyData} {ds : List PyData} : Dq K p H v d → DqAll K p H vs ds → DqAll K p H (v :: vs) (d :: ds)
inductive DqKV (K : PySem.W.Frag) (p : Addr) (H : Hp) : List (Key × V) → List (Key × PyData) → Prop
  | nil : DqKV K p H [] []
  | cons {k : Key} {v : V} {d : PyData} {vs : List (Key × V)} {ds : List (Key × PyData)} : Dq K p H v d → DqKV K p H vs ds → DqKV K p H ((k, v) :: vs) ((k, d) :: ds)
end
mutual
theorem Dq.same {K : PySem.W.Frag} {p : Addr} {H H' : Hp} (s : Same H H') : ∀ {x : V} {d : PyData}, Dq K p H x d → Dq K p H' x d
  | _, _, .non => .non
  | _, _, .bl b => .bl b
  | _, _, .int i => .int i
  | _, _, .str x h => .str x h
  | _, _, .lst h a => .lst (s _ _ h) (DqAll.same s a)
  | _, _, .tup h a => .tup (h.same s) (DqAll.same s a)
  | _, _, .pair h a b => .pair (s _ _ h) (Dq.same s a) (Dq.same s b)
  | _, _, .dct h a => .dct (s _ _ h) (DqKV.same s a)
  | _, _, .obj a => .obj a
  | _, _, .stm e => .stm e
theorem DqAll.same {K : PySem.W.Frag} {p : Addr} {H H' : Hp} (s : Same H H') : ∀ {xs : List V} {ds : List PyData}, DqAll K p H xs ds → DqAll K p H' xs ds
  | _, _, .nil => .nil
  | _, _, .cons h r => .cons (Dq.same s h) (DqAll.same s r)
theorem DqKV.same {K : PySem.W.Frag} {p : Addr} {H H' : Hp} (s : Same H H') : ∀ {vs : List (Key × V)} {ds : List (Key × PyData)}, DqKV K p H vs ds → DqKV K p H' vs ds
  | _, _, .nil => .nil
  | _, _, .cons h r => .cons (Dq.same s h) (DqKV.same s r)
end
theorem keyD_nn (k : Key) : keyD k ≠ .none := by cases k <;> exact fun e => nomatch e
theorem strm_dict : STRM.hasDict = true := by decide +kernel
section
variable {K : PySem.W.Frag} {p : Addr} {H : Hp}
theorem Dq.none' {v : V} (h : Dq K p H v .none) : v = .non := by
  generalize e : PyData.none = d at h
  cases h with
  | non => rfl
  | stm e' => subst e; cases e'
  | _ => cases e
theorem Dq.bool' {v : V} {b : Bool} (h : Dq K p H v (.bool b)) : v = .bl b := by
  generalize e : PyData.bool b = d at h
  cases h with
  | bl _ => cases e; rfl
  | stm e' => subst e; cases e'
  | _ => cases e
theorem Dq.int' {v : V} {i : Int} (h : Dq K p H v (.int i)) : v = .int i := by
  generalize e : PyData.int i = d at h
  cases h with
  | int _ => cases e; rfl
  | stm e' => subst e; cases e'
  | _ => cases e
theorem Dq.str' {v : V} {z : Str} (h : Dq K p H v (.str z)) : v = .str z := by
  generalize e : PyData.str z = d at h
  cases h with
  | str _ h => cases e; rfl
  | stm e' => subst e; cases e'
  | _ => cases e
theorem Dq.strLen {v : V} {z : Str} (h : Dq K p H v (.str z)) : z.length ≤ sizeLine := by
  generalize e : PyData.str z = d at h
  cases h with
  | str _ h => cases e; exact h
  | stm e' => subst e; cases e'
  | _ => cases e
theorem Dq.list' {v : V} {ds : List PyData} (h : Dq K p H v (.list ds)) : ∃ a xs, v = .ref a ∧ SqL K H a xs ∧ DqAll K p H xs ds := by
  generalize e : PyData.list ds = d at h
  cases h with
  | lst h a => cases e; exact ⟨_, _, rfl, .inl (.inl h), a⟩
  | stm e' => subst e; cases e'
  | _ => cases e
theorem Dq.listP {v : V} {ds : List PyData} (h : Dq K p H v (.list ds)) : ∃ a xs, v = .ref a ∧ H a = some (.lst xs) ∧ DqAll K p H xs ds := by
  generalize e : PyData.list ds = d at h
  cases h with
  | lst h a => cases e; exact ⟨_, _, rfl, h, a⟩
  | stm e' => subst e; cases e'
  | _ => cases e
theorem Dq.tupleP {v : V} {ds : List PyData} (h : Dq K p H v (.tuple ds)) : ∃ a xs, v = .ref a ∧ FT H a xs ∧ DqAll K p H xs ds := by
  generalize e : PyData.tuple ds = d at h
  cases h with
  | tup h a => cases e; exact ⟨_, _, rfl, h, a⟩
  | stm e' => subst e; cases e'
  | _ => cases e
theorem Dq.tuple' {v : V} {ds : List PyData} (h : Dq K p H v (.tuple ds)) : ∃ a xs, v = .ref a ∧ SqT K H a xs ∧ DqAll K p H xs ds := by
  generalize e : PyData.tuple ds = d at h
  cases h with
  | tup h a => cases e; exact ⟨_, _, rfl, h.sq, a⟩
  | stm e' => subst e; cases e'
  | _ => cases e
theorem Dq.strm' {v : V} (h : Dq K p H v STRM) : v = .ref p := by
  generalize e : STRM = d at h
  cases h with
  | stm e' => rfl
  | dct h hk =>
    rename_i a vs ks
    exfalso
    cases ks with
    | nil => cases e
    | cons k ks =>
      unfold STRM at e
      simp only [List.map_cons, PyData.dict.injEq, List.cons.injEq, Prod.mk.injEq] at e
      exact keyD_nn _ e.1.1.symm
  | obj a => cases e
  | _ => cases e
theorem Dq.obj' {v : V} {a : Addr} (h : Dq K p H v (OBJ a)) : v = .ref a := by
  generalize e : OBJ a = d at h
  cases h with
  | stm e' => subst e; cases e'
  | dct h hk =>
    rename_i a vs ks
    exfalso
    cases ks with
    | nil => cases e
    | cons k ks =>
      unfold OBJ at e
      simp only [List.map_cons, PyData.dict.injEq, List.cons.injEq, Prod.mk.injEq] at e
      exact keyD_nn _ e.1.1.symm
  | obj b =>
    unfold OBJ at e
    simp only [PyData.dict.injEq, List.cons.injEq, Prod.mk.injEq, PyData.int.injEq] at e
    have : a = b := Int.ofNat.inj e.1.2
    rw [this]
  | _ => cases e
theorem Dq.tupOf {v : V} {d : PyData} {ds : List PyData} (h : Dq K p H v d) (e : Kd.tupOf d = some ds) : ∃ a xs, v = .ref a ∧ SqT K H a xs ∧ DqAll K p H xs ds := by
  cases h with
  | tup h a => cases e; exact ⟨_, _, rfl, h.sq, a⟩
  | pair h a b => cases e; exact ⟨_, _, rfl, .inl (.inl h), .cons a (.cons b .nil)⟩
  | dct h hk =>
    rename_i a vs ks
    exfalso
    cases ks with
    | nil => cases e
    | cons k ks =>
      obtain ⟨k, i⟩ := k
      cases k <;> (cases ks <;> cases e)
  | obj a => cases e
  | stm e' => subst e'; cases e
  | _ => cases e
theorem DqAll.length {xs : List V} {ds : List PyData} (h : DqAll K p H xs ds) : xs.length = ds.length := by
  induction ds generalizing xs with
  | nil => cases h; rfl
  | cons d ds ih => cases h with | cons a b => rw [List.length_cons, List.length_cons, ih b]
theorem DqAll.get {xs : List V} {ds : List PyData} (h : DqAll K p H xs ds) {i : Nat} {d : PyData} (e : ds[i]? = some d) : ∃ v, xs[i]? = some v ∧ Dq K p H v d := by
  induction ds generalizing xs i with
  | nil => simp at e
  | cons d' ds ih =>
    cases h with
    | cons a b =>
      cases i with
      | zero => simp at e; subst e; exact ⟨_, rfl, a⟩
      | succ i => obtain ⟨v, h1, h2⟩ := ih b (i := i) (by simpa using e); exact ⟨v, by simpa using h1, h2⟩
theorem DqAll.append {xs ys : List V} {ds es : List PyData} (h : DqAll K p H xs ds) (g : DqAll K p H ys es) : DqAll K p H (xs ++ ys) (ds ++ es) := by
  induction ds generalizing xs with
  | nil => cases h; exact g
  | cons d ds ih => cases h with | cons a b => exact .cons a (ih b)
theorem DqAll.take {xs : List V} {ds : List PyData} (h : DqAll K p H xs ds) (n : Nat) : DqAll K p H (xs.take n) (ds.take n) := by
  induction ds generalizing xs n with
  | nil => cases h; simp; exact .nil
  | cons d ds ih =>
    cases h with
    | cons a b =>
      cases n with
      | zero => exact .nil
      | succ n => exact .cons a (ih b n)
theorem DqAll.drop {xs : List V} {ds : List PyData} (h : DqAll K p H xs ds) (n : Nat) : DqAll K p H (xs.drop n) (ds.drop n) := by
  induction ds generalizing xs n with
  | nil => cases h; simp; exact .nil
  | cons d ds ih =>
    cases h with
    | cons a b =>
      cases n with
      | zero => exact .cons a b
      | succ n => exact ih b n
theorem DqAll.set {xs : List V} {ds : List PyData} {v : V} {d : PyData} (h : DqAll K p H xs ds) (g : Dq K p H v d) (n : Nat) : DqAll K p H (xs.set n v) (ds.set n d) := by
  induction ds generalizing xs n with
  | nil => cases h; exact .nil
  | cons d' ds ih =>
    cases h with
    | cons a b =>
      cases n with
      | zero => exact .cons g b
      | succ n => exact .cons a (ih b n)
end
mutual
theorem Dq.dp {K : PySem.W.Frag} {p : Addr} {H : Hp} : ∀ {x : V} {d : PyData}, Dq K p H x d → d.hasDict = false → Dp K H x d
  | _, _, .non, _ => .non
  | _, _, .bl b, _ => .bl b
  | _, _, .int i, _ => .int i
  | _, _, .str x h, _ => .str x
  | _, _, .lst h a, e => .lst (.inl (.inl h)) (DqAll.dp a (by simpa [PyData.hasDict] using e))
  | _, _, .tup h a, e => .tup h.sq (DqAll.dp a (by simpa [PyData.hasDict] using e))
  | _, _, .pair h a b, e => by simp [PAIR, PyData.hasDict] at e
  | _, _, .dct h _, e => by simp [PyData.hasDict] at e
  | _, _, .obj a, e => by simp [OBJ, PyData.hasDict] at e
  | _, _, .stm e, e' => by rw [e, strm_dict] at e'; cases e'
theorem DqAll.dp {K : PySem.W.Frag} {p : Addr} {H : Hp} : ∀ {xs : List V} {ds : List PyData}, DqAll K p H xs ds → PyData.hasDictAll ds = false → DpAll K H xs ds
  | _, _, .nil, _ => .nil
  | _, _, .cons h r, e => by
    simp only [PyData.hasDictAll, Bool.or_eq_false_iff] at e
    exact .cons (Dq.dp h e.1) (DqAll.dp r e.2)
end
end Kd
namespace Kd
open PySem PySem.Spec PyProof.Rows L2 Kb
abbrev St := L2.St
/-! ### the world: the stream, what is owned -/
structure G where
  p : Addr
  b : Addr
  c : Addr
inductive XF (K : PySem.W.Frag) (p : Addr) (H : Hp) : List (Str × V) → List (Str × PyData) → Prop
  | nil : XF K p H [] []
  | cons {k : Str} {v : V} {d : PyData} {vs : List (Str × V)} {ds : List (Str × PyData)} : Dq K p H v d → XF K p H vs ds → XF K p H ((k, v) :: vs) ((k, d) :: ds)
theorem XF.same {K : PySem.W.Frag} {p : Addr} {H H' : Hp} (s : Same H H') : ∀ {vs : List (Str × V)} {ds : List (Str × PyData)}, XF K p H vs ds → XF K p H' vs ds
  | _, _, .nil => .nil
  | _, _, .cons h r => .cons (h.same s) (XF.same s r)
mutual
theorem Dq.any {K K' : PySem.W.Frag} {p : Addr} {H : Hp} : ∀ {x : V} {d : PyData}, Dq K p H x d → Dq K' p H x d
  | _, _, .non => .non
  | _, _, .bl b => .bl b
  | _, _, .int i => .int i
  | _, _, .str x h => .str x h
  | _, _, .lst h a => .lst h (DqAll.any a)
  | _, _, .tup h a => .tup h (DqAll.any a)
  | _, _, .pair h a b => .pair h (Dq.any a) (Dq.any b)
  | _, _, .dct h a => .dct h (DqKV.any a)
  | _, _, .obj a => .obj a
  | _, _, .stm e => .stm e
theorem DqAll.any {K K' : PySem.W.Frag} {p : Addr} {H : Hp} : ∀ {xs : List V} {ds : List PyData}, DqAll K p H xs ds → DqAll K' p H xs ds
  | _, _, .nil => .nil
  | _, _, .cons h r => .cons (Dq.any h) (DqAll.any r)
theorem DqKV.any {K K' : PySem.W.Frag} {p : Addr} {H : Hp} : ∀ {vs : List (Key × V)} {ds : List (Key × PyData)}, DqKV K p H vs ds → DqKV K' p H vs ds
  | _, _, .nil => .nil
  | _, _, .cons h r => .cons (Dq.any h) (DqKV.any r)
end
theorem XF.any {K K' : PySem.W.Frag} {p : Addr} {H : Hp} : ∀ {vs : List (Str × V)} {ds : List (Str × PyData)}, XF K p H vs ds → XF K' p H vs ds
  | _, _, .nil => .nil
  | _, _, .cons h r => .cons h.any (XF.any r)
mutual
/-- no list and no dict within -/
def nl : PyData → Bool
  | .list _ => false
  | .tuple ds => nlA ds
  | .dict kvs => match kvs with | [(.none, .int _)] => true | _ => false
  | _ => true
def nlA : List PyData → Bool
  | [] => true
  | d :: ds => nl d && nlA ds
end
theorem nlA_all : ∀ {ds : List PyData}, nlA ds = true ↔ ∀ d ∈ ds, nl d = true
  | [] => by simp [nlA]
  | d :: ds => by simp [nlA, nlA_all]
/-- an object of the world, as it stands -/
def ObAt (g : G) (O : Addr → Bool) (H : Hp) (n : Nat) (a : Addr) : Kw.Ob → Prop
  | .ins C dx fs => O a = true ∧ (∃ xs, H a = some (.ins C dx xs) ∧ ∀ K, XF K g.p (hid O H) xs fs) ∧ Kw.ob n dx = some (.dd a) ∧ ∀ p ∈ fs, nl p.2 = true
  | .dd b => O a = true ∧ H a = some (.own b)
  | .lst ds => O a = true ∧ (∃ xs, H a = some (.lst xs) ∧ ∀ K, DqAll K g.p (hid O H) xs ds) ∧ nlA ds = true
theorem ObAt.here {g : G} {O : Addr → Bool} {H : Hp} {n : Nat} {a : Addr} {x : Kw.Ob} (h : ObAt g O H n a x) : O a = true ∧ H a ≠ none := by
  cases x with
  | ins C dx fs => obtain ⟨h1, ⟨xs, h2, _⟩, _⟩ := h; exact ⟨h1, by rw [h2]; exact fun e => nomatch e⟩
  | dd b => obtain ⟨h1, h2⟩ := h; exact ⟨h1, by rw [h2]; exact fun e => nomatch e⟩
  | lst ds => obtain ⟨h1, ⟨xs, h2, _⟩, _⟩ := h; exact ⟨h1, by rw [h2]; exact fun e => nomatch e⟩
/-- it stands as before; what is seen is seen still -/
theorem ObAt.keep {g : G} {O O' : Addr → Bool} {H H' : Hp} {n n' : Nat} {a : Addr} {x : Kw.Ob} (h : ObAt g O H n a x) (ho : O a = true → O' a = true) (e : H' a = H a) (s : Same (hid O H) (hid O' H')) (w : ∀ d b, Kw.ob n d = some (.dd b) → Kw.ob n' d = some (.dd b)) : ObAt g O' H' n' a x := by
  cases x with
  | ins C dx fs => obtain ⟨h1, ⟨xs, h2, h3⟩, h4, h5⟩ := h; exact ⟨ho h1, ⟨xs, by rw [e]; exact h2, fun K => (h3 K).same s⟩, w _ _ h4, h5⟩
  | dd b => obtain ⟨h1, h2⟩ := h; exact ⟨ho h1, by rw [e]; exact h2⟩
  | lst ds => obtain ⟨h1, ⟨xs, h2, h3⟩, h4⟩ := h; exact ⟨ho h1, ⟨xs, by rw [e]; exact h2, fun K => (h3 K).same s⟩, h4⟩
structure WOk (g : G) (O : Addr → Bool) (H : Hp) (n : Nat) : Prop where
  stm : Stm H g.p g.b g.c (Kw.wt n)
  np : Kw.dom n g.p = false
  nb : Kw.dom n g.b = false
  nc : Kw.dom n g.c = false
  obj : ∀ a x, Kw.ob n a = some x → ObAt g O H n a x
theorem dom_ob {n : Nat} {a : Addr} (h : Kw.dom n a = true) : ∃ x, Kw.ob n a = some x := Option.isSome_iff_exists.mp h
theorem WOk.here {g : G} {O : Addr → Bool} {H : Hp} {n : Nat} {a : Addr} (w : WOk g O H n) (h : Kw.dom n a = true) : O a = true ∧ H a ≠ none := by
  obtain ⟨x, e⟩ := dom_ob h
  exact (w.obj a x e).here
structure Ext (g : G) (O O' : Addr → Bool) (H H' : Hp) (n n' : Nat) : Prop where
  sub : ∀ a, O a = true → O' a = true
  new : ∀ a, O' a = true → O a = true ∨ H a = none
  same : ∀ a o, O a = false → H a = some o → H' a = some o
  own : ∀ a, O a = true → a ≠ g.p → a ≠ g.b → Kw.dom n a = false → H' a = H a
  dm : ∀ a, Kw.dom n' a = true → Kw.dom n a = true ∨ H a = none
  st : ∀ a, O a = true → H a ≠ none
  trk : ∀ a, O' a = true → H' a ≠ none
  wok : WOk g O' H' n'
structure Wd (g : G) (O : Addr → Bool) (H : Hp) (n : Nat) : Prop where
  op : O g.p = true
  ob : O g.b = true
  oc : O g.c = true
  trk : ∀ a, O a = true → H a ≠ none
  wok : WOk g O H n
theorem Stm.pSome {H : Hp} {p b c : Addr} {n : Nat} (S : Stm H p b c n) : H p ≠ none ∧ H b ≠ none := by
  obtain ⟨⟨i, big, cells, h1, _, _, h4, _⟩, _⟩ := S
  exact ⟨by rw [h1]; exact (fun e => (nomatch e)), by rw [h4]; exact (fun e => (nomatch e))⟩
section
variable {K : PySem.W.Frag} {g : G} {O O' O2 : Addr → Bool} {H H' H2 : Hp} {n n' n2 : Nat}
theorem hid_mono (s : Same H H') : Same (Kd.hid O H) (Kd.hid O H') := fun a o h => by
  obtain ⟨h1, h2⟩ := hid_some.mp h
  exact hid_some.mpr ⟨h1, s a o h2⟩
theorem WOk.same (w : WOk g O H n) (s : Same H H') : WOk g O H' n := ⟨w.stm.same s, w.np, w.nb, w.nc, fun a x e => by
  have h := w.obj a x e
  obtain ⟨o, eo⟩ := Option.ne_none_iff_exists'.mp h.here.2
  exact h.keep id (by rw [eo]; exact s a o eo) (hid_mono s) fun _ _ z => z⟩
theorem Wd.refl (w : Wd g O H n) : Ext g O O H H n n := ⟨fun _ h => h, fun _ h => .inl h, fun _ _ _ e => e, fun _ _ _ _ _ => rfl, fun _ h => .inl h, w.trk, w.trk, w.wok⟩
theorem Wd.ext (w : Wd g O H n) (e : Ext g O O' H H' n n') : Wd g O' H' n' := ⟨e.sub _ w.op, e.sub _ w.ob, e.sub _ w.oc, e.trk, e.wok⟩
theorem Ext.live (e : Ext g O O' H H' n n') {a : Addr} (h : H a ≠ none) : H' a ≠ none := by
  cases z : O a with
  | true => exact e.trk a (e.sub a z)
  | false =>
    obtain ⟨o, eo⟩ := Option.ne_none_iff_exists'.mp h
    rw [e.same a o z eo]
    exact fun e => nomatch e
theorem Ext.off (e : Ext g O O' H H' n n') {a : Addr} (h : O a = true) (d : Kw.dom n a = false) : Kw.dom n' a = false := by
  cases z : Kw.dom n' a with
  | false => rfl
  | true =>
    rcases e.dm a z with q | q
    · rw [d] at q; cases q
    · exact absurd q (e.st a h)
theorem Ext.trans (e : Ext g O O' H H' n n') (f : Ext g O' O2 H' H2 n' n2) : Ext g O O2 H H2 n n2 := by
  refine ⟨fun a h => f.sub a (e.sub a h), fun a h => ?_, fun a o h1 h2 => ?_, fun a h1 h2 h3 h4 => (f.own a (e.sub a h1) h2 h3 (e.off h1 h4)).trans (e.own a h1 h2 h3 h4), fun a h => ?_, e.st, f.trk, f.wok⟩
  · rcases f.new a h with q | q
    · exact e.new a q
    · exact .inr (Classical.byContradiction fun z => e.live z q)
  · have n1 : O' a = false := by
      cases z : O' a with
      | false => rfl
      | true =>
        rcases e.new a z with q | q
        · rw [h1] at q; cases q
        · rw [h2] at q; cases q
    exact f.same a o n1 (e.same a o h1 h2)
  · rcases f.dm a h with q | q
    · exact e.dm a q
    · exact .inr (Classical.byContradiction fun z => e.live z q)
theorem Ext.vis (e : Ext g O O' H H' n n') {a : Addr} {o : HO} (h1 : O a = false) (h2 : H a = some o) : O' a = false := by
  cases z : O' a with
  | false => rfl
  | true =>
    rcases e.new a z with q | q
    · rw [h1] at q; cases q
    · rw [h2] at q; cases q
theorem Ext.hid (e : Ext g O O' H H' n n') : Same (Kd.hid O H) (Kd.hid O' H') := fun a o h => by
  obtain ⟨h1, h2⟩ := hid_some.mp h
  exact hid_some.mpr ⟨e.vis h1 h2, e.same a o h1 h2⟩
theorem Wd.fresh (w : Wd g O H n) {q : Addr} (h : H q = none) : O q = false := by
  cases e : O q with
  | false => rfl
  | true => exact absurd h (w.trk q e)
theorem Wd.dom0 (w : Wd g O H n) {q : Addr} (h : H q = none) : Kw.dom n q = false := by
  cases e : Kw.dom n q with
  | false => rfl
  | true => exact absurd h (w.wok.here e).2
theorem Same.ext (w : Wd g O H n) (s : Same H H') : Ext g O O H H' n n := by
  have lv : ∀ a, O a = true → H' a = H a := fun a ha => by
    obtain ⟨o, eo⟩ := Option.ne_none_iff_exists'.mp (w.trk a ha)
    rw [eo]; exact s a o eo
  exact ⟨fun _ h => h, fun _ h => .inl h, fun a o _ e => s a o e, fun a ha _ _ _ => lv a ha, fun _ h => .inl h, w.trk, fun a ha => by rw [lv a ha]; exact w.trk a ha, w.wok.same s⟩
/-- a new object -/
theorem Wd.new (w : Wd g O H n) {q : Addr} (h : H q = none) (o : HO) : Ext g O O H (upd H q o) n n := Same.ext w (same_new h)
theorem hid_new {q : Addr} (hq : O q = false) {o : HO} : Kd.hid O (upd H q o) q = some o := hid_some.mpr ⟨hq, upd_same⟩
end
/-! ### a def's frame -/
structure Fx where
  g : G
  U : Addr → Bool
  H : Hp
  W : Hp
  n : Nat
structure Rw (F : Fx) (O : Addr → Bool) (H : Hp) (n : Nat) : Prop where
  wd : Wd F.g O H n
  up : F.U F.g.p = true
  ub : F.U F.g.b = true
  uc : F.U F.g.c = true
  sub : ∀ a, F.U a = true → O a = true
  pin : ∀ a o, F.W a = some o → O a = false ∧ H a = some o
  own : ∀ a, F.U a = true → a ≠ F.g.p → a ≠ F.g.b → Kw.dom F.n a = false → H a = F.H a
  dm : ∀ a, Kw.dom n a = true → Kw.dom F.n a = true ∨ F.H a = none
  u0 : ∀ a, F.U a = true → F.H a ≠ none
  kp : ∀ a, F.H a ≠ none → H a ≠ none
  du : ∀ a, Kw.dom F.n a = true → F.U a = true
theorem Rw.off {F : Fx} {O : Addr → Bool} {H : Hp} {n : Nat} (r : Rw F O H n) {a : Addr} (h : F.U a = true) (d : Kw.dom F.n a = false) : Kw.dom n a = false := by
  cases z : Kw.dom n a with
  | false => rfl
  | true =>
    rcases r.dm a z with q | q
    · rw [d] at q; cases q
    · exact absurd q (r.u0 a h)
theorem Rw.ext {F : Fx} {O O' : Addr → Bool} {H H' : Hp} {n n' : Nat} (r : Rw F O H n) (e : Ext F.g O O' H H' n n') : Rw F O' H' n' :=
  ⟨r.wd.ext e, r.up, r.ub, r.uc, fun a h => e.sub a (r.sub a h), fun a o h => ⟨e.vis (r.pin a o h).1 (r.pin a o h).2, e.same a o (r.pin a o h).1 (r.pin a o h).2⟩,
    fun a h1 h2 h3 h4 => (e.own a (r.sub a h1) h2 h3 (r.off h1 h4)).trans (r.own a h1 h2 h3 h4), fun a h => by
      rcases e.dm a h with q | q
      · exact r.dm a q
      · exact .inr (Classical.byContradiction fun z => r.kp a z q), r.u0, fun a h => e.live (r.kp a h), r.du⟩
/-- what a slot holds -/
inductive Cell
  | no
  | d (x : PyData)
  | own (ds : List PyData)
  | dct (ks : List (Key × PyData))
  | x (a : Addr) (d : Option Addr) (fs : List (Str × PyData)) (o : Option Obj)
def XOk (K : PySem.W.Frag) (p : Addr) (O : Addr → Bool) (H : Hp) (fs : List (Str × PyData)) : Option Addr → Prop
  | none => fs = []
  | some a => O a = false ∧ ∃ xs, H a = some (.xd xs) ∧ XF K p (hid O H) xs fs
/-- the exception itself, where the heap tells of it -/
def XHeld (O : Addr → Bool) (H : Hp) (a : Addr) (o : Option Obj) : Prop := ∀ oe, o = some oe → O a = false ∧ H a = some (.frz oe (.own 0))
theorem XHeld.ext {g : G} {O O' : Addr → Bool} {H H' : Hp} {n n' : Nat} {a : Addr} {o : Option Obj} (e : Ext g O O' H H' n n') (h : XHeld O H a o) : XHeld O' H' a o := fun oe eo => ⟨e.vis (h oe eo).1 (h oe eo).2, e.same a _ (h oe eo).1 (h oe eo).2⟩
theorem XOk.ext {K : PySem.W.Frag} {g : G} {O O' : Addr → Bool} {H H' : Hp} {n n' : Nat} {fs : List (Str × PyData)} {d : Option Addr} (e : Ext g O O' H H' n n') (h : XOk K g.p O H fs d) : XOk K g.p O' H' fs d := by
  cases d with
  | none => exact h
  | some a =>
    obtain ⟨h1, xs, h2, h3⟩ := h
    exact ⟨e.vis h1 h2, xs, e.same a _ h1 h2, h3.same e.hid⟩
/-- owned here: none of what was hidden before, none of the world's objects -/
def Own (F : Fx) (n : Nat) (q : Addr) : Prop := F.U q = false ∧ Kw.dom n q = false
def CellOk (K : PySem.W.Frag) (F : Fx) (O : Addr → Bool) (H : Hp) (n : Nat) (x : Option V) : Cell → Prop
  | .no => True
  | .d d => ∃ v, x = some v ∧ Dq K F.g.p (hid O H) v d
  | .own ds => ∃ q vs, x = some (.ref q) ∧ O q = true ∧ Own F n q ∧ H q = some (.lst vs) ∧ DqAll K F.g.p (hid O H) vs ds
  | .dct ks => ∃ q vs, x = some (.ref q) ∧ O q = true ∧ Own F n q ∧ H q = some (.dK vs) ∧ DqKV K F.g.p (hid O H) vs ks
  | .x a d fs o => x = some (.ref a) ∧ XOk K F.g.p O H fs d ∧ XHeld O H a o
def Cell.isOwn : Cell → Bool
  | .own _ => true
  | .dct _ => true
  | _ => false
structure Rel (K : PySem.W.Frag) (F : Fx) (O : Addr → Bool) (σ : St) (H : Hp) (ρ : List Cell) (n : Nat) : Prop where
  rw : Rw F O H n
  len : σ.length = ρ.length
  cel : ∀ (i : Nat) (c : Cell), ρ[i]? = some c → ∃ x, σ[i]? = some x ∧ CellOk K F O H n x c
  uniq : ∀ (i j : Nat) (c c' : Cell) (q : Addr), ρ[i]? = some c → ρ[j]? = some c' → c.isOwn = true → c'.isOwn = true → σ[i]? = some (some (.ref q)) → σ[j]? = some (some (.ref q)) → i = j
section
variable {K : PySem.W.Frag} {F : Fx} {O O' : Addr → Bool} {σ : St} {H H' : Hp} {ρ : List Cell} {n n' : Nat}
theorem Rw.ne {q : Addr} (r : Rw F O H n) (h : Own F n q) : q ≠ F.g.p ∧ q ≠ F.g.b ∧ q ≠ F.g.c := by
  obtain ⟨h, _⟩ := h
  refine ⟨fun e => ?_, fun e => ?_, fun e => ?_⟩
  · rw [e, r.up] at h; cases h
  · rw [e, r.ub] at h; cases h
  · rw [e, r.uc] at h; cases h
theorem Own.ext {q : Addr} (e : Ext F.g O O' H H' n n') (ho : O q = true) (h : Own F n q) : Own F n' q := ⟨h.1, e.off ho h.2⟩
theorem CellOk.ext {x : Option V} {c : Cell} (r : Rw F O H n) (e : Ext F.g O O' H H' n n') (h : CellOk K F O H n x c) : CellOk K F O' H' n' x c := by
  cases c with
  | no => trivial
  | d d =>
    obtain ⟨v, h1, h2⟩ := h
    exact ⟨v, h1, h2.same e.hid⟩
  | own ds =>
    obtain ⟨q, vs, h1, h2, h3, h4, h5⟩ := h
    obtain ⟨n1, n2, _⟩ := r.ne h3
    exact ⟨q, vs, h1, e.sub q h2, h3.ext e h2, by rw [e.own q h2 n1 n2 h3.2]; exact h4, h5.same e.hid⟩
  | dct ks =>
    obtain ⟨q, vs, h1, h2, h3, h4, h5⟩ := h
    obtain ⟨n1, n2, _⟩ := r.ne h3
    exact ⟨q, vs, h1, e.sub q h2, h3.ext e h2, by rw [e.own q h2 n1 n2 h3.2]; exact h4, h5.same e.hid⟩
  | x a d fs o => exact ⟨h.1, h.2.1.ext e, h.2.2.ext e⟩
theorem Rel.ext (R : Rel K F O σ H ρ n) (e : Ext F.g O O' H H' n n') : Rel K F O' σ H' ρ n' :=
  ⟨R.rw.ext e, R.len, fun i c h => by
    obtain ⟨x, h1, h2⟩ := R.cel i c h
    exact ⟨x, h1, h2.ext R.rw e⟩, R.uniq⟩
/-- a slot is set to data -/
theorem Rel.set (R : Rel K F O σ H ρ n) {v : V} {d : PyData} (h : Dq K F.g.p (hid O H) v d) (i : Nat) : Rel K F O (σ.set i (some v)) H (ρ.set i (.d d)) n := by
  refine ⟨R.rw, by rw [List.length_set, List.length_set]; exact R.len, fun j c hj => ?_, fun j k c c' q hj hk o1 o2 s1 s2 => ?_⟩
  · by_cases e : i = j
    · subst e
      rw [List.getElem?_set] at hj
      rw [if_pos rfl] at hj
      split at hj
      · cases hj
        rename_i hl
        exact ⟨some v, by rw [List.getElem?_set, if_pos rfl, if_pos (by rw [R.len]; exact hl)], v, rfl, h⟩
      · cases hj
    · rw [List.getElem?_set_ne e] at hj ⊢
      exact R.cel j c hj
  · have own : ∀ {m : Nat} {c : Cell}, (ρ.set i (.d d))[m]? = some c → c.isOwn = true → i ≠ m := by
      intro m c hm ho e
      subst e
      rw [List.getElem?_set, if_pos rfl] at hm
      split at hm
      · cases hm; cases ho
      · cases hm
    have n1 := own hj o1
    have n2 := own hk o2
    rw [List.getElem?_set_ne n1] at hj s1
    rw [List.getElem?_set_ne n2] at hk s2
    exact R.uniq j k c c' q hj hk o1 o2 s1 s2
/-- a slot is forgotten -/
theorem Rel.no (R : Rel K F O σ H ρ n) (i : Nat) (x : Option V) : Rel K F O (σ.set i x) H (ρ.set i .no) n := by
  refine ⟨R.rw, by rw [List.length_set, List.length_set]; exact R.len, fun j c hj => ?_, fun j k c c' q hj hk o1 o2 s1 s2 => ?_⟩
  · by_cases e : i = j
    · subst e
      rw [List.getElem?_set] at hj
      rw [if_pos rfl] at hj
      split at hj
      · cases hj
        rename_i hl
        exact ⟨x, by rw [List.getElem?_set, if_pos rfl, if_pos (by rw [R.len]; exact hl)], trivial⟩
      · cases hj
    · rw [List.getElem?_set_ne e] at hj ⊢
      exact R.cel j c hj
  · have own : ∀ {m : Nat} {c : Cell}, (ρ.set i .no)[m]? = some c → c.isOwn = true → i ≠ m := by
      intro m c hm ho e
      subst e
      rw [List.getElem?_set, if_pos rfl] at hm
      split at hm
      · cases hm; cases ho
      · cases hm
    have n1 := own hj o1
    have n2 := own hk o2
    rw [List.getElem?_set_ne n1] at hj s1
    rw [List.getElem?_set_ne n2] at hk s2
    exact R.uniq j k c c' q hj hk o1 o2 s1 s2
end
/-! ### what is wanted -/
abbrev PQ := PyData → Nat → Prop
abbrev XD := Value → List (Str × PyData) → Nat → Prop
def MQ (K : PySem.W.Frag) (g : G) (O : Addr → Bool) (H : Hp) (n : Nat) (Qd : PQ) (Q : VK) : Prop := ∀ {O' : Addr → Bool}, ∀ d n' v H', Qd d n' → Ext g O O' H H' n n' → Dq K g.p (hid O' H') v d → Q v H'
def MX (K : PySem.W.Frag) (g : G) (O : Addr → Bool) (H : Hp) (n : Nat) (Xd : XD) (E : XK) : Prop := ∀ {O' : Addr → Bool}, ∀ C fs n' H' oa, Xd C fs n' → Ext g O O' H H' n n' → XOk K g.p O' H' fs oa → E C oa H'
theorem MQ.step {K : PySem.W.Frag} {g : G} {O O1 : Addr → Bool} {H H1 : Hp} {Qd : PQ} {Q : VK} {n n1 : Nat} (m : MQ K g O H n Qd Q) (e : Ext g O O1 H H1 n n1) : MQ K g O1 H1 n1 Qd Q := fun d n' v H' q e' h => m d n' v H' q (e.trans e') h
theorem MX.step {K : PySem.W.Frag} {g : G} {O O1 : Addr → Bool} {H H1 : Hp} {Xd : XD} {E : XK} {n n1 : Nat} (m : MX K g O H n Xd E) (e : Ext g O O1 H H1 n n1) : MX K g O1 H1 n1 Xd E := fun C fs n' H' oa q e' h => m C fs n' H' oa q (e.trans e') h
abbrev TD := List Cell → Nat → PQ → XD → Prop
abbrev TTD := List Cell → Nat → (Bool → Nat → Prop) → XD → Prop
abbrev TAD := List Cell → Nat → (List PyData → Nat → Prop) → XD → Prop
def lift (K : PySem.W.Frag) (E : XK) (T : TD) : TE := fun σ H Q => ∃ F O ρ n Qd Xd, Rel K F O σ H ρ n ∧ T ρ n Qd Xd ∧ MQ K F.g O H n Qd Q ∧ MX K F.g O H n Xd E
def liftT (K : PySem.W.Frag) (E : XK) (T : TTD) : TT := fun σ H Q => ∃ F O ρ n Qd Xd, Rel K F O σ H ρ n ∧ T ρ n Qd Xd ∧ (∀ {O' : Addr → Bool}, ∀ b n' H', Qd b n' → Ext F.g O O' H H' n n' → Q b H') ∧ MX K F.g O H n Xd E
def liftA (K : PySem.W.Frag) (E : XK) (T : TAD) : TA := fun σ H Q => ∃ F O ρ n Qd Xd, Rel K F O σ H ρ n ∧ T ρ n Qd Xd ∧ (∀ {O' : Addr → Bool}, ∀ ds n' vs H', Qd ds n' → Ext F.g O O' H H' n n' → DqAll K F.g.p (hid O' H') vs ds → Q vs H') ∧ MX K F.g O H n Xd E
abbrev DE (E : XK) (X : Cx) (e : Expr) (T : TD) : Prop := PE X e (lift X.K E T)
abbrev DT (E : XK) (X : Cx) (e : Expr) (T : TTD) : Prop := PT X e (liftT X.K E T)
abbrev DWt (E : XK) (X : Cx) (e : Expr) (T : TTD) : Prop := PW X e (liftT X.K E T)
abbrev DA (E : XK) (X : Cx) (es : List Expr) (T : TAD) : Prop := PA X es (liftA X.K E T)
theorem pe_weak {X : Cx} {e : Expr} {t t' : TE} (h : PE X e t) (w : ∀ σ H Q, t' σ H Q → t σ H Q) : PE X e t' := ⟨fun pins s σ H Q I q => h.run pins s σ H Q I (w σ H Q q)⟩
theorem pt_weak {X : Cx} {e : Expr} {t t' : TT} (h : PT X e t) (w : ∀ σ H Q, t' σ H Q → t σ H Q) : PT X e t' := ⟨fun pins s σ H Q I q => h.run pins s σ H Q I (w σ H Q q)⟩
theorem pw_weak {X : Cx} {e : Expr} {t t' : TT} (h : PW X e t) (w : ∀ σ H Q, t' σ H Q → t σ H Q) : PW X e t' := ⟨fun wh pins s σ H Q I q => h.run wh pins s σ H Q I (w σ H Q q)⟩
theorem pa_weak {X : Cx} {e : List Expr} {t t' : TA} (h : PA X e t) (w : ∀ σ H Q, t' σ H Q → t σ H Q) : PA X e t' := ⟨fun pos pins s σ H Q I q => h.run pos pins s σ H Q I (w σ H Q q)⟩
theorem po_weak {X : Cx} {e : Option Expr} {t t' : TO} (h : PO X e t) (w : ∀ σ H Q, t' σ H Q → t σ H Q) : PO X e t' := ⟨fun pins s σ H Q I q => h.run pins s σ H Q I (w σ H Q q)⟩
theorem ps_weak {X : Cx} {e : Stmt} {t t' : TS} (h : PS X e t) (w : ∀ D σ H, t' D σ H → t D σ H) : PS X e t' := ⟨fun pins s σ H D I q => h.run pins s σ H D I (w D σ H q)⟩
theorem pss_weak {X : Cx} {e : List Stmt} {t t' : TS} (h : PSs X e t) (w : ∀ D σ H, t' D σ H → t D σ H) : PSs X e t' := ⟨fun pins s σ H D I q => h.run pins s σ H D I (w D σ H q)⟩
/-! ### expressions -/
section
variable {X : Cx} {E : XK} {a b c e : Expr} {es : List Expr} {Ta Tb Tc Te : TD} {pos : Pos}
def dVar (i : Nat) : TD := fun ρ n Q _ => ∃ d, ρ[i]? = some (.d d) ∧ Q d n
def dC (d : PyData) : TD := fun _ n Q _ => Q d n
theorem de_var {x : Str} {i : Nat} (h : PE X (.Name x pos) (tVar i)) : DE E X (.Name x pos) (dVar i) :=
  pe_weak h fun σ H Q ⟨F, O, ρ, n, Qd, Xd, R, ⟨d, hd, q⟩, mq, mx⟩ => by
    obtain ⟨x, h1, v, h2, h3⟩ := R.cel i _ hd
    rw [h2] at h1
    exact ⟨v, h1, mq d n v H q R.rw.wd.refl h3⟩
theorem de_c {v : V} {d : PyData} (h : PE X e (tC v)) (hd : ∀ K p H, Dq K p H v d) : DE E X e (dC d) :=
  pe_weak h fun σ H Q ⟨F, O, ρ, n, Qd, Xd, R, q, mq, mx⟩ => mq d n v H q R.rw.wd.refl (hd _ _ _)
theorem de_int {i : Int} {j} : DE E X (.Constant (.int i) j pos) (dC (.int i)) := de_c pe_int fun _ _ _ => .int i
theorem de_str {i : Str} {j} (h : i.length ≤ sizeLine := by decide +kernel) : DE E X (.Constant (.str i) j pos) (dC (.str i)) := de_c pe_str fun _ _ _ => .str i h
theorem de_bl {i : Bool} {j} : DE E X (.Constant (.bool i) j pos) (dC (.bool i)) := de_c pe_bl fun _ _ _ => .bl i
theorem de_non {j} : DE E X (.Constant .none j pos) (dC .none) := de_c pe_non fun _ _ _ => .non
/-- a two-place operation over data -/
abbrev RD2 := PyData → PyData → (PyData → Prop) → Prop
def OpD (K : PySem.W.Frag) (r : R2) (rd : RD2) : Prop := ∀ (g : G) (O : Addr → Bool) (H : Hp) (n : Nat) (x y : PyData) (v u : V) (Qd : PyData → Prop) (Q : VK), Wd g O H n → Dq K g.p (hid O H) v x → Dq K g.p (hid O H) u y → rd x y Qd →
  (∀ z t H', Qd z → Ext g O O H H' n n → Dq K g.p (hid O H') t z → Q t H') → r v u H Q
def dOp (rd : RD2) (Ta Tb : TD) : TD := fun ρ n Q X => Ta ρ n (fun x n1 => Tb ρ n1 (fun y n2 => rd x y fun z => Q z n2) X) X
theorem lift_op {K : PySem.W.Frag} {r : R2} {rd : RD2} (hd : OpD K r rd) {σ : St} {H : Hp} {Q : VK} (h : lift K E (dOp rd Ta Tb) σ H Q) : tOp r (lift K E Ta) (lift K E Tb) σ H Q := by
  obtain ⟨F, O, ρ, n, Qd, Xd, R, t, mq, mx⟩ := h
  refine ⟨F, _, ρ, n, _, Xd, R, t, fun x n1 v H1 q1 e1 d1 => ?_, mx⟩
  refine ⟨F, _, ρ, n1, _, Xd, R.ext e1, q1, fun y n2 u H2 q2 e2 d2 => ?_, mx.step e1⟩
  exact hd F.g _ H2 n2 x y v u _ Q ((R.ext e1).ext e2).rw.wd (d1.same e2.hid) d2 q2 fun z t H' qz e3 d3 => mq z n2 t H' qz ((e1.trans e2).trans e3) d3
theorem de_op {op : Operator} {r : R2} {rd : RD2} (ho : OpR X (binaryOp op) r) (hd : OpD X.K r rd) (ha : DE E X a Ta) (hb : DE E X b Tb) : DE E X (.BinOp a op b pos) (dOp rd Ta Tb) :=
  pe_weak (pe_op ho ha hb) fun _ _ _ h => lift_op hd h
theorem de_cmp {op : CmpOp} {r : R2} {rd : RD2} (ho : OpR X (compareOp op) r) (hd : OpD X.K r rd) (ha : DE E X a Ta) (hb : DE E X b Tb) (hm : behindInMarks op b = false) : DE E X (.Compare a [op] [b] pos) (dOp rd Ta Tb) :=
  pe_weak (pe_cmpR ho ha hb hm) fun _ _ _ h => lift_op hd h
/-- a value as a test -/
def dB (T : TD) : TTD := fun ρ n Q X => T ρ n (fun d n1 => ∃ b, d = .bool b ∧ Q b n1) X
theorem lift_test {K : PySem.W.Frag} {T : TD} {t : TE} (hw : ∀ σ H Q, lift K E T σ H Q → t σ H Q) {σ : St} {H : Hp} {Q : Bool → Hp → Prop} (h : liftT K E (dB T) σ H Q) : tTest t σ H Q := by
  obtain ⟨F, O, ρ, n, Qd, Xd, R, t, mq, mx⟩ := h
  refine hw σ H _ ⟨F, _, ρ, n, _, Xd, R, t, fun d n1 v H1 q1 e1 d1 => ?_, mx⟩
  obtain ⟨b, rfl, q⟩ := q1
  exact ⟨b, d1.bool', mq b n1 H1 q e1⟩
theorem dt_cmp {op : CmpOp} {r : R2} {rd : RD2} (ho : OpR X (compareOp op) r) (hd : OpD X.K r rd) (ha : DE E X a Ta) (hb : DE E X b Tb) (hm : behindInMarks op b = false) : DT E X (.Compare a [op] [b] pos) (dB (dOp rd Ta Tb)) :=
  pt_weak (pt_cmpR ho ha hb hm) fun _ _ _ h => lift_test (fun _ _ _ h => lift_op hd h) h
def dChain (rd rd' : RD2) (Ta Tb Tc : TD) : TD := fun ρ n Q X => Ta ρ n (fun x n1 => Tb ρ n1 (fun y n2 => rd x y fun z => ∃ k, z = .bool k ∧ if k = true then Tc ρ n2 (fun w n3 => rd' y w fun z' => Q z' n3) X else Q (.bool false) n2) X) X
theorem lift_chain {K : PySem.W.Frag} {r r' : R2} {rd rd' : RD2} (hd : OpD K r rd) (hd' : OpD K r' rd') {σ : St} {H : Hp} {Q : VK} (h : lift K E (dChain rd rd' Ta Tb Tc) σ H Q) : tChain r r' (lift K E Ta) (lift K E Tb) (lift K E Tc) σ H Q := by
  obtain ⟨F, O, ρ, n, Qd, Xd, R, t, mq, mx⟩ := h
  refine ⟨F, _, ρ, n, _, Xd, R, t, fun x n1 v H1 q1 e1 d1 => ?_, mx⟩
  refine ⟨F, _, ρ, n1, _, Xd, R.ext e1, q1, fun y n2 u H2 q2 e2 d2 => ?_, mx.step e1⟩
  refine hd F.g _ H2 n2 x y v u _ _ ((R.ext e1).ext e2).rw.wd (d1.same e2.hid) d2 q2 fun z t H3 qz e3 d3 => ?_
  obtain ⟨k, rfl, qz⟩ := qz
  refine ⟨k, d3.bool', ?_⟩
  cases k with
  | false => exact mq _ n2 _ H3 qz ((e1.trans e2).trans e3) (.bl _)
  | true =>
    refine ⟨F, _, ρ, n2, _, Xd, ((R.ext e1).ext e2).ext e3, qz, fun w n4 t4 H4 q4 e4 d4 => ?_, mx.step ((e1.trans e2).trans e3)⟩
    exact hd' F.g _ H4 n4 y w u t4 _ Q ((((R.ext e1).ext e2).ext e3).ext e4).rw.wd ((d2.same e3.hid).same e4.hid) d4 q4 fun z' t' H' qz' e5 d5 => mq z' n4 t' H' qz' ((((e1.trans e2).trans e3).trans e4).trans e5) d5
theorem de_chain {op op' : CmpOp} {r r' : R2} {rd rd' : RD2} (ho : OpR X (compareOp op) r) (ho' : OpR X (compareOp op') r') (hd : OpD X.K r rd) (hd' : OpD X.K r' rd') (ha : DE E X a Ta) (hb : DE E X b Tb) (hc : DE E X c Tc)
    (hm : lastMarks [op, op'] [b, c] = false := by with_unfolding_all rfl) : DE E X (.Compare a [op, op'] [b, c] pos) (dChain rd rd' Ta Tb Tc) :=
  pe_weak (pe_chain ho ho' ha hb hc hm) fun _ _ _ h => lift_chain hd hd' h
theorem dt_chain {op op' : CmpOp} {r r' : R2} {rd rd' : RD2} (ho : OpR X (compareOp op) r) (ho' : OpR X (compareOp op') r') (hd : OpD X.K r rd) (hd' : OpD X.K r' rd') (ha : DE E X a Ta) (hb : DE E X b Tb) (hc : DE E X c Tc)
    (hm : lastMarks [op, op'] [b, c] = false := by with_unfolding_all rfl) : DT E X (.Compare a [op, op'] [b, c] pos) (dB (dChain rd rd' Ta Tb Tc)) :=
  pt_weak (pt_chain ho ho' ha hb hc hm) fun _ _ _ h => lift_test (fun _ _ _ h => lift_chain hd hd' h) h
theorem dt_val (ha : DE E X e Te) (he : ∀ whole, isTrue e X.env whole = (do let v ← whole; standAt e.pos; holding [v] (truthy v)) := by intro _; rfl) : DT E X e (dB Te) :=
  pt_weak (pt_val ha he) fun _ _ _ q => lift_test (fun _ _ _ h => h) q
/-- and, or, not -/
def dAnd (S T : TTD) : TTD := fun ρ n Q X => S ρ n (fun c n1 => if c = true then T ρ n1 Q X else Q false n1) X
def dOr (S T : TTD) : TTD := fun ρ n Q X => S ρ n (fun c n1 => if c = true then Q true n1 else T ρ n1 Q X) X
def dNot (S : TTD) : TTD := fun ρ n Q X => S ρ n (fun c n1 => Q (!c) n1) X
def dYes : TTD := fun _ n Q _ => Q true n
theorem lift_and {K : PySem.W.Frag} {S T : TTD} {σ : St} {H : Hp} {Q : Bool → Hp → Prop} (h : liftT K E (dAnd S T) σ H Q) : tAnd (liftT K E S) (liftT K E T) σ H Q := by
  obtain ⟨F, O, ρ, n, Qd, Xd, R, t, mq, mx⟩ := h
  refine ⟨F, _, ρ, n, _, Xd, R, t, fun c n1 H1 q1 e1 => ?_, mx⟩
  cases c with
  | false => exact mq false n1 H1 q1 e1
  | true => exact ⟨F, _, ρ, n1, Qd, Xd, R.ext e1, q1, fun b n2 H2 q2 e2 => mq b n2 H2 q2 (e1.trans e2), mx.step e1⟩
theorem lift_or {K : PySem.W.Frag} {S T : TTD} {σ : St} {H : Hp} {Q : Bool → Hp → Prop} (h : liftT K E (dOr S T) σ H Q) : tOr (liftT K E S) (liftT K E T) σ H Q := by
  obtain ⟨F, O, ρ, n, Qd, Xd, R, t, mq, mx⟩ := h
  refine ⟨F, _, ρ, n, _, Xd, R, t, fun c n1 H1 q1 e1 => ?_, mx⟩
  cases c with
  | true => exact mq true n1 H1 q1 e1
  | false => exact ⟨F, _, ρ, n1, Qd, Xd, R.ext e1, q1, fun b n2 H2 q2 e2 => mq b n2 H2 q2 (e1.trans e2), mx.step e1⟩
theorem lift_not {K : PySem.W.Frag} {S : TTD} {σ : St} {H : Hp} {Q : Bool → Hp → Prop} (h : liftT K E (dNot S) σ H Q) : tNot (liftT K E S) σ H Q := by
  obtain ⟨F, O, ρ, n, Qd, Xd, R, t, mq, mx⟩ := h
  exact ⟨F, _, ρ, n, _, Xd, R, t, fun c n1 H1 q1 e1 => mq _ n1 H1 q1 e1, mx⟩
section
variable {S T : TTD} {rest : List Expr}
theorem dw_and1 (ha : DT E X a S) : DWt E X (.BoolOp .And [a] pos) S := pw_and1 ha
theorem dw_or1 (ha : DT E X a S) : DWt E X (.BoolOp .Or [a] pos) S := pw_or1 ha
theorem dw_and (ha : DT E X a S) (hb : DWt E X (.BoolOp .And (b :: rest) pos) T) : DWt E X (.BoolOp .And (a :: b :: rest) pos) (dAnd S T) := pw_weak (pw_and ha hb) fun _ _ _ h => lift_and h
theorem dw_or (ha : DT E X a S) (hb : DWt E X (.BoolOp .Or (b :: rest) pos) T) : DWt E X (.BoolOp .Or (a :: b :: rest) pos) (dOr S T) := pw_weak (pw_or ha hb) fun _ _ _ h => lift_or h
theorem dt_not (ha : DT E X a S) : DT E X (.UnaryOp .Not a pos) (dNot S) := pt_weak (pt_not ha) fun _ _ _ h => lift_not h
theorem dt_w (h : DWt E X e S) : DT E X e S := h.pt
end
/-- a if t else b -/
def dIf (S : TTD) (Ta Tb : TD) : TD := fun ρ n Q X => S ρ n (fun c n1 => if c = true then Ta ρ n1 Q X else Tb ρ n1 Q X) X
theorem de_ifExp {S : TTD} (hc : DT E X c S) (ha : DE E X a Ta) (hb : DE E X b Tb) : DE E X (.IfExp c a b pos) (dIf S Ta Tb) :=
  pe_weak (pe_ifExp hc ha hb) fun σ H Q ⟨F, O, ρ, n, Qd, Xd, R, t, mq, mx⟩ => by
    refine ⟨F, _, ρ, n, _, Xd, R, t, fun c n1 H1 q1 e1 => ?_, mx⟩
    cases c with
    | true => exact ⟨F, _, ρ, n1, Qd, Xd, R.ext e1, q1, mq.step e1, mx.step e1⟩
    | false => exact ⟨F, _, ρ, n1, Qd, Xd, R.ext e1, q1, mq.step e1, mx.step e1⟩
/-- one place -/
abbrev RD1 := PyData → (PyData → Prop) → Prop
def UnD (K : PySem.W.Frag) (r : V → Hp → VK → Prop) (rd : RD1) : Prop := ∀ (g : G) (O : Addr → Bool) (H : Hp) (n : Nat) (x : PyData) (v : V) (Qd : PyData → Prop) (Q : VK), Wd g O H n → Dq K g.p (hid O H) v x → rd x Qd →
  (∀ z t H', Qd z → Ext g O O H H' n n → Dq K g.p (hid O H') t z → Q t H') → r v H Q
def dUn (rd : RD1) (Ta : TD) : TD := fun ρ n Q X => Ta ρ n (fun x n1 => rd x fun z => Q z n1) X
theorem de_un {op : UnaryOp} {r : V → Hp → VK → Prop} {rd : RD1} (ho : UnR X (unaryOp op) r) (hd : UnD X.K r rd) (ha : DE E X a Ta) : DE E X (.UnaryOp op a pos) (dUn rd Ta) :=
  pe_weak (pe_un ho ha) fun σ H Q ⟨F, O, ρ, n, Qd, Xd, R, t, mq, mx⟩ =>
    ⟨F, _, ρ, n, _, Xd, R, t, fun x n1 v H1 q1 e1 d1 => hd F.g _ H1 n1 x v _ Q (R.ext e1).rw.wd d1 q1 fun z t H' qz e3 d3 => mq z n1 t H' qz (e1.trans e3) d3, mx⟩
theorem de_ix {r : R2} {rd : RD2} (hr : IxR X r) (hd : OpD X.K r rd) (ha : DE E X a Ta) (hb : DE E X b Tb) (hs : PlainIx b) : DE E X (.Subscript a b pos) (dOp rd Ta Tb) :=
  pe_weak (pe_ix hr ha hb hs) fun _ _ _ h => lift_op hd h
/-- slices -/
abbrev TOD := List Cell → Nat → (Option Int → Nat → Prop) → XD → Prop
def liftO (K : PySem.W.Frag) (E : XK) (T : TOD) : TO := fun σ H Q => ∃ F O ρ n Qd Xd, Rel K F O σ H ρ n ∧ T ρ n Qd Xd ∧ (∀ {O' : Addr → Bool}, ∀ o n' H', Qd o n' → Ext F.g O O' H H' n n' → Q o H') ∧ MX K F.g O H n Xd E
abbrev DO (E : XK) (X : Cx) (e : Option Expr) (T : TOD) : Prop := PO X e (liftO X.K E T)
def dNoPart : TOD := fun _ n Q _ => Q none n
def dPart (T : TD) : TOD := fun ρ n Q X => T ρ n (fun d n1 => ∃ i, d = .int i ∧ Q (some i) n1) X
theorem do_none : DO E X none dNoPart := po_weak po_none fun σ H Q ⟨F, O, ρ, n, Qd, Xd, R, t, mq, mx⟩ => mq none n H t R.rw.wd.refl
theorem do_some (h : DE E X e Te) : DO E X (some e) (dPart Te) := po_weak (po_some h) fun σ H Q ⟨F, O, ρ, n, Qd, Xd, R, t, mq, mx⟩ =>
  ⟨F, _, ρ, n, _, Xd, R, t, fun x n1 v H1 ⟨i, ei, q1⟩ e1 d1 => ⟨i, by subst ei; exact d1.int', mq (some i) n1 H1 q1 e1⟩, mx⟩
abbrev RDS := PyData → Option Int → Option Int → (PyData → Prop) → Prop
def SlD (K : PySem.W.Frag) (r : V → Option Int → Option Int → Hp → VK → Prop) (rd : RDS) : Prop := ∀ (g : G) (O : Addr → Bool) (H : Hp) (n : Nat) (x : PyData) (lo hi : Option Int) (v : V) (Qd : PyData → Prop) (Q : VK), Wd g O H n → Dq K g.p (hid O H) v x → rd x lo hi Qd →
  (∀ z t H', Qd z → Ext g O O H H' n n → Dq K g.p (hid O H') t z → Q t H') → r v lo hi H Q
def dSl (rd : RDS) (Te : TD) (Tl Th : TOD) : TD := fun ρ n Q X => Te ρ n (fun x n1 => Tl ρ n1 (fun l n2 => Th ρ n2 (fun h n3 => rd x l h fun z => Q z n3) X) X) X
theorem de_slice {lo hi : Option Expr} {p2 : Pos} {r : V → Option Int → Option Int → Hp → VK → Prop} {rd : RDS} {Tl Th : TOD} (hr : SlR X r) (hd : SlD X.K r rd) (he : DE E X e Te) (hl : DO E X lo Tl) (hu : DO E X hi Th) : DE E X (.Subscript e (.Slice lo hi none p2) pos) (dSl rd Te Tl Th) :=
  pe_weak (pe_slice hr he hl hu) fun σ H Q ⟨F, O, ρ, n, Qd, Xd, R, t, mq, mx⟩ => by
    refine ⟨F, _, ρ, n, _, Xd, R, t, fun x n1 v H1 q1 e1 d1 => ?_, mx⟩
    refine ⟨F, _, ρ, n1, _, Xd, R.ext e1, q1, fun l n2 H2 q2 e2 => ?_, mx.step e1⟩
    refine ⟨F, _, ρ, n2, _, Xd, (R.ext e1).ext e2, q2, fun h n3 H3 q3 e3 => ?_, mx.step (e1.trans e2)⟩
    exact hd F.g _ H3 n3 x l h v _ Q (((R.ext e1).ext e2).ext e3).rw.wd ((d1.same e2.hid).same e3.hid) q3 fun z t H' qz e4 d4 => mq z n3 t H' qz (((e1.trans e2).trans e3).trans e4) d4
/-- argument lists -/
def dNil : TAD := fun _ n Q _ => Q [] n
def dCons (T : TD) (S : TAD) : TAD := fun ρ n Q X => T ρ n (fun x n1 => S ρ n1 (fun xs n2 => Q (x :: xs) n2) X) X
theorem da_nil : DA E X [] dNil := pa_weak pa_nil fun σ H Q ⟨F, O, ρ, n, Qd, Xd, R, t, mq, mx⟩ => mq [] n [] H t R.rw.wd.refl .nil
theorem da_cons {S : TAD} (ha : DE E X e Te) (hr : DA E X es S) (hs : starEach (e :: es) X.env = (false, eval e X.env) :: starEach es X.env := by rfl) : DA E X (e :: es) (dCons Te S) :=
  pa_weak (pa_cons ha hr hs) fun σ H Q ⟨F, O, ρ, n, Qd, Xd, R, t, mq, mx⟩ => by
    refine ⟨F, _, ρ, n, _, Xd, R, t, fun x n1 v H1 q1 e1 d1 => ?_, mx⟩
    exact ⟨F, _, ρ, n1, _, Xd, R.ext e1, q1, fun xs n2 vs H2 q2 e2 d2 => mq _ n2 _ H2 q2 (e1.trans e2) (.cons (d1.same e2.hid) d2), mx.step e1⟩
abbrev RDN := List PyData → (PyData → Prop) → Prop
def CallD (K : PySem.W.Frag) (r : List V → Hp → VK → Prop) (rd : RDN) : Prop := ∀ (g : G) (O : Addr → Bool) (H : Hp) (n : Nat) (xs : List PyData) (vs : List V) (Qd : PyData → Prop) (Q : VK), Wd g O H n → DqAll K g.p (hid O H) vs xs → rd xs Qd →
  (∀ z t H', Qd z → Ext g O O H H' n n → Dq K g.p (hid O H') t z → Q t H') → r vs H Q
def dCB (rd : RDN) (S : TAD) : TD := fun ρ n Q X => S ρ n (fun xs n1 => rd xs fun z => Q z n1) X
theorem lift_cb {K : PySem.W.Frag} {r : List V → Hp → VK → Prop} {rd : RDN} {S : TAD} (hd : CallD K r rd) {σ : St} {H : Hp} {Q : VK} (h : lift K E (dCB rd S) σ H Q) : tCB r (liftA K E S) σ H Q := by
  obtain ⟨F, O, ρ, n, Qd, Xd, R, t, mq, mx⟩ := h
  exact ⟨F, _, ρ, n, _, Xd, R, t, fun xs n1 vs H1 q1 e1 d1 => hd F.g _ H1 n1 xs vs _ Q (R.ext e1).rw.wd d1 q1 fun z t H' qz e3 d3 => mq z n1 t H' qz (e1.trans e3) d3, mx⟩
theorem de_callB {x : Str} {p : Pos} {id : String} {r : List V → Hp → VK → Prop} {rd : RDN} {S : TAD} (hc : CallR X (.builtin id) r) (hd : CallD X.K r rd) (hg : Gl X x) (hm : X.mg x = none) (hv : bootBuiltins x = some (.builtin id)) (ha : DA E X (e :: es) S) (hn : x ≠ "__name__" := by decide) (hdb : (x == ("__debug__" : Str)) = false := by decide)
    (he : starEach (e :: es) X.env = (false, eval e X.env) :: starEach es X.env := by rfl) (hpl : (backTo pos (starEach es X.env)).any (·.1) = false := by rfl) : DE E X (.Call (.Name x p) (e :: es) [] pos) (dCB rd S) :=
  pe_weak (pe_callB hc hg hm hv ha hn hdb he hpl) fun _ _ _ h => lift_cb hd h
theorem de_callTy {x : Str} {p : Pos} {id : String} {r : List V → Hp → VK → Prop} {rd : RDN} {S : TAD} (hc : CallR X (.type id) r) (hd : CallD X.K r rd) (hg : Gl X x) (hm : X.mg x = none) (hv : bootBuiltins x = some (.type id)) (ha : DA E X (e :: es) S) (hn : x ≠ "__name__" := by decide) (hdb : (x == ("__debug__" : Str)) = false := by decide)
    (he : starEach (e :: es) X.env = (false, eval e X.env) :: starEach es X.env := by rfl) (hpl : (backTo pos (starEach es X.env)).any (·.1) = false := by rfl) : DE E X (.Call (.Name x p) (e :: es) [] pos) (dCB rd S) :=
  pe_weak (pe_callTy hc hg hm hv ha hn hdb he hpl) fun _ _ _ h => lift_cb hd h
/-- displays -/
def dTup (S : TAD) : TD := fun ρ n Q X => S ρ n (fun xs n1 => xs.length ≤ sizeLine ∧ Q (.tuple xs) n1) X
def dLst (S : TAD) : TD := fun ρ n Q X => S ρ n (fun xs n1 => xs.length ≤ sizeLine ∧ Q (.list xs) n1) X
theorem de_tup {x1} {S : TAD} (h : DA E X es S) : DE E X (.Tuple es x1 pos) (dTup S) :=
  pe_weak (pe_tupF h) fun σ H Q ⟨F, O, ρ, n, Qd, Xd, R, t, mq, mx⟩ =>
    ⟨F, _, ρ, n, _, Xd, R, t, fun xs n1 vs H1 ⟨z, q1⟩ e1 d1 => ⟨by rw [d1.length]; exact z, fun p o hp c1 c2 => by
      have w := (R.ext e1).rw.wd
      have e2 := w.new hp (.frz o (.tup vs))
      exact mq _ n1 _ _ q1 (e1.trans e2) (.tup ⟨o, hid_new (w.fresh hp), c1, c2⟩ (d1.same e2.hid))⟩, mx⟩
theorem de_lst {S : TAD} (h : DA E X es S) : DE E X (.List es pos) (dLst S) :=
  pe_weak (pe_lst h) fun σ H Q ⟨F, O, ρ, n, Qd, Xd, R, t, mq, mx⟩ =>
    ⟨F, _, ρ, n, _, Xd, R, t, fun xs n1 vs H1 ⟨z, q1⟩ e1 d1 => ⟨by rw [d1.length]; exact z, fun p hp => by
      have w := (R.ext e1).rw.wd
      have e2 := w.new hp (.lst vs)
      exact mq _ n1 _ _ q1 (e1.trans e2) (.lst (hid_new (w.fresh hp)) (d1.same e2.hid))⟩, mx⟩
/-- a call of a def -/
abbrev SpD := List PyData → Nat → PQ → XD → Prop
def spD (K : PySem.W.Frag) (S : SpD) : Sp := fun vs H Q E => ∃ g O n ds Qd Xd, Wd g O H n ∧ DqAll K g.p (hid O H) vs ds ∧ S ds n Qd Xd ∧ MQ K g O H n Qd Q ∧ MX K g O H n Xd E
def dCall (S : SpD) (Ta : TAD) : TD := fun ρ n Q X => Ta ρ n (fun ds n1 => S ds n1 Q X) X
theorem de_call {CX : CXT} {k : Nat} {f : Addr} {fd : FuncData} {ps : List Str} {S : SpD} {x : Str} {p : Pos} {Ta : TAD} (Fn : FnOk X.prog X.w X.K X.mg X.base CX k f fd ps (spD X.K S)) (hr : Room k X.A) (hg : Gl X x) (hm : X.mg x = some (.ref f)) (hk : PySem.W.keepIn X.K (.ref f) = true) (hb : Binds X.K fd ps []) (hx : Passes CX X E)
    (ha : DA E X (e :: es) Ta) (hdb : (x == ("__debug__" : Str)) = false := by decide) (he : starEach (e :: es) X.env = (false, eval e X.env) :: starEach es X.env := by rfl) (hpl : (backTo pos (starEach es X.env)).any (·.1) = false := by rfl) :
    DE E X (.Call (.Name x p) (e :: es) [] pos) (dCall S Ta) :=
  pe_weak (pe_call Fn hr hg hm hk hb .nil hx ha hdb he hpl) fun σ H Q ⟨F, O, ρ, n, Qd, Xd, R, t, mq, mx⟩ =>
    ⟨F, _, ρ, n, _, Xd, R, t, fun xs n1 vs H1 q1 e1 d1 => ⟨F.g, _, n1, xs, Qd, Xd, (R.ext e1).rw.wd, by rw [List.append_nil]; exact d1, q1, mq.step e1, mx.step e1⟩, mx⟩
end
end Kd
namespace Kd
open PySem PySem.Spec PyProof.Rows L2 Kb
/-! ### statements -/
structure DEnds where
  nx : List Cell → Nat → Prop
  rt : PQ
  bk : List Cell → Nat → Prop := fun _ _ => False
  ct : List Cell → Nat → Prop := fun _ _ => False
  ex : XD := fun _ _ _ => False
abbrev TSD := DEnds → List Cell → Nat → Prop
structure MS (K : PySem.W.Frag) (E : XK) (F : Fx) (e : DEnds) (D : Ends) : Prop where
  nx : ∀ O σ H ρ n, Rel K F O σ H ρ n → e.nx ρ n → D.nx σ H
  bk : ∀ O σ H ρ n, Rel K F O σ H ρ n → e.bk ρ n → D.bk σ H
  ct : ∀ O σ H ρ n, Rel K F O σ H ρ n → e.ct ρ n → D.ct σ H
  rt : ∀ O H n v d, Rw F O H n → Dq K F.g.p (hid O H) v d → e.rt d n → D.rt v H
  ex : ∀ O H n C fs oa, Rw F O H n → XOk K F.g.p O H fs oa → e.ex C fs n → E C oa H
theorem MS.mx {K : PySem.W.Frag} {E : XK} {F : Fx} {e : DEnds} {D : Ends} (m : MS K E F e D) {O : Addr → Bool} {H : Hp} {n : Nat} (r : Rw F O H n) : MX K F.g O H n e.ex E :=
  fun C fs n' H' oa q x ok => m.ex _ H' n' C fs oa (r.ext x) ok q
def liftS (K : PySem.W.Frag) (E : XK) (T : TSD) : TS := fun D σ H => ∃ F O ρ n e, Rel K F O σ H ρ n ∧ T e ρ n ∧ MS K E F e D
abbrev DS (E : XK) (X : Cx) (st : Stmt) (T : TSD) : Prop := PS X st (liftS X.K E T)
abbrev DSs (E : XK) (X : Cx) (st : List Stmt) (T : TSD) : Prop := PSs X st (liftS X.K E T)
section
variable {X : Cx} {E : XK} {a b c e : Expr} {es : List Expr} {Ta Tb Tc Te : TD} {pos : Pos} {st : Stmt} {sts : List Stmt} {S T : TSD}
def dNext : TSD := fun e ρ n => e.nx ρ n
def dSeq (S T : TSD) : TSD := fun e ρ n => S { e with nx := T e } ρ n
theorem dss_nil : DSs E X [] dNext := pss_weak pss_nil fun D σ H ⟨F, O, ρ, n, e, R, t, m⟩ => m.nx O σ H ρ n R t
theorem dss_cons (h1 : DS E X st S) (h2 : DSs E X sts T) : DSs E X (st :: sts) (dSeq S T) := pss_weak (pss_cons h1 h2) fun D σ H ⟨F, O, ρ, n, e, R, t, m⟩ =>
  ⟨F, _, ρ, n, _, R, t, ⟨fun O' σ' H' ρ' n' R' q => ⟨F, O', ρ', n', e, R', q, m⟩, m.bk, m.ct, m.rt, m.ex⟩⟩
/-- one statement for what follows -/
def dCut (S T : TSD) : TSD := fun e ρ n => ∃ J : List Cell → Nat → Prop, S { e with nx := J } ρ n ∧ ∀ ρ n, J ρ n → T e ρ n
theorem dss_cut (h1 : DS E X st S) (h2 : DSs E X sts T) : DSs E X (st :: sts) (dCut S T) := pss_weak (pss_cons h1 h2) fun D σ H ⟨F, O, ρ, n, e, R, ⟨J, t, hJ⟩, m⟩ =>
  ⟨F, _, ρ, n, _, R, t, ⟨fun O' σ' H' ρ' n' R' q => ⟨F, O', ρ', n', e, R', hJ ρ' n' q, m⟩, m.bk, m.ct, m.rt, m.ex⟩⟩
theorem dss_one (h1 : DS E X st S) : DSs E X [st] S := pss_weak (pss_one h1) fun D σ H h => h
def dRet (T : TD) : TSD := fun e ρ n => T ρ n e.rt e.ex
theorem ds_ret (h : DE E X e Te) : DS E X (.Return (some e) pos) (dRet Te) := ps_weak (ps_ret h) fun D σ H ⟨F, O, ρ, n, e, R, t, m⟩ =>
  ⟨F, _, ρ, n, e.rt, e.ex, R, t, fun d n' v H' q x h => m.rt _ H' n' v d (R.rw.ext x) h q, m.mx R.rw⟩
theorem ds_pass : DS E X (.Pass pos) dNext := ps_weak ps_pass fun D σ H ⟨F, O, ρ, n, e, R, t, m⟩ => m.nx O σ H ρ n R t
def dNever : TSD := fun _ _ _ => False
theorem dss_never : DSs E X sts dNever := pss_weak pss_never fun D σ H ⟨F, O, ρ, n, e, R, t, m⟩ => t
def dDrop (T : TD) : TSD := fun e ρ n => T ρ n (fun _ n1 => e.nx ρ n1) e.ex
theorem ds_expr (he : DE E X e Te) (hs : swapsWith e none pos.line X.env = pure false := by rfl) : DS E X (.Expr e pos) (dDrop Te) := ps_weak (ps_expr he hs) fun D σ H ⟨F, O, ρ, n, e, R, t, m⟩ =>
  ⟨F, _, ρ, n, _, e.ex, R, t, fun d n' v H' q x h => m.nx _ σ H' ρ n' (R.ext x) q, m.mx R.rw⟩
def dIfS (C : TTD) (S T : TSD) : TSD := fun e ρ n => C ρ n (fun b n1 => if b = true then S e ρ n1 else T e ρ n1) e.ex
theorem ds_if {C : TTD} {as bs : List Stmt} (hc : DT E X c C) (ha : DSs E X as S) (hb : DSs E X bs T) : DS E X (.If c as bs pos) (dIfS C S T) := ps_weak (ps_if hc ha hb) fun D σ H ⟨F, O, ρ, n, e, R, t, m⟩ =>
  ⟨F, _, ρ, n, _, e.ex, R, t, fun b n1 H1 q x => by
    cases b with
    | true => exact ⟨F, _, ρ, n1, e, R.ext x, q, m⟩
    | false => exact ⟨F, _, ρ, n1, e, R.ext x, q, m⟩, m.mx R.rw⟩
/-! targets -/
abbrev TGD := PyData → List Cell → (List Cell → Prop) → Prop
abbrev TGsD := List PyData → List Cell → (List Cell → Prop) → Prop
/-- a target over data -/
def TgD (K : PySem.W.Frag) (g : TG) (gd : TGD) : Prop := ∀ (F : Fx) (O : Addr → Bool) (σ : St) (H : Hp) (ρ : List Cell) (n : Nat) (v : V) (d : PyData) (Qd : List Cell → Prop) (Q : St → Hp → Prop), Rel K F O σ H ρ n → Dq K F.g.p (hid O H) v d → gd d ρ Qd →
  (∀ σ' ρ', Rel K F O σ' H ρ' n → Qd ρ' → Q σ' H) → g v σ H Q
def TgsD (K : PySem.W.Frag) (g : TGs) (gd : TGsD) : Prop := ∀ (F : Fx) (O : Addr → Bool) (σ : St) (H : Hp) (ρ : List Cell) (n : Nat) (vs : List V) (ds : List PyData) (Qd : List Cell → Prop) (Q : St → Hp → Prop), Rel K F O σ H ρ n → DqAll K F.g.p (hid O H) vs ds → gd ds ρ Qd →
  (∀ σ' ρ', Rel K F O σ' H ρ' n → Qd ρ' → Q σ' H) → g vs σ H Q
def dgName (i : Nat) : TGD := fun d ρ Q => Q (ρ.set i (.d d))
theorem tg_name {K : PySem.W.Frag} {i : Nat} : TgD K (gName i) (dgName i) := fun F O σ H ρ n v d Qd Q R h q k => k _ _ (R.set h i) q
def dgNil : TGsD := fun ds ρ Q => ds = [] ∧ Q ρ
def dgCons (g : TGD) (h : TGsD) : TGsD := fun ds ρ Q => ∃ d r, ds = d :: r ∧ g d ρ fun ρ' => h r ρ' Q
theorem tgs_nil {K : PySem.W.Frag} : TgsD K gNil dgNil := fun F O σ H ρ n vs ds Qd Q R h ⟨e, q⟩ k => by
  subst e
  cases h
  exact ⟨rfl, k _ _ R q⟩
theorem tgs_cons {K : PySem.W.Frag} {g : TG} {gd : TGD} {u : TGs} {ud : TGsD} (hg : TgD K g gd) (hu : TgsD K u ud) : TgsD K (gCons g u) (dgCons gd ud) := fun F O σ H ρ n vs ds Qd Q R h ⟨d, r, e, q⟩ k => by
  subst e
  cases h with
  | cons h1 h2 =>
    refine ⟨_, _, rfl, hg F O σ H ρ n _ d _ _ R h1 q fun σ' ρ' R' q' => ?_⟩
    exact hu F O σ' H ρ' n _ r Qd Q R' h2 q' k
def dgTup (m : Nat) (g : TGsD) : TGD := fun d ρ Q => ∃ ds, tupOf d = some ds ∧ ds.length = m ∧ g ds ρ Q
theorem tg_tup {K : PySem.W.Frag} {m : Nat} {g : TGs} {gd : TGsD} (hg : TgsD K g gd) : TgD K (gTup K m g) (dgTup m gd) := fun F O σ H ρ n v d Qd Q R h ⟨ds, e, l, q⟩ k => by
  obtain ⟨a, xs, rfl, h1, h2⟩ := h.tupOf e
  exact ⟨a, xs, rfl, (hid_same _ H).tup h1, by rw [h2.length]; exact l, hg F O σ H ρ n xs ds Qd Q R h2 q k⟩
def dAsg (T : TD) (g : TGD) : TSD := fun e ρ n => T ρ n (fun d n1 => g d ρ fun ρ' => e.nx ρ' n1) e.ex
theorem lift_asg {K : PySem.W.Frag} {g : TG} {gd : TGD} (hg : TgD K g gd) {D : Ends} {σ : St} {H : Hp} (h : liftS K E (dAsg Te gd) D σ H) : tAsg (lift K E Te) g D σ H := by
  obtain ⟨F, O, ρ, n, e, R, t, m⟩ := h
  refine ⟨F, _, ρ, n, _, e.ex, R, t, fun d n' v H' q x h => ?_, m.mx R.rw⟩
  exact hg F _ σ H' ρ n' v d _ _ (R.ext x) h q fun σ' ρ' R' q' => m.nx _ σ' H' ρ' n' R' q'
theorem ds_set {i : Nat} {x : Str} {pos' : Pos} (hN : X.N.Nodup) (hi : X.N[i]? = some x) (hx : Loc X.env.scope x) (he : DE E X e Te) (hs : swapsWith e (some (.Name x pos')) pos.line X.env = pure false := by rfl) (hf : X.fn x = true ∨ X.env.scope.names.lookup x = some .local := by first | exact .inl rfl | exact .inr rfl | assumption) :
    DS E X (.Assign [.Name x pos'] e pos) (dAsg Te (dgName i)) := ps_weak (ps_set hN hi hx he hs hf) fun D σ H h => lift_asg tg_name h
def dPar (i j : Nat) (T : TAD) : TSD := fun e ρ n => T ρ n (fun ds n1 => ∃ x y, ds = [x, y] ∧ e.nx ((ρ.set i (.d x)).set j (.d y)) n1) e.ex
theorem ds_par {i j : Nat} {x y : Str} {Ta : TAD} {px py pt : Pos} {kt k2 pt2} (hc : X.calm = true) (hN : X.N.Nodup) (hi : X.N[i]? = some x) (hj : X.N[j]? = some y) (hij : i ≠ j)
    (hx : X.env.scope.names.lookup x = some .local) (hy : X.env.scope.names.lookup y = some .local) (ha : DA E X [a, b] Ta)
    (hw : swappedStores [.Tuple [.Name x px, .Name y py] kt pt] (.Tuple [a, b] k2 pt2) X.env = pure (some [x, y]))
    (hs : swapsWithSole [.Tuple [.Name x px, .Name y py] kt pt] (.Tuple [a, b] k2 pt2) pos.line X.env = pure false := by rfl) : DS E X (.Assign [.Tuple [.Name x px, .Name y py] kt pt] (.Tuple [a, b] k2 pt2) pos) (dPar i j Ta) := ps_weak (ps_par hc hN hi hj hij hx hy ha hw hs) fun D σ H ⟨F, O, ρ, n, e, R, t, m⟩ =>
  ⟨F, _, ρ, n, _, e.ex, R, t, fun ds n' vs H' ⟨x, y, ed, q⟩ w h => by
    subst ed
    cases h with
    | cons h1 h2 =>
      cases h2 with
      | cons h2 h3 =>
        cases h3
        exact ⟨_, _, rfl, m.nx _ _ H' _ n' (((R.ext w).set h1 i).set h2 j) q⟩, m.mx R.rw⟩
/-- x += e of whole numbers -/
def dAugI (f : Int → Int → Int) (i : Nat) (T : TD) : TSD := fun e ρ n => ∃ k : Int, ρ[i]? = some (.d (.int k)) ∧ T ρ n (fun d n1 => ∃ j : Int, d = .int j ∧ e.nx (ρ.set i (.d (.int (f k j)))) n1) e.ex
theorem lift_aug {K : PySem.W.Frag} {f : Int → Int → Int} {i : Nat} {D : Ends} {σ : St} {H : Hp} (h : liftS K E (dAugI f i Te) D σ H) : tAug i (lift K E Te) (ipI f) D σ H := by
  obtain ⟨F, O, ρ, n, e, R, ⟨k, hk, t⟩, m⟩ := h
  obtain ⟨x, h1, v, rfl, h3⟩ := R.cel i _ hk
  obtain rfl := h3.int'
  refine ⟨.int k, h1, F, _, ρ, n, _, e.ex, R, t, fun d n' v H' q x h => ?_, m.mx R.rw⟩
  obtain ⟨j, rfl, q⟩ := q
  obtain rfl := h.int'
  exact ⟨k, j, rfl, rfl, m.nx _ _ H' _ n' ((R.ext x).set (.int _) i) q⟩
theorem ds_aug {i : Nat} {x : Str} {op : Operator} {f : Int → Int → Int} {pos' : Pos} (hN : X.N.Nodup) (hi : X.N[i]? = some x) (hx : Loc X.env.scope x) (he : DE E X e Te) (ho : PIp X op (ipI f)) (hf : X.fn x = true ∨ X.env.scope.names.lookup x = some .local := by first | exact .inl rfl | exact .inr rfl | assumption) :
    DS E X (.AugAssign (.Name x pos') op e pos) (dAugI f i Te) := ps_weak (ps_aug hN hi hx he ho hf) fun D σ H h => lift_aug h
/-! ### loops -/
/-- what is walked, by its items; the walk holds as long as the pinned things stand and what is owned stays owned -/
def Walks (K : PySem.W.Frag) (J : It) (F : Fx) (ds : List PyData) : Prop := ∀ (O : Addr → Bool) (H : Hp) (n : Nat) (i : Nat), Rw F O H n →
  (ds.length = i → J.stop i H) ∧ ∀ d, ds[i]? = some d → J.go i H ∧ ∀ x H', J.yld i H x H' → Ext F.g O O H H' n n ∧ Dq K F.g.p (hid O H') x d
def Fx.at (F : Fx) (O : Addr → Bool) (H : Hp) : Fx := { F with W := hid O H }
theorem Rw.at {F : Fx} {O : Addr → Bool} {H : Hp} {n : Nat} (r : Rw F O H n) : Rw (F.at O H) O H n := ⟨r.wd, r.up, r.ub, r.uc, r.sub, fun a o h => hid_some.mp h, r.own, r.dm, r.u0, r.kp, r.du⟩
theorem Rw.back {F : Fx} {O O' : Addr → Bool} {H H' : Hp} {n n' : Nat} (r : Rw F O H n) (r' : Rw (F.at O H) O' H' n') : Rw F O' H' n' := ⟨r'.wd, r'.up, r'.ub, r'.uc, r'.sub, fun a o h => r'.pin a o (hid_some.mpr (r.pin a o h)), r'.own, r'.dm, r'.u0, r'.kp, r'.du⟩
theorem Rel.at {K : PySem.W.Frag} {F : Fx} {O : Addr → Bool} {σ : St} {H : Hp} {ρ : List Cell} {n : Nat} (R : Rel K F O σ H ρ n) : Rel K (F.at O H) O σ H ρ n := ⟨R.rw.at, R.len, R.cel, R.uniq⟩
theorem Rel.back {K : PySem.W.Frag} {F : Fx} {O O' : Addr → Bool} {σ' : St} {H H' : Hp} {ρ' : List Cell} {n n' : Nat} (r : Rw F O H n) (R : Rel K (F.at O H) O' σ' H' ρ' n') : Rel K F O' σ' H' ρ' n' := ⟨r.back R.rw, R.len, R.cel, R.uniq⟩
theorem MS.at {K : PySem.W.Frag} {F : Fx} {O : Addr → Bool} {H : Hp} {n : Nat} {e : DEnds} {D : Ends} (r : Rw F O H n) (m : MS K E F e D) : MS K E (F.at O H) e D :=
  ⟨fun O' σ' H' ρ' n' R q => m.nx O' σ' H' ρ' n' (R.back r) q, fun O' σ' H' ρ' n' R q => m.bk O' σ' H' ρ' n' (R.back r) q, fun O' σ' H' ρ' n' R q => m.ct O' σ' H' ρ' n' (R.back r) q,
   fun O' H' n' v d R h q => m.rt O' H' n' v d (r.back R) h q, fun O' H' n' C fs oa R h q => m.ex O' H' n' C fs oa (r.back R) h q⟩
abbrev TID := List Cell → Nat → (List PyData → Nat → Prop) → XD → Prop
/-- the iterable is walked by the items -/
def liftI (K : PySem.W.Frag) (E : XK) (T : TID) : TI := fun σ H R => ∃ F O ρ n Qd Xd, Rel K F O σ H ρ n ∧ T ρ n Qd Xd ∧ (∀ {O' : Addr → Bool}, ∀ J ds n' H', Qd ds n' → Ext F.g O O' H H' n n' → Walks K J (F.at O' H') ds → R J H') ∧ MX K F.g O H n Xd E
abbrev DI (E : XK) (X : Cx) (tg iter : Expr) (T : TID) : Prop := PI X tg iter (liftI X.K E T)
theorem pi_weak {tg iter : Expr} {t t' : TI} (h : PI X tg iter t) (w : ∀ σ H R, t' σ H R → t σ H R) : PI X tg iter t' := ⟨fun pins s σ H R I q => h.run pins s σ H R I (w σ H R q)⟩
def dFor (Ti : TID) (g : TGD) (Tb : TSD) : TSD := fun e ρ n => Ti ρ n (fun ds n1 => ∃ I : Nat → List Cell → Nat → Prop, I 0 ρ n1 ∧
  (∀ i x ρ n, ds[i]? = some x → I i ρ n → g x ρ fun ρ2 => Tb { e with nx := I (i + 1), ct := I (i + 1), bk := e.nx } ρ2 n) ∧ ∀ ρ n, I ds.length ρ n → e.nx ρ n) e.ex
theorem ds_for {tg iter : Expr} {body : List Stmt} {Ti : TID} {g : TG} {gd : TGD} (hp : PassesOwn (model X.prog X.w) X.A X.env X.xe) (hc : X.calm = true) (hi : DI E X tg iter Ti) (hg : PG X tg g) (hgd : TgD X.K g gd) (hb : DSs E X body T)
    (hs : ∀ x, foldedSetIterable iter X.env x = pure x := by intro _; rfl) : DS E X (.For tg iter body [] pos) (dFor Ti gd T) := ps_weak (ps_for hp hc hi hg hb hs) fun D σ H ⟨F, O, ρ, n, e, R, t, m⟩ => by
  refine ⟨F, _, ρ, n, _, e.ex, R, t, fun {O1} J ds n1 H1 ⟨I, i0, step, fin⟩ x1 wk => ?_, m.mx R.rw⟩
  have R1 := R.ext x1
  refine ⟨fun i k σ H' => k = ds.length - i ∧ i ≤ ds.length ∧ ∃ O' ρ' n', Rel X.K (F.at O1 H1) O' σ H' ρ' n' ∧ I i ρ' n', ⟨ds.length, by simp, Nat.zero_le _, O1, ρ, n1, R1.at, i0⟩, ?_⟩
  rintro i k σ2 H2 ⟨rfl, hi2, O2, ρ2, n2, R2, q2⟩
  by_cases hlt : i < ds.length
  · obtain ⟨go, yl⟩ := (wk O2 H2 n2 i R2.rw).2 ds[i] (List.getElem?_eq_getElem hlt)
    refine .inr ⟨go, fun σ' H' => ∃ O' ρ' n', Rel X.K (F.at O1 H1) O' σ' H' ρ' n' ∧ I (i + 1) ρ' n', fun σ' H' ⟨O', ρ', n', R', q'⟩ => ⟨_, by omega, rfl, hlt, O', ρ', n', R', q'⟩, fun x H3 y => ?_⟩
    obtain ⟨x3, d3⟩ := yl x H3 y
    refine hgd (F.at O1 H1) O2 σ2 H3 ρ2 n2 x ds[i] _ _ (R2.ext x3) d3 (step i ds[i] ρ2 n2 (List.getElem?_eq_getElem hlt) q2) fun σ4 ρ4 R4 q4 => ?_
    have m' := m.at (E := E) R1.rw
    exact ⟨F.at O1 H1, O2, ρ4, n2, _, R4, q4, ⟨fun O' σ' H' ρ' n' R' q' => ⟨O', ρ', n', R', q'⟩, m'.nx, fun O' σ' H' ρ' n' R' q' => ⟨O', ρ', n', R', q'⟩, m'.rt, m'.ex⟩⟩
  · have ei : i = ds.length := by omega
    subst ei
    exact .inl ⟨(wk O2 H2 n2 _ R2.rw).1 rfl, m.nx O2 σ2 H2 ρ2 n2 (R2.back R1.rw) (fin ρ2 n2 q2)⟩
end
end Kd
namespace Kd
open PySem PySem.Spec PyProof.Rows L2 Kb
theorem passD {X : Cx} {E : XK} : Passes CX0 X E := fun _ _ _ _ _ _ _ h => h.elim
theorem Rw.same_at {F : Fx} {O O' : Addr → Bool} {H H' : Hp} {n : Nat} (r : Rw (F.at O H) O' H' n) : Same (hid O H) (hid O' H') := fun a o h => by
  obtain ⟨h1, h2⟩ := r.pin a o h
  exact hid_some.mpr ⟨h1, h2⟩
/-! ### iterables -/
section
variable {X : Cx} {E : XK} {a b e tg : Expr} {Te : TD} {Ta : TAD} {pos p : Pos}
def rngD (lo : Int) (n : Nat) : List PyData := (List.range n).map fun i : Nat => .int (lo + i)
theorem rngD_len (lo : Int) (n : Nat) : (rngD lo n).length = n := by unfold rngD; rw [List.length_map, List.length_range]
theorem walks_range {K : PySem.W.Frag} {F : Fx} (lo : Int) (m : Nat) : Walks K (Itr lo m) F (rngD lo m) := fun O H n i r => by
  refine ⟨fun h => ?_, fun d h => ?_⟩
  · rw [rngD_len] at h
    exact Nat.le_of_eq h
  · have hi : i < m := by
      have := (List.getElem?_eq_some_iff.mp h).1
      rwa [rngD_len] at this
    refine ⟨hi, fun x H' y => ?_⟩
    obtain ⟨rfl, rfl⟩ := y
    unfold rngD at h
    rw [List.getElem?_map, List.getElem?_range hi] at h
    cases h
    exact ⟨r.wd.refl, .int _⟩
def dRng1 (T : TAD) : TID := fun ρ n Q X => T ρ n (fun ds n1 => ∃ j : Int, ds = [.int j] ∧ -(2 ^ 62) ≤ j ∧ j < 2 ^ 62 ∧ Q (rngD 0 j.toNat) n1) X
def dRng2 (T : TAD) : TID := fun ρ n Q X => T ρ n (fun ds n1 => ∃ i j : Int, ds = [.int i, .int j] ∧ (-(2 ^ 62) ≤ i ∧ i < 2 ^ 62 ∧ -(2 ^ 62) ≤ j ∧ j < 2 ^ 62) ∧ Q (rngD i (j - i).toNat) n1) X
theorem DqAll.ints1 {K : PySem.W.Frag} {p : Addr} {H : Hp} {vs : List V} {i : Int} (h : DqAll K p H vs [.int i]) : vs = [.int i] := by
  cases h with
  | cons h1 h2 => cases h2; rw [h1.int']
theorem DqAll.ints2 {K : PySem.W.Frag} {p : Addr} {H : Hp} {vs : List V} {i j : Int} (h : DqAll K p H vs [.int i, .int j]) : vs = [.int i, .int j] := by
  cases h with
  | cons h1 h2 => rw [h1.int', h2.ints1]
theorem di_range1 (hg : Gl X "range") (hm : X.mg "range" = none) (ha : DA E X [a] Ta) (hs : starEach [a] X.env = [(false, eval a X.env)] := by rfl) : DI E X tg (.Call (.Name "range" p) [a] [] pos) (dRng1 Ta) :=
  pi_weak (pi_range1 hg hm ha hs) fun σ H R ⟨F, O, ρ, n, Qd, Xd, Rl, t, mq, mx⟩ =>
    ⟨F, _, ρ, n, _, Xd, Rl, t, fun ds n1 vs H1 ⟨j, ej, q1, q2, q⟩ e1 d1 => by
      subst ej
      exact ⟨j, d1.ints1, q1, q2, mq _ _ n1 H1 q e1 (walks_range 0 _)⟩, mx⟩
theorem di_range2 (hg : Gl X "range") (hm : X.mg "range" = none) (ha : DA E X [a, b] Ta) (hs : starEach [a, b] X.env = [(false, eval a X.env), (false, eval b X.env)] := by rfl) (hs2 : starEach [b] X.env = [(false, eval b X.env)] := by rfl) : DI E X tg (.Call (.Name "range" p) [a, b] [] pos) (dRng2 Ta) :=
  pi_weak (pi_range2 hg hm ha hs hs2) fun σ H R ⟨F, O, ρ, n, Qd, Xd, Rl, t, mq, mx⟩ =>
    ⟨F, _, ρ, n, _, Xd, Rl, t, fun ds n1 vs H1 ⟨i, j, ej, q1, q⟩ e1 d1 => by
      subst ej
      exact ⟨i, j, d1.ints2, q1, mq _ _ n1 H1 q e1 (walks_range i _)⟩, mx⟩
def sgD (z : Str) : List PyData := z.cps.toList.map fun c => .str ⟨#[c]⟩
theorem walks_list {K : PySem.W.Frag} {F : Fx} {O : Addr → Bool} {H : Hp} {a : Addr} {xs : List V} {ds : List PyData} (h : SqL K (hid O H) a xs) (g : DqAll K F.g.p (hid O H) xs ds) : Walks K (Itl K a) (F.at O H) ds := fun O' H' n i r => by
  have s := r.same_at
  have h' : SqL K H' a xs := (hid_same O' H').seq (s.seq h)
  refine ⟨fun e => ⟨xs, h', by rw [g.length]; exact Nat.le_of_eq e⟩, fun d e => ?_⟩
  obtain ⟨v, hv, hd⟩ := g.get e
  refine ⟨⟨xs, v, h', hv⟩, fun x H2 y => ?_⟩
  obtain ⟨rfl, y⟩ := y
  have := y xs h'
  rw [hv] at this
  cases this
  exact ⟨r.wd.refl, hd.same s⟩
theorem walks_tup {K : PySem.W.Frag} {F : Fx} {O : Addr → Bool} {H : Hp} {a : Addr} {xs : List V} {ds : List PyData} (h : SqT K (hid O H) a xs) (g : DqAll K F.g.p (hid O H) xs ds) : Walks K (Itt K a) (F.at O H) ds := fun O' H' n i r => by
  have s := r.same_at
  have h' : SqT K H' a xs := (hid_same O' H').tup (s.tup h)
  refine ⟨fun e => ⟨xs, h', by rw [g.length]; exact Nat.le_of_eq e⟩, fun d e => ?_⟩
  obtain ⟨v, hv, hd⟩ := g.get e
  refine ⟨⟨xs, v, h', hv⟩, fun x H2 y => ?_⟩
  obtain ⟨rfl, y⟩ := y
  have := y xs h'
  rw [hv] at this
  cases this
  exact ⟨r.wd.refl, hd.same s⟩
theorem walks_str {K : PySem.W.Frag} {F : Fx} (z : Str) : Walks K (Its z) F (sgD z) := fun O H n i r => by
  have l : (sgD z).length = z.cps.size := by unfold sgD; rw [List.length_map, Array.length_toList]
  refine ⟨fun h => by rw [l] at h; exact Nat.le_of_eq h, fun d h => ?_⟩
  have hi : i < z.cps.size := by
    have := (List.getElem?_eq_some_iff.mp h).1
    rwa [l] at this
  refine ⟨hi, fun x H' y => ?_⟩
  obtain ⟨rfl, c, hc, rfl⟩ := y
  unfold sgD at h
  rw [List.getElem?_map, Array.getElem?_toList, hc] at h
  cases h
  exact ⟨r.wd.refl, .str _ (by show 1 ≤ sizeLine; decide)⟩
/-- enumerate -/
def enD (ds : List PyData) : List PyData := ds.mapIdx fun i d => PAIR (.int i) d
theorem enD_at {ds : List PyData} {i : Nat} {d : PyData} (h : (enD ds)[i]? = some d) : ∃ x, ds[i]? = some x ∧ d = PAIR (.int i) x := by
  unfold enD at h
  rw [List.getElem?_mapIdx] at h
  obtain ⟨x, h1, h2⟩ := Option.map_eq_some_iff.mp h
  exact ⟨x, h1, h2.symm⟩
theorem enD_len (ds : List PyData) : (enD ds).length = ds.length := by unfold enD; rw [List.length_mapIdx]
theorem new_pair {K : PySem.W.Frag} {g : G} {O : Addr → Bool} {H : Hp} {n : Nat} {T : Addr} {v w : V} {x y : PyData} (wd : Wd g O H n) (hT : H T = none) (h1 : Dq K g.p (hid O H) v x) (h2 : Dq K g.p (hid O H) w y) :
    Ext g O O H (upd H T (.tup [v, w])) n n ∧ Dq K g.p (hid O (upd H T (.tup [v, w]))) (.ref T) (PAIR x y) := by
  have e := wd.new hT (.tup [v, w])
  exact ⟨e, .pair (hid_new (wd.fresh hT)) (h1.same e.hid) (h2.same e.hid)⟩
theorem walks_enT {K : PySem.W.Frag} {F : Fx} {O : Addr → Bool} {H : Hp} {a : Addr} {xs : List V} {ds : List PyData} (h : SqT K (hid O H) a xs) (g : DqAll K F.g.p (hid O H) xs ds) : Walks K (ItET K a) (F.at O H) (enD ds) := fun O' H' n i r => by
  have s := r.same_at
  have h' : SqT K H' a xs := (hid_same O' H').tup (s.tup h)
  refine ⟨fun e => ⟨xs, h', by rw [g.length, ← enD_len]; exact e⟩, fun d e => ?_⟩
  obtain ⟨x, e', rfl⟩ := enD_at e
  obtain ⟨v, hv, hd⟩ := g.get e'
  refine ⟨⟨xs, v, h', hv⟩, fun u H2 y => ?_⟩
  obtain ⟨T, x', rfl, hT, rfl, y⟩ := y
  have := y xs h'
  rw [hv] at this
  cases this
  exact new_pair r.wd hT (.int _) (hd.same s)
theorem walks_enL {K : PySem.W.Frag} {F : Fx} {O : Addr → Bool} {H : Hp} {a : Addr} {xs : List V} {ds : List PyData} (h : SqL K (hid O H) a xs) (g : DqAll K F.g.p (hid O H) xs ds) : Walks K (Ite K a) (F.at O H) (enD ds) := fun O' H' n i r => by
  have s := r.same_at
  have h' : SqL K H' a xs := (hid_same O' H').seq (s.seq h)
  refine ⟨fun e => ⟨xs, h', by rw [g.length, ← enD_len]; exact Nat.le_of_eq e⟩, fun d e => ?_⟩
  obtain ⟨x, e', rfl⟩ := enD_at e
  obtain ⟨v, hv, hd⟩ := g.get e'
  refine ⟨⟨xs, v, h', hv⟩, fun u H2 y => ?_⟩
  obtain ⟨T, x', rfl, hT, rfl, y⟩ := y
  have := y xs h'
  rw [hv] at this
  cases this
  exact new_pair r.wd hT (.int _) (hd.same s)
section
variable {elts : List Expr} {kk : Nat} {tpos : Pos}
/-- zip of two -/
def srcD : PyData → Option (List PyData)
  | .str z => some (sgD z)
  | .list ds => some ds
  | .tuple ds => some ds
  | _ => none
def zpD (xs ys : List PyData) : List PyData := (xs.zip ys).map fun p => PAIR p.1 p.2
def dZip (T : TAD) : TID := fun ρ n Q X => T ρ n (fun ds n1 => ∃ x y xs ys, ds = [x, y] ∧ srcD x = some xs ∧ srcD y = some ys ∧ Q (zpD xs ys) n1) X
theorem src_of {K : PySem.W.Frag} {p : Addr} {O : Addr → Bool} {H : Hp} {v : V} {x : PyData} {xs : List PyData} (h : Dq K p (hid O H) v x) (e : srcD x = some xs) : ∃ (r : Sr) (us : List V), v = r.v ∧ r.has K (hid O H) us ∧ DqAll K p (hid O H) us xs := by
  cases x with
  | str z =>
    cases e
    obtain rfl := h.str'
    refine ⟨.t z, _, rfl, rfl, ?_⟩
    unfold sgD
    generalize z.cps.toList = L
    induction L with
    | nil => exact .nil
    | cons c L ih => exact .cons (.str _ (by show 1 ≤ sizeLine; decide)) ih
  | list ds =>
    cases e
    obtain ⟨a, us, rfl, h1, h2⟩ := h.list'
    exact ⟨.l a, us, rfl, h1, h2⟩
  | tuple ds =>
    cases e
    obtain ⟨a, us, rfl, h1, h2⟩ := h.tuple'
    exact ⟨.u a, us, rfl, h1, h2⟩
  | _ => cases e
theorem has_same {K : PySem.W.Frag} {H H' : Hp} (s : Same H H') {r : Sr} {us : List V} (h : r.has K H us) : r.has K H' us := by
  cases r with
  | t z => exact h
  | l a => exact s.seq h
  | u a => exact s.tup h
theorem walks_zip {K : PySem.W.Frag} {F : Fx} {O : Addr → Bool} {H : Hp} {r1 r2 : Sr} {us ws : List V} {xs ys : List PyData} (h1 : r1.has K (hid O H) us) (g1 : DqAll K F.g.p (hid O H) us xs) (h2 : r2.has K (hid O H) ws) (g2 : DqAll K F.g.p (hid O H) ws ys) : Walks K (ItzS K r1 r2) (F.at O H) (zpD xs ys) := fun O' H' n i r => by
  have s := r.same_at
  have h1' := has_same (hid_same O' H') (has_same s h1)
  have h2' := has_same (hid_same O' H') (has_same s h2)
  have l : (zpD xs ys).length = min xs.length ys.length := by unfold zpD; rw [List.length_map, List.length_zip]
  have l1 := g1.length
  have l2 := g2.length
  refine ⟨fun e => ⟨us, ws, h1', h2', by omega, by omega, by omega⟩, fun d e => ?_⟩
  have hi := (List.getElem?_eq_some_iff.mp e).1
  rw [l] at hi
  have ex := List.getElem?_eq_getElem (l := xs) (i := i) (by omega)
  have ey := List.getElem?_eq_getElem (l := ys) (i := i) (by omega)
  obtain ⟨v, hv, hd⟩ := g1.get ex
  obtain ⟨w, hw, hd2⟩ := g2.get ey
  have ed : d = PAIR xs[i] ys[i] := by
    unfold zpD at e
    rw [List.getElem?_map, List.getElem?_zip_eq_some (z := (xs[i], ys[i])) |>.mpr ⟨ex, ey⟩] at e
    cases e
    rfl
  subst ed
  refine ⟨⟨us, ws, v, w, h1', h2', hv, hw⟩, fun u H2 y => ?_⟩
  obtain ⟨T, x', y', rfl, hT, rfl, y1, y2⟩ := y
  have a1 := y1 us h1'
  have a2 := y2 ws h2'
  rw [hv] at a1
  rw [hw] at a2
  cases a1
  cases a2
  exact new_pair r.wd hT (hd.same s) (hd2.same s)
theorem di_zip {e2 : Expr} (hg : Gl X "zip") (hm : X.mg "zip" = none) (ha : DA E X [e, e2] Ta)
    (hs : starEach [e, e2] X.env = (false, eval e X.env) :: starEach [e2] X.env := by rfl) (hpl : (backTo pos (starEach [e2] X.env)).any (·.1) = false := by rfl) : DI E X (.Tuple elts kk tpos) (.Call (.Name "zip" p) [e, e2] [] pos) (dZip Ta) :=
  pi_weak (pi_zipS hg hm ha hs hpl) fun σ H R ⟨F, O, ρ, n, Qd, Xd, Rl, t, mq, mx⟩ =>
    ⟨F, _, ρ, n, _, Xd, Rl, t, fun ds n1 vs H1 ⟨x, y, xs, ys, ed, ex, ey, q⟩ e1 d1 => by
      subst ed
      cases d1 with
      | cons d1 d2 =>
        cases d2 with
        | cons d2 d3 =>
          cases d3
          obtain ⟨r1, us, rfl, h1, g1⟩ := src_of d1 ex
          obtain ⟨r2, ws, rfl, h2, g2⟩ := src_of d2 ey
          exact ⟨r1, r2, us, ws, rfl, has_same (hid_same _ H1) h1, has_same (hid_same _ H1) h2, mq _ _ n1 H1 q e1 (walks_zip h1 g1 h2 g2)⟩, mx⟩
end
end
end Kd
namespace Kd
open PySem PySem.Spec PyProof.Rows L2 Kb
/-! ### what is owned: more and less -/
def addO (O : Addr → Bool) (q : Addr) : Addr → Bool := fun a => if a = q then true else O a
def delO (O : Addr → Bool) (q : Addr) : Addr → Bool := fun a => if a = q then false else O a
theorem addO_self {O : Addr → Bool} {q : Addr} : addO O q q = true := if_pos rfl
theorem addO_ne {O : Addr → Bool} {q a : Addr} (h : a ≠ q) : addO O q a = O a := if_neg h
theorem delO_self {O : Addr → Bool} {q : Addr} : delO O q q = false := if_pos rfl
theorem delO_ne {O : Addr → Bool} {q a : Addr} (h : a ≠ q) : delO O q a = O a := if_neg h
theorem addO_of {O : Addr → Bool} {q a : Addr} (h : O a = true) : addO O q a = true := by
  by_cases e : a = q
  · rw [e, addO_self]
  · rw [addO_ne e]; exact h
section
variable {K : PySem.W.Frag} {F : Fx} {g : G} {O O' : Addr → Bool} {σ : St} {H H' : Hp} {ρ : List Cell} {n n' : Nat} {q D : Addr} {o : HO}
theorem hid_del (O : Addr → Bool) (H : Hp) (q : Addr) : Same (hid O H) (hid (delO O q) H) := fun a o h => by
  obtain ⟨h1, h2⟩ := hid_some.mp h
  refine hid_some.mpr ⟨?_, h2⟩
  by_cases e : a = q
  · rw [e, delO_self]
  · rw [delO_ne e]; exact h1
/-- a new owned thing -/
theorem hid_push (h : H q = none) (o : HO) : Same (hid O H) (hid (addO O q) (upd H q o)) := fun a x e => by
  obtain ⟨h1, h2⟩ := hid_some.mp e
  have ne : a ≠ q := ne_of_none h2 h
  exact hid_some.mpr ⟨by rw [addO_ne ne]; exact h1, by rw [upd_ne ne]; exact h2⟩
/-- an owned thing changes -/
theorem hid_poke (h : O q = true) (o : HO) : hid O (upd H q o) = hid O H := by
  funext a
  unfold hid
  by_cases e : a = q
  · rw [e, if_pos h, if_pos h]
  · rw [upd_ne e]
theorem WOk.push (w : WOk g O H n) (h : H q = none) (o : HO) : WOk g (addO O q) (upd H q o) n := ⟨w.stm.same (same_new h), w.np, w.nb, w.nc, fun a x e => by
  have k := w.obj a x e
  have ne : a ≠ q := fun z => k.here.2 (by rw [z]; exact h)
  exact k.keep addO_of (upd_ne ne) (hid_push h o) fun _ _ z => z⟩
theorem WOk.poke (w : WOk g O H n) (h : O q = true) (hd : Kw.dom n q = false) (ne : q ≠ g.p ∧ q ≠ g.b ∧ q ≠ g.c) (o : HO) : WOk g O (upd H q o) n := ⟨w.stm.upd ne, w.np, w.nb, w.nc, fun a x e => by
  have k := w.obj a x e
  have nq : a ≠ q := fun z => by
    rw [z] at e
    unfold Kw.dom at hd
    rw [e] at hd
    cases hd
  exact k.keep id (upd_ne nq) (by rw [hid_poke h]; exact fun _ _ z => z) fun _ _ z => z⟩
theorem WOk.del (w : WOk g O H n) (hd : Kw.dom n q = false) : WOk g (delO O q) H n := ⟨w.stm, w.np, w.nb, w.nc, fun a x e => by
  have k := w.obj a x e
  have nq : a ≠ q := fun z => by
    rw [z] at e
    unfold Kw.dom at hd
    rw [e] at hd
    cases hd
  exact k.keep (fun z => by rw [delO_ne nq]; exact z) rfl (hid_del O H q) fun _ _ z => z⟩
/-- a new thing, hidden -/
theorem Ext.push (w : Wd g O H n) (h : H q = none) (o : HO) : Ext g O (addO O q) H (upd H q o) n n := by
  have kp : ∀ a, a ≠ q → H a ≠ none → upd H q o a ≠ none := fun a z k => by rw [upd_ne z]; exact k
  have nq : ∀ a, O a = true → a ≠ q := fun a ha z => w.trk a ha (by rw [z]; exact h)
  refine ⟨fun a ha => addO_of ha, fun a ha => ?_, fun a x _ e => same_new h a x e, fun a ha _ _ _ => upd_ne (nq a ha), fun a ha => .inl ha, w.trk, fun a ha => ?_, w.wok.push h o⟩
  · by_cases e : a = q
    · rw [e]; exact .inr h
    · rw [addO_ne e] at ha; exact .inl ha
  · by_cases e : a = q
    · rw [e, upd_same]; exact fun z => nomatch z
    · rw [addO_ne e] at ha; exact kp a e (w.trk a ha)
/-- a new thing, hidden yet: none of the world's objects -/
def NewH (H : Hp) (O' : Addr → Bool) (n' : Nat) (q : Addr) : Prop := H q = none ∧ O' q = true ∧ Kw.dom n' q = false
theorem Ext.poke (e : Ext g O O' H H' n n') (h : NewH H O' n' q) (w : Wd g O H n) (o : HO) : Ext g O O' H (upd H' q o) n n' := by
  obtain ⟨h0, h1, h2⟩ := h
  have oq : O q = false := w.fresh h0
  have np : q ≠ g.p ∧ q ≠ g.b ∧ q ≠ g.c := by
    refine ⟨fun z => ?_, fun z => ?_, fun z => ?_⟩
    · rw [z, w.op] at oq; cases oq
    · rw [z, w.ob] at oq; cases oq
    · rw [z, w.oc] at oq; cases oq
  refine ⟨e.sub, e.new, fun a x k1 k2 => ?_, fun a ha k1 k2 k3 => ?_, e.dm, e.st, fun a ha => ?_, e.wok.poke h1 h2 np o⟩
  · rw [upd_ne (ne_of_none k2 h0)]
    exact e.same a x k1 k2
  · have ne : a ≠ q := fun z => by rw [z, oq] at ha; cases ha
    rw [upd_ne ne]
    exact e.own a ha k1 k2 k3
  · by_cases z : a = q
    · rw [z, upd_same]; exact fun z => nomatch z
    · rw [upd_ne z]; exact e.trk a ha
/-- it is shown: data from then on -/
theorem Ext.shown (e : Ext g O O' H H' n n') (h : NewH H O' n' q) (w : Wd g O H n) : Ext g O (delO O' q) H H' n n' := by
  obtain ⟨h0, h1, h2⟩ := h
  have oq : O q = false := w.fresh h0
  refine ⟨fun a ha => ?_, fun a ha => ?_, e.same, e.own, e.dm, e.st, fun a ha => ?_, e.wok.del h2⟩
  · have ne : a ≠ q := fun z => by rw [z, oq] at ha; cases ha
    rw [delO_ne ne]
    exact e.sub a ha
  · by_cases z : a = q
    · rw [z, delO_self] at ha; cases ha
    · rw [delO_ne z] at ha; exact e.new a ha
  · by_cases z : a = q
    · rw [z, delO_self] at ha; cases ha
    · rw [delO_ne z] at ha; exact e.trk a ha
theorem NewH.later {O2 : Addr → Bool} {H2 : Hp} {n2 : Nat} (h : NewH H O' n' q) (f : Ext g O' O2 H' H2 n' n2) : NewH H O2 n2 q := ⟨h.1, f.sub q h.2.1, f.off h.2.1 h.2.2⟩
theorem Wd.push (w : Wd g O H n) (h : H q = none) (o : HO) : Wd g (addO O q) (upd H q o) n := by
  refine ⟨addO_of w.op, addO_of w.ob, addO_of w.oc, fun a ha => ?_, w.wok.push h o⟩
  by_cases e : a = q
  · rw [e, upd_same]; exact fun z => nomatch z
  · rw [addO_ne e] at ha
    rw [upd_ne e]
    exact w.trk a ha
theorem Rw.U0 (r : Rw F O H n) (h : H q = none) : F.U q = false := by
  cases e : F.U q with
  | false => rfl
  | true => exact absurd h (r.wd.trk q (r.sub q e))
theorem Rw.Uq (r : Rw F O H n) (h : H q = none) : Own F n q := ⟨r.U0 h, r.wd.dom0 h⟩
theorem Rw.Un (r : Rw F O H n) (h : NewH H O' n' q) : Own F n' q := ⟨r.U0 h.1, h.2.2⟩
theorem Rw.push (r : Rw F O H n) (h : H q = none) (o : HO) : Rw F (addO O q) (upd H q o) n := r.ext (Ext.push r.wd h o)
theorem XOk.push {fs : List (Str × PyData)} {d : Option Addr} (h : H q = none) (o : HO) (k : XOk K F.g.p O H fs d) : XOk K F.g.p (addO O q) (upd H q o) fs d := by
  cases d with
  | none => exact k
  | some a =>
    obtain ⟨h1, xs, h2, h3⟩ := k
    have ne : a ≠ q := ne_of_none h2 h
    exact ⟨by rw [addO_ne ne]; exact h1, xs, by rw [upd_ne ne]; exact h2, h3.same (hid_push h o)⟩
theorem XOk.poke {fs : List (Str × PyData)} {d : Option Addr} (h : O q = true) (o : HO) (k : XOk K F.g.p O H fs d) : XOk K F.g.p O (upd H q o) fs d := by
  cases d with
  | none => exact k
  | some a =>
    obtain ⟨h1, xs, h2, h3⟩ := k
    have ne : a ≠ q := fun z => by rw [z, h] at h1; cases h1
    exact ⟨h1, xs, by rw [upd_ne ne]; exact h2, by rw [hid_poke h]; exact h3⟩
theorem XOk.del {fs : List (Str × PyData)} {d : Option Addr} (q : Addr) (k : XOk K F.g.p O H fs d) : XOk K F.g.p (delO O q) H fs d := by
  cases d with
  | none => exact k
  | some a =>
    obtain ⟨h1, xs, h2, h3⟩ := k
    refine ⟨?_, xs, h2, h3.same (hid_del O H q)⟩
    by_cases e : a = q
    · rw [e, delO_self]
    · rw [delO_ne e]; exact h1
theorem XHeld.push {a : Addr} {x : Option Obj} (h : H q = none) (o : HO) (k : XHeld O H a x) : XHeld (addO O q) (upd H q o) a x := fun oe e => by
  obtain ⟨h1, h2⟩ := k oe e
  have ne : a ≠ q := ne_of_none h2 h
  exact ⟨by rw [addO_ne ne]; exact h1, by rw [upd_ne ne]; exact h2⟩
theorem XHeld.poke {a : Addr} {x : Option Obj} (h : O q = true) (o : HO) (k : XHeld O H a x) : XHeld O (upd H q o) a x := fun oe e => by
  obtain ⟨h1, h2⟩ := k oe e
  have ne : a ≠ q := fun z => by rw [z, h] at h1; cases h1
  exact ⟨h1, by rw [upd_ne ne]; exact h2⟩
theorem XHeld.del {a : Addr} {x : Option Obj} (q : Addr) (k : XHeld O H a x) : XHeld (delO O q) H a x := fun oe e => by
  obtain ⟨h1, h2⟩ := k oe e
  refine ⟨?_, h2⟩
  by_cases z : a = q
  · rw [z, delO_self]
  · rw [delO_ne z]; exact h1
theorem Rel.push (R : Rel K F O σ H ρ n) (h : H q = none) (o : HO) : Rel K F (addO O q) σ (upd H q o) ρ n := R.ext (Ext.push R.rw.wd h o)
/-- no slot owns it -/
def Off (σ : St) (ρ : List Cell) (q : Addr) : Prop := ∀ (i : Nat) (c : Cell), ρ[i]? = some c → c.isOwn = true → σ[i]? ≠ some (some (.ref q))
theorem Rel.off (R : Rel K F O σ H ρ n) (h : H q = none) : Off σ ρ q := fun i c hc ho e => by
  obtain ⟨x, h1, h2⟩ := R.cel i c hc
  rw [h1] at e
  cases e
  cases c with
  | no => cases ho
  | d d => cases ho
  | own ds =>
    obtain ⟨p, vs, e1, _, _, h4, _⟩ := h2
    cases e1
    rw [h] at h4
    cases h4
  | dct ks =>
    obtain ⟨p, vs, e1, _, _, h4, _⟩ := h2
    cases e1
    rw [h] at h4
    cases h4
  | x a d fs ob => cases ho
theorem Stm.addrs {H : Hp} {p b c : Addr} {n : Nat} (S : Stm H p b c n) : H p ≠ none ∧ H b ≠ none ∧ H c ≠ none := by
  obtain ⟨⟨i, big, cells, h1, _, _, h4, _, h6, _⟩, _⟩ := S
  exact ⟨by rw [h1]; exact (fun e => (nomatch e)), by rw [h4]; exact (fun e => (nomatch e)), by rw [h6]; exact (fun e => (nomatch e))⟩
theorem Rw.poke (r : Rw F O H n) (h : O q = true) (hu : Own F n q) (o : HO) : Rw F O (upd H q o) n := by
  obtain ⟨n1, n2, n3⟩ := r.ne hu
  refine ⟨⟨r.wd.op, r.wd.ob, r.wd.oc, fun a ha => ?_, r.wd.wok.poke h hu.2 ⟨n1, n2, n3⟩ o⟩, r.up, r.ub, r.uc, r.sub, fun a x e => ?_, fun a ha h1 h2 h3 => ?_, r.dm, r.u0, fun a ha => ?_, r.du⟩
  · by_cases e : a = q
    · rw [e, upd_same]; exact fun z => nomatch z
    · rw [upd_ne e]; exact r.wd.trk a ha
  · obtain ⟨h1, h2⟩ := r.pin a x e
    have ne : a ≠ q := fun z => by rw [z, h] at h1; cases h1
    exact ⟨h1, by rw [upd_ne ne]; exact h2⟩
  · have ne : a ≠ q := fun z => by rw [z, hu.1] at ha; cases ha
    rw [upd_ne ne]
    exact r.own a ha h1 h2 h3
  · by_cases e : a = q
    · rw [e, upd_same]; exact fun z => nomatch z
    · rw [upd_ne e]; exact r.kp a ha
theorem Rel.poke (R : Rel K F O σ H ρ n) (h : O q = true) (hu : Own F n q) (off : Off σ ρ q) (o : HO) : Rel K F O σ (upd H q o) ρ n := by
  refine ⟨R.rw.poke h hu o, R.len, fun i c hc => ?_, R.uniq⟩
  obtain ⟨x, h1, h2⟩ := R.cel i c hc
  refine ⟨x, h1, ?_⟩
  cases c with
  | no => trivial
  | d d =>
    obtain ⟨v, e1, e2⟩ := h2
    exact ⟨v, e1, by rw [hid_poke h]; exact e2⟩
  | own ds =>
    obtain ⟨p, vs, e1, e2, e3, e4, e5⟩ := h2
    have ne : p ≠ q := fun z => off i _ hc rfl (by rw [h1, e1, z])
    exact ⟨p, vs, e1, e2, e3, by rw [upd_ne ne]; exact e4, by rw [hid_poke h]; exact e5⟩
  | dct ks =>
    obtain ⟨p, vs, e1, e2, e3, e4, e5⟩ := h2
    have ne : p ≠ q := fun z => off i _ hc rfl (by rw [h1, e1, z])
    exact ⟨p, vs, e1, e2, e3, by rw [upd_ne ne]; exact e4, by rw [hid_poke h]; exact e5⟩
  | x a d fs ob => exact ⟨h2.1, h2.2.1.poke h o, h2.2.2.poke h o⟩
/-- an own list is given up: from then on it is data -/
theorem Rel.frz (R : Rel K F O σ H ρ n) {i : Nat} {ds : List PyData} (h : ρ[i]? = some (.own ds)) : ∃ O', Rel K F O' σ H (ρ.set i (.d (.list ds))) n ∧ (∀ a, O' a = true → O a = true) ∧
    ∃ q vs, O' = delO O q ∧ O q = true ∧ Own F n q ∧ H q = some (.lst vs) := by
  obtain ⟨x, h1, q, vs, rfl, h2, h3, h4, h5⟩ := R.cel i _ h
  obtain ⟨n1, n2, n3⟩ := R.rw.ne h3
  have hi : i < ρ.length := (List.getElem?_eq_some_iff.mp h).1
  refine ⟨delO O q, ⟨⟨⟨?_, ?_, ?_, fun a ha => ?_, R.rw.wd.wok.del h3.2⟩, R.rw.up, R.rw.ub, R.rw.uc, fun a ha => ?_, fun a o e => ?_, R.rw.own, R.rw.dm, R.rw.u0, R.rw.kp, R.rw.du⟩, by rw [List.length_set]; exact R.len, fun j c hj => ?_, fun j k c c' p hj hk o1 o2 s1 s2 => ?_⟩, fun a ha => ?_, q, vs, rfl, h2, h3, h4⟩
  · rw [delO_ne n1.symm]; exact R.rw.wd.op
  · rw [delO_ne n2.symm]; exact R.rw.wd.ob
  · rw [delO_ne n3.symm]; exact R.rw.wd.oc
  · by_cases e : a = q
    · rw [e, delO_self] at ha; cases ha
    · rw [delO_ne e] at ha; exact R.rw.wd.trk a ha
  · have ne : a ≠ q := fun z => by rw [z, h3.1] at ha; cases ha
    rw [delO_ne ne]
    exact R.rw.sub a ha
  · obtain ⟨e1, e2⟩ := R.rw.pin a o e
    have ne : a ≠ q := fun z => by rw [z, h2] at e1; cases e1
    exact ⟨by rw [delO_ne ne]; exact e1, e2⟩
  · by_cases e : i = j
    · subst e
      rw [List.getElem?_set_self hi] at hj
      cases hj
      refine ⟨_, h1, .ref q, rfl, .lst (hid_some.mpr ⟨delO_self, h4⟩) (h5.same (hid_del O H q))⟩
    · rw [List.getElem?_set_ne e] at hj
      obtain ⟨x, e1, e2⟩ := R.cel j c hj
      refine ⟨x, e1, ?_⟩
      have neq : ∀ p, c.isOwn = true → x = some (.ref p) → p ≠ q := fun p ho ex z => e (R.uniq i j _ c q h hj rfl ho h1 (by rw [e1, ex, z]))
      cases c with
      | no => trivial
      | d d =>
        obtain ⟨v, k1, k2⟩ := e2
        exact ⟨v, k1, k2.same (hid_del O H q)⟩
      | own es =>
        obtain ⟨p, us, k1, k2, k3, k4, k5⟩ := e2
        exact ⟨p, us, k1, by rw [delO_ne (neq p rfl k1)]; exact k2, k3, k4, k5.same (hid_del O H q)⟩
      | dct ks =>
        obtain ⟨p, us, k1, k2, k3, k4, k5⟩ := e2
        exact ⟨p, us, k1, by rw [delO_ne (neq p rfl k1)]; exact k2, k3, k4, k5.same (hid_del O H q)⟩
      | x a d fs ob => exact ⟨e2.1, e2.2.1.del q, e2.2.2.del q⟩
  · have ne : ∀ {m : Nat} {c : Cell}, (ρ.set i (.d (.list ds)))[m]? = some c → c.isOwn = true → i ≠ m := by
      intro m c hm ho e
      subst e
      rw [List.getElem?_set_self hi] at hm
      cases hm; cases ho
    have m1 := ne hj o1
    have m2 := ne hk o2
    rw [List.getElem?_set_ne m1] at hj
    rw [List.getElem?_set_ne m2] at hk
    exact R.uniq j k c c' p hj hk o1 o2 s1 s2
  · by_cases e : a = q
    · rw [e]; exact h2
    · rw [delO_ne e] at ha; exact ha
/-- a slot takes a new list of its own -/
theorem Rel.setOwn (R : Rel K F O σ H ρ n) {us : List V} {ds : List PyData} (hq : NewH H O' n' q) (e : Ext F.g O O' H H' n n') (hl : H' q = some (.lst us)) (hd : DqAll K F.g.p (hid O' H') us ds) (i : Nat) :
    Rel K F O' (σ.set i (some (.ref q))) H' (ρ.set i (.own ds)) n' := by
  have R' := R.ext e
  have off := R.off hq.1
  refine ⟨R'.rw, by rw [List.length_set, List.length_set]; exact R.len, fun j c hj => ?_, fun j k c c' p hj hk o1 o2 s1 s2 => ?_⟩
  · by_cases z : i = j
    · subst z
      have hi : i < ρ.length := by
        have := (List.getElem?_eq_some_iff.mp hj).1
        rwa [List.length_set] at this
      rw [List.getElem?_set_self hi] at hj
      cases hj
      exact ⟨some (.ref q), by rw [List.getElem?_set_self (by rw [R.len]; exact hi)], q, us, rfl, hq.2.1, R.rw.Un hq, hl, hd⟩
    · rw [List.getElem?_set_ne z] at hj ⊢
      exact R'.cel j c hj
  · have key : ∀ {m : Nat} {c : Cell}, i ≠ m → (ρ.set i (.own ds))[m]? = some c → c.isOwn = true → (σ.set i (some (.ref q)))[m]? = some (some (.ref p)) → p ≠ q := by
      intro m c hm hc ho hs z
      rw [List.getElem?_set_ne hm] at hc hs
      exact off m c hc ho (by rw [hs, z])
    by_cases z1 : i = j
    · by_cases z2 : i = k
      · omega
      · exfalso
        subst z1
        have hi : i < σ.length := by
          have := (List.getElem?_eq_some_iff.mp s1).1
          rwa [List.length_set] at this
        rw [List.getElem?_set_self hi] at s1
        cases s1
        exact key z2 hk o2 s2 rfl
    · by_cases z2 : i = k
      · exfalso
        subst z2
        have hi : i < σ.length := by
          have := (List.getElem?_eq_some_iff.mp s2).1
          rwa [List.length_set] at this
        rw [List.getElem?_set_self hi] at s2
        cases s2
        exact key z1 hj o1 s1 rfl
      · rw [List.getElem?_set_ne z1] at hj s1
        rw [List.getElem?_set_ne z2] at hk s2
        exact R.uniq j k c c' p hj hk o1 o2 s1 s2
/-- an own list is changed -/
theorem Rel.putOwn (R : Rel K F O σ H ρ n) {i : Nat} {ds es : List PyData} {us : List V} (h : ρ[i]? = some (.own ds)) (hq : σ[i]? = some (some (.ref q))) (hd : DqAll K F.g.p (hid O H) us es) : Rel K F O σ (upd H q (.lst us)) (ρ.set i (.own es)) n := by
  obtain ⟨x, h1, q', vs, rfl, h2, h3, h4, h5⟩ := R.cel i _ h
  rw [hq] at h1
  cases h1
  have hi : i < ρ.length := (List.getElem?_eq_some_iff.mp h).1
  refine ⟨R.rw.poke h2 h3 _, by rw [List.length_set]; exact R.len, fun j c hj => ?_, fun j k c c' p hj hk o1 o2 s1 s2 => ?_⟩
  · by_cases z : i = j
    · subst z
      rw [List.getElem?_set_self hi] at hj
      cases hj
      exact ⟨_, hq, q, us, rfl, h2, h3, upd_same, by rw [hid_poke h2]; exact hd⟩
    · rw [List.getElem?_set_ne z] at hj
      obtain ⟨x, e1, e2⟩ := R.cel j c hj
      refine ⟨x, e1, ?_⟩
      have neq : ∀ p, c.isOwn = true → x = some (.ref p) → p ≠ q := fun p ho ex w => z (R.uniq i j _ c q h hj rfl ho hq (by rw [e1, ex, w]))
      cases c with
      | no => trivial
      | d d =>
        obtain ⟨v, k1, k2⟩ := e2
        exact ⟨v, k1, by rw [hid_poke h2]; exact k2⟩
      | own es =>
        obtain ⟨p, ws, k1, k2, k3, k4, k5⟩ := e2
        exact ⟨p, ws, k1, k2, k3, by rw [upd_ne (neq p rfl k1)]; exact k4, by rw [hid_poke h2]; exact k5⟩
      | dct es =>
        obtain ⟨p, ws, k1, k2, k3, k4, k5⟩ := e2
        exact ⟨p, ws, k1, k2, k3, by rw [upd_ne (neq p rfl k1)]; exact k4, by rw [hid_poke h2]; exact k5⟩
      | x a d fs ob => exact ⟨e2.1, e2.2.1.poke h2 _, e2.2.2.poke h2 _⟩
  · have back : ∀ {m : Nat} {c : Cell}, (ρ.set i (.own es))[m]? = some c → c.isOwn = true → ∃ c', ρ[m]? = some c' ∧ c'.isOwn = true := by
      intro m c hm ho
      by_cases z : i = m
      · subst z; exact ⟨_, h, rfl⟩
      · rw [List.getElem?_set_ne z] at hm; exact ⟨c, hm, ho⟩
    obtain ⟨a1, b1, b2⟩ := back hj o1
    obtain ⟨a2, b3, b4⟩ := back hk o2
    exact R.uniq j k a1 a2 p b1 b3 b2 b4 s1 s2
end
end Kd
namespace Kd
open PySem PySem.Spec PyProof.Rows L2 Kb
/-! ### new lists -/
/-- an expression that makes a new list -/
def liftF (K : PySem.W.Frag) (E : XK) (T : TAD) : TE := fun σ H Q => ∃ F O ρ n Qd Xd, Rel K F O σ H ρ n ∧ T ρ n Qd Xd ∧
  (∀ {O' : Addr → Bool}, ∀ ds n' q us H', Qd ds n' → NewH H O' n' q → Ext F.g O O' H H' n n' → H' q = some (.lst us) → DqAll K F.g.p (hid O' H') us ds → Q (.ref q) H') ∧ MX K F.g O H n Xd E
abbrev DF (E : XK) (X : Cx) (e : Expr) (T : TAD) : Prop := PE X e (liftF X.K E T)
section
variable {X : Cx} {E E' : XK} {a b c e : Expr} {es : List Expr} {Ta Tb Tc Te : TD} {pos : Pos} {st : Stmt} {sts : List Stmt} {S T : TSD}
def dL (T : TAD) : TD := fun ρ n Q X => T ρ n (fun ds n1 => Q (.list ds) n1) X
theorem lift_l {K : PySem.W.Frag} {T : TAD} {σ : St} {H : Hp} {Q : VK} (h : lift K E (dL T) σ H Q) : liftF K E T σ H Q := by
  obtain ⟨F, O, ρ, n, Qd, Xd, R, t, mq, mx⟩ := h
  refine ⟨F, _, ρ, n, _, Xd, R, t, fun ds n' q us H' q1 hq e hl hd => ?_, mx⟩
  exact mq _ n' _ H' q1 (e.shown hq R.rw.wd) (.lst (hid_some.mpr ⟨delO_self, hl⟩) (hd.same (hid_del _ H' q)))
theorem de_f {T : TAD} (h : DF E X e T) : DE E X e (dL T) := pe_weak h fun _ _ _ z => lift_l z
/-- name = a new list, owned from then on -/
def dOwn (i : Nat) (T : TAD) : TSD := fun e ρ n => T ρ n (fun ds n1 => e.nx (ρ.set i (.own ds)) n1) e.ex
theorem lift_own {K : PySem.W.Frag} {T : TAD} {i : Nat} {D : Ends} {σ : St} {H : Hp} (h : liftS K E (dOwn i T) D σ H) : tAsg (liftF K E T) (gName i) D σ H := by
  obtain ⟨F, O, ρ, n, e, R, t, m⟩ := h
  refine ⟨F, _, ρ, n, _, e.ex, R, t, fun ds n' q us H' q1 hq x hl hd => ?_, m.mx R.rw⟩
  exact m.nx _ _ H' _ n' (R.setOwn hq x hl hd i) q1
theorem ds_own {i : Nat} {x : Str} {pos' : Pos} {Ta : TAD} (hN : X.N.Nodup) (hi : X.N[i]? = some x) (hx : Loc X.env.scope x) (he : DF E X e Ta) (hs : swapsWith e (some (.Name x pos')) pos.line X.env = pure false := by rfl) (hf : X.fn x = true ∨ X.env.scope.names.lookup x = some .local := by first | exact .inl rfl | exact .inr rfl | assumption) :
    DS E X (.Assign [.Name x pos'] e pos) (dOwn i Ta) := ps_weak (ps_set hN hi hx he hs hf) fun D σ H h => lift_own h
/-- displays -/
theorem Ext.none {g : G} {O O' : Addr → Bool} {H H' : Hp} {n n' : Nat} (e : Ext g O O' H H' n n') {q : Addr} (h : H' q = none) : H q = none := Classical.byContradiction fun z => e.live z h
def dLs (S : TAD) : TAD := fun ρ n Q X => S ρ n (fun xs n1 => xs.length ≤ sizeLine ∧ Q xs n1) X
/-! ### list comprehensions -/
def wipeC (ρ : List Cell) : List Nat → List Cell
  | [] => ρ
  | v :: vs => (wipeC ρ vs).set v .no
theorem Rel.wipe {K : PySem.W.Frag} {F : Fx} {O : Addr → Bool} {σ : St} {H : Hp} {ρ : List Cell} {n : Nat} (R : Rel K F O σ H ρ n) : ∀ vs, Rel K F O (wipe σ vs) H (wipeC ρ vs) n
  | [] => R
  | v :: vs => (Rel.wipe R vs).no v none
theorem wipe_at (σ : St) (i : Nat) : ∀ vs : List Nat, (L2.wipe σ vs)[i]? = if i ∈ vs then σ[i]?.map (fun _ => none) else σ[i]?
  | [] => by simp [L2.wipe]
  | v :: vs => by
    unfold L2.wipe
    rw [List.getElem?_set]
    by_cases h : v = i
    · subst h
      rw [if_pos rfl, if_pos List.mem_cons_self, wipe_length]
      by_cases hv : v < σ.length
      · rw [if_pos hv, List.getElem?_eq_getElem hv]; rfl
      · rw [if_neg hv, List.getElem?_eq_none (by omega)]; rfl
    · rw [if_neg h, wipe_at σ i vs]
      by_cases hm : i ∈ vs
      · rw [if_pos hm, if_pos (List.mem_cons_of_mem _ hm)]
      · rw [if_neg hm, if_neg (fun z => by rcases List.mem_cons.mp z with e | e; exact h e.symm; exact hm e)]
theorem wipe_wipe (σ : St) (vs : List Nat) : L2.wipe (L2.wipe σ vs) vs = L2.wipe σ vs := by
  apply List.ext_getElem?
  intro i
  rw [wipe_at, wipe_at]
  by_cases h : i ∈ vs
  · rw [if_pos h, if_pos h]
    cases σ[i]? <;> rfl
  · rw [if_neg h, if_neg h]
theorem wipe_set {σ : St} {vs : List Nat} {i : Nat} {x : Option V} (h : i ∈ vs) : L2.wipe (σ.set i x) vs = L2.wipe σ vs := by
  apply List.ext_getElem?
  intro j
  rw [wipe_at, wipe_at]
  by_cases hj : j ∈ vs
  · rw [if_pos hj, if_pos hj, List.getElem?_set]
    by_cases e : i = j
    · subst e
      rw [if_pos rfl]
      by_cases hl : i < σ.length
      · rw [if_pos hl, List.getElem?_eq_getElem hl]; rfl
      · rw [if_neg hl, List.getElem?_eq_none (by omega)]
    · rw [if_neg e]
  · rw [if_neg hj, if_neg hj, List.getElem?_set_ne (fun e => hj (by rw [← e]; exact h))]
/-- a target over data that stores in these slots alone -/
def TgC (K : PySem.W.Frag) (vs : List Nat) (g : TG) (gd : TGD) : Prop := ∀ (F : Fx) (O : Addr → Bool) (σ : St) (H : Hp) (ρ : List Cell) (n : Nat) (v : V) (d : PyData) (Qd : List Cell → Prop) (Q : St → Hp → Prop), Rel K F O σ H ρ n → Dq K F.g.p (hid O H) v d → gd d ρ Qd →
  (∀ σ' ρ', Rel K F O σ' H ρ' n → Qd ρ' → L2.wipe σ' vs = L2.wipe σ vs → Q σ' H) → g v σ H Q
def TgsC (K : PySem.W.Frag) (vs : List Nat) (g : TGs) (gd : TGsD) : Prop := ∀ (F : Fx) (O : Addr → Bool) (σ : St) (H : Hp) (ρ : List Cell) (n : Nat) (us : List V) (ds : List PyData) (Qd : List Cell → Prop) (Q : St → Hp → Prop), Rel K F O σ H ρ n → DqAll K F.g.p (hid O H) us ds → gd ds ρ Qd →
  (∀ σ' ρ', Rel K F O σ' H ρ' n → Qd ρ' → L2.wipe σ' vs = L2.wipe σ vs → Q σ' H) → g us σ H Q
theorem tc_name {K : PySem.W.Frag} {vs : List Nat} {i : Nat} (hi : i ∈ vs := by decide) : TgC K vs (gName i) (dgName i) := fun F O σ H ρ n v d Qd Q R h q k => k _ _ (R.set h i) q (wipe_set hi)
theorem tcs_nil {K : PySem.W.Frag} {vs : List Nat} : TgsC K vs gNil dgNil := fun F O σ H ρ n us ds Qd Q R h ⟨e, q⟩ k => by
  subst e
  cases h
  exact ⟨rfl, k _ _ R q rfl⟩
theorem tcs_cons {K : PySem.W.Frag} {vs : List Nat} {g : TG} {gd : TGD} {u : TGs} {ud : TGsD} (hg : TgC K vs g gd) (hu : TgsC K vs u ud) : TgsC K vs (gCons g u) (dgCons gd ud) := fun F O σ H ρ n us ds Qd Q R h ⟨d, r, e, q⟩ k => by
  subst e
  cases h with
  | cons h1 h2 =>
    refine ⟨_, _, rfl, hg F O σ H ρ n _ d _ _ R h1 q fun σ' ρ' R' q' w' => ?_⟩
    exact hu F O σ' H ρ' n _ r Qd Q R' h2 q' fun σ2 ρ2 R2 q2 w2 => k σ2 ρ2 R2 q2 (w2.trans w')
theorem tc_tup {K : PySem.W.Frag} {vs : List Nat} {m : Nat} {g : TGs} {gd : TGsD} (hg : TgsC K vs g gd) : TgC K vs (gTup K m g) (dgTup m gd) := fun F O σ H ρ n v d Qd Q R h ⟨ds, e, l, q⟩ k => by
  obtain ⟨a, xs, rfl, h1, h2⟩ := h.tupOf e
  exact ⟨a, xs, rfl, (hid_same _ H).tup h1, by rw [h2.length]; exact l, hg F O σ H ρ n xs ds Qd Q R h2 q k⟩
def X0 : XD := fun _ _ _ => False
theorem mx0 {K : PySem.W.Frag} {g : G} {O : Addr → Bool} {H : Hp} {n : Nat} {E : XK} : MX K g O H n X0 E := fun _ _ _ _ _ h => h.elim
def dLc (vs : List Nat) (Ti : TID) (gd : TGD) (tt : TTD) (te : TD) : TAD := fun ρ n Q X => Ti ρ n (fun ds n1 => ∃ I : Nat → List PyData → Nat → Prop, I 0 [] n1 ∧
  (∀ i x acc n, ds[i]? = some x → I i acc n → gd x (wipeC ρ vs) fun ρ2 => tt ρ2 n (fun b n1 => if b = true then te ρ2 n1 (fun y n2 => acc.length < sizeLine ∧ I (i + 1) (acc ++ [y]) n2) X0 else I (i + 1) acc n1) X0) ∧
  ∀ acc n, I ds.length acc n → Q acc n) X
theorem lift_lc {K : PySem.W.Frag} {vs : List Nat} {Ti : TID} {g : TG} {gd : TGD} {tt : TTD} {te : TD} (hgd : TgC K vs g gd) {σ : St} {H : Hp} {Q : VK} (h : liftF K E (dLc vs Ti gd tt te) σ H Q) :
    tLc (liftI K E Ti) g (liftT K E' tt) (lift K E' te) vs σ H Q := by
  obtain ⟨F, O, ρ, n, Qd, Xd, R, t, mq, mx⟩ := h
  refine ⟨F, _, ρ, n, _, Xd, R, t, fun {O1} J ds n1 H1 ⟨I, i0, step, fin⟩ x1 wk => ?_, mx⟩
  intro D hD
  have R1 := R.ext x1
  have w1 := R1.rw.wd
  have hD0 : H D = none := x1.none hD
  have R2 := (R1.at.wipe vs).push hD (.lst [])
  have off : Off (L2.wipe σ vs) (wipeC ρ vs) D := (R1.at.wipe vs).off hD
  refine ⟨fun i k H2 => k = ds.length - i ∧ i ≤ ds.length ∧ ∃ acc us n2 O2, Rel K (F.at O1 H1) O2 (L2.wipe σ vs) H2 (wipeC ρ vs) n2 ∧ Ext F.g O1 O2 H1 H2 n1 n2 ∧ NewH H1 O2 n2 D ∧ H2 D = some (.lst us) ∧ DqAll K F.g.p (hid O2 H2) us acc ∧ I i acc n2,
    ⟨ds.length, by simp, Nat.zero_le _, [], [], n1, _, R2, Ext.push w1 hD _, ⟨hD, addO_self, w1.dom0 hD⟩, upd_same, .nil, i0⟩, ?_⟩
  rintro i k H2 ⟨rfl, hi2, acc, us, n2, O2, R3, x2, nw, eD, dD, q2⟩
  have uD := R1.at.rw.Un nw
  obtain ⟨nD1, nD2, nD3⟩ := R1.at.rw.ne (R1.at.rw.Uq hD)
  by_cases hlt : i < ds.length
  · obtain ⟨go, yl⟩ := (wk O2 H2 n2 i R3.rw).2 ds[i] (List.getElem?_eq_getElem hlt)
    refine .inr ⟨go, fun H' => ∃ acc us n2 O2, Rel K (F.at O1 H1) O2 (L2.wipe σ vs) H' (wipeC ρ vs) n2 ∧ Ext F.g O1 O2 H1 H' n1 n2 ∧ NewH H1 O2 n2 D ∧ H' D = some (.lst us) ∧ DqAll K F.g.p (hid O2 H') us acc ∧ I (i + 1) acc n2,
      fun H' h' => ⟨_, by omega, rfl, hlt, h'⟩, fun x H3 y => ?_⟩
    obtain ⟨x3, d3⟩ := yl x H3 y
    have R4 := R3.ext x3
    refine hgd (F.at O1 H1) O2 (L2.wipe σ vs) H3 (wipeC ρ vs) n2 x ds[i] _ _ R4 d3 (step i ds[i] acc n2 (List.getElem?_eq_getElem hlt) q2) fun σ2 ρ2 R5 q5 w2 => ?_
    rw [wipe_wipe] at w2
    refine ⟨w2, F.at O1 H1, O2, ρ2, n2, _, X0, R5, q5, fun {O5} b n5 H5 q6 x5 => ?_, mx0⟩
    have x35 := x3.trans x5
    have eD5 : H5 D = some (.lst us) := by rw [x35.own D nw.2.1 nD1 nD2 nw.2.2]; exact eD
    have nw5 := nw.later x35
    cases b with
    | false => exact ⟨acc, us, n5, _, R3.ext x35, x2.trans x35, nw5, eD5, dD.same x35.hid, q6⟩
    | true =>
      refine ⟨F.at O1 H1, O5, ρ2, n5, _, X0, R5.ext x5, q6, fun {O6} y n6 v H6 q7 x6 d6 => ?_, mx0⟩
      obtain ⟨hl, q7⟩ := q7
      have x36 := x35.trans x6
      have eD6 : H6 D = some (.lst us) := by rw [x36.own D nw.2.1 nD1 nD2 nw.2.2]; exact eD
      have nw6 := nw.later x36
      refine ⟨us, eD6, by rw [dD.length]; exact hl, acc ++ [y], us ++ [v], n6, _, ?_, (x2.trans x36).poke nw6 w1 _, nw6, upd_same, ?_, q7⟩
      · exact (R3.ext x36).poke nw6.2.1 (R1.at.rw.Un nw6) off _
      · rw [hid_poke nw6.2.1]
        exact (dD.same x36.hid).append (.cons d6 .nil)
  · have ei : i = ds.length := by omega
    subst ei
    exact .inl ⟨(wk O2 H2 n2 _ R3.rw).1 rfl, mq acc n2 D us H2 (fin acc n2 q2) ⟨hD0, nw.2.1, nw.2.2⟩ (x1.trans x2) eD dD⟩
end
end Kd
namespace Kd
open PySem PySem.Spec PyProof.Rows L2 Kb
section
variable {X : Cx} {E E' : XK} {a b c e : Expr} {es : List Expr} {Ta Tb Tc Te : TD} {pos : Pos} {st : Stmt} {sts : List Stmt} {S T : TSD}
/-! ### list comprehensions -/
section
variable {elt tg iter : Expr} {ifs : List Expr} {scope : Scope} {own : List (Str × Nat)} {Ti : TID} {g : TG} {gd : TGD} {tt : TTD} {te : TD}
theorem pts_weak {t t' : TT} (h : PTs X ifs t) (w : ∀ σ H Q, t' σ H Q → t σ H Q) : PTs X ifs t' := ⟨fun pins s σ H Q I q => h.run pins s σ H Q I (w σ H Q q)⟩
theorem dts_nil : PTs X [] (liftT X.K E dYes) := pts_weak pts_nil fun σ H Q ⟨F, O, ρ, n, Qd, Xd, R, t, mq, mx⟩ => mq true n H t R.rw.wd.refl
theorem dts_one {t : TTD} (h : DT E X c t) : PTs X [c] (liftT X.K E t) := pts_one h
theorem df_lc (hc : X.calm = true) (hN : X.N.Nodup) (hi : DI E X tg iter Ti) (ok : BlkOk X.N X.env.scope scope own) (hgd : TgC X.K (own.map (·.2)) g gd)
    (hg : ∀ (s : Shared) (H : Hp) (C : Addr) (cl : List (Str × Addr)) (fp : List Addr), PG (X.blk s H scope (compEnvC scope cl C X.env) fp) tg g) (ht : ∀ (s : Shared) (H : Hp) (C : Addr) (cl : List (Str × Addr)) (fp : List Addr), PTs (X.blk s H scope (compEnvC scope cl C X.env) fp) ifs (liftT X.K E0 tt))
    (he : ∀ (s : Shared) (H : Hp) (C : Addr) (cl : List (Str × Addr)) (fp : List Addr), PE (X.blk s H scope (compEnvC scope cl C X.env) fp) elt (lift X.K E0 te)) (hs : ∀ x, foldedSetIterable iter X.env x = pure x := by intro _; rfl) :
    DF E X (.ListComp elt [⟨tg, iter, ifs, 0⟩] scope pos) (dLc (own.map (·.2)) Ti gd tt te) :=
  pe_weak (pe_lc hc hN hi ok hg ht he hs) fun _ _ _ h => lift_lc hgd h
theorem de_lc (hc : X.calm = true) (hN : X.N.Nodup) (hi : DI E X tg iter Ti) (ok : BlkOk X.N X.env.scope scope own) (hgd : TgC X.K (own.map (·.2)) g gd)
    (hg : ∀ (s : Shared) (H : Hp) (C : Addr) (cl : List (Str × Addr)) (fp : List Addr), PG (X.blk s H scope (compEnvC scope cl C X.env) fp) tg g) (ht : ∀ (s : Shared) (H : Hp) (C : Addr) (cl : List (Str × Addr)) (fp : List Addr), PTs (X.blk s H scope (compEnvC scope cl C X.env) fp) ifs (liftT X.K E0 tt))
    (he : ∀ (s : Shared) (H : Hp) (C : Addr) (cl : List (Str × Addr)) (fp : List Addr), PE (X.blk s H scope (compEnvC scope cl C X.env) fp) elt (lift X.K E0 te)) (hs : ∀ x, foldedSetIterable iter X.env x = pure x := by intro _; rfl) :
    DE E X (.ListComp elt [⟨tg, iter, ifs, 0⟩] scope pos) (dL (dLc (own.map (·.2)) Ti gd tt te)) := de_f (df_lc hc hN hi ok hgd hg ht he hs)
end
/-! ### own lists given up, and lent -/
def dFrz (i : Nat) (T : TSD) : TSD := fun e ρ n => ∃ ds, ρ[i]? = some (.own ds) ∧ T e (ρ.set i (.d (.list ds))) n
theorem lift_frz {K : PySem.W.Frag} {i : Nat} {D : Ends} {σ : St} {H : Hp} (h : liftS K E (dFrz i T) D σ H) : liftS K E T D σ H := by
  obtain ⟨F, O, ρ, n, e, R, ⟨ds, hi, t⟩, m⟩ := h
  obtain ⟨O', R', _, _⟩ := R.frz hi
  exact ⟨F, O', _, n, e, R', t, m⟩
theorem dss_frz {i : Nat} (h : DSs E X sts T) : DSs E X sts (dFrz i T) := pss_weak h fun D σ H z => lift_frz z
def scalar : PyData → Bool
  | .none => true
  | .bool _ => true
  | .int _ => true
  | .str _ => true
  | _ => false
/-- what has no list stands without one that is hidden -/
def Flat (H : Hp) (q : Addr) : Prop := (∃ xs, H q = some (.lst xs)) ∨ ∃ ks, H q = some (.dK ks)
theorem hid_less {O : Addr → Bool} {H : Hp} {q a : Addr} {o : HO} (h : hid O H a = some o) (ne : a ≠ q) : hid (addO O q) H a = some o := by
  obtain ⟨h1, h2⟩ := hid_some.mp h
  exact hid_some.mpr ⟨by rw [addO_ne ne]; exact h1, h2⟩
mutual
theorem Dq.hide {K : PySem.W.Frag} {p : Addr} {O : Addr → Bool} {H : Hp} {q : Addr} (f : Flat H q) : ∀ {v : V} {d : PyData}, Dq K p (hid O H) v d → nl d = true → Dq K p (hid (addO O q) H) v d
  | _, _, .non, _ => .non
  | _, _, .bl b, _ => .bl b
  | _, _, .int i, _ => .int i
  | _, _, .str x h, _ => .str x h
  | _, _, .lst h a, e => by simp [nl] at e
  | _, _, .tup (a := a) h g, e => .tup (by
      obtain ⟨o, h1, h2⟩ := h
      exact ⟨o, hid_less h1 fun z => by
        have := (hid_some.mp h1).2
        rw [z] at this
        rcases f with ⟨xs, k⟩ | ⟨ks, k⟩ <;> (rw [k] at this; cases this), h2⟩) (DqAll.hide f g (by simpa [nl] using e))
  | _, _, .pair h a b, e => by simp [nl, PAIR] at e
  | _, _, .dct (ks := ks) h a, e => by
      exfalso
      cases ks with
      | nil => simp [nl] at e
      | cons k ks =>
        obtain ⟨k, d⟩ := k
        cases k <;> cases ks <;> simp [nl, keyD] at e
  | _, _, .obj a, _ => .obj a
  | _, _, .stm e, _ => .stm e
theorem DqAll.hide {K : PySem.W.Frag} {p : Addr} {O : Addr → Bool} {H : Hp} {q : Addr} (f : Flat H q) : ∀ {vs : List V} {ds : List PyData}, DqAll K p (hid O H) vs ds → nlA ds = true → DqAll K p (hid (addO O q) H) vs ds
  | _, _, .nil, _ => .nil
  | _, _, .cons h r, e => by
    simp only [nlA, Bool.and_eq_true] at e
    exact .cons (Dq.hide f h e.1) (DqAll.hide f r e.2)
end
theorem XF.hide {K : PySem.W.Frag} {p : Addr} {O : Addr → Bool} {H : Hp} {q : Addr} (f : Flat H q) : ∀ {vs : List (Str × V)} {ds : List (Str × PyData)}, XF K p (hid O H) vs ds → (∀ x ∈ ds, nl x.2 = true) → XF K p (hid (addO O q) H) vs ds
  | _, _, .nil, _ => .nil
  | _, _, .cons h r, e => .cons (h.hide f (e _ List.mem_cons_self)) (XF.hide f r fun x hx => e x (List.mem_cons_of_mem _ hx))
theorem ObAt.hide {g : G} {O : Addr → Bool} {H : Hp} {n : Nat} {a q : Addr} {x : Kw.Ob} (f : Flat H q) (h : ObAt g O H n a x) : ObAt g (addO O q) H n a x := by
  cases x with
  | ins C dx fs => obtain ⟨h1, ⟨xs, h2, h3⟩, h4, h5⟩ := h; exact ⟨addO_of h1, ⟨xs, h2, fun K => (h3 K).hide f h5⟩, h4, h5⟩
  | dd b => obtain ⟨h1, h2⟩ := h; exact ⟨addO_of h1, h2⟩
  | lst ds => obtain ⟨h1, ⟨xs, h2, h3⟩, h4⟩ := h; exact ⟨addO_of h1, ⟨xs, h2, fun K => (h3 K).hide f h4⟩, h4⟩
/-- what was lent comes back -/
theorem Ext.del {g : G} {O O' : Addr → Bool} {H H' : Hp} {n n' : Nat} {q : Addr} {vs : List V} (w : Wd g O H n) (hq : O q = true) (h : H q = some (.lst vs)) (e : Ext g (delO O q) O' H H' n n') : Ext g O (addO O' q) H H' n n' := by
  have e1 : H' q = some (.lst vs) := e.same q _ delO_self h
  have vq : O' q = false := e.vis delO_self h
  refine ⟨fun a ha => ?_, fun a ha => ?_, fun a x h1 h2 => ?_, fun a ha h1 h2 h3 => ?_, e.dm, w.trk, fun a ha => ?_, ⟨e.wok.stm, e.wok.np, e.wok.nb, e.wok.nc, fun a x k => ?_⟩⟩
  · by_cases z : a = q
    · rw [z, addO_self]
    · rw [addO_ne z]; exact e.sub a (by rw [delO_ne z]; exact ha)
  · by_cases z : a = q
    · rw [z]; exact .inl hq
    · rw [addO_ne z] at ha
      rcases e.new a ha with k | k
      · rw [delO_ne z] at k; exact .inl k
      · exact .inr k
  · refine e.same a x ?_ h2
    by_cases z : a = q
    · rw [z, delO_self]
    · rw [delO_ne z]; exact h1
  · by_cases z : a = q
    · rw [z, h]
      exact e1
    · exact e.own a (by rw [delO_ne z]; exact ha) h1 h2 h3
  · by_cases z : a = q
    · rw [z, e1]; exact fun e => nomatch e
    · rw [addO_ne z] at ha; exact e.trk a ha
  · exact (e.wok.obj a x k).hide (.inl ⟨vs, e1⟩)
def dBor (i : Nat) (T : TD) : TD := fun ρ n Q X => ∃ ds, ρ[i]? = some (.own ds) ∧ T (ρ.set i (.d (.list ds))) n (fun d n1 => scalar d = true ∧ Q d n1) (fun _ _ _ => False)
def dBorT (i : Nat) (T : TTD) : TTD := fun ρ n Q X => ∃ ds, ρ[i]? = some (.own ds) ∧ T (ρ.set i (.d (.list ds))) n Q (fun _ _ _ => False)
/-! ### own lists changed -/
section
variable {x : Str} {p ap sp : Pos} {i : Nat}
theorem Rel.ownAt {K : PySem.W.Frag} {F : Fx} {O : Addr → Bool} {σ : St} {H : Hp} {ρ : List Cell} {n : Nat} {ds : List PyData} (R : Rel K F O σ H ρ n) (h : ρ[i]? = some (.own ds)) : ∃ q vs, σ[i]? = some (some (.ref q)) ∧ O q = true ∧ Own F n q ∧ H q = some (.lst vs) ∧ DqAll K F.g.p (hid O H) vs ds := by
  obtain ⟨x, h1, q, vs, rfl, h2, h3, h4, h5⟩ := R.cel i _ h
  exact ⟨q, vs, h1, h2, h3, h4, h5⟩
def dAppend (i : Nat) (T : TD) : TSD := fun e ρ n => ∃ ds, ρ[i]? = some (.own ds) ∧ T ρ n (fun d n1 => ds.length < sizeLine ∧ e.nx (ρ.set i (.own (ds ++ [d]))) n1) e.ex
theorem ds_append (hv : PE X (.Name x p) (tVar i)) (he : DE E X e Te)
    (hfew : ((backTo pos (starEach [e] X.env)).all (fun x => !x.1) && (backToKw pos (keywordEach [] X.env)).all (fun x => x.1.isSome)
      && decide ([e].length + ([] : List Keyword).length + (if ([] : List Keyword).isEmpty then 0 else 1) < 30)) = true := by rfl)
    (hline : (ap.endLine == pos.line) = true := by rfl) (hs : starEach [e] X.env = (false, eval e X.env) :: starEach [] X.env := by rfl) (hplain : (backTo pos (starEach [] X.env)).any (·.1) = false := by rfl)
    (hsw : swapsWith (.Call (.Attribute (.Name x p) "append" ap) [e] [] pos) none sp.line X.env = pure false := by rfl) :
    DS E X (.Expr (.Call (.Attribute (.Name x p) "append" ap) [e] [] pos) sp) (dAppend i Te) :=
  ps_weak (ps_expr (pe_bm PySem.F.plainAttrs_list PySem.F.slot_list_append PySem.F.type_list_append mt_append hv (pa_cons he pa_nil hs) rfl hfew hline hs hplain) hsw) fun D σ H ⟨F, O, ρ, n, e, R, ⟨ds, hi, t⟩, m⟩ => by
    obtain ⟨q, vs, s1, h1, h2, h3, h4⟩ := R.ownAt hi
    obtain ⟨k1, k2, _⟩ := R.rw.ne h2
    refine ⟨.ref q, s1, .inl ⟨rfl, vs, .inl (.inl h3)⟩, F, _, ρ, n, _, e.ex, R, t, fun d n1 v H1 ⟨hl, q1⟩ x1 d1 => ?_, m.mx R.rw⟩
    have h3' : H1 q = some (.lst vs) := by rw [x1.own q h1 k1 k2 h2.2]; exact h3
    refine ⟨q, vs, v, rfl, rfl, h3', by rw [h4.length]; exact hl, ?_⟩
    exact m.nx _ σ _ _ n1 ((R.ext x1).putOwn hi s1 ((h4.same x1.hid).append (.cons d1 .nil))) q1
def dExtend (i : Nat) (T : TD) : TSD := fun e ρ n => ∃ ds, ρ[i]? = some (.own ds) ∧ T ρ n (fun d n1 => ∃ es, d = .list es ∧ ds.length + es.length ≤ sizeLine ∧ e.nx (ρ.set i (.own (ds ++ es))) n1) e.ex
def dPutAt (i : Nat) (T Ti : TD) : TSD := fun e ρ n => T ρ n (fun d n1 => ∃ ds, ρ[i]? = some (.own ds) ∧ Ti ρ n1 (fun k n2 => ∃ (k' : Int) (j : Nat), k = .int k' ∧ ixN ds.length k' = some j ∧ e.nx (ρ.set i (.own (ds.set j d))) n2) e.ex) e.ex
theorem ds_putAt {ix : Expr} {p2 : Pos} (hv : PE X (.Name x p) (tVar i)) (hx : DE E X ix Ta) (he : DE E X e Te)
    (ha : ∀ v, assign (.Subscript (.Name x p) ix p2) X.env v = (do
      let ov ← holding [v] (eval (.Name x p) X.env)
      let iv ← holding [v, ov] (eval ix X.env)
      standAt p2
      holding [v, ov, iv] (setItem ov iv v)
      release [v, ov, iv] []) := by intro _; rfl)
    (hs : swapsWithSole [.Subscript (.Name x p) ix p2] e pos.line X.env = pure false := by rfl) (hw : swappedStores [.Subscript (.Name x p) ix p2] e X.env = pure none := by rfl)
    (h1 : (assignEach [.Subscript (.Name x p) ix p2] X.env).map (·.2) = [assign (.Subscript (.Name x p) ix p2) X.env] := by rfl) :
    DS E X (.Assign [.Subscript (.Name x p) ix p2] e pos) (dPutAt i Te Ta) :=
  ps_weak (ps_asg he (pg_sub hv hx set_list ha) hs hw h1) fun D σ H ⟨F, O, ρ, n, e, R, t, m⟩ => by
    refine ⟨F, _, ρ, n, _, e.ex, R, t, fun d n1 v H1 ⟨ds, hi, q1⟩ x1 d1 => ?_, m.mx R.rw⟩
    have R1 := R.ext x1
    obtain ⟨q, vs, s1, h1, h2, h3, h4⟩ := R1.ownAt hi
    obtain ⟨k1, k2, _⟩ := R1.rw.ne h2
    refine ⟨.ref q, s1, F, _, ρ, n1, _, e.ex, R1, q1, fun k n2 u H2 ⟨k', j, ek, hj, q2⟩ x2 d2 => ?_, (m.mx R1.rw)⟩
    subst ek
    obtain rfl := d2.int'
    have h3' : H2 q = some (.lst vs) := by rw [x2.own q h1 k1 k2 h2.2]; exact h3
    refine ⟨q, vs, k', j, rfl, rfl, h3', by rw [h4.length]; exact hj, ?_⟩
    exact m.nx _ σ _ _ n2 ((R1.ext x2).putOwn hi s1 ((h4.same x2.hid).set (d1.same x2.hid) j)) q2
end
end
end Kd
namespace Kd
open PySem PySem.Spec PyProof.Rows L2 Kb
mutual
theorem dp_same {K : PySem.W.Frag} {H H' : Hp} (s : Same H H') : ∀ {x : V} {d : PyData}, Dp K H x d → Dp K H' x d
  | _, _, .non => .non
  | _, _, .bl b => .bl b
  | _, _, .int i => .int i
  | _, _, .str x => .str x
  | _, _, .lst h a => .lst (s.seq h) (dpAll_same s a)
  | _, _, .tup h a => .tup (s.tup h) (dpAll_same s a)
theorem dpAll_same {K : PySem.W.Frag} {H H' : Hp} (s : Same H H') : ∀ {xs : List V} {ds : List PyData}, DpAll K H xs ds → DpAll K H' xs ds
  | _, _, .nil => .nil
  | _, _, .cons h r => .cons (dp_same s h) (dpAll_same s r)
end
/-! ### operations over data, of any kind -/
def OpG (X : Cx) (f : Value → Value → Sem Value) (rd : RD2) : Prop := ∃ r, OpR X f r ∧ OpD X.K r rd
def CallG (X : Cx) (f : Value) (rd : RDN) : Prop := ∃ r, CallR X f r ∧ CallD X.K r rd
def IxG (X : Cx) (rd : RD2) : Prop := ∃ r, IxR X r ∧ OpD X.K r rd
def SlG (X : Cx) (rd : RDS) : Prop := ∃ r, L2.SlR X r ∧ SlD X.K r rd
section
variable {X : Cx} {f : Value → Value → Sem Value} {fv : Value} {rd rd' : RD2} {cd cd' : RDN} {sd sd' : RDS}
theorem OpD.or {K : PySem.W.Frag} {r r' : R2} (h : OpD K r rd) (h' : OpD K r' rd') : OpD K (fun x y H Q => r x y H Q ∨ r' x y H Q) (fun x y Q => rd x y Q ∨ rd' x y Q) := fun g O H n x y v u Qd Q w d1 d2 q k => by
  rcases q with q | q
  · exact .inl (h g O H n x y v u Qd Q w d1 d2 q k)
  · exact .inr (h' g O H n x y v u Qd Q w d1 d2 q k)
theorem OpD.imp {K : PySem.W.Frag} {r : R2} (h : OpD K r rd) (w : ∀ x y Q, rd' x y Q → rd x y Q) : OpD K r rd' := fun g O H n x y v u Qd Q wd d1 d2 q k => h g O H n x y v u Qd Q wd d1 d2 (w x y Qd q) k
theorem OpG.or (h : OpG X f rd) (h' : OpG X f rd') : OpG X f (fun x y Q => rd x y Q ∨ rd' x y Q) := by
  obtain ⟨r, a, b⟩ := h
  obtain ⟨r', a', b'⟩ := h'
  exact ⟨_, OpR.or a a', b.or b'⟩
theorem OpG.imp (h : OpG X f rd) (w : ∀ x y Q, rd' x y Q → rd x y Q) : OpG X f rd' := by
  obtain ⟨r, a, b⟩ := h
  exact ⟨_, a, b.imp w⟩
theorem IxG.or (h : IxG X rd) (h' : IxG X rd') : IxG X (fun x y Q => rd x y Q ∨ rd' x y Q) := by
  obtain ⟨r, a, b⟩ := h
  obtain ⟨r', a', b'⟩ := h'
  exact ⟨_, IxR.or a a', b.or b'⟩
theorem IxG.imp (h : IxG X rd) (w : ∀ x y Q, rd' x y Q → rd x y Q) : IxG X rd' := by
  obtain ⟨r, a, b⟩ := h
  exact ⟨_, a, b.imp w⟩
theorem CallG.or (h : CallG X fv cd) (h' : CallG X fv cd') : CallG X fv (fun xs Q => cd xs Q ∨ cd' xs Q) := by
  obtain ⟨r, a, b⟩ := h
  obtain ⟨r', a', b'⟩ := h'
  refine ⟨fun xs H Q => r xs H Q ∨ r' xs H Q, fun pins s σ H xs us Q I v q => ?_, fun g O H n xs vs Qd Q w d q k => ?_⟩
  · rcases q with q | q
    · exact a pins s σ H xs us Q I v q
    · exact a' pins s σ H xs us Q I v q
  · rcases q with q | q
    · exact .inl (b g O H n xs vs Qd Q w d q k)
    · exact .inr (b' g O H n xs vs Qd Q w d q k)
theorem CallG.imp (h : CallG X fv cd) (w : ∀ xs Q, cd' xs Q → cd xs Q) : CallG X fv cd' := by
  obtain ⟨r, a, b⟩ := h
  exact ⟨_, a, fun g O H n xs vs Qd Q wd d q k => b g O H n xs vs Qd Q wd d (w xs Qd q) k⟩
theorem SlG.or (h : SlG X sd) (h' : SlG X sd') : SlG X (fun x l u Q => sd x l u Q ∨ sd' x l u Q) := by
  obtain ⟨r, a, b⟩ := h
  obtain ⟨r', a', b'⟩ := h'
  refine ⟨_, SlR.or a a', fun g O H n x lo hi v Qd Q w d q k => ?_⟩
  rcases q with q | q
  · exact .inl (b g O H n x lo hi v Qd Q w d q k)
  · exact .inr (b' g O H n x lo hi v Qd Q w d q k)
theorem SlG.imp (h : SlG X sd) (w : ∀ x l u Q, sd' x l u Q → sd x l u Q) : SlG X sd' := by
  obtain ⟨r, a, b⟩ := h
  exact ⟨_, a, fun g O H n x lo hi v Qd Q wd d q k => b g O H n x lo hi v Qd Q wd d (w x lo hi Qd q) k⟩
/-! the rules -/
variable {E : XK} {a b c e : Expr} {es : List Expr} {Ta Tb Tc Te : TD} {pos : Pos}
theorem de_o {op : Operator} (h : OpG X (binaryOp op) rd) (ha : DE E X a Ta) (hb : DE E X b Tb) : DE E X (.BinOp a op b pos) (dOp rd Ta Tb) := by
  obtain ⟨r, h1, h2⟩ := h
  exact de_op h1 h2 ha hb
theorem de_k {op : CmpOp} (h : OpG X (compareOp op) rd) (ha : DE E X a Ta) (hb : DE E X b Tb) (hm : behindInMarks op b = false) : DE E X (.Compare a [op] [b] pos) (dOp rd Ta Tb) := by
  obtain ⟨r, h1, h2⟩ := h
  exact de_cmp h1 h2 ha hb hm
theorem dt_k {op : CmpOp} (h : OpG X (compareOp op) rd) (ha : DE E X a Ta) (hb : DE E X b Tb) (hm : behindInMarks op b = false) : DT E X (.Compare a [op] [b] pos) (dB (dOp rd Ta Tb)) := by
  obtain ⟨r, h1, h2⟩ := h
  exact dt_cmp h1 h2 ha hb hm
theorem de_ch {op op' : CmpOp} (h : OpG X (compareOp op) rd) (h' : OpG X (compareOp op') rd') (ha : DE E X a Ta) (hb : DE E X b Tb) (hc : DE E X c Tc) (hm : lastMarks [op, op'] [b, c] = false := by with_unfolding_all rfl) : DE E X (.Compare a [op, op'] [b, c] pos) (dChain rd rd' Ta Tb Tc) := by
  obtain ⟨r, h1, h2⟩ := h
  obtain ⟨r', h1', h2'⟩ := h'
  exact de_chain h1 h1' h2 h2' ha hb hc hm
theorem dt_ch {op op' : CmpOp} (h : OpG X (compareOp op) rd) (h' : OpG X (compareOp op') rd') (ha : DE E X a Ta) (hb : DE E X b Tb) (hc : DE E X c Tc) (hm : lastMarks [op, op'] [b, c] = false := by with_unfolding_all rfl) : DT E X (.Compare a [op, op'] [b, c] pos) (dB (dChain rd rd' Ta Tb Tc)) := by
  obtain ⟨r, h1, h2⟩ := h
  obtain ⟨r', h1', h2'⟩ := h'
  exact dt_chain h1 h1' h2 h2' ha hb hc hm
theorem de_at (h : IxG X rd) (ha : DE E X a Ta) (hb : DE E X b Tb) (hs : PlainIx b) : DE E X (.Subscript a b pos) (dOp rd Ta Tb) := by
  obtain ⟨r, h1, h2⟩ := h
  exact de_ix h1 h2 ha hb hs
theorem de_cut {lo hi : Option Expr} {p2 : Pos} {Tl Th : TOD} (h : SlG X sd) (he : DE E X e Te) (hl : DO E X lo Tl) (hu : DO E X hi Th) : DE E X (.Subscript e (.Slice lo hi none p2) pos) (dSl sd Te Tl Th) := by
  obtain ⟨r, h1, h2⟩ := h
  exact de_slice h1 h2 he hl hu
theorem de_b {x : Str} {p : Pos} {id : String} {S : TAD} (h : CallG X (.builtin id) cd) (hg : Gl X x) (hm : X.mg x = none) (hv : bootBuiltins x = some (.builtin id)) (ha : DA E X (e :: es) S) (hn : x ≠ "__name__" := by decide) (hdb : (x == ("__debug__" : Str)) = false := by decide)
    (he : starEach (e :: es) X.env = (false, eval e X.env) :: starEach es X.env := by rfl) (hpl : (backTo pos (starEach es X.env)).any (·.1) = false := by rfl) : DE E X (.Call (.Name x p) (e :: es) [] pos) (dCB cd S) := by
  obtain ⟨r, h1, h2⟩ := h
  exact de_callB h1 h2 hg hm hv ha hn hdb he hpl
theorem de_ty {x : Str} {p : Pos} {id : String} {S : TAD} (h : CallG X (.type id) cd) (hg : Gl X x) (hm : X.mg x = none) (hv : bootBuiltins x = some (.type id)) (ha : DA E X (e :: es) S) (hn : x ≠ "__name__" := by decide) (hdb : (x == ("__debug__" : Str)) = false := by decide)
    (he : starEach (e :: es) X.env = (false, eval e X.env) :: starEach es X.env := by rfl) (hpl : (backTo pos (starEach es X.env)).any (·.1) = false := by rfl) : DE E X (.Call (.Name x p) (e :: es) [] pos) (dCB cd S) := by
  obtain ⟨r, h1, h2⟩ := h
  exact de_callTy h1 h2 hg hm hv ha hn hdb he hpl
/-! ### whole numbers -/
theorem ogI0 {f : Value → Value → Sem Value} {g : Int → Int → Int} (h : OpR X f (rI0 fun i j => .int (g i j))) : OpG X f (fun x y Q => ∃ i j, x = .int i ∧ y = .int j ∧ Q (.int (g i j))) :=
  ⟨_, h, fun G O H n x y v u Qd Q w d1 d2 ⟨i, j, e1, e2, q⟩ k => by
    subst e1; subst e2
    exact ⟨i, j, d1.int', d2.int', k _ _ H q w.refl (.int _)⟩⟩
theorem ogIC {f : Value → Value → Sem Value} {C : Int → Int → Prop} {g : Int → Int → Int} (h : OpR X f (rI C fun i j => .int (g i j))) : OpG X f (fun x y Q => ∃ i j, x = .int i ∧ y = .int j ∧ C i j ∧ Q (.int (g i j))) :=
  ⟨_, h, fun G O H n x y v u Qd Q w d1 d2 ⟨i, j, e1, e2, c, q⟩ k => by
    subst e1; subst e2
    exact ⟨i, j, d1.int', d2.int', c, k _ _ H q w.refl (.int _)⟩⟩
theorem ogB0 {f : Value → Value → Sem Value} {g : Int → Int → Bool} (h : OpR X f (rI0 fun i j => .bl (g i j))) : OpG X f (fun x y Q => ∃ i j, x = .int i ∧ y = .int j ∧ Q (.bool (g i j))) :=
  ⟨_, h, fun G O H n x y v u Qd Q w d1 d2 ⟨i, j, e1, e2, q⟩ k => by
    subst e1; subst e2
    exact ⟨i, j, d1.int', d2.int', k _ _ H q w.refl (.bl _)⟩⟩
theorem ogS {f : Value → Value → Sem Value} {g : Str → Str → Bool} (h : OpR X f (fun x y H Q => ∃ i j, x = .str i ∧ y = .str j ∧ Q (.bl (g i j)) H)) : OpG X f (fun x y Q => ∃ i j, x = .str i ∧ y = .str j ∧ Q (.bool (g i j))) :=
  ⟨_, h, fun G O H n x y v u Qd Q w d1 d2 ⟨i, j, e1, e2, q⟩ k => by
    subst e1; subst e2
    exact ⟨i, j, d1.str', d2.str', k _ _ H q w.refl (.bl _)⟩⟩
def rSub : RD2
  | .int i, .int j, Q => Q (.int (i - j))
  | _, _, _ => False
theorem og_sub : OpG X (binaryOp .Sub) rSub := (ogI0 op_sub).imp fun x y Q h => by
  cases x <;> cases y <;> first | exact h.elim | exact ⟨_, _, rfl, rfl, h⟩
def rMod : RD2
  | .int i, .int j, Q => 0 < j ∧ Q (.int (i % j))
  | _, _, _ => False
def rDiv : RD2
  | .int i, .int j, Q => (0 < j ∧ j < 1073741824) ∧ Q (.int (i / j))
  | _, _, _ => False
def rPow : RD2
  | .int i, .int j, Q => CPow i j ∧ Q (.int (i ^ j.toNat))
  | _, _, _ => False
theorem og_pow : OpG X (binaryOp .Pow) rPow := (ogIC op_pow).imp fun x y Q h => by
  cases x <;> cases y <;> first | exact h.elim | exact ⟨_, _, rfl, rfl, h.1, h.2⟩
/-! comparisons of whole numbers and texts -/
def rLt : RD2
  | .int i, .int j, Q => Q (.bool (decide (i < j)))
  | .str i, .str j, Q => Q (.bool (decide (i.cps.toList < j.cps.toList)))
  | _, _, _ => False
def rLe : RD2
  | .int i, .int j, Q => Q (.bool (decide (i ≤ j)))
  | .str i, .str j, Q => Q (.bool (!decide (j.cps.toList < i.cps.toList)))
  | _, _, _ => False
def rGt : RD2
  | .int i, .int j, Q => Q (.bool (decide (j < i)))
  | .str i, .str j, Q => Q (.bool (decide (j.cps.toList < i.cps.toList)))
  | _, _, _ => False
def rGe : RD2
  | .int i, .int j, Q => Q (.bool (decide (j ≤ i)))
  | .str i, .str j, Q => Q (.bool (!decide (i.cps.toList < j.cps.toList)))
  | _, _, _ => False
theorem og_lt : OpG X (compareOp .Lt) rLt := ((ogB0 op_lt).or (ogS op_lt_str)).imp fun x y Q h => by
  cases x <;> cases y <;> first | exact h.elim | exact .inl ⟨_, _, rfl, rfl, h⟩ | exact .inr ⟨_, _, rfl, rfl, h⟩
theorem og_le : OpG X (compareOp .LtE) rLe := ((ogB0 op_le).or (ogS op_le_str)).imp fun x y Q h => by
  cases x <;> cases y <;> first | exact h.elim | exact .inl ⟨_, _, rfl, rfl, h⟩ | exact .inr ⟨_, _, rfl, rfl, h⟩
theorem og_gt : OpG X (compareOp .Gt) rGt := ((ogB0 op_gt).or (ogS op_gt_str)).imp fun x y Q h => by
  cases x <;> cases y <;> first | exact h.elim | exact .inl ⟨_, _, rfl, rfl, h⟩ | exact .inr ⟨_, _, rfl, rfl, h⟩
theorem og_ge : OpG X (compareOp .GtE) rGe := ((ogB0 op_ge).or (ogS op_ge_str)).imp fun x y Q h => by
  cases x <;> cases y <;> first | exact h.elim | exact .inl ⟨_, _, rfl, rfl, h⟩ | exact .inr ⟨_, _, rfl, rfl, h⟩
/-! == of data -/
def goodD (d : PyData) : Bool := !d.hasDict && SeqAt.shaped d
def sc2 : PyData → PyData → Bool
  | .int _, .bool _ => false
  | .bool _, .int _ => false
  | .list _, _ => false
  | .tuple _, _ => false
  | .dict _, _ => false
  | _, .list _ => false
  | _, .tuple _ => false
  | _, .dict _ => false
  | _, _ => true
def rEqv : RD2 := fun x y Q => (sc2 x y = true ∨ (goodD x = true ∧ goodD y = true)) ∧ Q (.bool (PyData.eqv x y))
def rNev : RD2 := fun x y Q => (sc2 x y = true ∨ (goodD x = true ∧ goodD y = true)) ∧ Q (.bool (!PyData.eqv x y))
theorem good_of {d : PyData} (h : goodD d = true) : d.hasDict = false ∧ SeqAt.shaped d = true := by
  unfold goodD at h
  rw [Bool.and_eq_true, Bool.not_eq_true'] at h
  exact h
theorem sc2_of {K : PySem.W.Frag} {p : Addr} {H : Hp} {v u : V} {x y : PyData} (h : Dq K p H v x) (g : Dq K p H u y) (s : sc2 x y = true) : scal v u = true ∧ decide (v = u) = PyData.eqv x y := by
  cases x <;> first | (cases y <;> cases s; done) | skip
  all_goals (cases y <;> first | (cases s; done) | skip)
  all_goals first
    | (obtain rfl := h.none'; skip) | (obtain rfl := h.bool'; skip) | (obtain rfl := h.int'; skip) | (obtain rfl := h.str'; skip)
  all_goals first
    | (obtain rfl := g.none'; skip) | (obtain rfl := g.bool'; skip) | (obtain rfl := g.int'; skip) | (obtain rfl := g.str'; skip)
  all_goals refine ⟨rfl, ?_⟩
  all_goals first
    | (rw [dec_int]; simp [PyData.eqv]; done) | (rw [dec_bl]; simp [PyData.eqv]; done) | (rw [dec_str]; simp [PyData.eqv]; done) | (simp [PyData.eqv]; done)
theorem og_eq (hu : X.A.units + 64 < cLine) : OpG X (compareOp .Eq) rEqv := (OpG.or (rd := fun x y Q => sc2 x y = true ∧ Q (.bool (PyData.eqv x y))) (rd' := fun x y Q => (goodD x = true ∧ goodD y = true) ∧ Q (.bool (PyData.eqv x y)))
  ⟨_, op_eq, fun g O H n x y v u Qd Q w d1 d2 ⟨s, q⟩ k => by
    obtain ⟨a1, a2⟩ := sc2_of d1 d2 s
    exact ⟨a1, by rw [a2]; exact k _ _ H q w.refl (.bl _)⟩⟩
  ⟨_, op_eqD hu, fun g O H n x y v u Qd Q w d1 d2 ⟨⟨g1, g2⟩, q⟩ k => by
    obtain ⟨a1, a2⟩ := good_of g1
    obtain ⟨b1, b2⟩ := good_of g2
    exact ⟨x, y, dp_same (hid_same _ H) (d1.dp a1), dp_same (hid_same _ H) (d2.dp b1), a2, b2, k _ _ H q w.refl (.bl _)⟩⟩).imp fun x y Q ⟨c, q⟩ => by
  rcases c with c | c
  · exact .inl ⟨c, q⟩
  · exact .inr ⟨c, q⟩
theorem og_ne (hu : X.A.units + 64 < cLine) : OpG X (compareOp .NotEq) rNev := (OpG.or (rd := fun x y Q => sc2 x y = true ∧ Q (.bool (!PyData.eqv x y))) (rd' := fun x y Q => (goodD x = true ∧ goodD y = true) ∧ Q (.bool (!PyData.eqv x y)))
  ⟨_, op_ne, fun g O H n x y v u Qd Q w d1 d2 ⟨s, q⟩ k => by
    obtain ⟨a1, a2⟩ := sc2_of d1 d2 s
    exact ⟨a1, by rw [a2]; exact k _ _ H q w.refl (.bl _)⟩⟩
  ⟨_, op_neD hu, fun g O H n x y v u Qd Q w d1 d2 ⟨⟨g1, g2⟩, q⟩ k => by
    obtain ⟨a1, a2⟩ := good_of g1
    obtain ⟨b1, b2⟩ := good_of g2
    exact ⟨x, y, dp_same (hid_same _ H) (d1.dp a1), dp_same (hid_same _ H) (d2.dp b1), a2, b2, k _ _ H q w.refl (.bl _)⟩⟩).imp fun x y Q ⟨c, q⟩ => by
  rcases c with c | c
  · exact .inl ⟨c, q⟩
  · exact .inr ⟨c, q⟩
/-! is None -/
def isNoneD : PyData → Bool
  | .none => true
  | _ => false
def rIsN : RD2
  | x, .none, Q => Q (.bool (isNoneD x))
  | _, _, _ => False
def rNotN : RD2
  | x, .none, Q => Q (.bool (!isNoneD x))
  | _, _, _ => False
theorem isN_of {K : PySem.W.Frag} {p : Addr} {H : Hp} {v : V} {x : PyData} (h : Dq K p H v x) : decide (v = .non) = isNoneD x := by
  cases h <;> first | rfl | exact decide_eq_false (fun z => nomatch z) | skip
  rename_i e
  rw [e]
  exact decide_eq_false (fun z => nomatch z)
theorem og_is : OpG X (compareOp .Is) rIsN := ⟨_, op_isN, fun g O H n x y v u Qd Q w d1 d2 q k => by
  cases y <;> first | exact q.elim | skip
  refine ⟨d2.none', k _ _ H q w.refl ?_⟩
  rw [isN_of d1]
  exact .bl _⟩
theorem og_isnot : OpG X (compareOp .IsNot) rNotN := ⟨_, op_notN, fun g O H n x y v u Qd Q w d1 d2 q k => by
  cases y <;> first | exact q.elim | skip
  refine ⟨d2.none', k _ _ H q w.refl ?_⟩
  rw [isN_of d1]
  exact .bl _⟩
/-! ### sums -/
def rCatF (K : PySem.W.Frag) : R2 := fun x y H Q => ∃ a b xs ys, x = .ref a ∧ y = .ref b ∧ SqT K H a xs ∧ SqT K H b ys ∧ xs.length + ys.length ≤ sizeLine ∧
  (xs = [] → Q (.ref b) H) ∧ (xs ≠ [] → ys = [] → Q (.ref a) H) ∧ (xs ≠ [] → ys ≠ [] → ∀ (p : Addr) (o : Obj), H p = none → o.cls = .type "tuple" → o.dict = none → Q (.ref p) (upd H p (.frz o (.tup (xs ++ ys)))))
theorem op_catF : OpR X (binaryOp .Add) (rCatF X.K) := by
  intro pins s σ H x y v u Q I rx ry h
  obtain ⟨a, b, xs, ys, rfl, rfl, ha, hb, hz, q0, q1, q2⟩ := h
  by_cases hx : xs = []
  · subst hx
    cases rx
    cases ry
    obtain ⟨its, r1, p1, _⟩ := I.tuple ha
    obtain ⟨its2, r2, p2, _⟩ := I.tuple hb
    cases r1
    exact cat_tup0 p1 p2 ⟨.ref b, H, I, rfl, q0 rfl⟩
  · cases rx
    cases ry
    obtain ⟨its, r1, p1, _⟩ := I.tuple ha
    obtain ⟨its2, r2, p2, _⟩ := I.tuple hb
    have rr := r1.append r2
    refine HT.cat_tup p1 p2 (fun z => hx (r1.nil_iff.mp z)) (fun z => ⟨.ref a, H, I, rfl, q1 hx (r2.nil_iff.mp z)⟩) (fun z => ?_) (by rw [← r1.length, ← r2.length]; exact hz)
    refine ⟨.ref s.heap.objs.size, _, I.laid (t' := s.toks) (o := .frz { cls := .type "tuple", data := .seq (its ++ its2).toArray } (.tup (xs ++ ys))) (fun b ob q => Heap.get?_push_of_some _ q) (Nat.le_refl _) ?_, rfl, q2 hx (fun w => z (r2.nil_iff.mpr w)) _ _ (I.hok.fresh (Nat.le_refl _)) rfl rfl⟩
    exact ⟨Heap.get?_push_size _ rfl, by rw [List.length_append]; exact hz, _, rr, IsTup.new _ _⟩
def rSlF (K : PySem.W.Frag) : V → Option Int → Option Int → Hp → VK → Prop := fun x lo hi H Q => ∃ a xs, x = .ref a ∧ SqT K H a xs ∧
  (HT.sIx xs.length 0 lo = 0 ∧ HT.sIx xs.length xs.length hi = xs.length → Q (.ref a) H) ∧ (¬ (HT.sIx xs.length 0 lo = 0 ∧ HT.sIx xs.length xs.length hi = xs.length) → ∀ (p : Addr) (o : Obj), H p = none → o.cls = .type "tuple" → o.dict = none → Q (.ref p) (upd H p (.frz o (.tup (cutV xs lo hi)))))
theorem sl_tupF : L2.SlR X (rSlF X.K) := by
  intro pins s σ H x v vl vu lo hi sl Q I rx hs pl pu h
  obtain ⟨a, xs, rfl, hx, q1, q2⟩ := h
  cases rx
  obtain ⟨its, r, ht, hz⟩ := I.tuple hx
  have hlen : its.toArray.size = xs.length := by rw [List.size_toArray]; exact r.length.symm
  refine ⟨"tuple", _, PyProof.Rows.slot_tuple_getitem.lookup, ht.typeIs, ?_⟩
  by_cases hw : HT.sIx xs.length 0 lo = 0 ∧ HT.sIx xs.length xs.length hi = xs.length
  · exact getItem_tuple_whole ht hs pl pu (by rw [hlen]; exact hw) ⟨.ref a, H, I, rfl, q1 hw⟩
  · have rr := (r.drop (HT.sIx xs.length 0 lo)).take (HT.sIx xs.length xs.length hi - HT.sIx xs.length 0 lo)
    refine HT.getItem_tuple_cut ht hs pl pu (by rw [hlen]; exact hw) ?_ (by rw [hlen]; exact hz)
    rw [hlen]
    refine ⟨.ref s.heap.objs.size, _, I.laid (t' := s.toks) (o := .frz { cls := .type "tuple", data := .seq ((its.drop (HT.sIx xs.length 0 lo)).take (HT.sIx xs.length xs.length hi - HT.sIx xs.length 0 lo)).toArray } (.tup (cutV xs lo hi))) (fun b ob q => Heap.get?_push_of_some _ q) (Nat.le_refl _) ?_, rfl, q2 hw _ _ (I.hok.fresh (Nat.le_refl _)) rfl rfl⟩
    exact ⟨Heap.get?_push_size _ rfl, Nat.le_trans (cutV_length xs lo hi) hz, _, rr, IsTup.new _ _⟩
theorem og_addS : OpG X (binaryOp .Add) (fun x y Q => ∃ i j, x = .str i ∧ y = .str j ∧ i.length + j.length ≤ sizeLine ∧ Q (.str (i ++ j))) := ⟨_, op_add_str, fun g O H n x y v u Qd Q w d1 d2 ⟨i, j, e1, e2, l, q⟩ k => by
  subst e1; subst e2
  refine ⟨i, j, d1.str', d2.str', l, k _ _ H q w.refl (.str _ ?_)⟩
  show (i.cps ++ j.cps).size ≤ sizeLine
  rw [Array.size_append]
  exact l⟩
theorem og_addL : OpG X (binaryOp .Add) (fun x y Q => ∃ i j, x = .list i ∧ y = .list j ∧ i.length + j.length ≤ sizeLine ∧ Q (.list (i ++ j))) := ⟨_, op_cat, fun g O H n x y v u Qd Q w d1 d2 ⟨i, j, e1, e2, l, q⟩ k => by
  subst e1; subst e2
  obtain ⟨a, xs, rfl, h1, h2⟩ := d1.listP
  obtain ⟨b, ys, rfl, h3, h4⟩ := d2.listP
  refine ⟨a, b, xs, ys, rfl, rfl, (hid_some.mp h1).2, (hid_some.mp h3).2, by rw [h2.length, h4.length]; exact l, fun p hp => ?_⟩
  have e2 := w.new hp (.lst (xs ++ ys))
  exact k _ _ _ q e2 (.lst (hid_new (w.fresh hp)) ((h2.same e2.hid).append (h4.same e2.hid)))⟩
theorem og_addT : OpG X (binaryOp .Add) (fun x y Q => ∃ i j, x = .tuple i ∧ y = .tuple j ∧ i.length + j.length ≤ sizeLine ∧ Q (.tuple (i ++ j))) := ⟨_, op_catF, fun g O H n x y v u Qd Q w d1 d2 ⟨i, j, e1, e2, l, q⟩ k => by
  subst e1; subst e2
  obtain ⟨a, xs, rfl, h1, h2⟩ := d1.tupleP
  obtain ⟨b, ys, rfl, h3, h4⟩ := d2.tupleP
  refine ⟨a, b, xs, ys, rfl, rfl, (h1.same (hid_same _ H)).sq, (h3.same (hid_same _ H)).sq, by rw [h2.length, h4.length]; exact l, fun z => ?_, fun z z' => ?_, fun z z' p o hp c1 c2 => ?_⟩
  · subst z
    cases h2
    exact k _ _ _ q w.refl (.tup h3 h4)
  · subst z'
    cases h4
    rw [List.append_nil] at q
    exact k _ _ _ q w.refl (.tup h1 h2)
  · have e2 := w.new hp (.frz o (.tup (xs ++ ys)))
    exact k _ _ _ q e2 (.tup ⟨o, hid_new (w.fresh hp), c1, c2⟩ ((h2.same e2.hid).append (h4.same e2.hid)))⟩
def rAdd : RD2
  | .int i, .int j, Q => Q (.int (i + j))
  | .str i, .str j, Q => i.length + j.length ≤ sizeLine ∧ Q (.str (i ++ j))
  | .list i, .list j, Q => i.length + j.length ≤ sizeLine ∧ Q (.list (i ++ j))
  | .tuple i, .tuple j, Q => i.length + j.length ≤ sizeLine ∧ Q (.tuple (i ++ j))
  | _, _, _ => False
theorem og_add : OpG X (binaryOp .Add) rAdd := ((ogI0 op_add).or (og_addS.or (og_addL.or og_addT))).imp fun x y Q h => by
  cases x <;> cases y <;> first | exact h.elim | exact .inl ⟨_, _, rfl, rfl, h⟩ | exact .inr (.inl ⟨_, _, rfl, rfl, h⟩) | exact .inr (.inr (.inl ⟨_, _, rfl, rfl, h⟩)) | exact .inr (.inr (.inr ⟨_, _, rfl, rfl, h⟩))
/-! ### items and slices -/
def rAt : RD2
  | .list ds, .int i, Q => ∃ d, atI ds i = some d ∧ Q d
  | .tuple ds, .int i, Q => ∃ d, atI ds i = some d ∧ Q d
  | .str z, .int i, Q => ∃ c, atI z.cps.toList i = some c ∧ Q (.str ⟨#[c]⟩)
  | _, _, _ => False
theorem DqAll.atI {K : PySem.W.Frag} {p : Addr} {H : Hp} {xs : List V} {ds : List PyData} (h : DqAll K p H xs ds) {i : Int} {d : PyData} (e : L2.atI ds i = some d) : ∃ v, L2.atI xs i = some v ∧ Dq K p H v d := by
  unfold L2.atI at e ⊢
  rw [h.length]
  cases z : ixN ds.length i with
  | none => rw [z] at e; cases e
  | some j =>
    rw [z] at e
    exact h.get e
theorem ig_l : IxG X (fun x y Q => ∃ ds i d, x = .list ds ∧ y = .int i ∧ atI ds i = some d ∧ Q d) := ⟨_, ix_list, fun g O H n x y v u Qd Q w d1 d2 ⟨ds, i, d, e1, e2, ed, q⟩ k => by
  subst e1; subst e2
  obtain ⟨a, xs, rfl, h1, h2⟩ := d1.list'
  obtain ⟨v, hv, hd⟩ := h2.atI ed
  exact ⟨a, xs, i, v, rfl, d2.int', (hid_same _ H).seq h1, hv, k _ _ H q w.refl hd⟩⟩
theorem ig_t : IxG X (fun x y Q => ∃ ds i d, x = .tuple ds ∧ y = .int i ∧ atI ds i = some d ∧ Q d) := ⟨_, ix_tup, fun g O H n x y v u Qd Q w d1 d2 ⟨ds, i, d, e1, e2, ed, q⟩ k => by
  subst e1; subst e2
  obtain ⟨a, xs, rfl, h1, h2⟩ := d1.tuple'
  obtain ⟨v, hv, hd⟩ := h2.atI ed
  exact ⟨a, xs, i, v, rfl, d2.int', (hid_same _ H).tup h1, hv, k _ _ H q w.refl hd⟩⟩
theorem ig_s : IxG X (fun x y Q => ∃ z i c, x = .str z ∧ y = .int i ∧ atI z.cps.toList i = some c ∧ Q (.str ⟨#[c]⟩)) := ⟨_, ix_str, fun g O H n x y v u Qd Q w d1 d2 ⟨z, i, c, e1, e2, ec, q⟩ k => by
  subst e1; subst e2
  exact ⟨z, i, c, d1.str', d2.int', d1.strLen, ec, k _ _ H q w.refl (.str _ (by show 1 ≤ sizeLine; decide))⟩⟩
theorem ig : IxG X rAt := (ig_l.or (ig_t.or ig_s)).imp fun x y Q h => by
  cases x <;> cases y <;> first | exact h.elim | skip
  · obtain ⟨c, e, q⟩ := h; exact .inr (.inr ⟨_, _, c, rfl, rfl, e, q⟩)
  · obtain ⟨c, e, q⟩ := h; exact .inl ⟨_, _, c, rfl, rfl, e, q⟩
  · obtain ⟨c, e, q⟩ := h; exact .inr (.inl ⟨_, _, c, rfl, rfl, e, q⟩)
def rCut : RDS
  | .list ds, l, u, Q => Q (.list (cutD ds l u))
  | .tuple ds, l, u, Q => Q (.tuple (cutD ds l u))
  | .str z, l, u, Q => Q (.str (cutS z l u))
  | _, _, _, _ => False
where cutD (ds : List PyData) (lo hi : Option Int) : List PyData := (ds.drop (HT.sIx ds.length 0 lo)).take (HT.sIx ds.length ds.length hi - HT.sIx ds.length 0 lo)
theorem DqAll.cut {K : PySem.W.Frag} {p : Addr} {H : Hp} {xs : List V} {ds : List PyData} (h : DqAll K p H xs ds) (lo hi : Option Int) : DqAll K p H (cutV xs lo hi) (rCut.cutD ds lo hi) := by
  unfold cutV rCut.cutD
  rw [h.length]
  exact (h.drop _).take _
theorem sg_l : SlG X (fun x l u Q => ∃ ds, x = .list ds ∧ Q (.list (rCut.cutD ds l u))) := ⟨_, sl_list, fun g O H n x lo hi v Qd Q w d1 ⟨ds, e1, q⟩ k => by
  subst e1
  obtain ⟨a, xs, rfl, h1, h2⟩ := d1.list'
  refine ⟨a, xs, rfl, (hid_same _ H).seq h1, fun p hp => ?_⟩
  have e2 := w.new hp (.lst (cutV xs lo hi))
  exact k _ _ _ q e2 (.lst (hid_new (w.fresh hp)) ((h2.same e2.hid).cut lo hi))⟩
theorem sg_t : SlG X (fun x l u Q => ∃ ds, x = .tuple ds ∧ Q (.tuple (rCut.cutD ds l u))) := ⟨_, sl_tupF, fun g O H n x lo hi v Qd Q w d1 ⟨ds, e1, q⟩ k => by
  subst e1
  obtain ⟨a, xs, rfl, h1, h2⟩ := d1.tupleP
  refine ⟨a, xs, rfl, (h1.same (hid_same _ H)).sq, fun ⟨z1, z2⟩ => ?_, fun _ p o hp c1 c2 => ?_⟩
  · have ec : rCut.cutD ds lo hi = ds := by
      unfold rCut.cutD
      rw [← h2.length, z1, z2, List.drop_zero, Nat.sub_zero, h2.length, List.take_length]
    rw [ec] at q
    exact k _ _ _ q w.refl (.tup h1 h2)
  · have e2 := w.new hp (.frz o (.tup (cutV xs lo hi)))
    exact k _ _ _ q e2 (.tup ⟨o, hid_new (w.fresh hp), c1, c2⟩ ((h2.same e2.hid).cut lo hi))⟩
theorem cutS_le (z : Str) (lo hi : Option Int) : (cutS z lo hi).length ≤ z.length := by
  show (cutS z lo hi).cps.size ≤ z.cps.size
  unfold cutS
  rw [List.size_toArray, List.length_take, List.length_drop, Array.length_toList]
  omega
theorem sg_s : SlG X (fun x l u Q => ∃ z, x = .str z ∧ Q (.str (cutS z l u))) := ⟨_, sl_str, fun g O H n x lo hi v Qd Q w d1 ⟨z, e1, q⟩ k => by
  subst e1
  exact ⟨z, d1.str', d1.strLen, k _ _ H q w.refl (.str _ (Nat.le_trans (cutS_le z lo hi) d1.strLen))⟩⟩
theorem sg : SlG X rCut := (sg_l.or (sg_t.or sg_s)).imp fun x l u Q h => by
  cases x <;> first | exact h.elim | exact .inr (.inr ⟨_, rfl, h⟩) | exact .inl ⟨_, rfl, h⟩ | exact .inr (.inl ⟨_, rfl, h⟩)
end
end Kd
namespace Kd
open PySem PySem.Spec PyProof.Rows L2 Kb
theorem cg_of {X : Cx} {fv : Value} {r : List V → Hp → VK → Prop} {cd : RDN} (h : CallR X fv r) (hd : CallD X.K r cd) : CallG X fv cd := ⟨r, h, hd⟩
section
variable {X : Cx}
theorem DqAll.one {K : PySem.W.Frag} {p : Addr} {H : Hp} {vs : List V} {d : PyData} (h : DqAll K p H vs [d]) : ∃ v, vs = [v] ∧ Dq K p H v d := by
  cases h with
  | cons h1 h2 => cases h2; exact ⟨_, rfl, h1⟩
theorem DqAll.two {K : PySem.W.Frag} {p : Addr} {H : Hp} {vs : List V} {d e : PyData} (h : DqAll K p H vs [d, e]) : ∃ v u, vs = [v, u] ∧ Dq K p H v d ∧ Dq K p H u e := by
  cases h with
  | cons h1 h2 =>
    obtain ⟨u, rfl, h3⟩ := h2.one
    exact ⟨_, _, rfl, h1, h3⟩
/-! ### len, abs, min, max -/
def rLen : RDN
  | [.str z], Q => Q (.int z.length)
  | [.list ds], Q => Q (.int ds.length)
  | [.tuple ds], Q => Q (.int ds.length)
  | _, _ => False
theorem cg_len : CallG X (.builtin "len") rLen := ((cg_of (cd := fun xs Q => ∃ ds, (xs = [.list ds] ∨ xs = [.tuple ds]) ∧ Q (.int ds.length)) call_len_seq fun g O H n xs vs Qd Q w d ⟨ds, e, q⟩ k => by
    rcases e with rfl | rfl
    · obtain ⟨v, rfl, h⟩ := d.one
      obtain ⟨a, us, rfl, h1, h2⟩ := h.list'
      refine ⟨a, us, rfl, .inl ((hid_same _ H).seq h1), ?_⟩
      rw [h2.length]
      exact k _ _ H q w.refl (.int _)
    · obtain ⟨v, rfl, h⟩ := d.one
      obtain ⟨a, us, rfl, h1, h2⟩ := h.tuple'
      refine ⟨a, us, rfl, .inr ((hid_same _ H).tup h1), ?_⟩
      rw [h2.length]
      exact k _ _ H q w.refl (.int _)).or
  (cg_of (cd := fun xs Q => ∃ z, xs = [.str z] ∧ Q (.int z.length)) call_len_str fun g O H n xs vs Qd Q w d ⟨z, e, q⟩ k => by
    subst e
    obtain ⟨v, rfl, h⟩ := d.one
    exact ⟨z, by rw [h.str'], h.strLen, k _ _ H q w.refl (.int _)⟩)).imp fun xs Q h => by
  unfold rLen at h
  split at h
  · exact .inr ⟨_, rfl, h⟩
  · exact .inl ⟨_, .inl rfl, h⟩
  · exact .inl ⟨_, .inr rfl, h⟩
  · exact h.elim
def rAbs : RDN
  | [.int i], Q => Q (.int (if i < 0 then -i else i))
  | _, _ => False
/-! lists of whole numbers, of truth values -/
theorem strs_of {K : PySem.W.Frag} {p : Addr} {H : Hp} : ∀ {ns : List Str} {vs : List V}, DqAll K p H vs (ns.map PyData.str) → vs = ns.map V.str
  | [], _, h => by cases h; rfl
  | n :: ns, _, h => by
    cases h with
    | cons h1 h2 => rw [List.map_cons, h1.str', strs_of h2]
def rMin : RDN := fun xs Q => (∃ i j : Int, xs = [.int i, .int j] ∧ Q (.int (min i j))) ∨ ∃ ns : List Int, xs = [.list (ns.map PyData.int)] ∧ 0 < ns.length ∧ ∀ m, m ∈ ns → (∀ y, y ∈ ns → m ≤ y) → Q (.int m)
def rMax : RDN := fun xs Q => (∃ i j : Int, xs = [.int i, .int j] ∧ Q (.int (max i j))) ∨ ∃ ns : List Int, xs = [.list (ns.map PyData.int)] ∧ 0 < ns.length ∧ ∀ m, m ∈ ns → (∀ y, y ∈ ns → y ≤ m) → Q (.int m)
/-! ### tuple, list, str, int -/
def rTupOf : RDN
  | [.list ds], Q => Q (.tuple ds)
  | [.tuple ds], Q => Q (.tuple ds)
  | _, _ => False
theorem cg_tuple : CallG X (.type "tuple") rTupOf := ((cg_of (cd := fun xs Q => ∃ ds, xs = [.list ds] ∧ Q (.tuple ds)) call_tupF fun g O H n xs vs Qd Q w d ⟨ds, e, q⟩ k => by
    subst e
    obtain ⟨v, rfl, h⟩ := d.one
    obtain ⟨a, us, rfl, h1, h2⟩ := h.list'
    refine ⟨a, us, rfl, (hid_same _ H).seq h1, fun l o hl c1 c2 => ?_⟩
    have e2 := w.new hl (.frz o (.tup us))
    exact k _ _ _ q e2 (.tup ⟨o, hid_new (w.fresh hl), c1, c2⟩ (h2.same e2.hid))).or
  (cg_of (cd := fun xs Q => ∃ ds, xs = [.tuple ds] ∧ Q (.tuple ds)) call_tupleT fun g O H n xs vs Qd Q w d ⟨ds, e, q⟩ k => by
    subst e
    obtain ⟨v, rfl, h⟩ := d.one
    obtain ⟨a, us, rfl, h1, h2⟩ := h.tuple'
    exact ⟨a, us, rfl, (hid_same _ H).tup h1, k _ _ H q w.refl h⟩)).imp fun xs Q h => by
  unfold rTupOf at h
  split at h
  · exact .inl ⟨_, rfl, h⟩
  · exact .inr ⟨_, rfl, h⟩
  · exact h.elim
def rListOf : RDN
  | [.list ds], Q => Q (.list ds)
  | [.tuple ds], Q => Q (.list ds)
  | [.str z], Q => Q (.list (sgD z))
  | _, _ => False
theorem call_str_str' : CallR X (.type "str") (fun xs H Q => ∃ a, xs = [.str a] ∧ Q (.str a) H) := by
  intro pins s σ H xs us Q I r h
  obtain ⟨a, rfl, q⟩ := h
  obtain ⟨u, rfl, t, rfl⟩ := vals1 r
  exact PySem.P.str_of_str ⟨.str _, H, I, ⟨_, rfl⟩, q⟩
def rStrOf : RDN
  | [.str z], Q => Q (.str z)
  | [.int i], Q => i.natAbs.log2 < 1920 ∧ (toString i).length ≤ sizeLine ∧ Q (.str (toString i))
  | _, _ => False
theorem cg_str : CallG X (.type "str") rStrOf := ((cg_of (cd := fun xs Q => ∃ z, xs = [.str z] ∧ Q (.str z)) call_str_str' fun g O H n xs vs Qd Q w d ⟨z, e, q⟩ k => by
    subst e
    obtain ⟨v, rfl, h⟩ := d.one
    exact ⟨z, by rw [h.str'], k _ _ H q w.refl (.str _ h.strLen)⟩).or
  (cg_of (cd := fun xs Q => ∃ i, xs = [.int i] ∧ i.natAbs.log2 < 1920 ∧ (toString i).length ≤ sizeLine ∧ Q (.str (toString i))) call_str_int fun g O H n xs vs Qd Q w d ⟨i, e, hl, hl2, q⟩ k => by
    subst e
    obtain ⟨v, rfl, h⟩ := d.one
    refine ⟨i, by rw [h.int'], hl, k _ _ H q w.refl (.str _ ?_)⟩
    rw [PySem.ofString_length]
    exact hl2)).imp fun xs Q h => by
  unfold rStrOf at h
  split at h
  · exact .inl ⟨_, rfl, h⟩
  · exact .inr ⟨_, rfl, h⟩
  · exact h.elim
/-! ### repr -/
/-! ### sorted -/
def rSortedP (K : PySem.W.Frag) : List V → Hp → VK → Prop := fun vs H Q => ∃ (a : Addr) (ps : List (V × PyData)), vs = [V.ref a] ∧ SqL K H a (ps.map (·.1)) ∧
  (∀ p ∈ ps, Dp K H p.1 p.2) ∧ PySem.W.AllAlike (ps.map (·.2)) ∧ PySem.W.Sortable (ps.map (·.2)) ∧ (∀ p ∈ ps, p.2.depth ≤ 60) ∧
  ∀ p, H p = none → Q (.ref p) (upd H p (.lst ((ps.mergeSort (PySem.W.dataLe false (fun p : V × PyData => p.2))).map (·.1))))
theorem each_valsP : ∀ {ps : List (V × PyData)} {its : List Value}, Vals (ps.map (·.1)) its → PySem.W.EachIs (fun v (p : V × PyData) => RelV p.1 v) its ps
  | [], _, h => by cases h; exact .nil
  | p :: ps, _, h => by
    cases h with
    | cons h r => exact .cons h (each_valsP r)
theorem valsP_each : ∀ {ps : List (V × PyData)} {its : List Value}, PySem.W.EachIs (fun v (p : V × PyData) => RelV p.1 v) its ps → Vals (ps.map (·.1)) its
  | _, _, .nil => .nil
  | _, _, .cons h r => .cons h (valsP_each r)
theorem each_readsP {pins : List (Addr × Obj)} {σ : L2.St} {H : Hp} {s : Shared} (I : Inv X pins σ H s) : ∀ {ps : List (V × PyData)} {its : List Value}, Vals (ps.map (·.1)) its → (∀ p ∈ ps, Dp X.K H p.1 p.2) →
    PySem.W.EachIs (fun v (p : V × PyData) => ∃ as, Reads s.heap v p.2 as) its ps
  | [], _, h, _ => by cases h; exact .nil
  | p :: ps, _, h, hd => by
    cases h with
    | cons h r => exact .cons (Dp.reads I _ _ _ (hd p List.mem_cons_self) h) (each_readsP I r fun x hx => hd x (List.mem_cons_of_mem _ hx))
theorem cr_sortedP (hu : X.A.units + 64 < cLine) : CallR X (.builtin "sorted") (rSortedP X.K) := by
  intro pins s σ H vs us Q I r h
  obtain ⟨a, ps, rfl, hs, hd, hal, hk, hdp, q⟩ := h
  obtain ⟨its, rv, hl, hz⟩ := I.list hs
  rw [List.length_map] at hz
  rw [Vals.ref1 r]
  refine PySem.W.sorted_data (bs := ps) (enc := fun p : V × PyData => p.2) (R := fun v (p : V × PyData) => RelV p.1 v) hl.isList (each_valsP rv) (each_readsP I rv hd) hal hk hz (fun b hb => ?_) (fun out ho he => ?_)
  · have := hdp b hb
    omega
  · obtain ⟨ep, he'⟩ := PyProof.Rows.sortedAll_at s.heap its out.toArray
    have hlen : ((ps.mergeSort (PySem.W.dataLe false (fun p : V × PyData => p.2))).map (·.1)).length ≤ sizeLine := by
      rw [List.length_map, List.length_mergeSort]
      exact hz
    have I1 : Inv X pins σ (upd H (s.heap.objs.size + 1) (.lst ((ps.mergeSort (PySem.W.dataLe false (fun p : V × PyData => p.2))).map (·.1)))) { s with heap := PyProof.Rows.sortedAll s.heap its out.toArray } :=
      I.laid (t' := s.toks) (fun _ _ => PyProof.Rows.sortedAll_old) (Nat.le_succ _) ⟨hlen, out, ep, valsP_each he, by simpa using he'⟩
    exact ⟨.ref _, _, I1, rfl, q _ (I.hok.fresh (Nat.le_succ _))⟩
/-- the order of data -/
def leD : PyData → PyData → Bool := PySem.W.dataLe false (fun d : PyData => d)
theorem DqAll.pairs {K : PySem.W.Frag} {p : Addr} {H : Hp} : ∀ {xs : List V} {ds : List PyData}, DqAll K p H xs ds → ∃ ps : List (V × PyData), ps.map (·.1) = xs ∧ ps.map (·.2) = ds ∧ ∀ q ∈ ps, Dq K p H q.1 q.2
  | _, [], h => by cases h; exact ⟨[], rfl, rfl, fun _ h => nomatch h⟩
  | _, d :: ds, h => by
    cases h with
    | cons h1 h2 =>
      obtain ⟨ps, e1, e2, hp⟩ := DqAll.pairs h2
      refine ⟨(_, d) :: ps, by rw [List.map_cons, e1], by rw [List.map_cons, e2], fun q hq => ?_⟩
      rcases List.mem_cons.mp hq with rfl | hq
      · exact h1
      · exact hp q hq
theorem dqAll_of_pairs {K : PySem.W.Frag} {p : Addr} {H : Hp} : ∀ {ps : List (V × PyData)}, (∀ q ∈ ps, Dq K p H q.1 q.2) → DqAll K p H (ps.map (·.1)) (ps.map (·.2))
  | [], _ => .nil
  | q :: ps, h => .cons (h q List.mem_cons_self) (dqAll_of_pairs fun x hx => h x (List.mem_cons_of_mem _ hx))
def rSorted' : RDN
  | [.list ds], Q => (PySem.W.AllAlike ds ∧ PySem.W.Sortable ds ∧ ∀ d ∈ ds, d.depth ≤ 60 ∧ d.hasDict = false) ∧ Q (.list (ds.mergeSort leD))
  | _, _ => False
theorem cg_sorted (hu : X.A.units + 64 < cLine) : CallG X (.builtin "sorted") rSorted' := cg_of (cr_sortedP hu) fun g O H n xs vs Qd Q w d q k => by
  unfold rSorted' at q
  split at q
  · rename_i ds
    obtain ⟨v, rfl, h⟩ := d.one
    obtain ⟨⟨hal, hso, hdp⟩, q⟩ := q
    obtain ⟨a, us, rfl, h1, h2⟩ := h.list'
    obtain ⟨ps, e1, e2, hp⟩ := h2.pairs
    rw [← e1] at h1
    rw [← e2] at hal hso hdp
    refine ⟨a, ps, rfl, (hid_same _ H).seq h1, fun p hp' => Kb.dp_same (hid_same _ H) ((hp p hp').dp (hdp p.2 (List.mem_map.mpr ⟨p, hp', rfl⟩)).2), hal, hso, fun p hp' => (hdp p.2 (List.mem_map.mpr ⟨p, hp', rfl⟩)).1, fun l hl => ?_⟩
    have x2 := w.new hl (.lst ((ps.mergeSort (PySem.W.dataLe false (fun p : V × PyData => p.2))).map (·.1)))
    refine k _ _ _ q x2 (.lst (hid_new (w.fresh hl)) ?_)
    have em : ds.mergeSort leD = (ps.mergeSort (PySem.W.dataLe false (fun p : V × PyData => p.2))).map (·.2) := by
      rw [← e2]
      exact (List.map_mergeSort (f := fun p : V × PyData => p.2) (r := PySem.W.dataLe false (fun p : V × PyData => p.2)) (s := leD) (l := ps) (fun a _ b _ => rfl)).symm
    rw [em]
    refine dqAll_of_pairs fun q hq => (hp q ?_).same x2.hid
    exact (List.mergeSort_perm _ _).mem_iff.mp hq
  · exact q.elim
end
end Kd
namespace Kd
open PySem PySem.Spec PyProof.Rows L2 Kb
section
variable {X : Cx} {E : XK} {a b c e o : Expr} {es : List Expr} {Ta Tb Tc Te : TD} {pos : Pos}
/-! ### products -/
def rMul : RD2
  | .int i, .int j, Q => CMul i j ∧ Q (.int (i * j))
  | .list ds, .int k, Q => (-(2 ^ 63) ≤ k ∧ k < 2 ^ 63 ∧ ds.length * k.toNat ≤ sizeLine) ∧ Q (.list (List.replicate k.toNat ds).flatten)
  | .str z, .int k, Q => (2 ≤ k ∧ k ≤ 1000 ∧ 1 ≤ z.length ∧ z.length ≤ 1000) ∧ Q (.str (repS k.toNat z))
  | _, _, _ => False
theorem DqAll.rep {K : PySem.W.Frag} {p : Addr} {H : Hp} {xs : List V} {ds : List PyData} (h : DqAll K p H xs ds) : ∀ n, DqAll K p H (List.replicate n xs).flatten (List.replicate n ds).flatten
  | 0 => .nil
  | n + 1 => by
    rw [List.replicate_succ, List.replicate_succ, List.flatten_cons, List.flatten_cons]
    exact h.append (DqAll.rep h n)
theorem flat_len {α : Type} (xs : List α) : ∀ n, ((List.replicate n xs).flatten).length = n * xs.length
  | 0 => by simp
  | n + 1 => by rw [List.replicate_succ, List.flatten_cons, List.length_append, flat_len xs n, Nat.succ_mul, Nat.add_comm]
/-- [x] * n as an own list -/
def dRepF (S : TAD) (Tb : TD) : TAD := fun ρ n Q X => S ρ n (fun ds n1 => ds.length ≤ sizeLine ∧ Tb ρ n1 (fun y n2 => ∃ k : Int, y = .int k ∧ (-(2 ^ 63) ≤ k ∧ k < 2 ^ 63 ∧ ds.length * k.toNat ≤ sizeLine) ∧ Q (List.replicate k.toNat ds).flatten n2) X) X
theorem df_rep {S : TAD} {p1 : Pos} (ha : DA E X es S) (hb : DE E X b Tb) : DF E X (.BinOp (.List es p1) .Mult b pos) (dRepF S Tb) :=
  pe_weak (pe_op op_rep (de_lst ha) hb) fun σ H Q ⟨F, O, ρ, n, Qd, Xd, R, t, mq, mx⟩ => by
    refine ⟨F, _, ρ, n, fun d n1 => (match d with | .list ds => Tb ρ n1 (fun y n2 => ∃ k : Int, y = .int k ∧ (-(2 ^ 63) ≤ k ∧ k < 2 ^ 63 ∧ ds.length * k.toNat ≤ sizeLine) ∧ Qd (List.replicate k.toNat ds).flatten n2) Xd | _ => False), Xd, R, t, fun x n1 v H1 q1 e1 d1 => ?_, mx⟩
    · cases x <;> first | exact q1.elim | skip
      rename_i ds
      refine ⟨F, _, ρ, n1, _, Xd, R.ext e1, q1, fun y n2 u H2 ⟨k, ek, ⟨k1, k2, k3⟩, q2⟩ e2 d2 => ?_, mx.step e1⟩
      subst ek
      have d1' := d1.same e2.hid
      obtain ⟨a, xs, rfl, h1, h2⟩ := d1'.listP
      refine ⟨a, k, xs, rfl, d2.int', (hid_some.mp h1).2, k1, k2, by rw [h2.length]; exact k3, fun p hp => ?_⟩
      have w := ((R.ext e1).ext e2).rw.wd
      have e3 := Ext.push w hp (.lst (List.replicate k.toNat xs).flatten)
      refine mq _ n2 p _ _ q2 ⟨(e1.trans e2).none hp, addO_self, w.dom0 hp⟩ ((e1.trans e2).trans e3) upd_same ?_
      exact (h2.same (hid_push hp _)).rep _
/-! ### in -/
theorem eqV_of {K : PySem.W.Frag} {p : Addr} {H : Hp} {v u : V} {x y : PyData} (h : Dq K p H v x) (g : Dq K p H u y) (hx : scalar x = true) (hy : scalar y = true) : flatV v = true ∧ eqV u v = PyData.eqv y x := by
  cases x <;> first | (cases hx; done) | skip
  all_goals (cases y <;> first | (cases hy; done) | skip)
  all_goals first
    | (obtain rfl := h.none'; skip) | (obtain rfl := h.bool'; skip) | (obtain rfl := h.int'; skip) | (obtain rfl := h.str'; skip)
  all_goals first
    | (obtain rfl := g.none'; skip) | (obtain rfl := g.bool'; skip) | (obtain rfl := g.int'; skip) | (obtain rfl := g.str'; skip)
  all_goals refine ⟨rfl, ?_⟩
  all_goals simp only [eqV, PyData.eqv]
theorem inV_of {K : PySem.W.Frag} {p : Addr} {H : Hp} {v : V} {x : PyData} (h : Dq K p H v x) (hx : scalar x = true) : ∀ {us : List V} {ds : List PyData}, DqAll K p H us ds → ds.all scalar = true → us.all flatV = true ∧ inV v us = ds.any fun z => PyData.eqv z x
  | _, [], g, _ => by cases g; exact ⟨rfl, rfl⟩
  | _, d :: ds, g, hs => by
    cases g with
    | cons g1 g2 =>
      rw [List.all_cons, Bool.and_eq_true] at hs
      obtain ⟨r1, r2⟩ := inV_of h hx g2 hs.2
      obtain ⟨_, e1⟩ := eqV_of h g1 hx hs.1
      obtain ⟨f1, _⟩ := eqV_of g1 h hs.1 hx
      refine ⟨by rw [List.all_cons, f1, r1]; rfl, ?_⟩
      unfold inV at r2 ⊢
      rw [List.any_cons, List.any_cons, e1, r2]
def isIn (y x : Str) : Bool := !(Builtin.Str.occurrences y x 0 y.length 1).isEmpty
def rInG (neg : Bool) : RD2
  | .str x, .str y, Q => Q (.bool (neg != isIn y x))
  | x, .list ds, Q => (scalar x = true ∧ ds.all scalar = true) ∧ Q (.bool (neg != ds.any fun z => PyData.eqv z x))
  | x, .tuple ds, Q => (scalar x = true ∧ ds.all scalar = true) ∧ Q (.bool (neg != ds.any fun z => PyData.eqv z x))
  | _, _, _ => False
theorem og_inSeq {neg : Bool} {f : Value → Value → Sem Value} (h : OpR X f (rIn X.K neg)) : OpG X f (fun x y Q => ∃ ds, (y = .list ds ∨ y = .tuple ds) ∧ (scalar x = true ∧ ds.all scalar = true) ∧ Q (.bool (neg != ds.any fun z => PyData.eqv z x))) :=
  ⟨_, h, fun g O H n x y v u Qd Q w d1 d2 ⟨ds, e, ⟨s1, s2⟩, q⟩ k => by
    have fin : ∀ (p : Addr) (xs : List V), u = .ref p → (SqL X.K H p xs ∨ SqT X.K H p xs) → DqAll X.K g.p (hid O H) xs ds → rIn X.K neg v u H Q := fun p xs e1 h1 h2 => by
      obtain ⟨f1, f2⟩ := inV_of d1 s1 h2 s2
      obtain ⟨f3, _⟩ := eqV_of d1 d1 s1 s1
      refine ⟨p, xs, e1, h1, f3, f1, ?_⟩
      have := k _ (.bl (neg != ds.any fun z => PyData.eqv z x)) H q w.refl (.bl _)
      rw [f2]
      cases neg with
      | false => simpa using this
      | true => simpa using this
    rcases e with rfl | rfl
    · obtain ⟨p, xs, e1, h1, h2⟩ := d2.list'
      exact fin p xs e1 (.inl ((hid_same _ H).seq h1)) h2
    · obtain ⟨p, xs, e1, h1, h2⟩ := d2.tuple'
      exact fin p xs e1 (.inr ((hid_same _ H).tup h1)) h2⟩
theorem og_in : OpG X (compareOp .In) (rInG false) := ((ogS (g := fun i j => isIn j i) op_in_str).or (og_inSeq op_in_seq)).imp fun x y Q h => by
  cases y with
  | list ds => cases x <;> exact .inr ⟨ds, .inl rfl, h⟩
  | tuple ds => cases x <;> exact .inr ⟨ds, .inr rfl, h⟩
  | str y => cases x <;> first | exact h.elim | exact .inl ⟨_, _, rfl, rfl, by simpa [rInG] using h⟩
  | _ => cases x <;> exact h.elim
theorem og_notin : OpG X (compareOp .NotIn) (rInG true) := ((ogS (g := fun i j => !isIn j i) op_notIn_str).or (og_inSeq op_notIn_seq)).imp fun x y Q h => by
  cases y with
  | list ds => cases x <;> exact .inr ⟨ds, .inl rfl, h⟩
  | tuple ds => cases x <;> exact .inr ⟨ds, .inr rfl, h⟩
  | str y => cases x <;> first | exact h.elim | exact .inl ⟨_, _, rfl, rfl, by simpa [rInG] using h⟩
  | _ => cases x <;> exact h.elim
/-! ### isinstance -/
def isStm : PyData → Bool
  | .dict [(.none, .none)] => true
  | .dict [(.none, .int _)] => true
  | .dict [(.tuple [_], _)] => true
  | _ => false
def tyD : PyData → String
  | .none => "NoneType"
  | .bool _ => "bool"
  | .int _ => "int"
  | .str _ => "str"
  | .list _ => "list"
  | .tuple _ => "tuple"
  | .dict _ => "dict"
theorem tyx_of {K : PySem.W.Frag} {p : Addr} {H H' : Hp} {v : V} {d : PyData} (h : Dq K p H v d) (s : Same H H') (n : isStm d = false) : TyX K H' v (.type (tyD d)) := by
  cases h with
  | non => exact .base .non
  | bl b => exact .base (.bl b)
  | int i => exact .base (.int i)
  | str x => exact .base (.str x)
  | lst h _ => exact .base (.lst (s _ _ h))
  | tup h _ => obtain ⟨o, ho, _⟩ := h.ex; exact .fTuple (s _ _ ho)
  | pair h _ _ => cases n
  | dct h _ => exact .base (.dK (s _ _ h))
  | obj a => cases n
  | stm e => subst e; cases n
/-- is the data of this built-in kind -/
def isiD (c : String) (d : PyData) : Bool := tyD d == c || (c == "int" && tyD d == "bool")
def dIsi (c : String) (T : TD) : TD := fun ρ n Q X => T ρ n (fun d n1 => isStm d = false ∧ Q (.bool (isiD c d)) n1) X
theorem kit_isi : ∀ c ∈ ["int", "bool", "str", "list", "tuple", "dict"], ∀ t ∈ ["NoneType", "bool", "int", "str", "list", "tuple", "dict"], kitB t c = some (t == c || (c == "int" && t == "bool")) := by decide +kernel
theorem tyD_mem (d : PyData) : tyD d ∈ ["NoneType", "bool", "int", "str", "list", "tuple", "dict"] := by
  cases d <;> simp [tyD]
theorem de_isi {c : String} {p p2 : Pos} {x : Str} (hc : c ∈ ["int", "bool", "str", "list", "tuple", "dict"]) (hg : Gl X "isinstance") (hm : X.mg "isinstance" = none) (ha : DE E X a Ta) (ht : PE X (.Name x p2) (tC (.ty c)))
    (he : starEach [a, .Name x p2] X.env = (false, eval a X.env) :: starEach [.Name x p2] X.env := by rfl) (he2 : starEach [.Name x p2] X.env = (false, eval (.Name x p2) X.env) :: starEach [] X.env := by rfl) (hpl : (backTo pos (starEach [.Name x p2] X.env)).any (·.1) = false := by rfl) :
    DE E X (.Call (.Name "isinstance" p) [a, .Name x p2] [] pos) (dIsi c Ta) :=
  pe_weak (pe_callB call_isi hg hm (by decide +kernel) (pa_cons ha (pa_cons ht pa_nil he2) he) (by decide) (by decide) he hpl) fun σ H Q ⟨F, O, ρ, n, Qd, Xd, R, t, mq, mx⟩ =>
    ⟨F, _, ρ, n, _, Xd, R, t, fun d n1 v H1 ⟨ns, q1⟩ e1 d1 => ⟨v, .ty c, _, _, _, rfl, .ty c, tyx_of d1 (hid_same _ H1) ns, kit_ty (kit_isi c hc _ (tyD_mem d)), mq _ n1 _ H1 q1 e1 (.bl _)⟩, mx⟩
/-! ### truth -/
def truD : PyData → Bool
  | .none => false
  | .bool b => b
  | .int i => i != 0
  | .str z => (z.length : Int) != 0
  | .list ds => !ds.isEmpty
  | .tuple ds => !ds.isEmpty
  | .dict _ => true
def dTru (T : TD) : TTD := fun ρ n Q X => T ρ n (fun d n1 => tyD d ≠ "dict" ∧ Q (truD d) n1) X
theorem isEmpty_dq {K : PySem.W.Frag} {p : Addr} {H : Hp} {xs : List V} {ds : List PyData} (h : DqAll K p H xs ds) : ds.isEmpty = xs.isEmpty := by
  have := h.length
  cases ds <;> cases xs <;> first | rfl | (simp at this)
theorem dt_tru (ha : DE E X a Ta) (he : ∀ whole, isTrue a X.env whole = (do let v ← whole; standAt a.pos; holding [v] (truthy v)) := by intro _; rfl) : DT E X a (dTru Ta) :=
  pt_weak (pt_truth ha he) fun σ H Q ⟨F, O, ρ, n, Qd, Xd, R, t, mq, mx⟩ =>
    ⟨F, _, ρ, n, _, Xd, R, t, fun d n1 v H1 ⟨nd, q1⟩ e1 d1 => by
      refine ⟨truD d, ?_, mq _ n1 H1 q1 e1⟩
      cases d with
      | none => rw [d1.none']; rfl
      | bool b => rw [d1.bool']; rfl
      | int i => rw [d1.int']; rfl
      | str z => rw [d1.str']; exact ⟨d1.strLen, rfl⟩
      | list ds =>
        obtain ⟨a, xs, rfl, h1, h2⟩ := d1.list'
        exact .inl ⟨xs, (hid_same _ H1).seq h1, by show (!ds.isEmpty) = _; rw [isEmpty_dq h2]⟩
      | tuple ds =>
        obtain ⟨a, xs, rfl, h1, h2⟩ := d1.tuple'
        exact .inr (.inl ⟨xs, (hid_same _ H1).tup h1, by show (!ds.isEmpty) = _; rw [isEmpty_dq h2]⟩)
      | dict ks => exact absurd rfl nd, mx⟩
/-! ### -x -/
def rNeg : RD1
  | .int i, Q => Q (.int (-i))
  | _, _ => False
theorem de_neg (ha : DE E X a Ta) : DE E X (.UnaryOp .USub a pos) (dUn rNeg Ta) := de_un un_neg (fun g O H n x v Qd Q w d q k => by
  cases x <;> first | exact q.elim | exact ⟨_, d.int', k _ _ H q w.refl (.int _)⟩) ha
end
end Kd
namespace Kd
open PySem PySem.Spec PyProof.Rows L2 Kb
/-! ### methods -/
abbrev RDM := PyData → List PyData → (PyData → Prop) → Prop
def MtD (K : PySem.W.Frag) (r : V → List V → Hp → VK → Prop) (rd : RDM) : Prop := ∀ (g : G) (O : Addr → Bool) (H : Hp) (n : Nat) (x : PyData) (xs : List PyData) (v : V) (vs : List V) (Qd : PyData → Prop) (Q : VK), Wd g O H n → Dq K g.p (hid O H) v x → DqAll K g.p (hid O H) vs xs → rd x xs Qd →
  (∀ z t H', Qd z → Ext g O O H H' n n → Dq K g.p (hid O H') t z → Q t H') → r v vs H Q
def MtG (X : Cx) (id : String) (rd : RDM) : Prop := ∃ r, MtR X id r ∧ MtD X.K r rd
section
variable {X : Cx} {E : XK} {a b c e o : Expr} {es : List Expr} {Ta Tb Tc Te To : TD} {S : TAD} {pos cpos apos : Pos} {name : Str} {id : String} {rd : RDM}
theorem MtG.or {rd' : RDM} (h : MtG X id rd) (h' : MtG X id rd') : MtG X id (fun x xs Q => rd x xs Q ∨ rd' x xs Q) := by
  obtain ⟨r, a, b⟩ := h
  obtain ⟨r', a', b'⟩ := h'
  refine ⟨_, MtR.or a a', fun g O H n x xs v vs Qd Q w d1 d2 q k => ?_⟩
  rcases q with q | q
  · exact .inl (b g O H n x xs v vs Qd Q w d1 d2 q k)
  · exact .inr (b' g O H n x xs v vs Qd Q w d1 d2 q k)
theorem MtG.imp {rd' : RDM} (h : MtG X id rd) (w : ∀ x xs Q, rd' x xs Q → rd x xs Q) : MtG X id rd' := by
  obtain ⟨r, a, b⟩ := h
  exact ⟨_, a, fun g O H n x xs v vs Qd Q wd d1 d2 q k => b g O H n x xs v vs Qd Q wd d1 d2 (w x xs Qd q) k⟩
/-- o.m(..), o of a kind -/
def dMt (kind : String) (rd : RDM) (To : TD) (S : TAD) : TD := fun ρ n Q X => To ρ n (fun x n1 => tyD x = kind ∧ S ρ n1 (fun xs n2 => rd x xs fun z => Q z n2) X) X
def dMt0 (kind : String) (rd : RDM) (To : TD) : TD := fun ρ n Q X => To ρ n (fun x n1 => tyD x = kind ∧ rd x [] fun z => Q z n1) X
theorem tyD_str {x : PyData} (h : tyD x = "str") : ∃ z, x = .str z := by cases x <;> first | exact ⟨_, rfl⟩ | (simp [tyD] at h)
theorem de_ms (slot : Slot "str" name id) (hty : typeOf (.builtin id) = pure (.type "method_descriptor")) (hm : MtG X id rd) (ho : DE E X o To) (ha : DA E X (e :: es) S)
    (hbase : attributeBase o name X.env (eval o X.env) = eval o X.env := by rfl)
    (hfew : ((backTo cpos (starEach (e :: es) X.env)).all (fun x => !x.1) && (backToKw cpos (keywordEach [] X.env)).all (fun x => x.1.isSome)
      && decide ((e :: es).length + ([] : List Keyword).length + (if ([] : List Keyword).isEmpty then 0 else 1) < 30)) = true := by rfl)
    (hline : (apos.endLine == cpos.line) = true := by rfl) (hs : starEach (e :: es) X.env = (false, eval e X.env) :: starEach es X.env := by rfl) (hplain : (backTo cpos (starEach es X.env)).any (·.1) = false := by rfl) :
    DE E X (.Call (.Attribute o name apos) (e :: es) [] cpos) (dMt "str" rd To S) := by
  obtain ⟨r, h1, h2⟩ := hm
  refine pe_weak (pe_bm PySem.F.plainAttrs_str slot hty h1 ho ha hbase hfew hline hs hplain) fun σ H Q ⟨F, O, ρ, n, Qd, Xd, R, t, mq, mx⟩ => ?_
  refine ⟨F, _, ρ, n, _, Xd, R, t, fun x n1 v H1 ⟨ty, q1⟩ e1 d1 => ?_, mx⟩
  obtain ⟨z, rfl⟩ := tyD_str ty
  refine ⟨by rw [d1.str']; rfl, F, _, ρ, n1, _, Xd, R.ext e1, q1, fun xs n2 vs H2 q2 e2 d2 => ?_, mx.step e1⟩
  exact h2 F.g _ H2 n2 _ xs v vs _ Q ((R.ext e1).ext e2).rw.wd (d1.same e2.hid) d2 q2 fun z t H' qz e3 d3 => mq z n2 t H' qz ((e1.trans e2).trans e3) d3
/-! the methods -/
def rJoin : RDM
  | .str s, [.list ds], Q => ∃ ys : List Str, ds = ys.map PyData.str ∧ (ys.map (·.length)).sum + ys.length * s.length ≤ 16777216 ∧ Q (.str (Txt.join s ys))
  | .str s, [.tuple ds], Q => ∃ ys : List Str, ds = ys.map PyData.str ∧ (ys.map (·.length)).sum + ys.length * s.length ≤ 16777216 ∧ Q (.str (Txt.join s ys))
  | _, _, _ => False
theorem join_le (s : Str) : ∀ (ys : List Str), (Txt.join s ys).length ≤ (ys.map (·.length)).sum + ys.length * s.length := by
  intro ys
  unfold Txt.join
  rw [PySem.StrLaws.glued_eq_join]
  exact go ys
where go : ∀ (ys : List Str), (Str.join s ys).length ≤ (ys.map (·.length)).sum + ys.length * s.length
  | [] => Nat.zero_le _
  | [x] => by show x.length ≤ _; simp
  | x :: y :: r => by
    have ih := go (y :: r)
    show (x ++ s ++ Str.join s (y :: r)).length ≤ _
    rw [Str.length_append, Str.length_append, List.map_cons, List.sum_cons, List.length_cons, Nat.succ_mul]
    omega
theorem mg_join : MtG X "str.join" rJoin := ⟨_, mt_join, fun g O H n x xs v vs Qd Q w d1 d2 q k => by
  unfold rJoin at q
  split at q
  · obtain ⟨ys, rfl, hl, q⟩ := q
    obtain ⟨u, rfl, d2x⟩ := d2.one
    obtain ⟨p, us, rfl, h1, h2⟩ := d2x.list'
    rw [strs_of h2] at h1
    exact ⟨_, p, ys, d1.str', rfl, .inl ((hid_same _ H).seq h1), hl, k _ _ H q w.refl (.str _ (Nat.le_trans (join_le _ _) (by rw [sizeLine_eq]; exact hl)))⟩
  · obtain ⟨ys, rfl, hl, q⟩ := q
    obtain ⟨u, rfl, d2x⟩ := d2.one
    obtain ⟨p, us, rfl, h1, h2⟩ := d2x.tuple'
    rw [strs_of h2] at h1
    exact ⟨_, p, ys, d1.str', rfl, .inr ((hid_same _ H).tup h1), hl, k _ _ H q w.refl (.str _ (Nat.le_trans (join_le _ _) (by rw [sizeLine_eq]; exact hl)))⟩
  · exact q.elim⟩
def rStarts : RDM
  | .str a, [.str b], Q => Q (.bool (Txt.startswith a b))
  | .str a, [.str b, .int i], Q => Q (.bool (Txt.startswith3 a b i))
  | _, _, _ => False
theorem mg_starts : MtG X "str.startswith" rStarts := (MtG.or
    (rd := fun x xs Q => ∃ a b, x = .str a ∧ xs = [.str b] ∧ Q (.bool (Txt.startswith a b)))
    (rd' := fun x xs Q => ∃ a b i, x = .str a ∧ xs = [.str b, .int i] ∧ Q (.bool (Txt.startswith3 a b i)))
    ⟨_, mt_startswith, fun g O H n x xs v vs Qd Q w d1 d2 ⟨a, b, e1, e2, q⟩ k => by
      subst e1; subst e2
      obtain ⟨u, rfl, d2x⟩ := d2.one
      exact ⟨a, b, d1.str', by rw [d2x.str'], k _ _ H q w.refl (.bl _)⟩⟩
    ⟨_, mt_startswith3, fun g O H n x xs v vs Qd Q w d1 d2 ⟨a, b, i, e1, e2, q⟩ k => by
      subst e1; subst e2
      obtain ⟨u, u2, rfl, d2x, d3⟩ := d2.two
      exact ⟨a, b, i, d1.str', by rw [d2x.str', d3.int'], k _ _ H q w.refl (.bl _)⟩⟩).imp fun x xs Q h => by
  unfold rStarts at h
  split at h
  · exact .inl ⟨_, _, rfl, rfl, h⟩
  · exact .inr ⟨_, _, _, rfl, rfl, h⟩
  · exact h.elim
end
end Kd
namespace Kd
open PySem PySem.Spec PyProof.Rows L2 Kb
/-! ### a def's promise over data -/
def startC (N : List Str) (ds : List PyData) : List Cell := ds.map .d ++ List.replicate (N.length - ds.length) .no
def fxOf (g : G) (O : Addr → Bool) (H : Hp) (n : Nat) : Fx := ⟨g, O, H, hid O H, n⟩
section
variable {P : Program} {w : World} {K : PySem.W.Frag} {mg : Str → Option Value} {base : Heap}
theorem rw_start {g : G} {O : Addr → Bool} {H : Hp} {n : Nat} (wd : Wd g O H n) : Rw (fxOf g O H n) O H n := ⟨wd, wd.op, wd.ob, wd.oc, fun _ h => h, fun a o h => hid_some.mp h, fun _ _ _ _ _ => rfl, fun _ h => .inl h, wd.trk, fun _ h => h, fun _ h => (wd.wok.here h).1⟩
theorem own_map {ds : List PyData} {k i : Nat} {c : Cell} (h : (ds.map Cell.d ++ List.replicate k Cell.no)[i]? = some c) : c.isOwn = false := by
  rw [List.getElem?_append] at h
  split at h
  · rw [List.getElem?_map] at h
    obtain ⟨d, _, rfl⟩ := Option.map_eq_some_iff.mp h
    rfl
  · rw [List.getElem?_replicate] at h
    split at h
    · cases h; rfl
    · cases h
theorem rel_start {g : G} {O : Addr → Bool} {H : Hp} {n : Nat} {N : List Str} {vs : List V} {ds : List PyData} (wd : Wd g O H n) (hd : DqAll K g.p (hid O H) vs ds) : Rel K (fxOf g O H n) O (start N vs) H (startC N ds) n := by
  have hl := hd.length
  refine ⟨rw_start wd, ?_, fun i c h => ?_, fun i j c c' q hi hj o1 _ _ _ => ?_⟩
  · unfold L2.start startC
    simp [hl]
  · unfold L2.start startC at *
    rw [List.getElem?_append] at h ⊢
    rw [List.length_map] at h ⊢
    rw [hl]
    by_cases z : i < ds.length
    · rw [if_pos z] at h ⊢
      rw [List.getElem?_map] at h ⊢
      obtain ⟨d, hd', rfl⟩ := Option.map_eq_some_iff.mp h
      obtain ⟨v, hv, hq⟩ := hd.get hd'
      exact ⟨some v, by rw [hv]; rfl, v, rfl, hq⟩
    · rw [if_neg z] at h ⊢
      rw [List.getElem?_replicate] at h ⊢
      split at h
      · cases h
        rename_i z2
        exact ⟨none, by rw [if_pos z2], trivial⟩
      · cases h
  · rw [own_map hi] at o1
    cases o1
/-- what is hidden behind a call: what was, and the world's objects -/
noncomputable def back (O : Addr → Bool) (n' : Nat) : Addr → Bool := fun a => O a || Kw.dom n' a
theorem back_sub {F : Fx} {g : G} {O O' : Addr → Bool} {H H' : Hp} {n n' : Nat} (r : Rw (fxOf g O H n) O' H' n') {a : Addr} (h : O' a = false) : back O n' a = false := by
  unfold back
  rw [Bool.or_eq_false_iff]
  refine ⟨?_, ?_⟩
  · cases z : O a with
    | false => rfl
    | true => rw [r.sub a z] at h; cases h
  · cases z : Kw.dom n' a with
    | false => rfl
    | true => rw [(r.wd.wok.here z).1] at h; cases h
theorem back_of {g : G} {O O' : Addr → Bool} {H H' : Hp} {n n' : Nat} (r : Rw (fxOf g O H n) O' H' n') {a : Addr} (h : back O n' a = true) : O' a = true := by
  unfold back at h
  rcases Bool.or_eq_true_iff.mp h with z | z
  · exact r.sub a z
  · exact (r.wd.wok.here z).1
theorem hid_back {g : G} {O O' : Addr → Bool} {H H' : Hp} {n n' : Nat} (r : Rw (fxOf g O H n) O' H' n') : Same (hid O' H') (hid (back O n') H') := fun a o h => by
  obtain ⟨h1, h2⟩ := hid_some.mp h
  exact hid_some.mpr ⟨back_sub (F := fxOf g O H n) r h1, h2⟩
theorem ext_back {g : G} {O O' : Addr → Bool} {H H' : Hp} {n n' : Nat} (r : Rw (fxOf g O H n) O' H' n') : Ext g O (back O n') H H' n n' := by
  refine ⟨fun a h => by unfold back; rw [h, Bool.true_or], fun a h => ?_, fun a o h1 h2 => (r.pin a o (hid_some.mpr ⟨h1, h2⟩)).2, fun a h1 h2 h3 h4 => r.own a h1 h2 h3 h4, fun a h => r.dm a h, r.u0, fun a h => r.wd.trk a (back_of r h),
    ⟨r.wd.wok.stm, r.wd.wok.np, r.wd.wok.nb, r.wd.wok.nc, fun a x e => ?_⟩⟩
  · unfold back at h
    rcases Bool.or_eq_true_iff.mp h with z | z
    · exact .inl z
    · rcases r.dm a z with k | k
      · exact .inl (r.du a k)
      · exact .inr k
  · exact (r.wd.wok.obj a x e).keep (fun _ => by unfold back; rw [show Kw.dom n' a = true by unfold Kw.dom; rw [e]; rfl, Bool.or_true]) rfl (hid_back r) fun _ _ z => z
/-- a def that raises nothing -/
theorem okD {x qual : Str} {st : Stmt} {f : Addr} {fd : FuncData} {N ps : List Str} {k : Nat} {S : SpD} (F : Fun K x qual st f fd) (hS : FnScope N ps (defScope st)) (len : ∀ ds n Q X, S ds n Q X → ds.length = ps.length)
    (body : ∀ (cdv : Value) (A : Around) (outer : List Env) (s : Shared) (H : Hp) (E : XK), Room k (A.deeper (envOfC qual (defScope st) s.heap.objs.size f cdv)) →
      ∃ T, DSs E0 (cxOf CX0 P w K mg base N qual (defScope st) f cdv A outer s H E).nox (defBody st) T ∧ ∀ ds n Q X, S ds n Q X → T { nx := fun _ n' => Q .none n', rt := Q, ex := X0 } (startC N ds) n) :
    FnOk P w K mg base CX0 (k + 1) f fd ps (spD K S) := by
  refine F.ok hS (fun vs H Q E h => ?_) (fun cdv A outer s H vs Q E hr h => ?_)
  · obtain ⟨g, O, n, ds, Qd, Xd, wd, hd, hs, _⟩ := h
    rw [hd.length]
    exact len _ _ _ _ hs
  · obtain ⟨g, O, n, ds, Qd, Xd, wd, hd, hs, mq, mx⟩ := h
    obtain ⟨T, hT, hq⟩ := body cdv A outer s H E hr
    refine ⟨_, hT, fxOf g O H n, O, _, n, _, rel_start wd hd, hq ds n Qd Xd hs, ?_⟩
    have go : ∀ O' H' n' v d, Rw (fxOf g O H n) O' H' n' → Dq K g.p (hid O' H') v d → Qd d n' → Q v H' := fun O' H' n' v d r h q => mq d n' v H' q (ext_back r) (h.same (hid_back r))
    exact ⟨fun O' σ' H' ρ' n' R q => go O' H' n' .non .none R.rw .non q, fun _ _ _ _ _ _ q => q.elim, fun _ _ _ _ _ _ q => q.elim, go, fun _ _ _ _ _ _ _ _ q => q.elim⟩
/-! ### the law's own body -/
theorem lawD {N : List Str} {X : Cx} {i : Nat} {st0 : Stmt} {sts : List Stmt} {T : TSD} {H : Hp} {a : Addr} {g0 : TE} (hK : X.K = K) (h0 : PS X st0 (tAsg g0 (gName i)))
    (hg0 : ∀ σ Q, σ = start N [.ref a] → (∀ H' p b c, Same H H' → H p = none → H b = none → H c = none → Stm H' p b c 0 → Q (.ref p) H') → g0 σ H Q)
    (hT : DSs E0 X sts T) (hq : ∀ n, (Kw.wt n = 0 ∧ ∀ a, Kw.ob n a = none) → T { nx := fun _ _ => False, rt := fun d _ => d = .bool true, ex := X0 } ((List.replicate ((start N [.ref a]).length) Cell.no).set i (.d STRM)) n) :
    ∃ t, PSs X (st0 :: sts) t ∧ t { nx := fun _ H' => (fun v (_ : Hp) => v = V.bl true) .non H', rt := fun v _ => v = .bl true } (start N [.ref a]) H := by
  refine ⟨_, pss_cons h0 hT, ?_⟩
  refine hg0 _ _ rfl fun H' p b c s1 np nb nc S => ?_
  have z1 := Stm.addrs S
  let O : Addr → Bool := fun x => decide (x = p ∨ x = b ∨ x = c)
  obtain ⟨w0, e0, f0⟩ : ∃ w0, Kw.wt w0 = 0 ∧ ∀ a, Kw.ob w0 a = none := ⟨Kw.mk ⟨0, []⟩, by unfold Kw.wt; rw [Kw.un_mk], fun a => by unfold Kw.ob; rw [Kw.un_mk]; rfl⟩
  have d0 : ∀ a, Kw.dom w0 a = false := fun a => by unfold Kw.dom; rw [f0]; rfl
  have wd : Wd ⟨p, b, c⟩ O H' w0 := ⟨by simp [O], by simp [O], by simp [O], fun x hx => by
    have hx : x = p ∨ x = b ∨ x = c := of_decide_eq_true hx
    rcases hx with rfl | rfl | rfl
    · exact z1.1
    · exact z1.2.1
    · exact z1.2.2, ⟨by rw [e0]; exact S, d0 _, d0 _, d0 _, fun a x e => by rw [f0] at e; cases e⟩⟩
  refine ⟨fxOf ⟨p, b, c⟩ O H' w0, O, _, w0, _, ?_, hq w0 ⟨e0, f0⟩, ?_⟩
  · have R0 : Rel X.K (fxOf ⟨p, b, c⟩ O H' w0) O (start N [.ref a]) H' (List.replicate ((start N [.ref a]).length) Cell.no) w0 := by
      refine ⟨rw_start wd, by rw [List.length_replicate], fun j c h => ?_, fun j k c c' q hj hk o1 _ _ _ => ?_⟩
      · rw [List.getElem?_replicate] at h
        split at h
        · cases h
          rename_i z
          exact ⟨_, List.getElem?_eq_getElem z, trivial⟩
        · cases h
      · rw [List.getElem?_replicate] at hj
        split at hj
        · cases hj; cases o1
        · cases hj
    exact R0.set (.stm rfl) i
  · refine ⟨fun _ _ _ _ _ _ q => q.elim, fun _ _ _ _ _ _ q => q.elim, fun _ _ _ _ _ _ q => q.elim, fun O' H2 n' v d r h q => ?_, fun _ _ _ _ _ _ _ _ q => q.elim⟩
    have q : d = .bool true := q
    subst q
    exact h.bool'
end
end Kd
namespace Kd
open PySem PySem.Spec PyProof.Rows L2 Kb
section
variable {X : Cx} {E : XK} {a b c e : Expr} {es rest : List Expr} {Ta Tb Tc Te : TD} {pos : Pos}
/-! ### and, or, not as values -/
def dAndV (Ta Tb : TD) : TD := fun ρ n Q X => Ta ρ n (fun x n1 => ∃ k, x = .bool k ∧ if k = true then Tb ρ n1 Q X else Q (.bool false) n1) X
def dOrV (Ta Tb : TD) : TD := fun ρ n Q X => Ta ρ n (fun x n1 => ∃ k, x = .bool k ∧ if k = true then Q (.bool true) n1 else Tb ρ n1 Q X) X
def dNotV (Ta : TD) : TD := fun ρ n Q X => Ta ρ n (fun x n1 => ∃ k, x = .bool k ∧ Q (.bool (!k)) n1) X
theorem de_one {op} (h : DE E X a Ta) : DE E X (.BoolOp op [a] pos) Ta := pe_one h
theorem de_and (ha : DE E X a Ta) (hb : DE E X (.BoolOp .And (b :: rest) pos) Tb) : DE E X (.BoolOp .And (a :: b :: rest) pos) (dAndV Ta Tb) :=
  pe_weak (pe_and ha hb) fun σ H Q ⟨F, O, ρ, n, Qd, Xd, R, t, mq, mx⟩ => ⟨F, _, ρ, n, _, Xd, R, t, fun x n1 v H1 ⟨k, ek, q1⟩ e1 d1 => by
    subst ek
    refine ⟨k, d1.bool', ?_⟩
    cases k with
    | true => exact ⟨F, _, ρ, n1, Qd, Xd, R.ext e1, q1, mq.step e1, mx.step e1⟩
    | false => exact mq _ n1 _ H1 q1 e1 (.bl _), mx⟩
theorem de_or (ha : DE E X a Ta) (hb : DE E X (.BoolOp .Or (b :: rest) pos) Tb) : DE E X (.BoolOp .Or (a :: b :: rest) pos) (dOrV Ta Tb) :=
  pe_weak (pe_or ha hb) fun σ H Q ⟨F, O, ρ, n, Qd, Xd, R, t, mq, mx⟩ => ⟨F, _, ρ, n, _, Xd, R, t, fun x n1 v H1 ⟨k, ek, q1⟩ e1 d1 => by
    subst ek
    refine ⟨k, d1.bool', ?_⟩
    cases k with
    | false => exact ⟨F, _, ρ, n1, Qd, Xd, R.ext e1, q1, mq.step e1, mx.step e1⟩
    | true => exact mq _ n1 _ H1 q1 e1 (.bl _), mx⟩
theorem de_not (ha : DE E X a Ta) : DE E X (.UnaryOp .Not a pos) (dNotV Ta) :=
  pe_weak (pe_not ha) fun σ H Q ⟨F, O, ρ, n, Qd, Xd, R, t, mq, mx⟩ => ⟨F, _, ρ, n, _, Xd, R, t, fun x n1 v H1 ⟨k, ek, q1⟩ e1 d1 => by
    subst ek
    exact ⟨k, d1.bool', mq _ n1 _ H1 q1 e1 (.bl _)⟩, mx⟩
/-! ### three at once -/
def dPar3 (i j l : Nat) (T : TAD) : TSD := fun e ρ n => T ρ n (fun ds n1 => ∃ x y z, ds = [x, y, z] ∧ e.nx (((ρ.set i (.d x)).set j (.d y)).set l (.d z)) n1) e.ex
theorem ds_par3 {i j l : Nat} {x y z : Str} {S : TAD} {px py pz pt : Pos} {kt k2 pt2} (hc : X.calm = true) (hN : X.N.Nodup) (hi : X.N[i]? = some x) (hj : X.N[j]? = some y) (hl : X.N[l]? = some z) (hij : i ≠ j) (hil : i ≠ l) (hjl : j ≠ l)
    (hx : X.env.scope.names.lookup x = some .local) (hy : X.env.scope.names.lookup y = some .local) (hz : X.env.scope.names.lookup z = some .local) (ha : DA E X [a, b, c] S)
    (hw : swappedStores [.Tuple [.Name x px, .Name y py, .Name z pz] kt pt] (.Tuple [a, b, c] k2 pt2) X.env = pure (some [x, y, z]))
    (hs : swapsWithSole [.Tuple [.Name x px, .Name y py, .Name z pz] kt pt] (.Tuple [a, b, c] k2 pt2) pos.line X.env = pure false := by rfl) :
    DS E X (.Assign [.Tuple [.Name x px, .Name y py, .Name z pz] kt pt] (.Tuple [a, b, c] k2 pt2) pos) (dPar3 i j l S) := ps_weak (ps_par3 hc hN hi hj hl hij hil hjl hx hy hz ha hw hs) fun D σ H ⟨F, O, ρ, n, e, R, t, m⟩ =>
  ⟨F, _, ρ, n, _, e.ex, R, t, fun ds n' vs H' ⟨x, y, z, ed, q⟩ w h => by
    subst ed
    cases h with
    | cons h1 h2 =>
      cases h2 with
      | cons h2 h3 =>
        cases h3 with
        | cons h3 h4 =>
          cases h4
          exact ⟨_, _, _, rfl, m.nx _ _ H' _ n' ((((R.ext w).set h1 i).set h2 j).set h3 l) q⟩, m.mx R.rw⟩
/-! ### a new list and a value at once -/
def dParF (i j : Nat) (T : TAD) (Tb : TD) : TSD := fun e ρ n => T ρ n (fun ds n1 => Tb ρ n1 (fun y n2 => e.nx ((ρ.set i (.own ds)).set j (.d y)) n2) X0) e.ex
end
end Kd
namespace Kd
open PySem PySem.Spec PyProof.Rows L2 Kb
/-! ### what is walked: a list, a tuple or a text -/
def iSrc (K : PySem.W.Frag) (tl : TE) : TI := fun σ H R => tl σ H fun x H1 => (∃ a, x = .ref a ∧ (∃ xs, SqL K H1 a xs) ∧ R (Itl K a) H1) ∨ (∃ a, x = .ref a ∧ (∃ xs, SqT K H1 a xs) ∧ R (Itt K a) H1) ∨ ∃ z, x = .str z ∧ R (Its z) H1
theorem pi_src {X : Cx} {tg l : Expr} {tl : TE} (hl : PE X l tl) : PI X tg l (iSrc X.K tl) := by
  refine ⟨fun pins s σ H R I h => ?_⟩
  refine thn (hl.run pins s σ H _ I h) fun v s1 ⟨x, H1, I1, r1, q1⟩ => ?_
  rcases q1 with ⟨a, e, ⟨xs, hq⟩, q⟩ | ⟨a, e, ⟨xs, hq⟩, q⟩ | ⟨z, e, q⟩
  · subst e
    cases r1
    obtain ⟨its, rv, p, hz⟩ := I1.list hq
    refine wpAny_pyIter_list p.isList ?_
    refine ⟨s1.heap.objs.size, [s1.heap.objs.size], _, _, H1, rfl, I1.kept (t' := s1.toks) fun b o e => Heap.get?_push_of_some _ e, turn_list a _, ⟨_, Heap.get?_push_size _ rfl, rfl, rfl⟩, fun b hb => ?_, q⟩
    have e : b = s1.heap.objs.size := by simpa using hb
    subst e
    exact I1.fpOk (Nat.le_refl _) (I1.hok.fresh (Nat.le_refl _))
  · subst e
    cases r1
    obtain ⟨its, rv, p, hz⟩ := I1.tuple hq
    refine wpAny_pyIter_tuple (show s1.heap.IsTuple a its.toArray from p) ?_
    refine ⟨s1.heap.objs.size, [s1.heap.objs.size], _, _, H1, rfl, I1.kept (t' := s1.toks) fun b o e => Heap.get?_push_of_some _ e, turn_tuple a _, ⟨_, Heap.get?_push_size _ rfl, rfl, rfl⟩, fun b hb => ?_, q⟩
    have e : b = s1.heap.objs.size := by simpa using hb
    subst e
    exact I1.fpOk (Nat.le_refl _) (I1.hok.fresh (Nat.le_refl _))
  · subst e
    obtain ⟨t, rfl⟩ := r1
    cases ha : z.cps.all (· < 128)
    · exact wpAny_pyIter_wide ha (pi_one (tk := s1.toks) I1 _ (turn_str _ z t "str_iterator" (.inr rfl)) ⟨_, Heap.get?_push_size _ rfl, rfl, rfl⟩ q)
    · exact wpAny_pyIter_ascii ha (pi_one (tk := s1.toks) I1 _ (turn_str _ z t "str_ascii_iterator" (.inl rfl)) ⟨_, Heap.get?_push_size _ rfl, rfl, rfl⟩ q)
section
variable {X : Cx} {E : XK} {e tg : Expr} {Te : TD} {Ta : TAD} {pos p : Pos}
def dSrc (T : TD) : TID := fun ρ n Q X => T ρ n (fun d n1 => ∃ ds, srcD d = some ds ∧ Q ds n1) X
theorem di_src (he : DE E X e Te) : DI E X tg e (dSrc Te) :=
  pi_weak (pi_src he) fun σ H R ⟨F, O, ρ, n, Qd, Xd, Rl, t, mq, mx⟩ =>
    ⟨F, _, ρ, n, _, Xd, Rl, t, fun d n1 v H1 ⟨ds, ed, q⟩ e1 d1 => by
      cases d with
      | str z =>
        cases ed
        exact .inr (.inr ⟨z, d1.str', mq _ _ n1 H1 q e1 (walks_str z)⟩)
      | list ds =>
        cases ed
        obtain ⟨a, xs, rfl, h1, h2⟩ := d1.list'
        exact .inl ⟨a, rfl, ⟨xs, (hid_same _ H1).seq h1⟩, mq _ ds n1 H1 q e1 (walks_list h1 h2)⟩
      | tuple ds =>
        cases ed
        obtain ⟨a, xs, rfl, h1, h2⟩ := d1.tuple'
        exact .inr (.inl ⟨a, rfl, ⟨xs, (hid_same _ H1).tup h1⟩, mq _ ds n1 H1 q e1 (walks_tup h1 h2)⟩)
      | _ => exact (nomatch ed), mx⟩
/-! ### enumerate of a text -/
def ItES (z : Str) : It where
  go := fun i _ => i < z.cps.size
  yld := fun i H v H' => ∃ T c, v = .ref T ∧ H T = none ∧ H' = upd H T (.tup [.int (i : Nat), .str ⟨#[c]⟩]) ∧ z.cps[i]? = some c
  stop := fun i _ => z.cps.size = i
theorem turnES {P : Program} {w : World} {K : PySem.W.Frag} {elts : List Expr} {kk : Nat} {tpos : Pos} (z : Str) (t : Tok) (e it : Addr) (hne : e ≠ it) :
    Turn P w K (.Tuple elts kk tpos) (ItES z) [e, it] e (fun i h => (∃ old, IsEnum h e it ((i : Nat) : Int) old) ∧ h.IsStrIter it (strIterType z) z t i) := by
  constructor
  · simp
  · rintro i h ⟨⟨old, he⟩, ⟨o, ho, hc, hd⟩⟩ b hb
    simp only [List.mem_cons, List.not_mem_nil, or_false] at hb
    rcases hb with rfl | rfl
    · exact ⟨_, he, fun v q => nomatch q⟩
    · refine ⟨o, ho, fun v q => ?_⟩
      rw [hd] at q
      cases q
  · rintro i h h' ⟨⟨old, he⟩, ⟨o, ho, r⟩⟩ k
    exact ⟨⟨old, k e (by simp) _ he⟩, ⟨o, k it (by simp) o ho, r⟩⟩
  · intro X hP hw hK hc i pins s σ H E I hf st hg
    subst hP hw hK
    obtain ⟨⟨old, he⟩, hit⟩ := st
    have hel : e < s.heap.objs.size := Heap.lt_size he
    have hil : it < s.heap.objs.size := by
      obtain ⟨_, z, _⟩ := hit
      exact Heap.lt_size z
    have D := Draws.text (prog := X.prog) (w := X.w) (A := X.A.in1) (I.ok.hd hc) it z t
    have hef : e ∉ [it] := by
      simp only [List.mem_cons, List.not_mem_nil, or_false]
      exact hne
    refine wpAny_pyNext_enum_itemD D he hit hg hne hef (fun y h' tk hy ho hst hT hsz hk => ?_)
    obtain ⟨c, tc, hc2, rfl⟩ := hy
    refine ⟨_, rfl, wpAny_letOwnedTupleGo_enum (s := { s with heap := h', toks := tk + 1 }) ho (fun h2 he2 sb => ?_)⟩
    have hT2 : h2.get? s.heap.objs.size = some { cls := .type "tuple", data := .seq #[.int i tk, .str ⟨#[c]⟩ tc] } := (sb.2 _ (Nat.ne_of_gt hel)).trans hT
    have new : ObjOk X.prog X.w (upd H s.heap.objs.size (.tup [.int (i : Nat), .str ⟨#[c]⟩])) h2 s.heap.objs.size (.tup [.int (i : Nat), .str ⟨#[c]⟩]) :=
      ⟨by show 2 ≤ sizeLine; decide, [.int i tk, .str ⟨#[c]⟩ tc], .cons ⟨_, rfl⟩ (.cons ⟨_, rfl⟩ .nil), ⟨_, hT2, rfl, _, rfl⟩⟩
    have I1 : Inv X pins σ (upd H s.heap.objs.size (.tup [.int (i : Nat), .str ⟨#[c]⟩])) { s with heap := h2, toks := tk + 1 } := by
      refine I.turnedNew (ch := [e, it]) (fun b ob hb z => ?_) hf (Nat.le_refl _) new
      simp only [List.mem_cons, List.not_mem_nil, or_false, not_or] at hb
      exact (sb.2 b hb.1).trans (hk b ob hb.1 hb.2 z)
    refine ⟨.ref s.heap.objs.size, _, I1, rfl, ⟨_, c, rfl, I.hok.fresh (Nat.le_refl _), rfl, hc2⟩, ⟨⟨.str ⟨#[c]⟩ tc, ?_⟩, ?_⟩, fun b hb => ?_⟩
    · have e1 : ((i + 1 : Nat) : Int) = (i : Int) + 1 := by omega
      rw [e1]
      exact he2
    · obtain ⟨o, ho, r⟩ := hst
      exact ⟨o, (sb.2 it (Ne.symm hne)).trans ho, r⟩
    · have hlt : b < s.heap.objs.size := by
        simp only [List.mem_cons, List.not_mem_nil, or_false] at hb
        rcases hb with rfl | rfl
        · exact hel
        · exact hil
      rw [upd_ne (Nat.ne_of_lt hlt)]
      exact (hf b hb).1
  · intro X hP hw hK hc i pins s σ H E I hf st hg
    subst hP hw hK
    obtain ⟨⟨old, he⟩, hit⟩ := st
    obtain ⟨f0, f1, f2, f3, f4, f5⟩ := hf it (by simp)
    have D := Draws.text (prog := X.prog) (w := X.w) (A := X.A.in1) (I.ok.hd hc) it z t
    have hg : z.cps.size = i := hg
    subst hg
    refine wpAny_pyNext_enum_endD D he hit (fun h' eb => ⟨rfl, I.turned (t' := s.toks) (fun b o hb z => eb b o hb z) f0 f1 f3 f4 f5⟩)
  · rintro A i s Q E ⟨⟨_, he⟩, _⟩ h
    exact wpAny_pyIter_enum he h
/-- enumerate of a list, a tuple or a text -/
def iEnA (K : PySem.W.Frag) (ta : TA) : TI := fun σ H R => ta σ H fun vs H1 => (∃ a xs, vs = [.ref a] ∧ SqL K H1 a xs ∧ R (Ite K a) H1) ∨ (∃ a xs, vs = [.ref a] ∧ SqT K H1 a xs ∧ R (ItET K a) H1) ∨ ∃ z, vs = [.str z] ∧ R (ItES z) H1
theorem pi_enumA {ta : TA} {tpos : Pos} {elts : List Expr} {kk : Nat} (hg : Gl X "enumerate") (hm : X.mg "enumerate" = none) (ha : PA X [e] ta)
    (hs : starEach [e] X.env = [(false, eval e X.env)] := by rfl) : PI X (.Tuple elts kk tpos) (.Call (.Name "enumerate" p) [e] [] pos) (iEnA X.K ta) := by
  refine ⟨fun pins s σ H R I h => ?_⟩
  have run := ha.run pos pins s σ H _ I h
  refine Call_ (ld_blt I hg hm boot_enumerate (PyProof.Rows.callWith_type1 (thn run ?_) hs rfl))
  rintro us s1 ⟨vs, H1, I1, r1, q1⟩
  have fin : ∀ b, b ∈ [s1.heap.objs.size + 1, s1.heap.objs.size] → s1.heap.objs.size ≤ b := fun b hb => by
    simp only [List.mem_cons, List.not_mem_nil, or_false] at hb
    rcases hb with rfl | rfl
    · exact Nat.le_succ _
    · exact Nat.le_refl _
  rcases q1 with ⟨a, xs, rfl, hq, q⟩ | ⟨a, xs, rfl, hq, q⟩ | ⟨z, rfl, q⟩
  · cases r1 with
    | cons r rr =>
      cases rr
      cases r
      obtain ⟨its, rv, p', hz⟩ := I1.list hq
      refine call_enumerate_list p'.isList fun h' he hit hsz hk => wpAny_pyIter_enum he ?_
      have I2 : Inv X pins σ H1 { s1 with heap := h' } := I1.kept (t' := s1.toks) hk
      exact ⟨s1.heap.objs.size + 1, [s1.heap.objs.size + 1, s1.heap.objs.size], _, _, H1, rfl, I2, turn_enum a (s1.heap.objs.size + 1) s1.heap.objs.size, ⟨⟨.none, he⟩, hit, Nat.succ_ne_self _⟩, fun b hb => I1.fpOk (fin b hb) (I1.hok.fresh (fin b hb)), q⟩
  · cases r1 with
    | cons r rr =>
      cases rr
      cases r
      obtain ⟨its, rv, pt, hz⟩ := I1.tuple hq
      have hlt : a < s1.heap.objs.size := by
        obtain ⟨o, ho, _⟩ := pt
        exact Heap.lt_size ho
      refine call_enumT pt (fun h' he hit hk => wpAny_pyIter_enum he ?_)
      exact ⟨s1.heap.objs.size + 1, [s1.heap.objs.size + 1, s1.heap.objs.size], _, _, H1, rfl, I1.kept (t' := s1.toks) hk,
        turnET a (s1.heap.objs.size + 1) s1.heap.objs.size (Nat.ne_of_lt hlt) (Nat.ne_of_lt (Nat.lt_succ_of_lt hlt)) (Nat.succ_ne_self _), ⟨⟨.none, he⟩, hit⟩, fun b hb => I1.fpOk (fin b hb) (I1.hok.fresh (fin b hb)), q⟩
  · cases r1 with
    | cons r rr =>
      cases rr
      obtain ⟨t, rfl⟩ := r
      refine call_enumerate_str fun h' he hit hsz hk => wpAny_pyIter_enum he ?_
      exact ⟨s1.heap.objs.size + 1, [s1.heap.objs.size + 1, s1.heap.objs.size], _, _, H1, rfl, I1.kept (t' := s1.toks) hk,
        turnES z t (s1.heap.objs.size + 1) s1.heap.objs.size (Nat.succ_ne_self _), ⟨⟨.none, he⟩, hit⟩, fun b hb => I1.fpOk (fin b hb) (I1.hok.fresh (fin b hb)), q⟩
theorem walks_enS {K : PySem.W.Frag} {F : Fx} (z : Str) : Walks K (ItES z) F (enD (sgD z)) := fun O H n i r => by
  have l : (sgD z).length = z.cps.size := by unfold sgD; rw [List.length_map, Array.length_toList]
  refine ⟨fun h => by rw [enD_len, l] at h; exact h, fun d h => ?_⟩
  obtain ⟨x, e', rfl⟩ := enD_at h
  have hi : i < z.cps.size := by
    have := (List.getElem?_eq_some_iff.mp e').1
    rwa [l] at this
  refine ⟨hi, fun u H2 y => ?_⟩
  obtain ⟨T, c, rfl, hT, rfl, hc⟩ := y
  unfold sgD at e'
  rw [List.getElem?_map, Array.getElem?_toList, hc] at e'
  cases e'
  exact new_pair r.wd hT (.int _) (.str _ (by show 1 ≤ sizeLine; decide))
def dEn (T : TAD) : TID := fun ρ n Q X => T ρ n (fun xs n1 => ∃ d ds, xs = [d] ∧ srcD d = some ds ∧ Q (enD ds) n1) X
theorem di_enum {elts : List Expr} {kk : Nat} {tpos : Pos} (hg : Gl X "enumerate") (hm : X.mg "enumerate" = none) (ha : DA E X [e] Ta) (hs : starEach [e] X.env = [(false, eval e X.env)] := by rfl) : DI E X (.Tuple elts kk tpos) (.Call (.Name "enumerate" p) [e] [] pos) (dEn Ta) :=
  pi_weak (pi_enumA hg hm ha hs) fun σ H R ⟨F, O, ρ, n, Qd, Xd, Rl, t, mq, mx⟩ =>
    ⟨F, _, ρ, n, _, Xd, Rl, t, fun xs n1 vs H1 ⟨d, ds, ed, es, q⟩ e1 d1 => by
      subst ed
      obtain ⟨v, rfl, dx⟩ := d1.one
      cases d with
      | str z =>
        cases es
        exact .inr (.inr ⟨z, by rw [dx.str'], mq _ _ n1 H1 q e1 (walks_enS z)⟩)
      | list ds =>
        cases es
        obtain ⟨a, xs, rfl, h1, h2⟩ := dx.list'
        exact .inl ⟨a, xs, rfl, (hid_same _ H1).seq h1, mq _ _ n1 H1 q e1 (walks_enL h1 h2)⟩
      | tuple ds =>
        cases es
        obtain ⟨a, xs, rfl, h1, h2⟩ := dx.tuple'
        exact .inr (.inl ⟨a, xs, rfl, (hid_same _ H1).tup h1, mq _ _ n1 H1 q e1 (walks_enT h1 h2)⟩)
      | _ => exact (nomatch es), mx⟩
end
end Kd
namespace Kd
open PySem PySem.Spec PyProof.Rows L2 Kb
/-! ### the reading of a body, step by step -/
section
variable {ρ : List Cell} {n : Nat} {Q : PQ} {X : XD} {e : DEnds} {S T : TSD} {Ta Tb Tc Te : TD} {A B : TTD} {U : TAD} {d : PyData} {i j l : Nat}
theorem x_seq (h : S { e with nx := T e } ρ n) : dSeq S T e ρ n := h
theorem x_next (h : e.nx ρ n) : dNext e ρ n := h
theorem x_ret (h : Te ρ n e.rt e.ex) : dRet Te e ρ n := h
theorem x_drop (h : Te ρ n (fun _ n1 => e.nx ρ n1) e.ex) : dDrop Te e ρ n := h
theorem x_set (h : Te ρ n (fun d n1 => e.nx (ρ.set i (.d d)) n1) e.ex) : dAsg Te (dgName i) e ρ n := h
theorem x_asg {g : TGD} (h : Te ρ n (fun d n1 => g d ρ fun ρ' => e.nx ρ' n1) e.ex) : dAsg Te g e ρ n := h
theorem x_ifS (h : A ρ n (fun b n1 => if b = true then S e ρ n1 else T e ρ n1) e.ex) : dIfS A S T e ρ n := h
theorem x_par (h : U ρ n (fun ds n1 => ∃ x y, ds = [x, y] ∧ e.nx ((ρ.set i (.d x)).set j (.d y)) n1) e.ex) : dPar i j U e ρ n := h
theorem x_par3 (h : U ρ n (fun ds n1 => ∃ x y z, ds = [x, y, z] ∧ e.nx (((ρ.set i (.d x)).set j (.d y)).set l (.d z)) n1) e.ex) : dPar3 i j l U e ρ n := h
theorem x_parF (h : U ρ n (fun ds n1 => Tb ρ n1 (fun y n2 => e.nx ((ρ.set i (.own ds)).set j (.d y)) n2) X0) e.ex) : dParF i j U Tb e ρ n := h
theorem x_own (h : U ρ n (fun ds n1 => e.nx (ρ.set i (.own ds)) n1) e.ex) : dOwn i U e ρ n := h
theorem x_append {ds : List PyData} (h0 : ρ[i]? = some (.own ds)) (h : Te ρ n (fun d n1 => ds.length < sizeLine ∧ e.nx (ρ.set i (.own (ds ++ [d]))) n1) e.ex) : dAppend i Te e ρ n := ⟨ds, h0, h⟩
theorem x_extend {ds : List PyData} (h0 : ρ[i]? = some (.own ds)) (h : Te ρ n (fun d n1 => ∃ es, d = .list es ∧ ds.length + es.length ≤ sizeLine ∧ e.nx (ρ.set i (.own (ds ++ es))) n1) e.ex) : dExtend i Te e ρ n := ⟨ds, h0, h⟩
theorem x_putAt (h : Te ρ n (fun d n1 => ∃ ds, ρ[i]? = some (.own ds) ∧ Ta ρ n1 (fun k n2 => ∃ (k' : Int) (j : Nat), k = .int k' ∧ ixN ds.length k' = some j ∧ e.nx (ρ.set i (.own (ds.set j d))) n2) e.ex) e.ex) : dPutAt i Te Ta e ρ n := h
theorem x_frz {ds : List PyData} (h0 : ρ[i]? = some (.own ds)) (h : T e (ρ.set i (.d (.list ds))) n) : dFrz i T e ρ n := ⟨ds, h0, h⟩
theorem x_aug {f : Int → Int → Int} {k : Int} (h0 : ρ[i]? = some (.d (.int k))) (h : Te ρ n (fun d n1 => ∃ j : Int, d = .int j ∧ e.nx (ρ.set i (.d (.int (f k j)))) n1) e.ex) : dAugI f i Te e ρ n := ⟨k, h0, h⟩
/-! expressions -/
theorem x_var (h0 : ρ[i]? = some (.d d)) (h : Q d n) : dVar i ρ n Q X := ⟨d, h0, h⟩
theorem x_c (h : Q d n) : dC d ρ n Q X := h
theorem x_op {rd : RD2} (h : Ta ρ n (fun x n1 => Tb ρ n1 (fun y n2 => rd x y fun z => Q z n2) X) X) : dOp rd Ta Tb ρ n Q X := h
theorem x_chain {rd rd' : RD2} (h : Ta ρ n (fun x n1 => Tb ρ n1 (fun y n2 => rd x y fun z => ∃ k, z = .bool k ∧ if k = true then Tc ρ n2 (fun w n3 => rd' y w fun z' => Q z' n3) X else Q (.bool false) n2) X) X) : dChain rd rd' Ta Tb Tc ρ n Q X := h
theorem x_un {rd : RD1} (h : Ta ρ n (fun x n1 => rd x fun z => Q z n1) X) : dUn rd Ta ρ n Q X := h
theorem x_ifE (h : A ρ n (fun c n1 => if c = true then Ta ρ n1 Q X else Tb ρ n1 Q X) X) : dIf A Ta Tb ρ n Q X := h
theorem x_sl {rd : RDS} {Tl Th : TOD} (h : Te ρ n (fun x n1 => Tl ρ n1 (fun l n2 => Th ρ n2 (fun h n3 => rd x l h fun z => Q z n3) X) X) X) : dSl rd Te Tl Th ρ n Q X := h
theorem x_noPart {Q : Option Int → Nat → Prop} (h : Q none n) : dNoPart ρ n Q X := h
theorem x_part {Q : Option Int → Nat → Prop} (h : Te ρ n (fun d n1 => ∃ i, d = .int i ∧ Q (some i) n1) X) : dPart Te ρ n Q X := h
theorem x_nil {Q : List PyData → Nat → Prop} (h : Q [] n) : dNil ρ n Q X := h
theorem x_cons {Q : List PyData → Nat → Prop} (h : Te ρ n (fun x n1 => U ρ n1 (fun xs n2 => Q (x :: xs) n2) X) X) : dCons Te U ρ n Q X := h
theorem x_cb {rd : RDN} (h : U ρ n (fun xs n1 => rd xs fun z => Q z n1) X) : dCB rd U ρ n Q X := h
theorem x_tup (h : U ρ n (fun xs n1 => xs.length ≤ sizeLine ∧ Q (.tuple xs) n1) X) : dTup U ρ n Q X := h
theorem x_lst (h : U ρ n (fun xs n1 => xs.length ≤ sizeLine ∧ Q (.list xs) n1) X) : dLst U ρ n Q X := h
theorem x_call {S : SpD} (h : U ρ n (fun ds n1 => S ds n1 Q X) X) : dCall S U ρ n Q X := h
theorem x_l (h : U ρ n (fun ds n1 => Q (.list ds) n1) X) : dL U ρ n Q X := h
theorem x_ls {Q : List PyData → Nat → Prop} (h : U ρ n (fun xs n1 => xs.length ≤ sizeLine ∧ Q xs n1) X) : dLs U ρ n Q X := h
theorem x_rep {Q : List PyData → Nat → Prop} (h : U ρ n (fun ds n1 => ds.length ≤ sizeLine ∧ Tb ρ n1 (fun y n2 => ∃ k : Int, y = .int k ∧ (-(2 ^ 63) ≤ k ∧ k < 2 ^ 63 ∧ ds.length * k.toNat ≤ sizeLine) ∧ Q (List.replicate k.toNat ds).flatten n2) X) X) : dRepF U Tb ρ n Q X := h
theorem x_bor {ds : List PyData} (h0 : ρ[i]? = some (.own ds)) (h : Te (ρ.set i (.d (.list ds))) n (fun d n1 => scalar d = true ∧ Q d n1) X0) : dBor i Te ρ n Q X := ⟨ds, h0, h⟩
theorem x_borT {Q : Bool → Nat → Prop} {ds : List PyData} (h0 : ρ[i]? = some (.own ds)) (h : A (ρ.set i (.d (.list ds))) n Q X0) : dBorT i A ρ n Q X := ⟨ds, h0, h⟩
theorem x_isi {c : String} (h : Te ρ n (fun d n1 => isStm d = false ∧ Q (.bool (isiD c d)) n1) X) : dIsi c Te ρ n Q X := h
theorem x_mt {k : String} {rd : RDM} (h : Te ρ n (fun x n1 => tyD x = k ∧ U ρ n1 (fun xs n2 => rd x xs fun z => Q z n2) X) X) : dMt k rd Te U ρ n Q X := h
theorem x_mt0 {k : String} {rd : RDM} (h : Te ρ n (fun x n1 => tyD x = k ∧ rd x [] fun z => Q z n1) X) : dMt0 k rd Te ρ n Q X := h
theorem x_andV (h : Ta ρ n (fun x n1 => ∃ k, x = .bool k ∧ if k = true then Tb ρ n1 Q X else Q (.bool false) n1) X) : dAndV Ta Tb ρ n Q X := h
theorem x_orV (h : Ta ρ n (fun x n1 => ∃ k, x = .bool k ∧ if k = true then Q (.bool true) n1 else Tb ρ n1 Q X) X) : dOrV Ta Tb ρ n Q X := h
theorem x_notV (h : Ta ρ n (fun x n1 => ∃ k, x = .bool k ∧ Q (.bool (!k)) n1) X) : dNotV Ta ρ n Q X := h
/-! tests -/
section
variable {Q : Bool → Nat → Prop}
theorem x_b (h : Te ρ n (fun d n1 => ∃ b, d = .bool b ∧ Q b n1) X) : dB Te ρ n Q X := h
theorem x_tru (h : Te ρ n (fun d n1 => tyD d ≠ "dict" ∧ Q (truD d) n1) X) : dTru Te ρ n Q X := h
theorem x_and (h : A ρ n (fun c n1 => if c = true then B ρ n1 Q X else Q false n1) X) : dAnd A B ρ n Q X := h
theorem x_or (h : A ρ n (fun c n1 => if c = true then Q true n1 else B ρ n1 Q X) X) : dOr A B ρ n Q X := h
theorem x_not (h : A ρ n (fun c n1 => Q (!c) n1) X) : dNot A ρ n Q X := h
theorem x_yes (h : Q true n) : dYes ρ n Q X := h
end
theorem x_bool {P : Bool → Prop} {b : Bool} (h : P b) : ∃ c, PyData.bool b = .bool c ∧ P c := ⟨b, rfl, h⟩
theorem x_int {P : Int → Prop} {b : Int} (h : P b) : ∃ c, PyData.int b = .int c ∧ P c := ⟨b, rfl, h⟩
theorem x_two {P : PyData → PyData → Prop} {a b : PyData} (h : P a b) : ∃ x y, [a, b] = [x, y] ∧ P x y := ⟨a, b, rfl, h⟩
theorem x_three {P : PyData → PyData → PyData → Prop} {a b c : PyData} (h : P a b c) : ∃ x y z, [a, b, c] = [x, y, z] ∧ P x y z := ⟨a, b, c, rfl, h⟩
theorem x_listE {P : List PyData → Prop} {a : List PyData} (h : P a) : ∃ x, PyData.list a = .list x ∧ P x := ⟨a, rfl, h⟩
theorem x_ite {p : Prop} [Decidable p] {P R : Prop} (h1 : p → P) (h2 : ¬ p → R) : if decide p = true then P else R := by
  by_cases h : p
  · rw [decide_eq_true h, if_pos rfl]; exact h1 h
  · rw [decide_eq_false h, if_neg (by decide)]; exact h2 h
theorem x_iteN {p : Prop} [Decidable p] {P R : Prop} (h1 : ¬ p → P) (h2 : p → R) : if (!decide p) = true then P else R := by
  by_cases h : p
  · rw [decide_eq_true h]; exact h2 h
  · rw [decide_eq_false h]; exact h1 h
theorem x_iteB {b : Bool} {P R : Prop} (h1 : b = true → P) (h2 : b = false → R) : if b = true then P else R := by
  cases b
  · exact h2 rfl
  · exact h1 rfl
theorem x_T {P R : Prop} (h : P) : if true = true then P else R := h
theorem x_F {P R : Prop} (h : R) : if false = true then P else R := h
/-! ### operations -/
section
variable {P : PyData → Prop} {a b : Int} {x y : Str} {u v : List PyData}
theorem x_addI (h : P (.int (a + b))) : rAdd (.int a) (.int b) P := h
theorem x_addS (h0 : x.length + y.length ≤ sizeLine) (h : P (.str (x ++ y))) : rAdd (.str x) (.str y) P := ⟨h0, h⟩
theorem x_addL (h0 : u.length + v.length ≤ sizeLine) (h : P (.list (u ++ v))) : rAdd (.list u) (.list v) P := ⟨h0, h⟩
theorem x_addT (h0 : u.length + v.length ≤ sizeLine) (h : P (.tuple (u ++ v))) : rAdd (.tuple u) (.tuple v) P := ⟨h0, h⟩
theorem x_sub (h : P (.int (a - b))) : rSub (.int a) (.int b) P := h
theorem x_mulI (h0 : CMul a b) (h : P (.int (a * b))) : rMul (.int a) (.int b) P := ⟨h0, h⟩
theorem x_mod (h0 : 0 < b) (h : P (.int (a % b))) : rMod (.int a) (.int b) P := ⟨h0, h⟩
theorem x_div (h0 : 0 < b ∧ b < 1073741824) (h : P (.int (a / b))) : rDiv (.int a) (.int b) P := ⟨h0, h⟩
theorem x_ltI (h : P (.bool (decide (a < b)))) : rLt (.int a) (.int b) P := h
theorem x_leI (h : P (.bool (decide (a ≤ b)))) : rLe (.int a) (.int b) P := h
theorem x_gtI (h : P (.bool (decide (b < a)))) : rGt (.int a) (.int b) P := h
theorem x_geI (h : P (.bool (decide (b ≤ a)))) : rGe (.int a) (.int b) P := h
theorem x_ltS (h : P (.bool (decide (x.cps.toList < y.cps.toList)))) : rLt (.str x) (.str y) P := h
theorem x_leS (h : P (.bool (!decide (y.cps.toList < x.cps.toList)))) : rLe (.str x) (.str y) P := h
theorem x_gtS (h : P (.bool (decide (y.cps.toList < x.cps.toList)))) : rGt (.str x) (.str y) P := h
theorem x_geS (h : P (.bool (!decide (x.cps.toList < y.cps.toList)))) : rGe (.str x) (.str y) P := h
theorem x_eqI (h : P (.bool (decide (a = b)))) : rEqv (.int a) (.int b) P := ⟨.inl rfl, by
  have e : PyData.eqv (.int a) (.int b) = decide (a = b) := by simp only [PyData.eqv]; rw [Bool.eq_iff_iff]; simp
  rw [e]; exact h⟩
theorem x_neI (h : P (.bool (!decide (a = b)))) : rNev (.int a) (.int b) P := ⟨.inl rfl, by
  have e : PyData.eqv (.int a) (.int b) = decide (a = b) := by simp only [PyData.eqv]; rw [Bool.eq_iff_iff]; simp
  rw [e]; exact h⟩
theorem str_beq (x y : Str) : (x == y) = decide (x.cps.toList = y.cps.toList) := by
  rw [Bool.eq_iff_iff, decide_eq_true_eq, beq_iff_eq]
  constructor
  · intro h; rw [h]
  · intro h
    cases x; cases y
    congr
    exact Array.toList_inj.mp h
theorem x_eqS (h : P (.bool (decide (x.cps.toList = y.cps.toList)))) : rEqv (.str x) (.str y) P := ⟨.inl rfl, by
  have e : PyData.eqv (.str x) (.str y) = decide (x.cps.toList = y.cps.toList) := by rw [← str_beq]; simp [PyData.eqv]
  rw [e]; exact h⟩
theorem x_neS (h : P (.bool (!decide (x.cps.toList = y.cps.toList)))) : rNev (.str x) (.str y) P := ⟨.inl rfl, by
  have e : PyData.eqv (.str x) (.str y) = decide (x.cps.toList = y.cps.toList) := by rw [← str_beq]; simp [PyData.eqv]
  rw [e]; exact h⟩
theorem x_isN {d : PyData} (h : P (.bool (isNoneD d))) : rIsN d .none P := by cases d <;> exact h
theorem x_notN {d : PyData} (h : P (.bool (!isNoneD d))) : rNotN d .none P := by cases d <;> exact h
theorem x_atL {d : PyData} (h0 : atI u a = some d) (h : P d) : rAt (.list u) (.int a) P := ⟨d, h0, h⟩
theorem x_atT {d : PyData} (h0 : atI u a = some d) (h : P d) : rAt (.tuple u) (.int a) P := ⟨d, h0, h⟩
theorem x_cutL {lo hi : Option Int} (h : P (.list (rCut.cutD u lo hi))) : rCut (.list u) lo hi P := h
theorem x_cutT {lo hi : Option Int} (h : P (.tuple (rCut.cutD u lo hi))) : rCut (.tuple u) lo hi P := h
theorem x_cutS {lo hi : Option Int} (h : P (.str (cutS x lo hi))) : rCut (.str x) lo hi P := h
theorem x_lenS (h : P (.int x.length)) : rLen [.str x] P := h
theorem x_lenL (h : P (.int u.length)) : rLen [.list u] P := h
theorem x_lenT (h : P (.int u.length)) : rLen [.tuple u] P := h
theorem x_tupL (h : P (.tuple u)) : rTupOf [.list u] P := h
theorem x_tupT (h : P (.tuple u)) : rTupOf [.tuple u] P := h
theorem x_listL (h : P (.list u)) : rListOf [.list u] P := h
theorem x_listT (h : P (.list u)) : rListOf [.tuple u] P := h
theorem x_strS (h : P (.str x)) : rStrOf [.str x] P := h
theorem x_abs (h : P (.int (if a < 0 then -a else a))) : rAbs [.int a] P := h
theorem x_min2 (h : P (.int (min a b))) : rMin [.int a, .int b] P := .inl ⟨a, b, rfl, h⟩
theorem x_max2 (h : P (.int (max a b))) : rMax [.int a, .int b] P := .inl ⟨a, b, rfl, h⟩
theorem x_neg (h : P (.int (-a))) : rNeg (.int a) P := h
theorem x_starts (h : P (.bool (Txt.startswith x y))) : rStarts (.str x) [.str y] P := h
theorem x_starts3 (h : P (.bool (Txt.startswith3 x y a))) : rStarts (.str x) [.str y, .int a] P := h
end
/-! ### loops -/
def ForI (g : TGD) (Tb : TSD) (e : DEnds) (ds : List PyData) (ρ : List Cell) (n : Nat) : Prop := ∃ I : Nat → List Cell → Nat → Prop, I 0 ρ n ∧
  (∀ i x ρ n, ds[i]? = some x → I i ρ n → g x ρ fun ρ2 => Tb { e with nx := I (i + 1), ct := I (i + 1), bk := e.nx } ρ2 n) ∧ ∀ ρ n, I ds.length ρ n → e.nx ρ n
theorem x_for {Ti : TID} {g : TGD} (h : Ti ρ n (fun ds n1 => ForI g T e ds ρ n1) e.ex) : dFor Ti g T e ρ n := h
def RngE1 (ds : List PyData) (P : List PyData → Prop) : Prop := ∃ j : Int, ds = [.int j] ∧ -(2 ^ 62) ≤ j ∧ j < 2 ^ 62 ∧ P (rngD 0 j.toNat)
def RngE2 (ds : List PyData) (P : List PyData → Prop) : Prop := ∃ i j : Int, ds = [.int i, .int j] ∧ (-(2 ^ 62) ≤ i ∧ i < 2 ^ 62 ∧ -(2 ^ 62) ≤ j ∧ j < 2 ^ 62) ∧ P (rngD i (j - i).toNat)
def EnE (xs : List PyData) (P : List PyData → Prop) : Prop := ∃ d ds, xs = [d] ∧ srcD d = some ds ∧ P (enD ds)
def ZipE (ds : List PyData) (P : List PyData → Prop) : Prop := ∃ x y xs ys, ds = [x, y] ∧ srcD x = some xs ∧ srcD y = some ys ∧ P (zpD xs ys)
theorem x_rng1 {Q : List PyData → Nat → Prop} (h : U ρ n (fun ds n1 => RngE1 ds fun xs => Q xs n1) X) : dRng1 U ρ n Q X := h
theorem x_rng2 {Q : List PyData → Nat → Prop} (h : U ρ n (fun ds n1 => RngE2 ds fun xs => Q xs n1) X) : dRng2 U ρ n Q X := h
theorem x_src {Q : List PyData → Nat → Prop} (h : Te ρ n (fun d n1 => ∃ ds, srcD d = some ds ∧ Q ds n1) X) : dSrc Te ρ n Q X := h
theorem x_en {Q : List PyData → Nat → Prop} (h : U ρ n (fun ds n1 => EnE ds fun xs => Q xs n1) X) : dEn U ρ n Q X := h
theorem x_zip {Q : List PyData → Nat → Prop} (h : U ρ n (fun ds n1 => ZipE ds fun xs => Q xs n1) X) : dZip U ρ n Q X := h
theorem x_rngE1 {P : List PyData → Prop} {b : Int} (h1 : -(2 ^ 62) ≤ b) (h2 : b < 2 ^ 62) (h : P (rngD 0 b.toNat)) : RngE1 [.int b] P := ⟨b, rfl, h1, h2, h⟩
theorem x_rngE2 {P : List PyData → Prop} {a b : Int} (h0 : -(2 ^ 62) ≤ a ∧ a < 2 ^ 62 ∧ -(2 ^ 62) ≤ b ∧ b < 2 ^ 62) (h : P (rngD a (b - a).toNat)) : RngE2 [.int a, .int b] P := ⟨a, b, rfl, h0, h⟩
theorem x_srcE {P : List PyData → Prop} {d : PyData} {ds : List PyData} (h0 : srcD d = some ds) (h : P ds) : ∃ es, srcD d = some es ∧ P es := ⟨ds, h0, h⟩
theorem x_enE {P : List PyData → Prop} {d : PyData} {ds : List PyData} (h0 : srcD d = some ds) (h : P (enD ds)) : EnE [d] P := ⟨d, ds, rfl, h0, h⟩
theorem x_zipE {P : List PyData → Prop} {d f : PyData} {ds fs : List PyData} (h0 : srcD d = some ds) (h1 : srcD f = some fs) (h : P (zpD ds fs)) : ZipE [d, f] P := ⟨d, f, ds, fs, rfl, h0, h1, h⟩
theorem x_gName {Q : List Cell → Prop} (h : Q (ρ.set i (.d d))) : dgName i d ρ Q := h
theorem x_gPair {g : TGsD} {x y : PyData} {Q : List Cell → Prop} (h : g [x, y] ρ Q) : dgTup 2 g (PAIR x y) ρ Q := ⟨[x, y], rfl, rfl, h⟩
theorem x_gTup {g : TGsD} {m : Nat} {ds : List PyData} {Q : List Cell → Prop} (hl : ds.length = m) (h : g ds ρ Q) : dgTup m g (.tuple ds) ρ Q := ⟨ds, rfl, hl, h⟩
theorem x_gCons {g : TGD} {u : TGsD} {x : PyData} {r : List PyData} {Q : List Cell → Prop} (h : g x ρ fun ρ' => u r ρ' Q) : dgCons g u (x :: r) ρ Q := ⟨x, r, rfl, h⟩
theorem x_gNil {Q : List Cell → Prop} (h : Q ρ) : dgNil [] ρ Q := ⟨rfl, h⟩
/-- a walk by an invariant -/
theorem fori {g : TGD} {ds : List PyData} (I : Nat → List Cell → Nat → Prop) (h0 : I 0 ρ n) (hs : ∀ i x ρ n, ds[i]? = some x → I i ρ n → g x ρ fun ρ2 => T { e with nx := I (i + 1), ct := I (i + 1), bk := e.nx } ρ2 n)
    (hf : ∀ ρ n, I ds.length ρ n → e.nx ρ n) : ForI g T e ds ρ n := ⟨I, h0, hs, hf⟩
theorem rng_at {lo : Int} {m i : Nat} {x : PyData} (h : (rngD lo m)[i]? = some x) : i < m ∧ x = .int (lo + i) := by
  have hi := (List.getElem?_eq_some_iff.mp h).1
  rw [rngD_len] at hi
  unfold rngD at h
  rw [List.getElem?_map, List.getElem?_range hi] at h
  cases h
  exact ⟨hi, rfl⟩
theorem for_rng {g : TGD} {lo : Int} {m : Nat} (I : Nat → List Cell → Nat → Prop) (h0 : I 0 ρ n) (hs : ∀ i ρ n, i < m → I i ρ n → g (.int (lo + i)) ρ fun ρ2 => T { e with nx := I (i + 1), ct := I (i + 1), bk := e.nx } ρ2 n)
    (hf : ∀ ρ n, I m ρ n → e.nx ρ n) : ForI g T e (rngD lo m) ρ n := fori I h0 (fun i x ρ n h q => by
  obtain ⟨hi, rfl⟩ := rng_at h
  exact hs i ρ n hi q) (by rw [rngD_len]; exact hf)
/-- .. its numbers as such of places -/
theorem for_rngN {g : TGD} {lo m : Nat} (I : Nat → List Cell → Nat → Prop) (h0 : I 0 ρ n) (hs : ∀ i ρ n, i < m → I i ρ n → g (.int ((lo + i : Nat) : Int)) ρ fun ρ2 => T { e with nx := I (i + 1), ct := I (i + 1), bk := e.nx } ρ2 n)
    (hf : ∀ ρ n, I m ρ n → e.nx ρ n) : ForI g T e (rngD (lo : Int) m) ρ n := for_rng I h0 (fun i ρ n hi q => by
  have := hs i ρ n hi q
  rw [show ((lo + i : Nat) : Int) = (lo : Int) + i by omega] at this
  exact this) hf
theorem for_map {α : Type} {g : TGD} {f : α → PyData} {xs : List α} (I : Nat → List Cell → Nat → Prop) (h0 : I 0 ρ n) (hs : ∀ i x ρ n, xs[i]? = some x → I i ρ n → g (f x) ρ fun ρ2 => T { e with nx := I (i + 1), ct := I (i + 1), bk := e.nx } ρ2 n)
    (hf : ∀ ρ n, I xs.length ρ n → e.nx ρ n) : ForI g T e (xs.map f) ρ n := fori I h0 (fun i x ρ n h q => by
  rw [List.getElem?_map] at h
  obtain ⟨y, hy, rfl⟩ := Option.map_eq_some_iff.mp h
  exact hs i y ρ n hy q) (by rw [List.length_map]; exact hf)
/-! ### list comprehensions -/
def LcI (g : TGD) (tt : TTD) (te : TD) (ρ : List Cell) (ds : List PyData) (n : Nat) (Q : List PyData → Nat → Prop) : Prop := ∃ I : Nat → List PyData → Nat → Prop, I 0 [] n ∧
  (∀ i x acc n, ds[i]? = some x → I i acc n → g x ρ fun ρ2 => tt ρ2 n (fun b n1 => if b = true then te ρ2 n1 (fun y n2 => acc.length < sizeLine ∧ I (i + 1) (acc ++ [y]) n2) X0 else I (i + 1) acc n1) X0) ∧
  ∀ acc n, I ds.length acc n → Q acc n
theorem x_lc {vs : List Nat} {Ti : TID} {g : TGD} {Q : List PyData → Nat → Prop} (h : Ti ρ n (fun ds n1 => LcI g A Te (wipeC ρ vs) ds n1 Q) X) : dLc vs Ti g A Te ρ n Q X := h
theorem lci {g : TGD} {ds : List PyData} {Q : List PyData → Nat → Prop} (I : Nat → List PyData → Nat → Prop) (h0 : I 0 [] n)
    (hs : ∀ i x acc n, ds[i]? = some x → I i acc n → g x ρ fun ρ2 => A ρ2 n (fun b n1 => if b = true then Te ρ2 n1 (fun y n2 => acc.length < sizeLine ∧ I (i + 1) (acc ++ [y]) n2) X0 else I (i + 1) acc n1) X0)
    (hf : ∀ acc n, I ds.length acc n → Q acc n) : LcI g A Te ρ ds n Q := ⟨I, h0, hs, hf⟩
/-! ### a cut -/
theorem cutI (J : List Cell → Nat → Prop) (h1 : S { e with nx := J } ρ n) (h2 : ∀ ρ n, J ρ n → T e ρ n) : dCut S T e ρ n := ⟨J, h1, h2⟩
end
/-! ### words -/
def W (L : List Nat) : PyData := .str ⟨L.toArray⟩
def Ltr (c : Nat) : Prop := 97 ≤ c ∧ c ≤ 122
def Ltrs (L : List Nat) : Prop := ∀ c ∈ L, Ltr c
theorem W_len (L : List Nat) : (⟨L.toArray⟩ : Str).length = L.length := by
  show L.toArray.size = L.length
  rw [List.size_toArray]
theorem W_cps (L : List Nat) : (⟨L.toArray⟩ : Str).cps.toList = L := rfl
theorem cutW_drop (L : List Nat) (p : Nat) : cutS ⟨L.toArray⟩ (some (p : Int)) none = ⟨(L.drop p).toArray⟩ := by
  unfold cutS
  have e : (⟨L.toArray⟩ : Str).length = L.length := W_len L
  rw [e, show HT.sIx L.length 0 (some (p : Int)) = min p L.length from HT.sIx_nat L.length 0 p, HT.sIx_none]
  show Str.mk ((L.drop (min p L.length)).take (L.length - min p L.length)).toArray = _
  congr 2
  by_cases h : p ≤ L.length
  · rw [Nat.min_eq_left h]
    exact List.take_of_length_le (by rw [List.length_drop]; exact Nat.le_refl _)
  · rw [Nat.min_eq_right (by omega), List.drop_length, List.drop_eq_nil_of_le (by omega)]
    simp
theorem cutW_take (L : List Nat) (p : Nat) : cutS ⟨L.toArray⟩ none (some (p : Int)) = ⟨(L.take p).toArray⟩ := by
  unfold cutS
  have e : (⟨L.toArray⟩ : Str).length = L.length := W_len L
  rw [e, HT.sIx_none, show HT.sIx L.length L.length (some (p : Int)) = min p L.length from HT.sIx_nat L.length L.length p]
  show Str.mk ((L.drop 0).take (min p L.length - 0)).toArray = _
  congr 2
  rw [List.drop_zero, Nat.sub_zero, List.take_eq_take_iff]
  omega
theorem cutW_both (L : List Nat) (p q : Nat) : cutS ⟨L.toArray⟩ (some (p : Int)) (some (q : Int)) = ⟨((L.drop p).take (q - p)).toArray⟩ := by
  unfold cutS
  have e : (⟨L.toArray⟩ : Str).length = L.length := W_len L
  rw [e, show HT.sIx L.length 0 (some (p : Int)) = min p L.length from HT.sIx_nat L.length 0 p, show HT.sIx L.length L.length (some (q : Int)) = min q L.length from HT.sIx_nat L.length L.length q]
  show Str.mk ((L.drop (min p L.length)).take (min q L.length - min p L.length)).toArray = _
  congr 2
  by_cases h : p ≤ L.length
  · rw [Nat.min_eq_left h, List.take_eq_take_iff, List.length_drop]
    omega
  · rw [Nat.min_eq_right (show L.length ≤ p by omega), List.drop_length, List.drop_eq_nil_of_le (show L.length ≤ p by omega)]
    simp
theorem W_app (A B : List Nat) : (⟨A.toArray⟩ ++ ⟨B.toArray⟩ : Str) = ⟨(A ++ B).toArray⟩ := by
  show Str.mk (A.toArray ++ B.toArray) = _
  rw [List.append_toArray]
section
variable {P : PyData → Prop} {A B L : List Nat} {a : Int}
theorem w_cut1 {p : Nat} (h : P (W (L.drop p))) : rCut (W L) (some (p : Int)) none P := by
  show P (.str (cutS _ _ _)); rw [cutW_drop]; exact h
theorem w_cut2 {p : Nat} (h : P (W (L.take p))) : rCut (W L) none (some (p : Int)) P := by
  show P (.str (cutS _ _ _)); rw [cutW_take]; exact h
theorem w_cut3 {p q : Nat} (h : P (W ((L.drop p).take (q - p)))) : rCut (W L) (some (p : Int)) (some (q : Int)) P := by
  show P (.str (cutS _ _ _)); rw [cutW_both]; exact h
theorem w_cut1T (ha : 0 ≤ a) (h : P (W (L.drop a.toNat))) : rCut (W L) (some a) none P := by
  obtain ⟨p, rfl⟩ := Int.eq_ofNat_of_zero_le ha; exact w_cut1 h
theorem w_cut2T (ha : 0 ≤ a) (h : P (W (L.take a.toNat))) : rCut (W L) none (some a) P := by
  obtain ⟨p, rfl⟩ := Int.eq_ofNat_of_zero_le ha; exact w_cut2 h
theorem w_cut3T {b : Int} (ha : 0 ≤ a ∧ 0 ≤ b) (h : P (W ((L.drop a.toNat).take (b.toNat - a.toNat)))) : rCut (W L) (some a) (some b) P := by
  obtain ⟨p, rfl⟩ := Int.eq_ofNat_of_zero_le ha.1
  obtain ⟨q, rfl⟩ := Int.eq_ofNat_of_zero_le ha.2
  exact w_cut3 h
theorem w_add (h0 : A.length + B.length ≤ 1000) (h : P (W (A ++ B))) : rAdd (W A) (W B) P := by
  refine ⟨?_, ?_⟩
  · rw [W_len, W_len]; exact Nat.le_trans h0 (by decide)
  · rw [W_app]; exact h
theorem w_len (h : P (.int L.length)) : rLen [W L] P := by
  show P (.int (⟨L.toArray⟩ : Str).length); rw [W_len]; exact h
theorem one_lt (a b : Nat) : [a] < [b] ↔ a < b := by
  rw [List.cons_lt_cons_iff]
  constructor
  · rintro (h | ⟨_, h⟩)
    · exact h
    · exact absurd h (List.lt_irrefl _)
  · exact fun h => .inl h
theorem dec_iff {p q : Prop} [Decidable p] [Decidable q] (h : p ↔ q) : decide p = decide q := by
  by_cases z : q
  · rw [decide_eq_true z, decide_eq_true (h.mpr z)]
  · rw [decide_eq_false z, decide_eq_false (fun w => z (h.mp w))]
theorem w_lt1 {a b : Nat} (h : P (.bool (decide (a < b)))) : rLt (W [a]) (W [b]) P := by
  show P (.bool (decide ([a] < [b]))); rw [dec_iff (one_lt a b)]; exact h
theorem w_gt1 {a b : Nat} (h : P (.bool (decide (b < a)))) : rGt (W [a]) (W [b]) P := by
  show P (.bool (decide ([b] < [a]))); rw [dec_iff (one_lt b a)]; exact h
theorem w_le1 {a b : Nat} (h : P (.bool (!decide (b < a)))) : rLe (W [a]) (W [b]) P := by
  show P (.bool (!decide ([b] < [a]))); rw [dec_iff (one_lt b a)]; exact h
theorem w_ge1 {a b : Nat} (h : P (.bool (!decide (a < b)))) : rGe (W [a]) (W [b]) P := by
  show P (.bool (!decide ([a] < [b]))); rw [dec_iff (one_lt a b)]; exact h
theorem one_eq (a b : Nat) : [a] = [b] ↔ a = b := by simp
theorem w_eq1 {a b : Nat} (h : P (.bool (decide (a = b)))) : rEqv (W [a]) (W [b]) P := by
  refine x_eqS (x := ⟨#[a]⟩) (y := ⟨#[b]⟩) ?_
  show P (.bool (decide ([a] = [b]))); rw [dec_iff (one_eq a b)]; exact h
theorem w_ne1 {a b : Nat} (h : P (.bool (!decide (a = b)))) : rNev (W [a]) (W [b]) P := by
  refine x_neS (x := ⟨#[a]⟩) (y := ⟨#[b]⟩) ?_
  show P (.bool (!decide ([a] = [b]))); rw [dec_iff (one_eq a b)]; exact h
theorem w_lt (h : P (.bool (decide (A < B)))) : rLt (W A) (W B) P := h
theorem w_le (h : P (.bool (!decide (B < A)))) : rLe (W A) (W B) P := h
theorem w_gt (h : P (.bool (decide (B < A)))) : rGt (W A) (W B) P := h
theorem w_ge (h : P (.bool (!decide (A < B)))) : rGe (W A) (W B) P := h
theorem w_eq (h : P (.bool (decide (A = B)))) : rEqv (W A) (W B) P := x_eqS (x := ⟨A.toArray⟩) (y := ⟨B.toArray⟩) h
theorem w_ne (h : P (.bool (!decide (A = B)))) : rNev (W A) (W B) P := x_neS (x := ⟨A.toArray⟩) (y := ⟨B.toArray⟩) h
theorem w_str (h : P (W L)) : rStrOf [W L] P := h
end
end Kd
namespace Kd
open PySem PySem.Spec PyProof.Rows L2 Kb Km
/-! ### sorted words, numbers, pairs of both -/
def leW (a b : List Nat) : Bool := decide (a ≤ b)
theorem leW_trans (a b c : List Nat) (h1 : leW a b = true) (h2 : leW b c = true) : leW a c = true := decide_eq_true (List.le_trans (of_decide_eq_true h1) (of_decide_eq_true h2))
theorem leW_total (a b : List Nat) : (leW a b || leW b a) = true := by
  rcases List.le_total a b with h | h
  · rw [show leW a b = true from decide_eq_true h]; rfl
  · rw [show leW b a = true from decide_eq_true h, Bool.or_true]
theorem leD_W (a b : List Nat) : leD (W a) (W b) = leW a b := congrFun (congrFun (PySem.W.dataLe_str (fun L : List Nat => (⟨L.toArray⟩ : Str))) a) b
theorem alike_W : ∀ a b, PySem.W.alike (W a) (W b) = true := fun a b => by unfold W; simp [PySem.W.alike]
theorem noDict_W (a : List Nat) : (W a).hasDict = false := by unfold W; simp [PyData.hasDict]
theorem depth_W (a : List Nat) : (W a).depth = 0 := by unfold W; simp [PyData.depth]
section
variable {P : PyData → Prop}
theorem x_sortedW {Ls : List (List Nat)} (h : P (.list ((Ls.mergeSort leW).map W))) : rSorted' [.list (Ls.map W)] P := by
  refine ⟨⟨fun d hd d' hd' => ?_, .inr fun d hd => ?_, fun d hd => ?_⟩, ?_⟩
  · obtain ⟨a, _, rfl⟩ := List.mem_map.mp hd
    obtain ⟨b, _, rfl⟩ := List.mem_map.mp hd'
    exact alike_W a b
  · obtain ⟨a, _, rfl⟩ := List.mem_map.mp hd
    exact ⟨fun z => (nomatch z), fun _ z => (nomatch z)⟩
  · obtain ⟨a, _, rfl⟩ := List.mem_map.mp hd
    exact ⟨by rw [depth_W]; decide, noDict_W a⟩
  · rw [← List.map_mergeSort (f := W) (r := leW) (s := leD) (l := Ls) (fun a _ b _ => (leD_W a b).symm)]
    exact h
def leI (a b : Int) : Bool := decide (a ≤ b)
theorem leD_I (a b : Int) : leD (.int a) (.int b) = leI a b := congrFun (congrFun (PySem.W.dataLe_int (fun L : Int => L)) a) b
theorem x_sortedI {ns : List Int} (h : P (.list ((ns.mergeSort leI).map .int))) : rSorted' [.list (ns.map .int)] P := by
  refine ⟨⟨fun d hd d' hd' => ?_, .inr fun d hd => ?_, fun d hd => ?_⟩, ?_⟩
  · obtain ⟨a, _, rfl⟩ := List.mem_map.mp hd
    obtain ⟨b, _, rfl⟩ := List.mem_map.mp hd'
    simp [PySem.W.alike]
  · obtain ⟨a, _, rfl⟩ := List.mem_map.mp hd
    exact ⟨fun z => (nomatch z), fun _ z => (nomatch z)⟩
  · obtain ⟨a, _, rfl⟩ := List.mem_map.mp hd
    exact ⟨by simp [PyData.depth], by simp [PyData.hasDict]⟩
  · rw [← List.map_mergeSort (f := PyData.int) (r := leI) (s := leD) (l := ns) (fun a _ b _ => (leD_I a b).symm)]
    exact h
/-- (text, number) -/
def WI (p : List Nat × Nat) : PyData := .tuple [W p.1, .int (p.2 : Nat)]
def leWI (p q : List Nat × Nat) : Bool := decide (p.1 < q.1 ∨ (p.1 = q.1 ∧ p.2 ≤ q.2))
theorem eqv_W (a b : List Nat) : PyData.eqv (W a) (W b) = decide (a = b) := by
  unfold W
  simp only [PyData.eqv]
  exact str_beq _ _
theorem leD_WI (p q : List Nat × Nat) : leD (WI p) (WI q) = leWI p q := by
  show (!PySem.W.dataLt (WI q) (WI p)) = _
  unfold WI leWI
  have d1 : PySem.W.dataLt (W q.1) (W p.1) = decide (q.1 < p.1) := PySem.W.dataLt_str ⟨q.1.toArray⟩ ⟨p.1.toArray⟩
  rw [PySem.W.dataLt_pair (alike_W _ _) (by simp [PySem.W.alike]), eqv_W, d1, PySem.W.dataLt_int]
  have e2 : PyData.eqv (.int (q.2 : Int)) (.int (p.2 : Int)) = decide (q.2 = p.2) := by
    simp only [PyData.eqv]; rw [Bool.eq_iff_iff]; simp; omega
  rw [e2]
  by_cases h : q.1 = p.1
  · have ne : ¬ p.1 < q.1 := by rw [h]; exact List.lt_irrefl _
    by_cases g : q.2 = p.2
    · simp [h, g]
    · rw [if_pos (decide_eq_true h), if_neg (by simpa using g)]
      rw [Bool.eq_iff_iff]
      simp only [Bool.not_eq_true', decide_eq_false_iff_not, decide_eq_true_eq]
      constructor
      · intro z; exact .inr ⟨h.symm, by omega⟩
      · rintro (z | ⟨_, z⟩)
        · exact absurd z ne
        · omega
  · rw [if_neg (by simpa using h)]
    rw [Bool.eq_iff_iff]
    simp only [Bool.not_eq_true', decide_eq_false_iff_not, decide_eq_true_eq]
    constructor
    · intro z; exact .inl (tri z (fun e => h e.symm))
    · rintro (z | ⟨z, _⟩)
      · exact fun w => List.lt_asymm w z
      · exact absurd z.symm h
theorem x_sortedWI {ps : List (List Nat × Nat)} (h : P (.list ((ps.mergeSort leWI).map WI))) : rSorted' [.list (ps.map WI)] P := by
  refine ⟨⟨fun d hd d' hd' => ?_, .inl fun d hd => ?_, fun d hd => ?_⟩, ?_⟩
  · obtain ⟨a, _, rfl⟩ := List.mem_map.mp hd
    obtain ⟨b, _, rfl⟩ := List.mem_map.mp hd'
    unfold WI W
    simp [PySem.W.alike, PySem.W.alikeAll]
  · obtain ⟨a, _, rfl⟩ := List.mem_map.mp hd
    exact ⟨_, _, rfl⟩
  · obtain ⟨a, _, rfl⟩ := List.mem_map.mp hd
    unfold WI W
    exact ⟨by simp [PyData.depth, PyData.depthAll], by simp [PyData.hasDict, PyData.hasDictAll]⟩
  · rw [← List.map_mergeSort (f := WI) (r := leWI) (s := leD) (l := ps) (fun a _ b _ => (leD_WI a b).symm)]
    exact h
end
/-! ### the tail order as a function -/
def tls (L : List Nat) : List (List Nat) := ((List.range L.length).map fun i => L.drop i).mergeSort leW
def tord (L : List Nat) : List Nat := (tls L).map fun y => L.length - y.length
theorem tord_ok (L : List Nat) : TailOrd L (tord L) := by
  refine of_sorted (List.mergeSort_perm _ _) ?_
  refine (List.pairwise_mergeSort leW_trans leW_total _).imp fun {a b} h => ?_
  exact List.not_lt.mpr (of_decide_eq_true h)
theorem tord_len (L : List Nat) : (tord L).length = L.length := (tord_ok L).len
theorem tord_lt {L : List Nat} {i : Nat} (h : i ∈ tord L) : i < L.length := (tord_ok L).lt h
end Kd
namespace Km
/-- what rank_places makes of the first i places -/
def rk (r : List Nat) : Nat → List Nat
  | 0 => List.replicate r.length 0
  | i + 1 => (rk r i).set (r.getD i 0) i
theorem rk_len (r : List Nat) : ∀ i, (rk r i).length = r.length
  | 0 => List.length_replicate
  | i + 1 => by
    show ((rk r i).set (r.getD i 0) i).length = r.length
    rw [List.length_set, rk_len r i]
theorem rk_at {r : List Nat} (nd : r.Nodup) (lt : ∀ i ∈ r, i < r.length) : ∀ n, n ≤ r.length → ∀ (k : Nat) (h : k < r.length), k < n → (rk r n)[r[k]]? = some k
  | 0, _, k, _, hk => absurd hk (Nat.not_lt_zero _)
  | n + 1, hn, k, h, hk => by
    show ((rk r n).set (r.getD n 0) n)[r[k]]? = some k
    have hg : r.getD n 0 = r[n] := by
      rw [List.getD_eq_getElem?_getD, List.getElem?_eq_getElem (by omega)]
      rfl
    rw [hg]
    by_cases e : k = n
    · subst e
      rw [List.getElem?_set_self]
      rw [rk_len]
      exact lt _ (List.getElem_mem h)
    · rw [List.getElem?_set_ne]
      · exact rk_at nd lt n (by omega) k h (by omega)
      · intro z
        exact e ((List.getElem_inj nd).mp z).symm
/-- an order of places -/
def Ord (r : List Nat) : Prop := r.Perm (List.range r.length)
theorem Ord.nd {r : List Nat} (h : Ord r) : r.Nodup := h.nodup_iff.mpr List.nodup_range
theorem Ord.lt {r : List Nat} (h : Ord r) {i : Nat} (hi : i ∈ r) : i < r.length := List.mem_range.mp (h.mem_iff.mp hi)
theorem Ord.mem {r : List Nat} (h : Ord r) {i : Nat} (hi : i < r.length) : i ∈ r := h.mem_iff.mpr (List.mem_range.mpr hi)
theorem TailOrd.ord {L r : List Nat} (h : TailOrd L r) : Ord r := by
  unfold Ord
  rw [h.len]
  exact h.1
theorem Ord.rk_at {r : List Nat} (h : Ord r) (k : Nat) (hk : k < r.length) : (rk r r.length)[r[k]]? = some k :=
  Km.rk_at h.nd (fun _ hi => h.lt hi) r.length (Nat.le_refl _) k hk hk
theorem TailOrd.rk_cnt {L r : List Nat} (h : TailOrd L r) : rk r r.length = (List.range L.length).map (cnt L) := by
  apply List.ext_getElem?
  intro i
  by_cases hi : i < r.length
  · obtain ⟨k, hk, rfl⟩ := List.getElem_of_mem (h.ord.mem hi)
    rw [h.ord.rk_at k hk, List.getElem?_map, List.getElem?_range (h.lt (List.getElem_mem hk))]
    show some k = some (cnt L r[k])
    rw [h.cnt_at k hk]
  · rw [List.getElem?_eq_none (by rw [rk_len]; omega), List.getElem?_eq_none (by rw [List.length_map, List.length_range, ← h.len]; omega)]
end Km
namespace Kd
open PySem PySem.Spec PyProof.Rows L2 Kb Km
section
variable {ρ : List Cell} {n : Nat} {A : TTD} {Te : TD} {g : TGD} {Q : List PyData → Nat → Prop} {α : Type} {e : α → PyData} {xs : List α}
theorem lc_L (p : α → Bool) (f : α → PyData) (hl : xs.length ≤ 1000000)
    (hs : ∀ x ∈ xs, ∀ (P : PyData → Nat → Prop) (R : Nat → Prop), (p x = true → P (f x) n) → (p x = false → R n) → g (e x) ρ fun ρ2 => A ρ2 n (fun b n1 => if b = true then Te ρ2 n1 P X0 else R n1) X0)
    (hf : Q ((xs.filter p).map f) n) : LcI g A Te ρ (xs.map e) n Q := by
  refine lci (fun i acc k => k = n ∧ acc = ((xs.take i).filter p).map f) ⟨rfl, by simp⟩ (fun i x acc k hx ⟨hk, ha⟩ => ?_) (fun acc k ⟨hk, ha⟩ => ?_)
  · subst hk
    rw [List.getElem?_map] at hx
    obtain ⟨y, hy, rfl⟩ := Option.map_eq_some_iff.mp hx
    have hi := (List.getElem?_eq_some_iff.mp hy).1
    have hm : y ∈ xs := List.mem_of_getElem? hy
    have tk : xs.take (i + 1) = xs.take i ++ [y] := by rw [List.take_add_one, hy]; rfl
    refine hs y hm _ _ (fun h => ⟨?_, rfl, ?_⟩) (fun h => ⟨rfl, ?_⟩)
    · rw [ha, List.length_map]
      have := List.length_filter_le p (xs.take i)
      rw [List.length_take] at this
      have s : sizeLine = 16777216 := sizeLine_eq
      omega
    · rw [ha, tk, List.filter_append, List.map_append]
      simp [h]
    · rw [ha, tk, List.filter_append, List.map_append]
      simp [h]
  · subst hk
    rw [List.length_map] at ha
    rw [ha, List.take_length]
    exact hf
theorem lc_A (f : α → PyData) (hl : xs.length ≤ 1000000) (hs : ∀ x ∈ xs, ∀ (P : PyData → Nat → Prop), P (f x) n → g (e x) ρ fun ρ2 => Te ρ2 n P X0) (hf : Q (xs.map f) n) : LcI g dYes Te ρ (xs.map e) n Q := by
  refine lc_L (fun _ => true) f hl (fun x hx P R h1 h2 => ?_) (by rw [List.filter_eq_self.mpr (fun _ _ => rfl)]; exact hf)
  exact hs x hx P (h1 rfl)
theorem rngN (lo m : Nat) : rngD (lo : Int) m = (List.range m).map fun i : Nat => .int ((lo + i : Nat) : Int) := by
  unfold rngD
  refine List.map_congr_left fun i _ => ?_
  congr 1
/-- over range(lo, ..) -/
theorem lc_RF {lo m : Nat} (p : Nat → Bool) (f : Nat → PyData) (hl : m ≤ 1000000)
    (hs : ∀ i, i < m → ∀ (P : PyData → Nat → Prop) (R : Nat → Prop), (p i = true → P (f i) n) → (p i = false → R n) → g (.int ((lo + i : Nat) : Int)) ρ fun ρ2 => A ρ2 n (fun b n1 => if b = true then Te ρ2 n1 P X0 else R n1) X0)
    (hf : Q (((List.range m).filter p).map f) n) : LcI g A Te ρ (rngD (lo : Int) m) n Q := by
  rw [rngN]
  exact lc_L p f (by rw [List.length_range]; exact hl) (fun i hi => hs i (List.mem_range.mp hi)) hf
theorem lc_RA {lo m : Nat} (f : Nat → PyData) (hl : m ≤ 1000000) (hs : ∀ i, i < m → ∀ (P : PyData → Nat → Prop), P (f i) n → g (.int ((lo + i : Nat) : Int)) ρ fun ρ2 => Te ρ2 n P X0)
    (hf : Q ((List.range m).map f) n) : LcI g dYes Te ρ (rngD (lo : Int) m) n Q := by
  rw [rngN]
  exact lc_A f (by rw [List.length_range]; exact hl) (fun i hi => hs i (List.mem_range.mp hi)) hf
/-- range(0, ..), the place itself -/
theorem lc_R0F {m : Nat} (p : Nat → Bool) (f : Nat → PyData) (hl : m ≤ 1000000)
    (hs : ∀ i, i < m → ∀ (P : PyData → Nat → Prop) (R : Nat → Prop), (p i = true → P (f i) n) → (p i = false → R n) → g (.int (i : Int)) ρ fun ρ2 => A ρ2 n (fun b n1 => if b = true then Te ρ2 n1 P X0 else R n1) X0)
    (hf : Q (((List.range m).filter p).map f) n) : LcI g A Te ρ (rngD 0 m) n Q := lc_RF (lo := 0) p f hl (fun i hi => by rw [Nat.zero_add]; exact hs i hi) hf
theorem lc_R0A {m : Nat} (f : Nat → PyData) (hl : m ≤ 1000000) (hs : ∀ i, i < m → ∀ (P : PyData → Nat → Prop), P (f i) n → g (.int (i : Int)) ρ fun ρ2 => Te ρ2 n P X0)
    (hf : Q ((List.range m).map f) n) : LcI g dYes Te ρ (rngD 0 m) n Q := lc_RA (lo := 0) f hl (fun i hi => by rw [Nat.zero_add]; exact hs i hi) hf
end
section
variable {ρ : List Cell} {n : Nat} {T : TSD} {e : DEnds} {g : TGD}
theorem for_rng0 {m : Nat} (I : Nat → List Cell → Nat → Prop) (h0 : I 0 ρ n) (hs : ∀ i ρ n, i < m → I i ρ n → g (.int (i : Int)) ρ fun ρ2 => T { e with nx := I (i + 1), ct := I (i + 1), bk := e.nx } ρ2 n)
    (hf : ∀ ρ n, I m ρ n → e.nx ρ n) : ForI g T e (rngD 0 m) ρ n := for_rngN (lo := 0) I h0 (fun i ρ n hi q => by rw [Nat.zero_add]; exact hs i ρ n hi q) hf
end
/-! ### places as data -/
theorem plD_len (r : List Nat) : (plD r).length = r.length := by unfold plD; rw [List.length_map]
theorem plD_get (r : List Nat) (i : Nat) : (plD r)[i]? = r[i]?.map fun p : Nat => PyData.int p := by unfold plD; rw [List.getElem?_map]
theorem pl_map {α : Type} (xs : List α) (f : α → Nat) : (xs.map fun i => PyData.int ((f i : Nat) : Int)) = plD (xs.map f) := by unfold plD; rw [List.map_map]; rfl
section
variable {P : PyData → Prop}
theorem pl_at {r : List Nat} {i p : Nat} (h0 : r[i]? = some p) (h : P (.int (p : Nat))) : rAt (.tuple (plD r)) (.int (i : Int)) P := by
  refine ⟨.int (p : Nat), ?_, h⟩
  unfold L2.atI
  have hi := (List.getElem?_eq_some_iff.mp h0).1
  rw [plD_len, ixNat hi]
  show (plD r)[i]? = _
  rw [plD_get, h0]
  rfl
theorem pl_len {r : List Nat} (h : P (.int r.length)) : rLen [.tuple (plD r)] P := by
  show P (.int (plD r).length); rw [plD_len]; exact h
theorem pl_lenL {r : List Nat} (h : P (.int r.length)) : rLen [.list (plD r)] P := by
  show P (.int (plD r).length); rw [plD_len]; exact h
theorem cutD_nat (r : List PyData) (lo hi : Option Nat) : rCut.cutD r (lo.map fun x : Nat => (x : Int)) (hi.map fun x : Nat => (x : Int)) = (r.take (hi.getD r.length)).drop (lo.getD 0) := by
  unfold rCut.cutD
  have s1 : HT.sIx r.length 0 (lo.map fun x : Nat => (x : Int)) = min (lo.getD 0) r.length := by
    cases lo with
    | none => show HT.sIx r.length 0 none = _; rw [HT.sIx_none]; simp
    | some p => exact HT.sIx_nat r.length 0 p
  have s2 : HT.sIx r.length r.length (hi.map fun x : Nat => (x : Int)) = min (hi.getD r.length) r.length := by
    cases hi with
    | none => show HT.sIx r.length r.length none = _; rw [HT.sIx_none]; simp
    | some p => exact HT.sIx_nat r.length r.length p
  rw [s1, s2]
  apply List.ext_getElem?
  intro i
  rw [List.getElem?_take, List.getElem?_drop, List.getElem?_drop, List.getElem?_take]
  by_cases h : lo.getD 0 ≤ r.length
  · rw [Nat.min_eq_left h]
    by_cases h2 : i < min (hi.getD r.length) r.length - lo.getD 0
    · rw [if_pos h2, if_pos (by omega)]
    · rw [if_neg h2]
      split
      · rw [List.getElem?_eq_none (by omega)]
      · rfl
  · rw [Nat.min_eq_right (show r.length ≤ lo.getD 0 by omega)]
    split
    · rw [List.getElem?_eq_none (by omega)]
      split
      · rw [List.getElem?_eq_none (by omega)]
      · rfl
    · split
      · rw [List.getElem?_eq_none (by omega)]
      · rfl
theorem plD_take (r : List Nat) (k : Nat) : (plD r).take k = plD (r.take k) := by unfold plD; rw [List.map_take]
theorem plD_drop (r : List Nat) (k : Nat) : (plD r).drop k = plD (r.drop k) := by unfold plD; rw [List.map_drop]
theorem pl_cutTo {r : List Nat} {p : Nat} (h : P (.tuple (plD (r.take p)))) : rCut (.tuple (plD r)) none (some (p : Int)) P := by
  show P (.tuple (rCut.cutD _ _ _))
  rw [show rCut.cutD (plD r) none (some (p : Int)) = _ from cutD_nat (plD r) none (some p), Option.getD_none, Option.getD_some, List.drop_zero, plD_take]
  exact h
theorem pl_cutFrom {r : List Nat} {p : Nat} (h : P (.tuple (plD (r.drop p)))) : rCut (.tuple (plD r)) (some (p : Int)) none P := by
  show P (.tuple (rCut.cutD _ _ _))
  rw [show rCut.cutD (plD r) (some (p : Int)) none = _ from cutD_nat (plD r) (some p) none, Option.getD_none, Option.getD_some, List.take_length, plD_drop]
  exact h
theorem pl_add {r s : List Nat} (h0 : r.length + s.length ≤ 1000) (h : P (.tuple (plD (r ++ s)))) : rAdd (.tuple (plD r)) (.tuple (plD s)) P := by
  refine ⟨by rw [plD_len, plD_len]; exact Nat.le_trans h0 (by decide), ?_⟩
  rw [show plD r ++ plD s = plD (r ++ s) by unfold plD; rw [List.map_append]]
  exact h
end
theorem rep_zero (k : Nat) : (List.replicate k [PyData.int 0]).flatten = plD (List.replicate k 0) := by
  induction k with
  | zero => rfl
  | succ k ih => rw [List.replicate_succ, List.flatten_cons, ih, List.replicate_succ]; rfl
theorem plD_set (r : List Nat) (i x : Nat) : (plD r).set i (.int (x : Nat)) = plD (r.set i x) := by unfold plD; rw [List.map_set]
/-- enumerate of places -/
theorem for_enPl {ρ : List Cell} {n : Nat} {T : TSD} {e : DEnds} {g : TGD} {r : List Nat} (I : Nat → List Cell → Nat → Prop) (h0 : I 0 ρ n)
    (hs : ∀ i p ρ n, r[i]? = some p → I i ρ n → g (PAIR (.int (i : Nat)) (.int (p : Nat))) ρ fun ρ2 => T { e with nx := I (i + 1), ct := I (i + 1), bk := e.nx } ρ2 n)
    (hf : ∀ ρ n, I r.length ρ n → e.nx ρ n) : ForI g T e (enD (plD r)) ρ n := fori I h0 (fun i x ρ n h q => by
  obtain ⟨y, hy, rfl⟩ := enD_at h
  rw [plD_get] at hy
  obtain ⟨p, hp, rfl⟩ := Option.map_eq_some_iff.mp hy
  exact hs i p ρ n hp q) (by rw [enD_len, plD_len]; exact hf)
end Kd
namespace Kd
open PySem PySem.Spec PyProof.Rows L2 Kb Km
/-! ### defs that ask that no guard stands around them (repr) -/
structure FnG (P : Program) (w : World) (K : PySem.W.Frag) (mg : Str → Option Value) (base : Heap) (k : Nat) (f : Addr) (fd : FuncData) (ps : List Str) (sp : Sp) : Prop where
  len : ∀ vs H Q E, sp vs H Q E → vs.length = ps.length
  run : ∀ (A : Around) (outer : List Env) (s : Shared) (H : Hp) (args : Args) (us : List Value) (vs : List V) (Q : VK), Room k A → A.guards = some [] → Env0 P w K mg base A outer s H → BindsTo s fd args (ps.zip us) → Vals vs us → sp vs H Q E0 →
    codeAny (model P w) A (.call (.ref f) args) (CR CX0 outer P w H s Q E0) s
theorem FnG.mono {P : Program} {w : World} {K : PySem.W.Frag} {mg : Str → Option Value} {base : Heap} {j k : Nat} {f : Addr} {fd : FuncData} {ps : List Str} {sp : Sp} (F : FnG P w K mg base j f fd ps sp) (h : j ≤ k) : FnG P w K mg base k f fd ps sp :=
  ⟨F.len, fun A outer s H args us vs Q hr => F.run A outer s H args us vs Q (hr.mono h)⟩
section
variable {P : Program} {w : World} {K : PySem.W.Frag} {mg : Str → Option Value} {base : Heap}
theorem okG {x qual : Str} {st : Stmt} {f : Addr} {fd : FuncData} {N ps : List Str} {k : Nat} {S : SpD} (F : Fun K x qual st f fd) (hS : FnScope N ps (defScope st)) (len : ∀ ds n Q X, S ds n Q X → ds.length = ps.length)
    (body : ∀ (cdv : Value) (A : Around) (outer : List Env) (s : Shared) (H : Hp), Room k (A.deeper (envOfC qual (defScope st) s.heap.objs.size f cdv)) → A.guards = some [] →
      ∃ T, DSs E0 (cxOf CX0 P w K mg base N qual (defScope st) f cdv A outer s H E0).nox (defBody st) T ∧ ∀ ds n Q X, S ds n Q X → T { nx := fun _ n' => Q .none n', rt := Q, ex := X0 } (startC N ds) n) :
    FnG P w K mg base (k + 1) f fd ps (spD K S) := by
  have hlen : ∀ vs H Q E, spD K S vs H Q E → vs.length = ps.length := fun vs H Q E h => by
    obtain ⟨g, O, n, ds, Qd, Xd, wd, hd, hs, _⟩ := h
    rw [hd.length]
    exact len _ _ _ _ hs
  refine ⟨hlen, fun A outer s H args us vs Q hr hg e0 bt rv h => ?_⟩
  have hl := hlen _ _ _ _ h
  obtain ⟨g, O, n, ds, Qd, Xd, wd, hd, hs, mq, mx⟩ := h
  obtain ⟨oc, od, kV, doc, pm, an, cdv, ct, osl, rfl, lk, hcd⟩ := F.ex
  obtain ⟨T, hT, hq⟩ := body cdv A outer s H (Room.deeper hr _) hg
  refine runAt (k := k) lk hcd hS hl hr e0 bt rv hT.nox ⟨fxOf g O H n, O, _, n, _, rel_start wd hd, hq ds n Qd Xd hs, ?_⟩
  have go : ∀ O' H' n' v d, Rw (fxOf g O H n) O' H' n' → Dq K g.p (hid O' H') v d → Qd d n' → Q v H' := fun O' H' n' v d r h q => mq d n' v H' q (ext_back r) (h.same (hid_back r))
  exact ⟨fun O' σ' H' ρ' n' R q => go O' H' n' .non .none R.rw .non q, fun _ _ _ _ _ _ q => q.elim, fun _ _ _ _ _ _ q => q.elim, go, fun _ _ _ _ _ _ _ _ q => q.elim⟩
end
section
variable {X : Cx} {k : Nat} {f : Addr} {fd : FuncData} {ps : List Str} {E : XK} {x : Str} {p pos : Pos} {e : Expr} {es : List Expr}
theorem pe_callG {sp : Sp} {t : TA} (F : FnG X.prog X.w X.K X.mg X.base k f fd ps sp) (hr : Room k X.A) (hgd : X.A.guards = some []) (hg : Gl X x) (hm : X.mg x = some (.ref f)) (hk : PySem.W.keepIn X.K (.ref f) = true) (hb : Binds X.K fd ps [])
    (ha : PA X (e :: es) t) (hdb : (x == ("__debug__" : Str)) = false := by decide) (he : starEach (e :: es) X.env = (false, eval e X.env) :: starEach es X.env := by rfl) (hpl : (backTo pos (starEach es X.env)).any (·.1) = false := by rfl) :
    PE X (.Call (.Name x p) (e :: es) [] pos) (tCall sp [] E0 t) := by
  refine ⟨fun pins s σ H Q I h => ?_⟩
  refine wpAny_Call_Name_kw (ld_glob I hg hm ?_ hdb)
  refine PySem.W.callWith_K (h₀ := X.base) I.ok.mod.kin hk (thn (ha.run pos pins s σ H _ I h) fun us s1 ⟨vs, H1, I1, r, q⟩ => ⟨I1.kIn, ?_⟩) he hpl
  have q : sp (vs ++ []) H1 Q E0 := q
  rw [List.append_nil] at q
  have hl : us.length = ps.length := by rw [← r.length]; exact F.len _ _ _ _ q
  have b := hb s1 us I1.kIn (by rw [List.append_nil]; exact hl)
  rw [List.append_nil] at b
  refine wpAny_call (codeAny_mono (F.run X.A X.stack s1 H1 ⟨us, []⟩ us vs Q hr hgd I1.env0 b r q) fun r s' hq => ?_)
  cases r with
  | error e => exact hq.elim
  | ok fl =>
    cases fl with
    | ret u => exact I1.after hq
    | next => exact False.elim hq
    | brk => exact False.elim hq
    | cont => exact False.elim hq
theorem de_callG {S : SpD} {Ta : TAD} (Fn : FnG X.prog X.w X.K X.mg X.base k f fd ps (spD X.K S)) (hr : Room k X.A) (hgd : X.A.guards = some []) (hg : Gl X x) (hm : X.mg x = some (.ref f)) (hk : PySem.W.keepIn X.K (.ref f) = true) (hb : Binds X.K fd ps [])
    (ha : DA E X (e :: es) Ta) (hdb : (x == ("__debug__" : Str)) = false := by decide) (he : starEach (e :: es) X.env = (false, eval e X.env) :: starEach es X.env := by rfl) (hpl : (backTo pos (starEach es X.env)).any (·.1) = false := by rfl) :
    DE E X (.Call (.Name x p) (e :: es) [] pos) (fun ρ n Q Z => Ta ρ n (fun ds n1 => S ds n1 Q X0) Z) :=
  pe_weak (pe_callG Fn hr hgd hg hm hk hb ha hdb he hpl) fun σ H Q ⟨F, O, ρ, n, Qd, Xd, R, t, mq, mx⟩ =>
    ⟨F, _, ρ, n, _, Xd, R, t, fun xs n1 vs H1 q1 e1 d1 => ⟨F.g, _, n1, xs, Qd, X0, (R.ext e1).rw.wd, by rw [List.append_nil]; exact d1, q1, mq.step e1, mx0⟩, mx⟩
/-- so that the reading has a name -/
def dCallG (S : SpD) (Ta : TAD) : TD := fun ρ n Q Z => Ta ρ n (fun ds n1 => S ds n1 Q X0) Z
theorem x_callG {S : SpD} {U : TAD} {ρ : List Cell} {n : Nat} {Q : PQ} {Z : XD} (h : U ρ n (fun ds n1 => S ds n1 Q X0) Z) : dCallG S U ρ n Q Z := h
theorem de_cg {S : SpD} {Ta : TAD} (Fn : FnG X.prog X.w X.K X.mg X.base k f fd ps (spD X.K S)) (hr : Room k X.A) (hgd : X.A.guards = some []) (hg : Gl X x) (hm : X.mg x = some (.ref f)) (hk : PySem.W.keepIn X.K (.ref f) = true) (hb : Binds X.K fd ps [])
    (ha : DA E X (e :: es) Ta) (hdb : (x == ("__debug__" : Str)) = false := by decide) (he : starEach (e :: es) X.env = (false, eval e X.env) :: starEach es X.env := by rfl) (hpl : (backTo pos (starEach es X.env)).any (·.1) = false := by rfl) :
    DE E X (.Call (.Name x p) (e :: es) [] pos) (dCallG S Ta) := de_callG Fn hr hgd hg hm hk hb ha hdb he hpl
end
theorem x_Fr {b : Bool} {P R : Prop} (hb : b = false) (h : R) : if b = true then P else R := by rw [hb]; exact h
theorem x_Tr {b : Bool} {P R : Prop} (hb : b = true) (h : P) : if b = true then P else R := by rw [hb]; exact h
/-! ### simple words -/
def Simple (L : List Nat) : Prop := L ≠ [] ∧ ∀ p, 1 ≤ p → p < L.length → L < L.drop p
instance (L : List Nat) : Decidable (Simple L) := by
  unfold Simple
  have : Decidable (∀ p, 1 ≤ p → p < L.length → L < L.drop p) := decidable_of_iff (∀ p ∈ List.range L.length, 1 ≤ p → L < L.drop p) ⟨fun h p h1 h2 => h p (List.mem_range.mpr h2) h1, fun h p h1 h2 => h p h2 (List.mem_range.mp h1)⟩
  infer_instance
theorem drop_ne {L : List Nat} {p q : Nat} (hp : p ≤ L.length) (hq : q ≤ L.length) (h : p ≠ q) : L.drop p ≠ L.drop q := fun e => by
  have := congrArg List.length e
  rw [List.length_drop, List.length_drop] at this
  omega
end Kd
namespace Kd
open PySem PySem.Spec PyProof.Rows L2 Kb Km
theorem x_NF {P R : Prop} (h : R) : if (!true) = true then P else R := h
theorem x_NT {P R : Prop} (h : P) : if (!false) = true then P else R := h
theorem pl_cutFromT {P : PyData → Prop} {r : List Nat} {a : Int} (ha : 0 ≤ a) (h : P (.tuple (plD (r.drop a.toNat)))) : rCut (.tuple (plD r)) (some a) none P := by
  have e : a = (a.toNat : Int) := by omega
  rw [e]; exact pl_cutFrom h
theorem pl_cutToT {P : PyData → Prop} {r : List Nat} {a : Int} (ha : 0 ≤ a) (h : P (.tuple (plD (r.take a.toNat)))) : rCut (.tuple (plD r)) none (some a) P := by
  have e : a = (a.toNat : Int) := by omega
  rw [e]; exact pl_cutTo h
/-! ### equality of lists of numbers -/
theorem ints_lay : ∀ xs : List Int, PyData.canLayAll0 (xs.map PyData.int) = true
  | [] => by simp [PyData.canLayAll0]
  | x :: xs => by simp only [List.map_cons, PyData.canLayAll0, PyData.canLay0, ints_lay xs, Bool.and_self]
theorem ints_depth : ∀ xs : List Int, PyData.depthAll (xs.map PyData.int) = 0
  | [] => by simp [PyData.depthAll]
  | x :: xs => by simp only [List.map_cons, PyData.depthAll, PyData.depth, ints_depth xs, Nat.max_self]
/-! ### words and their heads -/
theorem lt_cut : ∀ (m : Nat) (A B : List Nat), A < B → A.take m < B.take m ∨ (A.take m = B.take m ∧ A.drop m < B.drop m)
  | 0, A, B, h => .inr ⟨by simp, by simpa using h⟩
  | m + 1, [], [], h => absurd h (List.lt_irrefl _)
  | m + 1, [], b :: B, h => .inl (by simp)
  | m + 1, a :: A, [], h => absurd h (List.not_lt_nil _)
  | m + 1, a :: A, b :: B, h => by
    rcases List.cons_lt_cons_iff.mp h with h | ⟨e, h'⟩
    · exact .inl (by rw [List.take_succ_cons, List.take_succ_cons]; exact List.cons_lt_cons_iff.mpr (.inl h))
    · subst e
      rw [List.take_succ_cons, List.take_succ_cons, List.drop_succ_cons, List.drop_succ_cons]
      rcases lt_cut m A B h' with h | ⟨e, h⟩
      · exact .inl (List.cons_lt_cons_iff.mpr (.inr ⟨rfl, h⟩))
      · exact .inr ⟨by rw [e], h⟩
theorem lt_of_take : ∀ (m : Nat) (A B : List Nat), A.take m < B.take m → A < B
  | 0, A, B, h => by simp at h
  | m + 1, [], [], h => absurd h (List.lt_irrefl _)
  | m + 1, [], b :: B, h => by simp
  | m + 1, a :: A, [], h => absurd h (List.not_lt_nil _)
  | m + 1, a :: A, b :: B, h => by
    rw [List.take_succ_cons, List.take_succ_cons] at h
    rcases List.cons_lt_cons_iff.mp h with h | ⟨e, h⟩
    · exact List.cons_lt_cons_iff.mpr (.inl h)
    · exact List.cons_lt_cons_iff.mpr (.inr ⟨e, lt_of_take m A B h⟩)
theorem take_le {A B : List Nat} (h : A < B) (m : Nat) : ¬ B.take m < A.take m := fun g => by
  rcases lt_cut m A B h with h | ⟨e, _⟩
  · exact List.lt_asymm h g
  · rw [e] at g; exact List.lt_irrefl _ g
/-- the first place whose tail is less than the whole, or the length -/
def IsLs (M : List Nat) (k : Nat) : Prop := 1 ≤ k ∧ k ≤ M.length ∧ (∀ p, 1 ≤ p → p < k → ¬ M.drop p < M) ∧ (k < M.length → M.drop k < M)
theorem IsLs.uniq {M : List Nat} {k l : Nat} (h : IsLs M k) (g : IsLs M l) : k = l := by
  obtain ⟨a1, a2, a3, a4⟩ := h
  obtain ⟨b1, b2, b3, b4⟩ := g
  rcases Nat.lt_trichotomy k l with c | c | c
  · exact absurd (a4 (by omega)) (b3 k a1 c)
  · exact c
  · exact absurd (b4 (by omega)) (a3 l b1 c)
theorem IsLs.simple {M : List Nat} {k : Nat} (h : IsLs M k) : Simple (M.take k) := by
  obtain ⟨h1, h2, h3, h4⟩ := h
  refine ⟨fun e => ?_, fun p p1 p2 => ?_⟩
  · have := congrArg List.length e
    rw [List.length_take, List.length_nil] at this
    omega
  · rw [List.length_take] at p2
    have p3 : p < k := by omega
    have hp := h3 p p1 p3
    have hne : M.drop p ≠ M := fun e => by have := congrArg List.length e; rw [List.length_drop] at this; omega
    have hlt : M < M.drop p := by
      rcases List.le_iff_lt_or_eq.mp (List.not_lt.mp hp) with c | c
      · exact c
      · exact absurd c.symm hne
    rcases lt_cut (k - p) _ _ hlt with c | ⟨c, d⟩
    · refine lt_of_take (k - p) _ _ ?_
      rw [List.take_take, Nat.min_eq_left (by omega), List.drop_take, List.take_take, Nat.min_self]
      exact c
    · rw [List.drop_drop, show p + (k - p) = k by omega] at d
      by_cases hk : k < M.length
      · exact absurd (List.lt_trans d (h4 hk)) (h3 (k - p) (by omega) (by omega))
      · rw [List.drop_eq_nil_of_le (as := M) (i := k) (by omega)] at d
        exact absurd d (List.not_lt_nil _)
theorem IsLs.most {M : List Nat} {k e : Nat} (h : IsLs M k) (he : e ≤ M.length) (hs : Simple (M.take e)) : e ≤ k := by
  obtain ⟨h1, h2, h3, h4⟩ := h
  refine Nat.le_of_not_lt fun c => ?_
  have hl := hs.2 k h1 (by rw [List.length_take]; omega)
  rw [List.drop_take] at hl
  have hd := h4 (by omega)
  have ht := take_le hd (e - k)
  rcases lt_cut (e - k) _ _ hl with d | ⟨_, d⟩
  · rw [List.take_take, Nat.min_eq_left (by omega), List.take_take, Nat.min_self] at d
    exact ht d
  · rw [List.drop_eq_nil_of_le (as := (M.drop k).take (e - k)) (by rw [List.length_take]; omega)] at d
    exact absurd d (List.not_lt_nil _)
/-- the first of some numbers that is less -/
def fLow (xs : List Nat) (r : Nat) : Nat := xs.findIdx fun x => decide (x < r)
theorem fLow_le (xs : List Nat) (r : Nat) : fLow xs r ≤ xs.length := List.findIdx_le_length
theorem fLow_no {xs : List Nat} {r i x : Nat} (h : i < fLow xs r) (hx : xs[i]? = some x) : ¬ x < r := by
  have := List.not_of_lt_findIdx (p := fun x => decide (x < r)) h
  obtain ⟨hi, e⟩ := List.getElem?_eq_some_iff.mp hx
  rw [e] at this
  exact of_decide_eq_false (by simpa using this)
theorem fLow_yes {xs : List Nat} {r x : Nat} (hx : xs[fLow xs r]? = some x) : x < r := by
  obtain ⟨hi, e⟩ := List.getElem?_eq_some_iff.mp hx
  have := List.findIdx_getElem (p := fun x => decide (x < r)) (xs := xs) (w := hi)
  unfold fLow at e
  rw [e] at this
  exact of_decide_eq_true this
theorem fLow_uniq {xs : List Nat} {r i : Nat} (hi : i ≤ xs.length) (h1 : ∀ j x, j < i → xs[j]? = some x → ¬ x < r) (h2 : ∀ x, xs[i]? = some x → x < r) : i = fLow xs r := by
  rcases Nat.lt_trichotomy i (fLow xs r) with c | c | c
  · have l := fLow_le xs r
    have g := List.getElem?_eq_getElem (l := xs) (i := i) (by omega)
    exact absurd (h2 _ g) (fLow_no c g)
  · exact c
  · have g := List.getElem?_eq_getElem (l := xs) (i := fLow xs r) (by omega)
    exact absurd (fLow_yes g) (h1 _ _ c g)
def lsp (M : List Nat) : Nat := ((List.range M.length).drop 1).findIdx (fun p => decide (M.drop p < M)) + 1
theorem lsp_ok {M : List Nat} (h : 0 < M.length) : IsLs M (lsp M) := by
  unfold lsp
  have hl : ((List.range M.length).drop 1).length = M.length - 1 := by rw [List.length_drop, List.length_range]
  have h1 : ((List.range M.length).drop 1).findIdx (fun p => decide (M.drop p < M)) ≤ M.length - 1 := by rw [← hl]; exact List.findIdx_le_length
  refine ⟨by omega, by omega, fun p p1 p2 => ?_, fun hk => ?_⟩
  · have := List.not_of_lt_findIdx (p := fun p => decide (M.drop p < M)) (xs := (List.range M.length).drop 1) (i := p - 1) (by omega)
    rw [List.getElem_drop, List.getElem_range, show 1 + (p - 1) = p by omega] at this
    simpa using this
  · have := List.findIdx_getElem (p := fun p => decide (M.drop p < M)) (xs := (List.range M.length).drop 1) (w := by rw [hl]; omega)
    rw [List.getElem_drop, List.getElem_range, Nat.add_comm] at this
    exact of_decide_eq_true this
theorem cnt_iff {L : List Nat} {i j : Nat} (hi : i < L.length) (hj : j < L.length) : cnt L i < cnt L j ↔ L.drop i < L.drop j := by
  have T := tord_ok L
  have pw := List.pairwise_iff_getElem.mp T.2
  have mem : ∀ p, p < L.length → ∃ k, ∃ hk : k < (tord L).length, (tord L)[k] = p := fun p hp => List.getElem_of_mem (T.1.mem_iff.mpr (List.mem_range.mpr hp))
  obtain ⟨a, ha, ea⟩ := mem i hi
  obtain ⟨b, hb, eb⟩ := mem j hj
  have ca := T.cnt_at a ha
  have cb := T.cnt_at b hb
  rw [ea] at ca
  rw [eb] at cb
  rw [ca, cb]
  constructor
  · intro c
    have := pw a b ha hb c
    rw [ea, eb] at this
    exact this
  · intro c
    rcases Nat.lt_trichotomy a b with d | d | d
    · exact d
    · subst d
      rw [← ea, ← eb] at c
      exact absurd c (List.lt_irrefl _)
    · have := pw b a hb ha d
      rw [ea, eb] at this
      exact absurd c (List.lt_asymm this)
end Kd
namespace Kd
open PySem PySem.Spec PyProof.Rows L2 Kb Km
/-- how far two words agree -/
def agr : List Nat → List Nat → Nat
  | a :: A, b :: B => if a = b then agr A B + 1 else 0
  | [], _ => 0
  | _ :: _, [] => 0
theorem agr_eq : ∀ (i : Nat) (A B : List Nat), i ≤ A.length → i ≤ B.length → (∀ j, j < i → A[j]? = B[j]?) → (i = A.length ∨ i = B.length ∨ A[i]? ≠ B[i]?) → agr A B = i
  | 0, [], B, _, _, _, _ => rfl
  | 0, a :: A, [], _, _, _, _ => rfl
  | 0, a :: A, b :: B, _, _, _, h => by
    unfold agr
    rcases h with h | h | h
    · cases h
    · cases h
    · rw [if_neg]
      intro e
      subst e
      exact h rfl
  | i + 1, [], B, h, _, _, _ => absurd h (by simp)
  | i + 1, a :: A, [], _, h, _, _ => absurd h (by simp)
  | i + 1, a :: A, b :: B, h1, h2, h3, h4 => by
    unfold agr
    have e : a = b := by have := h3 0 (by omega); simpa using this
    rw [if_pos e, agr_eq i A B (by simpa using h1) (by simpa using h2) (fun j hj => by have := h3 (j + 1) (by omega); simpa using this) (by simpa using h4)]
/-- the heads of a word -/
def hds (L : List Nat) : List Nat := ((tord L).zip ((tord L).drop 1)).map fun p => agr (L.drop p.1) (L.drop p.2)
theorem hds_len (L : List Nat) : (hds L).length = L.length - 1 := by
  unfold hds
  rw [List.length_map, List.length_zip, List.length_drop, tord_len]
  omega
theorem agr_le : ∀ A B : List Nat, agr A B ≤ A.length
  | [], _ => Nat.le_refl _
  | _ :: _, [] => Nat.zero_le _
  | a :: A, b :: B => by
    unfold agr
    split
    · have := agr_le A B
      simpa using this
    · exact Nat.zero_le _
theorem hds_rng (L : List Nat) : (List.range (L.length - 1)).map (fun k => agr (L.drop ((tord L).getD k 0)) (L.drop ((tord L).getD (k + 1) 0))) = hds L := by
  have hl := hds_len L
  unfold hds at hl ⊢
  refine List.ext_getElem (by rw [List.length_map, List.length_range, hl]) fun i h1 h2 => ?_
  rw [List.length_map, List.length_range] at h1
  rw [List.getElem_map, List.getElem_map, List.getElem_range, List.getElem_zip, List.getElem_drop, List.getD_eq_getElem?_getD, List.getD_eq_getElem?_getD, List.getElem?_eq_getElem (by rw [tord_len]; omega), List.getElem?_eq_getElem (by rw [tord_len]; omega)]
  simp only [Option.getD_some, Nat.add_comm]
theorem zpD_map {α β : Type} (xs : List α) (ys : List β) (f : α → PyData) (g : β → PyData) : zpD (xs.map f) (ys.map g) = (xs.zip ys).map fun p => PAIR (f p.1) (g p.2) := by
  unfold zpD
  rw [List.zip_map, List.map_map]
  rfl
/-- over zip of the letters of two words -/
theorem for_zipW {ρ : List Cell} {n : Nat} {T : TSD} {e : DEnds} {g : TGD} {A B : List Nat} (I : Nat → List Cell → Nat → Prop) (h0 : I 0 ρ n)
    (hs : ∀ i a b ρ n, A[i]? = some a → B[i]? = some b → I i ρ n → g (PAIR (W [a]) (W [b])) ρ fun ρ2 => T { e with nx := I (i + 1), ct := I (i + 1), bk := e.nx } ρ2 n)
    (hf : ∀ ρ n, I (min A.length B.length) ρ n → e.nx ρ n) : ForI g T e (zpD (A.map fun c => W [c]) (B.map fun c => W [c])) ρ n := by
  rw [zpD_map]
  refine for_map I h0 (fun i x ρ n h q => ?_) (by rw [List.length_zip]; exact hf)
  obtain ⟨ha, hb⟩ := List.getElem?_zip_eq_some.mp h
  exact hs i _ _ ρ n ha hb q
end Kd
namespace Kd
open PySem PySem.Spec PyProof.Rows L2 Kb Km
/-- cut into the longest simple heads -/
def lcut (M : List Nat) : List (List Nat) := if h : M = [] then [] else M.take (lsp M) :: lcut (M.drop (lsp M))
termination_by M.length
decreasing_by
  have : 0 < M.length := List.length_pos_iff.mpr h
  rw [List.length_drop]
  unfold lsp
  omega
theorem lcut_nil : lcut [] = [] := by rw [lcut]; simp
theorem lcut_cons {M : List Nat} (h : 0 < M.length) : lcut M = M.take (lsp M) :: lcut (M.drop (lsp M)) := by
  rw [lcut, dif_neg (List.length_pos_iff.mp h)]
theorem lcut_all {M : List Nat} : ∀ p ∈ lcut M, Simple p ∧ 0 < p.length ∧ p.length ≤ M.length := by
  generalize hk : M.length = k
  induction k using Nat.strongRecOn generalizing M with
  | ind k ih =>
    intro p hp
    rcases Nat.eq_zero_or_pos M.length with z | z
    · rw [List.eq_nil_of_length_eq_zero z, lcut_nil] at hp
      exact nomatch hp
    · rw [lcut_cons z] at hp
      have ok := lsp_ok z
      rcases List.mem_cons.mp hp with e | hp
      · subst e
        refine ⟨ok.simple, ?_, ?_⟩
        · rw [List.length_take]; have := ok.1; omega
        · rw [List.length_take]; omega
      · have l : (M.drop (lsp M)).length < k := by rw [List.length_drop]; have := ok.1; omega
        obtain ⟨a, b, c⟩ := ih _ l rfl p hp
        exact ⟨a, b, by omega⟩
theorem lcut_len (M : List Nat) : (lcut M).length ≤ M.length := by
  generalize hk : M.length = k
  induction k using Nat.strongRecOn generalizing M with
  | ind k ih =>
    rcases Nat.eq_zero_or_pos M.length with z | z
    · rw [List.eq_nil_of_length_eq_zero z, lcut_nil]
      exact Nat.zero_le _
    · rw [lcut_cons z]
      have ok := lsp_ok z
      have l : (M.drop (lsp M)).length < k := by rw [List.length_drop]; have := ok.1; omega
      have := ih _ l _ rfl
      rw [List.length_cons]
      omega
theorem Sm.bool (b : Bool) : Sm (.bool b) 5 1 := by
  refine ⟨by simp [PyData.showable], by simp [PyData.hasDict], by simp [PyData.depth], ?_⟩
  cases b <;> (simp only [PyData.shown]; decide +kernel)
theorem for_enW {ρ : List Cell} {n : Nat} {T : TSD} {e : DEnds} {g : TGD} {A : List Nat} (I : Nat → List Cell → Nat → Prop) (h0 : I 0 ρ n)
    (hs : ∀ i c ρ n, A[i]? = some c → I i ρ n → g (PAIR (.int (i : Nat)) (W [c])) ρ fun ρ2 => T { e with nx := I (i + 1), ct := I (i + 1), bk := e.nx } ρ2 n)
    (hf : ∀ ρ n, I A.length ρ n → e.nx ρ n) : ForI g T e (enD (A.map fun c => W [c])) ρ n := fori I h0 (fun i x ρ n h q => by
  obtain ⟨y, hy, rfl⟩ := enD_at h
  rw [List.getElem?_map] at hy
  obtain ⟨p, hp, rfl⟩ := Option.map_eq_some_iff.mp hy
  exact hs i p ρ n hp q) (by rw [enD_len, List.length_map]; exact hf)
end Kd
namespace Kd
open PySem PySem.Spec PyProof.Rows L2 Kb Km
/-! ### one cut only -/
theorem lt_or_eq {A B : List Nat} (h : ¬ B < A) : A < B ∨ A = B := List.le_iff_lt_or_eq.mp (List.not_lt.mp h)
end Kd
namespace Kd
open PySem PySem.Spec PyProof.Rows L2 Kb Km
/-! ### the places of factors -/
def isMin (L : List Nat) (p : Nat) : Bool := (List.range p).all fun q => !decide (L.drop q < L.drop p)
theorem isMin_iff {L : List Nat} {p : Nat} : isMin L p = true ↔ ∀ q, q < p → ¬ L.drop q < L.drop p := by
  unfold isMin
  rw [List.all_eq_true]
  exact ⟨fun h q hq => by have := h q (List.mem_range.mpr hq); simpa using this, fun h q hq => by have := h q (List.mem_range.mp hq); simpa using this⟩
def fpl (r : List Nat) : List Nat := (List.range r.length).filter fun p => decide (fLow ((rk r r.length).take p) ((rk r r.length).getD p 0) = p)
def mins (L : List Nat) (b : Nat) : List Nat := (List.range' b (L.length - b)).filter (isMin L)
theorem fpl_mins (L : List Nat) : fpl (tord L) = mins L 0 := by
  unfold fpl mins
  rw [tord_len, Nat.sub_zero, List.range_eq_range']
  refine List.filter_congr fun p hp => ?_
  have hp' : p < L.length := by have := (List.mem_range'_1.mp hp).2; omega
  have rkc := (tord_ok L).rk_cnt
  rw [tord_len] at rkc
  rw [rkc, List.getD_eq_getElem?_getD, List.getElem?_map, List.getElem?_range hp']
  show decide (fLow (((List.range L.length).map (cnt L)).take p) (cnt L p) = p) = isMin L p
  have get : ∀ q, q < p → (((List.range L.length).map (cnt L)).take p)[q]? = some (cnt L q) := fun q hq => by
    rw [List.getElem?_take_of_lt hq, List.getElem?_map, List.getElem?_range (by omega)]; rfl
  rw [Bool.eq_iff_iff, decide_eq_true_eq, isMin_iff]
  constructor
  · intro e q hq
    have := fLow_no (r := cnt L p) (i := q) (by rw [e]; exact hq) (get q hq)
    rw [cnt_iff (by omega) hp'] at this
    exact this
  · intro h
    refine (fLow_uniq (by rw [List.length_take, List.length_map, List.length_range]; omega) (fun j x hj hx => ?_) (fun x hx => ?_)).symm
    · rw [get j hj] at hx
      cases hx
      rw [cnt_iff (by omega) hp']
      exact h j hj
    · rw [List.getElem?_eq_none (by rw [List.length_take]; omega)] at hx
      cases hx
theorem isMin_zero (L : List Nat) : isMin L 0 = true := rfl
theorem step_mins {L : List Nat} {b : Nat} (hb : b < L.length) (hm : isMin L b = true) :
    mins L b = b :: mins L (b + lsp (L.drop b)) ∧ (b + lsp (L.drop b) < L.length → isMin L (b + lsp (L.drop b)) = true) := by
  have ok := lsp_ok (M := L.drop b) (by rw [List.length_drop]; omega)
  obtain ⟨k1, k2, k3, k4⟩ := ok
  rw [List.length_drop] at k2 k4
  rw [isMin_iff] at hm
  have btw : ∀ p, b < p → p < b + lsp (L.drop b) → L.drop b < L.drop p := fun p h1 h2 => by
    have := k3 (p - b) (by omega) (by omega)
    rw [List.drop_drop, show b + (p - b) = p by omega] at this
    rcases lt_or_eq this with q | q
    · exact q
    · exact absurd q (drop_ne (by omega) (by omega) (by omega))
  constructor
  · unfold mins
    rw [show L.length - b = lsp (L.drop b) + (L.length - (b + lsp (L.drop b))) by omega, ← List.range'_append_1, List.filter_append]
    rw [show b :: (List.range' (b + lsp (L.drop b)) (L.length - (b + lsp (L.drop b)))).filter (isMin L) = [b] ++ (List.range' (b + lsp (L.drop b)) (L.length - (b + lsp (L.drop b)))).filter (isMin L) from rfl]
    congr 1
    rw [show List.range' b (lsp (L.drop b)) = b :: List.range' (b + 1) (lsp (L.drop b) - 1) by
      conv => lhs; rw [show lsp (L.drop b) = lsp (L.drop b) - 1 + 1 by omega, List.range'_succ]]
    rw [List.filter_cons_of_pos (isMin_iff.mpr hm), List.filter_eq_nil_iff.mpr fun p hp q => ?_]
    have := List.mem_range'_1.mp hp
    exact isMin_iff.mp q b (by omega) (btw p (by omega) (by omega))
  · intro h
    have h4 := k4 (by omega)
    rw [List.drop_drop] at h4
    refine isMin_iff.mpr fun q hq c => ?_
    rcases Nat.lt_trichotomy q b with d | d | d
    · exact hm q d (List.lt_trans c h4)
    · subst d; exact List.lt_asymm c h4
    · exact List.lt_asymm (List.lt_trans (btw q d hq) c) h4
/-- the pieces between places -/
def pcs (L : List Nat) (ps : List Nat) : List (List Nat) := (ps.zip (ps.drop 1 ++ [L.length])).map fun x => (L.drop x.1).take (x.2 - x.1)
theorem pcs_mins (L : List Nat) : ∀ (k b : Nat), L.length - b = k → b < L.length → isMin L b = true → pcs L (mins L b) = lcut (L.drop b) := by
  intro k
  induction k using Nat.strongRecOn with
  | ind k ih =>
    intro b hk hb hm
    obtain ⟨e, hn⟩ := step_mins hb hm
    obtain ⟨k1, k2, _, _⟩ := lsp_ok (M := L.drop b) (by rw [List.length_drop]; omega)
    have hl : (L.drop b).length = L.length - b := List.length_drop
    rw [lcut_cons (M := L.drop b) (by omega), List.drop_drop, e]
    by_cases c : b + lsp (L.drop b) < L.length
    · have hm2 := hn c
      obtain ⟨e2, _⟩ := step_mins c hm2
      have := ih (L.length - (b + lsp (L.drop b))) (by omega) _ rfl c hm2
      rw [← this, e2]
      unfold pcs
      rw [List.drop_succ_cons, List.drop_zero, List.cons_append, List.zip_cons_cons, List.map_cons, List.drop_succ_cons, List.drop_zero]
      congr 2
      omega
    · have z : mins L (b + lsp (L.drop b)) = [] := by
        unfold mins
        rw [show L.length - (b + lsp (L.drop b)) = 0 by omega]
        rfl
      rw [z, List.drop_eq_nil_of_le (as := L) (i := b + lsp (L.drop b)) (by omega), lcut_nil]
      unfold pcs
      show [(L.drop b).take (L.length - b)] = [(L.drop b).take (lsp (L.drop b))]
      rw [show lsp (L.drop b) = L.length - b by omega]
theorem fpl_cut {L : List Nat} (h : 0 < L.length) : pcs L (fpl (tord L)) = lcut L := by
  rw [fpl_mins, pcs_mins L _ 0 rfl h (isMin_zero L), List.drop_zero]
theorem fpl_len (r : List Nat) : (fpl r).length ≤ r.length := by
  have := List.length_filter_le (fun p => decide (fLow ((rk r r.length).take p) ((rk r r.length).getD p 0) = p)) (List.range r.length)
  rw [List.length_range] at this
  exact this
end Kd
namespace PyProof.Rows
open PySem PySem.Spec PySem.Calls
end PyProof.Rows
namespace PySem.W
open PySem PySem.Calls PyProof.Rows
end PySem.W
namespace Kd
open PySem PySem.Spec PyProof.Rows L2 Kb Km
section
variable {X : Cx} {E : XK}
def rSortedT : RDN
  | [.tuple ds], Q => (PySem.W.AllAlike ds ∧ PySem.W.Sortable ds ∧ ∀ d ∈ ds, d.depth ≤ 60 ∧ d.hasDict = false) ∧ Q (.list (ds.mergeSort leD))
  | _, _ => False
/-- xs[::-1] -/
def rRev : RD1
  | .list ds, Q => Q (.list ds.reverse)
  | _, _ => False
theorem x_rev {P : PyData → Prop} {ds : List PyData} (h : P (.list ds.reverse)) : rRev (.list ds) P := h
theorem x_sortedTW {P : PyData → Prop} {Ls : List (List Nat)} (h : P (.list ((Ls.mergeSort leW).map W))) : rSortedT [.tuple (Ls.map W)] P := by
  have := x_sortedW (P := P) h
  exact this
end
end Kd
namespace Kd
open PySem PySem.Spec PyProof.Rows L2 Kb Km
theorem lcut_flat (M : List Nat) : (lcut M).flatten = M := by
  generalize hk : M.length = k
  induction k using Nat.strongRecOn generalizing M with
  | ind k ih =>
    rcases Nat.eq_zero_or_pos M.length with z | z
    · rw [List.eq_nil_of_length_eq_zero z, lcut_nil]
      rfl
    · have ok := lsp_ok z
      rw [lcut_cons z, List.flatten_cons, ih _ (by rw [List.length_drop]; have := ok.1; omega) _ rfl, List.take_append_drop]
theorem lcut_ltrs {M p : List Nat} (h : Ltrs M) (hp : p ∈ lcut M) : Ltrs p := fun c hc => h c (by rw [← lcut_flat M]; exact List.mem_flatten.mpr ⟨p, hp, hc⟩)
theorem join_words (Ls : List (List Nat)) : Txt.join (Str.ofString "") (Ls.map fun L => (⟨L.toArray⟩ : Str)) = ⟨Ls.flatten.toArray⟩ := by
  unfold Txt.join
  rw [PySem.StrLaws.glued_eq_join]
  exact go Ls
where go : ∀ Ls : List (List Nat), Str.join (Str.ofString "") (Ls.map fun L => (⟨L.toArray⟩ : Str)) = ⟨Ls.flatten.toArray⟩
  | [] => rfl
  | [L] => by
    show (⟨L.toArray⟩ : Str) = _
    rw [List.flatten_cons, List.flatten_nil, List.append_nil]
  | L :: M :: r => by
    show (⟨L.toArray⟩ ++ Str.ofString "" ++ Str.join (Str.ofString "") ((M :: r).map fun L => (⟨L.toArray⟩ : Str)) : Str) = _
    rw [go (M :: r), show Str.ofString "" = ⟨([] : List Nat).toArray⟩ from rfl, W_app, W_app, List.append_nil]
    rfl
theorem sum_len (Ls : List (List Nat)) : ((Ls.map fun L => (⟨L.toArray⟩ : Str)).map (·.length)).sum = Ls.flatten.length := by
  induction Ls with
  | nil => rfl
  | cons L r ih => rw [List.map_cons, List.map_cons, List.sum_cons, ih, List.flatten_cons, List.length_append, W_len]
end Kd
namespace Kd
open PySem PySem.Spec PyProof.Rows L2 Kb Km
end Kd
namespace Kd
open PySem PySem.Spec PyProof.Rows L2 Kb Km
/-! ### equality of places -/
theorem ints_eqv : ∀ a b : List Nat, PyData.eqvAll (plD a) (plD b) = decide (a = b)
  | [], [] => by simp [plD, PyData.eqvAll]
  | [], y :: b => by simp [plD, PyData.eqvAll]
  | x :: a, [] => by simp [plD, PyData.eqvAll]
  | x :: a, y :: b => by
    have ih := ints_eqv a b
    unfold plD at ih ⊢
    rw [List.map_cons, List.map_cons]
    simp only [PyData.eqvAll, PyData.eqv, ih]
    rw [Bool.eq_iff_iff]
    simp
    omega
theorem good_pl (r : List Nat) : goodD (.tuple (plD r)) = true := by
  have e : plD r = (r.map fun x : Nat => (x : Int)).map PyData.int := by unfold plD; rw [List.map_map]; rfl
  have h : (PyData.tuple (plD r)).canLay0 = true := by unfold PyData.canLay0; rw [e]; exact ints_lay _
  unfold goodD SeqAt.shaped
  rw [PyData.hasDict_of_canLay _ h, h]
  unfold PyData.depth
  rw [e, ints_depth]
  rfl
theorem x_neT {P : PyData → Prop} {a b : List Nat} (h : P (.bool (!decide (a = b)))) : rNev (.tuple (plD a)) (.tuple (plD b)) P := by
  refine ⟨.inr ⟨good_pl a, good_pl b⟩, ?_⟩
  rw [show PyData.eqv (.tuple (plD a)) (.tuple (plD b)) = decide (a = b) by rw [← ints_eqv]; simp only [PyData.eqv]]
  exact h
theorem x_eqT {P : PyData → Prop} {a b : List Nat} (h : P (.bool (decide (a = b)))) : rEqv (.tuple (plD a)) (.tuple (plD b)) P := by
  refine ⟨.inr ⟨good_pl a, good_pl b⟩, ?_⟩
  rw [show PyData.eqv (.tuple (plD a)) (.tuple (plD b)) = decide (a = b) by rw [← ints_eqv]; simp only [PyData.eqv]]
  exact h
/-! ### an order without its first place -/
end Kd
namespace Kd
open PySem PySem.Spec PyProof.Rows L2 Kb Km
end Kd
namespace Km
/-- the rank of a place, that of the end being -1 -/
def rkI (r : List Nat) (i : Nat) : Int := if i < r.length then (r.idxOf i : Int) else -1
/-- whether the index is a strict step -/
def isStep (r : List Nat) (k : Nat) : Bool := decide (rkI r (r.getD k 0 + 1) < rkI r (r.getD (k - 1) 0 + 1))
def stepsTo (r : List Nat) (j : Nat) : List Nat := ((List.range j).map (· + 1)).filter (isStep r)
def steps (r : List Nat) : List Nat := stepsTo r (r.length - 1)
theorem stepsTo_mem {r : List Nat} {j k : Nat} (h : k ∈ stepsTo r j) : 0 < k ∧ k ≤ j := by
  unfold stepsTo at h
  obtain ⟨i, hi, rfl⟩ := List.mem_map.mp (List.mem_filter.mp h).1
  have := List.mem_range.mp hi
  omega
theorem one_lt {x y : Nat} : [x] < [y] ↔ x < y := by
  constructor
  · intro h
    rcases List.cons_lt_cons_iff.mp h with c | ⟨_, d⟩
    · exact c
    · exact absurd d (List.lt_irrefl _)
  · intro h
    exact List.cons_lt_cons_iff.mpr (.inl h)
theorem steps_mem {r : List Nat} {k : Nat} (k0 : 0 < k) (kl : k < r.length) : k ∈ steps r ↔ isStep r k = true := by
  unfold steps stepsTo
  rw [List.mem_filter]
  constructor
  · exact fun h => h.2
  · intro h
    exact ⟨List.mem_map.mpr ⟨k - 1, List.mem_range.mpr (by omega), by omega⟩, h⟩
theorem rkI_ge (r : List Nat) (i : Nat) : -1 ≤ rkI r i := by
  unfold rkI
  split <;> omega
theorem Ord.get_idx {r : List Nat} (h : Ord r) {i : Nat} (hi : i < r.length) : r.getD (r.idxOf i) 0 = i := by
  have hx : r.idxOf i < r.length := List.idxOf_lt_length_iff.mpr (h.mem hi)
  rw [List.getD_eq_getElem?_getD, List.getElem?_eq_getElem hx, List.getElem_idxOf hx]
  rfl
theorem Ord.idx_get {r : List Nat} (h : Ord r) {k : Nat} (hk : k < r.length) : r.idxOf (r.getD k 0) = k := by
  rw [List.getD_eq_getElem?_getD, List.getElem?_eq_getElem hk]
  exact h.nd.idxOf_getElem k hk
theorem Ord.getD_lt {r : List Nat} (h : Ord r) {k : Nat} (hk : k < r.length) : r.getD k 0 < r.length := by
  rw [List.getD_eq_getElem?_getD, List.getElem?_eq_getElem hk]
  exact h.lt (List.getElem_mem hk)
theorem rkI_inj {r : List Nat} (h : Ord r) {i j : Nat} (hi : i ≤ r.length) (hj : j ≤ r.length) (e : rkI r i = rkI r j) : i = j := by
  unfold rkI at e
  by_cases ci : i < r.length
  · by_cases cj : j < r.length
    · rw [if_pos ci, if_pos cj] at e
      have e2 : r.idxOf i = r.idxOf j := by omega
      rw [← h.get_idx ci, e2, h.get_idx cj]
    · rw [if_pos ci, if_neg cj] at e
      omega
  · by_cases cj : j < r.length
    · rw [if_neg ci, if_pos cj] at e
      omega
    · omega
/-- the letters never fall along the order and rise at its strict steps -/
def Fits (L r : List Nat) : Prop := ∀ k, 0 < k → k < r.length → L.getD (r.getD (k - 1) 0) 0 ≤ L.getD (r.getD k 0) 0 ∧ (isStep r k = true → L.getD (r.getD (k - 1) 0) 0 < L.getD (r.getD k 0) 0)
theorem drop_cons {L : List Nat} {a : Nat} (h : a < L.length) : L.drop a = L.getD a 0 :: L.drop (a + 1) := by
  rw [List.drop_eq_getElem_cons h, List.getD_eq_getElem?_getD, List.getElem?_eq_getElem h]
  rfl
theorem Fits.mono {L r : List Nat} (f : Fits L r) : ∀ (d i : Nat), i + d < r.length → L.getD (r.getD i 0) 0 ≤ L.getD (r.getD (i + d) 0) 0
  | 0, i, _ => Nat.le_refl _
  | d + 1, i, h => by
    have h1 := f.mono d i (by omega)
    have h2 := (f (i + d + 1) (by omega) (by omega)).1
    exact Nat.le_trans h1 h2
theorem Fits.level {L r : List Nat} (f : Fits L r) : ∀ (d i : Nat), i + d < r.length → L.getD (r.getD i 0) 0 = L.getD (r.getD (i + d) 0) 0 → rkI r (r.getD i 0 + 1) ≤ rkI r (r.getD (i + d) 0 + 1)
  | 0, i, _, _ => Int.le_refl _
  | d + 1, i, h, e => by
    have m1 := f.mono d i (by omega)
    have st := f (i + d + 1) (by omega) (by omega)
    have st1 : L.getD (r.getD (i + d) 0) 0 ≤ L.getD (r.getD (i + d + 1) 0) 0 := st.1
    have e2 : L.getD (r.getD i 0) 0 = L.getD (r.getD (i + d + 1) 0) 0 := e
    have h1 := f.level d i (by omega) (by omega)
    by_cases c : isStep r (i + d + 1) = true
    · have : L.getD (r.getD (i + d) 0) 0 < L.getD (r.getD (i + d + 1) 0) 0 := st.2 c
      omega
    · have c2 : ¬ rkI r (r.getD (i + d + 1) 0 + 1) < rkI r (r.getD (i + d) 0 + 1) := fun z => c (decide_eq_true z)
      have : rkI r (r.getD (i + d) 0 + 1) ≤ rkI r (r.getD (i + d + 1) 0 + 1) := by omega
      exact Int.le_trans h1 this
theorem Fits.less {L r : List Nat} (h : Ord r) (hl : L.length = r.length) (f : Fits L r) : ∀ (m a b : Nat), r.length - a = m → a < r.length → b < r.length → r.idxOf a < r.idxOf b → L.drop a < L.drop b := by
  intro m
  induction m with
  | zero =>
    intro a b e ha
    omega
  | succ m ih =>
    intro a b e ha hb hab
    rw [drop_cons (show a < L.length by omega), drop_cons (show b < L.length by omega)]
    have hx : r.idxOf b < r.length := List.idxOf_lt_length_iff.mpr (h.mem hb)
    have mo := f.mono (r.idxOf b - r.idxOf a) (r.idxOf a) (by omega)
    have lv := f.level (r.idxOf b - r.idxOf a) (r.idxOf a) (by omega)
    rw [show r.idxOf a + (r.idxOf b - r.idxOf a) = r.idxOf b by omega, h.get_idx ha, h.get_idx hb] at mo lv
    rw [List.cons_lt_cons_iff]
    rcases Nat.lt_or_eq_of_le mo with c | c
    · exact .inl c
    · refine .inr ⟨c, ?_⟩
      have lv := lv c
      have ne : rkI r (a + 1) ≠ rkI r (b + 1) := fun z => by
        have := rkI_inj h (by omega) (by omega) z
        have e2 : a = b := by omega
        rw [e2] at hab
        omega
      have lt : rkI r (a + 1) < rkI r (b + 1) := by omega
      have hb1 : b + 1 < r.length := by
        have g := rkI_ge r (a + 1)
        by_cases z : b + 1 < r.length
        · exact z
        · unfold rkI at lt
          rw [if_neg z] at lt
          split at lt <;> omega
      by_cases ca : a + 1 < r.length
      · refine ih (a + 1) (b + 1) (by omega) ca hb1 ?_
        unfold rkI at lt
        rw [if_pos ca, if_pos hb1] at lt
        omega
      · have ea : L.drop (a + 1) = [] := List.drop_of_length_le (by omega)
        rw [ea, drop_cons (show b + 1 < L.length by omega)]
        exact List.nil_lt_cons _ _
/-- tails and ranks go together -/
theorem TailOrd.less {L r : List Nat} (t : TailOrd L r) {a b : Nat} (ha : a < L.length) (hb : b < L.length) (h : L.drop a < L.drop b) : r.idxOf a < r.idxOf b := by
  have o := t.ord
  have rl := t.len
  have xa : r.idxOf a < r.length := List.idxOf_lt_length_iff.mpr (o.mem (by omega))
  have xb : r.idxOf b < r.length := List.idxOf_lt_length_iff.mpr (o.mem (by omega))
  rcases Nat.lt_trichotomy (r.idxOf a) (r.idxOf b) with c | c | c
  · exact c
  · have e : a = b := by rw [← o.get_idx (show a < r.length by omega), c, o.get_idx (show b < r.length by omega)]
    rw [e] at h
    exact absurd h (List.lt_irrefl _)
  · have p := List.pairwise_iff_getElem.mp t.2 _ _ xb xa c
    rw [List.getElem_idxOf xb, List.getElem_idxOf xa] at p
    exact absurd h (List.lt_asymm p)
theorem TailOrd.rk_less {L r : List Nat} (t : TailOrd L r) {a b : Nat} (ha : a ≤ L.length) (hb : b ≤ L.length) (h : L.drop a < L.drop b) : rkI r a < rkI r b := by
  have rl := t.len
  have cb : b < L.length := by
    by_cases z : b < L.length
    · exact z
    · rw [List.drop_of_length_le (show L.length ≤ b by omega)] at h
      exact absurd h (List.not_lt_nil _)
  by_cases ca : a < L.length
  · have := t.less ca cb h
    unfold rkI
    rw [if_pos (by omega), if_pos (by omega)]
    omega
  · unfold rkI
    rw [if_neg (by omega), if_pos (by omega)]
    omega
theorem TailOrd.fits {L r : List Nat} (t : TailOrd L r) : Fits L r := by
  have o := t.ord
  have rl := t.len
  intro k k0 kl
  have p := List.pairwise_iff_getElem.mp t.2 (k - 1) k (by omega) kl (by omega)
  have g1 : r[k - 1] = r.getD (k - 1) 0 := by
    rw [List.getD_eq_getElem?_getD, List.getElem?_eq_getElem (by omega)]
    rfl
  have g2 : r[k] = r.getD k 0 := by
    rw [List.getD_eq_getElem?_getD, List.getElem?_eq_getElem kl]
    rfl
  rw [g1, g2] at p
  have b1 := o.getD_lt (show k - 1 < r.length by omega)
  have b2 := o.getD_lt kl
  have st : isStep r k = true → rkI r (r.getD k 0 + 1) < rkI r (r.getD (k - 1) 0 + 1) := fun c => of_decide_eq_true c
  generalize r.getD (k - 1) 0 = x at *
  generalize r.getD k 0 = y at *
  rw [drop_cons (show x < L.length by omega), drop_cons (show y < L.length by omega), List.cons_lt_cons_iff] at p
  rcases p with c | ⟨c, d⟩
  · exact ⟨Nat.le_of_lt c, fun _ => c⟩
  · refine ⟨Nat.le_of_eq c, fun s => ?_⟩
    have := t.rk_less (show x + 1 ≤ L.length by omega) (show y + 1 ≤ L.length by omega) d
    have := st s
    omega
/-- the number of strict steps among the first j indexes -/
def nm (r : List Nat) : Nat → Nat
  | 0 => 0
  | j + 1 => nm r j + (if j ∈ steps r then 1 else 0)
theorem zero_step (r : List Nat) : ¬ 0 ∈ steps r := fun h => by
  have := stepsTo_mem h
  omega
/-- the codes of the least word -/
def leastL (r : List Nat) : List Nat := (List.range r.length).map fun p => 97 + nm r (r.idxOf p + 1)
theorem leastL_at {r : List Nat} (h : Ord r) {k : Nat} (hk : k < r.length) : (leastL r).getD (r.getD k 0) 0 = 97 + nm r (k + 1) := by
  unfold leastL
  rw [List.getD_eq_getElem?_getD, List.getElem?_map, List.getElem?_range (h.getD_lt hk)]
  show 97 + nm r (r.idxOf (r.getD k 0) + 1) = _
  rw [h.idx_get hk]
end Km
namespace Kd
open PySem PySem.Spec PyProof.Rows L2 Kb Km
section
variable {X : Cx} {E : XK} {a b c e : Expr} {es : List Expr} {Ta Tb Tc Te : TD} {p pos : Pos} {tg : Expr}
/-! ### data that can be compared -/
structure Gd (d : PyData) (k : Nat) : Prop where
  lay : d.canLay0 = true
  dep : d.depth ≤ k
theorem Gd.good {d : PyData} {k : Nat} (h : Gd d k) (hk : k ≤ 64) : goodD d = true := by
  unfold goodD SeqAt.shaped
  rw [PyData.hasDict_of_canLay _ h.lay, h.lay, decide_eq_true (Nat.le_trans h.dep hk)]
  rfl
theorem Gd.none : Gd .none 0 := ⟨by simp [PyData.canLay0], by simp [PyData.depth]⟩
theorem Gd.bool (b : Bool) : Gd (.bool b) 0 := ⟨by simp [PyData.canLay0], by simp [PyData.depth]⟩
theorem Gd.int (i : Int) : Gd (.int i) 0 := ⟨by simp [PyData.canLay0], by simp [PyData.depth]⟩
theorem Gd.str {z : Str} (h : ∀ c ∈ z.cps.toList, c < 1114112) : Gd (.str z) 0 := by
  refine ⟨?_, by simp [PyData.depth]⟩
  simp only [PyData.canLay0, PyData.strOk]
  rw [Array.all_eq_true]
  intro i hi
  exact decide_eq_true (h _ (by rw [Array.mem_toList_iff]; exact Array.getElem_mem hi))
theorem Gd.W {L : List Nat} (h : Ltrs L) : Gd (W L) 0 := Gd.str fun c hc => by
  have := h c (by rw [W_cps] at hc; exact hc)
  unfold Ltr at this
  omega
theorem gd_all {k : Nat} : ∀ {ds : List PyData}, (∀ d ∈ ds, Gd d k) → PyData.canLayAll0 ds = true ∧ PyData.depthAll ds ≤ k
  | [], _ => ⟨by simp [PyData.canLayAll0], by simp [PyData.depthAll]⟩
  | d :: ds, h => by
    have h1 := h d List.mem_cons_self
    have h2 := gd_all fun e he => h e (List.mem_cons_of_mem _ he)
    exact ⟨by simp only [PyData.canLayAll0, h1.lay, h2.1, Bool.and_self], by simp only [PyData.depthAll]; exact Nat.max_le.mpr ⟨h1.dep, h2.2⟩⟩
theorem Gd.list {ds : List PyData} {k : Nat} (h : ∀ d ∈ ds, Gd d k) : Gd (.list ds) (k + 1) := by
  have := gd_all h
  exact ⟨by simp only [PyData.canLay0]; exact this.1, by simp only [PyData.depth]; omega⟩
theorem Gd.tuple {ds : List PyData} {k : Nat} (h : ∀ d ∈ ds, Gd d k) : Gd (.tuple ds) (k + 1) := by
  have := gd_all h
  exact ⟨by simp only [PyData.canLay0]; exact this.1, by simp only [PyData.depth]; omega⟩
theorem Gd.mono {d : PyData} {k m : Nat} (h : Gd d k) (hm : k ≤ m) : Gd d m := ⟨h.lay, Nat.le_trans h.dep hm⟩
theorem gd_pl (r : List Nat) : ∀ d ∈ plD r, Gd d 0 := fun d hd => by
  unfold plD at hd
  obtain ⟨p, _, rfl⟩ := List.mem_map.mp hd
  exact Gd.int _
theorem gd_map {α : Type} {f : α → PyData} {xs : List α} {k : Nat} (h : ∀ x ∈ xs, Gd (f x) k) : ∀ d ∈ xs.map f, Gd d k := fun d hd => by
  obtain ⟨p, hp, rfl⟩ := List.mem_map.mp hd
  exact h p hp
theorem eqvAll_map {α : Type} [DecidableEq α] {f : α → PyData} (he : ∀ a b, PyData.eqv (f a) (f b) = decide (a = b)) : ∀ xs ys : List α, PyData.eqvAll (xs.map f) (ys.map f) = decide (xs = ys)
  | [], [] => by simp [PyData.eqvAll]
  | [], y :: b => by simp [PyData.eqvAll]
  | x :: a, [] => by simp [PyData.eqvAll]
  | x :: a, y :: b => by
    rw [List.map_cons, List.map_cons]
    simp only [PyData.eqvAll, he, eqvAll_map he a b]
    rw [Bool.eq_iff_iff]
    simp
theorem eqv_nat (a b : Nat) : PyData.eqv (.int (a : Nat)) (.int (b : Nat)) = decide (a = b) := by
  simp only [PyData.eqv]
  rw [Bool.eq_iff_iff]
  simp
  omega
theorem x_eqG {P : PyData → Prop} {x y : PyData} {i j : Nat} {b : Bool} (hx : Gd x i) (hy : Gd y j) (hi : i ≤ 64) (hj : j ≤ 64) (e : PyData.eqv x y = b) (h : P (.bool b)) : rEqv x y P := ⟨.inr ⟨hx.good hi, hy.good hj⟩, by rw [e]; exact h⟩
theorem x_neG {P : PyData → Prop} {x y : PyData} {i j : Nat} {b : Bool} (hx : Gd x i) (hy : Gd y j) (hi : i ≤ 64) (hj : j ≤ 64) (e : PyData.eqv x y = b) (h : P (.bool (!b))) : rNev x y P := ⟨.inr ⟨hx.good hi, hy.good hj⟩, by rw [e]; exact h⟩
theorem eqvL {α : Type} [DecidableEq α] {f : α → PyData} (he : ∀ a b, PyData.eqv (f a) (f b) = decide (a = b)) (xs ys : List α) : PyData.eqv (.list (xs.map f)) (.list (ys.map f)) = decide (xs = ys) := by
  simp only [PyData.eqv]
  exact eqvAll_map he xs ys
theorem eqvT {α : Type} [DecidableEq α] {f : α → PyData} (he : ∀ a b, PyData.eqv (f a) (f b) = decide (a = b)) (xs ys : List α) : PyData.eqv (.tuple (xs.map f)) (.tuple (ys.map f)) = decide (xs = ys) := by
  simp only [PyData.eqv]
  exact eqvAll_map he xs ys
theorem x_eqLp {P : PyData → Prop} {a b : List Nat} (h : P (.bool (decide (a = b)))) : rEqv (.list (plD a)) (.list (plD b)) P := x_eqG (Gd.list (gd_pl a)) (Gd.list (gd_pl b)) (by decide) (by decide) (eqvL eqv_nat a b) h
theorem x_neLp {P : PyData → Prop} {a b : List Nat} (h : P (.bool (!decide (a = b)))) : rNev (.list (plD a)) (.list (plD b)) P := x_neG (Gd.list (gd_pl a)) (Gd.list (gd_pl b)) (by decide) (by decide) (eqvL eqv_nat a b) h
def tupL (r : List Nat) : PyData := .tuple (plD r)
theorem eqv_tupL (a b : List Nat) : PyData.eqv (tupL a) (tupL b) = decide (a = b) := eqvT eqv_nat a b
theorem gd_tupL (r : List Nat) : Gd (tupL r) 1 := Gd.tuple (gd_pl r)
theorem x_eqLt {P : PyData → Prop} {a b : List (List Nat)} (h : P (.bool (decide (a = b)))) : rEqv (.list (a.map tupL)) (.list (b.map tupL)) P := x_eqG (Gd.list (gd_map fun x _ => gd_tupL x)) (Gd.list (gd_map fun x _ => gd_tupL x)) (by decide) (by decide) (eqvL eqv_tupL a b) h
theorem x_neLt {P : PyData → Prop} {a b : List (List Nat)} (h : P (.bool (!decide (a = b)))) : rNev (.list (a.map tupL)) (.list (b.map tupL)) P := x_neG (Gd.list (gd_map fun x _ => gd_tupL x)) (Gd.list (gd_map fun x _ => gd_tupL x)) (by decide) (by decide) (eqvL eqv_tupL a b) h
/-! ### the strict steps, told twice -/
/-- xs.count(k) -/
def rCnt : RDM := fun x xs Q => ∃ (ns : List Int) (k : Int), x = .list (ns.map PyData.int) ∧ xs = [.int k] ∧ Q (.int (ns.count k : Nat))
theorem x_count {P : PyData → Prop} {ns : List Int} {k : Int} (h : P (.int (ns.count k : Nat))) : rCnt (.list (ns.map PyData.int)) [.int k] P := ⟨ns, k, rfl, rfl, h⟩
theorem pl_ints (r : List Nat) : plD r = (r.map fun x : Nat => (x : Int)).map PyData.int := by unfold plD; rw [List.map_map]; rfl
theorem cnt_ints (k : Nat) : ∀ r : List Nat, (r.map fun x : Nat => (x : Int)).count (k : Int) = r.count k
  | [] => rfl
  | x :: r => by
    rw [List.map_cons, List.count_cons, List.count_cons, cnt_ints k r]
    congr 1
    by_cases h : x = k
    · rw [h]; simp
    · rw [if_neg (by simp; omega), if_neg (by simpa using h)]
theorem pl_count {P : PyData → Prop} {r : List Nat} {k : Nat} (h : P (.int (r.count k : Nat))) : rCnt (.list (plD r)) [.int (k : Nat)] P := by
  rw [pl_ints]
  refine x_count ?_
  rw [cnt_ints]
  exact h
/-- range(a, b, -1) -/
def rngB (hi : Int) (n : Nat) : List PyData := (List.range n).map fun i : Nat => .int (hi - i)
def dRngB (T : TAD) : TID := fun ρ n Q X => T ρ n (fun ds n1 => ∃ i j : Int, ds = [.int i, .int j, .int (-1)] ∧ (-(2 ^ 62) ≤ i ∧ i < 2 ^ 62 ∧ -(2 ^ 62) ≤ j ∧ j < 2 ^ 62) ∧ Q (rngB i (i - j).toNat) n1) X
theorem x_rngB {U : TAD} {ρ : List Cell} {n : Nat} {Q : List PyData → Nat → Prop} {Z : XD} (h : U ρ n (fun ds n1 => ∃ i j : Int, ds = [.int i, .int j, .int (-1)] ∧ (-(2 ^ 62) ≤ i ∧ i < 2 ^ 62 ∧ -(2 ^ 62) ≤ j ∧ j < 2 ^ 62) ∧ Q (rngB i (i - j).toNat) n1) Z) : dRngB U ρ n Q Z := h
/-- list(range(a)), list(range(a, b)): new lists -/
def dLrg1 (T : TD) : TAD := fun ρ n Q X => T ρ n (fun d n1 => ∃ k : Nat, d = .int (k : Nat) ∧ k ≤ 1000000 ∧ Q (plD (List.range k)) n1) X
theorem x_lrg1 {ρ : List Cell} {n : Nat} {Q : List PyData → Nat → Prop} {Z : XD} (h : Te ρ n (fun d n1 => ∃ k : Nat, d = .int (k : Nat) ∧ k ≤ 1000000 ∧ Q (plD (List.range k)) n1) Z) : dLrg1 Te ρ n Q Z := h
end
end Kd
namespace Km
/-- .. and back -/
def back (r M : List Nat) : List Nat := (List.range r.length).map fun p => M.getD (r.idxOf p) 0
end Km
namespace Kd
open PySem PySem.Spec PyProof.Rows L2 Kb Km
end Kd
namespace Kd
open PySem PySem.Spec PyProof.Rows L2 Kb Km
/-! ### the cut never rises -/
/-! ### all cuts -/
end Kd
namespace Ks
open PySem PySem.Spec PyProof.Rows L2 PySem.Froz
/-- what has been met of ks after i items -/
structure Met {K : Type} (ks : List K) (i : Nat) (l : List K) : Prop where
  nd : l.Nodup
  mem : ∀ k, k ∈ l ↔ k ∈ ks.take i
  len : l.length ≤ i
theorem Met.step {K : Type} {ks l l' : List K} {i : Nat} {k : K} (m : Met ks i l) (h : ks[i]? = some k) (c : (l' = l ∧ k ∈ l) ∨ (l' = k :: l ∧ k ∉ l)) : Met ks (i + 1) l' := by
  have e : ks.take (i + 1) = ks.take i ++ [k] := by rw [List.take_add_one, h]; rfl
  rcases c with ⟨rfl, c⟩ | ⟨rfl, c⟩
  · refine ⟨m.nd, fun x => ?_, Nat.le_succ_of_le m.len⟩
    rw [e, List.mem_append, List.mem_singleton, ← m.mem x]
    exact ⟨.inl, fun z => z.elim id fun z => by rw [z]; exact c⟩
  · refine ⟨List.nodup_cons.mpr ⟨c, m.nd⟩, fun x => ?_, Nat.succ_le_succ m.len⟩
    rw [e, List.mem_append, List.mem_singleton, ← m.mem x, List.mem_cons]
    exact Or.comm
end Ks
namespace Ks
open PySem PySem.Spec PyProof.Rows L2 PySem.Froz PySem.W
/-! ### texts -/
/-! ### what a set's rows hold -/
/-- rows of a set that can be walked -/
structure Rows (w : World) (h : Heap) (a : Addr) {K : Type} (val : K → Tok → Value) (l : List K) : Prop where
  ex : ∃ es ep t ks, SetAt h a es ep t ∧ t.fits es.size = true ∧ es.size = l.length ∧ Ris t.place.toList ∧ (w.params.followText "set-order" = true ∨ t.led = true) ∧ ks.Perm l ∧ EachIs (fun v k => ∃ u, v = val k u) (es.toList.map (·.2)) ks
/-! ### sorted -/
end Ks
namespace Kd
open PySem PySem.Spec PyProof.Rows L2 Kb Km
/-! ### sorted(set(xs)), len(set(xs)) -/
/-! ### over data -/
section
variable {X : Cx} {E : XK} {a e : Expr} {Ta Te : TD} {p p2 q pos : Pos}
/-- strictly ascending -/
def Asc (Ys : List (List Nat)) : Prop := Ys.Pairwise fun a b => a < b
def wS (L : List Nat) : Str := ⟨L.toArray⟩
theorem dq_strs {Kf : PySem.W.Frag} {g : Addr} {H : Hp} : ∀ {zs : List Str}, (∀ z ∈ zs, z.length ≤ sizeLine) → DqAll Kf g H (zs.map V.str) (zs.map PyData.str)
  | [], _ => .nil
  | z :: zs, h => .cons (.str z (h z List.mem_cons_self)) (dq_strs fun y hy => h y (List.mem_cons_of_mem _ hy))
end
end Kd
namespace Kd
open PySem PySem.Spec PyProof.Rows L2 Kb Km
/-! ### letters -/
abbrev ABC : Str := Str.ofString "abcdefghijklmnopqrstuvwxyz"
/-! ### a number among places -/
theorem any_pl (k : Nat) : ∀ r : List Nat, ((plD r).any fun z => PyData.eqv z (.int (k : Nat))) = decide (k ∈ r)
  | [] => rfl
  | x :: r => by
    have ih := any_pl k r
    unfold plD at ih ⊢
    rw [List.map_cons, List.any_cons, ih, eqv_nat]
    by_cases c : x = k
    · rw [decide_eq_true c, Bool.true_or, decide_eq_true (show k ∈ x :: r by rw [c]; exact List.mem_cons_self)]
    · rw [decide_eq_false c, Bool.false_or]
      refine dec_iff ⟨fun h => List.mem_cons_of_mem _ h, fun h => ?_⟩
      rcases List.mem_cons.mp h with e | e
      · exact absurd e.symm c
      · exact e
theorem scal_pl (r : List Nat) : (plD r).all scalar = true := by
  rw [List.all_eq_true]
  intro x hx
  unfold plD at hx
  obtain ⟨i, _, rfl⟩ := List.mem_map.mp hx
  rfl
theorem pl_in {P : PyData → Prop} {r : List Nat} {k : Nat} (h : P (.bool (decide (k ∈ r)))) : rInG false (.int (k : Nat)) (.tuple (plD r)) P := ⟨⟨rfl, scal_pl r⟩, by rw [any_pl, Bool.false_bne]; exact h⟩
theorem pl_inL {P : PyData → Prop} {r : List Nat} {k : Nat} (h : P (.bool (decide (k ∈ r)))) : rInG false (.int (k : Nat)) (.list (plD r)) P := ⟨⟨rfl, scal_pl r⟩, by rw [any_pl, Bool.false_bne]; exact h⟩
theorem pl_ninL {P : PyData → Prop} {r : List Nat} {k : Nat} (h : P (.bool (!decide (k ∈ r)))) : rInG true (.int (k : Nat)) (.list (plD r)) P := ⟨⟨rfl, scal_pl r⟩, by rw [any_pl, Bool.true_bne]; exact h⟩
/-! ### texts joined -/
theorem join_one (L : List Nat) : Txt.join (Str.ofString "") (L.map fun c => (⟨#[c]⟩ : Str)) = ⟨L.toArray⟩ := by
  have h := join_words (L.map fun c => [c])
  rw [List.map_map] at h
  have e : (L.map fun c => [c]).flatten = L := by
    induction L with
    | nil => rfl
    | cons x r ih => rw [List.map_cons, List.flatten_cons, ih (by have := join_words (r.map fun c => [c]); rw [List.map_map] at this; exact this)]; rfl
  rw [e] at h
  exact h
/-- list(word) -/
theorem x_listW {P : PyData → Prop} {L : List Nat} (h : P (.list ((L.map fun c => [c]).map W))) : rListOf [W L] P := by
  rw [List.map_map] at h
  exact h
end Kd
namespace Kd
open PySem PySem.Spec PyProof.Rows L2 Kb Km
/-! ### min of texts -/
end Kd
namespace Km
/-! ### least words are least -/
theorem least_le {L r : List Nat} (f : Fits L r) (h : Ord r) (ha : ∀ p, p < r.length → 97 ≤ L.getD p 0) : ∀ k, k < r.length → 97 + nm r (k + 1) ≤ L.getD (r.getD k 0) 0
  | 0, hk => by
    have : nm r 1 = 0 := by
      show nm r 0 + (if 0 ∈ steps r then 1 else 0) = 0
      rw [if_neg (zero_step r)]
      rfl
    rw [this]
    exact ha _ (h.getD_lt hk)
  | k + 1, hk => by
    have ih := least_le f h ha k (by omega)
    have ff := f (k + 1) (by omega) hk
    have e : nm r (k + 1 + 1) = nm r (k + 1) + (if k + 1 ∈ steps r then 1 else 0) := rfl
    rw [show k + 1 - 1 = k by omega] at ff
    by_cases c : k + 1 ∈ steps r
    · rw [if_pos c] at e
      have := ff.2 ((steps_mem (by omega) hk).mp c)
      omega
    · rw [if_neg c] at e
      have := ff.1
      omega
theorem least_at {r : List Nat} (h : Ord r) {p : Nat} (hp : p < r.length) : (leastL r).getD p 0 = 97 + nm r (r.idxOf p + 1) := by
  have hx : r.idxOf p < r.length := List.idxOf_lt_length_iff.mpr (h.mem hp)
  have := leastL_at h hx
  rw [h.get_idx hp] at this
  exact this
theorem least_le' {L r : List Nat} (f : Fits L r) (h : Ord r) (ha : ∀ p, p < r.length → 97 ≤ L.getD p 0) {p : Nat} (hp : p < r.length) : (leastL r).getD p 0 ≤ L.getD p 0 := by
  have hx : r.idxOf p < r.length := List.idxOf_lt_length_iff.mpr (h.mem hp)
  have := least_le f h ha _ hx
  rw [h.get_idx hp] at this
  rw [least_at h hp]
  exact this
end Km
namespace Kd
open PySem PySem.Spec PyProof.Rows L2 Kb Km
section
variable {X : Cx}
def rIsB' : RD2
  | .bool a, .bool b, Q => Q (.bool (decide (a = b)))
  | _, _, _ => False
def rNotB : RD2
  | .bool a, .bool b, Q => Q (.bool (!decide (a = b)))
  | _, _, _ => False
theorem x_isB {P : PyData → Prop} {a b : Bool} (h : P (.bool (decide (a = b)))) : rIsB' (.bool a) (.bool b) P := h
theorem x_notB {P : PyData → Prop} {a b : Bool} (h : P (.bool (!decide (a = b)))) : rNotB (.bool a) (.bool b) P := h
end
/-! ### orders, grown and shrunk -/
/-! ### all orders -/
/-! ### small things for laws -/
theorem getD_some {L : List Nat} {p : Nat} (h : p < L.length) : L[p]? = some (L.getD p 0) := by
  rw [List.getD_eq_getElem?_getD, List.getElem?_eq_getElem h]; rfl
theorem x_ne00 {P : PyData → Prop} (h : P (.bool (!true))) : rNev (.list []) (.list []) P :=
  x_neG (Gd.list (k := 0) (fun d hd => (nomatch hd))) (Gd.list (k := 0) (fun d hd => (nomatch hd))) (by decide) (by decide) (show PyData.eqv (.list []) (.list []) = true by simp [PyData.eqv, PyData.eqvAll]) h
theorem x_eq00 {P : PyData → Prop} (h : P (.bool true)) : rEqv (.list []) (.list []) P :=
  x_eqG (Gd.list (k := 0) (fun d hd => (nomatch hd))) (Gd.list (k := 0) (fun d hd => (nomatch hd))) (by decide) (by decide) (show PyData.eqv (.list []) (.list []) = true by simp [PyData.eqv, PyData.eqvAll]) h
end Kd
namespace Kd
open PySem PySem.Spec PyProof.Rows L2 Kb Km
section
variable {X : Cx}
/-! ### int(x) -/
def rIntOf : RDN
  | [.int i], Q => Q (.int i)
  | [.bool b], Q => Q (.int (if b then 1 else 0))
  | _, _ => False
theorem x_intB {P : PyData → Prop} {b : Bool} (h : P (.int (if b then 1 else 0))) : rIntOf [.bool b] P := h
theorem x_intI {P : PyData → Prop} {i : Int} (h : P (.int i)) : rIntOf [.int i] P := h
/-! ### the index of a word -/
/-! ### beginnings -/
theorem starts3_W (L P : List Nat) {p : Nat} (hp : p ≤ L.length) : Txt.startswith3 (wS L) (wS P) (p : Int) = decide ((L.drop p).take P.length = P) := by
  unfold Txt.startswith3
  have e1 : fromIndex (wS L).length (p : Int) = p := by
    unfold fromIndex
    rw [if_neg (by omega)]
    omega
  rw [e1]
  have l1 : (wS L).length = L.length := W_len L
  have l2 : (wS P).length = P.length := W_len P
  have e2 : Builtin.Str.subAt (wS L) (wS P) p = decide ((L.drop p).take P.length = P) := by
    unfold Builtin.Str.subAt
    rw [l2, Bool.eq_iff_iff, beq_iff_eq, decide_eq_true_iff]
    unfold wS
    constructor
    · intro h
      have := congrArg Array.toList h
      rw [Array.toList_extract] at this
      simp only [List.extract_eq_drop_take] at this
      rw [show p + P.length - p = P.length by omega] at this
      exact this
    · intro h
      apply Array.toList_inj.mp
      rw [Array.toList_extract]
      simp only [List.extract_eq_drop_take]
      rw [show p + P.length - p = P.length by omega]
      exact h
  rw [e2, l1, l2]
  by_cases c : (L.drop p).take P.length = P
  · have := congrArg List.length c
    rw [List.length_take, List.length_drop] at this
    rw [decide_eq_true c, Bool.and_true]
    exact decide_eq_true (by omega)
  · rw [decide_eq_false c, Bool.and_false]
theorem x_starts3W {P' : PyData → Prop} {L P : List Nat} {p : Nat} (hp : p ≤ L.length) (h : P' (.bool (decide ((L.drop p).take P.length = P)))) : rStarts (W L) [W P, .int (p : Nat)] P' := by
  show P' (.bool (Txt.startswith3 (wS L) (wS P) (p : Int)))
  rw [starts3_W L P hp]
  exact h
/-- the places of a pattern -/
def plc (L P : List Nat) : List Nat := (List.range L.length).filter fun p => decide ((L.drop p).take P.length = P)
theorem plc_len (L P : List Nat) : (plc L P).length ≤ L.length := by
  have := List.length_filter_le (fun p => decide ((L.drop p).take P.length = P)) (List.range L.length)
  rw [List.length_range] at this
  exact this
end
end Kd
namespace Kd
open PySem PySem.Spec PyProof.Rows L2 Kb Km
/-! ### letters renamed in a rising way -/
end Kd
namespace Kd
open PySem PySem.Spec PyProof.Rows L2 Kb Km
/-! ### the letters of a word renamed to the first letters: it is known from the order and the heads -/
/-! the heads under a renaming -/
theorem hds_at {L : List Nat} {k : Nat} (h : k + 1 < L.length) : (hds L)[k]? = some (agr (L.drop ((tord L).getD k 0)) (L.drop ((tord L).getD (k + 1) 0))) := by
  rw [← hds_rng, List.getElem?_map, List.getElem?_range (by omega)]
  rfl
end Kd
namespace Kd
open PySem PySem.Spec PyProof.Rows L2 Kb Km
section
variable {X : Cx}
/-- ts[::-1] of a tuple -/
def rRevT : RD1
  | .tuple ds, Q => Q (.tuple ds.reverse)
  | _, _ => False
end
/-! ### the heads and what two tails have in common -/
theorem hds_gd {L : List Nat} {k : Nat} (h : k + 1 < (tord L).length) : (hds L).getD k 0 = agr (L.drop ((tord L).getD k 0)) (L.drop ((tord L).getD (k + 1) 0)) := by
  rw [List.getD_eq_getElem?_getD, hds_at (by rw [← tord_len]; exact h)]
  rfl
end Kd
namespace Kd
open PySem PySem.Spec PyProof.Rows L2 Kb Km
/-! ### the longest part that stands twice -/
end Kd
namespace Kd
open PySem PySem.Spec PyProof.Rows L2 Kb Km
/-! ### rising rows of numbers and their places among all -/
/-- rising from low, up to room -/
def Up (room : Nat) : Nat → List Nat → Prop
  | _, [] => True
  | low, l :: ls => low ≤ l ∧ l ≤ room ∧ Up room l ls
end Kd
namespace Kd
open PySem PySem.Spec PyProof.Rows L2 Kb Km
/-! ### how far a word stands above the least one, along the order -/
theorem above {L r : List Nat} (f : Fits L r) (h : Km.Ord r) (ha : ∀ p, p < r.length → 97 ≤ L.getD p 0) {k : Nat} (hk : k < r.length) : 97 + nm r (k + 1) ≤ L.getD (r.getD k 0) 0 := by
  have hp := h.getD_lt hk
  have := least_le' f h ha hp
  have e : (leastL r).getD (r.getD k 0) 0 = 97 + nm r (k + 1) := by
    unfold leastL
    rw [List.getD_eq_getElem?_getD, List.getElem?_map, List.getElem?_range hp]
    show 97 + nm r (r.idxOf (r.getD k 0) + 1) = _
    rw [h.idx_get hk]
  omega
end Kd
namespace Kd
open PySem PySem.Spec PyProof.Rows L2 Kb Km
end Kd
namespace Kd
open PySem PySem.Spec PyProof.Rows L2 Kb Km
end Kd
namespace Kd
open PySem PySem.Spec PyProof.Rows L2 Kb Km
/-! ### how many fillings come before one -/
end Kd
namespace Kd
open PySem PySem.Spec PyProof.Rows L2 Kb Km
/-! ### the word that stands so far above the least one -/
end Kd
namespace Kd
open PySem PySem.Spec PyProof.Rows L2 Kb Km StX
/-! ### a def with a star parameter -/
/-! ### a comprehension over two sources, the first one's name in a slot -/
def LcF (gd : TGD) (tt : TTD) (te : TD) (ρ : List Cell) (ds : List PyData) (acc0 : List PyData) (n : Nat) (Q : List PyData → Nat → Prop) : Prop := ∃ I : Nat → List PyData → Nat → Prop, I 0 acc0 n ∧
  (∀ i x acc n, ds[i]? = some x → I i acc n → gd x ρ fun ρ2 => tt ρ2 n (fun b n1 => if b = true then te ρ2 n1 (fun y n2 => acc.length < sizeLine ∧ I (i + 1) (acc ++ [y]) n2) X0 else I (i + 1) acc n1) X0) ∧
  ∀ acc n, I ds.length acc n → Q acc n
def Lc2I (a : Nat) (vs1 : List Nat) (Ti1 : TID) (gd1 : TGD) (tt1 : TTD) (te : TD) (ρ : List Cell) (ds : List PyData) (n : Nat) (Q : List PyData → Nat → Prop) : Prop := ∃ I : Nat → List PyData → Nat → Prop, I 0 [] n ∧
  (∀ i x acc n, ds[i]? = some x → I i acc n → dgName a x ρ fun ρ2 => Ti1 ρ2 n (fun ds1 n1 => LcF gd1 tt1 te (wipeC ρ2 vs1) ds1 acc n1 (I (i + 1))) X0) ∧
  ∀ acc n, I ds.length acc n → Q acc n
def dLc2 (a : Nat) (vs vs1 : List Nat) (Ti Ti1 : TID) (gd1 : TGD) (tt1 : TTD) (te : TD) : TAD := fun ρ n Q X => Ti ρ n (fun ds n1 => Lc2I a vs1 Ti1 gd1 tt1 te (wipeC ρ vs) ds n1 Q) X
section
variable {ρ : List Cell} {n : Nat} {Xd : XD}
theorem x_lc2 {a : Nat} {vs vs1 : List Nat} {Ti Ti1 : TID} {gd1 : TGD} {tt1 : TTD} {te : TD} {Q : List PyData → Nat → Prop} (h : Ti ρ n (fun ds n1 => Lc2I a vs1 Ti1 gd1 tt1 te (wipeC ρ vs) ds n1 Q) Xd) : dLc2 a vs vs1 Ti Ti1 gd1 tt1 te ρ n Q Xd := h
end
end Kd
namespace Kd
open PySem PySem.Spec PyProof.Rows L2 Kb Km
section
variable {X : Cx}
/-! ### x in y, y a tuple of tuples -/
def rInTT : RD2 := fun x y Q => ∃ (a : List Nat) (b : List (List Nat)), x = tupL a ∧ y = .tuple (b.map tupL) ∧ Q (.bool (decide (a ∈ b)))
end
theorem x_inTT {P : PyData → Prop} {a : List Nat} {b : List (List Nat)} (h : P (.bool (decide (a ∈ b)))) : rInTT (tupL a) (.tuple (b.map tupL)) P := ⟨a, b, rfl, rfl, h⟩
theorem x_neTt {P : PyData → Prop} {a b : List (List Nat)} (h : P (.bool (!decide (a = b)))) : rNev (.tuple (a.map tupL)) (.tuple (b.map tupL)) P := x_neG (Gd.tuple (gd_map fun x _ => gd_tupL x)) (Gd.tuple (gd_map fun x _ => gd_tupL x)) (by decide) (by decide) (eqvT eqv_tupL a b) h
theorem x_eqTt {P : PyData → Prop} {a b : List (List Nat)} (h : P (.bool (decide (a = b)))) : rEqv (.tuple (a.map tupL)) (.tuple (b.map tupL)) P := x_eqG (Gd.tuple (gd_map fun x _ => gd_tupL x)) (Gd.tuple (gd_map fun x _ => gd_tupL x)) (by decide) (by decide) (eqvT eqv_tupL a b) h
/-! ### pairs of places -/
/-! ### how many they are -/
def T2 (f : Nat → Nat → Bool) (j : Nat) : Nat → Nat
  | 0 => 0
  | i + 1 => T2 f j i + ((List.range j).filter (f i)).length
end Kd
namespace Kd
open PySem PySem.Spec PyProof.Rows L2 Kb Km
section
variable {X : Cx} {E : XK} {e : Expr} {Te : TD} {pos : Pos} {x y : Str} {p ap sp : Pos} {i : Nat}
/-- x.pop(e), x an own list -/
def dPop (i : Nat) (T : TD) : TSD := fun e ρ n => ∃ ds, ρ[i]? = some (.own ds) ∧ T ρ n (fun d n1 => ∃ k : Nat, d = .int (k : Nat) ∧ k < ds.length ∧ ds.length ≤ 1000000 ∧ e.nx (ρ.set i (.own (ds.eraseIdx k))) n1) e.ex
theorem x_pop {T : TD} {ρ : List Cell} {n : Nat} {e : DEnds} {ds : List PyData} (h0 : ρ[i]? = some (.own ds)) (h : T ρ n (fun d n1 => ∃ k : Nat, d = .int (k : Nat) ∧ k < ds.length ∧ ds.length ≤ 1000000 ∧ e.nx (ρ.set i (.own (ds.eraseIdx k))) n1) e.ex) : dPop i T e ρ n := ⟨ds, h0, h⟩
/-- list(text): a new list of its signs -/
def dListS (T : TD) : TAD := fun ρ n Q X => T ρ n (fun d n1 => ∃ z : Str, d = .str z ∧ Q (sgD z) n1) X
theorem x_listSg {T : TD} {ρ : List Cell} {n : Nat} {Q : List PyData → Nat → Prop} {Z : XD} (h : T ρ n (fun d n1 => ∃ z : Str, d = .str z ∧ Q (sgD z) n1) Z) : dListS T ρ n Q Z := h
end
end Kd
namespace Kd
open PySem PySem.Spec PyProof.Rows L2 Kb Km
section
variable {X : Cx} {E : XK} {a b c e : Expr} {Ta Tb Tc Te : TD} {pos : Pos}
/-- two new lists at once -/
def dParFF (i j : Nat) (S T : TAD) : TSD := fun e ρ n => S ρ n (fun ds n1 => T ρ n1 (fun es n2 => e.nx ((ρ.set i (.own ds)).set j (.own es)) n2) X0) e.ex
/-- a value, a new list, a value -/
def dPar3M (i j l : Nat) (Ta : TD) (S : TAD) (Tc : TD) : TSD := fun e ρ n => Ta ρ n (fun x n1 => S ρ n1 (fun ds n2 => Tc ρ n2 (fun z n3 => e.nx (((ρ.set i (.d x)).set j (.own ds)).set l (.d z)) n3) X0) e.ex) e.ex
/-- x.append(y.pop(e)) -/
def dAppPop (i j : Nat) (T : TD) : TSD := fun e ρ n => ∃ ds es, ρ[i]? = some (.own ds) ∧ ρ[j]? = some (.own es) ∧ T ρ n (fun d n1 => ∃ (k : Nat) (y : PyData), d = .int (k : Nat) ∧ es[k]? = some y ∧ es.length ≤ 1000000 ∧ ds.length < sizeLine ∧ e.nx ((ρ.set j (.own (es.eraseIdx k))).set i (.own (ds ++ [y]))) n1) e.ex
end
section
variable {ρ : List Cell} {n : Nat} {e : DEnds} {i j : Nat}
theorem x_parFF {S T : TAD} (h : S ρ n (fun ds n1 => T ρ n1 (fun es n2 => e.nx ((ρ.set i (.own ds)).set j (.own es)) n2) X0) e.ex) : dParFF i j S T e ρ n := h
theorem x_par3M {l : Nat} {Ta Tc : TD} {S : TAD} (h : Ta ρ n (fun x n1 => S ρ n1 (fun ds n2 => Tc ρ n2 (fun z n3 => e.nx (((ρ.set i (.d x)).set j (.own ds)).set l (.d z)) n3) X0) e.ex) e.ex) : dPar3M i j l Ta S Tc e ρ n := h
theorem x_appPop {T : TD} {ds es : List PyData} (h0 : ρ[i]? = some (.own ds)) (h1 : ρ[j]? = some (.own es)) (h : T ρ n (fun d n1 => ∃ (k : Nat) (y : PyData), d = .int (k : Nat) ∧ es[k]? = some y ∧ es.length ≤ 1000000 ∧ ds.length < sizeLine ∧ e.nx ((ρ.set j (.own (es.eraseIdx k))).set i (.own (ds ++ [y]))) n1) e.ex) : dAppPop i j T e ρ n := ⟨ds, es, h0, h1, h⟩
end
/-! ### where the factors begin -/
end Kd
namespace Kd
open PySem PySem.Spec PyProof.Rows L2 Kb Km
/-! ### dicts as data, and repr of them -/
theorem kv_ints {K : PySem.W.Frag} {p : Addr} {H : Hp} : ∀ {ks : List (Key × Int)} {vs : List (Key × V)}, DqKV K p H vs (ks.map fun p => (p.1, PyData.int p.2)) → vs = ks.map fun p => (p.1, V.int p.2)
  | [], _, .nil => rfl
  | (k, i) :: ks, _, .cons h r => by
    rw [h.int', kv_ints r]
    rfl
section
variable {X : Cx}
variable {E : XK} {pos : Pos}
theorem de_dct0 : DE E X (.Dict [] [] pos) (dC (.dict [])) :=
  pe_weak pe_dnewK fun σ H Q ⟨F, O, ρ, n, Qd, Xd, R, t, mq, mx⟩ p hp => by
    have w := R.rw.wd
    have e := w.new hp (.dK [])
    exact mq _ n _ _ t e (.dct (ks := []) (hid_new (w.fresh hp)) .nil)
theorem de_dct1 {z : Str} {i : Int} {j1 j2} {p1 p2 : Pos} : DE E X (.Dict [some (.Constant (.str z) j1 p1)] [.Constant (.int i) j2 p2] pos) (dC (.dict [(.str z, .int i)])) :=
  pe_weak (pe_disp (pps_cons pe_str pe_int pps_nil) rfl rfl (by simp) (by show 1 ≤ 15; decide)) fun σ H Q ⟨F, O, ρ, n, Qd, Xd, R, t, mq, mx⟩ p hp => by
    have w := R.rw.wd
    have e : Ext F.g O O H (upd (upd H p (.dK [])) p (.dK [(.inr z, V.int i)])) n n := Same.ext w fun a o h => by
      have ne := ne_of_none h hp
      rw [upd_ne ne, upd_ne ne]
      exact h
    refine ⟨upd_same, [(.inr z, V.int i)], rfl, by show 1 ≤ 15; decide, ?_⟩
    exact mq _ n _ _ t e (.dct (ks := [(.inr z, .int i)]) (hid_some.mpr ⟨w.fresh hp, upd_same⟩) (.cons (.int i) .nil))
end
/-! ### signs among the letters -/
def abcB (c : Nat) : Bool := decide (97 ≤ c ∧ c ≤ 122)
theorem abc_list : ABC.cps.toList = List.range' 97 26 := by decide +kernel
theorem isIn_one (z : Str) (c : Nat) : isIn z ⟨#[c]⟩ = decide (c ∈ z.cps.toList) := PySem.StrLaws.found_one z c
theorem x_abcNinG {P : PyData → Prop} {c : Nat} (h : P (.bool (!abcB c))) : rInG true (W [c]) (.str ABC) P := by
  show P (.bool (true != isIn ABC ⟨#[c]⟩))
  rw [isIn_one, abc_list, show decide (c ∈ List.range' 97 26) = abcB c from dec_iff (by rw [List.mem_range'_1]; omega), Bool.true_bne]
  exact h
/-! ### what word_error tells -/
def werL (L : List Nat) : PyData := if 1 ≤ L.length ∧ L.length ≤ 24 then (match L.findIdx? (fun c => !abcB c) with | some i => .tuple [.int (i : Nat), .str "letter"] | none => .none) else .tuple [.none, .str "word"]
def werr : PyData → PyData
  | .str z => werL z.cps.toList
  | _ => .tuple [.none, .str "word"]
theorem werr_W (L : List Nat) : werr (W L) = werL L := by
  show werL (L.toArray.toList) = _
  rw [List.toList_toArray]
theorem str_W (z : Str) : PyData.str z = W z.cps.toList := by
  show PyData.str z = PyData.str ⟨z.cps.toList.toArray⟩
  rw [Array.toArray_toList]
theorem werL_at {L : List Nat} {i c : Nat} (h : 1 ≤ L.length ∧ L.length ≤ 24) (hc : L[i]? = some c) (hb : abcB c = false) (hg : ∀ j x, j < i → L[j]? = some x → abcB x = true) : werL L = .tuple [.int (i : Nat), .str "letter"] := by
  unfold werL
  rw [if_pos h]
  obtain ⟨hi, e⟩ := List.getElem?_eq_some_iff.mp hc
  have : L.findIdx? (fun c => !abcB c) = some i := List.findIdx?_eq_some_iff_getElem.mpr ⟨hi, by rw [e, hb]; rfl, fun j hj => by rw [hg j _ hj (List.getElem?_eq_getElem (by omega))]; decide⟩
  rw [this]
theorem werL_none {L : List Nat} (h : 1 ≤ L.length ∧ L.length ≤ 24) (hg : ∀ j x, j < L.length → L[j]? = some x → abcB x = true) : werL L = .none := by
  unfold werL
  rw [if_pos h]
  have : L.findIdx? (fun c => !abcB c) = none := List.findIdx?_eq_none_iff.mpr fun x hx => by
    obtain ⟨j, hj, e⟩ := List.getElem_of_mem hx
    rw [hg j x hj (by rw [List.getElem?_eq_getElem hj, e])]
    rfl
  rw [this]
end Kd
/-! own exceptions over ValueError or LookupError whose __init__ stores one field -/
namespace KdX
open PySem PySem.W PySem.Calls PySem.HandSPX PyProof.Rows Builtin Builtin.ObjectAttr
theorem osaX {prog : Program} {w : World} {A : Around} {R : Result → Shared → Prop} {hp : Heap} {g : Array GenState} {dr : Drawn} {tk0 : Nat} {os : OsState} {B : String} {bmB : List Value} {K : Frag} {f : Str} {tk : Tok} {v : Value} {x C : Addr} {fv : Array Value} {cd : ClassData}
    (SF : StoreFacts B bmB "object.__setattr__" "object") (X : K.In hp) (hx : hp.get? x = some { cls := .ref C, data := .fields fv }) (hcd : clsIn K C = some cd) (ho : excOver K C bmB = true) (hh : cd.hasDict = true) (ha : findIn K (.ref C) f = some none)
    (hq : ∀ h' tk' dx, (∀ b o, b ≠ x → hp.get? b = some o → h'.get? b = some o) → hp.objs.size ≤ dx → dx ≠ x → h'.get? x = some { cls := .ref C, dict := some dx, data := .fields fv } → h'.Ns1 dx (fun y => if y = f then some v else none) → R (.ok (.ret .none)) ⟨h', g, dr, tk', os⟩) :
    codeAny (model prog w) A (.call (.builtin "object.__setattr__") ⟨[.ref x, .str f tk, v], []⟩) R ⟨hp, g, dr, tk0, os⟩ := by
  have J : InstAt hp x { cls := .ref C, data := .fields fv } C none := ⟨hx, rfl, rfl, trivial⟩
  have tk1 : takerIn K C f = some none := by unfold takerIn; rw [ha]; rfl
  have nex : x ≠ hp.objs.size := Nat.ne_of_lt (Heap.lt_size hx)
  have cl : Looks (model prog w) hp (classData C) cd := looks_clsIn X hcd
  refine osa_openX SF X J ho tk1 fun b => ?_
  obtain ⟨nm, bs, mro, ns, qn, hd, sn, sb, ab, col, del⟩ := cd
  dsimp only at hh
  subst hh
  dsimp only
  unfold storeInOwnDict ownDictForStores
  repeat (first | with_reducible refine store_in_new ?_ ?_ | with_reducible refine wpAny_loadPart_at hx ?_ | with_reducible refine cl.at ?_ | wp_step)
  · exact ⟨_, #[], _, (Heap.get?_update_ne _ _ _ _ nex.symm).trans (Heap.get?_push_at rfl rfl), rfl, fun e he => absurd he (by simp), fun _ => rfl⟩
  · intro h' tk' hn' hs
    have pushed : (hp.push { cls := .type "dict", data := .dict #[] }).get? x = some { cls := .ref C, data := .fields fv } := Heap.get?_push_of_some _ hx
    exact hq h' tk' hp.objs.size (fun b o hb hob => (hs.2 b (Nat.ne_of_lt (Heap.lt_size hob))).trans ((Heap.get?_update_ne _ _ _ _ hb).trans (Heap.get?_push_of_some _ hob))) (Nat.le_refl _) nex.symm
      ((hs.2 x nex).trans (Heap.get?_update_self _ pushed rfl)) hn'
end KdX
namespace Kd
open PySem PySem.Spec PyProof.Rows L2 Kb
/-- a class of the text over a built-in one -/
structure ExK (K : PySem.W.Frag) (C : Addr) (B newId initId : String) (bmB : List Value) : Prop where
  bf : ExcBaseFacts B newId initId bmB
  sf : StoreFacts B bmB "object.__setattr__" "object"
  cls : ∃ nm q N bs bm sn sub ab col dd k0 k1 k2 k3 k5, K.lookup C = some (excClassObj nm q C N bs bm true sn sub ab col dd k0 k1 k2 k3 k5 newId) ∧ PySem.W.excTail bmB bm = true
  sa : PySem.W.findIn K (.ref C) "__setattr__" = some (some (.builtin "object.__setattr__"))
  ga : PySem.W.findIn K (.ref C) "__getattribute__" = some (some (.builtin "BaseException.__getattribute__"))
  gg : PySem.W.findIn K (.ref C) "__getattr__" = some none
  ca : PySem.W.findIn K (.ref C) "__class__" = some (some (.builtin "object.__class__"))
  exC : PySem.W.subIn K (.ref C) (.type "BaseException") = some true
  tyC : PySem.W.typeIn K (.ref C) = some (.type "type")
  kC : PySem.W.keepIn K (.ref C) = true
  hdC : PySem.W.hasDictIn K C = true
  mo : PySem.W.mroIn K C (.type "object") = some true
  ng : PySem.W.specialIn K (.builtin "object.__class__") "__get__" = some (some (.builtin "getset_descriptor.__get__"))
  nt : PySem.W.takesIn K (.builtin "object.__class__") = some true
/-- C is the class of the text called x -/
def ExA (K : PySem.W.Frag) (C : Addr) : Prop := ∃ B n i bm, ExK K C B n i bm
theorem ExK.over {K : PySem.W.Frag} {C : Addr} {B n i : String} {bm : List Value} (T : ExK K C B n i bm) : ∃ cd, PySem.W.clsIn K C = some cd ∧ cd.hasDict = true ∧ PySem.W.excOver K C bm = true := by
  obtain ⟨nm, q, N, bs, bl, sn, sub, ab, col, dd, k0, k1, k2, k3, k5, hC, hb⟩ := T.cls
  have e : PySem.W.clsIn K C = some { name := nm, bases := bs, mro := .ref C :: bl, ns := N, qualname := q, hasDict := true, slotNames := sn, subclasses := sub, abstract := ab, collection := col, hasDel := false } := by unfold PySem.W.clsIn; rw [hC] <;> rfl
  refine ⟨_, e, rfl, ?_⟩
  unfold PySem.W.excOver
  rw [e]
  show (C == C && PySem.W.excTail bm bl) = true
  rw [hb, beq_self_eq_true]
  rfl
section
variable {X : Cx} {pins : List (Addr × Obj)} {σ : L2.St} {H : Hp} {s : Shared} {a C dx : Addr} {f : Str} {y : V} {u : Value} {fs : List (Str × V)} {A : Around}
theorem ost_any {Q : Unit → Shared → Prop} {E : Value → Shared → Prop} (T : ExA X.K C) (I : Inv X pins σ H s) (e : H a = some (exo a C none)) (hno : PySem.W.findIn X.K (.ref C) f = some none) (ry : RelV y u)
    (h : ∀ dx s', H dx = none → dx ≠ a → Inv X pins σ (upd (upd H dx (exd dx [(f, y)])) a (exo a C (some dx))) s' → Q () s') : wpAny (model X.prog X.w) A (setAttr (.ref a) f u) Q E s := by
  obtain ⟨B, n, i, bm, T⟩ := T
  obtain ⟨cd, hcl, hdd, hov⟩ := T.over
  obtain ⟨t1, ho⟩ := exo_at I.hok e
  obtain ⟨hp, g, d, t, os⟩ := s
  refine PySem.W.set_plain I.kIn (ox := { cls := .ref C, dict := none, data := .fields #[.ref t1, .none, .none, .none, .bool false, .none] }) (od := none) ⟨ho, rfl, rfl, trivial⟩ T.sa (KdX.osaX T.sf I.kIn ho hcl hov hdd hno fun h' tk' dx k dn dne hx hn => ?_)
  have hnd : H dx = none := I.hok.fresh dn
  have nd : ∀ {b : Addr} {o : Obj}, hp.get? b = some o → b ≠ dx := fun q => Nat.ne_of_lt (Nat.lt_of_lt_of_le (Heap.lt_size q) dn)
  have na : ∀ {b : Addr}, H b = none → b ≠ a := fun n z => by rw [z, e] at n; cases n
  have U : Un X.fs [] H (upd (upd H dx (exd dx [(f, y)])) a (exo a C (some dx))) hp h' :=
    ⟨fun b o q n _ _ => k b o (na n) q, fun b o q n _ _ => ⟨o.slots, k b o (na n) q⟩, fun b o q n _ => by rw [upd_ne (na n), upd_ne (nd q)]; exact n,
     fun b o q _ => by
       by_cases hb : b = a
       · exact ⟨_, by rw [hb]; exact hx⟩
       · exact ⟨o, k b o hb q⟩,
     fun b xs q => by rw [upd_ne (at_ne e q exo_tup), upd_ne (ne_of_none q hnd)]; exact q, fun b o v q => by rw [upd_ne (at_ne e q exo_frz), upd_ne (ne_of_none q hnd)]; exact q,
     fun b ps q => ⟨#[], by rw [upd_ne (at_ne e q exo_tbl), upd_ne (ne_of_none q hnd), q]; simp⟩⟩
  refine h dx _ hnd dne (I.un (t' := tk') U fun b o q => ?_)
  by_cases hb : b = a
  · subst hb; rw [upd_same] at q; cases q; exact exo_ok hx
  · rw [upd_ne hb] at q
    by_cases hd : b = dx
    · subst hd; rw [upd_same] at q; cases q; exact exd_ok hn (relO_put (fs := []) ry fun g => True.intro)
    · rw [upd_ne hd] at q
      refine (I.hok b o q).stay (fun c v hc z => ?_) (fun c hc => by rw [upd_ne (at_ne e hc exo_own), upd_ne (ne_of_none hc hnd)]; exact hc) (fun c xs hc => by rw [upd_ne (at_ne e hc exo_tup), upd_ne (ne_of_none hc hnd)]; exact hc)
      rcases hc with hc | hc
      · exact k c v (by rw [hc]; exact hb) z
      · exact k c v (at_ne e hc exo_own) z
/-- self.f = e, the first one -/
def tSt1 (K : PySem.W.Frag) (f : Str) (to te : TE) : TS := fun D σ H => te σ H fun y H1 => to σ H1 fun x H2 => ∃ a C : Addr, x = .ref a ∧ ExA K C ∧ PySem.W.findIn K (.ref C) f = some none ∧ H2 a = some (exo a C none) ∧
  ∀ dx, H2 dx = none → dx ≠ a → D.nx σ (upd (upd H2 dx (exd dx [(f, y)])) a (exo a C (some dx)))
theorem ps_st1 {o e : Expr} {to te : TE} {p' pos : Pos} (ho : PE X o to) (he : PE X e te) (hs : swapsWith e (some (.Attribute o f p')) pos.line X.env = pure false := by rfl) : PS X (.Assign [.Attribute o f p'] e pos) (tSt1 X.K f to te) := by
  refine ⟨fun pins s σ H D I h => plainObj_wpAny_Assign_Attribute (thn (he.run pins s σ H _ I h) fun v s1 ⟨y, H1, I1, r1, q1⟩ => thn (ho.run pins s1 σ H1 _ I1 q1) fun u s2 ⟨x, H2, I2, r2, a, C, ex, T, hno, ea, q⟩ => ?_) hs⟩
  subst ex
  obtain rfl : u = Value.ref a := r2
  exact ost_any T I2 ea hno r1 fun dx s' n ne J => ⟨σ, _, J, q dx n ne⟩
/-- __init__(self, f): self.f = f -/
def spInit (f : Str) (K : PySem.W.Frag) : Sp := fun vs H Q _ => ∃ (a C : Addr) (y : V), vs = [.ref a, y] ∧ ExA K C ∧ PySem.W.findIn K (.ref C) f = some none ∧ H a = some (exo a C none) ∧ ∀ dx, H dx = none → dx ≠ a → Q .non (upd (upd H dx (exd dx [(f, y)])) a (exo a C (some dx)))
/-- C(e): a new exception with one field -/
theorem pmk_ex1 {x : Str} {fI : Addr} {k : Nat} {fd : FuncData} {ps : List Str} {e : Expr} {es : List Expr} {ta : TA} {p pos : Pos} (T : ExA X.K C) (hno : PySem.W.findIn X.K (.ref C) f = some none) (iC : PySem.W.findIn X.K (.ref C) "__init__" = some (some (.ref fI))) (tI : PySem.W.typeIn X.K (.ref fI) = some (.type "function"))
    (F1 : FnOk X.prog X.w X.K X.mg X.base CX0 k fI fd ps (spInit f X.K)) (hr : Room (k + 1) X.A) (hb : Binds X.K fd ps []) (hg : Gl X x) (hm : X.mg x = some (.ref C)) (ha : PA X (e :: es) ta)
    (hdb : (x == ("__debug__" : Str)) = false := by decide) (he : starEach (e :: es) X.env = (false, eval e X.env) :: starEach es X.env := by rfl) (hpl : (backTo pos (starEach es X.env)).any (·.1) = false := by rfl) :
    L2N.PMk X (.Call (.Name x p) (e :: es) [] pos) (fun σ H Q => ta σ H fun vs H1 => ∃ y, vs = [y] ∧ ∀ d, H1 d = none → Q (.ref C) (some d) (upd H1 d (.xd [(f, y)]))) := by
  intro pins s σ H Q I h
  obtain ⟨B, n, i, bm, T⟩ := T
  obtain ⟨nm, q, N, bs, bl, sn, sub, ab, col, dd, k0, k1, k2, k3, k5, hC, hbm⟩ := T.cls
  refine wpAny_Call_Name_kw (ld_glob I hg hm (PySem.W.callWith_K (h₀ := X.base) I.ok.mod.kin T.kC (thn (ha.run pos pins s σ H _ I h) fun us s1 ⟨vs, H1, I1, r1, y, ey, q1⟩ => ⟨I1.kIn, ?_⟩) he hpl) hdb)
  subst ey
  cases r1 with
  | @cons _ u _ us' ru rn =>
  cases rn
  show wpAny _ _ (call (.ref C) [u]) _ _ _
  obtain ⟨hp, g, dr, tk, os⟩ := s1
  have z1 : hp.objs.size ≤ hp.objs.size + 1 := Nat.le_succ _
  have hn : H1 (hp.objs.size + 1) = none := I1.hok.fresh z1
  have kk : ∀ b o, hp.get? b = some o → ((hp.push (PySem.W.kdv_tup [u])).push (PySem.HandSPX.excO C hp.objs.size)).get? b = some o := fun b o z => Heap.get?_push_of_some _ (Heap.get?_push_of_some _ z)
  have got : ((hp.push (PySem.W.kdv_tup [u])).push (PySem.HandSPX.excO C hp.objs.size)).get? (hp.objs.size + 1) = some (PySem.HandSPX.excO C hp.objs.size) := by heap_get
  have I2 : Inv X pins σ (upd H1 (hp.objs.size + 1) (exo (hp.objs.size + 1) C none)) ⟨(hp.push (PySem.W.kdv_tup [u])).push (PySem.HandSPX.excO C hp.objs.size), g, dr, tk, os⟩ := I1.laid (t' := tk) kk z1 (exo_ok got)
  have hsp : spInit f X.K [.ref (hp.objs.size + 1), y] (upd H1 (hp.objs.size + 1) (exo (hp.objs.size + 1) C none))
      (fun v H2 => v = .non ∧ ∃ d, H2 (hp.objs.size + 1) = some (exo (hp.objs.size + 1) C (some d)) ∧ H2 d = some (exd d [(f, y)]) ∧ H1 d = none ∧ upd (del H2 (hp.objs.size + 1)) d (.xd [(f, y)]) = upd H1 d (.xd [(f, y)])) (fun _ _ _ => False) := by
    refine ⟨_, C, y, rfl, ⟨B, n, i, bm, T⟩, hno, upd_same, fun dx hd hne => ⟨rfl, dx, upd_same, by rw [upd_ne hne, upd_same], by rw [upd_ne hne] at hd; exact hd, ?_⟩⟩
    funext b
    by_cases e1 : b = dx
    · rw [e1, upd_same, upd_same]
    · rw [upd_ne e1, upd_ne e1]
      by_cases e2 : b = hp.objs.size + 1
      · rw [e2, del_same, hn]
      · rw [del_ne e2, upd_ne e2, upd_ne e1, upd_ne e2]
  have r2 : Vals [V.ref (hp.objs.size + 1), y] [Value.ref (hp.objs.size + 1), u] := .cons rfl (.cons ru .nil)
  have hl : ([Value.ref (hp.objs.size + 1), u] ++ []).length = ps.length := by
    have z := r2.length
    rw [F1.len _ _ _ _ hsp] at z
    exact z.symm
  refine wpAny_call (PySem.HandSPX.call_own T.bf (fun Y => PySem.W.excTail_contains Y bl hbm) (I1.kIn _ _ hC) (PySem.W.looks_findIn I1.kIn iC) (fun self => PySem.W.bind_fn I1.kIn self tI) (by show 1 ≤ sizeLine; rw [sizeLine_eq]; omega)
    (codeAny_mono (F1.run _ X.stack _ _ ⟨[Value.ref (hp.objs.size + 1), u], []⟩ [Value.ref (hp.objs.size + 1), u] _ _ (fun _ _ _ => False) (hr.make C [u] []) (I2.env0.make C [u] []) (hb _ [Value.ref (hp.objs.size + 1), u] I2.kIn hl) r2 hsp) fun r s' hq' => ?_))
  cases r with
  | error er => exact hq'.elim
  | ok fl =>
    cases fl with
    | ret v' =>
      obtain ⟨v, H2, os2, bare2, un2, hok2, rv, ev, d, ea, ed, hd1, eH⟩ := hq'
      subst ev
      obtain ⟨h2, g2, d2, t2, os'⟩ := s'
      obtain ⟨t0, G, J, kG, ge, hoe, na⟩ := mk_end0 (d2 := d2) (t2 := t2) I1 z1 kk un2 hok2 os2 bare2 ea ed hd1
      exact ⟨rv, _, _, _, ⟨G, g2, d2, t2, os'⟩, _, .ref C, some d, rfl, J, kG, ge, hoe, ⟨rfl, rfl, fun vs e => by cases e; rfl⟩, rfl, rfl, na, rfl, bare2, raises_own T.exC T.tyC, by rw [eH]; exact q1 d hd1⟩
    | next => exact hq'.elim
    | brk => exact hq'.elim
    | cont => exact hq'.elim
end
end Kd
/-! exceptions over data: a def that raises, raise, try .. except, what a suite asks of its error -/
namespace Kd
open PySem PySem.Spec PyProof.Rows L2 Kb
section
variable {K : PySem.W.Frag} {F : Fx} {O : Addr → Bool} {σ : St} {H H' : Hp} {ρ : List Cell} {n n' : Nat}
/-- nothing is known of the slots -/
theorem Rw.none (r : Rw F O H n) (σ : St) : Rel K F O σ H (List.replicate σ.length .no) n := by
  refine ⟨r, by rw [List.length_replicate], fun i c h => ?_, fun i j c c' q hi hj o1 _ _ _ => ?_⟩
  · rw [List.getElem?_replicate] at h
    split at h
    · cases h
      rename_i z
      exact ⟨_, List.getElem?_eq_getElem z, trivial⟩
    · cases h
  · rw [List.getElem?_replicate] at hi
    split at hi
    · cases hi; cases o1
    · cases hi
theorem XOk.back {g : G} {O' : Addr → Bool} {fs : List (Str × PyData)} {d : Option Addr} (r : Rw (fxOf g O H n) O' H' n') (h : XOk K g.p O' H' fs d) : XOk K g.p (Kd.back O n') H' fs d := by
  cases d with
  | none => exact h
  | some a =>
    obtain ⟨h1, xs, h2, h3⟩ := h
    exact ⟨back_sub (F := fxOf g O H n) r h1, xs, h2, h3.same (hid_back r)⟩
end
section
variable {P : Program} {w : World} {K : PySem.W.Frag} {mg : Str → Option Value} {base : Heap}
/-- a def that may raise -/
theorem okX {x qual : Str} {st : Stmt} {f : Addr} {fd : FuncData} {N ps : List Str} {k : Nat} {S : SpD} (F : Fun K x qual st f fd) (hS : FnScope N ps (defScope st)) (len : ∀ ds n Q X, S ds n Q X → ds.length = ps.length)
    (body : ∀ (cdv : Value) (A : Around) (outer : List Env) (s : Shared) (H : Hp) (E : XK), Room k (A.deeper (envOfC qual (defScope st) s.heap.objs.size f cdv)) →
      ∃ T, DSs E (cxOf (L2N.CX P w) P w K mg base N qual (defScope st) f cdv A outer s H E) (defBody st) T ∧ ∀ ds n Q X, S ds n Q X → T { nx := fun _ n' => Q .none n', rt := Q, ex := X } (startC N ds) n) :
    FnOk P w K mg base (L2N.CX P w) (k + 1) f fd ps (spD K S) := by
  obtain ⟨oc, od, kV, doc, pm, an, cdv, ct, osl, rfl, lk, hcd⟩ := F.ex
  refine fn_of lk hcd hS (fun vs H Q E h => ?_) (fun A outer s H vs Q E hr h => ?_)
  · obtain ⟨g, O, n, ds, Qd, Xd, wd, hd, hs, _⟩ := h
    rw [hd.length]
    exact len _ _ _ _ hs
  · obtain ⟨g, O, n, ds, Qd, Xd, wd, hd, hs, mq, mx⟩ := h
    obtain ⟨T, hT, hq⟩ := body cdv A outer s H E hr
    refine ⟨_, hT, fxOf g O H n, O, _, n, _, rel_start wd hd, hq ds n Qd Xd hs, ?_⟩
    have go : ∀ O' H' n' v d, Rw (fxOf g O H n) O' H' n' → Dq K g.p (hid O' H') v d → Qd d n' → Q v H' := fun O' H' n' v d r h q => mq d n' v H' q (ext_back r) (h.same (hid_back r))
    exact ⟨fun O' σ' H' ρ' n' R q => go O' H' n' .non .none R.rw .non q, fun _ _ _ _ _ _ q => q.elim, fun _ _ _ _ _ _ q => q.elim, go, fun O' H' n' C fs oa r ok q => mx C fs n' H' oa q (ext_back r) (ok.back r)⟩
end
section
variable {X : Cx} {E : XK} {pos : Pos}
/-- what leaves a def is wanted as the def wants it -/
abbrev TkE (X : Cx) (E : XK) : Prop := L2N.Takes X (fun cls d _ H => E cls d H)
theorem passX (tk : TkE X E) : Passes (L2N.CX X.prog X.w) X E := L2N.passes_call tk fun _ _ _ _ h => h
def dRaise (C : Addr) (f : Str) (T : TAD) : TSD := fun e ρ n => T ρ n (fun ds n1 => ∃ d, ds = [d] ∧ e.ex (.ref C) [(f, d)] n1) e.ex
theorem ds_raise {x : Expr} {C : Addr} {f : Str} {Ta : TAD} (hc : X.calm = true) (tk : TkE X E)
    (mk : L2N.PMk X x (fun σ H Q => liftA X.K E Ta σ H fun vs H1 => ∃ y, vs = [y] ∧ ∀ d, H1 d = none → Q (.ref C) (some d) (upd H1 d (.xd [(f, y)])))) : DS E X (.Raise (some x) none pos) (dRaise C f Ta) :=
  ps_weak (L2N.ps_raise hc tk mk) fun D σ H ⟨F, O, ρ, n, e, R, t, m⟩ => ⟨F, _, ρ, n, _, e.ex, R, t, fun ds n1 vs H1 ⟨d, ed, q⟩ e1 d1 => by
    subst ed
    cases d1 with
    | @cons v _ _ _ h1 h2 =>
      cases h2
      refine ⟨_, rfl, fun dd hd => ?_⟩
      have r1 := R.rw.ext e1
      have e2 := r1.wd.new hd (.xd [(f, v)])
      exact m.ex _ _ n1 _ _ _ (r1.ext e2) ⟨r1.wd.fresh hd, _, upd_same, .cons (h1.same e2.hid) .nil⟩ q, m.mx R.rw⟩
/-- try: body, except x as n: suite; all that the body raises is of the class C -/
def dTry (m i : Nat) (C : Addr) (Tb : TSD) (T : Addr → Option Addr → TSD) : TSD := fun e ρ n => Tb { e with ex := fun cls fs n1 => cls = .ref C ∧ ∀ a d, T a d { nx := fun ρ n => e.nx (ρ.set i .no) n, rt := e.rt, bk := fun ρ n => e.bk (ρ.set i .no) n, ct := fun ρ n => e.ct (ρ.set i .no) n, ex := X0 } ((List.replicate m .no).set i (.x a d fs none)) n1 } ρ n
/-- error.f in a suite -/
def dXf (i : Nat) (a : Addr) (d : Option Addr) (f : Str) : TD := fun ρ n Q _ => ∃ fs v, ρ[i]? = some (.x a d fs none) ∧ fs.lookup f = some v ∧ Q v n
theorem XF.look {K : PySem.W.Frag} {p : Addr} {H : Hp} {f : Str} : ∀ {vs : List (Str × V)} {ds : List (Str × PyData)} {d : PyData}, XF K p H vs ds → ds.lookup f = some d → ∃ v, vs.lookup f = some v ∧ Dq K p H v d
  | _, _, _, .nil, e => nomatch e
  | _, _, d, .cons (k := k) (v := v) (d := d') h r, e => by
    rw [lookup_putD] at e
    rw [lookup_put]
    by_cases z : f = k
    · rw [if_pos z] at e ⊢
      cases e
      exact ⟨v, rfl, h⟩
    · rw [if_neg z] at e ⊢
      exact XF.look r e
where lookup_putD {f g : Str} {y : PyData} {fs : List (Str × PyData)} : ((f, y) :: fs).lookup g = if g = f then some y else fs.lookup g := by
        by_cases h : g = f
        · subst h; simp [List.lookup]
        · have e : (g == f) = false := by simpa using h
          rw [if_neg h]; simp [List.lookup, e]
def dXi (i : Nat) (a : Addr) (d : Option Addr) (b : Bool) : TD := fun ρ n Q _ => (∃ fs, ρ[i]? = some (.x a d fs none)) ∧ Q (.bool b) n
end
end Kd
namespace Kd
open PySem PySem.Spec PyProof.Rows L2 Kb
/-- whole numbers and places among any data -/
def whB : PyData → Bool
  | .int _ => true
  | _ => false
def inB (lo hi : Int) : PyData → Bool
  | .int i => decide (lo ≤ i ∧ i < hi)
  | _ => false
/-- a def that may raise, where it does not -/
def spQ (S : SpD) : SpD := fun ds n Q _ => S ds n Q X0
theorem quiet {P : Program} {w : World} {K : PySem.W.Frag} {mg : Str → Option Value} {base : Heap} {k : Nat} {f : Addr} {fd : FuncData} {ps : List Str} {S : SpD} (F : FnOk P w K mg base (L2N.CX P w) k f fd ps (spD K S)) : FnOk P w K mg base CX0 k f fd ps (spD K (spQ S)) := by
  refine ⟨fun vs H Q E h => ?_, fun A outer s H args us vs Q E hr he hb hv hs => ?_⟩
  · obtain ⟨g, O, n, ds, Qd, Xd, wd, hd, hs, mq, mx⟩ := h
    exact F.len vs H Q E ⟨g, O, n, ds, Qd, X0, wd, hd, hs, mq, fun _ _ _ _ _ q => q.elim⟩
  · obtain ⟨g, O, n, ds, Qd, Xd, wd, hd, hs, mq, mx⟩ := hs
    refine codeAny_mono (F.run A outer s H args us vs Q (fun _ _ _ => False) hr he hb hv ⟨g, O, n, ds, Qd, X0, wd, hd, hs, mq, fun _ _ _ _ _ q => q.elim⟩) fun r s' hq => ?_
    cases r with
    | ok fl => cases fl <;> exact hq
    | error e =>
      obtain ⟨_, _, _, _, _, _, _, _, _, _, _, _, z⟩ := hq
      exact z.elim
def clsB : Stmt → List Stmt
  | .ClassDef (body := b) .. => b
  | _ => []
end Kd
namespace Kd
open PySem PySem.Spec PyProof.Rows L2 Kb Km
section
variable {ρ : List Cell} {n : Nat} {Q : PQ} {X : XD} {e : DEnds} {i m : Nat} {a : Addr} {d : Option Addr} {C : Addr} {f : Str} {v : PyData} {b : Bool} {T : TAD} {S : TSD} {U : Addr → Option Addr → TSD}
theorem x_raise (h : T ρ n (fun ds n1 => ∃ d, ds = [d] ∧ e.ex (.ref C) [(f, d)] n1) e.ex) : dRaise C f T e ρ n := h
theorem x_one {P : PyData → Prop} (h : P v) : ∃ d, [v] = [d] ∧ P d := ⟨v, rfl, h⟩
theorem x_try (h : S { e with ex := fun cls fs n1 => cls = .ref C ∧ ∀ a d, U a d { nx := fun ρ n => e.nx (ρ.set i .no) n, rt := e.rt, bk := fun ρ n => e.bk (ρ.set i .no) n, ct := fun ρ n => e.ct (ρ.set i .no) n, ex := X0 } ((List.replicate m .no).set i (.x a d fs none)) n1 } ρ n) : dTry m i C S U e ρ n := h
theorem x_xf (h1 : ρ[i]? = some (.x a d [(f, v)] none)) (q : Q v n) : dXf i a d f ρ n Q X := ⟨_, v, h1, by simp [List.lookup], q⟩
theorem x_xi {fs : List (Str × PyData)} (h : ρ[i]? = some (.x a d fs none)) (q : Q (.bool b) n) : dXi i a d b ρ n Q X := ⟨⟨fs, h⟩, q⟩
end
end Kd
/-! repr of data with dicts within -/
namespace Kd
open PySem PySem.Spec PyProof.Rows L2 Kb
mutual
inductive RD (h : Heap) : Value → PyData → Prop
  | non : RD h .none .none
  | bl (b : Bool) : RD h (.bool b) (.bool b)
  | int (i : Int) (t : Tok) : RD h (.int i t) (.int i)
  | str (x : Str) (t : Tok) : RD h (.str x t) (.str x)
  | list {a : Addr} {o : Obj} {vs : Array Value} {n : Nat} {xs : List PyData} : h.get? a = some o → o.cls = .type "list" → o.data = .seq vs n → RDs h vs.toList xs → RD h (.ref a) (.list xs)
  | tuple {a : Addr} {o : Obj} {vs : Array Value} {n : Nat} {xs : List PyData} : h.get? a = some o → o.cls = .type "tuple" → o.data = .seq vs n → RDs h vs.toList xs → RD h (.ref a) (.tuple xs)
  | dict {a : Addr} {kvs : List (PyData × PyData)} : (a == sysModules) = false → Reads h (.ref a) (.dict kvs) (a :: [] ++ []) → RD h (.ref a) (.dict kvs)
inductive RDs (h : Heap) : List Value → List PyData → Prop
  | nil : RDs h [] []
  | cons {v : Value} {vs : List Value} {d : PyData} {ds : List PyData} : RD h v d → RDs h vs ds → RDs h (v :: vs) (d :: ds)
end
mutual
theorem RD.reads {h : Heap} : ∀ {v : Value} {d : PyData}, RD h v d → ∃ as, Reads h v d as
  | _, _, .non => ⟨_, .none⟩
  | _, _, .bl b => ⟨_, .bool b⟩
  | _, _, .int i t => ⟨_, .int i t⟩
  | _, _, .str x t => ⟨_, .str x t⟩
  | _, _, .list a b c r => let ⟨_, q⟩ := RDs.reads r; ⟨_, .list a b c q⟩
  | _, _, .tuple a b c r => let ⟨_, q⟩ := RDs.reads r; ⟨_, .tuple a b c q⟩
  | _, _, .dict _ r => ⟨_, r⟩
theorem RDs.reads {h : Heap} : ∀ {v : List Value} {d : List PyData}, RDs h v d → ∃ as, ReadsAll h v d as
  | _, _, .nil => ⟨_, .nil⟩
  | _, _, .cons a b => let ⟨_, q⟩ := RD.reads a; let ⟨_, r⟩ := RDs.reads b; ⟨_, .cons q r⟩
end
theorem no_sys {a : Addr} (h : (a == sysModules) = false) : sysModules ∉ a :: [] ++ [] := fun z => by
  simp only [List.append_nil, List.mem_singleton] at z
  rw [← z, beq_self_eq_true] at h
  cases h
section
variable {P : Program} {w : World} {h : Heap}
mutual
theorem RD.k : ∀ {v : Value} {d : PyData}, RD h v d → d.showable = true → d.shown.length ≤ sizeLine → ∃ bs, ReadAtMost h d.depth bs ∧ ReprK P w bs h d.depth v d.shown
  | _, _, .non, s, z => ReprK.of_reads .none s (fun q => by cases q) z
  | _, _, .bl b, s, z => ReprK.of_reads (.bool b) s (fun q => by cases q) z
  | _, _, .int i t, s, z => ReprK.of_reads (.int i t) s (fun q => by cases q) z
  | _, _, .str x t, s, z => ReprK.of_reads (.str x t) s (fun q => by cases q) z
  | _, _, .dict a r, s, z => ReprK.of_reads r s (fun _ => no_sys a) z
  | _, _, .list (a := a) (vs := vs) (xs := xs) h1 h2 h3 h4, s, z => by
    simp only [PyData.shown] at z
    simp only [PyData.showable] at s
    obtain ⟨bs, hb, hk⟩ := RDs.k h4 s fun t ht => Nat.le_trans (listText_mem_le ht) z
    obtain ⟨as, r⟩ := RD.reads (.list h1 h2 h3 h4)
    have na := not_mem_of_deeper (n := PyData.depthAll xs) r (by simp only [PyData.depth]; omega) hb
    refine ⟨_, ReadAtMost.cons (n := PyData.depthAll xs) r (by simp only [PyData.depth]; omega) hb, ?_⟩
    simp only [PyData.depth, PyData.shown]
    obtain ⟨l⟩ := vs
    cases l with
    | cons x l => exact .list h1 h2 h3 na (by simpa using hk.length_eq) fun i y e => hk.item i y (by simpa using e)
    | nil =>
      cases (show RDs h [] xs from h4)
      simp only [PyData.shownAll, listText_nil]
      exact .listEmpty h1 h2 h3
  | _, _, .tuple (a := a) (xs := xs) h1 h2 h3 h4, s, z => by
    simp only [PyData.shown] at z
    simp only [PyData.showable] at s
    obtain ⟨bs, hb, hk⟩ := RDs.k h4 s fun t ht => Nat.le_trans (tupleText_mem_le ht) z
    obtain ⟨as, r⟩ := RD.reads (.tuple h1 h2 h3 h4)
    have na := not_mem_of_deeper (n := PyData.depthAll xs) r (by simp only [PyData.depth]; omega) hb
    refine ⟨_, ReadAtMost.cons (n := PyData.depthAll xs) r (by simp only [PyData.depth]; omega) hb, ?_⟩
    simp only [PyData.depth, PyData.shown]
    exact .tuple h1 h2 h3 na hk
theorem RDs.k : ∀ {vs : List Value} {ds : List PyData}, RDs h vs ds → PyData.showableAll ds = true → (∀ t ∈ PyData.shownAll ds, t.length ≤ sizeLine) → ∃ bs, ReadAtMost h (PyData.depthAll ds) bs ∧ ReprAllK P w bs h (PyData.depthAll ds) vs (PyData.shownAll ds)
  | _, _, .nil, _, _ => ⟨[], (fun _ q => nomatch q), by simp only [PyData.shownAll]; exact .nil⟩
  | _, _, .cons (d := d) (ds := ds) r rs, s, z => by
    simp only [PyData.showableAll, Bool.and_eq_true] at s
    simp only [PyData.shownAll] at z
    obtain ⟨b1, m1, k1⟩ := RD.k r s.1 (z _ List.mem_cons_self)
    obtain ⟨b2, m2, k2⟩ := RDs.k rs s.2 fun t ht => z t (List.mem_cons_of_mem _ ht)
    simp only [PyData.depthAll, PyData.shownAll]
    exact ⟨b1 ++ b2, (m1.mono (Nat.le_max_left _ _)).append (m2.mono (Nat.le_max_right _ _)), .cons ((k1.more fun b q => List.mem_append.mpr (.inl q)).level_le (Nat.le_max_left _ _)) (k2.more_le (fun b q => List.mem_append.mpr (.inr q)) (Nat.le_max_right _ _))⟩
end
end
/-! ### data that has such a reading -/
def okKey : PyData → Bool
  | .int _ => true
  | .str _ => true
  | _ => false
def isIntD : PyData → Bool
  | .int _ => true
  | _ => false
theorem ki_of : ∀ {ks : List (Key × PyData)}, (∀ p ∈ ks, isIntD p.2 = true) → ∃ ki : List (Key × Int), ks = ki.map fun p => (p.1, PyData.int p.2)
  | [], _ => ⟨[], rfl⟩
  | (k, d) :: ks, h => by
    obtain ⟨ki, e⟩ := ki_of fun p hp => h p (List.mem_cons_of_mem _ hp)
    have := h _ List.mem_cons_self
    cases d with
    | int i => exact ⟨(k, i) :: ki, by rw [e]; rfl⟩
    | _ => cases this
mutual
def okR : PyData → Bool
  | .list ds => okRs ds
  | .tuple ds => okRs ds
  | .dict kvs => kvs.all fun p => okKey p.1 && isIntD p.2
  | _ => true
def okRs : List PyData → Bool
  | [] => true
  | d :: ds => okR d && okRs ds
end
theorem okRs_all : ∀ {ds : List PyData}, okRs ds = true ↔ ∀ d ∈ ds, okR d = true
  | [] => ⟨fun _ d h => (nomatch h), fun _ => by simp [okRs]⟩
  | d :: ds => by
    simp only [okRs, Bool.and_eq_true, List.mem_cons, forall_eq_or_imp]
    rw [okRs_all]
section
variable {P : Program} {w : World} {K : PySem.W.Frag} {p : Addr} {O : Addr → Bool} {H : Hp} {h : Heap}
mutual
theorem rd_of (I : HOk P w H h) : ∀ {x : V} {d : PyData}, Dq K p (hid O H) x d → okR d = true → ∀ {u : Value}, RelV x u → RD h u d
  | _, _, .non, _, _, r => by cases (show _ = Value.none from r); exact .non
  | _, _, .bl b, _, _, r => by cases (show _ = Value.bool b from r); exact .bl b
  | _, _, .int i, _, _, r => by obtain ⟨t, rfl⟩ := (show ∃ t, _ = Value.int i t from r); exact .int i t
  | _, _, .str x _, _, _, r => by obtain ⟨t, rfl⟩ := (show ∃ t, _ = Value.str x t from r); exact .str x t
  | _, _, .lst (xs := xs) e a, o, u, r => by
    cases (show u = Value.ref _ from r)
    obtain ⟨_, its, n, rv, h1⟩ := (show ObjOk P w H h _ (.lst xs) from I _ _ (hid_some.mp e).2)
    exact .list h1 rfl rfl (rds_of I a (by simpa only [okR] using o) rv)
  | _, _, .tup (xs := xs) e a, o, u, r => by
    cases (show u = Value.ref _ from r)
    obtain ⟨ob, e, _, _⟩ := e
    obtain ⟨_, _, its, rv, o1, h1, h2, n, h3⟩ := (show ObjOk P w H h _ (.frz ob (.tup xs)) from I _ _ (hid_some.mp e).2)
    exact .tuple h1 h2 h3 (rds_of I a (by simpa only [okR] using o) rv)
  | _, _, .pair _ _ _, o, _, _ => by
    exfalso
    simp [PAIR, okR, okKey] at o
  | _, _, .dct (a := a) (ks := ks0) e hk, o, u, r => by
    cases (show u = Value.ref _ from r)
    obtain ⟨ks, rfl⟩ := ki_of (ks := ks0) fun p hp => by
      simp only [okR, List.all_eq_true] at o
      have := o _ (List.mem_map.mpr ⟨p, hp, rfl⟩)
      rw [Bool.and_eq_true] at this
      exact this.2
    rw [kv_ints hk] at e
    obtain ⟨_, hsm, vs, kv, o, es, ep, ho, ex, hdt, _, ps, _⟩ := dk_of I (hid_some.mp e).2
    obtain ⟨rv, ek⟩ := ints_read (h := h) ks ps kv
    have rk := keys_read (h := h) ps
    refine .dict hsm (.dict ho ex.1 hdt ?_ ?_)
    · rw [List.map_map, List.map_map, show ks.map (((fun x => x.1) ∘ fun p => (keyD p.1, p.2)) ∘ fun p => (p.1, PyData.int p.2)) = ks.map fun p => keyD p.1 from rfl, ← ek]; exact rk
    · rw [List.map_map, List.map_map]; exact rv
  | _, _, .obj a, o, _, _ => by
    exfalso
    simp [OBJ, okR, okKey] at o
  | _, _, .stm e, o, _, _ => by
    exfalso
    rw [e] at o
    simp [STRM, okR, okKey] at o
theorem rds_of (I : HOk P w H h) : ∀ {xs : List V} {ds : List PyData}, DqAll K p (hid O H) xs ds → okRs ds = true → ∀ {us : List Value}, Vals xs us → RDs h us ds
  | _, _, .nil, _, _, r => by cases r; exact .nil
  | _, _, .cons a b, o, _, r => by
    simp only [okRs, Bool.and_eq_true] at o
    cases r with
    | cons r1 r2 => exact .cons (rd_of I a o.1 r1) (rds_of I b o.2 r2)
end
end
def RepY (d : PyData) : Prop := okR d = true ∧ SmX d 1000000
def rReprYr (K : PySem.W.Frag) : List V → Hp → VK → Prop := fun xs H Q => ∃ (x : V) (d : PyData) (p : Addr) (O : Addr → Bool), xs = [x] ∧ Dq K p (hid O H) x d ∧ RepY d ∧ Q (.str d.shown) H
theorem call_reprY {X : Cx} (hg : X.A.guards = some []) (hu : X.A.units + 64 < cLine) : CallR X (.builtin "repr") (rReprYr X.K) := by
  intro pins s σ H xs us Q I r h
  obtain ⟨x, d, p, O, rfl, hd, ⟨ok, sm⟩, q⟩ := h
  obtain ⟨u, rfl, ru⟩ := vals1 r
  have fits : d.shown.length ≤ sizeLine := Nat.le_trans sm.ln (by decide)
  have dep := sm.dp
  have sho := sm.sh
  have done : ∀ h' u tk, (∀ b o, s.heap.get? b = some o → h'.get? b = some o) → EP X pins σ Q (.str d.shown u) { s with heap := h', toks := tk } := fun h' u tk k => ⟨.str _, H, I.kept k, ⟨_, rfl⟩, q⟩
  have rd := rd_of I.hok hd ok ru
  cases rd with
  | non => exact P.repr_of_none ⟨.str _, H, I.tok _, ⟨_, rfl⟩, q⟩
  | bl b => exact P.repr_of_bool ⟨.str _, H, I.tok _, ⟨_, rfl⟩, q⟩
  | int i t => exact P.repr_of_int (by simpa [PyData.showable] using sho) ⟨.str _, H, I.tok _, ⟨_, rfl⟩, q⟩
  | str z t => exact P.repr_of_str ⟨.str _, H, I.tok _, ⟨_, rfl⟩, q⟩ fits
  | @dict a kvs ns rr => exact repr_of_reads' (h₀ := s.heap) rr sho (fun _ => no_sys ns) hg (by omega) (fun _ _ e => e) done fits
  | @list a o vs n xs h1 h2 h3 h4 =>
    simp only [PyData.shown] at fits done
    simp only [PyData.showable] at sho
    simp only [PyData.depth] at dep
    obtain ⟨bs, hb, hk⟩ := RDs.k (P := X.prog) (w := X.w) h4 sho fun t ht => Nat.le_trans (listText_mem_le ht) fits
    obtain ⟨as, r⟩ := RD.reads (.list h1 h2 h3 h4)
    have na := not_mem_of_deeper (n := PyData.depthAll xs) r (by simp only [PyData.depth]; omega) hb
    refine call_repr_slot (by omega) ⟨o, h1, h2⟩ F.slot_list_repr.toG ?_
    have gd : (X.A.in1).guards = some [] := hg
    obtain ⟨l⟩ := vs
    cases l with
    | nil =>
      cases (show RDs s.heap [] xs from h4)
      simp only [PyData.shownAll, listText_nil] at done
      exact call_list_repr_empty ⟨o, h1, h2⟩ h1 h3 ⟨_, _, rfl, done s.heap _ _ fun _ _ e => e⟩
    | cons y l => exact call_list_reprK h1 h2 h3 na (by simpa using hk.length_eq) (fun i y e => hk.item i y (by simpa using e)) gd (fun b _ => Clear.nil b) (by show X.A.units + 1 + _ < cLine; omega) (fun _ _ e => e) (fun h' u tk k => ⟨_, _, rfl, done h' u tk k⟩) fits
  | @tuple a o vs n xs h1 h2 h3 h4 =>
    simp only [PyData.shown] at fits done
    simp only [PyData.showable] at sho
    simp only [PyData.depth] at dep
    obtain ⟨bs, hb, hk⟩ := RDs.k (P := X.prog) (w := X.w) h4 sho fun t ht => Nat.le_trans (tupleText_mem_le ht) fits
    obtain ⟨as, r⟩ := RD.reads (.tuple h1 h2 h3 h4)
    have na := not_mem_of_deeper (n := PyData.depthAll xs) r (by simp only [PyData.depth]; omega) hb
    have gd : (X.A.in1).guards = some [] := hg
    exact call_repr_slot (by omega) ⟨o, h1, h2⟩ F.slot_tuple_repr (call_tuple_reprK h1 h2 h3 na hk gd (fun b _ => Clear.nil b) (by show X.A.units + 1 + _ < cLine; omega) (fun _ _ e => e) (fun h' u tk k => ⟨_, _, rfl, done h' u tk k⟩) fits)
def rReprY : RDN
  | [d], Q => RepY d ∧ Q (.str d.shown)
  | _, _ => False
theorem cg_reprY {X : Cx} (hg : X.A.guards = some []) (hu : X.A.units + 64 < cLine) : CallG X (.builtin "repr") rReprY := cg_of (call_reprY hg hu) fun g O H n xs vs Qd Q w d q k => by
  unfold rReprY at q
  split at q
  · obtain ⟨v, rfl, h⟩ := d.one
    obtain ⟨ro, q⟩ := q
    exact ⟨v, _, g.p, O, rfl, h, ro, k _ _ H q w.refl (.str _ (Nat.le_trans ro.2.ln (by decide)))⟩
  · exact q.elim
theorem x_reprY {P : PyData → Prop} {d : PyData} (h0 : RepY d) (h : P (.str d.shown)) : rReprY [d] P := ⟨h0, h⟩
/-! ### short data, dicts within -/
structure Sx (d : PyData) (n e : Nat) : Prop where
  ok : okR d = true
  sh : d.showable = true
  dp : d.depth ≤ e
  ln : d.shown.length ≤ n
theorem Sx.rep {d : PyData} {n e : Nat} (s : Sx d n e) (hn : n ≤ 1000000) (he : e ≤ 10) : RepY d := ⟨s.ok, s.sh, Nat.le_trans s.dp he, Nat.le_trans s.ln hn⟩
theorem Sx.mono {d : PyData} {n e n' e' : Nat} (s : Sx d n e) (hn : n ≤ n') (he : e ≤ e') : Sx d n' e' := ⟨s.ok, s.sh, Nat.le_trans s.dp he, Nat.le_trans s.ln hn⟩
mutual
theorem okR_of : ∀ d : PyData, d.hasDict = false → okR d = true
  | .none, _ => rfl
  | .bool _, _ => rfl
  | .int _, _ => rfl
  | .str _, _ => rfl
  | .list ds, h => by simp only [okR]; exact okRs_of ds (by simpa only [PyData.hasDict] using h)
  | .tuple ds, h => by simp only [okR]; exact okRs_of ds (by simpa only [PyData.hasDict] using h)
  | .dict _, h => by simp [PyData.hasDict] at h
theorem okRs_of : ∀ ds : List PyData, PyData.hasDictAll ds = false → okRs ds = true
  | [], _ => by simp [okRs]
  | d :: ds, h => by
    simp only [PyData.hasDictAll, Bool.or_eq_false_iff] at h
    simp only [okRs, okR_of d h.1, okRs_of ds h.2, Bool.and_self]
end
theorem _root_.Kb.Sm.sx {d : PyData} {n e : Nat} (s : Sm d n e) : Sx d n e := ⟨okR_of d s.nd, s.sh, s.dp, s.ln⟩
theorem Sx.list {ds : List PyData} {n e : Nat} (h : ∀ d ∈ ds, Sx d n e) : Sx (.list ds) ((n + 2) * ds.length + 2) (e + 1) := by
  refine ⟨by simp only [okR]; exact okRs_all.mpr fun d hd => (h d hd).ok, by simp only [PyData.showable]; exact all_sh fun d hd => (h d hd).sh, ?_, ?_⟩
  · have := all_dp fun d hd => (h d hd).dp
    simp only [PyData.depth]
    omega
  · have h1 := all_ln fun d hd => (h d hd).ln
    have h2 := listText_le (PyData.shownAll ds)
    simp only [PyData.shown]
    omega
theorem Sx.tuple {ds : List PyData} {n e : Nat} (h : ∀ d ∈ ds, Sx d n e) : Sx (.tuple ds) ((n + 2) * ds.length + 3) (e + 1) := by
  refine ⟨by simp only [okR]; exact okRs_all.mpr fun d hd => (h d hd).ok, by simp only [PyData.showable]; exact all_sh fun d hd => (h d hd).sh, ?_, ?_⟩
  · have := all_dp fun d hd => (h d hd).dp
    simp only [PyData.depth]
    omega
  · have h1 := all_ln fun d hd => (h d hd).ln
    have h2 := tupleText_le (PyData.shownAll ds)
    simp only [PyData.shown]
    omega
theorem Sx.one {d : PyData} {n e : Nat} (s : Sx d n e) : Sx (.list [d]) (n + 4) (e + 1) := (Sx.list (n := n) (ds := [d]) fun x hx => by rw [List.mem_singleton.mp hx]; exact s).mono (by show (n + 2) * 1 + 2 ≤ _; omega) (Nat.le_refl _)
/-! ### the law's odd values -/
theorem sxS {z : Str} (hl : z.cps.toList.length ≤ 100) (hc : ∀ c ∈ z.cps.toList, c < 1000) : Sx (.str z) 1002 1 := by
  have lt : ∀ c ∈ z.cps.toList, c < 16 ^ 8 := fun c h => Nat.lt_of_lt_of_le (hc c h) (by decide)
  refine ⟨by simp [okR], by simp [PyData.showable], by simp [PyData.depth], ?_⟩
  simp only [PyData.shown]
  have := StrLaws.reprText_len z lt
  rw [Array.length_toList] at hl
  have e : z.length = z.cps.size := rfl
  omega
theorem sxN : Sx .none 1002 1 := ((sc_sm (v := V.non) (.inl rfl)).mono (by decide) (Nat.le_refl _)).sx
theorem sxW {L : List Nat} (hl : L.length ≤ 100) (hc : ∀ c ∈ L, c < 1000) : Sx (W L) 1002 1 := sxS (z := ⟨L.toArray⟩) (by rw [List.toList_toArray]; exact hl) (by rw [List.toList_toArray]; exact hc)
end Kd
namespace Kd
open PySem PySem.Spec PyProof.Rows L2 Kb Km
/-! ### a list of anything beside the empty one -/
section
variable {X : Cx}
theorem hid_lst {O : Addr → Bool} {H : Hp} {a : Addr} {xs : List V} {X : Cx} {pins : List (Addr × Obj)} {σ : St} {s : Shared} (I : Inv X pins σ H s) (e : H a = some (.lst xs)) : ∃ its : List Value, xs.length = its.length ∧ s.heap.IsList a its.toArray := by
  obtain ⟨_, its, n, rv, h1⟩ := (show ObjOk X.prog X.w H s.heap a (.lst xs) from I.hok a _ e)
  exact ⟨its, rv.length, _, h1, rfl, n, rfl⟩
def rL0 (f : Bool → Bool) : V → V → Hp → VK → Prop := fun x y H Q => ∃ a b xs, x = .ref a ∧ y = .ref b ∧ H a = some (.lst xs) ∧ H b = some (.lst []) ∧ Q (.bl (f xs.isEmpty)) H
theorem op_ne0 (hu : X.A.units + 64 < cLine) : OpR X (compareOp .NotEq) (rL0 not) := by
  intro pins s σ H x y v u Q I rx ry h
  obtain ⟨a, b, xs, rfl, rfl, ea, eb, q⟩ := h
  cases (show v = Value.ref a from rx)
  cases (show u = Value.ref b from ry)
  obtain ⟨is1, l1, k1⟩ := hid_lst (O := fun _ => false) I ea
  obtain ⟨is2, l2, k2⟩ := hid_lst (O := fun _ => false) I eb
  cases is2 with
  | cons _ _ => cases l2
  | nil =>
    cases is1 with
    | nil =>
      cases xs with
      | cons _ _ => cases l1
      | nil => exact SeqAt.RcNeAt.lists (e := fun _ => true) k1 k2 rfl (by omega) (fun j h1 _ => absurd h1 (by simp)) X.prog X.w _ _ ⟨.bl _, H, I, rfl, q⟩
    | cons y ys =>
      cases xs with
      | nil => cases l1
      | cons _ _ => exact SeqAt.RcNeAt.lists_lengths k1 k2 (by simp) (by omega) X.prog X.w _ _ ⟨.bl _, H, I, rfl, q⟩
def rdL0 (f : Bool → Bool) : RD2 := fun x y Q => ∃ ds, x = .list ds ∧ y = .list [] ∧ Q (.bool (f ds.isEmpty))
theorem opd_L0 {K : PySem.W.Frag} {f : Bool → Bool} : OpD K (rL0 f) (rdL0 f) := fun g O H n x y v u Qd Q w d1 d2 ⟨ds, ex, ey, q⟩ k => by
  subst ex ey
  obtain ⟨a, xs, rfl, h1, h2⟩ := d1.listP
  obtain ⟨b, ys, rfl, h3, h4⟩ := d2.listP
  cases h4
  have e : xs.isEmpty = ds.isEmpty := by cases h2 <;> rfl
  exact ⟨a, b, xs, rfl, rfl, (hid_some.mp h1).2, (hid_some.mp h3).2, by rw [e]; exact k _ _ H q w.refl (.bl _)⟩
theorem og_ne0 (hu : X.A.units + 64 < cLine) : OpG X (compareOp .NotEq) (rdL0 not) := ⟨_, op_ne0 hu, opd_L0⟩
theorem x_L0 {f : Bool → Bool} {ds : List PyData} {P : PyData → Prop} (h : P (.bool (f ds.isEmpty))) : rdL0 f (.list ds) (.list []) P := ⟨ds, rfl, rfl, h⟩
end
end Kd
/-! several clauses with a name; an error that is handed on to a def -/
namespace Kd
open PySem PySem.Spec PyProof.Rows L2 Kb Km
inductive Clauses (X : Cx) (n : Str) : List ExceptHandler → List (Value × (Addr → Value → Option Addr → TS)) → Prop
  | nil : Clauses X n [] []
  | cons {x : Str} {c : Value} {t : Addr → Value → Option Addr → TS} {b0 : Stmt} {su : List Stmt} {np hp : Pos} {hs : List ExceptHandler} {l : List (Value × (Addr → Value → Option Addr → TS))} (hc : Names X x c)
      (hsu : ∀ (a : Addr) (oe : Obj) (cls : Value) (d : Option Addr) (pn : List (Addr × Obj)), L2N.Zn cls d oe → (∃ vs, oe.data = .fields vs) → X.base.get? a = none → PSs (X.suite a ((a, oe) :: pn)) (b0 :: su) (t a cls d)) (r : Clauses X n hs l) :
      Clauses X n (.ExceptHandler (some (.Name x np)) (some n) (b0 :: su) hp :: hs) ((c, t) :: l)
/-! ### over data -/
section
variable {X : Cx} {E : XK} {pos : Pos}
/-- the clauses over data: each takes the errors of one class -/
inductive ClausesD (X : Cx) (n : Str) : List ExceptHandler → List (Addr × Addr × (Addr → Option Addr → TSD)) → Prop
  | nil : ClausesD X n [] []
  | cons {x : Str} {C C' : Addr} {T : Addr → Option Addr → TSD} {b0 : Stmt} {su : List Stmt} {np hp : Pos} {hs : List ExceptHandler} {l : List (Addr × Addr × (Addr → Option Addr → TSD))} (hc : Names X x (.ref C'))
      (hsu : ∀ (a : Addr) (oe : Obj) (d : Option Addr) (pn : List (Addr × Obj)), L2N.Zn (.ref C) d oe → (∃ vs, oe.data = .fields vs) → X.base.get? a = none → DSs E0 (X.suite a ((a, oe) :: pn)) (b0 :: su) (T a d)) (r : ClausesD X n hs l) :
      ClausesD X n (.ExceptHandler (some (.Name x np)) (some n) (b0 :: su) hp :: hs) ((C, C', T) :: l)
def exClauses (K : PySem.W.Frag) (m i : Nat) (e : DEnds) : List (Addr × Addr × (Addr → Option Addr → TSD)) → XD
  | [] => e.ex
  | (C, C', T) :: r => fun cls fs n1 => ∃ b, PySem.W.exmOne K cls (.ref C') = some b ∧ (b = true → cls = .ref C ∧ ∀ a d, T a d { nx := fun ρ n => e.nx (ρ.set i .no) n, rt := e.rt, bk := fun ρ n => e.bk (ρ.set i .no) n, ct := fun ρ n => e.ct (ρ.set i .no) n, ex := X0 } ((List.replicate m .no).set i (.x a d fs none)) n1) ∧
      (b = false → exClauses K m i e r cls fs n1)
def dTryM (K : PySem.W.Frag) (m i : Nat) (l : List (Addr × Addr × (Addr → Option Addr → TSD))) (Tb : TSD) : TSD := fun e ρ n => Tb { e with ex := exClauses K m i e l } ρ n
def liftC (K : PySem.W.Frag) : List (Addr × Addr × (Addr → Option Addr → TSD)) → List (Value × (Addr → Value → Option Addr → TS))
  | [] => []
  | (C, C', T) :: r => (.ref C', fun a cls d D σ H => cls = .ref C ∧ liftS K E0 (T a d) D σ H) :: liftC K r
theorem ClausesD.ps {n : Str} {hs : List ExceptHandler} {l : List (Addr × Addr × (Addr → Option Addr → TSD))} (h : ClausesD X n hs l) : Clauses X n hs (liftC X.K l) := by
  induction h with
  | nil => exact .nil
  | cons hc hsu r ih =>
    refine .cons hc (fun a oe cls d pn hz hd nb => ⟨fun pins s σ H D I h => ?_⟩) ih
    obtain ⟨ec, h⟩ := h
    subst ec
    exact (hsu a oe d pn hz hd nb).run pins s σ H D I h
end
theorem takesN0 {X : Cx} : L2N.Takes X (fun _ _ _ _ => False) := fun _ _ ⟨_, _, _, _, _, _, _, _, _, _, _, _, _, _, _, _, w⟩ => w.elim
end Kd
/-! a def that is given the error that is handled -/
namespace Kd
open PySem PySem.Spec PyProof.Rows L2 Kb Km
theorem _root_.L2H.RoomH.units {k : Nat} {A : Around} (r : L2H.RoomH k A) : A.units + 64 < cLine := by have := r.un; omega
/-! ### its promise -/
structure FnE (P : Program) (w : World) (K : PySem.W.Frag) (mg : Str → Option Value) (base : Heap) (k : Nat) (f : Addr) (fd : FuncData) (ps : List Str) (sp : Addr × Obj → Sp) : Prop where
  len : ∀ p vs H Q E, sp p vs H Q E → vs.length = ps.length
  run : ∀ (A : Around) (outer : List Env) (s : Shared) (H : Hp) (args : Args) (us : List Value) (vs : List V) (Q : VK) (E : XK) (p : Addr × Obj), L2H.RoomH k A → L2H.Hot1 A p → L2H.PinOk outer H s p → Env0 P w K mg base A outer s H → BindsTo s fd args (ps.zip us) → Vals vs us → sp p vs H Q E →
    codeAny (model P w) A (.call (.ref f) args) (CR CX0 outer P w H s Q E) s
theorem FnE.mono {P : Program} {w : World} {K : PySem.W.Frag} {mg : Str → Option Value} {base : Heap} {j k : Nat} {f : Addr} {fd : FuncData} {ps : List Str} {sp : Addr × Obj → Sp} (F : FnE P w K mg base j f fd ps sp) (h : j ≤ k) : FnE P w K mg base k f fd ps sp :=
  ⟨F.len, fun A outer s H args us vs Q E p hr => F.run A outer s H args us vs Q E p (hr.mono h)⟩
/-! ### its call -/
section
variable {X : Cx} {E : XK} {pos p p0 : Pos} {i : Nat} {x : Str} {C a : Addr} {oe : Obj} {d : Option Addr}
def dCallX (i : Nat) (a : Addr) (d : Option Addr) (S : List (Str × PyData) → Nat → PQ → Prop) : TD := fun ρ n Q _ => ∃ fs, ρ[i]? = some (.x a d fs none) ∧ S fs n Q
variable {ρ : List Cell} {n : Nat} {Q : PQ} {Xd : XD} {S : List (Str × PyData) → Nat → PQ → Prop} {K : PySem.W.Frag} {e : DEnds} {m : Nat} {l : List (Addr × Addr × (Addr → Option Addr → TSD))} {Tb : TSD} {C' : Addr} {T : Addr → Option Addr → TSD} {cls : Value} {fs : List (Str × PyData)}
theorem x_callX (h : ρ[i]? = some (.x a d fs none)) (q : S fs n Q) : dCallX i a d S ρ n Q Xd := ⟨fs, h, q⟩
theorem x_tryM (h : Tb { e with ex := exClauses K m i e l } ρ n) : dTryM K m i l Tb e ρ n := h
end
end Kd
namespace Kd
open PySem PySem.Spec PyProof.Rows L2 Kb Km
section
variable {X : Cx} {E : XK} {pos p ap sp : Pos} {x : Str} {e e2 : Expr} {Te Tf : TD} {i : Nat} {T : TAD}
/-- x.insert(e, e2) of an own list -/
def dInsert (i : Nat) (T S : TD) : TSD := fun e ρ n => ∃ ds, ρ[i]? = some (.own ds) ∧ T ρ n (fun k n1 => S ρ n1 (fun d n2 => ∃ j : Nat, k = .int (j : Nat) ∧ j ≤ ds.length ∧ ds.length < 1000000 ∧ e.nx (ρ.set i (.own (ds.take j ++ [d] ++ ds.drop j))) n2) e.ex) e.ex
variable {ρ : List Cell} {n : Nat} {Z : DEnds}
theorem x_insert {ds : List PyData} (h0 : ρ[i]? = some (.own ds)) (h : Te ρ n (fun k n1 => Tf ρ n1 (fun d n2 => ∃ j : Nat, k = .int (j : Nat) ∧ j ≤ ds.length ∧ ds.length < 1000000 ∧ Z.nx (ρ.set i (.own (ds.take j ++ [d] ++ ds.drop j))) n2) Z.ex) Z.ex) : dInsert i Te Tf Z ρ n := ⟨ds, h0, h⟩
end
end Kd
namespace Kd
open PySem PySem.Spec PyProof.Rows L2 Kb Km
section
variable {X : Cx} {E : XK} {pos p : Pos} {e a : Expr} {Ta : TD}
def dTrg1 (T : TD) : TD := fun ρ n Q X => T ρ n (fun d n1 => ∃ k : Nat, d = .int (k : Nat) ∧ k ≤ 1000000 ∧ Q (.tuple (plD (List.range k))) n1) X
theorem x_trg1 {ρ : List Cell} {n : Nat} {Q : PQ} {Z : XD} (h : Ta ρ n (fun d n1 => ∃ k : Nat, d = .int (k : Nat) ∧ k ≤ 1000000 ∧ Q (.tuple (plD (List.range k))) n1) Z) : dTrg1 Ta ρ n Q Z := h
end
end Kd
namespace Kd
open PySem PySem.Spec PyProof.Rows L2 Kb Km
/-! ### xs.count(b) of truth values -/
def eB (b : Bool) : Value → Bool
  | .bool a => a == b
  | _ => false
end Kd
namespace Kd
open PySem PySem.Spec PyProof.Rows L2 Kb Km
/-! ### [text, truth value] beside the same -/
section
variable {X : Cx}
def rNeSB : RD2 := fun x y Q => ∃ (s t : Str) (k l : Bool), x = .list [.str s, .bool k] ∧ y = .list [.str t, .bool l] ∧ Q (.bool (!(s == t && k == l)))
theorem x_neSB {P : PyData → Prop} {s : Str} {k : Bool} (h : P (.bool false)) : rNeSB (.list [.str s, .bool k]) (.list [.str s, .bool k]) P := ⟨s, s, k, k, rfl, rfl, by rw [beq_self_eq_true, beq_self_eq_true]; exact h⟩
end
end Kd
namespace Kd
open PySem PySem.Spec PyProof.Rows L2 Kb Km
/-! ### a word times any number -/
def repW (k : Nat) (M : List Nat) : List Nat := (List.replicate k M).flatten
theorem repW_len (k : Nat) (M : List Nat) : (repW k M).length = k * M.length := flat_len M k
theorem repW_mem {M : List Nat} {c k : Nat} (h : c ∈ repW k M) : c ∈ M := by
  obtain ⟨l, hl, hc⟩ := List.mem_flatten.mp h
  rw [(List.mem_replicate.mp hl).2] at hc
  exact hc
theorem mul_words (M : List Nat) (k : Nat) : Txt.mul ⟨M.toArray⟩ (k : Int) = ⟨(repW k M).toArray⟩ := by
  unfold Txt.mul repW
  by_cases h0 : (k : Int) < 1
  · rw [if_pos h0]
    obtain rfl : k = 0 := by omega
    rfl
  · rw [if_neg h0]
    by_cases h1 : ((k : Int) == 1 || (⟨M.toArray⟩ : Str).length == 0) = true
    · rw [if_pos h1]
      rcases Bool.or_eq_true_iff.mp h1 with e | e
      · have e := eq_of_beq e
        obtain rfl : k = 1 := by omega
        simp
      · have e : M.length = 0 := by simpa [Str.length] using e
        rw [List.length_eq_zero_iff.mp e]
        congr 1
        induction k with
        | zero => rfl
        | succ k ih => simp
    · rw [if_neg h1]
      congr 1
      apply Array.toList_inj.mp
      rw [show ((k : Int)).toNat = k by omega, rep_fold M.toArray k #[]]
      simp
section
variable {X : Cx}
theorem mul_ok {M : List Nat} {k : Nat} (hk : k ≤ 1000) (hm : M.length ≤ 1000) : MulOk ⟨M.toArray⟩ (k : Int) := by
  have hl : (⟨M.toArray⟩ : Str).length = M.length := rfl
  refine ⟨by rw [decide_eq_false (by omega), decide_eq_false (by omega)]; rfl, fun h1 _ => ?_, fun h1 _ => ?_⟩
  · rw [hl]
    have : (M.length : Int) ≤ (2 ^ 63 - 1) / k := by
      refine Int.le_ediv_of_mul_le (by omega) ?_
      have := Nat.mul_le_mul hm hk
      omega
    omega
  · rw [hl]
    unfold Builtin.Str.tooLong
    rw [show ((k : Int)).toNat = k by omega]
    have := Nat.mul_le_mul hm hk
    simp only [decide_eq_false_iff_not, sizeLine_eq]
    omega
theorem op_mulW : OpR X (binaryOp .Mult) (fun x y H Q => ∃ (M : List Nat) (k : Nat), x = .str ⟨M.toArray⟩ ∧ y = .int (k : Nat) ∧ k ≤ 1000 ∧ M.length ≤ 1000 ∧ Q (.str ⟨(repW k M).toArray⟩) H) := by
  intro pins s σ H x y v u Q I rx ry h
  obtain ⟨M, k, rfl, rfl, hk, hm, q⟩ := h
  obtain ⟨t, rfl⟩ := (show ∃ t, v = Value.str ⟨M.toArray⟩ t from rx)
  obtain ⟨t2, rfl⟩ := (show ∃ t, u = Value.int (k : Nat) t from ry)
  exact SB.mul (mul_ok hk hm) fun t' k' => ⟨.str _, H, I.tok _, ⟨t', by rw [mul_words]⟩, q⟩
def rMulW : RD2 := fun x y Q => ∃ (M : List Nat) (k : Nat), x = W M ∧ y = .int (k : Nat) ∧ k ≤ 1000 ∧ M.length ≤ 1000 ∧ Q (W (repW k M))
theorem og_mulW : OpG X (binaryOp .Mult) rMulW := ⟨_, op_mulW, fun g O H n x y v u Qd Q w d1 d2 ⟨M, k, ex, ey, hk, hm, q⟩ kk => by
  subst ex ey
  refine ⟨M, k, d1.str', d2.int', hk, hm, kk _ _ H q w.refl (.str _ ?_)⟩
  show (repW k M).toArray.size ≤ sizeLine
  rw [List.size_toArray, repW_len, sizeLine_eq]
  have := Nat.mul_le_mul hk hm
  omega⟩
theorem x_mulW {P : PyData → Prop} {M : List Nat} {k : Nat} (hk : k ≤ 1000) (hm : M.length ≤ 1000) (h : P (W (repW k M))) : rMulW (W M) (.int (k : Nat)) P := ⟨M, k, rfl, rfl, hk, hm, h⟩
end
end Kd
namespace Kd
open PySem PySem.Spec PyProof.Rows L2 Kb Km
end Kd
namespace Kd
open PySem PySem.Spec PyProof.Rows L2 Kb Km
/-! ### a tuple of anything beside the empty one -/
section
variable {X : Cx}
def rEqT0 : RD2 := fun x y Q => ∃ ds, x = .tuple ds ∧ y = .tuple [] ∧ Q (.bool ds.isEmpty)
theorem x_eqT0 {ds : List PyData} {P : PyData → Prop} (h : P (.bool ds.isEmpty)) : rEqT0 (.tuple ds) (.tuple []) P := ⟨ds, rfl, rfl, h⟩
end
end Kd
namespace Kd
open PySem PySem.Spec PyProof.Rows L2 Kb Km
/-! ### a text and a number, compared -/
end Kd
namespace Kd
open PySem PySem.Spec PyProof.Rows L2 Kb Km
/-! ### far words: beginnings of tails -/
end Kd
namespace Kd
open PySem PySem.Spec PyProof.Rows L2 Kb Km
/-! ### places of a pattern in a text that goes on -/
end Kd
namespace Kd
open PySem PySem.Spec PyProof.Rows L2 Kb Km
section
/-! ### a, b = a list -/
def dgLst (m : Nat) (g : TGsD) : TGD := fun d ρ Q => ∃ ds, d = .list ds ∧ ds.length = m ∧ g ds ρ Q
theorem x_gLst {m : Nat} {g : TGsD} {ds : List PyData} {ρ : List Cell} {Q : List Cell → Prop} (hl : ds.length = m) (h : g ds ρ Q) : dgLst m g (.list ds) ρ Q := ⟨ds, rfl, hl, h⟩
end
end Kd
namespace Kd
open PySem PySem.Spec PyProof.Rows L2 Kb Km
/-! ### a tuple times a number -/
end Kd
namespace Kd
open PySem PySem.Spec PyProof.Rows L2 Kb Km
section
variable {X : Cx} {E : XK} {a b : Expr} {pos : Pos} {Ta Tb : TD}
/-! ### a new list that two lists make -/
def dAddF (Ta Tb : TD) : TAD := fun ρ n Q X => Ta ρ n (fun x n1 => Tb ρ n1 (fun y n2 => ∃ i j, x = .list i ∧ y = .list j ∧ i.length + j.length ≤ sizeLine ∧ Q (i ++ j) n2) X) X
theorem df_add (ha : DE E X a Ta) (hb : DE E X b Tb) : DF E X (.BinOp a .Add b pos) (dAddF Ta Tb) :=
  pe_weak (pe_op op_cat ha hb) fun σ H Q ⟨F, O, ρ, n, Qd, Xd, R, t, mq, mx⟩ => by
    refine ⟨F, _, ρ, n, fun x n1 => Tb ρ n1 (fun y n2 => ∃ i j, x = .list i ∧ y = .list j ∧ i.length + j.length ≤ sizeLine ∧ Qd (i ++ j) n2) Xd, Xd, R, t, fun x n1 v H1 q1 e1 d1 => ?_, mx⟩
    refine ⟨F, _, ρ, n1, _, Xd, R.ext e1, q1, fun y n2 u H2 ⟨i, j, ex, ey, l, q2⟩ e2 d2 => ?_, mx.step e1⟩
    subst ex ey
    have d1' := d1.same e2.hid
    obtain ⟨p1, xs, rfl, h1, h2⟩ := d1'.listP
    obtain ⟨p2, ys, rfl, h3, h4⟩ := d2.listP
    refine ⟨p1, p2, xs, ys, rfl, rfl, (hid_some.mp h1).2, (hid_some.mp h3).2, by rw [h2.length, h4.length]; exact l, fun p hp => ?_⟩
    have w := ((R.ext e1).ext e2).rw.wd
    have e3 := Ext.push w hp (.lst (xs ++ ys))
    refine mq _ n2 p _ _ q2 ⟨(e1.trans e2).none hp, addO_self, w.dom0 hp⟩ ((e1.trans e2).trans e3) upd_same ?_
    exact (h2.same (hid_push hp _)).append (h4.same (hid_push hp _))
theorem x_addF {ρ : List Cell} {n : Nat} {Q : List PyData → Nat → Prop} {Z : XD} (h : Ta ρ n (fun x n1 => Tb ρ n1 (fun y n2 => ∃ i j, x = .list i ∧ y = .list j ∧ i.length + j.length ≤ sizeLine ∧ Q (i ++ j) n2) Z) Z) : dAddF Ta Tb ρ n Q Z := h
end
end Kd
namespace Kd
open PySem PySem.Spec PyProof.Rows L2 Kb Km
/-! ### whole tails of far words -/
end Kd
namespace Kd
open PySem PySem.Spec PyProof.Rows L2 Kb Km
/-! ### ranks in far words, block by block -/
end Kd
namespace Kd
open PySem PySem.Spec PyProof.Rows L2 Kb Km
/-! ### the shortest text that gives a word if it is repeated -/
end Kd
namespace Kd
open PySem PySem.Spec PyProof.Rows L2 Kb Km
/-! ### ranks by the shortest text -/
end Kd
namespace Kd
open PySem PySem.Spec PyProof.Rows L2 Kb Km
/-! ### the place with a rank -/
end Kd
namespace Kd
open PySem PySem.Spec PyProof.Rows L2 Kb Km
/-! ### the numbers that pass a test, in order -/
/-! ### tails that begin with a pattern -/
end Kd
namespace Kd
open PySem PySem.Spec PyProof.Rows L2 Kb Km
/-! ### far words written out -/
/-! ### a block doubled -/
end Kd
namespace Kd
open PySem PySem.Spec PyProof.Rows L2 Kb Km
/-! ### simple words and turns -/
theorem x_eqB {P : PyData → Prop} {a b : Bool} (h : P (.bool (decide (a = b)))) : rEqv (.bool a) (.bool b) P := ⟨.inl rfl, by
  have e : PyData.eqv (.bool a) (.bool b) = decide (a = b) := by cases a <;> cases b <;> decide +kernel
  rw [e]; exact h⟩
end Kd
namespace Kd
open PySem PySem.Spec PyProof.Rows L2 Kb Km
/-! ### xs.count(x) of words -/
theorem ixLast {n : Nat} (h : 0 < n) : ixN n (-1) = some (n - 1) := by
  unfold ixN
  rw [if_neg (by decide), if_pos (by omega)]
  congr 1
  omega
theorem at_last {α : Type} {f : α → PyData} {l : List α} {x : α} (h : l[l.length - 1]? = some x) : atI (l.map f) (-1) = some (f x) := by
  have hl := (List.getElem?_eq_some_iff.mp h).1
  show (ixN _ _).bind _ = _
  rw [ixLast (by rw [List.length_map]; omega), List.length_map]
  show (l.map f)[l.length - 1]? = _
  rw [List.getElem?_map, h]
  rfl
theorem at_first {α : Type} {f : α → PyData} {l : List α} {x : α} {j : Nat} (h : l[j]? = some x) : atI (l.map f) (j : Int) = some (f x) := by
  have hl := (List.getElem?_eq_some_iff.mp h).1
  show (ixN _ _).bind _ = _
  rw [ixNat (show j < (l.map f).length by rw [List.length_map]; omega)]
  show (l.map f)[j]? = _
  rw [List.getElem?_map, h]
  rfl
end Kd
namespace Kd
open PySem PySem.Spec PyProof.Rows L2 Kb Km
/-! ### two items of an own list exchanged -/
end Kd
namespace L2
open PySem PySem.Spec PyProof.Rows GenW
section
variable {X : Cx} {st : Stmt} {rest : List Stmt}
/-! ### if in a generator -/
/-! ### for in a generator -/
def tGFor (wi : TI) (g : TG) (tb : TGn) : TGn := fun D ys σ H => wi σ H fun J H1 => ∃ W : Nat → Nat → List V → St → Hp → Prop, (∃ m, W 0 m ys σ H1) ∧ ∀ i m ys σ H, W i m ys σ H →
  (J.stop i H ∧ D.nx ys σ H) ∨ (J.go i H ∧ ∃ N : List V → St → Hp → Prop, (∀ ys' σ' H', N ys' σ' H' → ∃ m', m' < m ∧ W (i + 1) m' ys' σ' H') ∧ ∀ x H', J.yld i H x H' → g x σ H' fun σ2 H2 => tb { D with nx := N, ct := N, bk := D.nx } ys σ2 H2)
theorem gs_for {tg iter : Expr} {body : List Stmt} {wi : TI} {g : TG} {tb : TGn} {pos : Pos} (hp : PassesOwn (model X.prog X.w) X.A X.env X.xe) (hc : X.calm = true) (hi : PI X tg iter wi) (hg : PG X tg g) (hb : GSs X body tb)
    (hs : ∀ x, foldedSetIterable iter X.env x = pure x := by intro _; rfl) : GS X (.For tg iter body [] pos) (tGFor wi g tb) := by
  refine ⟨fun A S ip R n ys s₀ c fs K J gd lv s σ H D gc hn k hI ht => ?_⟩
  rw [exec_For]
  refine seg_bind_wrap (wpAny_standAt ?_)
  obtain ⟨acc, cc, r, I⟩ := hI
  refine seg_bind_wrap ?_
  rw [gc.over]
  refine wpAny_mono (hi.run _ s σ H _ I ht) (fun v s1 h1 => ?_) fun x s' hx => k.exc n s₀ x s' hx
  refine seg_bind_wrap (wpAny_of_eq (hs v) ?_)
  refine seg_bind_wrap (wpAny_standAt ?_)
  refine seg_bind_wrap (wpAny_holding ?_)
  rw [gc.over]
  refine wpAny_mono h1 (fun itv s2 h2 => ?_) fun x s' hx => k.exc n s₀ x s' hx
  obtain ⟨it, fp, tn, Jt, H2, e, I2, T, st2, f2, W, ⟨m0, w0⟩, turn⟩ := h2
  subst e
  refine seg_call fun p => ?_
  have gl := fun (kk : Result → Sem PySem.Fin) => gc_loop (k := kk) (c' := .forLoop tg (.ref it) body [] X.env) (l := lv []) (kp := []) (p := p) gc rfl rfl
  have fS : ∀ b ∈ fp, b ≠ S := fun b hb e => (f2 b hb).2.2.2.2.2 (S, lstObj acc cc) (List.mem_append_right _ List.mem_cons_self) e.symm
  have stat : ∀ {acc' : Array Value} {cc' : Nat} {H' : Hp}, (∀ b ∈ fp, H' b = none) → ∀ b ∈ fp, FpOk X ((S, lstObj acc' cc') :: ip) H' b := fun {acc' cc' H'} hn b hb => by
    obtain ⟨q1, q2, q3, q4, q5, q6⟩ := f2 b hb
    refine ⟨hn b hb, q2, q3, q4, q5, fun p hp => ?_⟩
    rcases List.mem_append.mp hp with z | z
    · exact q6 p (List.mem_append_left _ z)
    · rcases List.mem_cons.mp z with z | z
      · rw [z]; exact fun e => fS b hb e.symm
      · exact q6 p (List.mem_append_right _ (List.mem_cons_of_mem _ z))
  have loop : ∀ (m i n : Nat) (ys : List V) (s₀ s : Shared) (σ : St) (H : Hp), n + ys.length = sizeLine → W i m ys σ H → GI X S ip ys σ H s → tn i s.heap → (∀ b ∈ fp, H b = none) →
      Seg (model X.prog X.w) A R (GY X S) n s₀ (.forLoop tg (.ref it) body [] X.env) ((model X.prog X.w).den (.forLoop tg (.ref it) body [] X.env))
        (.ret (fun r => ((match r with | .ok f => (.pure f : Sem Flow) | .error e => .raise e).onRaise (cameBack X.env)).wrap K J gd lv) none (gd false) (lv []) c p [] :: fs) s := by
    intro m
    induction m using Nat.strongRecOn with
    | ind m ih =>
      intro i n ys s₀ s σ H hn w hI st fr
      have ee : ∀ (n : Nat) (s₀ : Shared) (x : Value) (s' : Shared), X.xe x s' → Seg (model X.prog X.w) A R (GY X S) n s₀ (.forLoop tg (.ref it) body [] X.env)
          ((do noteFrame x X.env; theTreesLotGoes x : Sem Unit).wrap (fun _ => .raise x) .raise id id)
          (.ret (fun r => ((match r with | .ok f => (.pure f : Sem Flow) | .error e => .raise e).onRaise (cameBack X.env)).wrap K J gd lv) none (gd false) (lv []) c p [] :: fs) s' := fun n s₀ x s' hx => by
        refine seg_wrap ?_
        rw [(gl _).over]
        refine wpAny_bind (wpAny_mono (hp x s' hx) (fun _ s'' hcb => wpAny_theTreesLotGoes ?_) fun y s'' hcb => ?_)
        · exact seg_leaf (.error x) (seg_cameBack gc k hcb)
        · exact seg_leaf (.error y) (seg_cameBack gc k hcb)
      show Seg _ A R (GY X S) n s₀ _ ((forTurn tg (.ref it) body [] X.env).onRaise (fun x => do noteFrame x X.env; theTreesLotGoes x)) _ s
      rw [Sem.onRaise_eq_wrap]
      have eh : (fun e => ((do noteFrame e X.env; theTreesLotGoes e : Sem Unit).bind fun _ => (.raise e : Sem PySem.Fin))) = fun e => ((do noteFrame e X.env; theTreesLotGoes e : Sem Unit).wrap (fun _ => (.raise e : Sem PySem.Fin)) .raise id id) := funext fun e => Sem.bind_eq_wrap _ _
      rw [eh]
      unfold forTurn
      refine seg_bind_wrap (wpAny_standAt ?_)
      refine seg_bind_wrap ?_
      rw [(gl _).over]
      obtain ⟨acc, cc, r, I⟩ := hI
      rcases turn i m ys σ H w with ⟨stop, qn⟩ | ⟨go, N, hN, step⟩
      · refine wpAny_onRaise (wpAny_mono (T.done X rfl rfl rfl hc i _ s σ H X.xe I (stat fr) st stop) (fun r' s4 hr4 => ?_) fun x s4 hx => wpAny_standAt (ee n s₀ x s4 hx))
        obtain ⟨hr, I4⟩ := hr4
        subst hr
        refine seg_again (c' := .block [] X.env) rfl ?_
        exact seg_leaf (.ok .next) (k.ok n ys s₀ s4 .next hn ⟨σ, H, ⟨acc, cc, r, I4⟩, qn⟩)
      · refine wpAny_onRaise (wpAny_mono (T.item X rfl rfl rfl hc i _ s σ H X.xe I (stat fr) st go) (fun r' s4 hr4 => ?_) fun x s4 hx => wpAny_standAt (ee n s₀ x s4 hx))
        obtain ⟨u, hr, h4⟩ := hr4
        subst hr
        refine seg_bind_wrap ?_
        rw [(gl _).over]
        refine wpAny_mono h4 (fun _ s5 h5 => ?_) fun x s4 hx => ee n s₀ x s4 hx
        obtain ⟨x, H5, I5, r5, y5, st5, fr5⟩ := h5
        have I5' := I5.pinned (stat fr5) (T.obj _ _ st5)
        refine seg_bind_wrap ?_
        rw [(gl _).over]
        refine wpAny_mono (hg.run _ s5 σ H5 x u _ I5' r5 (step x H5 y5)) (fun _ s6 h6 => ?_) fun x s4 hx => ee n s₀ x s4 hx
        obtain ⟨σ6, H6, I6, q6⟩ := h6
        rw [Sem.bind_eq_wrap', Sem.wrap_wrap]
        have gl2 : ∀ kk : Result → Sem PySem.Fin, GC X S (ip ++ pinsAt fp s5.heap) A (.forLoop tg (.ref it) body [] X.env) (.ret kk none (gd false) (lv []) c p [] :: fs) id := fun kk => by
          have q := gl kk
          exact ⟨q.pn, fun p hp => (List.mem_append.mp hp).elim (q.ip p) fun z => fS p.1 (of_pinsAt z).1, q.apart, q.over, q.split, q.guard, q.gd⟩
        refine hb.run A S (ip ++ pinsAt fp s5.heap) R n ys s₀ _ _ _ _ id id s6 σ6 H6 { D with nx := N, ct := N, bk := D.nx } (gl2 _) hn ⟨fun n' ys' s₀' s7 f hn' hs => ?_, fun n' s₀' x s7 hx => ?_⟩ ⟨acc, cc, r, I6⟩ q6
        · have un : ∀ {ys' : List V} {σ7 : St} {H7 : Hp}, GI X S (ip ++ pinsAt fp s5.heap) ys' σ7 H7 s7 → GI X S ip ys' σ7 H7 s7 ∧ tn (i + 1) s7.heap ∧ ∀ b ∈ fp, H7 b = none := fun {ys' σ7 H7} ⟨a7, c7, r7, I7⟩ => by
            refine ⟨⟨a7, c7, r7, I7.unpinned (pins := (S, lstObj a7 c7) :: ip)⟩, T.keep _ _ _ st5 fun b hb o e => (I7.pin (b, o) (List.mem_append_right _ (List.mem_cons_of_mem _ (List.mem_append_right _ (mem_pinsAt hb e))))).1, fun b hb => ?_⟩
            obtain ⟨o, e, d⟩ := T.obj _ _ st5 b hb
            exact (I7.pin (b, o) (List.mem_append_right _ (List.mem_cons_of_mem _ (List.mem_append_right _ (mem_pinsAt hb e))))).2.1
          cases f with
          | next =>
            obtain ⟨σ7, H7, I7, n7⟩ := hs
            obtain ⟨u1, u2, u3⟩ := un I7
            obtain ⟨m', hm, w7⟩ := hN ys' σ7 H7 n7
            exact seg_again rfl (ih m' hm (i + 1) n' ys' s₀' s7 σ7 H7 hn' w7 u1 u2 u3)
          | cont =>
            obtain ⟨σ7, H7, I7, n7⟩ := hs
            obtain ⟨u1, u2, u3⟩ := un I7
            obtain ⟨m', hm, w7⟩ := hN ys' σ7 H7 n7
            exact seg_again rfl (ih m' hm (i + 1) n' ys' s₀' s7 σ7 H7 hn' w7 u1 u2 u3)
          | brk =>
            obtain ⟨σ7, H7, I7, q7⟩ := hs
            exact seg_leaf (.ok .next) (k.ok n' ys' s₀' s7 .next hn' ⟨σ7, H7, (un I7).1, q7⟩)
          | ret v =>
            obtain ⟨x7, σ7, H7, I7, r7, q7⟩ := hs
            exact seg_leaf (.ok (.ret v)) (k.ok n' ys' s₀' s7 (.ret v) hn' ⟨x7, σ7, H7, (un I7).1, r7, q7⟩)
        · exact ee n' s₀' x s7 hx
  exact loop m0 0 n ys s₀ s2 σ H2 hn w0 ⟨acc, cc, r, I2⟩ st2 fun b hb => (f2 b hb).1
end
end L2
namespace Kd
open PySem PySem.Spec PyProof.Rows L2 Kb Km
/-! ### generators over data: what is handed out is scalar -/
def SY (K : PySem.W.Frag) (ys : List V) (yd : List PyData) : Prop := ∀ p H, DqAll K p H ys yd
theorem SY.nil {K : PySem.W.Frag} : SY K [] [] := fun _ _ => .nil
theorem SY.app {K : PySem.W.Frag} {ys : List V} {yd : List PyData} {v : V} {d : PyData} {p : Addr} {H : Hp} (h : SY K ys yd) (h1 : Dq K p H v d) (s : scalar d = true) : SY K (ys ++ [v]) (yd ++ [d]) := fun p' H' => by
  have q : Dq K p' H' v d := by
    cases d with
    | none => obtain rfl := h1.none'; exact .non
    | bool b => obtain rfl := h1.bool'; exact .bl b
    | int i => obtain rfl := h1.int'; exact .int i
    | str x => have l := h1.strLen; obtain rfl := h1.str'; exact .str x l
    | _ => cases s
  exact (h p' H').append (.cons q .nil)
structure GEd where
  nx : List PyData → List Cell → Nat → Prop
  rt : List PyData → Nat → Prop
  bk : List PyData → List Cell → Nat → Prop := fun _ _ _ => False
  ct : List PyData → List Cell → Nat → Prop := fun _ _ _ => False
abbrev TSG := GEd → List PyData → List Cell → Nat → Prop
structure MSG (K : PySem.W.Frag) (F : Fx) (e : GEd) (D : GEnds) : Prop where
  nx : ∀ O σ H ρ n ys yd, Rel K F O σ H ρ n → SY K ys yd → e.nx yd ρ n → D.nx ys σ H
  bk : ∀ O σ H ρ n ys yd, Rel K F O σ H ρ n → SY K ys yd → e.bk yd ρ n → D.bk ys σ H
  ct : ∀ O σ H ρ n ys yd, Rel K F O σ H ρ n → SY K ys yd → e.ct yd ρ n → D.ct ys σ H
  rt : ∀ O H n ys yd, Rw F O H n → SY K ys yd → e.rt yd n → D.rt ys .non H
theorem MSG.at {K : PySem.W.Frag} {F : Fx} {O : Addr → Bool} {H : Hp} {n : Nat} {e : GEd} {D : GEnds} (r : Rw F O H n) (m : MSG K F e D) : MSG K (F.at O H) e D :=
  ⟨fun O' σ' H' ρ' n' ys yd R s q => m.nx O' σ' H' ρ' n' ys yd (R.back r) s q, fun O' σ' H' ρ' n' ys yd R s q => m.bk O' σ' H' ρ' n' ys yd (R.back r) s q, fun O' σ' H' ρ' n' ys yd R s q => m.ct O' σ' H' ρ' n' ys yd (R.back r) s q,
   fun O' H' n' ys yd R s q => m.rt O' H' n' ys yd (r.back R) s q⟩
def liftG (K : PySem.W.Frag) (T : TSG) : TGn := fun D ys σ H => ∃ F O ρ n e yd, Rel K F O σ H ρ n ∧ SY K ys yd ∧ T e yd ρ n ∧ MSG K F e D
abbrev GD1 (X : Cx) (st : Stmt) (T : TSG) : Prop := GS X st (liftG X.K T)
abbrev GDs (X : Cx) (sts : List Stmt) (T : TSG) : Prop := GSs X sts (liftG X.K T)
section
variable {X : Cx} {st : Stmt} {sts : List Stmt}
theorem gs_weak {t t' : TGn} (h : GS X st t) (w : ∀ D ys σ H, t' D ys σ H → t D ys σ H) : GS X st t' := ⟨fun A S ip R n ys s₀ c fs K J gd lv s σ H D g hn k hI ht => h.run A S ip R n ys s₀ c fs K J gd lv s σ H D g hn k hI (w D ys σ H ht)⟩
theorem gss_weak {t t' : TGn} (h : GSs X sts t) (w : ∀ D ys σ H, t' D ys σ H → t D ys σ H) : GSs X sts t' := ⟨fun A S ip R n ys s₀ c fs K J gd lv s σ H D g hn k hI ht => h.run A S ip R n ys s₀ c fs K J gd lv s σ H D g hn k hI (w D ys σ H ht)⟩
def gNil : TSG := fun e yd ρ n => e.nx yd ρ n
def gSeq (S T : TSG) : TSG := fun e yd ρ n => S { e with nx := T e } yd ρ n
theorem gd_cons {S T : TSG} (h1 : GD1 X st S) (h2 : GDs X sts T) : GDs X (st :: sts) (gSeq S T) := gss_weak (gss_cons h1 h2) fun D ys σ H ⟨F, O, ρ, n, e, yd, R, s, t, m⟩ =>
  ⟨F, _, ρ, n, _, yd, R, s, t, ⟨fun O' σ' H' ρ' n' ys' yd' R' s' q => ⟨F, O', ρ', n', e, yd', R', s', q, m⟩, m.bk, m.ct, m.rt⟩⟩
theorem gd_one {T : TSG} (h : GD1 X st T) : GDs X [st] T := gss_weak (gss_cons h gss_nil) fun D ys σ H ⟨F, O, ρ, n, e, yd, R, s, t, m⟩ => ⟨F, _, ρ, n, e, yd, R, s, t, ⟨m.nx, m.bk, m.ct, m.rt⟩⟩
/-- a statement that hands out nothing -/
def gPlain (T : TSD) : TSG := fun e yd ρ n => T { nx := e.nx yd, rt := fun d n' => d = .none ∧ e.rt yd n', bk := e.bk yd, ct := e.ct yd, ex := X0 } ρ n
theorem gd_plain {T : TSD} (h : DS E0 X st T) : GD1 X st (gPlain T) := gs_weak (gs_ps h) fun D ys σ H ⟨F, O, ρ, n, e, yd, R, s, t, m⟩ =>
  ⟨F, _, ρ, n, _, R, t, ⟨fun O' σ' H' ρ' n' R' q => m.nx O' σ' H' ρ' n' ys yd R' s q, fun O' σ' H' ρ' n' R' q => m.bk O' σ' H' ρ' n' ys yd R' s q, fun O' σ' H' ρ' n' R' q => m.ct O' σ' H' ρ' n' ys yd R' s q,
    fun O' H' n' v d R' hd ⟨q1, q⟩ => by
      subst q1
      obtain rfl := hd.none'
      exact m.rt O' H' n' ys yd R' s q, fun _ _ _ _ _ _ _ _ q => q.elim⟩⟩
def gYield (T : TD) : TSG := fun e yd ρ n => yd.length < sizeLine ∧ T ρ n (fun d n1 => scalar d = true ∧ e.nx (yd ++ [d]) ρ n1) X0
theorem gd_yield {e : Expr} {yp pos : Pos} {T : TD} (he : DE E0 X e T) (hco : X.env.scope.isCoroutine = false := by rfl) (hi : interactive X.env = false := by rfl) : GD1 X (.Expr (.Yield (some e) yp) pos) (gYield T) :=
  gs_weak (gs_yield he hco hi) fun D ys σ H ⟨F, O, ρ, n, e, yd, R, s, ⟨hl, t⟩, m⟩ =>
    ⟨by rw [(s 0 H).length]; exact hl, F, _, ρ, n, _, X0, R, t, fun d n' v H' ⟨sc, q⟩ x hd => m.nx _ σ H' ρ n' _ _ (R.ext x) (s.app hd sc) q, fun _ _ _ _ _ q => q.elim⟩
def gIf (C : TTD) (S T : TSG) : TSG := fun e yd ρ n => C ρ n (fun b n1 => if b = true then S e yd ρ n1 else T e yd ρ n1) X0
def GForI (g : TGD) (T : TSG) (e : GEd) (ds : List PyData) (yd : List PyData) (ρ : List Cell) (n : Nat) : Prop := ∃ I : Nat → List PyData → List Cell → Nat → Prop, I 0 yd ρ n ∧
  (∀ i x yd ρ n, ds[i]? = some x → I i yd ρ n → g x ρ fun ρ2 => T { e with nx := I (i + 1), ct := I (i + 1), bk := e.nx } yd ρ2 n) ∧ ∀ yd ρ n, I ds.length yd ρ n → e.nx yd ρ n
def gFor (Ti : TID) (g : TGD) (T : TSG) : TSG := fun e yd ρ n => Ti ρ n (fun ds n1 => GForI g T e ds yd ρ n1) X0
theorem gd_for {tg iter : Expr} {body : List Stmt} {pos : Pos} {Ti : TID} {g : TG} {gd : TGD} {T : TSG} (hp : PassesOwn (model X.prog X.w) X.A X.env X.xe) (hc : X.calm = true) (hi : DI E0 X tg iter Ti) (hg : PG X tg g) (hgd : TgD X.K g gd) (hb : GDs X body T)
    (hs : ∀ x, foldedSetIterable iter X.env x = pure x := by intro _; rfl) : GD1 X (.For tg iter body [] pos) (gFor Ti gd T) := gs_weak (gs_for hp hc hi hg hb hs) fun D ys σ H ⟨F, O, ρ, n, e, yd, R, s, t, m⟩ => by
  refine ⟨F, _, ρ, n, _, X0, R, t, fun {O1} J ds n1 H1 ⟨I, i0, step, fin⟩ x1 wk => ?_, fun _ _ _ _ _ q => q.elim⟩
  have R1 := R.ext x1
  refine ⟨fun i k ys σ H' => k = ds.length - i ∧ i ≤ ds.length ∧ ∃ O' ρ' n' yd', Rel X.K (F.at O1 H1) O' σ H' ρ' n' ∧ SY X.K ys yd' ∧ I i yd' ρ' n', ⟨ds.length, by simp, Nat.zero_le _, O1, ρ, n1, yd, R1.at, s, i0⟩, ?_⟩
  rintro i k ys2 σ2 H2 ⟨rfl, hi2, O2, ρ2, n2, yd2, R2, s2, q2⟩
  by_cases hlt : i < ds.length
  · obtain ⟨go, yl⟩ := (wk O2 H2 n2 i R2.rw).2 ds[i] (List.getElem?_eq_getElem hlt)
    refine .inr ⟨go, fun ys' σ' H' => ∃ O' ρ' n' yd', Rel X.K (F.at O1 H1) O' σ' H' ρ' n' ∧ SY X.K ys' yd' ∧ I (i + 1) yd' ρ' n', fun ys' σ' H' ⟨O', ρ', n', yd', R', s', q'⟩ => ⟨_, by omega, rfl, hlt, O', ρ', n', yd', R', s', q'⟩, fun x H3 y => ?_⟩
    obtain ⟨x3, d3⟩ := yl x H3 y
    refine hgd (F.at O1 H1) O2 σ2 H3 ρ2 n2 x ds[i] _ _ (R2.ext x3) d3 (step i ds[i] yd2 ρ2 n2 (List.getElem?_eq_getElem hlt) q2) fun σ4 ρ4 R4 q4 => ?_
    have m' := m.at R1.rw
    exact ⟨F.at O1 H1, O2, ρ4, n2, _, yd2, R4, s2, q4, ⟨fun O' σ' H' ρ' n' ys' yd' R' s' q' => ⟨O', ρ', n', yd', R', s', q'⟩, m'.nx, fun O' σ' H' ρ' n' ys' yd' R' s' q' => ⟨O', ρ', n', yd', R', s', q'⟩, m'.rt⟩⟩
  · have ei : i = ds.length := by omega
    subst ei
    exact .inl ⟨(wk O2 H2 n2 _ R2.rw).1 rfl, m.nx O2 σ2 H2 ρ2 n2 ys2 yd2 (R2.back R1.rw) s2 (fin yd2 ρ2 n2 q2)⟩
end
/-! ### a generator def -/
abbrev SpGD := List PyData → Nat → (List PyData → Nat → Prop) → Prop
def spGD (K : PySem.W.Frag) (S : SpGD) : SpG := fun vs H Q E => ∃ g O n ds Qd, Wd g O H n ∧ DqAll K g.p (hid O H) vs ds ∧ S ds n Qd ∧ ∀ {O' : Addr → Bool}, ∀ xs n' ys H', Qd xs n' → SY K ys xs → Ext g O O' H H' n n' → Q ys H'
section
variable {P : Program} {w : World} {K : PySem.W.Frag} {mg : Str → Option Value} {base : Heap}
theorem okGen {x qual : Str} {st : Stmt} {f : Addr} {fd : FuncData} {N ps : List Str} {k : Nat} {S : SpGD} (F : Fun K x qual st f fd) (hS : GScope N ps (defScope st)) (len : ∀ ds n Q, S ds n Q → ds.length = ps.length)
    (body : ∀ (cdv : Value) (A : Around) (outer : List Env) (s : Shared) (H : Hp) (E : XK) (pn : List (Addr × Obj)), Room k (A.deeper (envOfC qual (defScope st) s.heap.objs.size f cdv)) →
      ∃ T, GDs (gcxOf P w K mg base N qual (defScope st) f cdv A outer s H E pn) (defBody st) T ∧ ∀ ds n Q, S ds n Q → T { nx := fun yd _ n' => Q yd n', rt := Q } [] (startC N ds) n) :
    GFn P w K mg base (k + 1) f fd ps (spGD K S) := by
  obtain ⟨oc, od, kV, doc, pm, an, cdv, ct, osl, rfl, lk, hcd⟩ := F.ex
  refine gfn_of lk hcd hS (fun vs H Q E h => ?_) fun A outer s H vs Q E pn hr h => ?_
  · obtain ⟨g, O, n, ds, Qd, wd, hd, hs, _⟩ := h
    rw [hd.length]
    exact len _ _ _ hs
  · obtain ⟨g, O, n, ds, Qd, wd, hd, hs, mq⟩ := h
    obtain ⟨T, hT, hq⟩ := body cdv A outer s H E pn hr
    refine ⟨_, hT, fxOf g O H n, O, _, n, _, [], rel_start wd hd, .nil, hq ds n Qd hs, ?_⟩
    exact ⟨fun O' σ' H' ρ' n' ys yd R s q => mq yd n' ys H' q s (ext_back R.rw), fun _ _ _ _ _ _ _ _ _ q => q.elim, fun _ _ _ _ _ _ _ _ _ q => q.elim, fun O' H' n' ys yd R s q => ⟨rfl, mq yd n' ys H' q s (ext_back R)⟩⟩
end
/-! ### list(g(..)) -/
section
variable {X : Cx} {e : Expr} {es : List Expr} {pos pos' : Pos}
def dListG (S : SpGD) (Ta : TAD) : TD := fun ρ n Q X => Ta ρ n (fun ds n1 => S ds n1 (fun xs n2 => Q (.list xs) n2)) X
theorem de_listG {E : XK} {k : Nat} {f : Addr} {fd : FuncData} {ps : List Str} {S : SpGD} {x nm : Str} {p p2 : Pos} {Ta : TAD} (Fn : GFn X.prog X.w X.K X.mg X.base k f fd ps (spGD X.K S)) (hr : Room (k + 3) X.A) (hg : Gl X x) (hm : X.mg x = some (.ref f)) (hk : PySem.W.keepIn X.K (.ref f) = true) (hb : Binds X.K fd ps [])
    (ha : DA E X (e :: es) Ta) (hgl : Gl X nm) (hml : X.mg nm = none) (hvl : bootBuiltins nm = some (.type "list")) (hdb : (x == ("__debug__" : Str)) = false := by decide) (hnm : nm ≠ "__name__" := by decide) (hdb2 : (nm == ("__debug__" : Str)) = false := by decide)
    (he : starEach (e :: es) X.env = (false, eval e X.env) :: starEach es X.env := by rfl) (hpl : (backTo pos' (starEach es X.env)).any (·.1) = false := by rfl)
    (he2 : starEach [.Call (.Name x p) (e :: es) [] pos'] X.env = (false, eval (.Call (.Name x p) (e :: es) [] pos') X.env) :: starEach [] X.env := by rfl) :
    DE E X (.Call (.Name nm p2) [.Call (.Name x p) (e :: es) [] pos'] [] pos) (dListG S Ta) :=
  pe_weak (pe_listG (pgen_call Fn (hr.mono (by omega)) hg hm hk hb .nil ha hdb he hpl) (E := E0) (fun _ _ _ _ _ _ _ h => by
    obtain ⟨_, _, _, _, _, _, _, _, _, _, _, _, z⟩ := h
    exact z.elim) (fun _ _ _ h => h.elim) hr hgl hml hvl hnm hdb2 he2) fun σ H Q ⟨F, O, ρ, n, Qd, Xd, R, t, mq, mx⟩ =>
    ⟨F, _, ρ, n, _, Xd, R, t, fun xs n1 vs H1 q1 e1 d1 => ⟨F.g, _, n1, xs, _, (R.ext e1).rw.wd, by rw [List.append_nil]; exact d1, q1, fun out n2 ys H2 q2 s2 e2 q hq => by
      have w := ((R.ext e1).ext e2).rw.wd
      have e3 := w.new hq (.lst ys)
      exact mq _ n2 _ _ q2 ((e1.trans e2).trans e3) (.lst (hid_new (w.fresh hq)) (s2 _ _))⟩, mx⟩
/-! ### steps -/
theorem x_listG {S : SpGD} {U : TAD} {ρ : List Cell} {n : Nat} {Q : PQ} {Z : XD} (h : U ρ n (fun ds n1 => S ds n1 (fun xs n2 => Q (.list xs) n2)) Z) : dListG S U ρ n Q Z := h
theorem g_seq {S T : TSG} {e : GEd} {yd : List PyData} {ρ : List Cell} {n : Nat} (h : S { e with nx := T e } yd ρ n) : gSeq S T e yd ρ n := h
theorem g_plain {T : TSD} {e : GEd} {yd : List PyData} {ρ : List Cell} {n : Nat} (h : T { nx := e.nx yd, rt := fun d n' => d = .none ∧ e.rt yd n', bk := e.bk yd, ct := e.ct yd, ex := X0 } ρ n) : gPlain T e yd ρ n := h
theorem g_yield {T : TD} {e : GEd} {yd : List PyData} {ρ : List Cell} {n : Nat} (hl : yd.length < sizeLine) (h : T ρ n (fun d n1 => scalar d = true ∧ e.nx (yd ++ [d]) ρ n1) X0) : gYield T e yd ρ n := ⟨hl, h⟩
theorem g_if {C : TTD} {S T : TSG} {e : GEd} {yd : List PyData} {ρ : List Cell} {n : Nat} (h : C ρ n (fun b n1 => if b = true then S e yd ρ n1 else T e yd ρ n1) X0) : gIf C S T e yd ρ n := h
theorem g_for {Ti : TID} {g : TGD} {T : TSG} {e : GEd} {yd : List PyData} {ρ : List Cell} {n : Nat} (h : Ti ρ n (fun ds n1 => GForI g T e ds yd ρ n1) X0) : gFor Ti g T e yd ρ n := h
theorem gfori {g : TGD} {T : TSG} {e : GEd} {ds yd : List PyData} {ρ : List Cell} {n : Nat} (I : Nat → List PyData → List Cell → Nat → Prop) (h0 : I 0 yd ρ n)
    (hs : ∀ i x yd ρ n, ds[i]? = some x → I i yd ρ n → g x ρ fun ρ2 => T { e with nx := I (i + 1), ct := I (i + 1), bk := e.nx } yd ρ2 n) (hf : ∀ yd ρ n, I ds.length yd ρ n → e.nx yd ρ n) : GForI g T e ds yd ρ n := ⟨I, h0, hs, hf⟩
end
end Kd
namespace Kd
open PySem PySem.Spec PyProof.Rows L2 Kb Km
/-! ### the parts of a word, one after another -/
def pblk (L : List Nat) (p h : Nat) : List (List Nat) := (List.range (L.length - p - h)).map fun i => (L.drop p).take (h + 1 + i)
def partsTo (L : List Nat) (k : Nat) : List (List Nat) := (List.range k).flatMap fun j => pblk L ((tord L).getD j 0) ((0 :: hds L).getD j 0)
def parts (L : List Nat) : List (List Nat) := partsTo L L.length
theorem partsTo_succ (L : List Nat) (k : Nat) : partsTo L (k + 1) = partsTo L k ++ pblk L ((tord L).getD k 0) ((0 :: hds L).getD k 0) := by
  unfold partsTo
  rw [List.range_succ, List.flatMap_append, List.flatMap_singleton]
theorem pblk_len (L : List Nat) (p h : Nat) : (pblk L p h).length = L.length - p - h := by unfold pblk; rw [List.length_map, List.length_range]
theorem partsTo_len (L : List Nat) : ∀ k, (partsTo L k).length ≤ k * L.length
  | 0 => by show 0 ≤ _; omega
  | k + 1 => by
    have := partsTo_len L k
    rw [partsTo_succ, List.length_append, pblk_len, Nat.succ_mul]
    omega
theorem head_at {L : List Nat} {k : Nat} (h : k + 1 < (tord L).length) : (0 :: hds L).getD (k + 1) 0 = agr (L.drop ((tord L).getD k 0)) (L.drop ((tord L).getD (k + 1) 0)) := by
  rw [List.getD_cons_succ]
  exact hds_gd h
theorem tord_gd {L : List Nat} {j : Nat} (h : j < L.length) : (tord L).getD j 0 < L.length ∧ (tord L)[j]? = some ((tord L).getD j 0) := by
  have h2 : j < (tord L).length := by rw [tord_len]; exact h
  exact ⟨tord_lt (List.mem_of_getElem? (getD_some h2)), getD_some h2⟩
theorem parts_len {L : List Nat} (h : L.length ≤ 24) : (parts L).length ≤ 576 := by
  have := partsTo_len L L.length
  have : L.length * L.length ≤ 24 * 24 := Nat.mul_le_mul h h
  unfold parts
  omega
end Kd
namespace Kd
open PySem PySem.Spec PyProof.Rows L2 Kb Km
/-! ### patterns in the order of tails -/
theorem any_W (k : List Nat) : ∀ Ls : List (List Nat), ((Ls.map W).any fun z => PyData.eqv z (W k)) = decide (k ∈ Ls)
  | [] => rfl
  | x :: Ls => by
    rw [List.map_cons, List.any_cons, any_W k Ls, eqv_W]
    by_cases c : x = k
    · rw [decide_eq_true c, Bool.true_or, decide_eq_true (show k ∈ x :: Ls from by rw [c]; exact List.mem_cons_self ..)]
    · rw [decide_eq_false c, Bool.false_or]
      exact dec_iff ⟨fun h => List.mem_cons_of_mem _ h, fun h => by
        rcases List.mem_cons.mp h with h | h
        · exact absurd h.symm c
        · exact h⟩
theorem scal_W (Ls : List (List Nat)) : (Ls.map W).all scalar = true := List.all_eq_true.mpr fun d hd => by
  obtain ⟨L, _, rfl⟩ := List.mem_map.mp hd
  rfl
theorem x_inLW {P : PyData → Prop} {Ls : List (List Nat)} {k : List Nat} (h : P (.bool (decide (k ∈ Ls)))) : rInG false (W k) (.list (Ls.map W)) P := ⟨⟨rfl, scal_W Ls⟩, by
  show P (.bool (false != ((Ls.map W).any fun z => PyData.eqv z (W k))))
  rw [any_W, Bool.false_bne]
  exact h⟩
end Kd
namespace Kd
open PySem PySem.Spec PyProof.Rows L2 Kb Km
/-! ### rising rows, one after another -/
def Rows (room len : Nat) (R : List (List Nat)) : Prop := Asc R ∧ ∀ ls, ls ∈ R ↔ ls.length = len ∧ Up room 0 ls
end Kd
namespace Kd
open PySem PySem.Spec PyProof.Rows L2 Kb Km
/-! ### the least word is the first filling -/
end Kd
namespace Kd
open PySem PySem.Spec PyProof.Rows L2 Kb Km
/-! ### all words in ascending order; the words of an order -/
end Kd
namespace Kd
open PySem PySem.Spec PyProof.Rows L2 Kb Km
/-! ### x in a list of texts, x any value -/
/-- a walk over data that are all of one kind -/
theorem for_pred {g : TGD} {T : TSD} {e : DEnds} {ds : List PyData} {ρ : List Cell} {n : Nat} {R : PyData → Prop} (hR : ∀ d ∈ ds, R d) (I : List Cell → Nat → Prop) (h0 : I ρ n) (hs : ∀ x ρ n, R x → I ρ n → g x ρ fun ρ2 => T { e with nx := I, ct := I, bk := e.nx } ρ2 n)
    (hf : ∀ ρ n, I ρ n → e.nx ρ n) : ForI g T e ds ρ n := fori (fun _ => I) h0 (fun i x ρ n h q => hs x ρ n (hR x (List.mem_of_getElem? h)) q) hf
end Kd
namespace Kb
open PySem PySem.Spec PyProof.Rows L2
/-! ### s[::-1] of a text -/
end Kb
namespace Kd
open PySem PySem.Spec PyProof.Rows L2 Kb Km
def rRevS : RD1
  | .str z, Q => Q (.str ⟨z.cps.toList.reverse.toArray⟩)
  | _, _ => False
theorem x_revS {P : PyData → Prop} {L : List Nat} (h : P (W L.reverse)) : rRevS (W L) P := by
  show P (.str ⟨(L.toArray).toList.reverse.toArray⟩)
  rw [List.toList_toArray]
  exact h
end Kd
namespace Kb
open PySem PySem.Spec PyProof.Rows L2
/-! ### tuple(text) -/
end Kb
namespace Kd
open PySem PySem.Spec PyProof.Rows L2 Kb Km
def rTupS : RDN := fun xs Q => ∃ z : Str, xs = [.str z] ∧ Q (.tuple (sgD z))
theorem x_tupS {P : PyData → Prop} {L : List Nat} (h : P (.tuple ((L.map fun c => [c]).map W))) : rTupS [W L] P := by
  refine ⟨_, rfl, ?_⟩
  rw [List.map_map] at h
  show P (.tuple ((L.toArray).toList.map fun c => PyData.str ⟨#[c]⟩))
  rw [List.toList_toArray]
  exact h
theorem x_revT2 {P : PyData → Prop} {ds : List PyData} (h : P (.tuple ds.reverse)) : rRevT (.tuple ds) P := h
end Kd
namespace Kd
open PySem PySem.Spec PyProof.Rows L2 Kb Km
/-! ### a dict against a text -/
/-! ### any value against a text, within tuples -/
end Kd
namespace Kd
open PySem PySem.Spec PyProof.Rows L2 Kb Km
/-! ### the ranks at which a pattern stands -/
end Kd
namespace Kd
open PySem PySem.Spec PyProof.Rows
/-! ### what is shown tells the value: a tuple of a text and of numbers -/
def shL (d : PyData) : List Nat := d.shown.cps.toList
def plnC (c : Nat) : Bool := c != 39 && (Builtin.Str.reprChar 39 c == [c])
def plnS (z : Str) : Bool := z.cps.toList.all plnC
theorem fold_pln : ∀ (l : List Nat) (acc : Array Nat), l.all plnC = true → (l.foldl (fun out c => out ++ (Builtin.Str.reprChar 39 c).toArray) acc).toList = acc.toList ++ l
  | [], acc, _ => by rw [List.foldl_nil, List.append_nil]
  | c :: l, acc, h => by
    rw [List.all_cons, Bool.and_eq_true] at h
    have h1 := h.1
    unfold plnC at h1
    rw [Bool.and_eq_true] at h1
    rw [List.foldl_cons, fold_pln l _ h.2, eq_of_beq h1.2, Array.toList_append, List.toList_toArray, List.append_assoc]
    rfl
theorem pln_39 {z : Str} (h : plnS z = true) : 39 ∉ z.cps.toList := fun hm => by
  have := List.all_eq_true.mp h 39 hm
  unfold plnC at this
  simp at this
theorem shL_str {z : Str} (h : plnS z = true) : shL (.str z) = 39 :: (z.cps.toList ++ [39]) := by
  have q : reprQuote z = 39 := by
    unfold reprQuote
    have : z.cps.contains 39 = false := by
      cases hc : z.cps.contains 39 with
      | false => rfl
      | true => exact absurd (Array.mem_def.mp (Array.contains_iff.mp hc)) (pln_39 h)
    rw [this]
    rfl
  unfold shL
  rw [PyData.shown_str]
  unfold reprText
  rw [q, Array.toList_push, ← Array.foldl_toList, fold_pln _ _ h]
  rfl
theorem split_free {D : Nat → Bool} {a b : Nat} {r s : List Nat} (ha : D a = true) (hb : D b = true) : ∀ {u v : List Nat}, (∀ c ∈ u, D c = false) → (∀ c ∈ v, D c = false) → u ++ a :: r = v ++ b :: s → u = v ∧ a :: r = b :: s
  | [], [], _, _, h => ⟨rfl, h⟩
  | [], c :: v, _, hv, h => by
    injection h with h1 _
    have := hv c List.mem_cons_self
    rw [← h1, ha] at this
    cases this
  | c :: u, [], hu, _, h => by
    injection h with h1 _
    have := hu c List.mem_cons_self
    rw [h1, hb] at this
    cases this
  | c :: u, d :: v, hu, hv, h => by
    injection h with h1 h2
    obtain ⟨e, h3⟩ := split_free ha hb (fun x hx => hu x (List.mem_cons_of_mem _ hx)) (fun x hx => hv x (List.mem_cons_of_mem _ hx)) h2
    exact ⟨by rw [h1, e], h3⟩
theorem shL_int (i : Int) : shL (.int i) = (toString i).toList.map Char.toNat := by
  unfold shL
  rw [PyData.shown_int, signs_ofString]
theorem tx_nat {i : Int} (h : 0 ≤ i) : (toString i).toList = Nat.toDigits 10 i.toNat := by
  rw [Int.toString_eq_repr, Int.repr_eq_if, if_pos h, Nat.toList_repr]
theorem char_inj : ∀ {a b : List Char}, a.map Char.toNat = b.map Char.toNat → a = b
  | [], [], _ => rfl
  | [], _ :: _, h => nomatch h
  | _ :: _, [], h => nomatch h
  | a :: as, b :: bs, h => by
    rw [List.map_cons, List.map_cons] at h
    injection h with h1 h2
    rw [char_inj h2, Char.toNat_inj.mp h1]
theorem int_text_inj {i j : Int} (hj : 0 ≤ j) (h : shL (.int i) = shL (.int j)) : i = j := by
  rw [shL_int, shL_int] at h
  have e := char_inj h
  rw [tx_nat hj] at e
  by_cases hi : 0 ≤ i
  · rw [tx_nat hi] at e
    have := congrArg (fun l => Nat.ofDigitChars 10 l 0) e
    simp only [Nat.ofDigitChars_ten_toDigits] at this
    omega
  · exfalso
    rw [Int.toString_eq_repr, Int.repr_eq_if, if_neg hi, String.toList_append] at e
    have hm : '-' ∈ Nat.toDigits 10 j.toNat := by
      rw [← e]
      exact List.mem_append_left _ (by decide)
    have := Nat.isDigit_of_mem_toDigits (by decide) (by decide) hm
    revert this
    decide
theorem int_digits {i : Int} (h : 0 ≤ i) : ∃ c r, shL (.int i) = c :: r ∧ 48 ≤ c ∧ c ≤ 57 := by
  rw [shL_int, tx_nat h]
  cases e : Nat.toDigits 10 i.toNat with
  | nil => exact absurd e (Nat.toDigits_ne_nil)
  | cons c r =>
    refine ⟨c.toNat, r.map Char.toNat, rfl, ?_⟩
    exact digit_range (Nat.isDigit_of_mem_toDigits (by decide) (by decide) (show c ∈ Nat.toDigits 10 i.toNat by rw [e]; exact List.mem_cons_self))
theorem int_head (i : Int) : ∃ c r, shL (.int i) = c :: r ∧ c ≠ 39 := by
  have h39 := int_text_free' 39 ⟨by decide, by decide⟩ i
  rw [signs_ofString, ← shL_int] at h39
  cases e : shL (.int i) with
  | nil =>
    exfalso
    by_cases h : 0 ≤ i
    · obtain ⟨c, r, e2, _⟩ := int_digits h
      rw [e] at e2
      cases e2
    · rw [shL_int, Int.toString_eq_repr, Int.repr_eq_if, if_neg h, String.toList_append] at e
      cases e
  | cons c r => exact ⟨c, r, rfl, fun z => h39 (by rw [e, z]; exact List.mem_cons_self)⟩
/-- a value that may stand as an item: plain text, whole number, or one whose text begins otherwise -/
def Fs (x : PyData) : Prop := (∃ z, x = .str z ∧ plnS z = true) ∨ (∃ i, x = .int i) ∨ ∃ c r, shL x = c :: r ∧ c ≠ 39 ∧ (c < 48 ∨ 57 < c)
def Tg (y : PyData) : Prop := (∃ z, y = .str z ∧ plnS z = true) ∨ ∃ i : Int, y = .int i ∧ 0 ≤ i
def dlm (c : Nat) : Bool := c == 44 || c == 41
theorem int_dlm (i : Int) : ∀ c ∈ shL (.int i), dlm c = false := fun c hc => by
  have h1 := int_text_free' 44 ⟨by decide, by decide⟩ i
  have h2 := int_text_free' 41 ⟨by decide, by decide⟩ i
  rw [signs_ofString, ← shL_int] at h1 h2
  unfold dlm
  cases h : (c == 44 || c == 41) with
  | false => rfl
  | true =>
    rw [Bool.or_eq_true] at h
    rcases h with h | h
    · rw [eq_of_beq h] at hc; exact absurd hc h1
    · rw [eq_of_beq h] at hc; exact absurd hc h2
theorem item_inj {x y : PyData} {a b : Nat} {r s : List Nat} (hx : Fs x) (hy : Tg y) (ha : dlm a = true) (hb : dlm b = true) (h : shL x ++ a :: r = shL y ++ b :: s) : x = y ∧ a :: r = b :: s := by
  rcases hy with ⟨z, rfl, hz⟩ | ⟨j, rfl, hj⟩
  · rw [shL_str hz] at h
    rcases hx with ⟨w, rfl, hw⟩ | ⟨i, rfl⟩ | ⟨c, t, e, hc, _⟩
    · rw [shL_str hw] at h
      injection h with _ h
      replace h : (w.cps.toList ++ [39]) ++ a :: r = (z.cps.toList ++ [39]) ++ b :: s := h
      rw [show (w.cps.toList ++ [39]) ++ a :: r = w.cps.toList ++ 39 :: (a :: r) by simp, show (z.cps.toList ++ [39]) ++ b :: s = z.cps.toList ++ 39 :: (b :: s) by simp] at h
      have f : ∀ {z : Str}, plnS z = true → ∀ c ∈ z.cps.toList, (c == 39) = false := fun hz c hc => by
        cases e : (c == 39) with
        | false => rfl
        | true => rw [eq_of_beq e] at hc; exact absurd hc (pln_39 hz)
      obtain ⟨e, h2⟩ := split_free (D := fun c => c == 39) rfl rfl (f hw) (f hz) h
      injection h2 with _ h2
      refine ⟨?_, h2⟩
      obtain ⟨⟨w⟩⟩ := w
      obtain ⟨⟨z⟩⟩ := z
      rw [show w = z from e]
    · obtain ⟨c, t, e, hc⟩ := int_head i
      rw [e] at h
      injection h with h _
      exact absurd h hc
    · rw [e] at h
      injection h with h _
      exact absurd h hc
  · obtain ⟨d, t', e', h1, h2⟩ := int_digits hj
    rcases hx with ⟨w, rfl, hw⟩ | ⟨i, rfl⟩ | ⟨c, t, e, _, hc⟩
    · rw [shL_str hw, e'] at h
      injection h with h _
      omega
    · obtain ⟨e, h3⟩ := split_free ha hb (int_dlm i) (int_dlm j) h
      exact ⟨by rw [int_text_inj hj e], h3⟩
    · rw [e, e'] at h
      injection h with h _
      omega
def joinL (xs : List PyData) : List Nat := (Str.join ", " (PyData.shownAll xs)).cps.toList
theorem joinL_cons2 (x y : PyData) (xs : List PyData) : joinL (x :: y :: xs) = shL x ++ 44 :: 32 :: joinL (y :: xs) := by
  unfold joinL shL
  rw [PyData.shownAll_cons, PyData.shownAll_cons, PyProof.Rows.join_cons_cons, cps_toList_append, cps_toList_append, signs_sep]
  simp
theorem joinL_one (x : PyData) : joinL [x] = shL x := by
  unfold joinL shL
  rw [PyData.shownAll_cons, PyData.shownAll_nil, PyProof.Rows.join_one]
theorem join_inj : ∀ {xs ys : List PyData}, (∀ x ∈ xs, Fs x) → (∀ y ∈ ys, Tg y) → xs ≠ [] → ys ≠ [] → joinL xs ++ [41] = joinL ys ++ [41] → xs = ys
  | [], _, _, _, h, _, _ => absurd rfl h
  | _, [], _, _, _, h, _ => absurd rfl h
  | [x], [y], hx, hy, _, _, h => by
    rw [joinL_one, joinL_one] at h
    rw [(item_inj (hx x List.mem_cons_self) (hy y List.mem_cons_self) rfl rfl h).1]
  | [x], y :: y' :: ys, hx, hy, _, _, h => by
    rw [joinL_one, joinL_cons2, List.append_assoc] at h
    have := (item_inj (hx x List.mem_cons_self) (hy y List.mem_cons_self) rfl rfl h).2
    injection this with h _
    cases h
  | x :: x' :: xs, [y], hx, hy, _, _, h => by
    rw [joinL_one, joinL_cons2, List.append_assoc] at h
    have := (item_inj (hx x List.mem_cons_self) (hy y List.mem_cons_self) rfl rfl h).2
    injection this with h _
    cases h
  | x :: x' :: xs, y :: y' :: ys, hx, hy, _, _, h => by
    rw [joinL_cons2, joinL_cons2, List.append_assoc, List.append_assoc] at h
    obtain ⟨e, h2⟩ := item_inj (hx x List.mem_cons_self) (hy y List.mem_cons_self) rfl rfl h
    injection h2 with _ h2
    injection h2 with _ h2
    rw [e, join_inj (xs := x' :: xs) (ys := y' :: ys) (fun z hz => hx z (List.mem_cons_of_mem _ hz)) (fun z hz => hy z (List.mem_cons_of_mem _ hz)) (by simp) (by simp) h2]
theorem shL_tuple (xs : List PyData) : shL (.tuple xs) = 40 :: (joinL xs ++ if xs.length == 1 then [44, 41] else [41]) := by
  unfold shL joinL
  rw [PyData.shown_tuple, cps_toList_append, cps_toList_append, signs_lparen]
  cases xs.length == 1 with
  | true => simp; decide
  | false => simp; decide
/-- the tuple is the one that the text shows -/
theorem tuple_inj {xs ys : List PyData} (hx : ∀ x ∈ xs, Fs x) (hy : ∀ y ∈ ys, Tg y) (h2 : 2 ≤ ys.length) (h : (PyData.tuple xs).shown = (PyData.tuple ys).shown) : xs = ys := by
  have e : shL (.tuple xs) = shL (.tuple ys) := by unfold shL; rw [h]
  rw [shL_tuple, shL_tuple, show (ys.length == 1) = false from beq_eq_false_iff_ne.mpr (by omega)] at e
  injection e with _ e
  cases xs with
  | nil =>
    exfalso
    obtain ⟨y, ys, rfl⟩ := List.exists_cons_of_length_pos (show 0 < ys.length by omega)
    have hl := congrArg List.length e
    cases ys with
    | nil => exact absurd h2 (by simp)
    | cons y' ys =>
      rw [joinL_cons2] at hl
      have : (joinL []).length = 0 := rfl
      simp only [List.length_append, List.length_cons, this] at hl
      simp at hl
  | cons x xs =>
    cases xs with
    | nil =>
      exfalso
      obtain ⟨y, ys, rfl⟩ := List.exists_cons_of_length_pos (show 0 < ys.length by omega)
      cases ys with
      | nil => exact absurd h2 (by simp)
      | cons y' ys =>
        rw [joinL_one, joinL_cons2, List.append_assoc] at e
        have := (item_inj (hx x List.mem_cons_self) (hy y List.mem_cons_self) rfl rfl e).2
        injection this with _ h
        injection h with h _
        cases h
    | cons x' xs => exact join_inj hx hy (by simp) (fun z => by rw [z] at h2; exact absurd h2 (by decide)) e
end Kd
namespace Kd
open PySem PySem.Spec PyProof.Rows L2 Kb Km
/-! ### dicts that a name owns: keys are whole numbers and texts -/
def putD : List (Key × PyData) → Key → PyData → List (Key × PyData)
  | [], k, d => [(k, d)]
  | p :: ks, k, d => if p.1 = k then (p.1, d) :: ks.map fun q => if q.1 = k then (q.1, d) else q else p :: putD ks k d
def getD : List (Key × PyData) → Key → Option PyData
  | [], _ => none
  | p :: ks, k => if p.1 = k then some p.2 else getD ks k
theorem putK_cons (p : Key × V) (vs : List (Key × V)) (k : Key) (v : V) : putK (p :: vs) k v = if p.1 = k then (p.1, v) :: vs.map (fun q => if q.1 = k then (q.1, v) else q) else p :: putK vs k v := by
  unfold putK
  by_cases e : p.1 = k
  · simp [e]
  · simp only [List.any_cons, decide_eq_false e, Bool.false_or, List.map_cons, if_neg e, List.cons_append]
    split <;> rfl
section
variable {K : PySem.W.Frag} {p : Addr} {H : Hp}
theorem DqKV.repl {k : Key} {v : V} {d : PyData} (h : Dq K p H v d) : ∀ {vs : List (Key × V)} {ks : List (Key × PyData)}, DqKV K p H vs ks → DqKV K p H (vs.map fun q => if q.1 = k then (q.1, v) else q) (ks.map fun q => if q.1 = k then (q.1, d) else q)
  | _, _, .nil => .nil
  | _, _, .cons (k := j) a b => by
    rw [List.map_cons, List.map_cons]
    by_cases e : j = k
    · rw [if_pos e, if_pos e]
      exact .cons h (DqKV.repl h b)
    · rw [if_neg e, if_neg e]
      exact .cons a (DqKV.repl h b)
theorem DqKV.put {k : Key} {v : V} {d : PyData} (h : Dq K p H v d) : ∀ {vs : List (Key × V)} {ks : List (Key × PyData)}, DqKV K p H vs ks → DqKV K p H (putK vs k v) (putD ks k d)
  | _, _, .nil => by
    show DqKV K p H [(k, v)] [(k, d)]
    exact .cons h .nil
  | _, _, .cons (k := j) a b => by
    rw [putK_cons]
    unfold putD
    by_cases e : j = k
    · rw [if_pos e, if_pos e]
      exact .cons h (DqKV.repl h b)
    · rw [if_neg e, if_neg e]
      exact .cons a (DqKV.put h b)
theorem DqKV.length : ∀ {vs : List (Key × V)} {ks : List (Key × PyData)}, DqKV K p H vs ks → vs.length = ks.length
  | _, _, .nil => rfl
  | _, _, .cons _ b => by rw [List.length_cons, List.length_cons, b.length]
theorem DqKV.get {k : Key} {d : PyData} : ∀ {vs : List (Key × V)} {ks : List (Key × PyData)}, DqKV K p H vs ks → getD ks k = some d → ∃ v, valV vs k = some v ∧ Dq K p H v d
  | _, _, .nil, h => nomatch h
  | _, _, .cons (k := j) (v := v) (d := d') a b, h => by
    unfold getD at h
    by_cases e : j = k
    · rw [if_pos e] at h
      cases h
      exact ⟨v, valV_pos e, a⟩
    · rw [if_neg e] at h
      obtain ⟨w, h1, h2⟩ := b.get h
      exact ⟨w, by rw [valV_neg e]; exact h1, h2⟩
theorem Dq.key {k : Key} {v : V} (h : Dq K p H v (keyD k)) : v = kV k := by
  cases k with
  | inl i => exact h.int'
  | inr z => exact h.str'
end
/-! ### slots with a dict -/
section
variable {K : PySem.W.Frag} {F : Fx} {O : Addr → Bool} {σ : St} {H H' : Hp} {ρ : List Cell} {n n' : Nat} {q : Addr}
theorem Rel.dctAt {i : Nat} {ks : List (Key × PyData)} (R : Rel K F O σ H ρ n) (h : ρ[i]? = some (.dct ks)) : ∃ q vs, σ[i]? = some (some (.ref q)) ∧ O q = true ∧ Own F n q ∧ H q = some (.dK vs) ∧ DqKV K F.g.p (hid O H) vs ks := by
  obtain ⟨x, h1, q, vs, rfl, h2, h3, h4, h5⟩ := R.cel i _ h
  exact ⟨q, vs, h1, h2, h3, h4, h5⟩
/-- a slot takes a dict that no slot owns -/
theorem Rel.takeDct (R : Rel K F O σ H ρ n) {us : List (Key × V)} {ds : List (Key × PyData)} (oq : O q = true) (uq : Own F n q) (off : Off σ ρ q) (hl : H q = some (.dK us)) (hd : DqKV K F.g.p (hid O H) us ds) (i : Nat) :
    Rel K F O (σ.set i (some (.ref q))) H (ρ.set i (.dct ds)) n := by
  refine ⟨R.rw, by rw [List.length_set, List.length_set]; exact R.len, fun j c hj => ?_, fun j k c c' p hj hk o1 o2 s1 s2 => ?_⟩
  · by_cases z : i = j
    · subst z
      have hi : i < ρ.length := by
        have := (List.getElem?_eq_some_iff.mp hj).1
        rwa [List.length_set] at this
      rw [List.getElem?_set_self hi] at hj
      cases hj
      exact ⟨some (.ref q), by rw [List.getElem?_set_self (by rw [R.len]; exact hi)], q, us, rfl, oq, uq, hl, hd⟩
    · rw [List.getElem?_set_ne z] at hj ⊢
      exact R.cel j c hj
  · have key : ∀ {m : Nat} {c : Cell}, i ≠ m → (ρ.set i (.dct ds))[m]? = some c → c.isOwn = true → (σ.set i (some (.ref q)))[m]? = some (some (.ref p)) → p ≠ q := by
      intro m c hm hc ho hs z
      rw [List.getElem?_set_ne hm] at hc hs
      exact off m c hc ho (by rw [hs, z])
    by_cases z1 : i = j
    · by_cases z2 : i = k
      · omega
      · exfalso
        subst z1
        have hi : i < σ.length := by
          have := (List.getElem?_eq_some_iff.mp s1).1
          rwa [List.length_set] at this
        rw [List.getElem?_set_self hi] at s1
        cases s1
        exact key z2 hk o2 s2 rfl
    · by_cases z2 : i = k
      · exfalso
        subst z2
        have hi : i < σ.length := by
          have := (List.getElem?_eq_some_iff.mp s2).1
          rwa [List.length_set] at this
        rw [List.getElem?_set_self hi] at s2
        cases s2
        exact key z1 hj o1 s1 rfl
      · rw [List.getElem?_set_ne z1] at hj s1
        rw [List.getElem?_set_ne z2] at hk s2
        exact R.uniq j k c c' p hj hk o1 o2 s1 s2
/-- a new thing is owned, though no slot holds it -/
theorem Rel.keepAny {O' : Addr → Bool} (R : Rel K F O σ H ρ n) {o : HO} (hq : NewH H O' n' q) (e : Ext F.g O O' H H' n n') (hl : H' q = some o) : Rel K F O' σ H' ρ n' := R.ext e
end
/-! ### new dicts -/
abbrev TMD := List Cell → Nat → (List (Key × PyData) → Nat → Prop) → XD → Prop
def liftM (K : PySem.W.Frag) (E : XK) (T : TMD) : TE := fun σ H Q => ∃ F O ρ n Qd Xd, Rel K F O σ H ρ n ∧ T ρ n Qd Xd ∧
  (∀ {O' : Addr → Bool}, ∀ ks n' q us H', Qd ks n' → NewH H O' n' q → Ext F.g O O' H H' n n' → H' q = some (.dK us) → DqKV K F.g.p (hid O' H') us ks → Q (.ref q) H') ∧ MX K F.g O H n Xd E
abbrev DM (E : XK) (X : Cx) (e : Expr) (T : TMD) : Prop := PE X e (liftM X.K E T)
section
variable {X : Cx} {E : XK} {a b c e e2 : Expr} {es : List Expr} {Ta Tb Tc Te : TD} {pos : Pos} {st : Stmt} {x : Str} {p : Pos} {i : Nat}
def dM0 : TMD := fun _ n Q _ => Q [] n
def dM1 (Ta Tb : TD) : TMD := fun ρ n Q X => Ta ρ n (fun k n1 => Tb ρ n1 (fun d n2 => ∃ kk, k = keyD kk ∧ Q [(kk, d)] n2) X0) X0
/-- d, l = {..}, [..] -/
def dParDF (i j : Nat) (S : TMD) (T : TAD) : TSD := fun e ρ n => S ρ n (fun ks n1 => T ρ n1 (fun es n2 => e.nx ((ρ.set i (.dct ks)).set j (.own es)) n2) X0) e.ex
/-- d, x = {..}, e -/
def dParDV (i j : Nat) (S : TMD) (Tb : TD) : TSD := fun e ρ n => S ρ n (fun ks n1 => Tb ρ n1 (fun y n2 => e.nx ((ρ.set i (.dct ks)).set j (.d y)) n2) X0) e.ex
/-- d = {..} -/
def dMk (i : Nat) (S : TMD) : TSD := fun e ρ n => S ρ n (fun ks n1 => e.nx (ρ.set i (.dct ks)) n1) e.ex
theorem ds_mk {i : Nat} {x : Str} {pos' : Pos} {S : TMD} (hN : X.N.Nodup) (hi : X.N[i]? = some x) (hx : Loc X.env.scope x) (he : DM E X e S) (hs : swapsWith e (some (.Name x pos')) pos.line X.env = pure false := by rfl) (hf : X.fn x = true ∨ X.env.scope.names.lookup x = some .local := by first | exact .inl rfl | exact .inr rfl | assumption) :
    DS E X (.Assign [.Name x pos'] e pos) (dMk i S) := ps_weak (ps_set hN hi hx he hs hf) fun D σ H ⟨F, O, ρ, n, e, R, t, m⟩ => by
  refine ⟨F, _, ρ, n, _, e.ex, R, t, fun ds n1 q us H1 q1 hq e1 hl hd => ?_, m.mx R.rw⟩
  have R1 := R.keepAny hq e1 hl
  exact m.nx _ _ H1 _ n1 (R1.takeDct hq.2.1 (R.rw.Un hq) (R.off hq.1) hl hd i) q1
/-- d[e] -/
def dGet (i : Nat) (T : TD) : TD := fun ρ n Q X => ∃ ks, ρ[i]? = some (.dct ks) ∧ T ρ n (fun k n1 => ∃ kk d, k = keyD kk ∧ getD ks kk = some d ∧ Q d n1) X
/-- d[e] = v -/
def dDPut (i : Nat) (T Ti : TD) : TSD := fun e ρ n => ∃ ks, ρ[i]? = some (.dct ks) ∧ T ρ n (fun d n1 => Ti ρ n1 (fun k n2 => ∃ kk, k = keyD kk ∧ ks.length < 1000000 ∧ e.nx (ρ.set i (.dct (putD ks kk d))) n2) e.ex) e.ex
end
section
variable {ρ : List Cell} {n : Nat} {i j : Nat} {e : DEnds}
theorem x_dget {T : TD} {Q : PQ} {X : XD} {ks : List (Key × PyData)} (h0 : ρ[i]? = some (.dct ks)) (h : T ρ n (fun k n1 => ∃ kk d, k = keyD kk ∧ getD ks kk = some d ∧ Q d n1) X) : dGet i T ρ n Q X := ⟨ks, h0, h⟩
theorem x_dput {T Ti : TD} {ks : List (Key × PyData)} (h0 : ρ[i]? = some (.dct ks)) (h : T ρ n (fun d n1 => Ti ρ n1 (fun k n2 => ∃ kk, k = keyD kk ∧ ks.length < 1000000 ∧ e.nx (ρ.set i (.dct (putD ks kk d))) n2) e.ex) e.ex) : dDPut i T Ti e ρ n := ⟨ks, h0, h⟩
theorem x_parDF {S : TMD} {T : TAD} (h : S ρ n (fun ks n1 => T ρ n1 (fun es n2 => e.nx ((ρ.set i (.dct ks)).set j (.own es)) n2) X0) e.ex) : dParDF i j S T e ρ n := h
theorem x_parDV {S : TMD} {T : TD} (h : S ρ n (fun ks n1 => T ρ n1 (fun y n2 => e.nx ((ρ.set i (.dct ks)).set j (.d y)) n2) X0) e.ex) : dParDV i j S T e ρ n := h
theorem x_mk {S : TMD} (h : S ρ n (fun ks n1 => e.nx (ρ.set i (.dct ks)) n1) e.ex) : dMk i S e ρ n := h
theorem x_dm0 {Q : List (Key × PyData) → Nat → Prop} {X : XD} (h : Q [] n) : dM0 ρ n Q X := h
theorem x_dm1 {Ta Tb : TD} {Q : List (Key × PyData) → Nat → Prop} {X : XD} (h : Ta ρ n (fun k n1 => Tb ρ n1 (fun d n2 => ∃ kk, k = keyD kk ∧ Q [(kk, d)] n2) X0) X0) : dM1 Ta Tb ρ n Q X := h
theorem x_keyI {i : Int} {P : Key → Prop} (h : P (.inl i)) : ∃ kk, PyData.int i = keyD kk ∧ P kk := ⟨_, rfl, h⟩
end
end Kd
namespace Kd
open PySem PySem.Spec PyProof.Rows L2 Kb Km
/-! ### sorted pairs of words -/
/-! ### the words of an order, sorted by their rows -/
end Kd
/-! a class without own __init__ raised with nothing; a def with a star parameter that raises -/
namespace Kd
open PySem PySem.Spec PyProof.Rows L2 Kb Km StX
/-- a class of the text over a built-in one, without own __init__ -/
def ExPl (K : PySem.W.Frag) (C : Addr) : Prop := ∃ B newId initId bmB, ExcBaseFacts B newId initId bmB ∧ PySem.W.excIn K C bmB newId = true
section
variable {X : Cx} {E : XK} {pos : Pos}
/-- C(): a new exception without a field -/
theorem pmk_ex0 {C : Addr} {x : Str} {p : Pos} (q : ExPl X.K C) (T : ExA X.K C) (gC : X.mg x = some (.ref C)) (hg : Gl X x)
    (hdb : (x == ("__debug__" : Str)) = false := by decide) : L2N.PMk X (.Call (.Name x p) [] [] pos) (fun _ H Q => Q (.ref C) none H) := by
  intro pins s σ H Q I h
  obtain ⟨_, _, _, _, T⟩ := T
  obtain ⟨B, newId, initId, bmB, F, q⟩ := q
  refine wpAny_Call_Name_kw (ld_glob I hg gC ?_ hdb)
  refine PySem.W.callWith_K0 (first := []) I.kIn T.kC ?_
  show wpAny _ _ (call (.ref C) []) _ _ _
  obtain ⟨bm, N, nm, qn, bs, hdct, sn, sub, ab, col, dd, k0, k1, k2, k3, k5, mN, hC, hN, hni, TT⟩ := exc_obj I.kIn q
  refine wpAny_call_exc_subT F TT hC hN hni (fun h' e hm => ?_) (by show 0 ≤ sizeLine; omega)
  exact L2N.mk_of I hm (raises_own T.exC T.tyC) h (I.hok.gone hm.new)
def dRaise0 (C : Addr) : TSD := fun e _ n => e.ex (.ref C) [] n
theorem ds_raise0 {x : Expr} {C : Addr} (hc : X.calm = true) (tk : TkE X E) (mk : L2N.PMk X x (fun _ H Q => Q (.ref C) none H)) : DS E X (.Raise (some x) none pos) (dRaise0 C) :=
  ps_weak (L2N.ps_raise hc tk mk) fun D σ H ⟨F, O, ρ, n, e, R, t, m⟩ => m.ex O H n _ _ _ R.rw rfl t
end
theorem x_raise0 {C : Addr} {e : DEnds} {ρ : List Cell} {n : Nat} (h : e.ex (.ref C) [] n) : dRaise0 C e ρ n := h
end Kd
/-! a new dict and a value, names that are cells -/
namespace Kd
open PySem PySem.Spec PyProof.Rows L2 Kb Km
end Kd
/-! texts: f"const {text}", text.split(" "), " ".join(words), int(text), str(number) -/
namespace Kd
open PySem PySem.Spec PyProof.Rows L2 Kb Km
section
variable {X : Cx} {E : XK} {e : Expr} {Te : TD} {pos p1 p2 : Pos}
/-- f"a{e}": e is a text -/
def dFs (a : Str) (T : TD) : TD := fun ρ n Q X => T ρ n (fun d n1 => ∃ z : Str, d = .str z ∧ a.length + z.length ≤ 1000000 ∧ Q (.str (a ++ z)) n1) X
theorem de_fs {a : Str} {j} (he : DE E X e Te) (ha : a.length ≤ sizeLine := by decide +kernel) : DE E X (.JoinedStr [.Constant (.str a) j p1, .FormattedValue e (-1) none p2] pos) (dFs a Te) :=
  pe_weak (pe_joined (.cons pe_str (.cons (pe_fmt he) .nil))) fun σ H Q ⟨F, O, ρ, n, Qd, Xd, R, t, mq, mx⟩ => by
    refine ⟨a, rfl, ?_, F, _, ρ, n, _, Xd, R, t, fun d n1 v H1 ⟨z, ed, hl, q⟩ e1 d1 => ?_, mx⟩
    · rw [Str.length_append]
      show 0 + a.length ≤ _
      omega
    subst ed
    have hz : (Str.empty ++ a ++ z).length ≤ sizeLine := by
      rw [Str.length_append, Str.length_append]
      exact Nat.le_trans (show 0 + a.length + z.length ≤ 1000000 by omega) (by decide)
    have he : Str.empty ++ a ++ z = a ++ z := by
      apply Str.ext'
      apply Array.toList_inj.mp
      rw [cps_toList_append, cps_toList_append, cps_toList_append]
      rfl
    refine .inl ⟨z, d1.str', Nat.le_trans (show z.length ≤ 1000000 by omega) (by decide), z, rfl, hz, ?_⟩
    show Q (.str (Str.empty ++ a ++ z)) H1
    rw [he] at hz ⊢
    exact mq _ n1 _ H1 q e1 (.str _ hz)
/-- text.split(sep) -/
def rSplit : RDM
  | .str a, [.str b], Q => (b.length == 0) = false ∧ a.length ≤ 1000000 ∧ Q (.list ((Txt.split a b).map .str))
  | _, _, _ => False
theorem len_in {a : Str} : ∀ {ys : List Str}, a ∈ ys → a.length ≤ (ys.map (·.length)).sum
  | y :: ys, h => by
    rw [List.map_cons, List.sum_cons]
    rcases List.mem_cons.mp h with rfl | h
    · omega
    · have := len_in h
      omega
theorem mg_split : MtG X "str.split" rSplit := ⟨_, mt_split, fun g O H n x xs v vs Qd Q w d1 d2 q k => by
  unfold rSplit at q
  split at q
  · rename_i a b
    obtain ⟨hb, hl, q⟩ := q
    obtain ⟨u, rfl, d2x⟩ := d2.one
    refine ⟨a, b, d1.str', by rw [d2x.str'], hb, Nat.le_trans (show _ ≤ 1000002 by omega) (by decide), fun p hp => ?_⟩
    have hbl : 1 ≤ b.length := by
      cases z : b.length with
      | zero => rw [z] at hb; cases hb
      | succ m => omega
    have wt := split_weight a b hbl
    refine k _ _ _ q (w.new hp _) (.lst (hid_new (w.fresh hp)) (dq_strs fun z hz => ?_))
    have := len_in hz
    exact Nat.le_trans (show z.length ≤ 1000001 by omega) (by decide)
  · exact q.elim⟩
/-- int(text) -/
def rIntS : RDN
  | [.str a], Q => ∃ i, PySem.intText? a = some i ∧ a.length ≤ 640 ∧ Q (.int i)
  | _, _ => False
theorem cg_intS : CallG X (.type "int") rIntS := cg_of call_int_str fun g O H n xs vs Qd Q w d q k => by
  unfold rIntS at q
  split at q
  · obtain ⟨i, hi, hl, q⟩ := q
    obtain ⟨v, rfl, h⟩ := d.one
    exact ⟨_, i, by rw [h.str'], hi, hl, k _ _ H q w.refl (.int _)⟩
  · exact q.elim
end
section
variable {ρ : List Cell} {n : Nat}
theorem x_fs {a : Str} {T : TD} {Q : PQ} {X : XD} (h : T ρ n (fun d n1 => ∃ z : Str, d = .str z ∧ a.length + z.length ≤ 1000000 ∧ Q (.str (a ++ z)) n1) X) : dFs a T ρ n Q X := h
end
/-! ### words with blanks between -/
def joinB : List (List Nat) → List Nat
  | [] => []
  | [x] => x
  | x :: y :: r => x ++ 32 :: joinB (y :: r)
def splW (L : List Nat) : List (List Nat) := (Txt.split ⟨L.toArray⟩ ⟨#[32]⟩).map fun z => z.cps.toList
theorem w_of (z : Str) : PyData.str z = W z.cps.toList := by obtain ⟨⟨l⟩⟩ := z; rfl
theorem join_B : ∀ Ls : List (List Nat), (Str.join ⟨#[32]⟩ (Ls.map fun L => (⟨L.toArray⟩ : Str))).cps.toList = joinB Ls
  | [] => rfl
  | [x] => by
    show (⟨x.toArray⟩ : Str).cps.toList = x
    exact List.toList_toArray
  | x :: y :: r => by
    rw [List.map_cons, List.map_cons, PyProof.Rows.join_cons_cons, cps_toList_append, cps_toList_append]
    have := join_B (y :: r)
    rw [List.map_cons] at this
    rw [this]
    show x.toArray.toList ++ [32] ++ _ = x ++ 32 :: joinB (y :: r)
    rw [List.toList_toArray, List.append_assoc]
    rfl
theorem back_str (L : List Nat) : (⟨L.toArray⟩ : Str).cps.toList = L := List.toList_toArray
theorem spl_map (L : List Nat) : (splW L).map (fun M => (⟨M.toArray⟩ : Str)) = Txt.split ⟨L.toArray⟩ ⟨#[32]⟩ := by
  unfold splW
  rw [List.map_map]
  conv => rhs; rw [← List.map_id (Txt.split ⟨L.toArray⟩ ⟨#[32]⟩)]
  refine List.map_congr_left fun z _ => ?_
  obtain ⟨⟨l⟩⟩ := z
  rfl
theorem spl_data (L : List Nat) : (Txt.split ⟨L.toArray⟩ ⟨#[32]⟩).map PyData.str = (splW L).map W := by
  rw [← spl_map, List.map_map]
  rfl
theorem joinB_spl (L : List Nat) : joinB (splW L) = L := by
  rw [← join_B, spl_map, PySem.StrLaws.join_split, back_str]
theorem spl_free {L M : List Nat} (h : M ∈ splW L) : 32 ∉ M := by
  obtain ⟨z, hz, rfl⟩ := List.mem_map.mp h
  exact PySem.StrLaws.split_free _ 32 z hz
theorem spl_ne (L : List Nat) : splW L ≠ [] := fun e => by
  have := split_pos ⟨L.toArray⟩ ⟨#[32]⟩
  have h : (splW L).length = (Txt.split ⟨L.toArray⟩ ⟨#[32]⟩).length := List.length_map ..
  rw [e] at h
  rw [← h] at this
  exact absurd this (by decide)
theorem joinB_inj : ∀ {A B : List (List Nat)}, A ≠ [] → B ≠ [] → (∀ M ∈ A, 32 ∉ M) → (∀ M ∈ B, 32 ∉ M) → joinB A = joinB B → A = B := by
  have cut : ∀ {x y r s : List Nat}, 32 ∉ x → 32 ∉ y → x ++ 32 :: r = y ++ 32 :: s → x = y ∧ r = s := fun {x y r s} hx hy h => by
    obtain ⟨e1, e2⟩ := split_free (D := fun c => c == 32) (a := 32) (b := 32) rfl rfl (fun c hc => by cases z : (c == 32) with | false => rfl | true => rw [eq_of_beq z] at hc; exact absurd hc hx) (fun c hc => by cases z : (c == 32) with | false => rfl | true => rw [eq_of_beq z] at hc; exact absurd hc hy) h
    injection e2 with _ e2
    exact ⟨e1, e2⟩
  intro A
  induction A with
  | nil => intro B h; exact absurd rfl h
  | cons x A ih =>
    intro B _ hB fA fB h
    cases B with
    | nil => exact absurd rfl hB
    | cons y B =>
      have fx := fA x List.mem_cons_self
      have fy := fB y List.mem_cons_self
      cases A with
      | nil =>
        cases B with
        | nil => rw [show x = y from h]
        | cons y' B =>
          exfalso
          have h : x = y ++ 32 :: joinB (y' :: B) := h
          exact fx (by rw [h]; exact List.mem_append_right _ List.mem_cons_self)
      | cons x' A =>
        cases B with
        | nil =>
          exfalso
          have h : x ++ 32 :: joinB (x' :: A) = y := h
          exact fy (by rw [← h]; exact List.mem_append_right _ List.mem_cons_self)
        | cons y' B =>
          obtain ⟨e1, e2⟩ := cut fx fy (show x ++ 32 :: joinB (x' :: A) = y ++ 32 :: joinB (y' :: B) from h)
          rw [e1, ih (by simp) (by simp) (fun M hM => fA M (List.mem_cons_of_mem _ hM)) (fun M hM => fB M (List.mem_cons_of_mem _ hM)) e2]
theorem spl_joinB {Ls : List (List Nat)} (h0 : Ls ≠ []) (h : ∀ M ∈ Ls, 32 ∉ M) : splW (joinB Ls) = Ls := joinB_inj (spl_ne _) h0 (fun M hM => spl_free hM) h (joinB_spl _)
theorem joinB_len : ∀ Ls : List (List Nat), (joinB Ls).length + 1 ≤ Ls.flatten.length + Ls.length + 1
  | [] => by show 0 + 1 ≤ 0 + 0 + 1; omega
  | [x] => by show x.length + 1 ≤ (x ++ []).length + 1 + 1; rw [List.append_nil]; omega
  | x :: y :: r => by
    have := joinB_len (y :: r)
    show (x ++ 32 :: joinB (y :: r)).length + 1 ≤ _
    rw [List.length_append, List.length_cons, List.flatten_cons, List.length_append, List.length_cons]
    omega
theorem joinB_mem : ∀ {Ls : List (List Nat)} {c : Nat}, c ∈ joinB Ls → c = 32 ∨ ∃ M ∈ Ls, c ∈ M
  | [], c, h => nomatch h
  | [x], c, h => .inr ⟨x, List.mem_cons_self, h⟩
  | x :: y :: r, c, h => by
    rcases List.mem_append.mp (show c ∈ x ++ 32 :: joinB (y :: r) from h) with h | h
    · exact .inr ⟨x, List.mem_cons_self, h⟩
    · rcases List.mem_cons.mp h with h | h
      · exact .inl h
      · rcases joinB_mem h with h | ⟨M, hM, hc⟩
        · exact .inl h
        · exact .inr ⟨M, List.mem_cons_of_mem _ hM, hc⟩
theorem spl_sum (L : List Nat) : (splW L).flatten.length + (splW L).length ≤ L.length + 1 := by
  have := split_weight ⟨L.toArray⟩ ⟨#[32]⟩ (Nat.le_refl 1)
  have e : (splW L).flatten.length = ((Txt.split ⟨L.toArray⟩ ⟨#[32]⟩).map (·.length)).sum := by
    unfold splW
    rw [List.length_flatten, List.map_map]
    congr 1
  have e2 : (splW L).length = (Txt.split ⟨L.toArray⟩ ⟨#[32]⟩).length := List.length_map ..
  have e3 : (⟨L.toArray⟩ : Str).length = L.length := List.size_toArray ..
  omega
theorem spl_len (L : List Nat) {M : List Nat} (h : M ∈ splW L) : M.length ≤ L.length := by
  have := spl_sum L
  have h2 := (List.sublist_flatten_of_mem h).length_le
  have h3 := List.length_pos_of_mem h
  omega
theorem x_splitB {P : PyData → Prop} {L : List Nat} (hl : L.length ≤ 100000) (h : P (.list ((splW L).map W))) : rSplit (W L) [.str (Str.ofString " ")] P := by
  refine ⟨by decide +kernel, ?_, ?_⟩
  · show L.toArray.size ≤ _
    rw [List.size_toArray]; omega
  · rw [show (Str.ofString " ") = ⟨#[32]⟩ by decide +kernel, spl_data]
    exact h
theorem x_joinB {P : PyData → Prop} {Ls : List (List Nat)} (hl : Ls.flatten.length + Ls.length ≤ 1000000) (h : P (W (joinB Ls))) : rJoin (.str (Str.ofString " ")) [.list (Ls.map W)] P := by
  refine ⟨Ls.map fun L => (⟨L.toArray⟩ : Str), by rw [List.map_map]; rfl, ?_, ?_⟩
  · rw [sum_len, List.length_map, show (Str.ofString " ").length = 1 by decide +kernel]
    omega
  · have e : Txt.join (Str.ofString " ") (Ls.map fun L => (⟨L.toArray⟩ : Str)) = ⟨(joinB Ls).toArray⟩ := by
      unfold Txt.join
      rw [PySem.StrLaws.glued_eq_join, show (Str.ofString " ") = ⟨#[32]⟩ by decide +kernel]
      apply Str.ext'
      apply Array.toList_inj.mp
      rw [join_B]
    rw [e]
    exact h
/-! ### numbers as texts -/
def numW (k : Nat) : List Nat := (toString (k : Int)).toList.map Char.toNat
theorem num_data (k : Nat) : PyData.str (toString (k : Int)) = W (numW k) := by
  rw [w_of, signs_ofString]
  rfl
def numsOk (k : Nat) : Bool := (numW k).all (fun c => decide (48 ≤ c ∧ c ≤ 57)) && decide (0 < (numW k).length ∧ (numW k).length ≤ 3) && decide (PySem.intText? ⟨(numW k).toArray⟩ = some (k : Int))
theorem nums_ok : ∀ k ∈ List.range 101, numsOk k = true := by decide +kernel
theorem num_ok {k : Nat} (h : k ≤ 100) : (∀ c ∈ numW k, 48 ≤ c ∧ c ≤ 57) ∧ 0 < (numW k).length ∧ (numW k).length ≤ 3 ∧ PySem.intText? ⟨(numW k).toArray⟩ = some (k : Int) := by
  have := nums_ok k (List.mem_range.mpr (by omega))
  unfold numsOk at this
  rw [Bool.and_eq_true, Bool.and_eq_true, List.all_eq_true, decide_eq_true_iff, decide_eq_true_iff] at this
  exact ⟨fun c hc => of_decide_eq_true (this.1.1 c hc), this.1.2.1, this.1.2.2, this.2⟩
theorem x_strN {P : PyData → Prop} {k : Nat} (h : k ≤ 100) (q : P (W (numW k))) : rStrOf [.int (k : Nat)] P := by
  have s := (Sm.int (i := (k : Nat)) (k := 3) (by decide) (by omega) (by decide)).sh
  simp only [PyData.showable, decide_eq_true_eq] at s
  refine ⟨s, Nat.le_trans (int_text_length_le10 (k := 3) (by decide) (by omega)) (by decide), ?_⟩
  rw [num_data]
  exact q
theorem num_inj {a b : Nat} (ha : a ≤ 100) (hb : b ≤ 100) (h : numW a = numW b) : a = b := by
  have h1 := (num_ok ha).2.2.2
  have h2 := (num_ok hb).2.2.2
  rw [h, h2] at h1
  injection h1 with h1
  omega
end Kd
/-! text or other -/
namespace Kd
open PySem PySem.Spec PyProof.Rows L2 Kb Km
section
variable {X : Cx} {E : XK} {a b : Expr} {rest : List Expr} {Ta Tb : TD} {pos : Pos}
def dOrS (Ta Tb : TD) : TD := fun ρ n Q X => Ta ρ n (fun x n1 => ∃ z : Str, x = .str z ∧ if ((z.length : Int) != 0) = true then Q (.str z) n1 else Tb ρ n1 Q X) X
theorem x_orS {ρ : List Cell} {n : Nat} {Q : PQ} {Z : XD} (h : Ta ρ n (fun x n1 => ∃ z : Str, x = .str z ∧ if ((z.length : Int) != 0) = true then Q (.str z) n1 else Tb ρ n1 Q Z) Z) : dOrS Ta Tb ρ n Q Z := h
end
end Kd
/-! except (A, B, C) as n: all that the body raises is of them -/
namespace Kd
open PySem PySem.Spec PyProof.Rows L2 Kb Km
section
variable {X : Cx} {E : XK} {pos : Pos}
def dTryT (m i : Nat) (C : Addr) (Tb : TSD) (T : Addr → Option Addr → TSD) : TSD := fun e ρ n => Tb { e with ex := fun cls fs n1 => cls = .ref C ∧ ∀ a d, T a d { nx := fun ρ n => e.nx (ρ.set i .no) n, rt := e.rt, bk := fun ρ n => e.bk (ρ.set i .no) n, ct := fun ρ n => e.ct (ρ.set i .no) n, ex := X0 } ((List.replicate m .no).set i (.x a d fs none)) n1 } ρ n
end
section
variable {ρ : List Cell} {n m i : Nat} {e : DEnds} {C : Addr} {Tb : TSD} {T : Addr → Option Addr → TSD}
theorem x_tryT (h : Tb { e with ex := fun cls fs n1 => cls = .ref C ∧ ∀ a d, T a d { nx := fun ρ n => e.nx (ρ.set i .no) n, rt := e.rt, bk := fun ρ n => e.bk (ρ.set i .no) n, ct := fun ρ n => e.ct (ρ.set i .no) n, ex := X0 } ((List.replicate m .no).set i (.x a d fs none)) n1 } ρ n) : dTryT m i C Tb T e ρ n := h
end
end Kd
namespace Kd
open PySem PySem.Spec PyProof.Rows L2 Kb Km
end Kd
/-! the index of True in a list of truth values -/
namespace Kd
open PySem PySem.Spec PyProof.Rows L2 Kb Km
end Kd
/-! texts of numbers, longer words shown -/
namespace Kd
open PySem PySem.Spec PyProof.Rows L2 Kb Km
theorem nums_flat : ∀ {r : List Nat}, (∀ p ∈ r, p ≤ 100) → (r.map numW).flatten.length ≤ 3 * r.length
  | [], _ => Nat.le_refl _
  | p :: r, h => by
    have h1 := nums_flat (r := r) fun q hq => h q (List.mem_cons_of_mem _ hq)
    have h2 := (num_ok (h p List.mem_cons_self)).2.2.1
    rw [List.map_cons, List.flatten_cons, List.length_append, List.length_cons]
    omega
theorem W_inj {A B : List Nat} (e : W A = W B) : A = B := by
  unfold W at e
  injection e with e
  injection e with e
  simpa using e
end Kd
/-! a value and a new list in one assignment -/
namespace Kd
open PySem PySem.Spec PyProof.Rows L2 Kb Km
section
variable {X : Cx} {E : XK} {a b : Expr} {Ta : TD} {pos : Pos}
def dParVF (i j : Nat) (Ta : TD) (S : TAD) : TSD := fun e ρ n => Ta ρ n (fun x n1 => S ρ n1 (fun ds n2 => e.nx ((ρ.set i (.d x)).set j (.own ds)) n2) e.ex) e.ex
theorem x_parVF {i j : Nat} {S : TAD} {e : DEnds} {ρ : List Cell} {n : Nat} (h : Ta ρ n (fun x n1 => S ρ n1 (fun ds n2 => e.nx ((ρ.set i (.d x)).set j (.own ds)) n2) e.ex) e.ex) : dParVF i j Ta S e ρ n := h
end
end Kd
/-! objects that change -/
namespace Kd
open PySem PySem.Spec PyProof.Rows L2 Kb Km
theorem dom_of {n : Nat} {a : Addr} {x : Kw.Ob} (h : Kw.ob n a = some x) : Kw.dom n a = true := by unfold Kw.dom; rw [h]; rfl
section
variable {K : PySem.W.Frag} {g : G} {O O' : Addr → Bool} {H H' : Hp} {n n' : Nat} {a dx C : Addr}
theorem WOk.apart (w : WOk g O H n) {x : Kw.Ob} (h : Kw.ob n a = some x) : a ≠ g.p ∧ a ≠ g.b ∧ a ≠ g.c := by
  refine ⟨fun e => ?_, fun e => ?_, fun e => ?_⟩
  · have := w.np; rw [← e, dom_of h] at this; cases this
  · have := w.nb; rw [← e, dom_of h] at this; cases this
  · have := w.nc; rw [← e, dom_of h] at this; cases this
/-- an instance's attributes change -/
theorem Wd.write (w : Wd g O H n) {fs fs' : List (Str × PyData)} {xs xs' : List (Str × V)} (h : Kw.ob n a = some (.ins C dx fs)) (hH : H a = some (.ins C dx xs)) (hx : XF K g.p (hid O H) xs' fs') (hn : ∀ p ∈ fs', nl p.2 = true) :
    Ext g O O H (upd H a (.ins C dx xs')) n (Kw.put n a (.ins C dx fs')) := by
  obtain ⟨oa, _, hd, _⟩ := w.wok.obj a _ h
  obtain ⟨ap, ab, ac⟩ := w.wok.apart h
  have nd : ∀ b, b ≠ a → Kw.dom (Kw.put n a (.ins C dx fs')) b = Kw.dom n b := fun b e => by rw [Kw.dom_put]; simp [e]
  have dk : ∀ d b, Kw.ob n d = some (.dd b) → Kw.ob (Kw.put n a (.ins C dx fs')) d = some (.dd b) := fun d b e => by
    have : d ≠ a := fun z => by rw [z, h] at e; cases e
    rw [Kw.ob_put_ne _ this]; exact e
  have hp := hid_poke (H := H) oa (.ins C dx xs')
  refine ⟨fun _ z => z, fun _ z => .inl z, fun b o h1 h2 => ?_, fun b h1 _ _ h4 => ?_, fun b h1 => ?_, w.trk, fun b hb => ?_, ⟨?_, ?_, ?_, ?_, fun b x e => ?_⟩⟩
  · have : b ≠ a := fun z => by rw [z, oa] at h1; cases h1
    rw [upd_ne this]; exact h2
  · have : b ≠ a := fun z => by rw [z, dom_of h] at h4; cases h4
    rw [upd_ne this]
  · by_cases e : b = a
    · rw [e]; exact .inl (dom_of h)
    · rw [nd b e] at h1; exact .inl h1
  · by_cases e : b = a
    · rw [e, upd_same]; exact fun z => nomatch z
    · rw [upd_ne e]; exact w.trk b hb
  · rw [Kw.wt_put]; exact w.wok.stm.upd ⟨ap, ab, ac⟩
  · rw [nd _ ap.symm]; exact w.wok.np
  · rw [nd _ ab.symm]; exact w.wok.nb
  · rw [nd _ ac.symm]; exact w.wok.nc
  · by_cases z : b = a
    · subst z
      rw [Kw.ob_put] at e
      cases e
      exact ⟨oa, ⟨xs', upd_same, fun K' => by rw [hp]; exact hx.any⟩, dk _ _ hd, hn⟩
    · rw [Kw.ob_put_ne _ z] at e
      exact (w.wok.obj b x e).keep id (upd_ne z) (by rw [hp]; exact fun _ _ q => q) dk
/-- a new instance -/
theorem Wd.newI (w : Wd g O H n) (h : H a = none) (hd : H dx = none) (ne : dx ≠ a) : Ext g O (addO (addO O dx) a) H (upd (upd H dx (.own a)) a (.ins C dx [])) n (Kw.put (Kw.put n dx (.dd a)) a (.ins C dx [])) := by
  have e1 := Ext.push w hd (.own a)
  have ha : upd H dx (.own a) a = none := by rw [upd_ne ne.symm]; exact h
  have e2 := Ext.push (w.ext e1) ha (.ins C dx [])
  have e := e1.trans e2
  have ob0 : ∀ b, H b = none → Kw.ob n b = none := fun b hb => by
    have := w.dom0 hb
    unfold Kw.dom at this
    cases z : Kw.ob n b with | none => rfl | some x => rw [z] at this; cases this
  have eq : ∀ b, b ≠ a → b ≠ dx → Kw.ob (Kw.put (Kw.put n dx (.dd a)) a (.ins C dx [])) b = Kw.ob n b := fun b z1 z2 => by rw [Kw.ob_put_ne _ z1, Kw.ob_put_ne _ z2]
  have eqd : Kw.ob (Kw.put (Kw.put n dx (.dd a)) a (.ins C dx [])) dx = some (.dd a) := by rw [Kw.ob_put_ne _ ne, Kw.ob_put]
  have dk : ∀ d b, Kw.ob n d = some (.dd b) → Kw.ob (Kw.put (Kw.put n dx (.dd a)) a (.ins C dx [])) d = some (.dd b) := fun d b k => by
    have z1 : d ≠ a := fun z => by rw [z, ob0 a h] at k; cases k
    have z2 : d ≠ dx := fun z => by rw [z, ob0 dx hd] at k; cases k
    rw [eq d z1 z2]; exact k
  have fr : ∀ q, O q = true → q ≠ a ∧ q ≠ dx := fun q hq => ⟨fun z => w.trk q hq (by rw [z]; exact h), fun z => w.trk q hq (by rw [z]; exact hd)⟩
  refine ⟨e.sub, e.new, e.same, e.own, fun b h1 => ?_, e.st, e.trk, ⟨by rw [Kw.wt_put, Kw.wt_put]; exact e.wok.stm, ?_, ?_, ?_, fun b x k => ?_⟩⟩
  · by_cases z1 : b = a
    · rw [z1]; exact .inr h
    · by_cases z2 : b = dx
      · rw [z2]; exact .inr hd
      · refine .inl ?_
        unfold Kw.dom at h1 ⊢
        rwa [eq b z1 z2] at h1
  · unfold Kw.dom; rw [eq _ (fr _ w.op).1 (fr _ w.op).2]; exact e.wok.np
  · unfold Kw.dom; rw [eq _ (fr _ w.ob).1 (fr _ w.ob).2]; exact e.wok.nb
  · unfold Kw.dom; rw [eq _ (fr _ w.oc).1 (fr _ w.oc).2]; exact e.wok.nc
  · by_cases z1 : b = a
    · subst z1
      rw [Kw.ob_put] at k
      cases k
      exact ⟨addO_self, ⟨[], upd_same, fun _ => .nil⟩, eqd, fun _ z => nomatch z⟩
    · by_cases z2 : b = dx
      · subst z2
        rw [eqd] at k
        cases k
        exact ⟨addO_of addO_self, by rw [upd_ne ne, upd_same]⟩
      · rw [eq b z1 z2] at k
        exact (e.wok.obj b x k).keep id rfl (fun _ _ q => q) dk
end
end Kd
/-! objects: attributes, methods, construction, properties, world lists -/
namespace Kd
open PySem PySem.Spec PyProof.Rows L2 Kb Km
section
variable {K : PySem.W.Frag} {p : Addr} {H : Hp}
theorem XF.look0 {f : Str} : ∀ {vs : List (Str × V)} {ds : List (Str × PyData)}, XF K p H vs ds → ds.lookup f = none → vs.lookup f = none
  | _, _, .nil, _ => rfl
  | _, _, .cons (k := k) (v := v) (d := d') h r, e => by
    rw [XF.look.lookup_putD] at e
    rw [lookup_put]
    by_cases z : f = k
    · rw [if_pos z] at e; cases e
    · rw [if_neg z] at e ⊢
      exact XF.look0 r e
/-- an attribute is set -/
def setD (f : Str) (v : PyData) : List (Str × PyData) → List (Str × PyData)
  | [] => [(f, v)]
  | (g, x) :: r => if g = f then (g, v) :: r else (g, x) :: setD f v r
theorem XF.put {f : Str} {v : V} {d : PyData} (h : Dq K p H v d) : ∀ {vs : List (Str × V)} {ds : List (Str × PyData)}, XF K p H vs ds → XF K p H (putF f v vs) (setD f d ds)
  | _, _, .nil => .cons h .nil
  | _, _, .cons (k := k) (v := w) (vs := vs) (ds := ds) x r => by
    show XF K p H (if k = f then (k, v) :: vs else (k, w) :: putF f v vs) (if k = f then (k, d) :: ds else (k, _) :: setD f d ds)
    by_cases z : k = f
    · rw [if_pos z, if_pos z]; exact .cons h r
    · rw [if_neg z, if_neg z]; exact .cons x (XF.put h r)
theorem setD_nl {f : Str} {v : PyData} (h : nl v = true) : ∀ {fs : List (Str × PyData)}, (∀ x ∈ fs, nl x.2 = true) → ∀ x ∈ setD f v fs, nl x.2 = true
  | [], _, x, hx => by
    rw [setD, List.mem_singleton] at hx
    rw [hx]; exact h
  | (g, y) :: r, hf, x, hx => by
    rw [setD] at hx
    by_cases z : g = f
    · rw [if_pos z] at hx
      rcases List.mem_cons.mp hx with q | q
      · rw [q]; exact h
      · exact hf x (List.mem_cons_of_mem _ q)
    · rw [if_neg z] at hx
      rcases List.mem_cons.mp hx with q | q
      · rw [q]; exact hf _ List.mem_cons_self
      · exact setD_nl h (fun y hy => hf y (List.mem_cons_of_mem _ hy)) x q
theorem XF.length : ∀ {vs : List (Str × V)} {ds : List (Str × PyData)}, XF K p H vs ds → vs.length = ds.length
  | _, _, .nil => rfl
  | _, _, .cons _ r => by rw [List.length_cons, List.length_cons, XF.length r]
end
section
variable {X : Cx} {E : XK} {C : Addr} {o a b e value : Expr} {es : List Expr} {f m x : Str} {Ta Tb Te To Tv : TD} {Ts : TAD} {S : SpD} {pos pos' apos p : Pos}
/-- e.f, an attribute of an object of the class -/
def dFld (C : Addr) (f : Str) (Ta : TD) : TD := fun ρ n Q Z => Ta ρ n (fun x n1 => ∃ a dx fs v, x = OBJ a ∧ Kw.ob n1 a = some (.ins C dx fs) ∧ fs.lookup f = some v ∧ Q v n1) Z
theorem de_fld (c : Cls X.K C) (na : NoAttr X.K C f) (he : DE E X e Te) (hb : attributeBase e f X.env (eval e X.env) = eval e X.env := by rfl) : DE E X (.Attribute e f pos) (dFld C f Te) :=
  pe_weak (pe_fld he hb) fun σ H Q ⟨F, O, ρ, n, Qd, Xd, R, t, mq, mx⟩ => ⟨F, _, ρ, n, _, Xd, R, t, fun x n1 v H1 q1 e1 d1 => by
    obtain ⟨a, dx, fs, y, rfl, ho, hl, q⟩ := q1
    cases d1.obj'
    obtain ⟨oa, ⟨xs, hH, hx⟩, _, _⟩ := (R.ext e1).rw.wd.wok.obj a _ ho
    obtain ⟨u, hu, du⟩ := (hx X.K).look hl
    exact ⟨a, C, dx, xs, u, rfl, hH, c, na, hu, mq y n1 u H1 q e1 du⟩, mx⟩
/-- o.f = value -/
def dPutF (C : Addr) (f : Str) (Ta Tv : TD) : TSD := fun e ρ n => Tv ρ n (fun y n1 => Ta ρ n1 (fun x n2 => ∃ a dx fs, x = OBJ a ∧ Kw.ob n2 a = some (.ins C dx fs) ∧ fs.length < 1000 ∧ nl y = true ∧ e.nx ρ (Kw.put n2 a (.ins C dx (setD f y fs)))) e.ex) e.ex
theorem ds_putF (c : Cls X.K C) (na : NoAttr X.K C f) (ha : DE E X o To) (hv : DE E X value Tv) (hs : swapsWith value (some (.Attribute o f pos')) pos.line X.env = pure false := by rfl) : DS E X (.Assign [.Attribute o f pos'] value pos) (dPutF C f To Tv) :=
  ps_weak (ps_fld ha hv hs) fun D σ H ⟨F, O, ρ, n, e, R, t, m⟩ => ⟨F, _, ρ, n, _, e.ex, R, t, fun y n1 v H1 q1 e1 d1 => ⟨F, _, ρ, n1, _, e.ex, R.ext e1, q1, fun x n2 u H2 q2 e2 d2 => by
    obtain ⟨a, dx, fs, rfl, ho, hl, hn, q⟩ := q2
    cases d2.obj'
    have R2 := (R.ext e1).ext e2
    obtain ⟨oa, ⟨xs, hH, hx⟩, _, hnl⟩ := R2.rw.wd.wok.obj a _ ho
    have e3 := R2.rw.wd.write (K := X.K) (xs := xs) (xs' := putF f v xs) (fs' := setD f y fs) ho hH (XF.put (d1.same e2.hid) (hx X.K)) (setD_nl hn hnl)
    exact ⟨a, C, dx, xs, rfl, hH, c, na, by rw [(hx X.K).length]; exact hl, m.nx _ σ _ ρ _ (R2.ext e3) q⟩, MX.step (m.mx R.rw) e1⟩, m.mx R.rw⟩
/-- o.m(..) -/
def dMeth (C : Addr) (m : Str) (S : SpD) (To : TD) (Ts : TAD) : TD := fun ρ n Q Z => To ρ n (fun x n1 => ∃ a dx fs, x = OBJ a ∧ Kw.ob n1 a = some (.ins C dx fs) ∧ fs.lookup m = none ∧ Ts ρ n1 (fun ds n2 => S (x :: ds) n2 Q Z) Z) Z
section
variable {CX : CXT} {k : Nat} {g : Addr} {fd : FuncData} {ps : List Str} {pl : Sem Bool}
theorem de_meth {call : Expr} (hp : PE X call (tMeth C m (spD X.K S) [] E (lift X.K E To) (liftA X.K E Ts))) : DE E X call (dMeth C m S To Ts) :=
  pe_weak hp fun σ H Q ⟨F, O, ρ, n, Qd, Xd, R, t, mq, mx⟩ => ⟨F, _, ρ, n, _, Xd, R, t, fun x n1 v H1 q1 e1 d1 => by
    obtain ⟨a, dx, fs, rfl, ho, hl, q⟩ := q1
    cases d1.obj'
    obtain ⟨oa, ⟨xs, hH, hx⟩, _, _⟩ := (R.ext e1).rw.wd.wok.obj a _ ho
    exact ⟨a, dx, xs, rfl, hH, (hx X.K).look0 hl, F, _, ρ, n1, _, Xd, R.ext e1, q, fun ds n2 vs H2 q2 e2 d2 => ⟨F.g, _, n2, OBJ a :: ds, Qd, Xd, ((R.ext e1).ext e2).rw.wd, by rw [List.append_nil]; exact .cons (.obj a) d2, q2, mq.step (e1.trans e2), mx.step (e1.trans e2)⟩, mx.step e1⟩, mx⟩
theorem de_meth0 {call : Expr} (hp : PE X call (tMeth C m (spD X.K S) [] E (lift X.K E To) tNil)) : DE E X call (dMeth C m S To dNil) :=
  pe_weak hp fun σ H Q ⟨F, O, ρ, n, Qd, Xd, R, t, mq, mx⟩ => ⟨F, _, ρ, n, _, Xd, R, t, fun x n1 v H1 q1 e1 d1 => by
    obtain ⟨a, dx, fs, rfl, ho, hl, q⟩ := q1
    cases d1.obj'
    obtain ⟨oa, ⟨xs, hH, hx⟩, _, _⟩ := (R.ext e1).rw.wd.wok.obj a _ ho
    exact ⟨a, dx, xs, rfl, hH, (hx X.K).look0 hl, F.g, _, n1, [OBJ a], Qd, Xd, (R.ext e1).rw.wd, .cons (.obj a) .nil, q, mq.step e1, mx.step e1⟩, mx⟩
/-- C(..) -/
def dMake (C : Addr) (S : SpD) (Ts : TAD) : TD := fun ρ n Q Z => Ts ρ n (fun ds n1 => ∀ a dx, Kw.ob n1 a = none → Kw.ob n1 dx = none → dx ≠ a → S (OBJ a :: ds) (Kw.put (Kw.put n1 dx (.dd a)) a (.ins C dx [])) (fun v n2 => v = .none ∧ Q (OBJ a) n2) Z) Z
theorem Wd.ob0 {g : G} {O : Addr → Bool} {H : Hp} {n : Nat} (w : Wd g O H n) {b : Addr} (h : H b = none) : Kw.ob n b = none := by
  have := w.dom0 h
  unfold Kw.dom at this
  cases z : Kw.ob n b with | none => rfl | some x => rw [z] at this; cases this
theorem de_make (M : Mk X.K C g) (Fn : FnOk X.prog X.w X.K X.mg X.base CX k g fd ps (spD X.K S)) (hr : Room (k + 1) X.A) (hg : Gl X x) (hm : X.mg x = some (.ref C)) (hb : Binds X.K fd ps []) (hx : Passes CX X E)
    (ha : DA E X (e :: es) Ts) (hdb : (x == ("__debug__" : Str)) = false := by decide) (he : starEach (e :: es) X.env = (false, eval e X.env) :: starEach es X.env := by rfl) (hpl : (backTo pos (starEach es X.env)).any (·.1) = false := by rfl) :
    DE E X (.Call (.Name x p) (e :: es) [] pos) (dMake C S Ts) :=
  pe_weak (pe_make M Fn hr hg hm hb .nil hx ha hdb he hpl) fun σ H Q ⟨F, O, ρ, n, Qd, Xd, R, t, mq, mx⟩ => ⟨F, _, ρ, n, _, Xd, R, t, fun ds n1 vs H1 q1 e1 d1 => fun a dx h1 h2 ne => by
    have w := (R.ext e1).rw.wd
    have e2 := w.newI (C := C) h1 h2 ne
    have q := q1 a dx (w.ob0 h1) (w.ob0 h2) ne
    exact ⟨F.g, _, _, OBJ a :: ds, _, Xd, w.ext e2, by rw [List.append_nil]; exact .cons (.obj a) (d1.same e2.hid), q, fun d n' v H' q3 e3 d3 => by
      obtain ⟨rfl, q3⟩ := q3
      exact ⟨d3.none', mq (OBJ a) n' _ H' q3 ((e1.trans e2).trans e3) (.obj a)⟩, mx.step (e1.trans e2)⟩, mx⟩
/-- e.f, a property -/
def dProp (C : Addr) (S : SpD) (Ta : TD) : TD := fun ρ n Q Z => Ta ρ n (fun x n1 => ∃ a dx fs, x = OBJ a ∧ Kw.ob n1 a = some (.ins C dx fs) ∧ S [x] n1 Q Z) Z
theorem de_prop {q : Addr} (c : Cls X.K C) (hp : PropOf X.K C f q g) (Fn : FnOk X.prog X.w X.K X.mg X.base CX0 k g fd ps (spD X.K S)) (hr : Room (k + 1) X.A) (hb : Binds X.K fd ps []) (he : DE E X e Te)
    (hab : attributeBase e f X.env (eval e X.env) = eval e X.env := by rfl) : DE E X (.Attribute e f pos) (dProp C S Te) :=
  pe_weak (pe_prop (E := E) he c hp Fn hr hb .nil passD hab) fun σ H Q ⟨F, O, ρ, n, Qd, Xd, R, t, mq, mx⟩ => ⟨F, _, ρ, n, _, Xd, R, t, fun x n1 v H1 q1 e1 d1 => by
    obtain ⟨a, dx, fs, rfl, ho, q⟩ := q1
    cases d1.obj'
    obtain ⟨oa, ⟨xs, hH, hx⟩, _, _⟩ := (R.ext e1).rw.wd.wok.obj a _ ho
    exact ⟨a, dx, xs, rfl, hH, F.g, _, n1, [OBJ a], Qd, Xd, (R.ext e1).rw.wd, .cons (.obj a) .nil, q, mq.step e1, mx.step e1⟩, mx⟩
end
/-! ### lists among the objects -/
/-- [..], a list of the world -/
def dLstW (Ts : TAD) : TD := fun ρ n Q Z => Ts ρ n (fun ds n1 => ds.length ≤ sizeLine ∧ nlA ds = true ∧ ∀ a, Kw.ob n1 a = none → Q (OBJ a) (Kw.put n1 a (.lst ds))) Z
/-- an operation whose left side is a list of the world -/
def dOpW (rd : RD2) (Ta Tb : TD) : TD := fun ρ n Q Z => Ta ρ n (fun x n1 => Tb ρ n1 (fun y n2 => ∃ a ds, x = OBJ a ∧ Kw.ob n2 a = some (.lst ds) ∧ rd (.list ds) y fun z => nl z = true ∧ Q z n2) Z) Z
/-- f(x), x a list of the world -/
def dCBW (rd : RDN) (Ta : TD) : TD := fun ρ n Q Z => Ta ρ n (fun x n1 => ∃ a ds, x = OBJ a ∧ Kw.ob n1 a = some (.lst ds) ∧ rd [.list ds] fun z => nl z = true ∧ Q z n1) Z
end
end Kd
/-! world lists that grow and shrink; f-strings; len and str of own objects -/
namespace Kd
open PySem PySem.Spec PyProof.Rows L2 Kb Km
section
variable {X : Cx} {E : XK} {e : Expr} {Te : TD} {pos : Pos} {x : Str} {p ap sp : Pos} {i : Nat}
theorem DqAll.dropLast {K : PySem.W.Frag} {g : Addr} {H : Hp} : ∀ {xs : List V} {ds : List PyData}, DqAll K g H xs ds → DqAll K g H xs.dropLast ds.dropLast
  | _, _, .nil => .nil
  | _, _, .cons a .nil => .nil
  | _, _, .cons a (.cons b r) => .cons a (DqAll.dropLast (.cons b r))
end
/-! ### f"{i}a{j}b": two numbers -/
section
variable {X : Cx} {E : XK} {e1 e2 : Expr} {T1 T2 : TD} {pos p1 p2 p3 p4 : Pos}
def dFs4 (a b : Str) (T1 T2 : TD) : TD := fun ρ n Q Z => T1 ρ n (fun d n1 => ∃ i : Int, d = .int i ∧ i.natAbs.log2 < 1920 ∧ (toString i : Str).length ≤ 1000000 ∧ T2 ρ n1 (fun d2 n2 => ∃ j : Int, d2 = .int j ∧ j.natAbs.log2 < 1920 ∧ (toString j : Str).length ≤ 1000000 ∧ Q (.str (((toString i : Str) ++ a) ++ (toString j : Str) ++ b)) n2) Z) Z
theorem empty_app (a : Str) : Str.empty ++ a = a := by
  apply Str.ext'
  apply Array.toList_inj.mp
  rw [cps_toList_append]
  rfl
theorem de_fs4 {a b : Str} {j1 j2} (h1 : DE E X e1 T1) (h2 : DE E X e2 T2) (ha : a.length ≤ 1000000 := by decide +kernel) (hb : b.length ≤ 1000000 := by decide +kernel) :
    DE E X (.JoinedStr [.FormattedValue e1 (-1) none p1, .Constant (.str a) j1 p2, .FormattedValue e2 (-1) none p3, .Constant (.str b) j2 p4] pos) (dFs4 a b T1 T2) :=
  pe_weak (pe_joined (.cons (pe_fmt h1) (.cons pe_str (.cons (pe_fmt h2) (.cons pe_str .nil))))) fun σ H Q ⟨F, O, ρ, n, Qd, Xd, R, t, mq, mx⟩ => by
    refine ⟨F, _, ρ, n, _, Xd, R, t, fun d n1 v H1 ⟨i, ed, hi, hl, q⟩ e1 d1 => ?_, mx⟩
    subst ed
    have hz : sizeLine ≥ 5000000 := by decide
    refine .inr ⟨i, d1.int', hi, _, rfl, by rw [empty_app]; omega, a, rfl, by rw [Str.length_append, empty_app]; omega, F, _, ρ, n1, _, Xd, R.ext e1, q, fun d2 n2 v2 H2 ⟨j, ed, hj, hl2, q2⟩ e2 d2' => ?_, mx.step e1⟩
    subst ed
    refine .inr ⟨j, d2'.int', hj, _, rfl, by rw [Str.length_append, Str.length_append, empty_app]; omega, b, rfl, by rw [Str.length_append, Str.length_append, Str.length_append, empty_app]; omega, ?_⟩
    show Q (.str (((Str.empty ++ _) ++ a) ++ _ ++ b)) H2
    rw [empty_app]
    exact mq _ n2 _ H2 q2 (e1.trans e2) (.str _ (by rw [Str.length_append, Str.length_append, Str.length_append]; omega))
end
/-! ### len(x), str(x) of an own object -/
section
variable {X : Cx} {E : XK} {e : Expr} {Te : TD} {S : SpD} {C g : Addr} {x : Str} {p pos : Pos} {k : Nat} {fd : FuncData} {ps : List Str}
/-- the class answers a special name by a def of its own -/
structure Spc (K : PySem.W.Frag) (C : Addr) (m : Str) (g : Addr) : Prop where
  at_ : PySem.W.findIn K (.ref C) m = some (some (.ref g))
  fn : PySem.W.isFn K (.ref g) = true
def rOwn (C : Addr) (sp : Sp) (ok : V → Prop) (E : XK) : List V → Hp → VK → Prop := fun vs H Q => ∃ a dx fs, vs = [.ref a] ∧ H a = some (.ins C dx fs) ∧ sp [.ref a] H (fun v H' => ok v ∧ Q v H') E
def okLen (v : V) : Prop := ∃ i : Int, v = .int i ∧ 0 ≤ i ∧ i < 2 ^ 63
def okStr (v : V) : Prop := ∃ z : Str, v = .str z
theorem run_own {sp : Sp} {A : Around} {pins : List (Addr × Obj)} {σ : St} {H : Hp} {s : Shared} {E' : Value → Shared → Prop} {a : Addr} {R : VK} (I : Inv X pins σ H s)
    (F : FnOk X.prog X.w X.K X.mg X.base CX0 k g fd ps sp) (hr : Room k A) (he : Env0 X.prog X.w X.K X.mg X.base A X.stack s H) (hb : Binds X.K fd ps []) (h : sp [.ref a] H R E) :
    wpAny (model X.prog X.w) A (call (.ref g) [.ref a]) (EP X pins σ R) E' s := by
  have hl : ([Value.ref a] ++ []).length = ps.length := by rw [← F.len _ _ _ _ h]; rfl
  refine wpAny_call (codeAny_mono (F.run A X.stack s H ⟨[.ref a], []⟩ [.ref a] [.ref a] R E hr he (hb s [.ref a] I.kIn hl) (.cons rfl .nil) h) fun r s' hq => ?_)
  cases r with
  | error er => exact False.elim hq
  | ok fl =>
    cases fl with
    | ret u => exact I.after hq
    | next => exact False.elim hq
    | brk => exact False.elim hq
    | cont => exact False.elim hq
theorem call_lenO {sp : Sp} (c : Spc X.K C "__len__" g) (F : FnOk X.prog X.w X.K X.mg X.base CX0 k g fd ps sp) (hr : Room (k + 1) X.A) (hb : Binds X.K fd ps []) : CallR X (.builtin "len") (rOwn C sp okLen E) := by
  intro pins s σ H xs us Q I r h
  obtain ⟨a, dx, fs, rfl, ea, q⟩ := h
  obtain ⟨u, rfl, ru⟩ := r.one
  obtain rfl : u = Value.ref a := ru
  obtain ⟨mA, O, _, _, _, _⟩ := ins_get I.hok ea
  obtain ⟨od, J, _⟩ := O.look
  obtain ⟨mL, hnL, _⟩ := I.loc
  refine PySem.W.len_K (m := mL) (h₀ := X.base) ⟨hnL, fun b o e => (I.bs b o e).1, Nat.le_trans I.ok.bsz I.ok.above⟩ I.ok.mod.kin J c.at_ c.fn (wpAny_mono (run_own (E' := X.xe) I F hr.in1 I.env0.in1 hb q) (fun v s' hv => ?_) fun _ _ z => z)
  obtain ⟨v', H', I', rv, ⟨i, ei, h0, h1⟩, q'⟩ := hv
  subst ei
  obtain ⟨t, rfl⟩ := rv
  exact ⟨⟨h0, h1⟩, .int i, H', I'.tok _, ⟨_, rfl⟩, q'⟩
theorem call_strO {sp : Sp} (c : Spc X.K C "__str__" g) (F : FnOk X.prog X.w X.K X.mg X.base CX0 k g fd ps sp) (hr : Room (k + 2) X.A) (hu : X.A.in1.in1.units < cLine) (hb : Binds X.K fd ps []) : CallR X (.type "str") (rOwn C sp okStr E) := by
  intro pins s σ H xs us Q I r h
  obtain ⟨a, dx, fs, rfl, ea, q⟩ := h
  obtain ⟨u, rfl, ru⟩ := r.one
  obtain rfl : u = Value.ref a := ru
  obtain ⟨mA, O, _, _, _, _⟩ := ins_get I.hok ea
  obtain ⟨od, J, _⟩ := O.look
  refine PySem.W.kso_call hu I.kIn J c.at_ c.fn (wpAny_mono (run_own (E' := X.xe) I F hr.in1.in1 I.env0.in1.in1 hb q) (fun v s' hv => ?_) fun _ _ z => z)
  obtain ⟨v', H', I', rv, ⟨z, ez⟩, q'⟩ := hv
  subst ez
  obtain ⟨t, rfl⟩ := rv
  exact ⟨.str z, H', I', ⟨_, rfl⟩, q'⟩
/-- len(e), str(e) -/
def dOO (C : Addr) (ok : PyData → Prop) (S : SpD) (Te : TD) : TD := fun ρ n Q Z => Te ρ n (fun x n1 => ∃ a dx fs, x = OBJ a ∧ Kw.ob n1 a = some (.ins C dx fs) ∧ S [x] n1 (fun z n2 => ok z ∧ Q z n2) Z) Z
def okLenD (z : PyData) : Prop := ∃ i : Int, z = .int i ∧ 0 ≤ i ∧ i < 2 ^ 63
def okStrD (z : PyData) : Prop := ∃ i : Str, z = .str i
theorem lift_OO {ok : V → Prop} {okd : PyData → Prop} (hok : ∀ {K p H v d}, Dq K p H v d → okd d → ok v) {K : PySem.W.Frag} {σ : St} {H : Hp} {Q : VK} (h : lift K E (dOO C okd S Te) σ H Q) : tCB (rOwn C (spD K S) ok E) (tCons (lift K E Te) tNil) σ H Q := by
  obtain ⟨F, O, ρ, n, Qd, Xd, R, t, mq, mx⟩ := h
  refine ⟨F, _, ρ, n, _, Xd, R, t, fun x n1 v H1 q1 e1 d1 => ?_, mx⟩
  obtain ⟨a, dx, fs, rfl, ho, q⟩ := q1
  cases d1.obj'
  obtain ⟨oa, ⟨xs, hH, hx⟩, _, _⟩ := (R.ext e1).rw.wd.wok.obj a _ ho
  exact ⟨a, dx, xs, rfl, hH, F.g, _, n1, [OBJ a], _, Xd, (R.ext e1).rw.wd, .cons (.obj a) .nil, q, fun z n2 u H2 q2 e2 d2 => ⟨hok d2 q2.1, mq z n2 u H2 q2.2 (e1.trans e2) d2⟩, mx.step e1⟩
theorem okLen_of {K : PySem.W.Frag} {p : Addr} {H : Hp} {v : V} {d : PyData} (h : Dq K p H v d) (o : okLenD d) : okLen v := by
  obtain ⟨i, rfl, h0, h1⟩ := o
  exact ⟨i, h.int', h0, h1⟩
theorem okStr_of {K : PySem.W.Frag} {p : Addr} {H : Hp} {v : V} {d : PyData} (h : Dq K p H v d) (o : okStrD d) : okStr v := by
  obtain ⟨i, rfl⟩ := o
  exact ⟨i, h.str'⟩
theorem de_lenO (c : Spc X.K C "__len__" g) (F : FnOk X.prog X.w X.K X.mg X.base CX0 k g fd ps (spD X.K S)) (hr : Room (k + 1) X.A) (hb : Binds X.K fd ps []) (hg : Gl X "len") (hm : X.mg "len" = none) (ha : DE E X e Te)
    (he : starEach [e] X.env = (false, eval e X.env) :: starEach [] X.env := by rfl) (hpl : (backTo pos (starEach [] X.env)).any (·.1) = false := by rfl) : DE E X (.Call (.Name "len" p) [e] [] pos) (dOO C okLenD S Te) :=
  pe_weak (pe_callB (call_lenO (E := E) c F hr hb) hg hm (by decide +kernel) (pa_cons ha pa_nil he) (by decide) (by decide) he hpl) fun _ _ _ h => lift_OO okLen_of h
theorem de_strO (c : Spc X.K C "__str__" g) (F : FnOk X.prog X.w X.K X.mg X.base CX0 k g fd ps (spD X.K S)) (hr : Room (k + 2) X.A) (hu : X.A.in1.in1.units < cLine) (hb : Binds X.K fd ps []) (hg : Gl X "str") (hm : X.mg "str" = none) (ha : DE E X e Te)
    (he : starEach [e] X.env = (false, eval e X.env) :: starEach [] X.env := by rfl) (hpl : (backTo pos (starEach [] X.env)).any (·.1) = false := by rfl) : DE E X (.Call (.Name "str" p) [e] [] pos) (dOO C okStrD S Te) :=
  pe_weak (pe_callTy (call_strO (E := E) c F hr hu hb) hg hm (by decide +kernel) (pa_cons ha pa_nil he) (by decide) (by decide) he hpl) fun _ _ _ h => lift_OO okStr_of h
end
/-! ### walker -/
section
variable {ρ : List Cell} {n : Nat} {Q : PQ} {Z : XD} {e : DEnds} {C : Addr} {f m : Str} {Ta Tb Te To Tv : TD} {Ts : TAD} {S : SpD} {i : Nat}
theorem x_fld (h : Ta ρ n (fun x n1 => ∃ a dx fs v, x = OBJ a ∧ Kw.ob n1 a = some (.ins C dx fs) ∧ fs.lookup f = some v ∧ Q v n1) Z) : dFld C f Ta ρ n Q Z := h
theorem x_putF (h : Tv ρ n (fun y n1 => Ta ρ n1 (fun x n2 => ∃ a dx fs, x = OBJ a ∧ Kw.ob n2 a = some (.ins C dx fs) ∧ fs.length < 1000 ∧ nl y = true ∧ e.nx ρ (Kw.put n2 a (.ins C dx (setD f y fs)))) e.ex) e.ex) : dPutF C f Ta Tv e ρ n := h
theorem x_meth (h : To ρ n (fun x n1 => ∃ a dx fs, x = OBJ a ∧ Kw.ob n1 a = some (.ins C dx fs) ∧ fs.lookup m = none ∧ Ts ρ n1 (fun ds n2 => S (x :: ds) n2 Q Z) Z) Z) : dMeth C m S To Ts ρ n Q Z := h
theorem x_make (h : Ts ρ n (fun ds n1 => ∀ a dx, Kw.ob n1 a = none → Kw.ob n1 dx = none → dx ≠ a → S (OBJ a :: ds) (Kw.put (Kw.put n1 dx (.dd a)) a (.ins C dx [])) (fun v n2 => v = .none ∧ Q (OBJ a) n2) Z) Z) : dMake C S Ts ρ n Q Z := h
theorem x_prop (h : Ta ρ n (fun x n1 => ∃ a dx fs, x = OBJ a ∧ Kw.ob n1 a = some (.ins C dx fs) ∧ S [x] n1 Q Z) Z) : dProp C S Ta ρ n Q Z := h
theorem x_lstW (h : Ts ρ n (fun ds n1 => ds.length ≤ sizeLine ∧ nlA ds = true ∧ ∀ a, Kw.ob n1 a = none → Q (OBJ a) (Kw.put n1 a (.lst ds))) Z) : dLstW Ts ρ n Q Z := h
theorem x_opW {rd : RD2} (h : Ta ρ n (fun x n1 => Tb ρ n1 (fun y n2 => ∃ a ds, x = OBJ a ∧ Kw.ob n2 a = some (.lst ds) ∧ rd (.list ds) y fun z => nl z = true ∧ Q z n2) Z) Z) : dOpW rd Ta Tb ρ n Q Z := h
theorem x_cbW {rd : RDN} (h : Ta ρ n (fun x n1 => ∃ a ds, x = OBJ a ∧ Kw.ob n1 a = some (.lst ds) ∧ rd [.list ds] fun z => nl z = true ∧ Q z n1) Z) : dCBW rd Ta ρ n Q Z := h
theorem x_ownO {ok : PyData → Prop} (h : Te ρ n (fun x n1 => ∃ a dx fs, x = OBJ a ∧ Kw.ob n1 a = some (.ins C dx fs) ∧ S [x] n1 (fun z n2 => ok z ∧ Q z n2) Z) Z) : dOO C ok S Te ρ n Q Z := h
end
end Kd
/-! a try whose body raises nothing; what an object becomes; desks -/
namespace Kw
/-- only the object at a has changed: it is x now -/
structure Upd (n a : Nat) (x : Ob) (n' : Nat) : Prop where
  wt : Kw.wt n' = Kw.wt n
  at_ : Kw.ob n' a = some x
  ne : ∀ b, b ≠ a → Kw.ob n' b = Kw.ob n b
theorem Upd.put (n a : Nat) (x : Ob) : Upd n a x (Kw.put n a x) := ⟨wt_put n a x, ob_put n a x, fun b h => ob_put_ne x h⟩
theorem Upd.trans {n n1 n2 a : Nat} {x y : Ob} (h : Upd n a x n1) (k : Upd n1 a y n2) : Upd n a y n2 := ⟨k.wt.trans h.wt, k.at_, fun b z => (k.ne b z).trans (h.ne b z)⟩
theorem Upd.same {n a : Nat} {x : Ob} (h : Kw.ob n a = some x) : Upd n a x n := ⟨rfl, h, fun _ _ => rfl⟩
end Kw
namespace Kd
open PySem PySem.Spec PyProof.Rows L2 Kb Km
section
variable {X : Cx} {E : XK} {pos : Pos}
def dTry0 (Tb : TSD) : TSD := fun e ρ n => Tb { e with ex := X0 } ρ n
theorem x_try0 {Tb : TSD} {e : DEnds} {ρ : List Cell} {n : Nat} (h : Tb { e with ex := X0 } ρ n) : dTry0 Tb e ρ n := h
end
/-! ### desks -/
def dk (t e s c b : PyData) : List (Str × PyData) := [("text", t), ("earlier", e), ("steps", s), ("chosen", c), ("busy", b)]
section
variable {t e s c b v : PyData}
theorem dk_text : (dk t e s c b).lookup ("text" : Str) = some t := rfl
theorem dk_earlier : (dk t e s c b).lookup ("earlier" : Str) = some e := rfl
theorem dk_steps : (dk t e s c b).lookup ("steps" : Str) = some s := rfl
theorem dk_chosen : (dk t e s c b).lookup ("chosen" : Str) = some c := rfl
theorem dk_busy : (dk t e s c b).lookup ("busy" : Str) = some b := rfl
theorem dk_sT : setD ("text" : Str) v (dk t e s c b) = dk v e s c b := rfl
theorem dk_sE : setD ("earlier" : Str) v (dk t e s c b) = dk t v s c b := rfl
theorem dk_sS : setD ("steps" : Str) v (dk t e s c b) = dk t e v c b := rfl
theorem dk_sC : setD ("chosen" : Str) v (dk t e s c b) = dk t e s v b := rfl
end
end Kd
namespace Kd
open PySem PySem.Spec PyProof.Rows L2 Kb Km
/-- one more draw -/
theorem Wd.drew {g : G} {O : Addr → Bool} {H H' : Hp} {n : Nat} (w : Wd g O H n) (kp : Kept g.p g.b H H') (S : Stm H' g.p g.b g.c (Kw.wt n + 1)) : Ext g O O H H' n (Kw.adv n 1) := by
  have same : ∀ a o, O a = false → H a = some o → H' a = some o := fun a o h1 h2 => kp a o (fun z => by rw [z, w.op] at h1; cases h1) (fun z => by rw [z, w.ob] at h1; cases h1) h2
  have keep : ∀ a, a ≠ g.p → a ≠ g.b → O a = true → H' a = H a := fun a h2 h3 h1 => by
    cases z : H a with
    | none => exact absurd z (w.trk a h1)
    | some o => exact kp a o h2 h3 z
  refine ⟨fun _ h => h, fun _ h => .inl h, same, fun a h1 h2 h3 _ => keep a h2 h3 h1, fun a h => .inl (by rwa [Kw.dom_adv] at h), w.trk, fun a ha => ?_, ⟨by rw [Kw.wt_adv]; exact S, by rw [Kw.dom_adv]; exact w.wok.np, by rw [Kw.dom_adv]; exact w.wok.nb, by rw [Kw.dom_adv]; exact w.wok.nc, fun a x e => ?_⟩⟩
  · by_cases h1 : a = g.p
    · rw [h1]; exact (Stm.pSome S).1
    · by_cases h2 : a = g.b
      · rw [h2]; exact (Stm.pSome S).2
      · rw [keep a h1 h2 ha]; exact w.trk a ha
  · rw [Kw.ob_adv] at e
    obtain ⟨h1, h2, _⟩ := w.wok.apart e
    exact (w.wok.obj a x e).keep id (keep a h1 h2 (w.wok.obj a x e).here.1) (fun b o k => by
      obtain ⟨k1, k2⟩ := hid_some.mp k
      exact hid_some.mpr ⟨k1, same b o k1 k2⟩) fun d b k => by rw [Kw.ob_adv]; exact k
theorem unO {k : Nat} {A : Around} (r : Room k A) : A.in1.in1.units < cLine := by
  have := r.un
  show A.units + 1 + 1 < _
  omega
end Kd
/-! desks: edits, words, what is shown of them -/
namespace Kd
open PySem PySem.Spec PyProof.Rows L2 Kb Km
inductive Ed
  | ch (k c : Nat)
  | gr (c : Nat)
  | sh
def edD : Ed → PyData
  | .ch k c => .tuple [.str "change", .int (k : Nat), W [c]]
  | .gr c => .tuple [.str "grow", W [c]]
  | .sh => .tuple [.str "shrink"]
def edW (w : List Nat) : Ed → List Nat
  | .ch k c => w.take k ++ [c] ++ w.drop (k + 1)
  | .gr c => c :: w
  | .sh => w.drop 1
/-- it can be done -/
def edOk (w : List Nat) : Ed → Prop
  | .ch k c => k < w.length ∧ Ltr c
  | .gr c => w.length < 24 ∧ Ltr c
  | .sh => 1 < w.length
/-- a word of the program -/
def Wd24 (w : List Nat) : Prop := 0 < w.length ∧ w.length ≤ 24 ∧ Ltrs w
theorem edW_ok {w : List Nat} {e : Ed} (hw : Wd24 w) (h : edOk w e) : Wd24 (edW w e) := by
  obtain ⟨h0, h1, h2⟩ := hw
  cases e with
  | ch k c =>
    obtain ⟨hk, hc⟩ := h
    refine ⟨by simp only [edW, List.length_append, List.length_take, List.length_drop, List.length_singleton]; omega, by simp only [edW, List.length_append, List.length_take, List.length_drop, List.length_singleton]; omega, fun x hx => ?_⟩
    simp only [edW, List.mem_append, List.mem_singleton] at hx
    rcases hx with (hx | hx) | hx
    · exact h2 x (List.mem_of_mem_take hx)
    · rw [hx]; exact hc
    · exact h2 x (List.mem_of_mem_drop hx)
  | gr c =>
    obtain ⟨hk, hc⟩ := h
    refine ⟨by simp only [edW, List.length_cons]; omega, by simp only [edW, List.length_cons]; omega, fun x hx => ?_⟩
    rcases List.mem_cons.mp hx with hx | hx
    · rw [hx]; exact hc
    · exact h2 x hx
  | sh =>
    have h : 1 < w.length := h
    exact ⟨by simp only [edW, List.length_drop]; omega, by simp only [edW, List.length_drop]; omega, fun x hx => h2 x (List.mem_of_mem_drop hx)⟩
theorem nlA_words (ws : List (List Nat)) : nlA (ws.map W) = true := by
  rw [nlA_all]
  intro d hd
  obtain ⟨L, _, rfl⟩ := List.mem_map.mp hd
  rfl
theorem nl_ed (e : Ed) : nl (edD e) = true := by cases e <;> rfl
theorem nlA_eds (es : List Ed) : nlA (es.map edD) = true := by
  rw [nlA_all]
  intro d hd
  obtain ⟨e, _, rfl⟩ := List.mem_map.mp hd
  exact nl_ed e
/-- a desk that is not busy: its word, the words before, the edits, the pattern -/
abbrev dkO (C dx : Nat) (w : List Nat) (ws : List (List Nat)) (es : List Ed) (ch : PyData) : Kw.Ob := .ins C dx (dk (W w) (.tuple (ws.map W)) (.tuple (es.map edD)) ch (.bool false))
/-- the text of a desk -/
def lettersW : List Nat := [32, 108, 101, 116, 116, 101, 114, 115, 44, 32]
def editsW : List Nat := [32, 101, 100, 105, 116, 115]
def dkT (a b : Nat) : List Nat := numW a ++ lettersW ++ numW b ++ editsW
theorem str_num (k : Nat) : (toString (k : Int) : Str) = ⟨(numW k).toArray⟩ := by
  have := num_data k
  unfold W at this
  injection this
theorem dkT_str (a b : Nat) : PyData.str (((toString (a : Int) : Str) ++ (Str.ofString " letters, ")) ++ (toString (b : Int) : Str) ++ (Str.ofString " edits")) = W (dkT a b) := by
  rw [str_num, str_num, show Str.ofString " letters, " = ⟨lettersW.toArray⟩ from rfl, show Str.ofString " edits" = ⟨editsW.toArray⟩ from rfl, W_app, W_app, W_app]
  rfl
theorem fs4_num {k : Nat} (h : k ≤ 100) {P : Int → Prop} (q : P (k : Nat)) : ∃ i : Int, PyData.int (k : Nat) = .int i ∧ i.natAbs.log2 < 1920 ∧ (toString i : Str).length ≤ 1000000 ∧ P i := by
  have s := (Sm.int (i := (k : Nat)) (k := 3) (by decide) (by omega) (by decide)).sh
  simp only [PyData.showable, decide_eq_true_eq] at s
  refine ⟨_, rfl, s, ?_, q⟩
  rw [str_num]
  show (numW k).toArray.size ≤ _
  rw [List.size_toArray]
  have := (num_ok h).2.2.1
  omega
def seenD (w : List Nat) (es : List Ed) : PyData := .list [W w, .tuple (plD (tord w)), .int (es.length : Nat), .tuple (es.map edD), .int (w.length : Nat), W (dkT w.length es.length)]
/-- it can be shown -/
def edFit : Ed → Prop
  | .ch k c => k < 100 ∧ Ltr c
  | .gr c => Ltr c
  | .sh => True
theorem sx_wn {L : List Nat} {m : Nat} (hl : L.length ≤ m) (hc : ∀ c ∈ L, c < 200) : Sx (W L) (10 * m + 2) 1 := by
  have lt : ∀ c ∈ (⟨L.toArray⟩ : Str).cps.toList, c < 16 ^ 8 := fun c h => Nat.lt_of_lt_of_le (hc c (by rw [List.toList_toArray] at h; exact h)) (by decide)
  refine ⟨by unfold W; simp [okR], by unfold W; simp [PyData.showable], by unfold W; simp [PyData.depth], ?_⟩
  unfold W
  simp only [PyData.shown]
  have := StrLaws.reprText_len ⟨L.toArray⟩ lt
  have e : (⟨L.toArray⟩ : Str).length = L.length := List.size_toArray ..
  omega
theorem sx_nat {k : Nat} (h : k < 1000) : Sx (.int (k : Nat)) 70 1 := ((Sm.int (i := (k : Nat)) (k := 3) (by decide) (by omega) (by decide)).mono (by decide) (Nat.le_refl _)).sx
theorem sx_ed {e : Ed} (h : edFit e) : Sx (edD e) 219 2 := by
  have lc : ∀ {c : Nat}, Ltr c → Sx (W [c]) 70 1 := fun {c} hc => (sx_wn (m := 1) (Nat.le_refl _) fun x hx => by rw [List.mem_singleton.mp hx]; unfold Ltr at hc; omega).mono (by decide) (Nat.le_refl _)
  have li : ∀ {z : Str}, z.cps.toList.length ≤ 6 → (∀ c ∈ z.cps.toList, c < 200) → Sx (.str z) 70 1 := fun {z} h1 h2 => by
    rw [str_W]
    exact (sx_wn (m := 6) h1 h2).mono (by decide) (Nat.le_refl _)
  cases e with
  | ch k c =>
    obtain ⟨hk, hc⟩ := h
    refine (Sx.tuple (n := 70) (e := 1) (ds := [.str "change", .int (k : Nat), W [c]]) fun x hx => ?_).mono (by simp only [List.length_cons, List.length_nil]; decide) (Nat.le_refl _)
    simp only [List.mem_cons, List.not_mem_nil, or_false] at hx
    rcases hx with rfl | rfl | rfl
    · exact li (by decide +kernel) (by decide +kernel)
    · exact sx_nat (by omega)
    · exact lc hc
  | gr c =>
    refine (Sx.tuple (n := 70) (e := 1) (ds := [.str "grow", W [c]]) fun x hx => ?_).mono (by simp only [List.length_cons, List.length_nil]; decide) (Nat.le_refl _)
    simp only [List.mem_cons, List.not_mem_nil, or_false] at hx
    rcases hx with rfl | rfl
    · exact li (by decide +kernel) (by decide +kernel)
    · exact lc h
  | sh =>
    refine (Sx.tuple (n := 70) (e := 1) (ds := [.str "shrink"]) fun x hx => ?_).mono (by decide) (Nat.le_refl _)
    simp only [List.mem_cons, List.not_mem_nil, or_false] at hx
    subst hx
    exact li (by decide +kernel) (by decide +kernel)
theorem ltr_lt {L : List Nat} (h : Ltrs L) : ∀ c ∈ L, c < 200 := fun c hc => by have := h c hc; unfold Ltr at this; omega
theorem dkT_ok {a b : Nat} (ha : a ≤ 100) (hb : b ≤ 100) : (dkT a b).length ≤ 30 ∧ ∀ c ∈ dkT a b, c < 200 := by
  obtain ⟨n1, n2, n3, _⟩ := num_ok ha
  obtain ⟨m1, m2, m3, _⟩ := num_ok hb
  refine ⟨by simp only [dkT, List.length_append, lettersW, editsW, List.length_cons, List.length_nil]; omega, fun c hc => ?_⟩
  simp only [dkT, List.mem_append] at hc
  rcases hc with ((hc | hc) | hc) | hc
  · have := n1 c hc; omega
  · exact (by decide : ∀ c ∈ lettersW, c < 200) c hc
  · have := m1 c hc; omega
  · exact (by decide : ∀ c ∈ editsW, c < 200) c hc
theorem sx_eds {es : List Ed} (h : ∀ e ∈ es, edFit e) (hl : es.length ≤ 61) : Sx (.tuple (es.map edD)) 14000 3 := (Sx.tuple (n := 219) (e := 2) fun d hd => by
  obtain ⟨e, he, rfl⟩ := List.mem_map.mp hd
  exact sx_ed (h e he)).mono (by rw [List.length_map]; omega) (Nat.le_refl _)
theorem seen_rep {w : List Nat} {es : List Ed} (hw : Wd24 w) (hl : es.length ≤ 61) (h : ∀ e ∈ es, edFit e) : RepY (seenD w es) := by
  obtain ⟨t1, t2⟩ := dkT_ok (a := w.length) (b := es.length) (by have := hw.2.1; omega) (by omega)
  refine (Sx.list (n := 14000) (e := 3) (ds := [W w, .tuple (plD (tord w)), .int (es.length : Nat), .tuple (es.map edD), .int (w.length : Nat), W (dkT w.length es.length)]) fun x hx => ?_).rep (by simp only [List.length_cons, List.length_nil]; decide) (by decide)
  simp only [List.mem_cons, List.not_mem_nil, or_false] at hx
  rcases hx with rfl | rfl | rfl | rfl | rfl | rfl
  · exact (sx_wn hw.2.1 (ltr_lt hw.2.2)).mono (by decide) (by decide)
  · exact (sm_pl (r := tord w) fun i hi => by have := tord_lt hi; have := hw.2.1; omega).sx.mono (by rw [tord_len]; have := hw.2.1; omega) (by decide)
  · exact (sx_nat (by omega)).mono (by decide) (by decide)
  · exact sx_eds h hl
  · exact (sx_nat (by have := hw.2.1; omega)).mono (by decide) (by decide)
  · exact (sx_wn t1 t2).mono (by decide) (by decide)
theorem edFit_of {w : List Nat} {e : Ed} (hw : Wd24 w) (h : edOk w e) : edFit e := by
  cases e with
  | ch k c => exact ⟨by have := h.1; have := hw.2.1; omega, h.2⟩
  | gr c => exact h.2
  | sh => trivial
end Kd
namespace Kd
open PySem PySem.Spec PyProof.Rows L2 Kb Km
theorem x_fs4 {a b : Str} {T1 T2 : TD} {ρ : List Cell} {n : Nat} {Q : PQ} {Z : XD} (h : T1 ρ n (fun d n1 => ∃ i : Int, d = .int i ∧ i.natAbs.log2 < 1920 ∧ (toString i : Str).length ≤ 1000000 ∧ T2 ρ n1 (fun d2 n2 => ∃ j : Int, d2 = .int j ∧ j.natAbs.log2 < 1920 ∧ (toString j : Str).length ≤ 1000000 ∧ Q (.str (((toString i : Str) ++ a) ++ (toString j : Str) ++ b)) n2) Z) Z) : dFs4 a b T1 T2 ρ n Q Z := h
end Kd
/-! except (A, B) as n: errors of several classes -/
namespace Kd
open PySem PySem.Spec PyProof.Rows L2 Kb Km
section
variable {X : Cx} {E : XK} {pos : Pos}
def exP (m i : Nat) (e : DEnds) (l : List (Addr × (Addr → Option Addr → TSD))) : XD := fun cls fs n1 => ∃ C T, (C, T) ∈ l ∧ cls = .ref C ∧ ∀ a d, T a d { nx := fun ρ n => e.nx (ρ.set i .no) n, rt := e.rt, bk := fun ρ n => e.bk (ρ.set i .no) n, ct := fun ρ n => e.ct (ρ.set i .no) n, ex := X0 } ((List.replicate m .no).set i (.x a d fs none)) n1
def dTryP (m i : Nat) (l : List (Addr × (Addr → Option Addr → TSD))) (Tb : TSD) : TSD := fun e ρ n => Tb { e with ex := exP m i e l } ρ n
/-- the suite, for each class -/
inductive Sts (X : Cx) (cs : List Value) (su : List Stmt) : List (Addr × (Addr → Option Addr → TSD)) → Prop
  | nil : Sts X cs su []
  | cons {C : Addr} {T : Addr → Option Addr → TSD} {l : List (Addr × (Addr → Option Addr → TSD))} (hem : PySem.W.exmAny X.K (.ref C) cs = some true)
      (h : ∀ (a : Addr) (oe : Obj) (d : Option Addr) (pn : List (Addr × Obj)), L2N.Zn (.ref C) d oe → (∃ vs, oe.data = .fields vs) → X.base.get? a = none → DSs E0 (X.suite a ((a, oe) :: pn)) su (T a d)) (r : Sts X cs su l) : Sts X cs su ((C, T) :: l)
theorem Sts.get {X : Cx} {cs : List Value} {su : List Stmt} {l : List (Addr × (Addr → Option Addr → TSD))} (h : Sts X cs su l) {C : Addr} {T : Addr → Option Addr → TSD} (m : (C, T) ∈ l) : PySem.W.exmAny X.K (.ref C) cs = some true ∧
    ∀ (a : Addr) (oe : Obj) (d : Option Addr) (pn : List (Addr × Obj)), L2N.Zn (.ref C) d oe → (∃ vs, oe.data = .fields vs) → X.base.get? a = none → DSs E0 (X.suite a ((a, oe) :: pn)) su (T a d) := by
  induction h with
  | nil => cases m
  | cons hem hh r ih =>
    rcases List.mem_cons.mp m with e | e
    · cases e; exact ⟨hem, hh⟩
    · exact ih e
end
section
variable {ρ : List Cell} {n m i : Nat} {e : DEnds} {C : Addr} {Tb : TSD} {T : Addr → Option Addr → TSD} {l : List (Addr × (Addr → Option Addr → TSD))}
theorem x_tryP (h : Tb { e with ex := exP m i e l } ρ n) : dTryP m i l Tb e ρ n := h
end
end Kd
namespace Kd
open PySem PySem.Spec PyProof.Rows L2 Kb Km
end Kd
namespace Kd
open PySem PySem.Spec PyProof.Rows L2 Kb Km
end Kd
namespace Kd
open PySem PySem.Spec PyProof.Rows L2 Kb Km
theorem fs4_n {k : Nat} (h : k ≤ 100) {P : Prop} (q : P) : ((k : Nat) : Int).natAbs.log2 < 1920 ∧ (toString ((k : Nat) : Int) : Str).length ≤ 1000000 ∧ P := by
  obtain ⟨i, e, h1, h2, _⟩ := fs4_num h (P := fun _ => True) trivial
  cases e
  exact ⟨h1, h2, q⟩
end Kd
/-! edits with any values; their errors -/
namespace Kd
open PySem PySem.Spec PyProof.Rows L2 Kb Km
def one1 : PyData → Bool
  | .str z => decide (z.cps.toList.length = 1)
  | _ => false
/-- a letter, of any value -/
def letB (d : PyData) : Bool := isNoneD (werr d) && one1 d
def chOf : PyData → Nat
  | .str z => z.cps.toList.headD 0
  | _ => 0
def natOf : PyData → Nat
  | .int i => i.toNat
  | _ => 0
theorem letB_of {d : PyData} (h : letB d = true) : Ltr (chOf d) ∧ d = W [chOf d] := by
  unfold letB at h
  rw [Bool.and_eq_true] at h
  obtain ⟨h1, h2⟩ := h
  cases d with
  | str z =>
    have e := str_W z
    unfold one1 at h2
    have h2 := of_decide_eq_true h2
    obtain ⟨c, hc⟩ := List.length_eq_one_iff.mp h2
    rw [hc] at e
    have ec : chOf (.str z) = c := by show z.cps.toList.headD 0 = c; rw [hc]; rfl
    rw [ec]
    refine ⟨?_, e⟩
    rw [e, werr_W] at h1
    cases hb : abcB c with
    | true => exact (of_decide_eq_true hb : 97 ≤ c ∧ c ≤ 122)
    | false =>
      rw [werL_at (L := [c]) (i := 0) (c := c) ⟨Nat.le_refl _, (show 1 ≤ 24 by decide)⟩ rfl hb fun j x hj => absurd hj (Nat.not_lt_zero _)] at h1
      cases h1
  | _ => cases h2
inductive Eg
  | ch (p l : PyData)
  | gr (l : PyData)
  | sh
def egD : Eg → PyData
  | .ch p l => .tuple [.str "change", p, l]
  | .gr l => .tuple [.str "grow", l]
  | .sh => .tuple [.str "shrink"]
/-- the errors of desks -/
inductive Er
  | place (d : PyData)
  | letter (d : PyData)
  | long
  | last
  | many
  | none
def egOut (w : List Nat) : Eg → Except Er Ed
  | .ch p l => if inB 0 w.length p = true then (if letB l = true then .ok (.ch (natOf p) (chOf l)) else .error (.letter l)) else .error (.place p)
  | .gr l => if letB l = true then (if w.length = 24 then .error .long else .ok (.gr (chOf l))) else .error (.letter l)
  | .sh => if w.length = 1 then .error .last else .ok .sh
/-- with so many edits in effect -/
def egAns (w : List Nat) (k : Nat) (e : Eg) : Except Er Ed := if 60 ≤ k then .error .many else egOut w e
/-- the classes of the errors -/
structure Cs where
  place : Addr
  letter : Addr
  long : Addr
  last : Addr
  many : Addr
  none : Addr
def erX (c : Cs) (X : XD) (n : Nat) : Er → Prop
  | .place d => X (.ref c.place) [(Str.ofString "value", d)] n
  | .letter d => X (.ref c.letter) [(Str.ofString "value", d)] n
  | .long => X (.ref c.long) [(Str.ofString "limit", .int 24)] n
  | .last => X (.ref c.last) [] n
  | .many => X (.ref c.many) [] n
  | .none => X (.ref c.none) [] n
/-- a value that may be asked -/
def Fit (d : PyData) : Prop := isStm d = false ∧ ∀ z, d = .str z → z.length ≤ 1000
def egFit : Eg → Prop
  | .ch p l => Fit p ∧ Fit l
  | .gr l => Fit l
  | .sh => True
theorem eg_ch (p l : PyData) : egD (.ch p l) = .tuple [.str "change", p, l] := rfl
theorem eg_gr (l : PyData) : egD (.gr l) = .tuple [.str "grow", l] := rfl
theorem eg_sh : egD .sh = .tuple [.str "shrink"] := rfl
/-- what is done can be done -/
theorem egOut_ok {w : List Nat} {e : Eg} {x : Ed} (h : egOut w e = .ok x) (hw : Wd24 w) : edOk w x ∧ egD e = edD x := by
  cases e with
  | ch p l =>
    have h : (if inB 0 w.length p = true then (if letB l = true then Except.ok (Ed.ch (natOf p) (chOf l)) else .error (Er.letter l)) else .error (.place p)) = .ok x := h
    split at h
    · split at h
      · rename_i h1 h2
        cases h
        obtain ⟨l1, l2⟩ := letB_of h2
        obtain ⟨i, rfl⟩ : ∃ i, p = .int i := by cases p <;> first | exact ⟨_, rfl⟩ | cases h1
        have h1 : 0 ≤ i ∧ i < w.length := of_decide_eq_true h1
        refine ⟨⟨by show i.toNat < _; omega, l1⟩, ?_⟩
        show PyData.tuple [_, _, _] = .tuple [_, _, _]
        rw [← l2, show ((natOf (.int i) : Nat) : Int) = i by show ((i.toNat : Nat) : Int) = i; omega]
      · cases h
    · cases h
  | gr l =>
    have h : (if letB l = true then (if w.length = 24 then Except.error Er.long else .ok (Ed.gr (chOf l))) else .error (.letter l)) = .ok x := h
    split at h
    · split at h
      · cases h
      · rename_i h1 h2
        cases h
        obtain ⟨l1, l2⟩ := letB_of h1
        refine ⟨⟨by have := hw.2.1; omega, l1⟩, ?_⟩
        show PyData.tuple [_, _] = .tuple [_, _]
        rw [← l2]
    · cases h
  | sh =>
    have h : (if w.length = 1 then Except.error Er.last else .ok Ed.sh) = .ok x := h
    split at h
    · cases h
    · cases h
      exact ⟨by show 1 < w.length; have := hw.1; omega, rfl⟩
end Kd
namespace Kd
open PySem PySem.Spec PyProof.Rows L2 Kb Km
/-! ### o.f = value, f a property with a setter -/
/-- the class has the name as a property at p whose setter is the def at g -/
structure SetOf (K : PySem.W.Frag) (C : Addr) (f : Str) (p g : Addr) : Prop where
  tk : PySem.W.takerIn K C f = some (some (.ref p))
  ty : PySem.W.typeIn K (.ref p) = some (.type "property")
  rc : ∃ u rest, PySem.W.recIn K p "property" = some (u :: .ref g :: rest)
theorem SetOf.of {K : PySem.W.Frag} {C : Addr} {f : Str} {p g : Addr} {u : Value} {rest : List Value} (h1 : PySem.W.findIn K (.ref C) f = some (some (.ref p))) (h2 : PySem.W.takesIn K (.ref p) = some true) (h3 : PySem.W.typeIn K (.ref p) = some (.type "property"))
    (h4 : PySem.W.recIn K p "property" = some (u :: .ref g :: rest)) : SetOf K C f p g := ⟨by
  unfold PySem.W.takerIn
  rw [h1]
  show (PySem.W.takesIn K (.ref p)).map _ = _
  rw [h2]; rfl, h3, u, rest, h4⟩
def sSetP (C : Addr) (sp : Sp) (E : XK) (to tv : TE) : TS := fun D σ H => tv σ H fun y H1 => to σ H1 fun x H2 => ∃ a dx fs, x = .ref a ∧ H2 a = some (.ins C dx fs) ∧ sp [.ref a, y] H2 (fun _ H3 => D.nx σ H3) E
section
variable {X : Cx} {CX : CXT} {k : Nat} {C p g : Addr} {f : Str} {fd : FuncData} {ps : List Str} {sp : Sp} {S : SpD} {E : XK} {o value : Expr} {pos pos' : Pos} {to tv : TE} {To Tv : TD}
theorem ps_setP (c : Cls X.K C) (hp : SetOf X.K C f p g) (Fn : FnOk X.prog X.w X.K X.mg X.base CX k g fd ps sp) (hr : Room (k + 2) X.A) (hb : Binds X.K fd ps []) (hx : Passes CX X E) (ho : PE X o to) (hv : PE X value tv)
    (hs : swapsWith value (some (.Attribute o f pos')) pos.line X.env = pure false := by rfl) : PS X (.Assign [.Attribute o f pos'] value pos) (sSetP C sp E to tv) := by
  refine ⟨fun pins s σ H D I h => ?_⟩
  refine plainObj_wpAny_Assign_Attribute (thn (hv.run pins s σ H _ I h) fun u s1 ⟨y, H1, I1, ry, q⟩ => thn (ho.run pins s1 σ H1 _ I1 q) fun ov s2 ⟨x, H2, I2, rx, a, dx, fs, ex, ea, q2⟩ => ?_) hs
  subst ex
  obtain rfl : ov = Value.ref a := rx
  obtain ⟨mA, O, _, _, _, _⟩ := ins_get I2.hok ea
  obtain ⟨od, J, _⟩ := O.look
  obtain ⟨g0, rest, hrec⟩ := hp.rc
  have I3 := I2.tok (s2.toks + 1)
  have hl : ([Value.ref a, u] ++ []).length = ps.length := (Fn.len _ _ _ _ q2)
  refine PySem.W.set_plain I2.kIn J c.sa (PySem.W.osa_descr (s := { s2 with toks := s2.toks + 1 }) PySem.W.KF.slot_pset I2.kIn J c.po hp.tk hp.ty (PySem.W.prop_set (s := { s2 with toks := s2.toks + 1 }) I2.kIn hrec ?_))
  refine codeAny_mono (Fn.run X.A.in1.in1 X.stack { s2 with toks := s2.toks + 1 } H2 ⟨[.ref a, u], []⟩ [.ref a, u] [.ref a, y] _ E hr.in1.in1 I3.env0.in1.in1 (hb _ [.ref a, u] I3.kIn hl) (.cons rfl (.cons ry .nil)) q2) fun r s' hq => ?_
  cases r with
  | error er => exact hx pins σ H2 _ er s' I3 hq
  | ok fl =>
    cases fl with
    | ret v =>
      obtain ⟨v', H', I4, _, q3⟩ := I3.after hq
      exact ⟨σ, H', I4, q3⟩
    | next => exact False.elim hq
    | brk => exact False.elim hq
    | cont => exact False.elim hq
def dSetP (C : Addr) (S : SpD) (To Tv : TD) : TSD := fun e ρ n => Tv ρ n (fun y n1 => To ρ n1 (fun x n2 => ∃ a dx fs, x = OBJ a ∧ Kw.ob n2 a = some (.ins C dx fs) ∧ S [x, y] n2 (fun _ n3 => e.nx ρ n3) e.ex) e.ex) e.ex
theorem ds_setP (c : Cls X.K C) (hp : SetOf X.K C f p g) (Fn : FnOk X.prog X.w X.K X.mg X.base CX k g fd ps (spD X.K S)) (hr : Room (k + 2) X.A) (hb : Binds X.K fd ps []) (hx : Passes CX X E) (ha : DE E X o To) (hv : DE E X value Tv)
    (hs : swapsWith value (some (.Attribute o f pos')) pos.line X.env = pure false := by rfl) : DS E X (.Assign [.Attribute o f pos'] value pos) (dSetP C S To Tv) :=
  ps_weak (ps_setP c hp Fn hr hb hx ha hv hs) fun D σ H ⟨F, O, ρ, n, e, R, t, m⟩ => ⟨F, _, ρ, n, _, e.ex, R, t, fun y n1 v H1 q1 e1 d1 => ⟨F, _, ρ, n1, _, e.ex, R.ext e1, q1, fun x n2 u H2 q2 e2 d2 => by
    obtain ⟨a, dx, fs, rfl, ho, q⟩ := q2
    cases d2.obj'
    have R2 := (R.ext e1).ext e2
    obtain ⟨oa, ⟨xs, hH, hx⟩, _, hnl⟩ := R2.rw.wd.wok.obj a _ ho
    exact ⟨a, dx, xs, rfl, hH, F.g, _, n2, [OBJ a, y], _, e.ex, R2.rw.wd, .cons (.obj a) (.cons (d1.same e2.hid) .nil), q, fun d n' v' H' q3 e3 d3 => m.nx _ σ _ ρ _ (R2.ext e3) q3, MX.step (m.mx R.rw) (e1.trans e2)⟩, MX.step (m.mx R.rw) e1⟩, m.mx R.rw⟩
theorem x_setP {C : Addr} {S : SpD} {To Tv : TD} {e : DEnds} {ρ : List Cell} {n : Nat} (h : Tv ρ n (fun y n1 => To ρ n1 (fun x n2 => ∃ a dx fs, x = OBJ a ∧ Kw.ob n2 a = some (.ins C dx fs) ∧ S [x, y] n2 (fun _ n3 => e.nx ρ n3) e.ex) e.ex) e.ex) : dSetP C S To Tv e ρ n := h
end
end Kd
namespace Kd
open PySem PySem.Spec PyProof.Rows L2 Kb Km
/-! ### a classmethod called through an instance; a class held in a name, called -/
section
variable {X : Cx} {CX : CXT} {k : Nat} {C p g : Addr} {f m x : Str} {fd : FuncData} {ps : List Str} {sp : Sp} {S : SpD} {E : XK} {o e : Expr} {es : List Expr} {pos pos' np : Pos} {to : TE} {t : TA} {To : TD} {Ts : TAD} {i : Nat}
def dMakeV (i : Nat) (C : Addr) (S : SpD) (Ts : TAD) : TD := fun ρ n Q Z => ρ[i]? = some (.d (OBJ C)) ∧ dMake C S Ts ρ n Q Z
/-- o.m(..), m a classmethod of o's class -/
def dIMeth (C : Addr) (m : Str) (S : SpD) (To : TD) (Ts : TAD) : TD := fun ρ n Q Z => To ρ n (fun x n1 => ∃ a dx fs, x = OBJ a ∧ Kw.ob n1 a = some (.ins C dx fs) ∧ fs.lookup m = none ∧ Ts ρ n1 (fun ds n2 => S (OBJ C :: ds) n2 Q Z) Z) Z
theorem x_makeV {ρ : List Cell} {n : Nat} {Q : PQ} {Z : XD} (hi : ρ[i]? = some (.d (OBJ C))) (h : dMake C S Ts ρ n Q Z) : dMakeV i C S Ts ρ n Q Z := ⟨hi, h⟩
theorem x_imeth {ρ : List Cell} {n : Nat} {Q : PQ} {Z : XD} (h : To ρ n (fun x n1 => ∃ a dx fs, x = OBJ a ∧ Kw.ob n1 a = some (.ins C dx fs) ∧ fs.lookup m = none ∧ Ts ρ n1 (fun ds n2 => S (OBJ C :: ds) n2 Q Z) Z) Z) : dIMeth C m S To Ts ρ n Q Z := h
end
end Kd
namespace Kd
open PySem PySem.Spec PyProof.Rows L2 Kb Km
/-! ### several clauses without a name -/
section
variable {X : Cx} {E : XK} {pos : Pos}
inductive ClausesU (X : Cx) : List ExceptHandler → List (Addr × TSD) → Prop
  | nil : ClausesU X [] []
  | cons {x : Str} {C : Addr} {T : TSD} {b0 : Stmt} {su : List Stmt} {np hp : Pos} {hs : List ExceptHandler} {l : List (Addr × TSD)} (hc : Names X x (.ref C))
      (hsu : ∀ (a : Addr) (oe : Obj) (pn : List (Addr × Obj)), DSs E0 (X.suite a ((a, oe) :: pn)) (b0 :: su) T) (r : ClausesU X hs l) : ClausesU X (.ExceptHandler (some (.Name x np)) none (b0 :: su) hp :: hs) ((C, T) :: l)
def exU (K : PySem.W.Frag) (m : Nat) (e : DEnds) : List (Addr × TSD) → XD
  | [] => e.ex
  | (C, T) :: r => fun cls fs n1 => ∃ b, PySem.W.exmOne K cls (.ref C) = some b ∧ (b = true → T { e with ex := X0 } (List.replicate m .no) n1) ∧ (b = false → exU K m e r cls fs n1)
def dTryU (K : PySem.W.Frag) (m : Nat) (l : List (Addr × TSD)) (Tb : TSD) : TSD := fun e ρ n => Tb { e with ex := exU K m e l } ρ n
def liftU (K : PySem.W.Frag) : List (Addr × TSD) → List (Value × (Addr → Value → Option Addr → TS))
  | [] => []
  | (C, T) :: r => (.ref C, fun _ _ _ D σ H => liftS K E0 T D σ H) :: liftU K r
theorem ClausesU.ps {hs : List ExceptHandler} {l : List (Addr × TSD)} (h : ClausesU X hs l) : L2N.HdsOk X hs (liftU X.K l) := by
  induction h with
  | nil => exact .nil
  | cons hc hsu _ ih => exact .cons hc (fun a oe _ _ pn _ _ => hsu a oe pn) ih
theorem ds_tryU {m : Nat} {body : List Stmt} {h0 : ExceptHandler} {hs : List ExceptHandler} {l : List (Addr × TSD)} {Tb : TSD} (stk : X.stack = X.env :: X.outer) (frm : X.env.frame = some X.env.locals) (hm : X.N.length = m) (tk : TkE X E)
    (hb : ∀ (E' : XK) (pn : List (Addr × Obj)) (xe : Value → Shared → Prop), Passes (L2N.CX X.prog X.w) (X.tr pn xe) E' → PassesOwn (model X.prog X.w) X.A X.env xe → DSs E' (X.tr pn xe) body Tb) (hh : ClausesU X (h0 :: hs) l) :
    DS E X (.Try body (h0 :: hs) [] [] pos) (dTryU X.K m l Tb) := by
  refine ps_weak (L2N.ps_try_many (tb := fun W => liftS X.K (fun cls d H => ∀ σ : St, σ.length = X.N.length → W cls d σ H) Tb) stk frm tk (fun W pn xe tk' own => hb _ pn xe (fun pins σ H s e s' I c => tk' e s' (L2N.XE.of_call I (fun cls d H' z => z σ I.len) c)) own) hh.ps) ?_
  rintro D σ H ⟨F, O, ρ, k, e, R, t, ms⟩
  refine ⟨F, O, ρ, k, _, R, t, ⟨ms.nx, ms.bk, ms.ct, ms.rt, fun O1 H1 n1 cls fs oa r ok q σ1 len => ?_⟩⟩
  clear t hh hb
  induction l with
  | nil => exact ms.ex O1 H1 n1 cls fs oa r ok q
  | cons y l ih =>
    obtain ⟨C, T⟩ := y
    obtain ⟨b, hem, hy, hn⟩ := q
    refine ⟨b, hem, fun eb a ha => ?_, fun eb => ih (hn eb)⟩
    have R0 : Rel X.K F O1 σ1 H1 (List.replicate m .no) n1 := by
      have z := r.none (K := X.K) σ1
      rwa [len, hm] at z
    exact ⟨F, O1, _, n1, _, R0, hy eb, ⟨ms.nx, ms.bk, ms.ct, ms.rt, fun _ _ _ _ _ _ _ _ z => z.elim⟩⟩
theorem x_tryU {m : Nat} {l : List (Addr × TSD)} {Tb : TSD} {e : DEnds} {ρ : List Cell} {n : Nat} {K : PySem.W.Frag} (h : Tb { e with ex := exU K m e l } ρ n) : dTryU K m l Tb e ρ n := h
theorem exU_no {K : PySem.W.Frag} {m : Nat} {e : DEnds} {C : Addr} {T : TSD} {r : List (Addr × TSD)} {cls : Value} {fs : List (Str × PyData)} {n : Nat} (hb : PySem.W.exmOne K cls (.ref C) = some false) (h : exU K m e r cls fs n) : exU K m e ((C, T) :: r) cls fs n := ⟨false, hb, (fun z => nomatch z), fun _ => h⟩
theorem exU_yes {K : PySem.W.Frag} {m : Nat} {e : DEnds} {C : Addr} {T : TSD} {r : List (Addr × TSD)} {cls : Value} {fs : List (Str × PyData)} {n : Nat} (hb : PySem.W.exmOne K cls (.ref C) = some true) (h : T { e with ex := X0 } (List.replicate m .no) n) : exU K m e ((C, T) :: r) cls fs n := ⟨true, hb, fun _ => h, fun z => nomatch z⟩
end
end Kd
/-! consoles: numbers of three digits, commands -/
namespace Kd
open PySem PySem.Spec PyProof.Rows L2 Kb Km
theorem nums_ok3 : ∀ k ∈ List.range 1000, numsOk k = true := by decide +kernel
theorem num_ok3 {k : Nat} (h : k < 1000) : (∀ c ∈ numW k, 48 ≤ c ∧ c ≤ 57) ∧ 0 < (numW k).length ∧ (numW k).length ≤ 3 ∧ PySem.intText? ⟨(numW k).toArray⟩ = some (k : Int) := by
  have := nums_ok3 k (List.mem_range.mpr h)
  unfold numsOk at this
  rw [Bool.and_eq_true, Bool.and_eq_true, List.all_eq_true, decide_eq_true_iff, decide_eq_true_iff] at this
  exact ⟨fun c hc => of_decide_eq_true (this.1.1 c hc), this.1.2.1, this.1.2.2, this.2⟩
theorem x_strM {P : PyData → Prop} {k : Nat} (h : k < 1000) (q : P (W (numW k))) : rStrOf [.int (k : Nat)] P := by
  have s := (Sm.int (i := (k : Nat)) (k := 4) (by decide) (by omega) (by decide)).sh
  simp only [PyData.showable, decide_eq_true_eq] at s
  refine ⟨s, Nat.le_trans (int_text_length_le10 (k := 4) (by decide) (by omega)) (by decide), ?_⟩
  rw [num_data]
  exact q
theorem x_intM {P : PyData → Prop} {k : Nat} (h : k < 1000) (q : P (.int (k : Nat))) : rIntS [W (numW k)] P := ⟨_, (num_ok3 h).2.2.2, by show (numW k).toArray.size ≤ 640; rw [List.size_toArray]; have := (num_ok3 h).2.2.1; omega, q⟩
section
variable {X : Cx} {E : XK} {e : Expr} {Te : TD} {pos p1 p2 : Pos} {ρ : List Cell} {n : Nat}
/-- f"a{e}": e is a number -/
def dFsI (a : Str) (T : TD) : TD := fun ρ n Q X => T ρ n (fun d n1 => ∃ k : Nat, d = .int (k : Nat) ∧ k < 1000 ∧ Q (W (a.cps.toList ++ numW k)) n1) X
theorem de_fsI {a : Str} {j} (he : DE E X e Te) (ha : a.length ≤ 1000000 := by decide +kernel) : DE E X (.JoinedStr [.Constant (.str a) j p1, .FormattedValue e (-1) none p2] pos) (dFsI a Te) :=
  pe_weak (pe_joined (.cons pe_str (.cons (pe_fmt he) .nil))) fun σ H Q ⟨F, O, ρ, n, Qd, Xd, R, t, mq, mx⟩ => by
    have hz : sizeLine ≥ 5000000 := by decide
    refine ⟨a, rfl, by rw [empty_app]; omega, F, _, ρ, n, _, Xd, R, t, fun d n1 v H1 ⟨k, ed, hk, q⟩ e1 d1 => ?_, mx⟩
    subst ed
    have s := (Sm.int (i := (k : Nat)) (k := 4) (by decide) (by omega) (by decide)).sh
    simp only [PyData.showable, decide_eq_true_eq] at s
    have hl : (toString (k : Int) : Str).length ≤ 3 := by
      rw [str_num]
      show (numW k).toArray.size ≤ _
      rw [List.size_toArray]
      exact (num_ok3 hk).2.2.1
    refine .inr ⟨(k : Nat), d1.int', s, _, rfl, by rw [Str.length_append, empty_app]; omega, ?_⟩
    show Q (.str ((Str.empty ++ a) ++ _)) H1
    rw [empty_app]
    have eq : W (a.cps.toList ++ numW k) = .str (a ++ (toString (k : Int) : Str)) := by
      rw [str_num, w_of, cps_toList_append]
    rw [eq] at q
    exact mq _ n1 _ H1 q e1 (.str _ (by rw [Str.length_append]; omega))
theorem x_fsI {a : Str} {T : TD} {Q : PQ} {Z : XD} (h : T ρ n (fun d n1 => ∃ k : Nat, d = .int (k : Nat) ∧ k < 1000 ∧ Q (W (a.cps.toList ++ numW k)) n1) Z) : dFsI a T ρ n Q Z := h
end
theorem werr_word {L : List Nat} (h : Wd24 L) : werr (W L) = .none := by
  rw [werr_W]
  exact werL_none ⟨h.1, h.2.1⟩ fun j x _ hx => decide_eq_true (h.2.2 x (List.mem_of_getElem? hx))
theorem fit_W {L : List Nat} (h : L.length ≤ 1000) : Fit (W L) := ⟨rfl, fun z e => by
  unfold W at e
  cases e
  show L.toArray.size ≤ _
  rw [List.size_toArray]; exact h⟩
/-- a pattern: a word or none -/
def patD : Option (List Nat) → PyData
  | none => .none
  | some P => W P
def okPat (p : Option (List Nat)) : Prop := ∀ P, p = some P → Wd24 P
/-- where it stands -/
def fndD (A : List Nat) : Option (List Nat) → PyData
  | none => .none
  | some P => .tuple (plD (plc A P))
theorem werr_some {d : PyData} (h : isNoneD (werr d) = true) : ∃ P, Wd24 P ∧ d = W P := by
  cases d with
  | str z =>
    refine ⟨z.cps.toList, ?_, str_W z⟩
    have h : isNoneD (werL z.cps.toList) = true := h
    generalize z.cps.toList = L at h
    unfold werL at h
    split at h
    · rename_i hl
      split at h
      · cases h
      · rename_i hf
        refine ⟨by omega, hl.2, fun c hc => ?_⟩
        have := List.findIdx?_eq_none_iff.mp hf c hc
        have hb : abcB c = true := by cases e : abcB c with | true => rfl | false => rw [e] at this; cases this
        exact (of_decide_eq_true hb : 97 ≤ c ∧ c ≤ 122)
    · cases h
  | _ => cases h
theorem nl_pat (p : Option (List Nat)) : nl (patD p) = true := by cases p <;> rfl
section
variable {X : Cx} {E : XK} {a b : Expr} {rest : List Expr} {Ta Tb : TD} {pos : Pos}
/-- a or b, by the truth of any data but dicts -/
def dOrD (Ta Tb : TD) : TD := fun ρ n Q Z => Ta ρ n (fun x n1 => tyD x ≠ "dict" ∧ if truD x = true then Q x n1 else Tb ρ n1 Q Z) Z
theorem de_orD (ha : DE E X a Ta) (hb : DE E X (.BoolOp .Or (b :: rest) pos) Tb) : DE E X (.BoolOp .Or (a :: b :: rest) pos) (dOrD Ta Tb) :=
  pe_weak (L2.pe_orT ha hb) fun σ H Q ⟨F, O, ρ, n, Qd, Xd, R, t, mq, mx⟩ => ⟨F, _, ρ, n, _, Xd, R, t, fun d n1 v H1 ⟨nd, q1⟩ e1 d1 => by
    refine ⟨truD d, ?_, ?_⟩
    · cases d with
      | none => rw [d1.none']; rfl
      | bool b => rw [d1.bool']; rfl
      | int i => rw [d1.int']; rfl
      | str z => rw [d1.str']; exact ⟨d1.strLen, rfl⟩
      | list ds =>
        obtain ⟨a, xs, rfl, h1, h2⟩ := d1.list'
        exact .inl ⟨xs, (hid_same _ H1).seq h1, by show (!ds.isEmpty) = _; rw [isEmpty_dq h2]⟩
      | tuple ds =>
        obtain ⟨a, xs, rfl, h1, h2⟩ := d1.tuple'
        exact .inr (.inl ⟨xs, (hid_same _ H1).tup h1, by show (!ds.isEmpty) = _; rw [isEmpty_dq h2]⟩)
      | dict ks => exact absurd rfl nd
    · by_cases c : truD d = true
      · rw [if_pos c] at q1 ⊢
        exact mq _ n1 _ H1 q1 e1 d1
      · rw [if_neg c] at q1 ⊢
        exact ⟨F, _, ρ, n1, Qd, Xd, R.ext e1, q1, mq.step e1, mx.step e1⟩, mx⟩
theorem x_orD {ρ : List Cell} {n : Nat} {Q : PQ} {Z : XD} (h : Ta ρ n (fun x n1 => tyD x ≠ "dict" ∧ if truD x = true then Q x n1 else Tb ρ n1 Q Z) Z) : dOrD Ta Tb ρ n Q Z := h
end
end Kd
/-! consoles: what they answer -/
namespace Kd
open PySem PySem.Spec PyProof.Rows L2 Kb Km
/-- a console: its desk, and its last pairs -/
abbrev cnO (C dx a : Nat) (ps : List PyData) : Kw.Ob := .ins C dx [(Str.ofString "desk", OBJ a), (Str.ofString "pairs", .tuple ps)]
def okW : List Nat := [111, 107, 32]
def okT (k : Nat) : List Nat := okW ++ numW k
def wdW : List Nat := [119, 111, 114, 100]
def orW : List Nat := [111, 114, 100, 101, 114]
def noW : List Nat := [110, 111, 110, 101]
theorem fs_W (a : Str) (L : List Nat) : PyData.str (a ++ ⟨L.toArray⟩) = W (a.cps.toList ++ L) := by
  rw [w_of, cps_toList_append]
def shC : List Nat := [115, 104, 114, 105, 110, 107]
def unC : List Nat := [117, 110, 100, 111]
def foC : List Nat := [102, 111, 117, 110, 100]
def paC : List Nat := [112, 97, 114, 116, 115]
def faC : List Nat := [102, 97, 99, 116, 111, 114, 115]
def grC : List Nat := [103, 114, 111, 119]
def lkC : List Nat := [108, 111, 111, 107]
def rkC : List Nat := [114, 97, 110, 107]
def chC : List Nat := [99, 104, 97, 110, 103, 101]
def unkW : List Nat := [117, 110, 107, 110, 111, 119, 110, 32, 99, 111, 109, 109, 97, 110, 100]
/-- a desk as a console sees it -/
structure Dst where
  w : List Nat
  ws : List (List Nat)
  es : List Ed
  p : Option (List Nat)
abbrev Dst.ob (s : Dst) (C dx : Nat) : Kw.Ob := dkO C dx s.w s.ws s.es (patD s.p)
structure Dst.Ok (s : Dst) : Prop where
  w : Wd24 s.w
  n : s.es.length ≤ 60
  l : s.ws.length = s.es.length
  ws : ∀ v ∈ s.ws, Wd24 v
  p : okPat s.p
def Dst.did (s : Dst) (x : Ed) : Dst := ⟨edW s.w x, s.ws ++ [s.w], s.es ++ [x], s.p⟩
def Dst.undone (s : Dst) : Dst := ⟨s.ws.getLastD s.w, s.ws.dropLast, s.es.dropLast, s.p⟩
inductive Ec
  | er (r : Er)
  | word (d : PyData)
def ecX (c : Cs) (cw : Addr) (X : XD) (n : Nat) : Ec → Prop
  | .er r => erX c X n r
  | .word d => X (.ref cw) [(Str.ofString "error", d)] n
abbrev Rs := Except Ec (List Nat × Dst)
def unkA (s : Dst) : Rs := .ok (unkW, s)
def doE (s : Dst) (e : Eg) : Rs := match egAns s.w s.es.length e with
  | .ok x => .ok (okT (s.es.length + 1), s.did x)
  | .error r => .error (.er r)
def plT (r : List Nat) : List Nat := if r = [] then noW else joinB (r.map numW)
def valN (v : List Nat) : Nat := ((PySem.intText? ⟨v.toArray⟩).getD 0).toNat
theorem valN_num {k : Nat} (h : k < 1000) : valN (numW k) = k := by
  unfold valN
  rw [(num_ok3 h).2.2.2]
  rfl
def isN (v : List Nat) : Bool := decide (v ∈ (List.range 1000).map numW)
theorem isN_val {v : List Nat} (h : isN v = true) : valN v < 1000 ∧ v = numW (valN v) := by
  obtain ⟨k, hk, rfl⟩ := List.mem_map.mp (of_decide_eq_true h)
  rw [valN_num (List.mem_range.mp hk)]
  exact ⟨List.mem_range.mp hk, rfl⟩
def lookA (s : Dst) (v : List Nat) : Rs := if isNoneD (werr (W v)) = true then .ok (plT (plc s.w v), ⟨s.w, s.ws, s.es, some v⟩) else .error (.word (werr (W v)))
def rankA (s : Dst) (v : List Nat) : Rs := if isN v = true then (if valN v < s.w.length then .ok (numW (cnt s.w (valN v)), s) else .error (.er (.place (.int (valN v : Nat))))) else unkA s
def twoA (s : Dst) (nm v : List Nat) : Rs := if nm = grC then doE s (.gr (W v)) else if nm = lkC then lookA s v else if nm = rkC then rankA s v else unkA s
def undoA (s : Dst) : Rs := if s.es = [] then .error (.er .none) else .ok (okT (s.es.length - 1), s.undone)
def oneA (s : Dst) (nm : List Nat) : Rs :=
  if nm = shC then doE s .sh else if nm = unC then undoA s else if nm = wdW then .ok (joinB [wdW, s.w], s) else if nm = orW then .ok (joinB (orW :: (tord s.w).map numW), s)
  else if nm = foC then .ok (plT (match s.p with | none => [] | some P => plc s.w P), s) else if nm = paC then .ok (numW (parts s.w).length, s) else if nm = faC then .ok (joinB (lcut s.w), s) else unkA s
def chA (s : Dst) (nm a b : List Nat) : Rs := if nm = chC then (if isN a = true then doE s (.ch (.int (valN a : Nat)) (W b)) else unkA s) else unkA s
def comA (s : Dst) (l : List (List Nat)) : Rs := if [] ∈ l then unkA s else match l with
  | [nm] => oneA s nm
  | [nm, v] => twoA s nm v
  | [nm, a, b] => chA s nm a b
  | _ => unkA s
theorem Dst.Ok.did {s : Dst} {x : Ed} (h : s.Ok) (hx : edOk s.w x) (hn : s.es.length < 60) : (s.did x).Ok := ⟨edW_ok h.w hx, by
  show (s.es ++ [x]).length ≤ 60
  rw [List.length_append, List.length_singleton]; omega, by
  show (s.ws ++ [s.w]).length = (s.es ++ [x]).length
  rw [List.length_append, List.length_append, List.length_singleton, List.length_singleton, h.l], fun v hv => by
  rcases List.mem_append.mp hv with hv | hv
  · exact h.ws v hv
  · rw [List.mem_singleton.mp hv]; exact h.w, h.p⟩
theorem doE_ok {s s' : Dst} {e : Eg} {t : List Nat} (h : s.Ok) (q : doE s e = .ok (t, s')) : s'.Ok := by
  unfold doE at q
  split at q
  · rename_i x hx
    cases q
    unfold egAns at hx
    split at hx
    · cases hx
    · exact h.did (egOut_ok hx h.w).1 (by omega)
  · cases q
def erT : Ec → List Nat
  | .er (.place _) => [101, 114, 114, 111, 114, 32, 78, 111, 80, 108, 97, 99, 101]
  | .er (.letter _) => [101, 114, 114, 111, 114, 32, 66, 97, 100, 76, 101, 116, 116, 101, 114]
  | .er .long => [101, 114, 114, 111, 114, 32, 84, 111, 111, 76, 111, 110, 103]
  | .er .last => [101, 114, 114, 111, 114, 32, 76, 97, 115, 116, 76, 101, 116, 116, 101, 114]
  | .er .many => [101, 114, 114, 111, 114, 32, 84, 111, 111, 77, 97, 110, 121, 69, 100, 105, 116, 115]
  | .er .none => [101, 114, 114, 111, 114, 32, 78, 111, 116, 104, 105, 110, 103, 84, 111, 85, 110, 100, 111]
  | .word _ => [101, 114, 114, 111, 114, 32, 66, 97, 100, 87, 111, 114, 100]
def ansA (s : Dst) (L : List Nat) : List Nat × Dst := match comA s (splW L) with
  | .ok r => r
  | .error e => (erT e, s)
/-- the last twenty -/
def last20 (l : List PyData) : List PyData := l.drop (l.length - 20)
/-- what a console notes of a value -/
def lineOf : PyData → PyData
  | .str z => .str z
  | _ => .none
def exeA (s : Dst) : PyData → List Nat × Dst
  | .str z => ansA s z.cps.toList
  | _ => (unkW, s)
theorem doE_y {s : Dst} {e : Eg} {x : Ed} (h : egAns s.w s.es.length e = .ok x) : doE s e = .ok (okT (s.es.length + 1), s.did x) := by unfold doE; rw [h]
theorem doE_n {s : Dst} {e : Eg} {r : Er} (h : egAns s.w s.es.length e = .error r) : doE s e = .error (.er r) := by unfold doE; rw [h]
theorem eg_room {w : List Nat} {k : Nat} {e : Eg} {x : Ed} (h : egAns w k e = .ok x) : k < 60 := by
  unfold egAns at h
  split at h
  · cases h
  · omega
/-- a name is compared -/
theorem x_nm {z : Str} {A : List Nat} (B : List Nat) {T F : Prop} (e : PyData.str z = W B) (t : A = B → T) (f : A ≠ B → F) : rEqv (W A) (.str z) fun d => ∃ b, d = .bool b ∧ if b = true then T else F := by
  rw [e]
  refine w_eq ⟨_, rfl, ?_⟩
  by_cases c : A = B
  · rw [if_pos (decide_eq_true c)]; exact t c
  · rw [if_neg (by simpa using c)]; exact f c
theorem oneA_shC (s : Dst) : oneA s shC = doE s .sh := by
  unfold oneA
  rw [if_pos rfl]
theorem oneA_unC (s : Dst) : oneA s unC = undoA s := by
  unfold oneA
  rw [if_neg (by decide), if_pos rfl]
theorem oneA_wdW (s : Dst) : oneA s wdW = .ok (joinB [wdW, s.w], s) := by
  unfold oneA
  rw [if_neg (by decide), if_neg (by decide), if_pos rfl]
theorem oneA_orW (s : Dst) : oneA s orW = .ok (joinB (orW :: (tord s.w).map numW), s) := by
  unfold oneA
  rw [if_neg (by decide), if_neg (by decide), if_neg (by decide), if_pos rfl]
theorem oneA_foC (s : Dst) : oneA s foC = .ok (plT (match s.p with | none => [] | some P => plc s.w P), s) := by
  unfold oneA
  rw [if_neg (by decide), if_neg (by decide), if_neg (by decide), if_neg (by decide), if_pos rfl]
theorem oneA_paC (s : Dst) : oneA s paC = .ok (numW (parts s.w).length, s) := by
  unfold oneA
  rw [if_neg (by decide), if_neg (by decide), if_neg (by decide), if_neg (by decide), if_neg (by decide), if_pos rfl]
theorem oneA_faC (s : Dst) : oneA s faC = .ok (joinB (lcut s.w), s) := by
  unfold oneA
  rw [if_neg (by decide), if_neg (by decide), if_neg (by decide), if_neg (by decide), if_neg (by decide), if_neg (by decide), if_pos rfl]
theorem oneA_no {s : Dst} {nm : List Nat} (h0 : nm ≠ shC) (h1 : nm ≠ unC) (h2 : nm ≠ wdW) (h3 : nm ≠ orW) (h4 : nm ≠ foC) (h5 : nm ≠ paC) (h6 : nm ≠ faC) : oneA s nm = unkA s := by
  unfold oneA
  rw [if_neg h0, if_neg h1, if_neg h2, if_neg h3, if_neg h4, if_neg h5, if_neg h6]
theorem twoA_grC (s : Dst) (v : List Nat) : twoA s grC v = doE s (.gr (W v)) := by
  unfold twoA
  rw [if_pos rfl]
theorem twoA_lkC (s : Dst) (v : List Nat) : twoA s lkC v = lookA s v := by
  unfold twoA
  rw [if_neg (by decide), if_pos rfl]
theorem twoA_rkC (s : Dst) (v : List Nat) : twoA s rkC v = rankA s v := by
  unfold twoA
  rw [if_neg (by decide), if_neg (by decide), if_pos rfl]
theorem twoA_no {s : Dst} {nm v : List Nat} (h0 : nm ≠ grC) (h1 : nm ≠ lkC) (h2 : nm ≠ rkC) : twoA s nm v = unkA s := by
  unfold twoA
  rw [if_neg h0, if_neg h1, if_neg h2]
theorem x_joinBT {P : PyData → Prop} {Ls : List (List Nat)} (hl : Ls.flatten.length + Ls.length ≤ 1000000) (h : P (W (joinB Ls))) : rJoin (.str (Str.ofString " ")) [.tuple (Ls.map W)] P := x_joinB hl h
theorem tru_plD (a : Nat) (r : List Nat) : truD (.tuple (plD (a :: r))) = true := rfl
theorem x_intV {P : PyData → Prop} {v : List Nat} (c : isN v = true) (q : P (.int (valN v : Nat))) : rIntS [W v] P := by
  obtain ⟨h1, h2⟩ := isN_val c
  generalize valN v = k at h1 h2 q
  subst h2
  exact x_intM h1 q
theorem x_inE {P : PyData → Prop} {Ls : List (List Nat)} (h : P (.bool (decide ([] ∈ Ls)))) : rInG false (.str (Str.ofString "")) (.list (Ls.map W)) P := x_inLW (k := []) h
theorem comA_un {s : Dst} {l : List (List Nat)} (c : [] ∈ l) : comA s l = unkA s := by unfold comA; rw [if_pos c]
theorem comA_1 {s : Dst} {a : List Nat} (c : ¬ [] ∈ [a]) : comA s [a] = oneA s a := by unfold comA; rw [if_neg c]
theorem comA_2 {s : Dst} {a b : List Nat} (c : ¬ [] ∈ [a, b]) : comA s [a, b] = twoA s a b := by unfold comA; rw [if_neg c]
theorem comA_3 {s : Dst} {a b d : List Nat} (c : ¬ [] ∈ [a, b, d]) : comA s [a, b, d] = chA s a b d := by unfold comA; rw [if_neg c]
theorem comA_no {s : Dst} {l : List (List Nat)} (c : ¬ [] ∈ l) (h1 : l.length ≠ 1) (h2 : l.length ≠ 2) (h3 : l.length ≠ 3) : comA s l = unkA s := by
  unfold comA
  rw [if_neg c]
  split
  · exact absurd rfl h1
  · exact absurd rfl h2
  · exact absurd rfl h3
  · rfl
theorem len_1 {α : Type} {l : List α} (h : l.length = 1) : ∃ a, l = [a] := List.length_eq_one_iff.mp h
theorem len_2 {α : Type} {l : List α} (h : l.length = 2) : ∃ a b, l = [a, b] := by
  match l, h with
  | [a, b], _ => exact ⟨a, b, rfl⟩
theorem len_3 {α : Type} {l : List α} (h : l.length = 3) : ∃ a b c, l = [a, b, c] := by
  match l, h with
  | [a, b, c], _ => exact ⟨a, b, c, rfl⟩
theorem spl_fit {L : List Nat} (h : L.length ≤ 1000) : 0 < (splW L).length ∧ (splW L).length ≤ 1001 ∧ ∀ v ∈ splW L, v.length ≤ 1000 := ⟨List.length_pos_iff.mpr (spl_ne L), by have := spl_sum L; omega, fun v hv => by have := spl_len L hv; omega⟩
theorem cut_20 (ds : List PyData) : rCut.cutD ds (some (-20)) none = last20 ds := by
  unfold rCut.cutD last20
  rw [show HT.sIx ds.length ds.length none = ds.length from rfl, List.take_of_length_le (by simp)]
  congr 1
  unfold HT.sIx
  simp
  omega
theorem cn_desk (a : Addr) (ps : List PyData) : List.lookup (Str.ofString "desk") [(Str.ofString "desk", OBJ a), (Str.ofString "pairs", PyData.tuple ps)] = some (OBJ a) := by rfl
theorem cn_pairs (a : Addr) (ps : List PyData) : List.lookup (Str.ofString "pairs") [(Str.ofString "desk", OBJ a), (Str.ofString "pairs", PyData.tuple ps)] = some (.tuple ps) := by rfl
theorem exe_str (s : Dst) (z : Str) : exeA s (.str z) = ansA s z.cps.toList := rfl
theorem exe_no {v : PyData} (s : Dst) (h : ¬ ∃ z, v = .str z) : exeA s v = (unkW, s) ∧ lineOf v = .none := by
  cases v with
  | str z => exact absurd ⟨z, rfl⟩ h
  | _ => exact ⟨rfl, rfl⟩
theorem nlA_snoc {ps xs : List PyData} (h : nlA ps = true) (hx : nlA xs = true) : nlA (ps ++ [.tuple xs]) = true := by
  rw [nlA_all] at h ⊢
  intro d hd
  rcases List.mem_append.mp hd with hd | hd
  · exact h d hd
  · rw [List.mem_singleton.mp hd]; exact hx
theorem nl_last {ps : List PyData} (h : nlA ps = true) : nl (.tuple (last20 ps)) = true := by
  show nlA _ = true
  rw [nlA_all] at h ⊢
  exact fun d hd => h d (List.mem_of_mem_drop hd)
theorem cn_set (a : Addr) (ps : List PyData) (d : PyData) : setD (Str.ofString "pairs") d [(Str.ofString "desk", OBJ a), (Str.ofString "pairs", PyData.tuple ps)] = [(Str.ofString "desk", OBJ a), (Str.ofString "pairs", d)] := by rfl
end Kd
/-! lists of the world that are told by an expression: append, f(list[lo:hi]) -/
namespace Kd
open PySem PySem.Spec PyProof.Rows L2 Kb Km
section
variable {X : Cx} {E : XK} {r e : Expr} {Tr Te : TD} {p ap pos sp p2 : Pos} {ρ : List Cell} {n : Nat}
/-- r.append(e), r told by an expression: a list of the world -/
def dAppE (Tr T : TD) : TSD := fun e ρ n => Tr ρ n (fun x n1 => ∃ a, x = OBJ a ∧ (∃ ds, Kw.ob n1 a = some (.lst ds)) ∧ T ρ n1 (fun d n2 => ∃ ds, Kw.ob n2 a = some (.lst ds) ∧ nl d = true ∧ ds.length < sizeLine ∧ e.nx ρ (Kw.put n2 a (.lst (ds ++ [d])))) e.ex) e.ex
theorem x_appE {e : DEnds} (h : Tr ρ n (fun x n1 => ∃ a, x = OBJ a ∧ (∃ ds, Kw.ob n1 a = some (.lst ds)) ∧ Te ρ n1 (fun d n2 => ∃ ds, Kw.ob n2 a = some (.lst ds) ∧ nl d = true ∧ ds.length < sizeLine ∧ e.nx ρ (Kw.put n2 a (.lst (ds ++ [d])))) e.ex) e.ex) : dAppE Tr Te e ρ n := h
/-- f(r[lo:hi]), r a list of the world -/
def dTyCutW (cd : RDN) (sd : RDS) (Te : TD) (Tl Th : TOD) : TD := fun ρ n Q X => Te ρ n (fun x n1 => Tl ρ n1 (fun l n2 => Th ρ n2 (fun h n3 => ∃ a ds, x = OBJ a ∧ Kw.ob n3 a = some (.lst ds) ∧ sd (.list ds) l h fun y => cd [y] fun z => nl z = true ∧ Q z n3) X) X) X
theorem x_tyCutW {cd : RDN} {sd : RDS} {Tl Th : TOD} {Q : PQ} {Z : XD} (h : Te ρ n (fun x n1 => Tl ρ n1 (fun l n2 => Th ρ n2 (fun h n3 => ∃ a ds, x = OBJ a ∧ Kw.ob n3 a = some (.lst ds) ∧ sd (.list ds) l h fun y => cd [y] fun z => nl z = true ∧ Q z n3) Z) Z) Z) : dTyCutW cd sd Te Tl Th ρ n Q Z := h
end
end Kd
/-! consoles: their answers are short texts, their desks stay desks -/
namespace Kd
open PySem PySem.Spec PyProof.Rows L2 Kb Km
def Tx (t : List Nat) : Prop := t.length ≤ 100 ∧ ∀ c ∈ t, c < 1000
theorem Tx.sx {t : List Nat} (h : Tx t) : Sx (W t) 1002 1 := sxW h.1 h.2
theorem num2_all : ∀ k ∈ List.range 100, (numW k).length ≤ 2 := by decide +kernel
theorem num2 {k : Nat} (h : k < 100) : (numW k).length ≤ 2 := num2_all k (List.mem_range.mpr h)
theorem nums2_flat : ∀ {r : List Nat}, (∀ p ∈ r, p < 100) → (r.map numW).flatten.length ≤ 2 * r.length
  | [], _ => Nat.le_refl _
  | p :: r, h => by
    have h1 := nums2_flat (r := r) fun q hq => h q (List.mem_cons_of_mem _ hq)
    have h2 := num2 (h p List.mem_cons_self)
    rw [List.map_cons, List.flatten_cons, List.length_append, List.length_cons]
    omega
theorem tx_num {k : Nat} (h : k < 1000) : Tx (numW k) := ⟨by have := (num_ok3 h).2.2.1; omega, fun c hc => by have := (num_ok3 h).1 c hc; omega⟩
theorem tx_ok {k : Nat} (h : k < 1000) : Tx (okT k) := ⟨by
  unfold okT
  rw [List.length_append]
  have := (num_ok3 h).2.2.1
  show 3 + _ ≤ _
  omega, fun c hc => by
  rcases List.mem_append.mp hc with hc | hc
  · exact (show ∀ c ∈ okW, c < 1000 by decide) c hc
  · exact (tx_num h).2 c hc⟩
theorem tx_join {l : List (List Nat)} (hl : l.flatten.length + l.length ≤ 100) (hc : ∀ M ∈ l, ∀ c ∈ M, c < 1000) : Tx (joinB l) := ⟨by have := joinB_len l; omega, fun c h => by
  rcases joinB_mem h with rfl | ⟨M, hM, h⟩
  · decide
  · exact hc M hM c h⟩
theorem tx_nums {r : List Nat} (hl : r.length ≤ 24) (hp : ∀ p ∈ r, p < 100) : (r.map numW).flatten.length + (r.map numW).length ≤ 72 ∧ ∀ M ∈ r.map numW, ∀ c ∈ M, c < 1000 := ⟨by have := nums2_flat hp; rw [List.length_map]; omega, fun M hM c hc => by
  obtain ⟨p, h, rfl⟩ := List.mem_map.mp hM
  exact (tx_num (by have := hp p h; omega)).2 c hc⟩
theorem tx_pl {r : List Nat} (hl : r.length ≤ 24) (hp : ∀ p ∈ r, p < 100) : Tx (plT r) := by
  unfold plT
  split
  · exact ⟨by decide, by decide⟩
  · obtain ⟨h1, h2⟩ := tx_nums hl hp
    exact tx_join (by omega) h2
theorem tx_unk : Tx unkW := ⟨by decide, by decide⟩
theorem ltr_small {L : List Nat} (h : Ltrs L) : ∀ c ∈ L, c < 1000 := fun c hc => by have := (h c hc).2; omega
theorem plc_fit {w P : List Nat} (h : Wd24 w) : (plc w P).length ≤ 24 ∧ ∀ p ∈ plc w P, p < 100 := ⟨by have := plc_len w P; have := h.2.1; omega, fun p hp => by
  have := List.mem_range.mp (List.mem_filter.mp hp).1
  have := h.2.1
  omega⟩
theorem undone_ok {s : Dst} (h : s.Ok) : s.undone.Ok := by
  refine ⟨?_, ?_, ?_, fun v hv => h.ws v ((List.dropLast_sublist _).subset hv), h.p⟩
  · show Wd24 (s.ws.getLastD s.w)
    rcases List.eq_nil_or_concat s.ws with e | ⟨l, x, e⟩
    · rw [e]; exact h.w
    · rw [e, List.concat_eq_append, List.getLastD_eq_getLast?, List.getLast?_append]
      exact h.ws x (by rw [e, List.concat_eq_append]; simp)
  · show s.es.dropLast.length ≤ 60
    rw [List.length_dropLast]; have := h.n; omega
  · show s.ws.dropLast.length = s.es.dropLast.length
    rw [List.length_dropLast, List.length_dropLast, h.l]
/-- a good answer -/
def Good (r : Rs) : Prop := ∀ t s', r = .ok (t, s') → s'.Ok ∧ Tx t
theorem Good.of {t : List Nat} {s : Dst} (h : s.Ok) (ht : Tx t) : Good (.ok (t, s)) := fun t' s' e => by cases e; exact ⟨h, ht⟩
theorem Good.no {e : Ec} : Good (.error e) := fun t' s' h => by cases h
theorem good_unk {s : Dst} (h : s.Ok) : Good (unkA s) := Good.of h tx_unk
theorem good_doE {s : Dst} (h : s.Ok) (e : Eg) : Good (doE s e) := fun t s' q => by
  have o := doE_ok h q
  refine ⟨o, ?_⟩
  unfold doE at q
  split at q
  · cases q; exact tx_ok (by have := h.n; omega)
  · cases q
theorem good_two {s : Dst} (h : s.Ok) (nm v : List Nat) : Good (twoA s nm v) := by
  unfold twoA
  split
  · exact good_doE h _
  split
  · unfold lookA
    split
    · rename_i hv
      obtain ⟨P, hP, e⟩ := werr_some hv
      rw [W_inj e]
      obtain ⟨p1, p2⟩ := plc_fit (P := P) h.w
      exact Good.of ⟨h.w, h.n, h.l, h.ws, fun Q e => by cases e; exact hP⟩ (tx_pl p1 p2)
    · exact Good.no
  split
  · unfold rankA
    split
    · split
      · rename_i hk
        exact Good.of h (tx_num (by have := cnt_lt hk; have := h.w.2.1; omega))
      · exact Good.no
    · exact good_unk h
  · exact good_unk h
theorem good_one {s : Dst} (h : s.Ok) (nm : List Nat) : Good (oneA s nm) := by
  have w2 := h.w.2.1
  have ws := ltr_small h.w.2.2
  unfold oneA
  split
  · exact good_doE h _
  split
  · unfold undoA
    split
    · exact Good.no
    · exact Good.of (undone_ok h) (tx_ok (by have := h.n; omega))
  split
  · refine Good.of h (tx_join ?_ fun M hM => ?_)
    · show (wdW ++ (s.w ++ [])).length + 2 ≤ 100
      rw [List.append_nil, List.length_append]
      show 4 + _ + 2 ≤ _
      omega
    · rcases List.mem_cons.mp hM with rfl | hM
      · decide
      · rw [List.mem_singleton.mp hM]; exact ws
  split
  · obtain ⟨h1, h2⟩ := tx_nums (r := tord s.w) (by rw [tord_len]; exact w2) fun p hp => by have := (tord_ok s.w).ord.lt hp; rw [tord_len] at this; omega
    refine Good.of h (tx_join ?_ fun M hM => ?_)
    · rw [List.flatten_cons, List.length_append, List.length_cons]
      show 5 + _ + _ ≤ _
      omega
    · rcases List.mem_cons.mp hM with rfl | hM
      · decide
      · exact h2 M hM
  split
  · refine Good.of h ?_
    cases s.p with
    | none => exact tx_pl (Nat.zero_le _) fun p hp => (List.not_mem_nil hp).elim
    | some P => exact tx_pl (plc_fit h.w).1 (plc_fit h.w).2
  split
  · exact Good.of h (tx_num (Nat.lt_of_le_of_lt (parts_len w2) (by decide)))
  split
  · refine Good.of h (tx_join (by rw [lcut_flat]; have := lcut_len s.w; omega) fun M hM c hc => ws c ?_)
    rw [← lcut_flat s.w]
    exact List.mem_flatten.mpr ⟨M, hM, hc⟩
  · exact good_unk h
theorem good_com {s : Dst} (h : s.Ok) (l : List (List Nat)) : Good (comA s l) := by
  unfold comA
  split
  · exact good_unk h
  · split
    · exact good_one h _
    · exact good_two h _ _
    · unfold chA
      split
      · split
        · exact good_doE h _
        · exact good_unk h
      · exact good_unk h
    · exact good_unk h
theorem tx_lit {t : List Nat} (h : (decide (t.length ≤ 100) && t.all fun c => decide (c < 1000)) = true) : Tx t := by
  rw [Bool.and_eq_true, List.all_eq_true] at h
  exact ⟨of_decide_eq_true h.1, fun c hc => of_decide_eq_true (h.2 c hc)⟩
theorem tx_err (e : Ec) : Tx (erT e) := by
  cases e with
  | word d => exact tx_lit rfl
  | er r => cases r <;> exact tx_lit rfl
theorem ans_fit {s : Dst} (h : s.Ok) (L : List Nat) : (ansA s L).2.Ok ∧ Tx (ansA s L).1 := by
  unfold ansA
  cases e : comA s (splW L) with
  | ok r => obtain ⟨t, s'⟩ := r; exact good_com h _ t s' e
  | error e0 => exact ⟨h, tx_err e0⟩
theorem exe_fit {s : Dst} (h : s.Ok) (v : PyData) : (exeA s v).2.Ok ∧ Tx (exeA s v).1 := by
  cases v with
  | str z => exact ans_fit h _
  | _ => exact ⟨h, tx_unk⟩
end Kd
/-! two consoles on one desk, beside two lists -/
namespace Kd
open PySem PySem.Spec PyProof.Rows L2 Kb Km
theorem stay3 {n o dx n' : Nat} {x y : Kw.Ob} (h1 : Kw.ob n o = none) (h2 : Kw.ob n dx = none) (u : Kw.Upd (Kw.put (Kw.put n dx (.dd o)) o x) o y n') {b : Nat} {z : Kw.Ob} (e : Kw.ob n b = some z) : Kw.ob n' b = some z := by
  have bo : b ≠ o := fun q => by rw [q, h1] at e; cases e
  have bd : b ≠ dx := fun q => by rw [q, h2] at e; cases e
  rw [u.ne b bo, Kw.ob_put_ne _ bo, Kw.ob_put_ne _ bd]; exact e
/-- an entry of a history -/
def Pg (x : PyData) : Prop := nl x = true ∧ Sx x 3000 2
def upd (p : Nat → List PyData) (i : Nat) (e : PyData) : Nat → List PyData := fun j => if j = i then p j ++ [e] else p j
structure Cn (CC CD : Addr) (a dx : Addr) (c d r : Nat → Addr) (n : Nat) (s : Dst) (p q : Nat → List PyData) : Prop where
  dk : Kw.ob n a = some (s.ob CD dx)
  ok : s.Ok
  k : ∀ i, i < 2 → Kw.ob n (c i) = some (cnO CC (d i) a (last20 (p i)))
  l : ∀ i, i < 2 → Kw.ob n (r i) = some (.lst (q i))
  nc : c 0 ≠ c 1
  nr : r 0 ≠ r 1
  f : ∀ i, i < 2 → ∀ x ∈ p i, Pg x
  g : ∀ i, i < 2 → ∀ x ∈ q i, Pg x
section
variable {CC CD a dx : Addr} {c d r : Nat → Addr} {n n1 n2 : Nat} {s s' : Dst} {p q : Nat → List PyData} {i j : Nat} {e : PyData}
theorem Cn.ra (h : Cn CC CD a dx c d r n s p q) (hi : i < 2) : r i ≠ a := fun z => by
  have h1 := h.l i hi
  rw [z, h.dk] at h1
  injection h1 with h1
  cases h1
theorem Cn.rc (h : Cn CC CD a dx c d r n s p q) (hi : i < 2) (hj : j < 2) : r i ≠ c j := fun z => by
  have h1 := h.l i hi
  rw [z, h.k j hj] at h1
  injection h1 with h1
  cases h1
theorem two {f : Nat → Addr} (h : f 0 ≠ f 1) (hi : i < 2) (hj : j < 2) (ne : j ≠ i) : f j ≠ f i := by
  rcases (by omega : i = 0 ∨ i = 1) with rfl | rfl
  · obtain rfl : j = 1 := by omega
    exact h.symm
  · obtain rfl : j = 0 := by omega
    exact h
theorem upd_mem (h : ∀ i, i < 2 → ∀ x ∈ p i, Pg x) (he : Pg e) : ∀ j, j < 2 → ∀ x ∈ upd p i e j, Pg x := fun j hj x hx => by
  unfold upd at hx
  split at hx
  · rcases List.mem_append.mp hx with hx | hx
    · exact h j hj x hx
    · rw [List.mem_singleton.mp hx]; exact he
  · exact h j hj x hx
theorem upd_self : upd p i e i = p i ++ [e] := if_pos rfl
theorem Cn.app (h : Cn CC CD a dx c d r n s p q) (hi : i < 2) (he : Pg e) : Cn CC CD a dx c d r (Kw.put n (r i) (.lst (q i ++ [e]))) s p (upd q i e) := by
  refine ⟨?_, h.ok, fun j hj => ?_, fun j hj => ?_, h.nc, h.nr, h.f, upd_mem h.g he⟩
  · rw [Kw.ob_put_ne _ (h.ra hi).symm]; exact h.dk
  · rw [Kw.ob_put_ne _ (h.rc hi hj).symm]; exact h.k j hj
  · by_cases z : j = i
    · subst z
      rw [upd_self]
      exact Kw.ob_put _ _ _
    · rw [Kw.ob_put_ne _ (two h.nr hi hj z), h.l j hj]
      unfold upd
      rw [if_neg z]
theorem last_len (l : List PyData) : (last20 l).length ≤ 20 := by
  unfold last20
  rw [List.length_drop]; omega
theorem last_sub {l : List PyData} {x : PyData} (h : x ∈ last20 l) : x ∈ l := List.mem_of_mem_drop h
theorem pg_tup {l : List PyData} (h : ∀ x ∈ l, Pg x) : RepY (.tuple (last20 l)) := by
  refine (Sx.tuple (n := 3000) (e := 2) (ds := last20 l) fun x hx => (h x (last_sub hx)).2).rep ?_ (by decide)
  have := last_len l
  omega
end
end Kd
/-! super(): methods that close over their class -/
namespace SuX
open PySem PySem.Spec PyProof.Rows L2
end SuX
namespace SuX
open PySem PySem.Spec PyProof.Rows L2
end SuX
namespace Kd
open PySem PySem.Spec PyProof.Rows L2 Kb Km SuX
section
variable {X : Cx} {E : XK} {body sts : List Stmt} {e : Expr} {es : List Expr} {st : Stmt} {T : TD} {T2 : TSD} {pos pos' p0 p1 apos : Pos} {x m fl slf : Str} {i k : Nat} {C D g : Addr} {CX : CXT} {fd : FuncData} {ps : List Str} {S : SpD} {Ts : TAD}
/-- super().m(..) for an object of the class at C -/
def dSup (C : Addr) (S : SpD) (Ts : TAD) : TD := fun ρ n Q Z => ∃ a dx fs, ρ[0]? = some (.d (OBJ a)) ∧ Kw.ob n a = some (.ins C dx fs) ∧ Ts ρ n (fun ds n1 => S (OBJ a :: ds) n1 Q Z) Z
def dSE (T : TD) (T2 : TSD) : TSD := fun e ρ n => T ρ n (fun _ n1 => T2 e ρ n1) e.ex
def dSA (i : Nat) (T : TD) (T2 : TSD) : TSD := fun e ρ n => T ρ n (fun d n1 => T2 e (ρ.set i (.d d)) n1) e.ex
/-! ### one of several classes -/
section
variable {ι : Type} {Td : ι → TD} {Tt : ι → TTD} {Ts' : ι → TSD}
/-- a def that serves several readings -/
theorem FnOk.all {P : Program} {w : World} {K : PySem.W.Frag} {mg : Str → Option Value} {base : Heap} {CX : CXT} {k : Nat} {f : Addr} {fd : FuncData} {ps : List Str} {S : ι → SpD} (h : ∀ κ, FnOk P w K mg base CX k f fd ps (spD K (S κ))) :
    FnOk P w K mg base CX k f fd ps (spD K fun ds n Q X => ∃ κ, S κ ds n Q X) :=
  ⟨fun vs H Q E ⟨g, O, n, ds, Qd, Xd, wd, hd, ⟨κ, hs⟩, m⟩ => (h κ).len vs H Q E ⟨g, O, n, ds, Qd, Xd, wd, hd, hs, m⟩,
   fun A outer s H args us vs Q E hr e0 hb r ⟨g, O, n, ds, Qd, Xd, wd, hd, ⟨κ, hs⟩, m⟩ => (h κ).run A outer s H args us vs Q E hr e0 hb r ⟨g, O, n, ds, Qd, Xd, wd, hd, hs, m⟩⟩
end
theorem x_sup {ρ : List Cell} {n : Nat} {Q : PQ} {Z : XD} (h : ∃ a dx fs, ρ[0]? = some (.d (OBJ a)) ∧ Kw.ob n a = some (.ins C dx fs) ∧ Ts ρ n (fun ds n1 => S (OBJ a :: ds) n1 Q Z) Z) : dSup C S Ts ρ n Q Z := h
theorem x_SE {e : DEnds} {ρ : List Cell} {n : Nat} (h : T ρ n (fun _ n1 => T2 e ρ n1) e.ex) : dSE T T2 e ρ n := h
theorem x_SA {e : DEnds} {ρ : List Cell} {n : Nat} (h : T ρ n (fun d n1 => T2 e (ρ.set i (.d d)) n1) e.ex) : dSA i T T2 e ρ n := h
end
end Kd
/-! dicts written out, d.get(k, x) -/
namespace Kd
open PySem PySem.Spec PyProof.Rows L2 Kb Km
section
variable {X : Cx} {E : XK} {a b c e e2 : Expr} {Ta Tb Te Tx : TD} {pos apos : Pos} {x : Str} {p : Pos} {i : Nat}
/-- keys and values are written texts and numbers -/
inductive Lits (X : Cx) : List (Option Expr) → List Expr → List (Str × Int) → Prop
  | nil : Lits X [] [] []
  | cons {k v : Expr} {z : Str} {j : Int} {ks : List (Option Expr)} {vs : List Expr} {l : List (Str × Int)} (hk : ∀ E, DE E X k (dC (.str z))) (hv : ∀ E, DE E X v (dC (.int j))) (r : Lits X ks vs l) : Lits X (some k :: ks) (v :: vs) ((z, j) :: l)
def litV (kv : Str × Int) : V × V := (.str kv.1, .int kv.2)
def litP (kv : Str × Int) : Key × V := (.inr kv.1, .int kv.2)
theorem Lits.pps {ks : List (Option Expr)} {vs : List Expr} {l : List (Str × Int)} (h : Lits X ks vs l) : ∃ trs, PPs X pos ks vs trs ∧
    ∀ {F : Fx} {O : Addr → Bool} {σ : L2.St} {H : Hp} {ρ : List Cell} {n : Nat} {Q : List (V × V) → Hp → Prop}, Rel X.K F O σ H ρ n → (∀ {O'} H', Ext F.g O O' H H' n n → Q (l.map litV) H') → tPairs trs σ H Q := by
  induction h with
  | nil => exact ⟨[], pps_nil, fun R q => q _ R.rw.wd.refl⟩
  | @cons k v z j ks vs l hk hv r ih =>
    obtain ⟨trs, h1, h2⟩ := ih
    refine ⟨_, pps_cons (hk E0) (hv E0) h1, fun {F O σ H ρ n Q} R q => ?_⟩
    refine ⟨F, O, ρ, n, fun d n' => d = .str z ∧ n' = n, X0, R, ⟨rfl, rfl⟩, fun {O1} d n1 u H1 ⟨ed, en⟩ e1 d1 => ?_, mx0⟩
    subst ed en
    refine ⟨F, O1, ρ, n1, fun d n' => d = .int j ∧ n' = n1, X0, R.ext e1, ⟨rfl, rfl⟩, fun {O2} d n2 w H2 ⟨ed, en⟩ e2 d2 => ?_, mx0⟩
    subst ed en
    obtain rfl := d1.str'
    obtain rfl := d2.int'
    exact h2 ((R.ext e1).ext e2) fun H' e3 => q H' ((e1.trans e2).trans e3)
def dML (l : List (Str × Int)) : TMD := fun _ n Q _ => Q (l.map fun kv => (.inr kv.1, .int kv.2)) n
theorem lit_kv {K : PySem.W.Frag} {p : Addr} {H : Hp} : ∀ (l : List (Str × Int)), (∀ kv ∈ l, kv.1.length ≤ sizeLine) → DqKV K p H (l.map litP) (l.map fun kv => (.inr kv.1, .int kv.2))
  | [], _ => .nil
  | kv :: l, h => .cons (.int kv.2) (lit_kv l fun x hx => h x (List.mem_cons_of_mem _ hx))
theorem dm_lits {ks : List (Option Expr)} {vs : List Expr} {l : List (Str × Int)} (h : Lits X ks vs l) (hall : ks.all (·.isSome) = true) (hl : ks.length = vs.length) (h0 : ks ≠ []) (h15 : ks.length ≤ 15) (h15' : l.length ≤ 15) (hm : mergeK [] (l.map litP) = l.map litP) (hz : ∀ kv ∈ l, kv.1.length ≤ sizeLine) :
    DM E X (.Dict ks vs pos) (dML l) := by
  obtain ⟨trs, h1, h2⟩ := h.pps (pos := pos)
  refine pe_weak (pe_disp h1 hall hl h0 h15) fun σ H Q ⟨F, O, ρ, n, Qd, Xd, R, t, mq, mx⟩ p hp => ?_
  have R1 := R.push hp (.dK [])
  have nw : NewH H (addO O p) n p := ⟨hp, addO_self, R.rw.wd.dom0 hp⟩
  have e0 := Ext.push R.rw.wd hp (.dK [])
  have uq := R.rw.Un nw
  obtain ⟨k1, k2, _⟩ := R1.rw.ne uq
  refine h2 R1 fun {O2} H2 e2 => ?_
  have nw2 := nw.later e2
  have hp2 : H2 p = some (.dK []) := by rw [e2.own p addO_self k1 k2 nw.2.2]; exact upd_same
  refine ⟨hp2, l.map litP, by rw [List.map_map]; rfl, by rw [List.length_map]; exact h15', ?_⟩
  rw [hm]
  exact mq _ n p (l.map litP) _ t nw2 ((e0.trans e2).poke nw2 R.rw.wd _) upd_same (by rw [hid_poke nw2.2.1]; exact lit_kv l hz)
/-- d.get(e, x) -/
def dGet2 (i : Nat) (T Tx : TD) : TD := fun ρ n Q Z => ∃ ks, ρ[i]? = some (.dct ks) ∧ T ρ n (fun k n1 => Tx ρ n1 (fun z n2 => ∃ kk, k = keyD kk ∧ Q ((getD ks kk).getD z) n2) Z) Z
theorem valV_none {K : PySem.W.Frag} {p : Addr} {H : Hp} {k : Key} : ∀ {vs : List (Key × V)} {ks : List (Key × PyData)}, DqKV K p H vs ks → getD ks k = none → valV vs k = none
  | _, _, .nil, _ => rfl
  | _, _, .cons (k := j) (v := v) (d := d') a b, h => by
    unfold getD at h
    by_cases e : j = k
    · rw [if_pos e] at h; cases h
    · rw [if_neg e] at h
      rw [valV_neg e]
      exact valV_none b h
theorem de_dget2 (hu : X.A.units + 64 < cLine) (hv : PE X (.Name x p) (tVar i)) (he : DE E X e Te) (hx : DE E X e2 Tx)
    (m : M2 X (.Name x p) "get" apos e e2 pos) : DE E X (.Call (.Attribute (.Name x p) "get" apos) [e, e2] [] pos) (dGet2 i Te Tx) :=
  pe_weak (pe_dget2 (by omega) hv he hx m) fun σ H Q ⟨F, O, ρ, n, Qd, Xd, R, ⟨ks, hi, t⟩, mq, mx⟩ => by
    obtain ⟨q, vs, s1, h1, h2, h3, h4⟩ := R.dctAt hi
    obtain ⟨k1, k2, _⟩ := R.rw.ne h2
    refine ⟨.ref q, s1, q, rfl, .inl ⟨vs, .inl h3⟩, F, _, ρ, n, _, Xd, R, t, fun k n1 v H1 q1 e1 d1 => ?_, mx⟩
    refine ⟨F, _, ρ, n1, _, Xd, R.ext e1, q1, fun z n2 u H2 ⟨kk, ek, q2⟩ e2 d2 => ?_, mx.step e1⟩
    subst ek
    obtain rfl := d1.key
    have e12 := e1.trans e2
    have h3' : H2 q = some (.dK vs) := by rw [e12.own q h1 k1 k2 h2.2]; exact h3
    have h4' := h4.same e12.hid
    cases hg : getD ks kk with
    | none =>
      rw [hg] at q2
      exact ⟨none, by rw [← valV_none h4' hg]; exact DGet.k h3', mq z n2 u H2 q2 e12 d2⟩
    | some d =>
      rw [hg] at q2
      obtain ⟨w, hw, dw⟩ := h4'.get hg
      exact ⟨some w, by rw [← hw]; exact DGet.k h3', mq d n2 w H2 q2 e12 dw⟩
theorem x_dget2 {ρ : List Cell} {n : Nat} {Q : PQ} {Z : XD} {ks : List (Key × PyData)} (hi : ρ[i]? = some (.dct ks)) (h : Te ρ n (fun k n1 => Tx ρ n1 (fun z n2 => ∃ kk, k = keyD kk ∧ Q ((getD ks kk).getD z) n2) Z) Z) : dGet2 i Te Tx ρ n Q Z := ⟨ks, hi, h⟩
theorem x_ML {ρ : List Cell} {n : Nat} {l : List (Str × Int)} {Q : List (Key × PyData) → Nat → Prop} {Z : XD} (h : Q (l.map fun kv => (.inr kv.1, .int kv.2)) n) : dML l ρ n Q Z := h
end
end Kd
namespace Kd
open PySem PySem.Spec PyProof.Rows L2 Kb Km
section
variable {X : Cx} {E : XK} {pos : Pos}
/-- f() -/
theorem de_call0 {CX : CXT} {k : Nat} {f : Addr} {fd : FuncData} {ps : List Str} {S : SpD} {x : Str} {p : Pos} (Fn : FnOk X.prog X.w X.K X.mg X.base CX k f fd ps (spD X.K S)) (hr : Room k X.A) (hg : Gl X x) (hm : X.mg x = some (.ref f)) (hk : PySem.W.keepIn X.K (.ref f) = true) (hb : Binds X.K fd ps []) (hx : Passes CX X E)
    (hdb : (x == ("__debug__" : Str)) = false := by decide) : DE E X (.Call (.Name x p) [] [] pos) (dCall S dNil) :=
  pe_weak (pe_call0 Fn hr hg hm hk hb .nil hx hdb) fun σ H Q ⟨F, O, ρ, n, Qd, Xd, R, t, mq, mx⟩ => ⟨F.g, O, n, [], Qd, Xd, R.rw.wd, .nil, t, mq, mx⟩
end
end Kd
local macro_rules | `(tactic| walk_at "ex") => `(tactic| (repeat first
  | ((with_reducible apply Kd.x_var); exact rfl) | with_reducible refine Kd.x_seq ?_ | with_reducible refine Kd.x_c ?_ | with_reducible refine Kd.x_op ?_ | with_reducible refine Kd.x_cons ?_ | with_reducible refine Kd.x_nil ?_
  | with_reducible refine Kd.x_set ?_ | with_reducible refine Kd.x_ret ?_ | with_reducible refine Kd.x_next ?_ | with_reducible refine Kd.x_ifS ?_ | with_reducible refine Kd.x_b ?_ | with_reducible refine Kd.x_bool ?_ | with_reducible refine Kd.x_int ?_
  | with_reducible refine Kd.x_cb ?_ | with_reducible refine Kd.x_call ?_ | with_reducible refine Kd.x_callG ?_ | ((with_reducible refine Kd.x_Fr ?_ ?_); (· (first | unfold Kd.isiD | unfold Kd.isNoneD); rfl)) | ((with_reducible refine Kd.x_Tr ?_ ?_); (· (first | unfold Kd.isiD | unfold Kd.isNoneD); rfl)) | with_reducible refine Kd.x_addI ?_ | with_reducible refine Kd.x_sub ?_ | with_reducible refine Kd.x_ltI ?_ | with_reducible refine Kd.x_leI ?_ | with_reducible refine Kd.x_gtI ?_ | with_reducible refine Kd.x_geI ?_
  | with_reducible refine Kd.x_ltS ?_ | with_reducible refine Kd.x_leS ?_ | with_reducible refine Kd.x_gtS ?_ | with_reducible refine Kd.x_geS ?_ | with_reducible refine Kd.x_eqI ?_ | with_reducible refine Kd.x_neI ?_ | with_reducible refine Kd.x_eqS ?_ | with_reducible refine Kd.x_neS ?_
  | with_reducible refine Kd.pl_len ?_ | with_reducible refine Kd.pl_lenL ?_ | with_reducible refine Kd.w_len ?_ | with_reducible refine Kd.pl_cutTo ?_ | with_reducible refine Kd.pl_cutFrom ?_ | ((with_reducible refine Kd.pl_cutFromT ?_ ?_); (· omega)) | ((with_reducible refine Kd.pl_cutToT ?_ ?_); (· omega)) | with_reducible refine Kd.x_lenS ?_ | with_reducible refine Kd.x_lenL ?_ | with_reducible refine Kd.x_lenT ?_ | with_reducible refine Kd.x_tupL ?_ | with_reducible refine Kd.x_tupT ?_ | with_reducible refine Kd.x_listL ?_ | with_reducible refine Kd.x_listT ?_ | with_reducible refine Kd.x_strS ?_
  | with_reducible refine Kd.x_cutL ?_ | with_reducible refine Kd.x_cutT ?_ | with_reducible refine Kd.x_cutS ?_ | with_reducible refine Kd.x_sl ?_ | with_reducible refine Kd.x_noPart ?_ | with_reducible refine Kd.x_part ?_
  | with_reducible refine Kd.x_l ?_ | with_reducible refine Kd.x_lc ?_ | with_reducible refine Kd.x_lc2 ?_ | with_reducible refine Kd.x_rng1 ?_ | with_reducible refine Kd.x_rng2 ?_ | with_reducible refine Kd.x_for ?_ | with_reducible refine Kd.x_src ?_ | with_reducible refine Kd.x_en ?_ | with_reducible refine Kd.x_zip ?_
  | with_reducible refine Kd.x_and ?_ | with_reducible refine Kd.x_or ?_ | with_reducible refine Kd.x_not ?_ | with_reducible refine Kd.x_yes ?_ | with_reducible refine Kd.x_T ?_ | with_reducible refine Kd.x_F ?_ | with_reducible refine Kd.x_NF ?_ | with_reducible refine Kd.x_NT ?_ | with_reducible refine Kd.x_ifE ?_
  | with_reducible refine Kd.x_andV ?_ | with_reducible refine Kd.x_orV ?_ | with_reducible refine Kd.x_notV ?_ | with_reducible refine Kd.x_isi ?_ | with_reducible refine Kd.x_mt ?_ | with_reducible refine Kd.x_mt0 ?_ | with_reducible refine Kd.x_un ?_ | with_reducible refine Kd.x_neg ?_ | with_reducible refine Kd.x_chain ?_ | with_reducible refine Kd.x_tru ?_
  | with_reducible refine Kd.x_par ?_ | with_reducible refine Kd.x_two ?_ | with_reducible refine Kd.x_par3 ?_ | with_reducible refine Kd.x_three ?_ | with_reducible refine Kd.x_parF ?_ | with_reducible refine Kd.x_own ?_ | with_reducible refine Kd.x_drop ?_
  | ((with_reducible apply Kd.x_append); exact rfl) | ((with_reducible apply Kd.x_extend); exact rfl) | ((with_reducible apply Kd.x_pop); exact rfl) | with_reducible refine Kd.x_listSg ?_ | with_reducible refine Kd.x_parFF ?_ | with_reducible refine Kd.x_par3M ?_ | ((with_reducible apply Kd.x_appPop); (· exact rfl); (· exact rfl)) | with_reducible refine Kd.x_listE ?_ | with_reducible refine Kd.x_putAt ?_ | ((with_reducible apply Kd.x_frz); exact rfl) | ((with_reducible apply Kd.x_bor); exact rfl) | ((with_reducible apply Kd.x_borT); exact rfl) | ((with_reducible apply Kd.x_aug); exact rfl)
  | (with_reducible refine Kd.x_tup ⟨?_, ?_⟩) | with_reducible refine Kd.x_tup ?_ | with_reducible refine Kd.x_lst ?_ | with_reducible refine Kd.x_ls ?_ | with_reducible refine Kd.x_rep ?_
  | with_reducible refine Kd.x_min2 ?_ | with_reducible refine Kd.x_max2 ?_ | with_reducible refine Kd.x_abs ?_ | with_reducible refine Kd.x_isN ?_ | with_reducible refine Kd.x_notN ?_ | with_reducible refine Kd.x_gName ?_ | with_reducible refine Kd.x_gPair ?_ | ((with_reducible refine Kd.x_gTup ?_ ?_); (· rfl)) | with_reducible refine Kd.x_gCons ?_ | with_reducible refine Kd.x_gNil ?_
  | ((with_reducible refine And.intro ?_ ?_); (· first | rfl | decide | (simp only [List.length_cons, List.length_nil]; decide))) | ((with_reducible refine Kd.x_rngE1 ?_ ?_ ?_); (· omega); (· omega)) | ((with_reducible refine Kd.x_rngE2 ?_ ?_); (· omega)) | ((with_reducible apply Kd.x_srcE); (· exact rfl)) | ((with_reducible apply Kd.x_enE); (· exact rfl)) | ((with_reducible apply Kd.x_zipE); (· exact rfl); (· exact rfl))
  | ((with_reducible refine Kd.x_mod ?_ ?_); (· omega)) | ((with_reducible refine Kd.x_div ?_ ?_); (· omega)) | ((with_reducible refine Kd.x_mulI ?_ ?_); (· (unfold L2.CMul; omega)))
  | with_reducible refine Kd.pl_len ?_ | with_reducible refine Kd.pl_lenL ?_ | with_reducible refine Kd.pl_cutTo ?_ | with_reducible refine Kd.pl_cutFrom ?_ | with_reducible refine Kd.x_sortedW ?_ | with_reducible refine Kd.x_sortedI ?_ | with_reducible refine Kd.x_sortedWI ?_ | ((with_reducible refine Kd.pl_add ?_ ?_); (· ((try simp only [List.length_drop, List.length_take, List.length_append, List.length_cons, List.length_nil]); omega)))
  | with_reducible refine Kd.w_cut1 ?_ | with_reducible refine Kd.w_cut2 ?_ | with_reducible refine Kd.w_cut3 ?_ | ((with_reducible refine Kd.w_cut1T ?_ ?_); (· omega)) | ((with_reducible refine Kd.w_cut2T ?_ ?_); (· omega)) | ((with_reducible refine Kd.w_cut3T ?_ ?_); (· omega)) | ((with_reducible refine Kd.w_add ?_ ?_); (· ((try simp only [List.length_drop, List.length_take, List.length_append, List.length_cons, List.length_nil]); omega))) | with_reducible refine Kd.w_len ?_ | with_reducible refine Kd.w_lt1 ?_ | with_reducible refine Kd.w_gt1 ?_ | with_reducible refine Kd.w_le1 ?_ | with_reducible refine Kd.w_ge1 ?_ | with_reducible refine Kd.w_eq1 ?_ | with_reducible refine Kd.w_ne1 ?_ | with_reducible refine Kd.w_lt ?_ | with_reducible refine Kd.w_le ?_ | with_reducible refine Kd.w_gt ?_ | with_reducible refine Kd.w_ge ?_ | with_reducible refine Kd.w_eq ?_ | with_reducible refine Kd.w_ne ?_ | with_reducible refine Kd.w_str ?_
  | with_reducible refine Kd.x_rev ?_ | with_reducible refine Kd.x_neT ?_ | with_reducible refine Kd.x_eqT ?_ | with_reducible refine Kd.x_sortedTW ?_ | with_reducible refine Kd.x_starts ?_ | with_reducible refine Kd.x_starts3 ?_ | with_reducible refine Kd.x_asg ?_ | with_reducible refine Kd.x_intB ?_ | with_reducible refine Kd.x_intI ?_ | with_reducible refine Kd.x_isB ?_ | with_reducible refine Kd.x_notB ?_ | with_reducible refine Kd.x_ne00 ?_ | with_reducible refine Kd.x_eq00 ?_ | with_reducible refine Kd.pl_in ?_ | with_reducible refine Kd.pl_inL ?_ | with_reducible refine Kd.pl_ninL ?_ | with_reducible refine Kd.x_listW ?_ | with_reducible refine Kd.x_eqLp ?_ | with_reducible refine Kd.x_neLp ?_ | with_reducible refine Kd.x_eqLt ?_ | with_reducible refine Kd.x_neLt ?_ | with_reducible refine Kd.pl_count ?_ | with_reducible refine Kd.x_count ?_ | with_reducible refine Kd.x_rngB ?_ | with_reducible refine Kd.x_lrg1 ?_ | with_reducible refine Kd.x_inTT ?_ | with_reducible refine Kd.x_neTt ?_ | with_reducible refine Kd.x_eqTt ?_ | with_reducible refine Kd.x_raise ?_ | with_reducible refine Kd.x_L0 ?_ | with_reducible refine Kd.x_eqT0 ?_ | with_reducible refine Kd.x_neSB ?_ | with_reducible refine Kd.x_trg1 ?_ | ((with_reducible refine Kd.x_gLst ?_ ?_); (· rfl)) | with_reducible refine Kd.x_addF ?_ | ((with_reducible apply Kd.x_insert); (· exact rfl)) | with_reducible refine Kd.x_listG ?_ | with_reducible refine Kd.g_seq ?_ | with_reducible refine Kd.g_plain ?_ | with_reducible refine Kd.g_if ?_ | with_reducible refine Kd.g_for ?_ | with_reducible refine Kd.x_one ?_ | with_reducible refine Kd.x_revS ?_ | with_reducible refine Kd.x_tupS ?_ | with_reducible refine Kd.x_revT2 ?_ | with_reducible refine Kd.x_try ?_ | ((with_reducible apply Kd.x_xf); (· exact rfl)) | ((with_reducible apply Kd.x_xi); (· exact rfl)) | ((with_reducible apply Kd.x_callX); (· exact rfl)) | with_reducible refine Kd.x_tryM ?_ | with_reducible refine Kd.x_tryT ?_ | with_reducible refine Kd.x_fs ?_ | with_reducible refine Kd.x_orS ?_ | with_reducible refine Kd.x_raise0 ?_ | with_reducible refine Kd.x_parDF ?_ | with_reducible refine Kd.x_parDV ?_ | with_reducible refine Kd.x_parVF ?_ | with_reducible refine Kd.x_fld ?_ | with_reducible refine Kd.x_putF ?_ | with_reducible refine Kd.x_setP ?_ | with_reducible refine Kd.x_meth ?_ | with_reducible refine Kd.x_imeth ?_ | ((with_reducible refine Kd.x_makeV ?_ ?_); (· exact rfl)) | with_reducible refine Kd.x_make ?_ | with_reducible refine Kd.x_prop ?_ | with_reducible refine Kd.x_lstW ?_ | with_reducible refine Kd.x_opW ?_ | with_reducible refine Kd.x_cbW ?_ | with_reducible refine Kd.x_ownO ?_ | with_reducible refine Kd.x_try0 ?_ | with_reducible refine Kd.x_tryP ?_ | with_reducible refine Kd.x_tryU ?_ | with_reducible refine Kd.x_mk ?_ | with_reducible refine Kd.x_dm0 ?_ | with_reducible refine Kd.x_dm1 ?_ | with_reducible refine Kd.x_keyI ?_ | with_reducible refine Kd.x_appE ?_ | with_reducible refine Kd.x_tyCutW ?_ | with_reducible refine Kd.x_ML ?_ | ((with_reducible apply Kd.x_dget2); (· exact rfl)) | with_reducible refine Kd.x_sup ?_ | with_reducible refine Kd.x_SE ?_ | with_reducible refine Kd.x_SA ?_ | ((with_reducible apply Kd.x_dget); (· exact rfl)) | ((with_reducible apply Kd.x_dput); (· exact rfl))))
namespace Kp
open PySem PySem.Spec PyProof.Rows L2 Kb Kd
def topS (i : Nat) : Stmt := PySem.Challenge.pw_tailranks_k88_lines_that_are_no_commands.main.body.getD i (.Pass ⟨0, 0, 0, 0⟩)
abbrev s_is_whole : Stmt := topS 20
abbrev s_is_place : Stmt := topS 21
abbrev s_check_place : Stmt := topS 22
abbrev s_rank_places : Stmt := topS 23
abbrev s_is_word : Stmt := topS 26
abbrev s_word_error : Stmt := topS 27
abbrev s_is_letter : Stmt := topS 28
abbrev s_tail_order : Stmt := topS 29
abbrev s_tail_ranks : Stmt := topS 30
abbrev s_ranks_of : Stmt := topS 32
abbrev s_factor_places : Stmt := topS 34
abbrev s_factors : Stmt := topS 35
abbrev s_first_lower : Stmt := topS 36
abbrev s_common_length : Stmt := topS 38
abbrev s_heads_of : Stmt := topS 39
abbrev s_count_parts : Stmt := topS 40
abbrev s_each_part : Stmt := topS 41
abbrev s_word_text : Stmt := topS 43
abbrev s_order_text : Stmt := topS 44
abbrev s_places_text : Stmt := topS 45
abbrev s_is_number : Stmt := topS 47
abbrev s_Console___init__ : Stmt := (clsB (topS 53)).getD 0 (.Pass ⟨0, 0, 0, 0⟩)
abbrev s_Console_execute : Stmt := (clsB (topS 53)).getD 1 (.Pass ⟨0, 0, 0, 0⟩)
abbrev s_answer_to : Stmt := topS 54
abbrev s_do_command : Stmt := topS 55
abbrev s_do_one_word : Stmt := topS 56
abbrev s_do_two_words : Stmt := topS 57
abbrev s_done : Stmt := topS 58
abbrev s_places_of : Stmt := topS 61
abbrev s_check_word : Stmt := topS 64
abbrev s_check_letter : Stmt := topS 65
abbrev s_changed : Stmt := topS 66
abbrev s_lengthened : Stmt := topS 67
abbrev s_shortened : Stmt := topS 68
abbrev s_edited : Stmt := topS 69
abbrev s_Desk___init__ : Stmt := (clsB (topS 70)).getD 2 (.Pass ⟨0, 0, 0, 0⟩)
abbrev s_Desk_word : Stmt := (clsB (topS 70)).getD 6 (.Pass ⟨0, 0, 0, 0⟩)
abbrev s_Desk_order : Stmt := (clsB (topS 70)).getD 7 (.Pass ⟨0, 0, 0, 0⟩)
abbrev s_Desk_version : Stmt := (clsB (topS 70)).getD 8 (.Pass ⟨0, 0, 0, 0⟩)
abbrev s_Desk_pattern : Stmt := (clsB (topS 70)).getD 9 (.Pass ⟨0, 0, 0, 0⟩)
abbrev s_Desk_pattern_set : Stmt := (clsB (topS 70)).getD 10 (.Pass ⟨0, 0, 0, 0⟩)
abbrev s_Desk_found : Stmt := (clsB (topS 70)).getD 11 (.Pass ⟨0, 0, 0, 0⟩)
abbrev s_Desk_look : Stmt := (clsB (topS 70)).getD 12 (.Pass ⟨0, 0, 0, 0⟩)
abbrev s_Desk_change : Stmt := (clsB (topS 70)).getD 13 (.Pass ⟨0, 0, 0, 0⟩)
abbrev s_Desk_grow : Stmt := (clsB (topS 70)).getD 14 (.Pass ⟨0, 0, 0, 0⟩)
abbrev s_Desk_shrink : Stmt := (clsB (topS 70)).getD 15 (.Pass ⟨0, 0, 0, 0⟩)
abbrev s_Desk_undo : Stmt := (clsB (topS 70)).getD 16 (.Pass ⟨0, 0, 0, 0⟩)
abbrev s_Desk_rank_of : Stmt := (clsB (topS 70)).getD 18 (.Pass ⟨0, 0, 0, 0⟩)
abbrev s_Desk_edits : Stmt := (clsB (topS 70)).getD 20 (.Pass ⟨0, 0, 0, 0⟩)
abbrev s_Desk___len__ : Stmt := (clsB (topS 70)).getD 29 (.Pass ⟨0, 0, 0, 0⟩)
abbrev s_Desk___str__ : Stmt := (clsB (topS 70)).getD 30 (.Pass ⟨0, 0, 0, 0⟩)
abbrev s_Desk_check_free : Stmt := (clsB (topS 70)).getD 32 (.Pass ⟨0, 0, 0, 0⟩)
abbrev s_Desk_check_result : Stmt := (clsB (topS 70)).getD 33 (.Pass ⟨0, 0, 0, 0⟩)
abbrev s_Desk_do_alone : Stmt := (clsB (topS 70)).getD 34 (.Pass ⟨0, 0, 0, 0⟩)
abbrev s_Desk_do_edit : Stmt := (clsB (topS 70)).getD 35 (.Pass ⟨0, 0, 0, 0⟩)
abbrev s_law_stream : Stmt := topS 72
abbrev s_law_draw : Stmt := topS 73
abbrev s_law_pick : Stmt := topS 74
abbrev s_law_odd : Stmt := topS 75
abbrev s_law_word : Stmt := topS 76
abbrev s_law_seen : Stmt := topS 77
abbrev s_law_is_number : Stmt := topS 78
abbrev s_law_is_command : Stmt := topS 79
abbrev s_law_lines : Stmt := topS 80
abbrev s_law_changed : Stmt := topS 81
abbrev s_law : Stmt := topS 82
abbrev s_ini_NoPlace : Stmt := (clsB (topS 15)).getD 0 (.Pass ⟨0, 0, 0, 0⟩)
abbrev s_ini_BadLetter : Stmt := (clsB (topS 4)).getD 0 (.Pass ⟨0, 0, 0, 0⟩)
abbrev s_ini_TooLong : Stmt := (clsB (topS 5)).getD 0 (.Pass ⟨0, 0, 0, 0⟩)
abbrev s_ini_BadWord : Stmt := (clsB (topS 3)).getD 0 (.Pass ⟨0, 0, 0, 0⟩)
structure En (K : PySem.W.Frag) (mg : Str → Option Value) : Type where
  f_law_stream : Addr
  fd_law_stream : FuncData
  f_law_draw : Addr
  fd_law_draw : FuncData
  f_law_pick : Addr
  fd_law_pick : FuncData
  f_is_whole : Addr
  fd_is_whole : FuncData
  f_is_place : Addr
  fd_is_place : FuncData
  f_check_place : Addr
  fd_check_place : FuncData
  f_rank_places : Addr
  fd_rank_places : FuncData
  f_word_error : Addr
  fd_word_error : FuncData
  f_is_word : Addr
  fd_is_word : FuncData
  f_is_letter : Addr
  fd_is_letter : FuncData
  f_tail_order : Addr
  fd_tail_order : FuncData
  f_tail_ranks : Addr
  fd_tail_ranks : FuncData
  f_ranks_of : Addr
  fd_ranks_of : FuncData
  f_first_lower : Addr
  fd_first_lower : FuncData
  f_factor_places : Addr
  fd_factor_places : FuncData
  f_factors : Addr
  fd_factors : FuncData
  f_common_length : Addr
  fd_common_length : FuncData
  f_heads_of : Addr
  fd_heads_of : FuncData
  f_each_part : Addr
  fd_each_part : FuncData
  f_count_parts : Addr
  fd_count_parts : FuncData
  f_word_text : Addr
  fd_word_text : FuncData
  f_order_text : Addr
  fd_order_text : FuncData
  f_places_text : Addr
  fd_places_text : FuncData
  f_is_number : Addr
  fd_is_number : FuncData
  f_Console___init__ : Addr
  fd_Console___init__ : FuncData
  f_done : Addr
  fd_done : FuncData
  f_Desk_word : Addr
  fd_Desk_word : FuncData
  f_Desk_order : Addr
  fd_Desk_order : FuncData
  f_places_of : Addr
  fd_places_of : FuncData
  f_Desk_found : Addr
  fd_Desk_found : FuncData
  f_Desk_check_free : Addr
  fd_Desk_check_free : FuncData
  f_check_letter : Addr
  fd_check_letter : FuncData
  f_changed : Addr
  fd_changed : FuncData
  f_lengthened : Addr
  fd_lengthened : FuncData
  f_shortened : Addr
  fd_shortened : FuncData
  f_edited : Addr
  fd_edited : FuncData
  f_Desk_check_result : Addr
  fd_Desk_check_result : FuncData
  f_Desk_do_edit : Addr
  fd_Desk_do_edit : FuncData
  f_Desk_do_alone : Addr
  fd_Desk_do_alone : FuncData
  f_Desk_shrink : Addr
  fd_Desk_shrink : FuncData
  f_Desk_undo : Addr
  fd_Desk_undo : FuncData
  f_do_one_word : Addr
  fd_do_one_word : FuncData
  f_check_word : Addr
  fd_check_word : FuncData
  f_Desk_pattern_set : Addr
  fd_Desk_pattern_set : FuncData
  f_Desk_look : Addr
  fd_Desk_look : FuncData
  f_Desk_grow : Addr
  fd_Desk_grow : FuncData
  f_Desk_rank_of : Addr
  fd_Desk_rank_of : FuncData
  f_do_two_words : Addr
  fd_do_two_words : FuncData
  f_Desk_change : Addr
  fd_Desk_change : FuncData
  f_do_command : Addr
  fd_do_command : FuncData
  f_answer_to : Addr
  fd_answer_to : FuncData
  f_Console_execute : Addr
  fd_Console_execute : FuncData
  f_Desk___init__ : Addr
  fd_Desk___init__ : FuncData
  f_Desk_version : Addr
  fd_Desk_version : FuncData
  f_Desk_pattern : Addr
  fd_Desk_pattern : FuncData
  f_Desk_edits : Addr
  fd_Desk_edits : FuncData
  f_Desk___len__ : Addr
  fd_Desk___len__ : FuncData
  f_Desk___str__ : Addr
  fd_Desk___str__ : FuncData
  f_law_odd : Addr
  fd_law_odd : FuncData
  f_law_word : Addr
  fd_law_word : FuncData
  f_law_seen : Addr
  fd_law_seen : FuncData
  f_law_is_number : Addr
  fd_law_is_number : FuncData
  f_law_is_command : Addr
  fd_law_is_command : FuncData
  f_law_lines : Addr
  fd_law_lines : FuncData
  f_law_changed : Addr
  fd_law_changed : FuncData
  t_MAX_WORD : Tok
  t_MAX_EDITS : Tok
  t_BATCH : Tok
  t_LETTERS : Tok
  t_KEPT_PAIRS : Tok
  t_NUMBERS : Tok
  t_UNKNOWN : Tok
  c_NoPlace : Addr
  c_BadLetter : Addr
  c_TooLong : Addr
  c_LastLetter : Addr
  c_TooManyEdits : Addr
  c_NothingToUndo : Addr
  c_BadWord : Addr
  c_Busy : Addr
  c_NotSimple : Addr
  i_NoPlace : Addr
  fi_NoPlace : FuncData
  i_BadLetter : Addr
  fi_BadLetter : FuncData
  i_TooLong : Addr
  fi_TooLong : FuncData
  i_BadWord : Addr
  fi_BadWord : FuncData
  c_Console : Addr
  c_Desk : Addr
  p_Desk_word : Addr
  p_Desk_order : Addr
  p_Desk_found : Addr
  p_Desk_pattern_set : Addr
  p_Desk_version : Addr
  p_Desk_pattern : Addr
  F_law_stream : Fun K "_law_stream" "_law_stream" s_law_stream f_law_stream fd_law_stream
  b_law_stream : Binds K fd_law_stream ["_law_script"] []
  g_law_stream : mg "_law_stream" = some (.ref f_law_stream)
  F_law_draw : Fun K "_law_draw" "_law_draw" s_law_draw f_law_draw fd_law_draw
  b_law_draw : Binds K fd_law_draw ["_law_stream_here", "_law_many"] []
  g_law_draw : mg "_law_draw" = some (.ref f_law_draw)
  F_law_pick : Fun K "_law_pick" "_law_pick" s_law_pick f_law_pick fd_law_pick
  b_law_pick : Binds K fd_law_pick ["_law_stream_here", "_law_items"] []
  g_law_pick : mg "_law_pick" = some (.ref f_law_pick)
  F_is_whole : Fun K "is_whole" "is_whole" s_is_whole f_is_whole fd_is_whole
  b_is_whole : Binds K fd_is_whole ["value"] []
  g_is_whole : mg "is_whole" = some (.ref f_is_whole)
  F_is_place : Fun K "is_place" "is_place" s_is_place f_is_place fd_is_place
  b_is_place : Binds K fd_is_place ["value", "many"] []
  g_is_place : mg "is_place" = some (.ref f_is_place)
  F_check_place : Fun K "check_place" "check_place" s_check_place f_check_place fd_check_place
  b_check_place : Binds K fd_check_place ["value", "many"] []
  g_check_place : mg "check_place" = some (.ref f_check_place)
  F_rank_places : Fun K "rank_places" "rank_places" s_rank_places f_rank_places fd_rank_places
  b_rank_places : Binds K fd_rank_places ["order"] []
  g_rank_places : mg "rank_places" = some (.ref f_rank_places)
  F_word_error : Fun K "word_error" "word_error" s_word_error f_word_error fd_word_error
  b_word_error : Binds K fd_word_error ["value"] []
  g_word_error : mg "word_error" = some (.ref f_word_error)
  F_is_word : Fun K "is_word" "is_word" s_is_word f_is_word fd_is_word
  b_is_word : Binds K fd_is_word ["value"] []
  g_is_word : mg "is_word" = some (.ref f_is_word)
  F_is_letter : Fun K "is_letter" "is_letter" s_is_letter f_is_letter fd_is_letter
  b_is_letter : Binds K fd_is_letter ["value"] []
  g_is_letter : mg "is_letter" = some (.ref f_is_letter)
  F_tail_order : Fun K "tail_order" "tail_order" s_tail_order f_tail_order fd_tail_order
  b_tail_order : Binds K fd_tail_order ["word"] []
  g_tail_order : mg "tail_order" = some (.ref f_tail_order)
  F_tail_ranks : Fun K "tail_ranks" "tail_ranks" s_tail_ranks f_tail_ranks fd_tail_ranks
  b_tail_ranks : Binds K fd_tail_ranks ["word"] []
  g_tail_ranks : mg "tail_ranks" = some (.ref f_tail_ranks)
  F_ranks_of : Fun K "ranks_of" "ranks_of" s_ranks_of f_ranks_of fd_ranks_of
  b_ranks_of : Binds K fd_ranks_of ["order"] []
  g_ranks_of : mg "ranks_of" = some (.ref f_ranks_of)
  F_first_lower : Fun K "first_lower" "first_lower" s_first_lower f_first_lower fd_first_lower
  b_first_lower : Binds K fd_first_lower ["ranks", "rank"] []
  g_first_lower : mg "first_lower" = some (.ref f_first_lower)
  F_factor_places : Fun K "factor_places" "factor_places" s_factor_places f_factor_places fd_factor_places
  b_factor_places : Binds K fd_factor_places ["order"] []
  g_factor_places : mg "factor_places" = some (.ref f_factor_places)
  F_factors : Fun K "factors" "factors" s_factors f_factors fd_factors
  b_factors : Binds K fd_factors ["word"] []
  g_factors : mg "factors" = some (.ref f_factors)
  F_common_length : Fun K "common_length" "common_length" s_common_length f_common_length fd_common_length
  b_common_length : Binds K fd_common_length ["word", "one", "other"] []
  g_common_length : mg "common_length" = some (.ref f_common_length)
  F_heads_of : Fun K "heads_of" "heads_of" s_heads_of f_heads_of fd_heads_of
  b_heads_of : Binds K fd_heads_of ["word"] []
  g_heads_of : mg "heads_of" = some (.ref f_heads_of)
  F_each_part : Fun K "each_part" "each_part" s_each_part f_each_part fd_each_part
  b_each_part : Binds K fd_each_part ["word"] []
  g_each_part : mg "each_part" = some (.ref f_each_part)
  F_count_parts : Fun K "count_parts" "count_parts" s_count_parts f_count_parts fd_count_parts
  b_count_parts : Binds K fd_count_parts ["word"] []
  g_count_parts : mg "count_parts" = some (.ref f_count_parts)
  F_word_text : Fun K "word_text" "word_text" s_word_text f_word_text fd_word_text
  b_word_text : Binds K fd_word_text ["word"] []
  g_word_text : mg "word_text" = some (.ref f_word_text)
  F_order_text : Fun K "order_text" "order_text" s_order_text f_order_text fd_order_text
  b_order_text : Binds K fd_order_text ["order"] []
  g_order_text : mg "order_text" = some (.ref f_order_text)
  F_places_text : Fun K "places_text" "places_text" s_places_text f_places_text fd_places_text
  b_places_text : Binds K fd_places_text ["places"] []
  g_places_text : mg "places_text" = some (.ref f_places_text)
  F_is_number : Fun K "is_number" "is_number" s_is_number f_is_number fd_is_number
  b_is_number : Binds K fd_is_number ["text", "many"] []
  g_is_number : mg "is_number" = some (.ref f_is_number)
  F_Console___init__ : Fun K "__init__" "Console.__init__" s_Console___init__ f_Console___init__ fd_Console___init__
  b_Console___init__ : Binds K fd_Console___init__ ["self", "desk"] []
  F_done : Fun K "done" "done" s_done f_done fd_done
  b_done : Binds K fd_done ["version"] []
  g_done : mg "done" = some (.ref f_done)
  F_Desk_word : Fun K "word" "Desk.word" s_Desk_word f_Desk_word fd_Desk_word
  b_Desk_word : Binds K fd_Desk_word ["self"] []
  F_Desk_order : Fun K "order" "Desk.order" s_Desk_order f_Desk_order fd_Desk_order
  b_Desk_order : Binds K fd_Desk_order ["self"] []
  F_places_of : Fun K "places_of" "places_of" s_places_of f_places_of fd_places_of
  b_places_of : Binds K fd_places_of ["word", "pattern"] []
  g_places_of : mg "places_of" = some (.ref f_places_of)
  F_Desk_found : Fun K "found" "Desk.found" s_Desk_found f_Desk_found fd_Desk_found
  b_Desk_found : Binds K fd_Desk_found ["self"] []
  F_Desk_check_free : Fun K "check_free" "Desk.check_free" s_Desk_check_free f_Desk_check_free fd_Desk_check_free
  b_Desk_check_free : Binds K fd_Desk_check_free ["self"] []
  F_check_letter : Fun K "check_letter" "check_letter" s_check_letter f_check_letter fd_check_letter
  b_check_letter : Binds K fd_check_letter ["value"] []
  g_check_letter : mg "check_letter" = some (.ref f_check_letter)
  F_changed : Fun K "changed" "changed" s_changed f_changed fd_changed
  b_changed : Binds K fd_changed ["word", "place", "letter"] []
  g_changed : mg "changed" = some (.ref f_changed)
  F_lengthened : Fun K "lengthened" "lengthened" s_lengthened f_lengthened fd_lengthened
  b_lengthened : Binds K fd_lengthened ["word", "letter"] []
  g_lengthened : mg "lengthened" = some (.ref f_lengthened)
  F_shortened : Fun K "shortened" "shortened" s_shortened f_shortened fd_shortened
  b_shortened : Binds K fd_shortened ["word"] []
  g_shortened : mg "shortened" = some (.ref f_shortened)
  F_edited : Fun K "edited" "edited" s_edited f_edited fd_edited
  b_edited : Binds K fd_edited ["word", "edit"] []
  g_edited : mg "edited" = some (.ref f_edited)
  F_Desk_check_result : Fun K "check_result" "Desk.check_result" s_Desk_check_result f_Desk_check_result fd_Desk_check_result
  b_Desk_check_result : Binds K fd_Desk_check_result ["self", "word"] []
  F_Desk_do_edit : Fun K "do_edit" "Desk.do_edit" s_Desk_do_edit f_Desk_do_edit fd_Desk_do_edit
  b_Desk_do_edit : Binds K fd_Desk_do_edit ["self", "edit"] []
  F_Desk_do_alone : Fun K "do_alone" "Desk.do_alone" s_Desk_do_alone f_Desk_do_alone fd_Desk_do_alone
  b_Desk_do_alone : Binds K fd_Desk_do_alone ["self", "edit"] []
  F_Desk_shrink : Fun K "shrink" "Desk.shrink" s_Desk_shrink f_Desk_shrink fd_Desk_shrink
  b_Desk_shrink : Binds K fd_Desk_shrink ["self"] []
  F_Desk_undo : Fun K "undo" "Desk.undo" s_Desk_undo f_Desk_undo fd_Desk_undo
  b_Desk_undo : Binds K fd_Desk_undo ["self"] []
  F_do_one_word : Fun K "do_one_word" "do_one_word" s_do_one_word f_do_one_word fd_do_one_word
  b_do_one_word : Binds K fd_do_one_word ["desk", "name"] []
  g_do_one_word : mg "do_one_word" = some (.ref f_do_one_word)
  F_check_word : Fun K "check_word" "check_word" s_check_word f_check_word fd_check_word
  b_check_word : Binds K fd_check_word ["value"] []
  g_check_word : mg "check_word" = some (.ref f_check_word)
  F_Desk_pattern_set : Fun K "pattern" "Desk.pattern" s_Desk_pattern_set f_Desk_pattern_set fd_Desk_pattern_set
  b_Desk_pattern_set : Binds K fd_Desk_pattern_set ["self", "value"] []
  F_Desk_look : Fun K "look" "Desk.look" s_Desk_look f_Desk_look fd_Desk_look
  b_Desk_look : Binds K fd_Desk_look ["self", "value"] []
  F_Desk_grow : Fun K "grow" "Desk.grow" s_Desk_grow f_Desk_grow fd_Desk_grow
  b_Desk_grow : Binds K fd_Desk_grow ["self", "letter"] []
  F_Desk_rank_of : Fun K "rank_of" "Desk.rank_of" s_Desk_rank_of f_Desk_rank_of fd_Desk_rank_of
  b_Desk_rank_of : Binds K fd_Desk_rank_of ["self", "place"] []
  F_do_two_words : Fun K "do_two_words" "do_two_words" s_do_two_words f_do_two_words fd_do_two_words
  b_do_two_words : Binds K fd_do_two_words ["desk", "name", "value"] []
  g_do_two_words : mg "do_two_words" = some (.ref f_do_two_words)
  F_Desk_change : Fun K "change" "Desk.change" s_Desk_change f_Desk_change fd_Desk_change
  b_Desk_change : Binds K fd_Desk_change ["self", "place", "letter"] []
  F_do_command : Fun K "do_command" "do_command" s_do_command f_do_command fd_do_command
  b_do_command : Binds K fd_do_command ["desk", "words"] []
  g_do_command : mg "do_command" = some (.ref f_do_command)
  F_answer_to : Fun K "answer_to" "answer_to" s_answer_to f_answer_to fd_answer_to
  b_answer_to : Binds K fd_answer_to ["desk", "line"] []
  g_answer_to : mg "answer_to" = some (.ref f_answer_to)
  F_Console_execute : Fun K "execute" "Console.execute" s_Console_execute f_Console_execute fd_Console_execute
  b_Console_execute : Binds K fd_Console_execute ["self", "line"] []
  F_Desk___init__ : Fun K "__init__" "Desk.__init__" s_Desk___init__ f_Desk___init__ fd_Desk___init__
  b_Desk___init__ : Binds K fd_Desk___init__ ["self", "word"] []
  F_Desk_version : Fun K "version" "Desk.version" s_Desk_version f_Desk_version fd_Desk_version
  b_Desk_version : Binds K fd_Desk_version ["self"] []
  F_Desk_pattern : Fun K "pattern" "Desk.pattern" s_Desk_pattern f_Desk_pattern fd_Desk_pattern
  b_Desk_pattern : Binds K fd_Desk_pattern ["self"] []
  F_Desk_edits : Fun K "edits" "Desk.edits" s_Desk_edits f_Desk_edits fd_Desk_edits
  b_Desk_edits : Binds K fd_Desk_edits ["self"] []
  F_Desk___len__ : Fun K "__len__" "Desk.__len__" s_Desk___len__ f_Desk___len__ fd_Desk___len__
  b_Desk___len__ : Binds K fd_Desk___len__ ["self"] []
  F_Desk___str__ : Fun K "__str__" "Desk.__str__" s_Desk___str__ f_Desk___str__ fd_Desk___str__
  b_Desk___str__ : Binds K fd_Desk___str__ ["self"] []
  F_law_odd : Fun K "_law_odd" "_law_odd" s_law_odd f_law_odd fd_law_odd
  b_law_odd : Binds K fd_law_odd ["_law_stream_here"] []
  g_law_odd : mg "_law_odd" = some (.ref f_law_odd)
  F_law_word : Fun K "_law_word" "_law_word" s_law_word f_law_word fd_law_word
  b_law_word : Binds K fd_law_word ["_law_stream_here", "_law_most"] []
  g_law_word : mg "_law_word" = some (.ref f_law_word)
  F_law_seen : Fun K "_law_seen" "_law_seen" s_law_seen f_law_seen fd_law_seen
  b_law_seen : Binds K fd_law_seen ["_law_desk"] []
  g_law_seen : mg "_law_seen" = some (.ref f_law_seen)
  F_law_is_number : Fun K "_law_is_number" "_law_is_number" s_law_is_number f_law_is_number fd_law_is_number
  b_law_is_number : Binds K fd_law_is_number ["_law_word_here"] []
  g_law_is_number : mg "_law_is_number" = some (.ref f_law_is_number)
  F_law_is_command : Fun K "_law_is_command" "_law_is_command" s_law_is_command f_law_is_command fd_law_is_command
  b_law_is_command : Binds K fd_law_is_command ["_law_value"] []
  g_law_is_command : mg "_law_is_command" = some (.ref f_law_is_command)
  F_law_lines : Fun K "_law_lines" "_law_lines" s_law_lines f_law_lines fd_law_lines
  b_law_lines : Binds K fd_law_lines [] []
  g_law_lines : mg "_law_lines" = some (.ref f_law_lines)
  F_law_changed : Fun K "_law_changed" "_law_changed" s_law_changed f_law_changed fd_law_changed
  b_law_changed : Binds K fd_law_changed ["_law_stream_here", "_law_line"] []
  g_law_changed : mg "_law_changed" = some (.ref f_law_changed)
  g_Console : mg "Console" = some (.ref c_Console)
  C_Console : Cls K c_Console
  n_Console_desk : NoAttr K c_Console "desk"
  n_Console_pairs : NoAttr K c_Console "pairs"
  g_Desk : mg "Desk" = some (.ref c_Desk)
  C_Desk : Cls K c_Desk
  n_Desk_text : NoAttr K c_Desk "text"
  n_Desk_earlier : NoAttr K c_Desk "earlier"
  n_Desk_steps : NoAttr K c_Desk "steps"
  n_Desk_chosen : NoAttr K c_Desk "chosen"
  n_Desk_busy : NoAttr K c_Desk "busy"
  h_Console___init__ : Mk K c_Console f_Console___init__
  h_Desk_word : PropOf K c_Desk "word" p_Desk_word f_Desk_word
  h_Desk_order : PropOf K c_Desk "order" p_Desk_order f_Desk_order
  h_Desk_found : PropOf K c_Desk "found" p_Desk_found f_Desk_found
  h_Desk_check_free : Meth K c_Desk "check_free" f_Desk_check_free
  h_Desk_check_result : Meth K c_Desk "check_result" f_Desk_check_result
  h_Desk_do_edit : Meth K c_Desk "do_edit" f_Desk_do_edit
  h_Desk_do_alone : Meth K c_Desk "do_alone" f_Desk_do_alone
  h_Desk_shrink : Meth K c_Desk "shrink" f_Desk_shrink
  h_Desk_undo : Meth K c_Desk "undo" f_Desk_undo
  h_Desk_pattern_set : SetOf K c_Desk "pattern" p_Desk_pattern_set f_Desk_pattern_set
  h_Desk_look : Meth K c_Desk "look" f_Desk_look
  h_Desk_grow : Meth K c_Desk "grow" f_Desk_grow
  h_Desk_rank_of : Meth K c_Desk "rank_of" f_Desk_rank_of
  h_Desk_change : Meth K c_Desk "change" f_Desk_change
  h_Console_execute : Meth K c_Console "execute" f_Console_execute
  h_Desk___init__ : Mk K c_Desk f_Desk___init__
  h_Desk_version : PropOf K c_Desk "version" p_Desk_version f_Desk_version
  h_Desk_pattern : PropOf K c_Desk "pattern" p_Desk_pattern f_Desk_pattern
  h_Desk_edits : Meth K c_Desk "edits" f_Desk_edits
  h_Desk___len__ : Spc K c_Desk "__len__" f_Desk___len__
  h_Desk___str__ : Spc K c_Desk "__str__" f_Desk___str__
  m_enumerate : mg "enumerate" = none
  m_tuple : mg "tuple" = none
  m_sorted : mg "sorted" = none
  m_len : mg "len" = none
  m_zip : mg "zip" = none
  m_repr : mg "repr" = none
  m_range : mg "range" = none
  m_isinstance : mg "isinstance" = none
  m_int : mg "int" = none
  m_list : mg "list" = none
  m_str : mg "str" = none
  m_abs : mg "abs" = none
  m_bool : mg "bool" = none
  v_MAX_WORD : mg "MAX_WORD" = some (.int 24 t_MAX_WORD)
  v_MAX_EDITS : mg "MAX_EDITS" = some (.int 60 t_MAX_EDITS)
  v_BATCH : mg "BATCH" = some (.int 20 t_BATCH)
  v_LETTERS : mg "LETTERS" = some (.str "abcdefghijklmnopqrstuvwxyz" t_LETTERS)
  v_KEPT_PAIRS : mg "KEPT_PAIRS" = some (.int 20 t_KEPT_PAIRS)
  v_NUMBERS : mg "NUMBERS" = some (.int 1000 t_NUMBERS)
  v_UNKNOWN : mg "UNKNOWN" = some (.str "unknown command" t_UNKNOWN)
  g_NoPlace : mg "NoPlace" = some (.ref c_NoPlace)
  g_BadLetter : mg "BadLetter" = some (.ref c_BadLetter)
  g_TooLong : mg "TooLong" = some (.ref c_TooLong)
  g_LastLetter : mg "LastLetter" = some (.ref c_LastLetter)
  g_TooManyEdits : mg "TooManyEdits" = some (.ref c_TooManyEdits)
  g_NothingToUndo : mg "NothingToUndo" = some (.ref c_NothingToUndo)
  g_BadWord : mg "BadWord" = some (.ref c_BadWord)
  g_Busy : mg "Busy" = some (.ref c_Busy)
  g_NotSimple : mg "NotSimple" = some (.ref c_NotSimple)
  E_NoPlace : ExA K c_NoPlace
  no_NoPlace : PySem.W.findIn K (.ref c_NoPlace) "value" = some none
  ii_NoPlace : PySem.W.findIn K (.ref c_NoPlace) "__init__" = some (some (.ref i_NoPlace))
  ti_NoPlace : PySem.W.typeIn K (.ref i_NoPlace) = some (.type "function")
  FI_NoPlace : Fun K "__init__" "NoPlace.__init__" s_ini_NoPlace i_NoPlace fi_NoPlace
  bi_NoPlace : Binds K fi_NoPlace ["self", "value"] []
  E_BadLetter : ExA K c_BadLetter
  no_BadLetter : PySem.W.findIn K (.ref c_BadLetter) "value" = some none
  ii_BadLetter : PySem.W.findIn K (.ref c_BadLetter) "__init__" = some (some (.ref i_BadLetter))
  ti_BadLetter : PySem.W.typeIn K (.ref i_BadLetter) = some (.type "function")
  FI_BadLetter : Fun K "__init__" "BadLetter.__init__" s_ini_BadLetter i_BadLetter fi_BadLetter
  bi_BadLetter : Binds K fi_BadLetter ["self", "value"] []
  E_TooLong : ExA K c_TooLong
  no_TooLong : PySem.W.findIn K (.ref c_TooLong) "limit" = some none
  ii_TooLong : PySem.W.findIn K (.ref c_TooLong) "__init__" = some (some (.ref i_TooLong))
  ti_TooLong : PySem.W.typeIn K (.ref i_TooLong) = some (.type "function")
  FI_TooLong : Fun K "__init__" "TooLong.__init__" s_ini_TooLong i_TooLong fi_TooLong
  bi_TooLong : Binds K fi_TooLong ["self", "limit"] []
  E_BadWord : ExA K c_BadWord
  no_BadWord : PySem.W.findIn K (.ref c_BadWord) "error" = some none
  ii_BadWord : PySem.W.findIn K (.ref c_BadWord) "__init__" = some (some (.ref i_BadWord))
  ti_BadWord : PySem.W.typeIn K (.ref i_BadWord) = some (.type "function")
  FI_BadWord : Fun K "__init__" "BadWord.__init__" s_ini_BadWord i_BadWord fi_BadWord
  bi_BadWord : Binds K fi_BadWord ["self", "error"] []
  E_LastLetter : ExA K c_LastLetter
  q_LastLetter : ExPl K c_LastLetter
  E_TooManyEdits : ExA K c_TooManyEdits
  q_TooManyEdits : ExPl K c_TooManyEdits
  E_NothingToUndo : ExA K c_NothingToUndo
  q_NothingToUndo : ExPl K c_NothingToUndo
  em_NoPlace_Busy : PySem.W.exmOne K (.ref c_NoPlace) (.ref c_Busy) = some false
  em_NoPlace_TooManyEdits : PySem.W.exmOne K (.ref c_NoPlace) (.ref c_TooManyEdits) = some false
  em_NoPlace_NoPlace : PySem.W.exmOne K (.ref c_NoPlace) (.ref c_NoPlace) = some true
  em_NoPlace_BadLetter : PySem.W.exmOne K (.ref c_NoPlace) (.ref c_BadLetter) = some false
  em_NoPlace_TooLong : PySem.W.exmOne K (.ref c_NoPlace) (.ref c_TooLong) = some false
  em_NoPlace_LastLetter : PySem.W.exmOne K (.ref c_NoPlace) (.ref c_LastLetter) = some false
  em_NoPlace_NotSimple : PySem.W.exmOne K (.ref c_NoPlace) (.ref c_NotSimple) = some false
  em_NoPlace_NothingToUndo : PySem.W.exmOne K (.ref c_NoPlace) (.ref c_NothingToUndo) = some false
  em_NoPlace_BadWord : PySem.W.exmOne K (.ref c_NoPlace) (.ref c_BadWord) = some false
  em_BadLetter_Busy : PySem.W.exmOne K (.ref c_BadLetter) (.ref c_Busy) = some false
  em_BadLetter_TooManyEdits : PySem.W.exmOne K (.ref c_BadLetter) (.ref c_TooManyEdits) = some false
  em_BadLetter_NoPlace : PySem.W.exmOne K (.ref c_BadLetter) (.ref c_NoPlace) = some false
  em_BadLetter_BadLetter : PySem.W.exmOne K (.ref c_BadLetter) (.ref c_BadLetter) = some true
  em_BadLetter_TooLong : PySem.W.exmOne K (.ref c_BadLetter) (.ref c_TooLong) = some false
  em_BadLetter_LastLetter : PySem.W.exmOne K (.ref c_BadLetter) (.ref c_LastLetter) = some false
  em_BadLetter_NotSimple : PySem.W.exmOne K (.ref c_BadLetter) (.ref c_NotSimple) = some false
  em_BadLetter_NothingToUndo : PySem.W.exmOne K (.ref c_BadLetter) (.ref c_NothingToUndo) = some false
  em_BadLetter_BadWord : PySem.W.exmOne K (.ref c_BadLetter) (.ref c_BadWord) = some false
  em_TooLong_Busy : PySem.W.exmOne K (.ref c_TooLong) (.ref c_Busy) = some false
  em_TooLong_TooManyEdits : PySem.W.exmOne K (.ref c_TooLong) (.ref c_TooManyEdits) = some false
  em_TooLong_NoPlace : PySem.W.exmOne K (.ref c_TooLong) (.ref c_NoPlace) = some false
  em_TooLong_BadLetter : PySem.W.exmOne K (.ref c_TooLong) (.ref c_BadLetter) = some false
  em_TooLong_TooLong : PySem.W.exmOne K (.ref c_TooLong) (.ref c_TooLong) = some true
  em_TooLong_LastLetter : PySem.W.exmOne K (.ref c_TooLong) (.ref c_LastLetter) = some false
  em_TooLong_NotSimple : PySem.W.exmOne K (.ref c_TooLong) (.ref c_NotSimple) = some false
  em_TooLong_NothingToUndo : PySem.W.exmOne K (.ref c_TooLong) (.ref c_NothingToUndo) = some false
  em_TooLong_BadWord : PySem.W.exmOne K (.ref c_TooLong) (.ref c_BadWord) = some false
  em_LastLetter_Busy : PySem.W.exmOne K (.ref c_LastLetter) (.ref c_Busy) = some false
  em_LastLetter_TooManyEdits : PySem.W.exmOne K (.ref c_LastLetter) (.ref c_TooManyEdits) = some false
  em_LastLetter_NoPlace : PySem.W.exmOne K (.ref c_LastLetter) (.ref c_NoPlace) = some false
  em_LastLetter_BadLetter : PySem.W.exmOne K (.ref c_LastLetter) (.ref c_BadLetter) = some false
  em_LastLetter_TooLong : PySem.W.exmOne K (.ref c_LastLetter) (.ref c_TooLong) = some false
  em_LastLetter_LastLetter : PySem.W.exmOne K (.ref c_LastLetter) (.ref c_LastLetter) = some true
  em_LastLetter_NotSimple : PySem.W.exmOne K (.ref c_LastLetter) (.ref c_NotSimple) = some false
  em_LastLetter_NothingToUndo : PySem.W.exmOne K (.ref c_LastLetter) (.ref c_NothingToUndo) = some false
  em_LastLetter_BadWord : PySem.W.exmOne K (.ref c_LastLetter) (.ref c_BadWord) = some false
  em_TooManyEdits_Busy : PySem.W.exmOne K (.ref c_TooManyEdits) (.ref c_Busy) = some false
  em_TooManyEdits_TooManyEdits : PySem.W.exmOne K (.ref c_TooManyEdits) (.ref c_TooManyEdits) = some true
  em_TooManyEdits_NoPlace : PySem.W.exmOne K (.ref c_TooManyEdits) (.ref c_NoPlace) = some false
  em_TooManyEdits_BadLetter : PySem.W.exmOne K (.ref c_TooManyEdits) (.ref c_BadLetter) = some false
  em_TooManyEdits_TooLong : PySem.W.exmOne K (.ref c_TooManyEdits) (.ref c_TooLong) = some false
  em_TooManyEdits_LastLetter : PySem.W.exmOne K (.ref c_TooManyEdits) (.ref c_LastLetter) = some false
  em_TooManyEdits_NotSimple : PySem.W.exmOne K (.ref c_TooManyEdits) (.ref c_NotSimple) = some false
  em_TooManyEdits_NothingToUndo : PySem.W.exmOne K (.ref c_TooManyEdits) (.ref c_NothingToUndo) = some false
  em_TooManyEdits_BadWord : PySem.W.exmOne K (.ref c_TooManyEdits) (.ref c_BadWord) = some false
  em_NothingToUndo_Busy : PySem.W.exmOne K (.ref c_NothingToUndo) (.ref c_Busy) = some false
  em_NothingToUndo_TooManyEdits : PySem.W.exmOne K (.ref c_NothingToUndo) (.ref c_TooManyEdits) = some false
  em_NothingToUndo_NoPlace : PySem.W.exmOne K (.ref c_NothingToUndo) (.ref c_NoPlace) = some false
  em_NothingToUndo_BadLetter : PySem.W.exmOne K (.ref c_NothingToUndo) (.ref c_BadLetter) = some false
  em_NothingToUndo_TooLong : PySem.W.exmOne K (.ref c_NothingToUndo) (.ref c_TooLong) = some false
  em_NothingToUndo_LastLetter : PySem.W.exmOne K (.ref c_NothingToUndo) (.ref c_LastLetter) = some false
  em_NothingToUndo_NotSimple : PySem.W.exmOne K (.ref c_NothingToUndo) (.ref c_NotSimple) = some false
  em_NothingToUndo_NothingToUndo : PySem.W.exmOne K (.ref c_NothingToUndo) (.ref c_NothingToUndo) = some true
  em_NothingToUndo_BadWord : PySem.W.exmOne K (.ref c_NothingToUndo) (.ref c_BadWord) = some false
  em_BadWord_Busy : PySem.W.exmOne K (.ref c_BadWord) (.ref c_Busy) = some false
  em_BadWord_TooManyEdits : PySem.W.exmOne K (.ref c_BadWord) (.ref c_TooManyEdits) = some false
  em_BadWord_NoPlace : PySem.W.exmOne K (.ref c_BadWord) (.ref c_NoPlace) = some false
  em_BadWord_BadLetter : PySem.W.exmOne K (.ref c_BadWord) (.ref c_BadLetter) = some false
  em_BadWord_TooLong : PySem.W.exmOne K (.ref c_BadWord) (.ref c_TooLong) = some false
  em_BadWord_LastLetter : PySem.W.exmOne K (.ref c_BadWord) (.ref c_LastLetter) = some false
  em_BadWord_NotSimple : PySem.W.exmOne K (.ref c_BadWord) (.ref c_NotSimple) = some false
  em_BadWord_NothingToUndo : PySem.W.exmOne K (.ref c_BadWord) (.ref c_NothingToUndo) = some false
  em_BadWord_BadWord : PySem.W.exmOne K (.ref c_BadWord) (.ref c_BadWord) = some true
section
variable {P : Program} {w : World} {K : PySem.W.Frag} {mg : Str → Option Value} {base : Heap}
theorem sc_ini_NoPlace : FnScope ["self", "value"] ["self", "value"] (defScope s_ini_NoPlace) := ⟨rfl, rfl, rfl, by decide +kernel, rfl, by decide +kernel, by decide +kernel⟩
theorem ok_ini_NoPlace (M : En K mg) : FnOk P w K mg base CX0 1 M.i_NoPlace M.fi_NoPlace ["self", "value"] (spInit "value" K) := by
  refine M.FI_NoPlace.ok sc_ini_NoPlace (fun vs H Q E h => by obtain ⟨a, C, y, rfl, _⟩ := h; rfl) (fun cdv A outer s H vs Q E hr h => ⟨_, pss_one (ps_st1 (pv 0) (pv 1)), ?_⟩)
  obtain ⟨a, C, y, rfl, T, hno, ea, q⟩ := h
  exact ⟨y, rfl, .ref a, rfl, a, C, rfl, T, hno, ea, q⟩
theorem sc_ini_BadLetter : FnScope ["self", "value"] ["self", "value"] (defScope s_ini_BadLetter) := ⟨rfl, rfl, rfl, by decide +kernel, rfl, by decide +kernel, by decide +kernel⟩
theorem ok_ini_BadLetter (M : En K mg) : FnOk P w K mg base CX0 1 M.i_BadLetter M.fi_BadLetter ["self", "value"] (spInit "value" K) := by
  refine M.FI_BadLetter.ok sc_ini_BadLetter (fun vs H Q E h => by obtain ⟨a, C, y, rfl, _⟩ := h; rfl) (fun cdv A outer s H vs Q E hr h => ⟨_, pss_one (ps_st1 (pv 0) (pv 1)), ?_⟩)
  obtain ⟨a, C, y, rfl, T, hno, ea, q⟩ := h
  exact ⟨y, rfl, .ref a, rfl, a, C, rfl, T, hno, ea, q⟩
theorem sc_ini_TooLong : FnScope ["self", "limit"] ["self", "limit"] (defScope s_ini_TooLong) := ⟨rfl, rfl, rfl, by decide +kernel, rfl, by decide +kernel, by decide +kernel⟩
theorem ok_ini_TooLong (M : En K mg) : FnOk P w K mg base CX0 1 M.i_TooLong M.fi_TooLong ["self", "limit"] (spInit "limit" K) := by
  refine M.FI_TooLong.ok sc_ini_TooLong (fun vs H Q E h => by obtain ⟨a, C, y, rfl, _⟩ := h; rfl) (fun cdv A outer s H vs Q E hr h => ⟨_, pss_one (ps_st1 (pv 0) (pv 1)), ?_⟩)
  obtain ⟨a, C, y, rfl, T, hno, ea, q⟩ := h
  exact ⟨y, rfl, .ref a, rfl, a, C, rfl, T, hno, ea, q⟩
theorem sc_ini_BadWord : FnScope ["self", "error"] ["self", "error"] (defScope s_ini_BadWord) := ⟨rfl, rfl, rfl, by decide +kernel, rfl, by decide +kernel, by decide +kernel⟩
theorem ok_ini_BadWord (M : En K mg) : FnOk P w K mg base CX0 1 M.i_BadWord M.fi_BadWord ["self", "error"] (spInit "error" K) := by
  refine M.FI_BadWord.ok sc_ini_BadWord (fun vs H Q E h => by obtain ⟨a, C, y, rfl, _⟩ := h; rfl) (fun cdv A outer s H vs Q E hr h => ⟨_, pss_one (ps_st1 (pv 0) (pv 1)), ?_⟩)
  obtain ⟨a, C, y, rfl, T, hno, ea, q⟩ := h
  exact ⟨y, rfl, .ref a, rfl, a, C, rfl, T, hno, ea, q⟩
end
end Kp
namespace Kp
open PySem PySem.Spec PyProof.Rows L2 Kb Kd
abbrev nStream : List Str := ["_law_script", "_law_cells", "_law_cell"]
theorem scStream : FnScope nStream ["_law_script"] (defScope s_law_stream) := ⟨rfl, rfl, rfl, by decide +kernel, rfl, by decide +kernel, by decide +kernel⟩
section
variable {P : Program} {w : World} {K : PySem.W.Frag} {mg : Str → Option Value} {base : Heap}
def spStream (K : PySem.W.Frag) : Sp := fun vs H Q _ => ∃ (a : Addr) (ns : List Int), vs = [.ref a] ∧ SqL K H a (ns.map V.int) ∧ ns.length ≤ 63 ∧
  ∀ H' p b c, Same H H' → H p = none → H b = none → H c = none → Stm H' p b c 0 → Q (.ref p) H'
theorem ok_stream {f : Addr} {fd : FuncData} {k : Nat} (F : Fun K "_law_stream" "_law_stream" s_law_stream f fd) (mAbs : mg "abs" = none) (mLen : mg "len" = none) :
    FnOk P w K mg base CX0 (k + 1) f fd ["_law_script"] (spStream K) := by
  refine F.ok scStream (fun vs H Q E h => ?_) (fun cdv A outer s H vs Q E hr h => ?_)
  · obtain ⟨a, ns, rfl, _⟩ := h
    rfl
  · obtain ⟨a, ns, rfl, hS, hlen, q⟩ := h
    refine ⟨_, pss_cons (ps_setLc (i := 1) (own := [("_law_cell", 2)]) (g := gName 2) (tt := tYes) rfl scStream.nd rfl rfl (sw_true rfl rfl rfl (by decide +kernel)) (pi_list (pv 0))
        (blkOk_by (N := nStream) (sc := defScope s_law_stream) (by decide +kernel)) (fun _ _ _ _ _ => pg_name (i := 2) scStream.nd rfl (Or.inl rfl)) (fun _ _ _ _ _ => pts_nil)
        (fun _ _ _ _ _ => pe_callB call_abs (by rfl) mAbs (by decide +kernel) (pa_cons (pv 2) pa_nil)))
      (pss_one (ps_ret (pe_lst (pa_cons (pe_lc (own := [("_law_cell", 2)]) (g := gName 2) rfl scStream.nd (pi_list (pv 1)) (blkOk_by (N := nStream) (sc := defScope s_law_stream) (by decide +kernel))
          (fun _ _ _ _ _ => pg_name (i := 2) scStream.nd rfl (Or.inl rfl)) (fun _ _ _ _ _ => pts_one (pt_cmpR op_ge (pv 2) (pe_op op_pow pe_int pe_int) (nomark _))) (fun _ _ _ _ _ => pv 2))
        (pa_cons (pe_op op_cat (pv 1) (pe_lst (pa_cons (pe_op op_add (pe_callB call_len_seq (by rfl) mLen PySem.boot_len (pa_cons (pv 1) pa_nil)) pe_int) pa_nil))) (pa_cons pe_int pa_nil)))))), ?_⟩
    refine ⟨.ref a, rfl, a, rfl, ⟨_, hS⟩, fun D hD => lc_list (K := K) (a := a) (xs := ns.map V.int)
      (fun i H' => ∃ l : List Int, Same H H' ∧ H' D = some (.lst (l.map V.int)) ∧ l.length = i) ⟨[], same_new hD, upd_same, rfl⟩ (fun i H' _ h => ?_) (fun i x H' hx h => ?_) (fun H1 h => ?_)⟩
    · obtain ⟨l, h1, _⟩ := h
      exact h1.seq hS
    · obtain ⟨l, h1, h2, h3⟩ := h
      rw [List.getElem?_map] at hx
      obtain ⟨z, hz, rfl⟩ := Option.map_eq_some_iff.mp hx
      refine ⟨rfl, .int z, rfl, z, rfl, l.map V.int, h2, ?_, ?_⟩
      · rw [List.length_map, h3]
        have := (List.getElem?_eq_some_iff.mp hz).1
        exact small1000 (by omega)
      · refine ⟨l ++ [_], fun b o e => ?_, by rw [upd_same, List.map_append]; rfl, by rw [List.length_append, h3]; rfl⟩
        have nb : b ≠ D := ne_of_none e hD
        rw [upd_ne nb]
        exact h1 _ _ e
    · obtain ⟨l, sm, eD, el⟩ := h
      rw [List.length_map] at el
      refine ⟨.ref D, rfl, D, rfl, ⟨_, .inl (.inl eD)⟩, fun B hB => lc_list (K := K) (a := D) (xs := l.map V.int)
        (fun i H' => ∃ r : List Int, Same H1 H' ∧ H' B = some (.lst (r.map V.int)) ∧ r.length ≤ i) ⟨[], same_new hB, upd_same, Nat.le_refl _⟩ (fun i H' _ h => ?_) (fun i x H' hx h => ?_) (fun H2 h => ?_)⟩
      · obtain ⟨r, h1, _⟩ := h
        exact h1.seq (.inl (.inl eD))
      · obtain ⟨r, h1, h2, h3⟩ := h
        rw [List.getElem?_map] at hx
        obtain ⟨z, hz, rfl⟩ := Option.map_eq_some_iff.mp hx
        have hi := (List.getElem?_eq_some_iff.mp hz).1
        refine ⟨rfl, .int z, rfl, 10, 18, rfl, rfl, ⟨by decide, by decide, by decide⟩, z, _, rfl, rfl, _, rfl, ite2 (fun _ => ?_) (fun _ => ?_)⟩
        · refine ⟨.int z, rfl, r.map V.int, h2, ?_, r ++ [z], fun b o e => ?_, by rw [upd_same, List.map_append]; rfl, by rw [List.length_append]; show r.length + 1 ≤ _; omega⟩
          · rw [List.length_map]
            exact small1000 (by omega)
          · have nb : b ≠ B := ne_of_none e hB
            rw [upd_ne nb]
            exact h1 _ _ e
        · exact ⟨r, h1, h2, by omega⟩
      · obtain ⟨r, sm2, eB, er⟩ := h
        rw [List.length_map] at er
        have eD2 := sm2 _ _ eD
        refine ⟨.ref D, rfl, .ref D, rfl, D, l.map V.int, rfl, .inl (.inl (.inl eD2)), _, 23, rfl, rfl, by show 1 ≤ sizeLine; decide, fun Z hZ => ?_⟩
        have sm3 := same_new (o := .lst [V.int (((l.map V.int).length : Int) + 23)]) hZ
        refine ⟨D, Z, l.map V.int, _, rfl, rfl, sm3 _ _ eD2, upd_same, ?_, fun C hC => ?_⟩
        · rw [List.length_map]
          exact Nat.le_of_lt (small1000 (by show l.length + 1 ≤ 1000; omega))
        · have sm4 := same_new (o := .lst (l.map V.int ++ [V.int (((l.map V.int).length : Int) + 23)])) hC
          refine ⟨by show 3 ≤ sizeLine; decide, fun p hp => ?_⟩
          have sm5 := same_new (o := .lst [.ref B, .ref C, .int 0]) hp
          have all : Same H _ := sm.trans (sm2.trans (sm3.trans (sm4.trans sm5)))
          have nB : H B = none := sm.free hB
          have nC : H C = none := sm.free (sm2.free (sm3.free hC))
          have np : H p = none := sm.free (sm2.free (sm3.free (sm4.free hp)))
          have eB4 := sm4 _ _ (sm3 _ _ eB)
          refine q _ p B C all np nB nC ⟨⟨0, r, l ++ [((l.map V.int).length : Int) + 23], upd_same, by decide, by decide, sm5 _ _ eB4, by omega, ?_, by rw [List.length_append]; show 0 < l.length + 1; omega, by rw [List.length_append]; show l.length + 1 ≤ 64; omega⟩, ?_⟩
          · rw [sm5 C _ upd_same, List.map_append]
            rfl
          · exact fun e => by
              have z := sm3 _ _ eB
              rw [e, hC] at z
              cases z
end
end Kp
namespace Kp
open PySem PySem.Spec PyProof.Rows L2 Kb
abbrev nDraw : List Str := ["_law_stream_here", "_law_many", "_law_rest", "_law_turn", "_law_cell", "_law_mixed"]
theorem scDraw : FnScope nDraw ["_law_stream_here", "_law_many"] (defScope s_law_draw) := ⟨rfl, rfl, rfl, by decide +kernel, rfl, by decide +kernel, by decide +kernel⟩
def bigLen (b : Addr) (H : Hp) : Nat := match H b with
  | some (.lst xs) => xs.length
  | _ => 0
theorem bigLen_of {b : Addr} {H : Hp} {xs : List V} (h : H b = some (.lst xs)) : bigLen b H = xs.length := by
  unfold bigLen
  rw [h]
section
variable {P : Program} {w : World} {K : PySem.W.Frag} {mg : Str → Option Value} {base : Heap}
def spDraw : Sp := fun vs H Q _ => ∃ (p b c : Addr) (t : Nat) (m : Int), vs = [.ref p, .int m] ∧ Stm H p b c t ∧ t ≤ 1000000 ∧ 0 < m ∧ m < 1000000000000000000000 ∧
  ∀ H' r, Kept p b H H' → Stm H' p b c (t + 1) → 0 ≤ r → r < m → Q (.int r) H'
theorem ok_draw {f : Addr} {fd : FuncData} {k : Nat} (F : Fun K "_law_draw" "_law_draw" s_law_draw f fd) (mLen : mg "len" = none) :
    FnOk P w K mg base CX0 (k + 1) f fd ["_law_stream_here", "_law_many"] spDraw := by
  refine F.ok scDraw (fun vs H Q E h => ?_) (fun cdv A outer s H vs Q E hr h => ?_)
  · obtain ⟨p, b, c, t, m, rfl, _⟩ := h
    rfl
  · obtain ⟨p, b, c, t, m, rfl, hS, ht, hm0, hm1, q⟩ := h
    refine ⟨_, pss_cons (ps_while PassesOwn.never (pt_cmpR (op_neD hr.units) (pe_ix ix_list (pv 0) pe_int (fun _ _ => rfl)) (pe_lst pa_nil) (nomark _))
        (pss_cons (ps_set (i := 2) scDraw.nd rfl (.inl rfl) (pe_ix ix_list (pe_ix ix_list (pv 0) pe_int (fun _ _ => rfl)) pe_int (fun _ _ => rfl)))
        (pss_cons (ps_if (pt_cmpR op_gt (pv 2) pe_int (nomark _))
          (pss_cons (ps_asg (pe_op op_fdivW (pv 2) (pv 1)) (pg_sub (pe_ix ix_list (pv 0) pe_int (fun _ _ => rfl)) pe_int set_list)) (pss_one (ps_ret (pe_op op_mod (pv 2) (pv 1))))) pss_nil)
        (pss_one (ps_expr (pe_bm PySem.F.plainAttrs_list PySem.F.slot_list_pop PySem.F.type_list_pop mt_popAt (pe_ix ix_list (pv 0) pe_int (fun _ _ => rfl)) (pa_cons pe_int pa_nil)))))))
      (pss_cons (ps_set (i := 3) scDraw.nd rfl (.inl rfl) (pe_op op_add (pe_ix ix_list (pv 0) pe_int (fun _ _ => rfl)) pe_int))
      (pss_cons (ps_asg (pv 3) (pg_sub (pv 0) pe_int set_list))
      (pss_cons (ps_set (i := 4) scDraw.nd rfl (.inl rfl) (pe_op op_mod (pe_ix ix_list (pe_ix ix_list (pv 0) pe_int (fun _ _ => rfl))
          (pe_op op_mod (pv 3) (pe_callB call_len_seq (by rfl) mLen PySem.boot_len (pa_cons (pe_ix ix_list (pv 0) pe_int (fun _ _ => rfl)) pa_nil))) (fun _ _ => rfl)) pe_int))
      (pss_cons (ps_set (i := 5) scDraw.nd rfl (.inl rfl) (pe_op op_mod (pe_op op_add (pe_op op_add (pe_op op_mul (pv 4) (pe_op op_add pe_int (pe_op op_mul pe_int (pv 3))))
          (pe_op op_mul (pe_op op_mul pe_int (pv 3)) (pv 3))) pe_int) pe_int))
      (pss_one (ps_ret (pe_op op_mod (pe_op op_fdiv (pe_op op_mod (pe_op op_mul (pv 5) (pv 5)) pe_int) pe_int) (pv 1)))))))), ?_⟩
    refine while_by (fun σ H' => ∃ y2, σ = [some (.ref p), some (.int m), y2, none, none, none] ∧ Kept p b H H' ∧ Stm H' p b c t) (fun _ H' => bigLen b H') ⟨none, rfl, Kept.refl H, hS⟩ (fun σ H1 h => ?_) (fun σ H1 Q Q' im h => ?_)
    · obtain ⟨y2, rfl, kp, S⟩ := h
      obtain ⟨⟨i, big, cells, e1, i0, i1, e2, l2, e3, c0, c1⟩, bc⟩ := id S
      refine ⟨.ref p, rfl, p, _, 0, .ref b, rfl, rfl, .inl (.inl e1), rfl, Nat.zero_le _, fun Z hZ => ?_⟩
      have sZ := same_new (o := .lst []) hZ
      have e1' := sZ _ _ e1
      have e2' := sZ _ _ e2
      have e3' := sZ _ _ e3
      refine ⟨.list (big.map PyData.int), .list [], .lst (.inl (.inl e2')) (dpAll_ints big), .lst (.inl (.inl upd_same)) .nil, shaped_ints big, by decide, _, rfl, ?_⟩
      rw [eqv_nil]
      cases big with
      | cons z rest =>
        refine ⟨.ref p, rfl, p, _, 0, .ref b, rfl, rfl, .inl (.inl e1'), rfl, b, _, 0, .int z, rfl, rfl, .inl (.inl e2'), at_of (j := 0) rfl rfl, ?_⟩
        have npb : p ≠ b := fun e => by
          rw [e, e2] at e1
          cases e1
        refine ⟨.int z, rfl, z, 0, rfl, rfl, _, rfl, ite2 (fun hz => ?_) (fun hz => ?_)⟩
        · -- the first great cell
          refine ⟨.int z, rfl, .int m, rfl, z, m, rfl, rfl, ⟨hm0, Nat.lt_trans ((Nat.log2_lt (by omega)).mpr (show m.natAbs < 2 ^ 70 by omega)) (by decide)⟩, .ref p, rfl, p, _, 0, .ref b, rfl, rfl, .inl (.inl e1'), rfl, b, _, 0, 0, rfl, rfl, e2', ix0 _, ?_⟩
          refine ⟨.int z, rfl, .int m, rfl, z, m, rfl, rfl, hm0, ?_⟩
          refine q _ _ (kp.trans ((Kept.same sZ).trans fun x o h1 h2 e => ?_)) ⟨⟨i, z / m :: rest, cells, ?_, i0, by omega, ?_, l2, ?_, c0, c1⟩, bc⟩ (Int.emod_nonneg _ (by omega)) (Int.emod_lt_of_pos _ hm0)
          · rw [upd_ne h2]
            exact e
          · rw [upd_ne npb]
            exact e1'
          · rw [upd_same]
            rfl
          · rw [upd_ne bc.symm]
            exact e3'
        · -- it is taken out
          refine ⟨.ref p, rfl, p, _, 0, .ref b, rfl, rfl, .inl (.inl e1'), rfl, .inl ⟨rfl, _, .inl (.inl e2')⟩, b, _, 0, 0, .int z, rfl, rfl, e2', by decide, by decide, sq0 _, rfl, ?_⟩
          refine ⟨⟨some (.int z), rfl, kp.trans ((Kept.same sZ).trans fun x o h1 h2 e => ?_), ⟨⟨i, rest, cells, ?_, i0, i1, ?_, ?_, ?_, c0, c1⟩, bc⟩⟩, ?_⟩
          · rw [upd_ne h2]
            exact e
          · rw [upd_ne npb]
            exact e1'
          · rw [upd_same]
            rfl
          · exact Nat.le_of_succ_le l2
          · rw [upd_ne bc.symm]
            exact e3'
          · rw [bigLen_of upd_same, bigLen_of e2]
            simp
      | nil =>
        have npc : p ≠ c := fun e => by
          rw [e, e3] at e1
          cases cells with
          | nil => cases c0
          | cons x r => cases e1
        have npb : b ≠ p := fun e => by
          rw [← e, e2] at e1
          cases e1
        -- turn = stream[2] + 1
        refine ⟨.ref p, rfl, p, _, 2, .int i, rfl, rfl, .inl (.inl e1'), rfl, i, 1, rfl, rfl, ?_⟩
        -- stream[2] = turn
        refine ⟨.int (i + 1), rfl, .ref p, rfl, p, _, 2, 2, rfl, rfl, e1', rfl, ?_⟩
        have e1u : (upd (upd H1 Z (.lst [])) p (.lst ([V.ref b, V.ref c, V.int i].set 2 (V.int (i + 1))))) p = some (.lst [.ref b, .ref c, .int (i + 1)]) := upd_same
        have e3u : (upd (upd H1 Z (.lst [])) p (.lst ([V.ref b, V.ref c, V.int i].set 2 (V.int (i + 1))))) c = some (.lst (cells.map V.int)) := by
          rw [upd_ne npc.symm]
          exact e3'
        have e2u : (upd (upd H1 Z (.lst [])) p (.lst ([V.ref b, V.ref c, V.int i].set 2 (V.int (i + 1))))) b = some (.lst (([] : List Int).map V.int)) := by
          rw [upd_ne npb]
          exact e2'
        -- cell
        have hlen : (0 : Int) < ((cells.map V.int).length : Int) := by
          rw [List.length_map]
          omega
        have j0 := Int.emod_nonneg (i + 1) (show ((cells.map V.int).length : Int) ≠ 0 by omega)
        have j1 := Int.emod_lt_of_pos (i + 1) hlen
        obtain ⟨j, hj⟩ := Int.eq_ofNat_of_zero_le j0
        have hjl : j < cells.length := by
          rw [List.length_map] at j1 hj
          omega
        refine ⟨.ref p, rfl, p, _, 0 + 1, .ref c, rfl, rfl, .inl (.inl e1u), rfl, .int (i + 1), rfl, .ref p, rfl, p, _, 1, .ref c, rfl, rfl, .inl (.inl e1u), rfl, c, _, rfl, .inl (.inl (.inl e3u)), i + 1, _, rfl, rfl, hlen, c, _, _, .int cells[j], rfl, rfl, .inl (.inl e3u), at_of hj (by rw [List.getElem?_map, List.getElem?_eq_getElem hjl]; rfl), cells[j], 2147483587, rfl, rfl, by show (0 : Int) < 2147483587; decide, ?_⟩
        have g0 := Int.emod_nonneg cells[j] (show (2147483587 : Int) ≠ 0 by decide)
        have g1 := Int.emod_lt_of_pos cells[j] (show (0 : Int) < 2147483587 by decide)
        obtain ⟨g, hg⟩ : ∃ g : Int, g = cells[j] % 2147483587 := ⟨_, rfl⟩
        rw [← hg] at g0 g1
        dsimp only
        rw [← hg]
        -- mixed
        refine ⟨.int g, rfl, .int (i + 1), rfl, 48271, i + 1, rfl, rfl, .inl ⟨by decide, by decide⟩, 40692, _, rfl, rfl, g, _, rfl, rfl, .inl ⟨by omega, by omega⟩, .int (i + 1), rfl, 69621, i + 1, rfl, rfl, .inl ⟨by decide, by decide⟩, .int (i + 1), rfl, _, i + 1, rfl, rfl, .inr ⟨by omega, by omega⟩, _, _, rfl, rfl, _, 23, rfl, rfl, _, 2147483647, rfl, rfl, by show (0 : Int) < 2147483647; decide, ?_⟩
        have m0 := Int.emod_nonneg (g * (40692 + 48271 * (i + 1)) + 69621 * (i + 1) * (i + 1) + 23) (show (2147483647 : Int) ≠ 0 by decide)
        have m1 := Int.emod_lt_of_pos (g * (40692 + 48271 * (i + 1)) + 69621 * (i + 1) * (i + 1) + 23) (show (0 : Int) < 2147483647 by decide)
        obtain ⟨x, hx⟩ : ∃ x : Int, x = (g * (40692 + 48271 * (i + 1)) + 69621 * (i + 1) * (i + 1) + 23) % 2147483647 := ⟨_, rfl⟩
        rw [← hx] at m0 m1
        dsimp only
        rw [← hx]
        refine ⟨.int x, rfl, .int x, rfl, x, x, rfl, rfl, .inl ⟨by omega, by omega⟩, _, 2147483629, rfl, rfl, by show (0 : Int) < 2147483629; decide, _, 16, rfl, rfl, ⟨by decide, by decide⟩, .int m, rfl, _, m, rfl, rfl, hm0, ?_⟩
        refine q _ _ (kp.trans ((Kept.same sZ).trans fun x o h1 h2 e => ?_)) ⟨⟨i + 1, [], cells, e1u, by omega, by omega, e2u, by decide, e3u, c0, c1⟩, bc⟩ (Int.emod_nonneg _ (by omega)) (Int.emod_lt_of_pos _ hm0)
        rw [upd_ne h1]
        exact e
    · obtain ⟨v, x1, p', xs, z, v2, x2, x3, x4, x5, x6, x7⟩ := h
      refine ⟨v, x1, p', xs, z, v2, x2, x3, x4, x5, x6, fun Z hZ => ?_⟩
      obtain ⟨d, e, y1, y2, y3, y4, kk, y5, y6⟩ := x7 Z hZ
      exact ⟨d, e, y1, y2, y3, y4, kk, y5, im _ _ y6⟩
end
end Kp
namespace Kp
open PySem PySem.Spec PyProof.Rows L2 Kb Kd
def sp_law_draw : SpD := fun ds n Q _ => ∃ m : Int, ds = [STRM, .int m] ∧ Kw.wt n ≤ 1000000 ∧ 0 < m ∧ m < 1000000000000000000000 ∧ ∀ k : Nat, (k : Int) < m → Q (.int k) (Kw.adv n 1)
section
variable {P : Program} {w : World} {K : PySem.W.Frag} {mg : Str → Option Value} {base : Heap}
theorem ok_law_draw (M : En K mg) : FnOk P w K mg base CX0 1 M.f_law_draw M.fd_law_draw ["_law_stream_here", "_law_many"] (spD K sp_law_draw) :=
  (ok_draw M.F_law_draw M.m_len).imp fun vs H Q E ⟨g, O, n, ds, Qd, Xd, wd, hd, ⟨m, e, hn, m0, m1, q⟩, mq, mx⟩ => by
    subst e
    obtain ⟨v, u, rfl, h1, h2⟩ := hd.two
    obtain rfl := h1.strm'
    obtain rfl := h2.int'
    refine ⟨g.p, g.b, g.c, Kw.wt n, m, rfl, wd.wok.stm, hn, m0, m1, fun H' r kp S r0 r1 => ?_⟩
    obtain ⟨k, rfl⟩ := Int.eq_ofNat_of_zero_le r0
    exact mq _ _ _ H' (q k r1) (wd.drew kp S) (.int _)
end
end Kp
namespace Kp
open PySem PySem.Spec PyProof.Rows L2 Kb Km Kd
def sp_law_pick : SpD := fun ds n Q _ => ∃ (it : PyData) (xs : List PyData), ds = [STRM, it] ∧ srcD it = some xs ∧ Kw.wt n ≤ 1000000 ∧ 0 < xs.length ∧ xs.length < 1000 ∧ ∀ x ∈ xs, Q x (Kw.adv n 1)
abbrev n_law_pick : List Str := ["_law_stream_here", "_law_items"]
theorem sc_law_pick : FnScope n_law_pick ["_law_stream_here", "_law_items"] (defScope s_law_pick) := ⟨rfl, rfl, rfl, by decide +kernel, rfl, by decide +kernel, by decide +kernel⟩
section
variable {P : Program} {w : World} {K : PySem.W.Frag} {mg : Str → Option Value} {base : Heap}
theorem ok_law_pick (M : En K mg) : FnOk P w K mg base CX0 2 M.f_law_pick M.fd_law_pick ["_law_stream_here", "_law_items"] (spD K sp_law_pick) := by
  have G_law_draw : FnOk P w K mg base CX0 1 M.f_law_draw M.fd_law_draw ["_law_stream_here", "_law_many"] (spD K sp_law_draw) := (ok_law_draw M).mono (by decide)
  refine okD M.F_law_pick sc_law_pick (fun ds n Q X h => ?_) (fun cdv A outer s H E hr => ⟨_, (dss_one (ds_ret (de_at ig (de_var (pv 1)) (de_call G_law_draw hr (by rfl) M.g_law_draw M.F_law_draw.kp M.b_law_draw passD (da_cons (de_var (pv 0)) (da_cons (de_b cg_len (by rfl) M.m_len (by decide +kernel) (da_cons (de_var (pv 1)) da_nil)) da_nil))) (fun _ _ => rfl)))), fun ds n Q X h => ?_⟩)
  · skip
    unfold sp_law_pick at h
    repeat (first | (rw [h.1]; rfl; done) | (obtain ⟨_, h⟩ := h))
  · skip
    obtain ⟨it, xs, rfl, hs, hn, h0, h1, q⟩ := h
    have fin : ∀ k : Nat, (k : Int) < (xs.length : Int) → ∃ x, xs[k]? = some x ∧ x ∈ xs := fun k hk => ⟨xs[k]'(by omega), List.getElem?_eq_getElem _, List.getElem_mem _⟩
    cases it with
    | str z =>
      cases hs
      have el : (sgD z).length = z.length := by unfold sgD; rw [List.length_map, Array.length_toList]; rfl
      walk_at "ex"
      refine ⟨_, rfl, hn, by omega, by omega, fun k hk => ?_⟩
      obtain ⟨x, hx, hm⟩ := fin k (by omega)
      have hq := q x hm
      unfold sgD at hx
      rw [List.getElem?_map] at hx
      obtain ⟨c, hc, rfl⟩ := Option.map_eq_some_iff.mp hx
      exact ⟨c, by unfold L2.atI; rw [ixNat (List.getElem?_eq_some_iff.mp hc).1]; exact hc, hq⟩
    | list ds =>
      cases hs
      walk_at "ex"
      refine ⟨_, rfl, hn, by omega, by omega, fun k hk => ?_⟩
      obtain ⟨x, hx, hm⟩ := fin k (by omega)
      exact ⟨x, by unfold L2.atI; rw [ixNat (List.getElem?_eq_some_iff.mp hx).1]; exact hx, q x hm⟩
    | tuple ds =>
      cases hs
      walk_at "ex"
      refine ⟨_, rfl, hn, by omega, by omega, fun k hk => ?_⟩
      obtain ⟨x, hx, hm⟩ := fin k (by omega)
      exact ⟨x, by unfold L2.atI; rw [ixNat (List.getElem?_eq_some_iff.mp hx).1]; exact hx, q x hm⟩
    | _ => cases hs
end
end Kp
namespace Kp
open PySem PySem.Spec PyProof.Rows L2 Kb Km Kd
def sp_is_whole : SpD := fun ds n Q _ => ∃ d : PyData, ds = [d] ∧ isStm d = false ∧ Q (.bool (whB d)) n
abbrev n_is_whole : List Str := ["value"]
theorem sc_is_whole : FnScope n_is_whole ["value"] (defScope s_is_whole) := ⟨rfl, rfl, rfl, by decide +kernel, rfl, by decide +kernel, by decide +kernel⟩
section
variable {P : Program} {w : World} {K : PySem.W.Frag} {mg : Str → Option Value} {base : Heap}
theorem ok_is_whole (M : En K mg) : FnOk P w K mg base CX0 1 M.f_is_whole M.fd_is_whole ["value"] (spD K sp_is_whole) := by
  refine okD M.F_is_whole sc_is_whole (fun ds n Q X h => ?_) (fun cdv A outer s H E hr => ⟨_, (dss_one (ds_ret (de_and (de_isi (c := "int") (by decide) (by rfl) M.m_isinstance (de_var (pv 0)) (pe_bltn (v := .ty "int") (u := .type "int") (by rfl) M.m_int (by decide +kernel) rfl)) (de_one (de_not (de_isi (c := "bool") (by decide) (by rfl) M.m_isinstance (de_var (pv 0)) (pe_bltn (v := .ty "bool") (u := .type "bool") (by rfl) M.m_bool (by decide +kernel) rfl))))))), fun ds n Q X h => ?_⟩)
  · skip
    unfold sp_is_whole at h
    repeat (first | (rw [h.1]; rfl; done) | (obtain ⟨_, h⟩ := h))
  · skip
    obtain ⟨d, rfl, hs, q⟩ := h
    walk_at "ex"
    refine ⟨hs, _, rfl, ?_⟩
    by_cases c : isiD "int" d = true
    · rw [c]
      walk_at "ex"
      refine ⟨hs, ?_⟩
      walk_at "ex"
      have e : whB d = !isiD "bool" d := by cases d <;> first | rfl | (exact absurd c (by decide)) | (cases c)
      rw [e] at q
      first | exact q | exact ⟨_, rfl, q⟩ | fail "A"
    · rw [eq_false_of_ne_true c]
      walk_at "ex"
      have e : whB d = false := by cases d <;> first | rfl | exact absurd rfl c
      rw [e] at q
      exact q
end
end Kp
namespace Kp
open PySem PySem.Spec PyProof.Rows L2 Kb Km Kd
def sp_is_place : SpD := fun ds n Q _ => ∃ (d : PyData) (m : Int), ds = [d, .int m] ∧ isStm d = false ∧ Q (.bool (inB 0 m d)) n
abbrev n_is_place : List Str := ["value", "many"]
theorem sc_is_place : FnScope n_is_place ["value", "many"] (defScope s_is_place) := ⟨rfl, rfl, rfl, by decide +kernel, rfl, by decide +kernel, by decide +kernel⟩
section
variable {P : Program} {w : World} {K : PySem.W.Frag} {mg : Str → Option Value} {base : Heap}
theorem ok_is_place (M : En K mg) : FnOk P w K mg base CX0 2 M.f_is_place M.fd_is_place ["value", "many"] (spD K sp_is_place) := by
  have G_is_whole : FnOk P w K mg base CX0 1 M.f_is_whole M.fd_is_whole ["value"] (spD K sp_is_whole) := (ok_is_whole M).mono (by decide)
  refine okD M.F_is_place sc_is_place (fun ds n Q X h => ?_) (fun cdv A outer s H E hr => ⟨_, (dss_one (ds_ret (de_and (de_call G_is_whole hr (by rfl) M.g_is_whole M.F_is_whole.kp M.b_is_whole passD (da_cons (de_var (pv 0)) da_nil)) (de_one (de_ch og_le og_lt de_int (de_var (pv 0)) (de_var (pv 1))))))), fun ds n Q X h => ?_⟩)
  · skip
    unfold sp_is_place at h
    repeat (first | (rw [h.1]; rfl; done) | (obtain ⟨_, h⟩ := h))
  · skip
    obtain ⟨d, m, rfl, hs, q⟩ := h
    walk_at "ex"
    refine ⟨d, rfl, hs, ?_⟩
    refine ⟨_, rfl, ?_⟩
    by_cases c : whB d = true
    · rw [c]
      obtain ⟨i, rfl⟩ : ∃ i, d = .int i := by cases d <;> first | exact ⟨_, rfl⟩ | cases c
      walk_at "ex"
      refine x_ite (fun c1 => ?_) (fun c1 => ?_)
      · walk_at "ex"
        rw [dec_iff (show (i < m) ↔ (0 ≤ i ∧ i < m) by omega)]
        exact q
      · walk_at "ex"
        rw [show inB 0 m (.int i) = false from decide_eq_false (by omega)] at q
        exact q
    · rw [eq_false_of_ne_true c]
      walk_at "ex"
      rw [show inB 0 m d = false by cases d <;> first | rfl | exact absurd rfl c] at q
      exact q
end
end Kp
namespace Kp
open PySem PySem.Spec PyProof.Rows L2 Kb Km Kd
def sp_check_place (C : Addr) : SpD := fun ds n Q X => ∃ (d : PyData) (m : Int), ds = [d, .int m] ∧ isStm d = false ∧ (inB 0 m d = false → X (.ref C) [(Str.ofString "value", d)] n) ∧ (inB 0 m d = true → Q .none n)
abbrev n_check_place : List Str := ["value", "many"]
theorem sc_check_place : FnScope n_check_place ["value", "many"] (defScope s_check_place) := ⟨rfl, rfl, rfl, by decide +kernel, rfl, by decide +kernel, by decide +kernel⟩
section
variable {P : Program} {w : World} {K : PySem.W.Frag} {mg : Str → Option Value} {base : Heap}
theorem ok_check_place (M : En K mg) : FnOk P w K mg base (L2N.CX P w) 3 M.f_check_place M.fd_check_place ["value", "many"] (spD K (sp_check_place M.c_NoPlace)) := by
  have G_is_place : FnOk P w K mg base CX0 2 M.f_is_place M.fd_is_place ["value", "many"] (spD K sp_is_place) := (ok_is_place M).mono (by decide)
  refine okX (N := n_check_place) (k := 2) M.F_check_place sc_check_place (fun ds n Q X h => ?_) (fun cdv A outer s H E hr => ⟨_, (dss_one (ds_if (dt_not (dt_val (de_call G_is_place hr (by rfl) M.g_is_place M.F_is_place.kp M.b_is_place passD (da_cons (de_var (pv 0)) (da_cons (de_var (pv 1)) da_nil))))) (dss_one (ds_raise rfl (L2N.takes_of rfl rfl rfl rfl) (pmk_ex1 M.E_NoPlace M.no_NoPlace M.ii_NoPlace M.ti_NoPlace (ok_ini_NoPlace M) (hr.mono (by decide)) M.bi_NoPlace (by rfl) M.g_NoPlace (da_cons (de_var (pv 0)) da_nil)))) dss_nil)), fun ds n Q X h => ?_⟩)
  · skip
    unfold sp_check_place at h
    repeat (first | (rw [h.1]; rfl; done) | (obtain ⟨_, h⟩ := h))
  · skip
    obtain ⟨d, m, rfl, sd, x1, q⟩ := h
    walk_at "ex"
    refine ⟨d, m, rfl, sd, ?_⟩
    walk_at "ex"
    refine x_iteB (fun c => ?_) (fun c => ?_)
    · have c : inB 0 m d = false := by simpa using c
      walk_at "ex"
      exact x1 c
    · have c : inB 0 m d = true := by simpa using c
      walk_at "ex"
      exact q c
end
end Kp
namespace Kp
open PySem PySem.Spec PyProof.Rows L2 Kb Km Kd
def sp_rank_places : SpD := fun ds n Q _ => ∃ r : List Nat, ds = [.tuple (plD r)] ∧ Km.Ord r ∧ r.length ≤ 100 ∧ Q (.tuple (plD (rk r r.length))) n
abbrev n_rank_places : List Str := ["order", "ranks", "rank", "place"]
theorem sc_rank_places : FnScope n_rank_places ["order"] (defScope s_rank_places) := ⟨rfl, rfl, rfl, by decide +kernel, rfl, by decide +kernel, by decide +kernel⟩
section
variable {P : Program} {w : World} {K : PySem.W.Frag} {mg : Str → Option Value} {base : Heap}
theorem ok_rank_places (M : En K mg) : FnOk P w K mg base CX0 1 M.f_rank_places M.fd_rank_places ["order"] (spD K sp_rank_places) := by
  refine okD M.F_rank_places sc_rank_places (fun ds n Q X h => ?_) (fun cdv A outer s H E hr => ⟨_, (dss_cons (ds_own (i := 1) sc_rank_places.nd rfl (.inl rfl) (df_rep (da_cons de_int da_nil) (de_b cg_len (by rfl) M.m_len (by decide +kernel) (da_cons (de_var (pv 0)) da_nil))))
      (dss_cons (ds_for PassesOwn.never rfl (di_enum (by rfl) M.m_enumerate (da_cons (de_var (pv 0)) da_nil)) (pg_tup (n := 2) rfl (pgs_cons (pg_name (i := 2) sc_rank_places.nd rfl (.inl rfl)) (pgs_cons (pg_name (i := 3) sc_rank_places.nd rfl (.inl rfl)) pgs_nil))) (tg_tup (m := 2) (tgs_cons (tg_name (i := 2)) (tgs_cons (tg_name (i := 3)) tgs_nil))) (dss_one (ds_putAt (i := 1) (pv 1) (de_var (pv 3)) (de_var (pv 2)))))
      (dss_frz (i := 1) (dss_one (ds_ret (de_ty cg_tuple (by rfl) M.m_tuple (by decide +kernel) (da_cons (de_var (pv 1)) da_nil))))))), fun ds n Q X h => ?_⟩)
  · skip
    unfold sp_rank_places at h
    repeat (first | (rw [h.1]; rfl; done) | (obtain ⟨_, h⟩ := h))
  · skip
    obtain ⟨r, rfl, ho, hl, q⟩ := h
    walk_at "ex"
    refine ⟨⟨by omega, by omega, ?_⟩, ?_⟩
    · rw [show [PyData.int 0].length = 1 from rfl, sizeLine_eq]; omega
    · rw [rep_zero]
      walk_at "ex"
      refine for_enPl (fun i ρ k => k = n ∧ ∃ y2 y3, ρ = [.d (.tuple (plD r)), .own (plD (rk r i)), y2, y3]) ⟨rfl, _, _, by rw [show ((r.length : Int).toNat) = r.length by omega]; rfl⟩ (fun i p ρ k hi ⟨e1, y2, y3, e2⟩ => ?_) (fun ρ k ⟨e1, y2, y3, e2⟩ => ?_)
      · subst e1 e2
        walk_at "ex"
        have hp : p < r.length := ho.lt (List.mem_of_getElem? hi)
        refine ⟨plD (rk r i), rfl, ?_⟩
        walk_at "ex"
        refine ⟨_, p, rfl, ixNat (by rw [plD_len, rk_len]; exact hp), rfl, .d (.int (i : Nat)), .d (.int (p : Nat)), ?_⟩
        rw [plD_set]
        show _ = [_, Cell.own (plD ((rk r i).set (r.getD i 0) i)), _, _]
        rw [show r.getD i 0 = p by rw [List.getD_eq_getElem?_getD, hi]; rfl]
        rfl
      · subst e1 e2
        walk_at "ex"
        exact q
end
end Kp
namespace Kd
open PySem PySem.Spec PyProof.Rows L2 Kb Km
theorem not_str {d : PyData} (c : ¬ ∃ z, d = .str z) : isiD "str" d = false ∧ werr d = .tuple [.none, .str "word"] := by
  cases d with
  | str z => exact absurd ⟨z, rfl⟩ c
  | _ => exact ⟨rfl, rfl⟩
end Kd
namespace Kp
open PySem PySem.Spec PyProof.Rows L2 Kb Km Kd
def sp_word_error : SpD := fun ds n Q _ => ∃ d : PyData, ds = [d] ∧ isStm d = false ∧ (∀ z, d = .str z → z.length ≤ 1000) ∧ Q (werr d) n
abbrev n_word_error : List Str := ["value", "place", "letter"]
theorem sc_word_error : FnScope n_word_error ["value"] (defScope s_word_error) := ⟨rfl, rfl, rfl, by decide +kernel, rfl, by decide +kernel, by decide +kernel⟩
section
variable {P : Program} {w : World} {K : PySem.W.Frag} {mg : Str → Option Value} {base : Heap}
theorem ok_word_error (M : En K mg) : FnOk P w K mg base CX0 1 M.f_word_error M.fd_word_error ["value"] (spD K sp_word_error) := by
  refine okD M.F_word_error sc_word_error (fun ds n Q X h => ?_) (fun cdv A outer s H E hr => ⟨_, (dss_cons (ds_if (dt_w (dw_or (dt_not (dt_val (de_isi (c := "str") (by decide) (by rfl) M.m_isinstance (de_var (pv 0)) (pe_bltn (v := .ty "str") (u := .type "str") (by rfl) M.m_str (by decide +kernel) rfl)))) (dw_or1 (dt_not (dt_ch og_le og_le de_int (de_b cg_len (by rfl) M.m_len (by decide +kernel) (da_cons (de_var (pv 0)) da_nil)) (de_c (v := .int _) (d := .int _) (pe_glob (by rfl) M.v_MAX_WORD ⟨_, rfl⟩) (fun _ _ _ => .int _))))))) (dss_one (ds_ret (de_tup (da_cons de_non (da_cons de_str da_nil))))) dss_nil)
      (dss_cons (ds_for PassesOwn.never rfl (di_enum (by rfl) M.m_enumerate (da_cons (de_var (pv 0)) da_nil)) (pg_tup (n := 2) rfl (pgs_cons (pg_name (i := 1) sc_word_error.nd rfl (.inl rfl)) (pgs_cons (pg_name (i := 2) sc_word_error.nd rfl (.inl rfl)) pgs_nil))) (tg_tup (m := 2) (tgs_cons (tg_name (i := 1)) (tgs_cons (tg_name (i := 2)) tgs_nil))) (dss_one (ds_if (dt_k og_notin (de_var (pv 2)) (de_c (v := .str _) (d := .str _) (pe_glob (by rfl) M.v_LETTERS ⟨_, rfl⟩) (fun _ _ _ => .str _ (by decide +kernel))) (by rfl)) (dss_one (ds_ret (de_tup (da_cons (de_var (pv 1)) (da_cons de_str da_nil))))) dss_nil)))
      (dss_one (ds_ret de_non)))), fun ds n Q X h => ?_⟩)
  · skip
    unfold sp_word_error at h
    repeat (first | (rw [h.1]; rfl; done) | (obtain ⟨_, h⟩ := h))
  · skip
    obtain ⟨d, rfl, ns, zl, q⟩ := h
    walk_at "ex"
    refine ⟨ns, _, rfl, ?_⟩
    by_cases c : ∃ z, d = .str z
    · obtain ⟨z, rfl⟩ := c
      have zl := zl z rfl
      have e := str_W z
      have ll : z.cps.toList.length ≤ 1000 := by rw [Array.length_toList]; exact zl
      rw [e, werr_W] at q
      rw [e]
      generalize z.cps.toList = L at q ll
      rw [show isiD "str" (W L) = true from rfl]
      walk_at "ex"
      refine x_ite (fun c1 => ?_) (fun c1 => ?_)
      · walk_at "ex"
        refine x_iteN (fun c2 => ?_) (fun c2 => ?_)
        · walk_at "ex"
          unfold werL at q
          rw [if_neg (by omega)] at q
          exact q
        · have h24 : 1 ≤ L.length ∧ L.length ≤ 24 := ⟨by omega, by omega⟩
          walk_at "ex"
          refine for_enW (A := L) (fun i ρ k => k = n ∧ (∀ j x, j < i → L[j]? = some x → abcB x = true) ∧ ∃ y1 y2 : Cell, ρ = [.d (W L), y1, y2]) ⟨rfl, fun j x hj => absurd hj (by omega), _, _, rfl⟩ (fun i c ρ k hc ⟨e1, hg, y1, y2, e2⟩ => ?_) (fun ρ k ⟨e1, hg, y1, y2, e2⟩ => ?_)
          · subst e1 e2
            walk_at "ex"
            refine x_abcNinG ?_
            walk_at "ex"
            refine x_iteB (fun cb => ?_) (fun cb => ?_)
            · walk_at "ex"
              rw [werL_at h24 hc (by simpa using cb) hg] at q
              exact q
            · walk_at "ex"
              refine ⟨fun j x hj hx => ?_, _, _, rfl⟩
              by_cases z : j = i
              · subst z
                rw [hc] at hx
                cases hx
                simpa using cb
              · exact hg j x (by omega) hx
          · subst e1 e2
            walk_at "ex"
            rw [werL_none h24 hg] at q
            exact q
      · walk_at "ex"
        unfold werL at q
        rw [if_neg (by omega)] at q
        exact q
    · obtain ⟨c1, c2⟩ := not_str c
      rw [c1]
      walk_at "ex"
      rw [c2] at q
      exact q
end
end Kp
namespace Kp
open PySem PySem.Spec PyProof.Rows L2 Kb Km Kd
def sp_is_word : SpD := fun ds n Q _ => ∃ d : PyData, ds = [d] ∧ isStm d = false ∧ (∀ z, d = .str z → z.length ≤ 1000) ∧ Q (.bool (isNoneD (werr d))) n
abbrev n_is_word : List Str := ["value"]
theorem sc_is_word : FnScope n_is_word ["value"] (defScope s_is_word) := ⟨rfl, rfl, rfl, by decide +kernel, rfl, by decide +kernel, by decide +kernel⟩
section
variable {P : Program} {w : World} {K : PySem.W.Frag} {mg : Str → Option Value} {base : Heap}
theorem ok_is_word (M : En K mg) : FnOk P w K mg base CX0 2 M.f_is_word M.fd_is_word ["value"] (spD K sp_is_word) := by
  have G_word_error : FnOk P w K mg base CX0 1 M.f_word_error M.fd_word_error ["value"] (spD K sp_word_error) := (ok_word_error M).mono (by decide)
  refine okD M.F_is_word sc_is_word (fun ds n Q X h => ?_) (fun cdv A outer s H E hr => ⟨_, (dss_one (ds_ret (de_k og_is (de_call G_word_error hr (by rfl) M.g_word_error M.F_word_error.kp M.b_word_error passD (da_cons (de_var (pv 0)) da_nil)) de_non (nomark _)))), fun ds n Q X h => ?_⟩)
  · skip
    unfold sp_is_word at h
    repeat (first | (rw [h.1]; rfl; done) | (obtain ⟨_, h⟩ := h))
  · skip
    obtain ⟨d, rfl, ns, zl, q⟩ := h
    walk_at "ex"
    refine ⟨d, rfl, ns, zl, ?_⟩
    walk_at "ex"
    exact q
end
end Kp
namespace Kp
open PySem PySem.Spec PyProof.Rows L2 Kb Km Kd
def sp_is_letter : SpD := fun ds n Q _ => ∃ d : PyData, ds = [d] ∧ Fit d ∧ Q (.bool (letB d)) n
abbrev n_is_letter : List Str := ["value"]
theorem sc_is_letter : FnScope n_is_letter ["value"] (defScope s_is_letter) := ⟨rfl, rfl, rfl, by decide +kernel, rfl, by decide +kernel, by decide +kernel⟩
section
variable {P : Program} {w : World} {K : PySem.W.Frag} {mg : Str → Option Value} {base : Heap}
theorem ok_is_letter (M : En K mg) : FnOk P w K mg base CX0 3 M.f_is_letter M.fd_is_letter ["value"] (spD K sp_is_letter) := by
  have G_is_word : FnOk P w K mg base CX0 2 M.f_is_word M.fd_is_word ["value"] (spD K sp_is_word) := (ok_is_word M).mono (by decide)
  refine okD M.F_is_letter sc_is_letter (fun ds n Q X h => ?_) (fun cdv A outer s H E hr => ⟨_, (dss_one (ds_ret (de_and (de_call G_is_word hr (by rfl) M.g_is_word M.F_is_word.kp M.b_is_word passD (da_cons (de_var (pv 0)) da_nil)) (de_one (de_k (og_eq hr.units) (de_b cg_len (by rfl) M.m_len (by decide +kernel) (da_cons (de_var (pv 0)) da_nil)) de_int (nomark _)))))), fun ds n Q X h => ?_⟩)
  · skip
    unfold sp_is_letter at h
    repeat (first | (rw [h.1]; rfl; done) | (obtain ⟨_, h⟩ := h))
  · skip
    obtain ⟨d, rfl, ⟨f1, f2⟩, q⟩ := h
    walk_at "ex"
    refine ⟨d, rfl, f1, f2, ?_⟩
    refine ⟨_, rfl, ?_⟩
    have q : Q (.bool (isNoneD (werr d) && one1 d)) n := q
    cases c : isNoneD (werr d) with
    | false =>
      rw [c] at q
      walk_at "ex"
      exact q
    | true =>
      rw [c] at q
      obtain ⟨z, rfl⟩ : ∃ z, d = .str z := by cases d <;> first | exact ⟨_, rfl⟩ | cases c
      walk_at "ex"
      rw [Bool.true_and] at q
      have e1 : decide ((z.length : Int) = 1) = one1 (.str z) := dec_iff (by rw [Array.length_toList]; show ((z.cps.size : Nat) : Int) = 1 ↔ _; omega)
      rw [e1]
      exact q
end
end Kp
namespace Kp
open PySem PySem.Spec PyProof.Rows L2 Kb Km Kd
def sp_tail_order : SpD := fun ds n Q _ => ∃ L : List Nat, ds = [W L] ∧ L.length ≤ 100 ∧ Q (.tuple (plD (tord L))) n
abbrev n_tail_order : List Str := ["word", "tails", "place", "tail"]
theorem sc_tail_order : FnScope n_tail_order ["word"] (defScope s_tail_order) := ⟨rfl, rfl, rfl, by decide +kernel, rfl, by decide +kernel, by decide +kernel⟩
section
variable {P : Program} {w : World} {K : PySem.W.Frag} {mg : Str → Option Value} {base : Heap}
theorem ok_tail_order (M : En K mg) : FnOk P w K mg base CX0 1 M.f_tail_order M.fd_tail_order ["word"] (spD K sp_tail_order) := by
  refine okD M.F_tail_order sc_tail_order (fun ds n Q X h => ?_) (fun cdv A outer s H E hr => ⟨_, (dss_cons (ds_set (i := 1) sc_tail_order.nd rfl (.inl rfl) (de_b (cg_sorted hr.units) (by rfl) M.m_sorted (by decide +kernel) (da_cons (de_lc (own := [("place", 2)]) rfl sc_tail_order.nd (di_range1 (by rfl) M.m_range (da_cons (de_b cg_len (by rfl) M.m_len (by decide +kernel) (da_cons (de_var (pv 0)) da_nil)) da_nil)) (blkOk_by (N := n_tail_order) (sc := defScope s_tail_order) (by decide +kernel)) (tc_name (i := 2)) (fun _ _ _ _ _ => (pg_name (i := 2) sc_tail_order.nd rfl (Or.inl rfl))) (fun _ _ _ _ _ => dts_nil) (fun _ _ _ _ _ => (de_ty cg_str (by rfl) M.m_str (by decide +kernel) (da_cons (de_cut sg (de_var (pv 0)) (do_some (de_var (pv 2))) do_none) da_nil)))) da_nil)))
      (dss_one (ds_ret (de_ty cg_tuple (by rfl) M.m_tuple (by decide +kernel) (da_cons (de_lc (own := [("tail", 3)]) rfl sc_tail_order.nd (di_src (de_var (pv 1))) (blkOk_by (N := n_tail_order) (sc := defScope s_tail_order) (by decide +kernel)) (tc_name (i := 3)) (fun _ _ _ _ _ => (pg_name (i := 3) sc_tail_order.nd rfl (Or.inl rfl))) (fun _ _ _ _ _ => dts_nil) (fun _ _ _ _ _ => (de_o og_sub (de_b cg_len (by rfl) M.m_len (by decide +kernel) (da_cons (de_var (pv 0)) da_nil)) (de_b cg_len (by rfl) M.m_len (by decide +kernel) (da_cons (de_var (pv 3)) da_nil))))) da_nil))))), fun ds n Q X h => ?_⟩)
  · skip
    unfold sp_tail_order at h
    repeat (first | (rw [h.1]; rfl; done) | (obtain ⟨_, h⟩ := h))
  · skip
    obtain ⟨L, rfl, hl, q⟩ := h
    walk_at "ex"
    refine lc_R0A (fun i => W (L.drop i)) (by omega) (fun i hi P h => ?_) ?_
    · walk_at "ex"
      exact h
    · walk_at "ex"
      rw [show ((List.range (L.length : Int).toNat).map fun i => W (L.drop i)) = ((List.range L.length).map fun i => L.drop i).map W by rw [List.map_map]; rfl]
      walk_at "ex"
      refine lc_A (fun y => .int ((L.length - y.length : Nat) : Int)) (by rw [List.length_mergeSort, List.length_map, List.length_range]; omega) (fun y hy P h => ?_) ?_
      · have : y.length ≤ L.length := by
          obtain ⟨i, _, rfl⟩ := List.mem_map.mp ((List.mergeSort_perm _ _).mem_iff.mp hy)
          rw [List.length_drop]; omega
        walk_at "ex"
        rw [show (L.length : Int) - (y.length : Int) = ((L.length - y.length : Nat) : Int) by omega]
        exact h
      · walk_at "ex"
        show Q (.tuple ((tls L).map fun y => PyData.int ((L.length - y.length : Nat) : Int))) n
        rw [pl_map]
        exact q
end
end Kp
namespace Kp
open PySem PySem.Spec PyProof.Rows L2 Kb Km Kd
def sp_tail_ranks : SpD := fun ds n Q _ => ∃ L : List Nat, ds = [W L] ∧ L.length ≤ 100 ∧ Q (.tuple (plD ((List.range L.length).map (cnt L)))) n
abbrev n_tail_ranks : List Str := ["word"]
theorem sc_tail_ranks : FnScope n_tail_ranks ["word"] (defScope s_tail_ranks) := ⟨rfl, rfl, rfl, by decide +kernel, rfl, by decide +kernel, by decide +kernel⟩
section
variable {P : Program} {w : World} {K : PySem.W.Frag} {mg : Str → Option Value} {base : Heap}
theorem ok_tail_ranks (M : En K mg) : FnOk P w K mg base CX0 2 M.f_tail_ranks M.fd_tail_ranks ["word"] (spD K sp_tail_ranks) := by
  have G_rank_places : FnOk P w K mg base CX0 1 M.f_rank_places M.fd_rank_places ["order"] (spD K sp_rank_places) := (ok_rank_places M).mono (by decide)
  have G_tail_order : FnOk P w K mg base CX0 1 M.f_tail_order M.fd_tail_order ["word"] (spD K sp_tail_order) := (ok_tail_order M).mono (by decide)
  refine okD M.F_tail_ranks sc_tail_ranks (fun ds n Q X h => ?_) (fun cdv A outer s H E hr => ⟨_, (dss_one (ds_ret (de_call G_rank_places hr (by rfl) M.g_rank_places M.F_rank_places.kp M.b_rank_places passD (da_cons (de_call G_tail_order hr (by rfl) M.g_tail_order M.F_tail_order.kp M.b_tail_order passD (da_cons (de_var (pv 0)) da_nil)) da_nil)))), fun ds n Q X h => ?_⟩)
  · skip
    unfold sp_tail_ranks at h
    repeat (first | (rw [h.1]; rfl; done) | (obtain ⟨_, h⟩ := h))
  · skip
    obtain ⟨L, rfl, hl, q⟩ := h
    walk_at "ex"
    refine ⟨L, rfl, hl, ?_⟩
    walk_at "ex"
    refine ⟨tord L, rfl, (tord_ok L).ord, by rw [tord_len]; exact hl, ?_⟩
    rw [(tord_ok L).rk_cnt]
    exact q
end
end Kp
namespace Kp
open PySem PySem.Spec PyProof.Rows L2 Kb Km Kd
def sp_ranks_of : SpD := fun ds n Q _ => ∃ r : List Nat, ds = [.tuple (plD r)] ∧ Km.Ord r ∧ r.length ≤ 100 ∧ Q (.tuple (plD (rk r r.length))) n
abbrev n_ranks_of : List Str := ["order"]
theorem sc_ranks_of : FnScope n_ranks_of ["order"] (defScope s_ranks_of) := ⟨rfl, rfl, rfl, by decide +kernel, rfl, by decide +kernel, by decide +kernel⟩
section
variable {P : Program} {w : World} {K : PySem.W.Frag} {mg : Str → Option Value} {base : Heap}
theorem ok_ranks_of (M : En K mg) : FnOk P w K mg base CX0 2 M.f_ranks_of M.fd_ranks_of ["order"] (spD K sp_ranks_of) := by
  have G_rank_places : FnOk P w K mg base CX0 1 M.f_rank_places M.fd_rank_places ["order"] (spD K sp_rank_places) := (ok_rank_places M).mono (by decide)
  refine okD M.F_ranks_of sc_ranks_of (fun ds n Q X h => ?_) (fun cdv A outer s H E hr => ⟨_, (dss_one (ds_ret (de_call G_rank_places hr (by rfl) M.g_rank_places M.F_rank_places.kp M.b_rank_places passD (da_cons (de_var (pv 0)) da_nil)))), fun ds n Q X h => ?_⟩)
  · skip
    unfold sp_ranks_of at h
    repeat (first | (rw [h.1]; rfl; done) | (obtain ⟨_, h⟩ := h))
  · skip
    obtain ⟨r, rfl, ho, hl, q⟩ := h
    walk_at "ex"
    exact ⟨r, rfl, ho, hl, q⟩
end
end Kp
namespace Kp
open PySem PySem.Spec PyProof.Rows L2 Kb Km Kd
def sp_first_lower : SpD := fun ds n Q _ => ∃ (r : List Nat) (x : Nat), ds = [.tuple (plD r), .int (x : Nat)] ∧ r.length ≤ 100 ∧ Q (.int (fLow r x : Nat)) n
abbrev n_first_lower : List Str := ["ranks", "rank", "index", "other"]
theorem sc_first_lower : FnScope n_first_lower ["ranks", "rank"] (defScope s_first_lower) := ⟨rfl, rfl, rfl, by decide +kernel, rfl, by decide +kernel, by decide +kernel⟩
section
variable {P : Program} {w : World} {K : PySem.W.Frag} {mg : Str → Option Value} {base : Heap}
theorem ok_first_lower (M : En K mg) : FnOk P w K mg base CX0 1 M.f_first_lower M.fd_first_lower ["ranks", "rank"] (spD K sp_first_lower) := by
  refine okD M.F_first_lower sc_first_lower (fun ds n Q X h => ?_) (fun cdv A outer s H E hr => ⟨_, (dss_cons (ds_for PassesOwn.never rfl (di_enum (by rfl) M.m_enumerate (da_cons (de_var (pv 0)) da_nil)) (pg_tup (n := 2) rfl (pgs_cons (pg_name (i := 2) sc_first_lower.nd rfl (.inl rfl)) (pgs_cons (pg_name (i := 3) sc_first_lower.nd rfl (.inl rfl)) pgs_nil))) (tg_tup (m := 2) (tgs_cons (tg_name (i := 2)) (tgs_cons (tg_name (i := 3)) tgs_nil))) (dss_one (ds_if (dt_k og_lt (de_var (pv 3)) (de_var (pv 1)) (nomark _)) (dss_one (ds_ret (de_var (pv 2)))) dss_nil)))
      (dss_one (ds_ret (de_b cg_len (by rfl) M.m_len (by decide +kernel) (da_cons (de_var (pv 0)) da_nil))))), fun ds n Q X h => ?_⟩)
  · skip
    unfold sp_first_lower at h
    repeat (first | (rw [h.1]; rfl; done) | (obtain ⟨_, h⟩ := h))
  · skip
    obtain ⟨r, x, rfl, hl, q⟩ := h
    walk_at "ex"
    refine for_enPl (fun i ρ k => k = n ∧ (∀ j y, j < i → r[j]? = some y → ¬ y < x) ∧ ∃ y2 y3, ρ = [.d (.tuple (plD r)), .d (.int (x : Nat)), y2, y3]) ⟨rfl, fun j y hj => absurd hj (Nat.not_lt_zero _), _, _, rfl⟩ (fun i p ρ k hi ⟨e1, hb, y2, y3, e2⟩ => ?_) (fun ρ k ⟨e1, hb, y2, y3, e2⟩ => ?_)
    · subst e1 e2
      walk_at "ex"
      refine x_ite (fun c => ?_) (fun c => ?_)
      · walk_at "ex"
        have := fLow_uniq (xs := r) (r := x) (i := i) (Nat.le_of_lt (List.getElem?_eq_some_iff.mp hi).1) hb (fun y hy => by
          rw [hi] at hy
          cases hy
          omega)
        rw [this]
        exact q
      · walk_at "ex"
        refine ⟨fun j y hj hy => ?_, _, _, rfl⟩
        rcases Nat.lt_or_eq_of_le (Nat.le_of_lt_succ hj) with d | d
        · exact hb j y d hy
        · subst d
          rw [hi] at hy
          cases hy
          omega
    · subst e1 e2
      walk_at "ex"
      rw [fLow_uniq (xs := r) (r := x) (i := r.length) (Nat.le_refl _) hb (fun y hy => by rw [List.getElem?_eq_none (Nat.le_refl _)] at hy; cases hy)]
      exact q
end
end Kp
namespace Kp
open PySem PySem.Spec PyProof.Rows L2 Kb Km Kd
def sp_factor_places : SpD := fun ds n Q _ => ∃ r : List Nat, ds = [.tuple (plD r)] ∧ Km.Ord r ∧ r.length ≤ 100 ∧ Q (.tuple (plD (fpl r))) n
abbrev n_factor_places : List Str := ["order", "ranks", "place"]
theorem sc_factor_places : FnScope n_factor_places ["order"] (defScope s_factor_places) := ⟨rfl, rfl, rfl, by decide +kernel, rfl, by decide +kernel, by decide +kernel⟩
section
variable {P : Program} {w : World} {K : PySem.W.Frag} {mg : Str → Option Value} {base : Heap}
theorem ok_factor_places (M : En K mg) : FnOk P w K mg base CX0 3 M.f_factor_places M.fd_factor_places ["order"] (spD K sp_factor_places) := by
  have G_first_lower : FnOk P w K mg base CX0 2 M.f_first_lower M.fd_first_lower ["ranks", "rank"] (spD K sp_first_lower) := (ok_first_lower M).mono (by decide)
  have G_ranks_of : FnOk P w K mg base CX0 2 M.f_ranks_of M.fd_ranks_of ["order"] (spD K sp_ranks_of) := (ok_ranks_of M).mono (by decide)
  refine okD M.F_factor_places sc_factor_places (fun ds n Q X h => ?_) (fun cdv A outer s H E hr => ⟨_, (dss_cons (ds_set (i := 1) sc_factor_places.nd rfl (.inr rfl) (de_call G_ranks_of hr (by rfl) M.g_ranks_of M.F_ranks_of.kp M.b_ranks_of passD (da_cons (de_var (pv 0)) da_nil)))
      (dss_one (ds_ret (de_ty cg_tuple (by rfl) M.m_tuple (by decide +kernel) (da_cons (de_lc (own := [("place", 2)]) rfl sc_factor_places.nd (di_range1 (by rfl) M.m_range (da_cons (de_b cg_len (by rfl) M.m_len (by decide +kernel) (da_cons (de_var (pv 1)) da_nil)) da_nil)) (blkOk_by (N := n_factor_places) (sc := defScope s_factor_places) (by decide +kernel)) (tc_name (i := 2)) (fun _ _ _ _ _ => (pg_name (i := 2) sc_factor_places.nd rfl (Or.inl rfl))) (fun _ _ _ _ _ => (dts_one (dt_k (og_eq hr.units) (de_call G_first_lower hr (by rfl) M.g_first_lower M.F_first_lower.kp M.b_first_lower passD (da_cons (de_cut sg (de_var (pv 1)) do_none (do_some (de_var (pv 2)))) (da_cons (de_at ig (de_var (pv 1)) (de_var (pv 2)) (fun _ _ => rfl)) da_nil))) (de_var (pv 2)) (nomark _)))) (fun _ _ _ _ _ => (de_var (pv 2)))) da_nil))))), fun ds n Q X h => ?_⟩)
  · skip
    unfold sp_factor_places at h
    repeat (first | (rw [h.1]; rfl; done) | (obtain ⟨_, h⟩ := h))
  · skip
    obtain ⟨r, rfl, ho, hl, q⟩ := h
    walk_at "ex"
    refine ⟨r, rfl, ho, hl, ?_⟩
    walk_at "ex"
    rw [rk_len]
    walk_at "ex"
    refine lc_R0F (m := (r.length : Int).toNat) (fun p => decide (fLow ((rk r r.length).take p) ((rk r r.length).getD p 0) = p)) (fun p => .int (p : Nat)) (by omega) (fun p hp P R h1 h2 => ?_) ?_
    · have hp' : p < (rk r r.length).length := by rw [rk_len]; omega
      walk_at "ex"
      refine pl_at (List.getElem?_eq_getElem hp') ?_
      walk_at "ex"
      refine ⟨_, _, rfl, by rw [List.length_take, rk_len]; omega, ?_⟩
      rw [List.getD_eq_getElem?_getD, List.getElem?_eq_getElem hp'] at h1 h2
      walk_at "ex"
      refine x_ite (fun c => ?_) (fun c => ?_)
      · walk_at "ex"
        exact h1 (decide_eq_true (Int.ofNat_inj.mp c))
      · exact h2 (decide_eq_false fun z => c (congrArg _ z))
    · walk_at "ex"
      rw [show (r.length : Int).toNat = r.length by omega]
      exact q
end
end Kp
namespace Kp
open PySem PySem.Spec PyProof.Rows L2 Kb Km Kd
def sp_factors : SpD := fun ds n Q _ => ∃ L : List Nat, ds = [W L] ∧ 0 < L.length ∧ L.length ≤ 100 ∧ Q (.tuple ((lcut L).map W)) n
abbrev n_factors : List Str := ["word", "starts", "ends", "start", "end"]
theorem sc_factors : FnScope n_factors ["word"] (defScope s_factors) := ⟨rfl, rfl, rfl, by decide +kernel, rfl, by decide +kernel, by decide +kernel⟩
section
variable {P : Program} {w : World} {K : PySem.W.Frag} {mg : Str → Option Value} {base : Heap}
theorem ok_factors (M : En K mg) : FnOk P w K mg base CX0 4 M.f_factors M.fd_factors ["word"] (spD K sp_factors) := by
  have G_factor_places : FnOk P w K mg base CX0 3 M.f_factor_places M.fd_factor_places ["order"] (spD K sp_factor_places) := (ok_factor_places M).mono (by decide)
  have G_tail_order : FnOk P w K mg base CX0 3 M.f_tail_order M.fd_tail_order ["word"] (spD K sp_tail_order) := (ok_tail_order M).mono (by decide)
  refine okD M.F_factors sc_factors (fun ds n Q X h => ?_) (fun cdv A outer s H E hr => ⟨_, (dss_cons (ds_set (i := 1) sc_factors.nd rfl (.inl rfl) (de_call G_factor_places hr (by rfl) M.g_factor_places M.F_factor_places.kp M.b_factor_places passD (da_cons (de_call G_tail_order hr (by rfl) M.g_tail_order M.F_tail_order.kp M.b_tail_order passD (da_cons (de_var (pv 0)) da_nil)) da_nil)))
      (dss_cons (ds_set (i := 2) sc_factors.nd rfl (.inl rfl) (de_o og_add (de_cut sg (de_var (pv 1)) (do_some de_int) do_none) (de_tup (da_cons (de_b cg_len (by rfl) M.m_len (by decide +kernel) (da_cons (de_var (pv 0)) da_nil)) da_nil))))
      (dss_one (ds_ret (de_ty cg_tuple (by rfl) M.m_tuple (by decide +kernel) (da_cons (de_lc (own := [("start", 3), ("end", 4)]) rfl sc_factors.nd (di_zip (by rfl) M.m_zip (da_cons (de_var (pv 1)) (da_cons (de_var (pv 2)) da_nil))) (blkOk_by (N := n_factors) (sc := defScope s_factors) (by decide +kernel)) (tc_tup (m := 2) (tcs_cons (tc_name (i := 3)) (tcs_cons (tc_name (i := 4)) tcs_nil))) (fun _ _ _ _ _ => (pg_tup (n := 2) rfl (pgs_cons (pg_name (i := 3) sc_factors.nd rfl (Or.inl rfl)) (pgs_cons (pg_name (i := 4) sc_factors.nd rfl (Or.inl rfl)) pgs_nil)))) (fun _ _ _ _ _ => dts_nil) (fun _ _ _ _ _ => (de_cut sg (de_var (pv 0)) (do_some (de_var (pv 3))) (do_some (de_var (pv 4)))))) da_nil)))))), fun ds n Q X h => ?_⟩)
  · skip
    unfold sp_factors at h
    repeat (first | (rw [h.1]; rfl; done) | (obtain ⟨_, h⟩ := h))
  · skip
    obtain ⟨L, rfl, h0, hl, q⟩ := h
    have fl := fpl_len (tord L)
    rw [tord_len] at fl
    walk_at "ex"
    refine ⟨L, rfl, hl, ?_⟩
    walk_at "ex"
    refine ⟨tord L, rfl, (tord_ok L).ord, by rw [tord_len]; exact hl, ?_⟩
    walk_at "ex"
    refine pl_add (r := (fpl (tord L)).drop 1) (s := [L.length]) (by rw [List.length_drop, List.length_singleton]; omega) ?_
    walk_at "ex"
    rw [show zpD (plD (fpl (tord L))) (plD ((fpl (tord L)).drop 1 ++ [L.length])) = ((fpl (tord L)).zip ((fpl (tord L)).drop 1 ++ [L.length])).map fun x => PAIR (.int (x.1 : Nat)) (.int (x.2 : Nat)) from zpD_map _ _ _ _]
    refine lc_A (fun x => W ((L.drop x.1).take (x.2 - x.1))) (by rw [List.length_zip]; omega) (fun x hx P h => ?_) ?_
    · walk_at "ex"
      exact h
    · walk_at "ex"
      rw [← fpl_cut h0] at q
      unfold pcs at q
      rw [List.map_map] at q
      exact q
end
end Kp
namespace Kp
open PySem PySem.Spec PyProof.Rows L2 Kb Km Kd
def sp_common_length : SpD := fun ds n Q _ => ∃ (L : List Nat) (p q : Nat), ds = [W L, .int (p : Nat), .int (q : Nat)] ∧ p < L.length ∧ q < L.length ∧ L.length ≤ 100 ∧ Q (.int (agr (L.drop p) (L.drop q) : Nat)) n
abbrev n_common_length : List Str := ["word", "one", "other", "length", "left", "right"]
theorem sc_common_length : FnScope n_common_length ["word", "one", "other"] (defScope s_common_length) := ⟨rfl, rfl, rfl, by decide +kernel, rfl, by decide +kernel, by decide +kernel⟩
section
variable {P : Program} {w : World} {K : PySem.W.Frag} {mg : Str → Option Value} {base : Heap}
theorem ok_common_length (M : En K mg) : FnOk P w K mg base CX0 4 M.f_common_length M.fd_common_length ["word", "one", "other"] (spD K sp_common_length) := by
  have G_check_place : FnOk P w K mg base (L2N.CX P w) 3 M.f_check_place M.fd_check_place ["value", "many"] (spD K (sp_check_place M.c_NoPlace)) := (ok_check_place M).mono (by decide)
  have G0_check_place := quiet G_check_place
  refine okD M.F_common_length sc_common_length (fun ds n Q X h => ?_) (fun cdv A outer s H E hr => ⟨_, (dss_cons (ds_expr (de_call G0_check_place hr (by rfl) M.g_check_place M.F_check_place.kp M.b_check_place passD (da_cons (de_var (pv 1)) (da_cons (de_b cg_len (by rfl) M.m_len (by decide +kernel) (da_cons (de_var (pv 0)) da_nil)) da_nil))))
      (dss_cons (ds_expr (de_call G0_check_place hr (by rfl) M.g_check_place M.F_check_place.kp M.b_check_place passD (da_cons (de_var (pv 2)) (da_cons (de_b cg_len (by rfl) M.m_len (by decide +kernel) (da_cons (de_var (pv 0)) da_nil)) da_nil))))
      (dss_cons (ds_set (i := 3) sc_common_length.nd rfl (.inl rfl) de_int)
      (dss_cons (ds_for PassesOwn.never rfl (di_zip (by rfl) M.m_zip (da_cons (de_cut sg (de_var (pv 0)) (do_some (de_var (pv 1))) do_none) (da_cons (de_cut sg (de_var (pv 0)) (do_some (de_var (pv 2))) do_none) da_nil))) (pg_tup (n := 2) rfl (pgs_cons (pg_name (i := 4) sc_common_length.nd rfl (.inl rfl)) (pgs_cons (pg_name (i := 5) sc_common_length.nd rfl (.inl rfl)) pgs_nil))) (tg_tup (m := 2) (tgs_cons (tg_name (i := 4)) (tgs_cons (tg_name (i := 5)) tgs_nil))) (dss_cons (ds_if (dt_k (og_ne hr.units) (de_var (pv 4)) (de_var (pv 5)) (nomark _)) (dss_one (ds_ret (de_var (pv 3)))) dss_nil)
      (dss_one (ds_aug (i := 3) sc_common_length.nd rfl (.inl rfl) de_int ip_add))))
      (dss_one (ds_ret (de_var (pv 3)))))))), fun ds n Q X h => ?_⟩)
  · skip
    unfold sp_common_length at h
    repeat (first | (rw [h.1]; rfl; done) | (obtain ⟨_, h⟩ := h))
  · skip
    obtain ⟨L, p, q, rfl, hp, hq, hl, h⟩ := h
    walk_at "ex"
    refine ⟨.int (p : Nat), (L.length : Nat), rfl, rfl, fun z => absurd z (by rw [show inB 0 (L.length : Nat) (.int (p : Nat)) = true from decide_eq_true (by omega)]; exact Bool.noConfusion), fun _ => ?_⟩
    walk_at "ex"
    refine ⟨.int (q : Nat), (L.length : Nat), rfl, rfl, fun z => absurd z (by rw [show inB 0 (L.length : Nat) (.int (q : Nat)) = true from decide_eq_true (by omega)]; exact Bool.noConfusion), fun _ => ?_⟩
    walk_at "ex"
    refine for_zipW (A := L.drop p) (B := L.drop q) (fun i ρ k => k = n ∧ i ≤ (L.drop p).length ∧ i ≤ (L.drop q).length ∧ (∀ j, j < i → (L.drop p)[j]? = (L.drop q)[j]?) ∧ ∃ y4 y5, ρ = [.d (W L), .d (.int (p : Nat)), .d (.int (q : Nat)), .d (.int (i : Nat)), y4, y5]) ⟨rfl, Nat.zero_le _, Nat.zero_le _, fun j hj => absurd hj (Nat.not_lt_zero _), _, _, rfl⟩ (fun i a b ρ k ha hb ⟨e1, l1, l2, ag, y4, y5, e2⟩ => ?_) (fun ρ k ⟨e1, l1, l2, ag, y4, y5, e2⟩ => ?_)
    · subst e1 e2
      have ia := (List.getElem?_eq_some_iff.mp ha).1
      have ib := (List.getElem?_eq_some_iff.mp hb).1
      walk_at "ex"
      refine x_iteN (fun c => ?_) (fun c => ?_)
      · walk_at "ex"
        rw [agr_eq i _ _ l1 l2 ag (.inr (.inr (by rw [ha, hb]; intro e; exact c (Option.some.inj e))))] at h
        exact h
      · walk_at "ex"
        refine ⟨by omega, by omega, fun j hj => ?_, _, _, rfl⟩
        rcases Nat.lt_or_eq_of_le (Nat.le_of_lt_succ hj) with d | d
        · exact ag j d
        · subst d
          rw [ha, hb, c]
    · subst e1 e2
      walk_at "ex"
      rw [agr_eq _ _ _ l1 l2 ag (by omega)] at h
      exact h
end
end Kp
namespace Kp
open PySem PySem.Spec PyProof.Rows L2 Kb Km Kd
def sp_heads_of : SpD := fun ds n Q _ => ∃ L : List Nat, ds = [W L] ∧ L.length ≤ 100 ∧ Q (.tuple (plD (hds L))) n
abbrev n_heads_of : List Str := ["word", "order", "k"]
theorem sc_heads_of : FnScope n_heads_of ["word"] (defScope s_heads_of) := ⟨rfl, rfl, rfl, by decide +kernel, rfl, by decide +kernel, by decide +kernel⟩
section
variable {P : Program} {w : World} {K : PySem.W.Frag} {mg : Str → Option Value} {base : Heap}
theorem ok_heads_of (M : En K mg) : FnOk P w K mg base CX0 5 M.f_heads_of M.fd_heads_of ["word"] (spD K sp_heads_of) := by
  have G_common_length : FnOk P w K mg base CX0 4 M.f_common_length M.fd_common_length ["word", "one", "other"] (spD K sp_common_length) := (ok_common_length M).mono (by decide)
  have G_tail_order : FnOk P w K mg base CX0 4 M.f_tail_order M.fd_tail_order ["word"] (spD K sp_tail_order) := (ok_tail_order M).mono (by decide)
  refine okD M.F_heads_of sc_heads_of (fun ds n Q X h => ?_) (fun cdv A outer s H E hr => ⟨_, (dss_cons (ds_set (i := 1) sc_heads_of.nd rfl (.inr rfl) (de_call G_tail_order hr (by rfl) M.g_tail_order M.F_tail_order.kp M.b_tail_order passD (da_cons (de_var (pv 0)) da_nil)))
      (dss_one (ds_ret (de_ty cg_tuple (by rfl) M.m_tuple (by decide +kernel) (da_cons (de_lc (own := [("k", 2)]) rfl sc_heads_of.nd (di_range2 (by rfl) M.m_range (da_cons de_int (da_cons (de_b cg_len (by rfl) M.m_len (by decide +kernel) (da_cons (de_var (pv 1)) da_nil)) da_nil))) (blkOk_by (N := n_heads_of) (sc := defScope s_heads_of) (by decide +kernel)) (tc_name (i := 2)) (fun _ _ _ _ _ => (pg_name (i := 2) sc_heads_of.nd rfl (Or.inl rfl))) (fun _ _ _ _ _ => dts_nil) (fun _ _ _ _ _ => (de_call G_common_length hr (by rfl) M.g_common_length M.F_common_length.kp M.b_common_length passD (da_cons (de_var (pv 0)) (da_cons (de_at ig (de_var (pv 1)) (de_o og_sub (de_var (pv 2)) de_int) (fun _ _ => rfl)) (da_cons (de_at ig (de_var (pv 1)) (de_var (pv 2)) (fun _ _ => rfl)) da_nil)))))) da_nil))))), fun ds n Q X h => ?_⟩)
  · skip
    unfold sp_heads_of at h
    repeat (first | (rw [h.1]; rfl; done) | (obtain ⟨_, h⟩ := h))
  · skip
    obtain ⟨L, rfl, hl, h⟩ := h
    walk_at "ex"
    refine ⟨L, rfl, hl, ?_⟩
    walk_at "ex"
    rw [tord_len]
    walk_at "ex"
    refine lc_RA (lo := 1) (fun k => .int (agr (L.drop ((tord L).getD k 0)) (L.drop ((tord L).getD (k + 1) 0)) : Nat)) (by omega) (fun k hk P h => ?_) ?_
    · have h1 : k < (tord L).length := by rw [tord_len]; omega
      have h2 : k + 1 < (tord L).length := by rw [tord_len]; omega
      rw [List.getD_eq_getElem?_getD, List.getD_eq_getElem?_getD, List.getElem?_eq_getElem h1, List.getElem?_eq_getElem h2] at h
      walk_at "ex"
      rw [show ((1 + k : Nat) : Int) - 1 = (k : Int) by omega, Nat.add_comm 1 k]
      refine pl_at (List.getElem?_eq_getElem h1) ?_
      walk_at "ex"
      refine pl_at (List.getElem?_eq_getElem h2) ?_
      walk_at "ex"
      exact ⟨L, _, _, rfl, tord_lt (List.getElem_mem _), tord_lt (List.getElem_mem _), hl, h⟩
    · walk_at "ex"
      rw [show ((L.length : Int) - 1).toNat = L.length - 1 by omega, pl_map, hds_rng]
      exact h
end
end Kp
namespace Kp
open PySem PySem.Spec PyProof.Rows L2 Kb Km Kd
def sp_each_part : SpGD := fun ds n Q => ∃ L : List Nat, ds = [W L] ∧ 0 < L.length ∧ L.length ≤ 24 ∧ Q ((parts L).map W) n
abbrev n_each_part : List Str := ["word", "known", "place", "head", "end"]
theorem sc_each_part : GScope n_each_part ["word"] (defScope s_each_part) := ⟨rfl, rfl, rfl, by decide +kernel, rfl, by decide +kernel, by decide +kernel⟩
section
variable {P : Program} {w : World} {K : PySem.W.Frag} {mg : Str → Option Value} {base : Heap}
theorem ok_each_part (M : En K mg) : GFn P w K mg base 6 M.f_each_part M.fd_each_part ["word"] (spGD K sp_each_part) := by
  have G_heads_of : FnOk P w K mg base CX0 5 M.f_heads_of M.fd_heads_of ["word"] (spD K sp_heads_of) := (ok_heads_of M).mono (by decide)
  have G_tail_order : FnOk P w K mg base CX0 5 M.f_tail_order M.fd_tail_order ["word"] (spD K sp_tail_order) := (ok_tail_order M).mono (by decide)
  refine okGen (k := 5) M.F_each_part sc_each_part (fun ds n Q h => ?_) (fun cdv A outer s H E pn hr => ⟨_, (gd_cons (gd_plain (ds_set (i := 1) sc_each_part.nd rfl (.inl rfl) (de_o og_add (de_tup (da_cons de_int da_nil)) (de_call G_heads_of hr (by rfl) M.g_heads_of M.F_heads_of.kp M.b_heads_of passD (da_cons (de_var (pv 0)) da_nil)))))
      (gd_one (gd_for owns_gcx rfl (di_zip (by rfl) M.m_zip (da_cons (de_call G_tail_order hr (by rfl) M.g_tail_order M.F_tail_order.kp M.b_tail_order passD (da_cons (de_var (pv 0)) da_nil)) (da_cons (de_var (pv 1)) da_nil))) (pg_tup (n := 2) rfl (pgs_cons (pg_name (i := 2) sc_each_part.nd rfl (.inl rfl)) (pgs_cons (pg_name (i := 3) sc_each_part.nd rfl (.inl rfl)) pgs_nil))) (tg_tup (m := 2) (tgs_cons (tg_name (i := 2)) (tgs_cons (tg_name (i := 3)) tgs_nil))) (gd_one (gd_for owns_gcx rfl (di_range2 (by rfl) M.m_range (da_cons (de_o og_add (de_o og_add (de_var (pv 2)) (de_var (pv 3))) de_int) (da_cons (de_o og_add (de_b cg_len (by rfl) M.m_len (by decide +kernel) (da_cons (de_var (pv 0)) da_nil)) de_int) da_nil))) (pg_name (i := 4) sc_each_part.nd rfl (.inl rfl)) (tg_name (i := 4)) (gd_one (gd_yield (de_cut sg (de_var (pv 0)) (do_some (de_var (pv 2))) (do_some (de_var (pv 4))))))))))), fun ds n Q h => ?_⟩)
  · skip
    unfold sp_each_part at h
    repeat (first | (rw [h.1]; rfl; done) | (obtain ⟨_, h⟩ := h))
  · skip
    obtain ⟨L, rfl, l0, l1, q⟩ := h
    have tl := tord_len L
    have hl := hds_len L
    walk_at "ex"
    refine ⟨L, rfl, by omega, ?_⟩
    rw [show ([.int 0] : List PyData) = plD [0] from rfl]
    refine pl_add (r := [0]) (s := hds L) (by show 1 + (hds L).length ≤ 1000; omega) ?_
    walk_at "ex"
    refine ⟨L, rfl, by omega, ?_⟩
    walk_at "ex"
    refine gfori (fun i yd ρ k => k = n ∧ yd = (partsTo L i).map W ∧ ∃ y2 y3 y4 : Cell, ρ = [.d (W L), .d (.tuple (plD ([0] ++ hds L))), y2, y3, y4]) ⟨rfl, rfl, _, _, _, rfl⟩ (fun i x yd ρ k hx ⟨e1, e3, y2, y3, y4, e2⟩ => ?_) (fun yd ρ k ⟨e1, e3, y2, y3, y4, e2⟩ => ?_)
    · subst e1 e2
      rw [show zpD (plD (tord L)) (plD ([0] ++ hds L)) = ((tord L).zip ([0] ++ hds L)).map fun x => PAIR (.int (x.1 : Nat)) (.int (x.2 : Nat)) from zpD_map _ _ _ _, List.getElem?_map] at hx
      obtain ⟨⟨p, h⟩, hz, rfl⟩ := Option.map_eq_some_iff.mp hx
      obtain ⟨hp, hh⟩ := List.getElem?_zip_eq_some.mp hz
      have ep : (tord L).getD i 0 = p := by rw [List.getD_eq_getElem?_getD, hp]; rfl
      have eh : (0 :: hds L).getD i 0 = h := by rw [List.getD_eq_getElem?_getD, show (0 :: hds L)[i]? = some h from hh]; rfl
      have il : i < L.length := by rw [← tl]; exact (List.getElem?_eq_some_iff.mp hp).1
      have pl : p < L.length := by rw [← ep]; exact (tord_gd il).1
      have hb : h ≤ 24 := by
        rw [← eh]
        cases i with
        | zero => show 0 ≤ 24; omega
        | succ c =>
          rw [head_at (by omega)]
          have := agr_le (L.drop ((tord L).getD c 0)) (L.drop ((tord L).getD (c + 1) 0))
          rw [List.length_drop] at this
          omega
      walk_at "ex"
      rw [show (p : Int) + (h : Int) + 1 = ((p + h + 1 : Nat) : Int) by omega]
      rw [show ((L.length : Int) + 1 - ((p + h + 1 : Nat) : Int)).toNat = L.length - p - h by omega]
      refine gfori (fun j yd ρ k' => k' = k ∧ yd = (partsTo L i ++ (List.range j).map fun t => (L.drop p).take (h + 1 + t)).map W ∧ ∃ y4 : Cell, ρ = [.d (W L), .d (.tuple (plD ([0] ++ hds L))), .d (.int (p : Nat)), .d (.int (h : Nat)), y4]) ⟨rfl, by rw [e3]; simp, _, rfl⟩ (fun j x yd ρ k' hx ⟨e1, e3, y4, e2⟩ => ?_) (fun yd ρ k' ⟨e1, e3, y4, e2⟩ => ?_)
      · subst e1 e2
        obtain ⟨hj, rfl⟩ := rng_at hx
        walk_at "ex"
        refine g_yield (by rw [e3, List.length_map, List.length_append, List.length_map, List.length_range]; have := partsTo_len L i; have : i * L.length ≤ 24 * 24 := Nat.mul_le_mul (by omega) l1; exact small1000 (by omega)) ?_
        walk_at "ex"
        refine ⟨?_, _, rfl⟩
        rw [e3, show (((p + h + 1 : Nat) : Int) + (j : Int)).toNat - (p : Int).toNat = h + 1 + j by omega, show (p : Int).toNat = p by omega, List.range_succ, List.map_append, List.map_append, List.map_append]
        simp only [List.map_append, List.map_cons, List.map_nil, List.append_assoc]
      · subst e1 e2
        rw [rngD_len] at e3
        refine ⟨rfl, ?_, _, _, _, rfl⟩
        rw [e3, partsTo_succ, ep, eh]
        rfl
    · subst e1 e2
      rw [e3, show (zpD (plD (tord L)) (plD ([0] ++ hds L))).length = L.length by
        rw [show zpD (plD (tord L)) (plD ([0] ++ hds L)) = ((tord L).zip ([0] ++ hds L)).map fun x => PAIR (.int (x.1 : Nat)) (.int (x.2 : Nat)) from zpD_map _ _ _ _, List.length_map, List.length_zip, tl, List.length_append, hl]
        simp only [List.length_cons, List.length_nil]
        omega]
      exact q
end
end Kp
namespace Kp
open PySem PySem.Spec PyProof.Rows L2 Kb Km Kd
def sp_count_parts : SpD := fun ds n Q _ => ∃ L : List Nat, ds = [W L] ∧ 0 < L.length ∧ L.length ≤ 24 ∧ Q (.int ((parts L).length : Nat)) n
abbrev n_count_parts : List Str := ["word"]
theorem sc_count_parts : FnScope n_count_parts ["word"] (defScope s_count_parts) := ⟨rfl, rfl, rfl, by decide +kernel, rfl, by decide +kernel, by decide +kernel⟩
section
variable {P : Program} {w : World} {K : PySem.W.Frag} {mg : Str → Option Value} {base : Heap}
theorem ok_count_parts (M : En K mg) : FnOk P w K mg base CX0 10 M.f_count_parts M.fd_count_parts ["word"] (spD K sp_count_parts) := by
  have G_each_part : GFn P w K mg base 6 M.f_each_part M.fd_each_part ["word"] (spGD K sp_each_part) := ok_each_part M
  refine okD M.F_count_parts sc_count_parts (fun ds n Q X h => ?_) (fun cdv A outer s H E hr => ⟨_, (dss_one (ds_ret (de_b cg_len (by rfl) M.m_len (by decide +kernel) (da_cons (de_listG G_each_part (hr.mono (by decide)) (by rfl) M.g_each_part M.F_each_part.kp M.b_each_part (da_cons (de_var (pv 0)) da_nil) (by rfl) M.m_list (by decide +kernel)) da_nil)))), fun ds n Q X h => ?_⟩)
  · skip
    unfold sp_count_parts at h
    repeat (first | (rw [h.1]; rfl; done) | (obtain ⟨_, h⟩ := h))
  · skip
    obtain ⟨L, rfl, l0, l1, q⟩ := h
    walk_at "ex"
    refine ⟨L, rfl, l0, l1, ?_⟩
    walk_at "ex"
    rw [List.length_map]
    exact q
end
end Kp
namespace Kp
open PySem PySem.Spec PyProof.Rows L2 Kb Km Kd
def sp_word_text : SpD := fun ds n Q _ => ∃ L : List Nat, ds = [W L] ∧ L.length ≤ 100 ∧ Q (W (joinB [wdW, L])) n
abbrev n_word_text : List Str := ["word"]
theorem sc_word_text : FnScope n_word_text ["word"] (defScope s_word_text) := ⟨rfl, rfl, rfl, by decide +kernel, rfl, by decide +kernel, by decide +kernel⟩
section
variable {P : Program} {w : World} {K : PySem.W.Frag} {mg : Str → Option Value} {base : Heap}
theorem ok_word_text (M : En K mg) : FnOk P w K mg base CX0 1 M.f_word_text M.fd_word_text ["word"] (spD K sp_word_text) := by
  refine okD M.F_word_text sc_word_text (fun ds n Q X h => ?_) (fun cdv A outer s H E hr => ⟨_, (dss_one (ds_ret (de_fs (de_var (pv 0))))), fun ds n Q X h => ?_⟩)
  · skip
    unfold sp_word_text at h
    repeat (first | (rw [h.1]; rfl; done) | (obtain ⟨_, h⟩ := h))
  · skip
    obtain ⟨L, rfl, hl, q⟩ := h
    walk_at "ex"
    refine ⟨_, rfl, ?_, ?_⟩
    · show 5 + L.toArray.size ≤ _
      rw [List.size_toArray]; omega
    rw [fs_W]
    exact q
end
end Kp
namespace Kp
open PySem PySem.Spec PyProof.Rows L2 Kb Km Kd
def sp_order_text : SpD := fun ds n Q _ => ∃ r : List Nat, ds = [.tuple (plD r)] ∧ r.length ≤ 100 ∧ (∀ p ∈ r, p ≤ 100) ∧ Q (W (joinB (orW :: r.map numW))) n
abbrev n_order_text : List Str := ["order", "place"]
theorem sc_order_text : FnScope n_order_text ["order"] (defScope s_order_text) := ⟨rfl, rfl, rfl, by decide +kernel, rfl, by decide +kernel, by decide +kernel⟩
section
variable {P : Program} {w : World} {K : PySem.W.Frag} {mg : Str → Option Value} {base : Heap}
theorem ok_order_text (M : En K mg) : FnOk P w K mg base CX0 1 M.f_order_text M.fd_order_text ["order"] (spD K sp_order_text) := by
  refine okD M.F_order_text sc_order_text (fun ds n Q X h => ?_) (fun cdv A outer s H E hr => ⟨_, (dss_one (ds_ret (de_ms PySem.F.slot_str_join PySem.F.type_str_join mg_join de_str (da_cons (de_o og_add (de_lst (da_cons de_str da_nil)) (de_lc (own := [("place", 1)]) rfl sc_order_text.nd (di_src (de_var (pv 0))) (blkOk_by (N := n_order_text) (sc := defScope s_order_text) (by decide +kernel)) (tc_name (i := 1)) (fun _ _ _ _ _ => (pg_name (i := 1) sc_order_text.nd rfl (Or.inl rfl))) (fun _ _ _ _ _ => dts_nil) (fun _ _ _ _ _ => (de_ty cg_str (by rfl) M.m_str (by decide +kernel) (da_cons (de_var (pv 1)) da_nil))))) da_nil)))), fun ds n Q X h => ?_⟩)
  · skip
    unfold sp_order_text at h
    repeat (first | (rw [h.1]; rfl; done) | (obtain ⟨_, h⟩ := h))
  · skip
    obtain ⟨r, rfl, hl, hp, q⟩ := h
    walk_at "ex"
    refine lc_A (xs := r) (e := fun p : Nat => PyData.int p) (fun p => W (numW p)) (by omega) (fun p hq P h => ?_) ?_
    · walk_at "ex"
      exact x_strN (hp p hq) h
    walk_at "ex"
    refine x_addL (by rw [List.length_map]; show 1 + r.length ≤ sizeLine; exact Nat.le_of_lt (small1000 (by omega))) ?_
    rw [show [PyData.str (Str.ofString "order")] ++ r.map (fun p => W (numW p)) = (orW :: r.map numW).map W by rw [List.map_cons, List.map_map]; rfl]
    walk_at "ex"
    refine x_joinB ?_ ?_
    · have := nums_flat hp
      rw [List.flatten_cons, List.length_append, List.length_cons, List.length_map]
      show 5 + _ + _ ≤ _
      omega
    exact q
end
end Kp
namespace Kp
open PySem PySem.Spec PyProof.Rows L2 Kb Km Kd
def sp_places_text : SpD := fun ds n Q _ => ∃ r : List Nat, ds = [.tuple (plD r)] ∧ r.length ≤ 100 ∧ (∀ p ∈ r, p ≤ 100) ∧ Q (W (if r = [] then noW else joinB (r.map numW))) n
abbrev n_places_text : List Str := ["places", "place"]
theorem sc_places_text : FnScope n_places_text ["places"] (defScope s_places_text) := ⟨rfl, rfl, rfl, by decide +kernel, rfl, by decide +kernel, by decide +kernel⟩
section
variable {P : Program} {w : World} {K : PySem.W.Frag} {mg : Str → Option Value} {base : Heap}
theorem ok_places_text (M : En K mg) : FnOk P w K mg base CX0 1 M.f_places_text M.fd_places_text ["places"] (spD K sp_places_text) := by
  refine okD M.F_places_text sc_places_text (fun ds n Q X h => ?_) (fun cdv A outer s H E hr => ⟨_, (dss_one (ds_ret (de_ifExp (dt_tru (de_var (pv 0))) (de_ms PySem.F.slot_str_join PySem.F.type_str_join mg_join de_str (da_cons (de_lc (own := [("place", 1)]) rfl sc_places_text.nd (di_src (de_var (pv 0))) (blkOk_by (N := n_places_text) (sc := defScope s_places_text) (by decide +kernel)) (tc_name (i := 1)) (fun _ _ _ _ _ => (pg_name (i := 1) sc_places_text.nd rfl (Or.inl rfl))) (fun _ _ _ _ _ => dts_nil) (fun _ _ _ _ _ => (de_ty cg_str (by rfl) M.m_str (by decide +kernel) (da_cons (de_var (pv 1)) da_nil)))) da_nil)) de_str))), fun ds n Q X h => ?_⟩)
  · skip
    unfold sp_places_text at h
    repeat (first | (rw [h.1]; rfl; done) | (obtain ⟨_, h⟩ := h))
  · skip
    obtain ⟨r, rfl, hl, hp, q⟩ := h
    walk_at "ex"
    refine ⟨by show ("tuple" : String) ≠ "dict"; decide, ?_⟩
    cases r with
    | nil =>
      rw [show truD (.tuple (plD [])) = false from rfl]
      walk_at "ex"
      rw [if_pos rfl] at q
      exact q
    | cons a r =>
      rw [show truD (.tuple (plD (a :: r))) = true from rfl]
      rw [if_neg (by simp)] at q
      generalize a :: r = r at q hl hp
      walk_at "ex"
      refine lc_A (xs := r) (e := fun p : Nat => PyData.int p) (fun p => W (numW p)) (by omega) (fun p hq P h => ?_) ?_
      · walk_at "ex"
        exact x_strN (hp p hq) h
      walk_at "ex"
      rw [show r.map (fun p => W (numW p)) = (r.map numW).map W by rw [List.map_map]; rfl]
      refine x_joinB ?_ ?_
      · have := nums_flat hp
        rw [List.length_map]
        omega
      exact q
end
end Kp
namespace Kp
open PySem PySem.Spec PyProof.Rows L2 Kb Km Kd
def sp_is_number : SpD := fun ds n Q _ => ∃ (L : List Nat) (m : Nat), ds = [W L, .int (m : Nat)] ∧ m ≤ 1000 ∧ Q (.bool (decide (L ∈ (List.range m).map numW))) n
abbrev n_is_number : List Str := ["text", "many", "number"]
theorem sc_is_number : FnScope n_is_number ["text", "many"] (defScope s_is_number) := ⟨rfl, rfl, rfl, by decide +kernel, rfl, by decide +kernel, by decide +kernel⟩
section
variable {P : Program} {w : World} {K : PySem.W.Frag} {mg : Str → Option Value} {base : Heap}
theorem ok_is_number (M : En K mg) : FnOk P w K mg base CX0 1 M.f_is_number M.fd_is_number ["text", "many"] (spD K sp_is_number) := by
  refine okD M.F_is_number sc_is_number (fun ds n Q X h => ?_) (fun cdv A outer s H E hr => ⟨_, (dss_one (ds_ret (de_k og_in (de_var (pv 0)) (de_lc (own := [("number", 2)]) rfl sc_is_number.nd (di_range1 (by rfl) M.m_range (da_cons (de_var (pv 1)) da_nil)) (blkOk_by (N := n_is_number) (sc := defScope s_is_number) (by decide +kernel)) (tc_name (i := 2)) (fun _ _ _ _ _ => (pg_name (i := 2) sc_is_number.nd rfl (Or.inl rfl))) (fun _ _ _ _ _ => dts_nil) (fun _ _ _ _ _ => (de_ty cg_str (by rfl) M.m_str (by decide +kernel) (da_cons (de_var (pv 2)) da_nil)))) (by rfl)))), fun ds n Q X h => ?_⟩)
  · skip
    unfold sp_is_number at h
    repeat (first | (rw [h.1]; rfl; done) | (obtain ⟨_, h⟩ := h))
  · skip
    obtain ⟨L, m, rfl, hm, q⟩ := h
    walk_at "ex"
    rw [show (m : Int).toNat = m by omega]
    refine lc_R0A (fun p => W (numW p)) (by omega) (fun p hp P h => ?_) ?_
    · walk_at "ex"
      exact x_strM (by omega) h
    rw [show (List.range m).map (fun p => W (numW p)) = ((List.range m).map numW).map W by rw [List.map_map]; rfl]
    refine x_inLW ?_
    exact q
end
end Kp
namespace Kp
open PySem PySem.Spec PyProof.Rows L2 Kb Km Kd
def sp_Console___init__ (C : Addr) : SpD := fun ds n Q _ => ∃ (c dx a : Addr), ds = [OBJ c, OBJ a] ∧ Kw.ob n c = some (.ins C dx []) ∧ ∀ n', Kw.Upd n c (cnO C dx a []) n' → Q .none n'
abbrev n_Console___init__ : List Str := ["self", "desk"]
theorem sc_Console___init__ : FnScope n_Console___init__ ["self", "desk"] (defScope s_Console___init__) := ⟨rfl, rfl, rfl, by decide +kernel, rfl, by decide +kernel, by decide +kernel⟩
section
variable {P : Program} {w : World} {K : PySem.W.Frag} {mg : Str → Option Value} {base : Heap}
theorem ok_Console___init__ (M : En K mg) : FnOk P w K mg base CX0 1 M.f_Console___init__ M.fd_Console___init__ ["self", "desk"] (spD K (sp_Console___init__ M.c_Console)) := by
  refine okD M.F_Console___init__ sc_Console___init__ (fun ds n Q X h => ?_) (fun cdv A outer s H E hr => ⟨_, (dss_cons (ds_putF M.C_Console M.n_Console_desk (de_var (pv 0)) (de_var (pv 1)))
      (dss_one (ds_putF M.C_Console M.n_Console_pairs (de_var (pv 0)) (de_tup da_nil)))), fun ds n Q X h => ?_⟩)
  · skip
    unfold sp_Console___init__ at h
    repeat (first | (rw [h.1]; rfl; done) | (obtain ⟨_, h⟩ := h))
  · skip
    obtain ⟨c, dx, a, rfl, ho, q⟩ := h
    walk_at "ex"
    refine ⟨c, dx, _, rfl, ho, by decide, rfl, ?_⟩
    walk_at "ex"
    refine ⟨c, dx, _, rfl, Kw.ob_put _ _ _, (show 1 < 1000 by decide), rfl, ?_⟩
    exact q _ ((Kw.Upd.put _ _ _).trans (.put _ _ _))
end
end Kp
namespace Kp
open PySem PySem.Spec PyProof.Rows L2 Kb Km Kd
def sp_done : SpD := fun ds n Q _ => ∃ k : Nat, ds = [.int (k : Nat)] ∧ k ≤ 100 ∧ Q (W (okT k)) n
abbrev n_done : List Str := ["version"]
theorem sc_done : FnScope n_done ["version"] (defScope s_done) := ⟨rfl, rfl, rfl, by decide +kernel, rfl, by decide +kernel, by decide +kernel⟩
section
variable {P : Program} {w : World} {K : PySem.W.Frag} {mg : Str → Option Value} {base : Heap}
theorem ok_done (M : En K mg) : FnOk P w K mg base CX0 1 M.f_done M.fd_done ["version"] (spD K sp_done) := by
  refine okD M.F_done sc_done (fun ds n Q X h => ?_) (fun cdv A outer s H E hr => ⟨_, (dss_one (ds_ret (de_fsI (de_var (pv 0))))), fun ds n Q X h => ?_⟩)
  · skip
    unfold sp_done at h
    repeat (first | (rw [h.1]; rfl; done) | (obtain ⟨_, h⟩ := h))
  · skip
    obtain ⟨k, rfl, hk, q⟩ := h
    refine x_fsI ?_
    walk_at "ex"
    exact ⟨k, rfl, by omega, q⟩
end
end Kp
namespace Kp
open PySem PySem.Spec PyProof.Rows L2 Kb Km Kd
def sp_Desk_word (C : Addr) : SpD := fun ds n Q _ => ∃ (a dx : Addr) (w : List Nat) (ws : List (List Nat)) (es : List Ed) (ch : PyData), ds = [OBJ a] ∧ Kw.ob n a = some (dkO C dx w ws es ch) ∧ Q (W w) n
abbrev n_Desk_word : List Str := ["self"]
theorem sc_Desk_word : FnScope n_Desk_word ["self"] (defScope s_Desk_word) := ⟨rfl, rfl, rfl, by decide +kernel, rfl, by decide +kernel, by decide +kernel⟩
section
variable {P : Program} {w : World} {K : PySem.W.Frag} {mg : Str → Option Value} {base : Heap}
theorem ok_Desk_word (M : En K mg) : FnOk P w K mg base CX0 1 M.f_Desk_word M.fd_Desk_word ["self"] (spD K (sp_Desk_word M.c_Desk)) := by
  refine okD M.F_Desk_word sc_Desk_word (fun ds n Q X h => ?_) (fun cdv A outer s H E hr => ⟨_, (dss_one (ds_ret (de_fld M.C_Desk M.n_Desk_text (de_var (pv 0))))), fun ds n Q X h => ?_⟩)
  · skip
    unfold sp_Desk_word at h
    repeat (first | (rw [h.1]; rfl; done) | (obtain ⟨_, h⟩ := h))
  · skip
    obtain ⟨a, dx, w, ws, es, ch, rfl, ho, q⟩ := h
    walk_at "ex"
    exact ⟨a, dx, _, _, rfl, ho, dk_text, q⟩
end
end Kp
namespace Kp
open PySem PySem.Spec PyProof.Rows L2 Kb Km Kd
def sp_Desk_order (C : Addr) : SpD := fun ds n Q _ => ∃ (a dx : Addr) (w : List Nat) (ws : List (List Nat)) (es : List Ed) (ch : PyData), ds = [OBJ a] ∧ Kw.ob n a = some (dkO C dx w ws es ch) ∧ Wd24 w ∧ Q (.tuple (plD (tord w))) n
abbrev n_Desk_order : List Str := ["self"]
theorem sc_Desk_order : FnScope n_Desk_order ["self"] (defScope s_Desk_order) := ⟨rfl, rfl, rfl, by decide +kernel, rfl, by decide +kernel, by decide +kernel⟩
section
variable {P : Program} {w : World} {K : PySem.W.Frag} {mg : Str → Option Value} {base : Heap}
theorem ok_Desk_order (M : En K mg) : FnOk P w K mg base CX0 2 M.f_Desk_order M.fd_Desk_order ["self"] (spD K (sp_Desk_order M.c_Desk)) := by
  have G_tail_order : FnOk P w K mg base CX0 1 M.f_tail_order M.fd_tail_order ["word"] (spD K sp_tail_order) := (ok_tail_order M).mono (by decide)
  refine okD M.F_Desk_order sc_Desk_order (fun ds n Q X h => ?_) (fun cdv A outer s H E hr => ⟨_, (dss_one (ds_ret (de_call G_tail_order hr (by rfl) M.g_tail_order M.F_tail_order.kp M.b_tail_order passD (da_cons (de_fld M.C_Desk M.n_Desk_text (de_var (pv 0))) da_nil)))), fun ds n Q X h => ?_⟩)
  · skip
    unfold sp_Desk_order at h
    repeat (first | (rw [h.1]; rfl; done) | (obtain ⟨_, h⟩ := h))
  · skip
    obtain ⟨a, dx, w, ws, es, ch, rfl, ho, hw, q⟩ := h
    walk_at "ex"
    refine ⟨a, dx, _, _, rfl, ho, dk_text, ?_⟩
    walk_at "ex"
    exact ⟨w, rfl, by have := hw.2.1; omega, q⟩
end
end Kp
namespace Kp
open PySem PySem.Spec PyProof.Rows L2 Kb Km Kd
def sp_places_of : SpD := fun ds n Q _ => ∃ L P : List Nat, ds = [W L, W P] ∧ L.length ≤ 100 ∧ Q (.tuple (plD (plc L P))) n
abbrev n_places_of : List Str := ["word", "pattern", "place"]
theorem sc_places_of : FnScope n_places_of ["word", "pattern"] (defScope s_places_of) := ⟨rfl, rfl, rfl, by decide +kernel, rfl, by decide +kernel, by decide +kernel⟩
section
variable {P : Program} {w : World} {K : PySem.W.Frag} {mg : Str → Option Value} {base : Heap}
theorem ok_places_of (M : En K mg) : FnOk P w K mg base CX0 1 M.f_places_of M.fd_places_of ["word", "pattern"] (spD K sp_places_of) := by
  refine okD M.F_places_of sc_places_of (fun ds n Q X h => ?_) (fun cdv A outer s H E hr => ⟨_, (dss_one (ds_ret (de_ty cg_tuple (by rfl) M.m_tuple (by decide +kernel) (da_cons (de_lc (own := [("place", 2)]) rfl sc_places_of.nd (di_range1 (by rfl) M.m_range (da_cons (de_b cg_len (by rfl) M.m_len (by decide +kernel) (da_cons (de_var (pv 0)) da_nil)) da_nil)) (blkOk_by (N := n_places_of) (sc := defScope s_places_of) (by decide +kernel)) (tc_name (i := 2)) (fun _ _ _ _ _ => (pg_name (i := 2) sc_places_of.nd rfl (Or.inl rfl))) (fun _ _ _ _ _ => (dts_one (dt_val (de_ms PySem.F.slot_str_startswith PySem.F.type_str_startswith mg_starts (de_var (pv 0)) (da_cons (de_var (pv 1)) (da_cons (de_var (pv 2)) da_nil)))))) (fun _ _ _ _ _ => (de_var (pv 2)))) da_nil)))), fun ds n Q X h => ?_⟩)
  · skip
    unfold sp_places_of at h
    repeat (first | (rw [h.1]; rfl; done) | (obtain ⟨_, h⟩ := h))
  · skip
    obtain ⟨L, P, rfl, hl, q⟩ := h
    walk_at "ex"
    refine lc_R0F (fun p => decide ((L.drop p).take P.length = P)) (fun p => .int (p : Nat)) (by omega) (fun p hp P' R h1 h2 => ?_) ?_
    · walk_at "ex"
      refine x_starts3W (by omega) ?_
      walk_at "ex"
      refine x_ite (fun c => ?_) (fun c => ?_)
      · walk_at "ex"
        exact h1 (decide_eq_true c)
      · exact h2 (decide_eq_false c)
    · walk_at "ex"
      rw [show (L.length : Int).toNat = L.length by omega, pl_map, List.map_id']
      exact q
end
end Kp
namespace Kd
open PySem PySem.Spec PyProof.Rows L2 Kb Km
theorem sx_pat {p : Option (List Nat)} (h : okPat p) : Sx (patD p) 1002 1 := by
  cases p with
  | none => exact sxN.mono (by decide) (by decide)
  | some P => exact (sx_wn (h P rfl).2.1 (ltr_lt (h P rfl).2.2)).mono (by decide) (by decide)
end Kd
namespace Kp
open PySem PySem.Spec PyProof.Rows L2 Kb Km Kd
def sp_Desk_found (C : Addr) : SpD := fun ds n Q _ => ∃ (a dx : Addr) (w : List Nat) (ws : List (List Nat)) (es : List Ed) (p : Option (List Nat)), ds = [OBJ a] ∧ Kw.ob n a = some (dkO C dx w ws es (patD p)) ∧ Wd24 w ∧ Q (fndD w p) n
abbrev n_Desk_found : List Str := ["self"]
theorem sc_Desk_found : FnScope n_Desk_found ["self"] (defScope s_Desk_found) := ⟨rfl, rfl, rfl, by decide +kernel, rfl, by decide +kernel, by decide +kernel⟩
section
variable {P : Program} {w : World} {K : PySem.W.Frag} {mg : Str → Option Value} {base : Heap}
theorem ok_Desk_found (M : En K mg) : FnOk P w K mg base CX0 2 M.f_Desk_found M.fd_Desk_found ["self"] (spD K (sp_Desk_found M.c_Desk)) := by
  have G_places_of : FnOk P w K mg base CX0 1 M.f_places_of M.fd_places_of ["word", "pattern"] (spD K sp_places_of) := (ok_places_of M).mono (by decide)
  refine okD M.F_Desk_found sc_Desk_found (fun ds n Q X h => ?_) (fun cdv A outer s H E hr => ⟨_, (dss_one (ds_ret (de_ifExp (dt_k og_is (de_fld M.C_Desk M.n_Desk_chosen (de_var (pv 0))) de_non (nomark _)) de_non (de_call G_places_of hr (by rfl) M.g_places_of M.F_places_of.kp M.b_places_of passD (da_cons (de_fld M.C_Desk M.n_Desk_text (de_var (pv 0))) (da_cons (de_fld M.C_Desk M.n_Desk_chosen (de_var (pv 0))) da_nil)))))), fun ds n Q X h => ?_⟩)
  · skip
    unfold sp_Desk_found at h
    repeat (first | (rw [h.1]; rfl; done) | (obtain ⟨_, h⟩ := h))
  · skip
    obtain ⟨a, dx, w, ws, es, p, rfl, ho, hw, q⟩ := h
    walk_at "ex"
    refine ⟨a, dx, _, _, rfl, ho, dk_chosen, ?_⟩
    cases p with
    | none =>
      walk_at "ex"
      exact q
    | some P =>
      walk_at "ex"
      refine ⟨a, dx, _, _, rfl, ho, dk_text, ?_⟩
      walk_at "ex"
      refine ⟨a, dx, _, _, rfl, ho, dk_chosen, ?_⟩
      walk_at "ex"
      exact ⟨w, P, rfl, by have := hw.2.1; omega, q⟩
end
end Kp
namespace Kp
open PySem PySem.Spec PyProof.Rows L2 Kb Km Kd
def sp_Desk_check_free (C : Addr) : SpD := fun ds n Q _ => ∃ (a dx : Addr) (w : List Nat) (ws : List (List Nat)) (es : List Ed) (ch : PyData), ds = [OBJ a] ∧ Kw.ob n a = some (dkO C dx w ws es ch) ∧ Q .none n
abbrev n_Desk_check_free : List Str := ["self"]
theorem sc_Desk_check_free : FnScope n_Desk_check_free ["self"] (defScope s_Desk_check_free) := ⟨rfl, rfl, rfl, by decide +kernel, rfl, by decide +kernel, by decide +kernel⟩
section
variable {P : Program} {w : World} {K : PySem.W.Frag} {mg : Str → Option Value} {base : Heap}
theorem ok_Desk_check_free (M : En K mg) : FnOk P w K mg base CX0 1 M.f_Desk_check_free M.fd_Desk_check_free ["self"] (spD K (sp_Desk_check_free M.c_Desk)) := by
  refine okD M.F_Desk_check_free sc_Desk_check_free (fun ds n Q X h => ?_) (fun cdv A outer s H E hr => ⟨_, (dss_one (ds_if (dt_val (de_fld M.C_Desk M.n_Desk_busy (de_var (pv 0)))) dss_never dss_nil)), fun ds n Q X h => ?_⟩)
  · skip
    unfold sp_Desk_check_free at h
    repeat (first | (rw [h.1]; rfl; done) | (obtain ⟨_, h⟩ := h))
  · skip
    obtain ⟨a, dx, w, ws, es, ch, rfl, ho, q⟩ := h
    walk_at "ex"
    refine ⟨a, dx, _, _, rfl, ho, dk_busy, ?_⟩
    walk_at "ex"
    exact q
end
end Kp
namespace Kp
open PySem PySem.Spec PyProof.Rows L2 Kb Km Kd
def sp_check_letter (C : Addr) : SpD := fun ds n Q X => ∃ d : PyData, ds = [d] ∧ Fit d ∧ (letB d = true → Q .none n) ∧ (letB d = false → X (.ref C) [(Str.ofString "value", d)] n)
abbrev n_check_letter : List Str := ["value"]
theorem sc_check_letter : FnScope n_check_letter ["value"] (defScope s_check_letter) := ⟨rfl, rfl, rfl, by decide +kernel, rfl, by decide +kernel, by decide +kernel⟩
section
variable {P : Program} {w : World} {K : PySem.W.Frag} {mg : Str → Option Value} {base : Heap}
theorem ok_check_letter (M : En K mg) : FnOk P w K mg base (L2N.CX P w) 4 M.f_check_letter M.fd_check_letter ["value"] (spD K (sp_check_letter M.c_BadLetter)) := by
  have G_is_letter : FnOk P w K mg base CX0 3 M.f_is_letter M.fd_is_letter ["value"] (spD K sp_is_letter) := (ok_is_letter M).mono (by decide)
  refine okX (N := n_check_letter) (k := 3) M.F_check_letter sc_check_letter (fun ds n Q X h => ?_) (fun cdv A outer s H E hr => ⟨_, (dss_one (ds_if (dt_not (dt_val (de_call G_is_letter hr (by rfl) M.g_is_letter M.F_is_letter.kp M.b_is_letter passD (da_cons (de_var (pv 0)) da_nil)))) (dss_one (ds_raise rfl (L2N.takes_of rfl rfl rfl rfl) (pmk_ex1 M.E_BadLetter M.no_BadLetter M.ii_BadLetter M.ti_BadLetter (ok_ini_BadLetter M) (hr.mono (by decide)) M.bi_BadLetter (by rfl) M.g_BadLetter (da_cons (de_var (pv 0)) da_nil)))) dss_nil)), fun ds n Q X h => ?_⟩)
  · skip
    unfold sp_check_letter at h
    repeat (first | (rw [h.1]; rfl; done) | (obtain ⟨_, h⟩ := h))
  · skip
    obtain ⟨d, rfl, f, q, x⟩ := h
    walk_at "ex"
    refine ⟨d, rfl, f, ?_⟩
    walk_at "ex"
    cases c : letB d with
    | false =>
      walk_at "ex"
      exact x c
    | true =>
      walk_at "ex"
      exact q c
end
end Kp
namespace Kp
open PySem PySem.Spec PyProof.Rows L2 Kb Km Kd
def sp_changed (CP CB : Addr) : SpD := fun ds n Q X => ∃ (L : List Nat) (p l : PyData), ds = [W L, p, l] ∧ L.length ≤ 24 ∧ Fit p ∧ Fit l ∧ (inB 0 L.length p = false → X (.ref CP) [(Str.ofString "value", p)] n) ∧ (inB 0 L.length p = true → letB l = false → X (.ref CB) [(Str.ofString "value", l)] n) ∧ (inB 0 L.length p = true → letB l = true → Q (W (edW L (.ch (natOf p) (chOf l)))) n)
abbrev n_changed : List Str := ["word", "place", "letter"]
theorem sc_changed : FnScope n_changed ["word", "place", "letter"] (defScope s_changed) := ⟨rfl, rfl, rfl, by decide +kernel, rfl, by decide +kernel, by decide +kernel⟩
section
variable {P : Program} {w : World} {K : PySem.W.Frag} {mg : Str → Option Value} {base : Heap}
theorem ok_changed (M : En K mg) : FnOk P w K mg base (L2N.CX P w) 5 M.f_changed M.fd_changed ["word", "place", "letter"] (spD K (sp_changed M.c_NoPlace M.c_BadLetter)) := by
  have G_check_letter : FnOk P w K mg base (L2N.CX P w) 4 M.f_check_letter M.fd_check_letter ["value"] (spD K (sp_check_letter M.c_BadLetter)) := (ok_check_letter M).mono (by decide)
  have G0_check_letter := quiet G_check_letter
  have G_check_place : FnOk P w K mg base (L2N.CX P w) 4 M.f_check_place M.fd_check_place ["value", "many"] (spD K (sp_check_place M.c_NoPlace)) := (ok_check_place M).mono (by decide)
  have G0_check_place := quiet G_check_place
  refine okX (N := n_changed) (k := 4) M.F_changed sc_changed (fun ds n Q X h => ?_) (fun cdv A outer s H E hr => ⟨_, (dss_cons (ds_expr (de_call G_check_place hr (by rfl) M.g_check_place M.F_check_place.kp M.b_check_place (passX (L2N.takes_of rfl rfl rfl rfl)) (da_cons (de_var (pv 1)) (da_cons (de_b cg_len (by rfl) M.m_len (by decide +kernel) (da_cons (de_var (pv 0)) da_nil)) da_nil))))
      (dss_cons (ds_expr (de_call G_check_letter hr (by rfl) M.g_check_letter M.F_check_letter.kp M.b_check_letter (passX (L2N.takes_of rfl rfl rfl rfl)) (da_cons (de_var (pv 2)) da_nil)))
      (dss_one (ds_ret (de_o og_add (de_o og_add (de_cut sg (de_var (pv 0)) do_none (do_some (de_var (pv 1)))) (de_var (pv 2))) (de_cut sg (de_var (pv 0)) (do_some (de_o og_add (de_var (pv 1)) de_int)) do_none)))))), fun ds n Q X h => ?_⟩)
  · skip
    unfold sp_changed at h
    repeat (first | (rw [h.1]; rfl; done) | (obtain ⟨_, h⟩ := h))
  · skip
    obtain ⟨L, p, l, rfl, hl, fp, fl, x1, x2, q⟩ := h
    walk_at "ex"
    refine ⟨p, _, rfl, fp.1, x1, fun c1 => ?_⟩
    walk_at "ex"
    refine ⟨l, rfl, fl, fun c2 => ?_, fun c2 => x2 c1 c2⟩
    obtain ⟨l1, l2⟩ := letB_of c2
    have q := q c1 c2
    obtain ⟨i, rfl⟩ : ∃ i, p = .int i := by cases p <;> first | exact ⟨_, rfl⟩ | cases c1
    have c1 : 0 ≤ i ∧ i < L.length := of_decide_eq_true c1
    obtain ⟨k, rfl⟩ := Int.eq_ofNat_of_zero_le c1.1
    rw [l2]
    walk_at "ex"
    exact q
end
end Kp
namespace Kp
open PySem PySem.Spec PyProof.Rows L2 Kb Km Kd
def sp_lengthened (CB CT : Addr) : SpD := fun ds n Q X => ∃ (L : List Nat) (l : PyData), ds = [W L, l] ∧ L.length ≤ 24 ∧ Fit l ∧ (letB l = false → X (.ref CB) [(Str.ofString "value", l)] n) ∧ (letB l = true → L.length = 24 → X (.ref CT) [(Str.ofString "limit", .int 24)] n) ∧ (letB l = true → L.length ≠ 24 → Q (W (edW L (.gr (chOf l)))) n)
abbrev n_lengthened : List Str := ["word", "letter"]
theorem sc_lengthened : FnScope n_lengthened ["word", "letter"] (defScope s_lengthened) := ⟨rfl, rfl, rfl, by decide +kernel, rfl, by decide +kernel, by decide +kernel⟩
section
variable {P : Program} {w : World} {K : PySem.W.Frag} {mg : Str → Option Value} {base : Heap}
theorem ok_lengthened (M : En K mg) : FnOk P w K mg base (L2N.CX P w) 5 M.f_lengthened M.fd_lengthened ["word", "letter"] (spD K (sp_lengthened M.c_BadLetter M.c_TooLong)) := by
  have G_check_letter : FnOk P w K mg base (L2N.CX P w) 4 M.f_check_letter M.fd_check_letter ["value"] (spD K (sp_check_letter M.c_BadLetter)) := (ok_check_letter M).mono (by decide)
  have G0_check_letter := quiet G_check_letter
  refine okX (N := n_lengthened) (k := 4) M.F_lengthened sc_lengthened (fun ds n Q X h => ?_) (fun cdv A outer s H E hr => ⟨_, (dss_cons (ds_expr (de_call G_check_letter hr (by rfl) M.g_check_letter M.F_check_letter.kp M.b_check_letter (passX (L2N.takes_of rfl rfl rfl rfl)) (da_cons (de_var (pv 1)) da_nil)))
      (dss_cons (ds_if (dt_k og_ge (de_b cg_len (by rfl) M.m_len (by decide +kernel) (da_cons (de_var (pv 0)) da_nil)) (de_c (v := .int _) (d := .int _) (pe_glob (by rfl) M.v_MAX_WORD ⟨_, rfl⟩) (fun _ _ _ => .int _)) (nomark _)) (dss_one (ds_raise rfl (L2N.takes_of rfl rfl rfl rfl) (pmk_ex1 M.E_TooLong M.no_TooLong M.ii_TooLong M.ti_TooLong (ok_ini_TooLong M) (hr.mono (by decide)) M.bi_TooLong (by rfl) M.g_TooLong (da_cons (de_c (v := .int _) (d := .int _) (pe_glob (by rfl) M.v_MAX_WORD ⟨_, rfl⟩) (fun _ _ _ => .int _)) da_nil)))) dss_nil)
      (dss_one (ds_ret (de_o og_add (de_var (pv 1)) (de_var (pv 0))))))), fun ds n Q X h => ?_⟩)
  · skip
    unfold sp_lengthened at h
    repeat (first | (rw [h.1]; rfl; done) | (obtain ⟨_, h⟩ := h))
  · skip
    obtain ⟨L, l, rfl, hl, fl, x1, x2, q⟩ := h
    walk_at "ex"
    refine ⟨l, rfl, fl, fun c2 => ?_, fun c2 => x1 c2⟩
    obtain ⟨l1, l2⟩ := letB_of c2
    walk_at "ex"
    refine x_ite (fun z => ?_) (fun z => ?_)
    · walk_at "ex"
      exact x2 c2 (by omega)
    · walk_at "ex"
      have q := q c2 (by omega)
      rw [l2]
      walk_at "ex"
      exact q
end
end Kp
namespace Kp
open PySem PySem.Spec PyProof.Rows L2 Kb Km Kd
def sp_shortened (CL : Addr) : SpD := fun ds n Q X => ∃ L : List Nat, ds = [W L] ∧ Wd24 L ∧ (L.length ≠ 1 → Q (W (edW L .sh)) n) ∧ (L.length = 1 → X (.ref CL) [] n)
abbrev n_shortened : List Str := ["word"]
theorem sc_shortened : FnScope n_shortened ["word"] (defScope s_shortened) := ⟨rfl, rfl, rfl, by decide +kernel, rfl, by decide +kernel, by decide +kernel⟩
section
variable {P : Program} {w : World} {K : PySem.W.Frag} {mg : Str → Option Value} {base : Heap}
theorem ok_shortened (M : En K mg) : FnOk P w K mg base (L2N.CX P w) 3 M.f_shortened M.fd_shortened ["word"] (spD K (sp_shortened M.c_LastLetter)) := by
  refine okX (N := n_shortened) (k := 2) M.F_shortened sc_shortened (fun ds n Q X h => ?_) (fun cdv A outer s H E hr => ⟨_, (dss_cons (ds_if (dt_k (og_eq hr.units) (de_b cg_len (by rfl) M.m_len (by decide +kernel) (da_cons (de_var (pv 0)) da_nil)) de_int (nomark _)) (dss_one (ds_raise0 rfl (L2N.takes_of rfl rfl rfl rfl) (pmk_ex0 M.q_LastLetter M.E_LastLetter M.g_LastLetter (by rfl)))) dss_nil)
      (dss_one (ds_ret (de_cut sg (de_var (pv 0)) (do_some de_int) do_none)))), fun ds n Q X h => ?_⟩)
  · skip
    unfold sp_shortened at h
    repeat (first | (rw [h.1]; rfl; done) | (obtain ⟨_, h⟩ := h))
  · skip
    obtain ⟨L, rfl, hw, q, x⟩ := h
    have h0 := hw.1
    walk_at "ex"
    refine x_ite (fun z => ?_) (fun z => ?_)
    · walk_at "ex"
      exact x (by omega)
    · walk_at "ex"
      exact q (by omega)
end
end Kp
namespace Kp
open PySem PySem.Spec PyProof.Rows L2 Kb Km Kd
def sp_edited (CP CB CT CL : Addr) : SpD := fun ds n Q X => ∃ (L : List Nat) (e : Eg) (cm cn : Addr), ds = [W L, egD e] ∧ Wd24 L ∧ egFit e ∧ (∀ x, egOut L e = .ok x → Q (W (edW L x)) n) ∧ (∀ r, egOut L e = .error r → erX ⟨CP, CB, CT, CL, cm, cn⟩ X n r)
abbrev n_edited : List Str := ["word", "edit"]
theorem sc_edited : FnScope n_edited ["word", "edit"] (defScope s_edited) := ⟨rfl, rfl, rfl, by decide +kernel, rfl, by decide +kernel, by decide +kernel⟩
section
variable {P : Program} {w : World} {K : PySem.W.Frag} {mg : Str → Option Value} {base : Heap}
theorem ok_edited (M : En K mg) : FnOk P w K mg base (L2N.CX P w) 6 M.f_edited M.fd_edited ["word", "edit"] (spD K (sp_edited M.c_NoPlace M.c_BadLetter M.c_TooLong M.c_LastLetter)) := by
  have G_changed : FnOk P w K mg base (L2N.CX P w) 5 M.f_changed M.fd_changed ["word", "place", "letter"] (spD K (sp_changed M.c_NoPlace M.c_BadLetter)) := (ok_changed M).mono (by decide)
  have G0_changed := quiet G_changed
  have G_lengthened : FnOk P w K mg base (L2N.CX P w) 5 M.f_lengthened M.fd_lengthened ["word", "letter"] (spD K (sp_lengthened M.c_BadLetter M.c_TooLong)) := (ok_lengthened M).mono (by decide)
  have G0_lengthened := quiet G_lengthened
  have G_shortened : FnOk P w K mg base (L2N.CX P w) 5 M.f_shortened M.fd_shortened ["word"] (spD K (sp_shortened M.c_LastLetter)) := (ok_shortened M).mono (by decide)
  have G0_shortened := quiet G_shortened
  refine okX (N := n_edited) (k := 5) M.F_edited sc_edited (fun ds n Q X h => ?_) (fun cdv A outer s H E hr => ⟨_, (dss_cons (ds_if (dt_k (og_eq hr.units) (de_at ig (de_var (pv 1)) de_int (fun _ _ => rfl)) de_str (nomark _)) (dss_one (ds_ret (de_call G_changed hr (by rfl) M.g_changed M.F_changed.kp M.b_changed (passX (L2N.takes_of rfl rfl rfl rfl)) (da_cons (de_var (pv 0)) (da_cons (de_at ig (de_var (pv 1)) de_int (fun _ _ => rfl)) (da_cons (de_at ig (de_var (pv 1)) de_int (fun _ _ => rfl)) da_nil)))))) dss_nil)
      (dss_cons (ds_if (dt_k (og_eq hr.units) (de_at ig (de_var (pv 1)) de_int (fun _ _ => rfl)) de_str (nomark _)) (dss_one (ds_ret (de_call G_lengthened hr (by rfl) M.g_lengthened M.F_lengthened.kp M.b_lengthened (passX (L2N.takes_of rfl rfl rfl rfl)) (da_cons (de_var (pv 0)) (da_cons (de_at ig (de_var (pv 1)) de_int (fun _ _ => rfl)) da_nil))))) dss_nil)
      (dss_one (ds_ret (de_call G_shortened hr (by rfl) M.g_shortened M.F_shortened.kp M.b_shortened (passX (L2N.takes_of rfl rfl rfl rfl)) (da_cons (de_var (pv 0)) da_nil)))))), fun ds n Q X h => ?_⟩)
  · skip
    unfold sp_edited at h
    repeat (first | (rw [h.1]; rfl; done) | (obtain ⟨_, h⟩ := h))
  · skip
    obtain ⟨L, e, cm, cn, rfl, hw, he, q, x⟩ := h
    cases e with
    | ch p l =>
      rw [eg_ch]
      walk_at "ex"
      refine x_atT (show _ = some (PyData.str "change") from rfl) ?_
      walk_at "ex"
      refine x_ite (fun z => ?_) (fun z => absurd rfl z)
      walk_at "ex"
      refine x_atT (show _ = some p from rfl) ?_
      walk_at "ex"
      refine x_atT (show _ = some l from rfl) ?_
      walk_at "ex"
      have eo : egOut L (.ch p l) = (if inB 0 L.length p = true then (if letB l = true then .ok (.ch (natOf p) (chOf l)) else .error (.letter l)) else .error (.place p)) := rfl
      refine ⟨L, p, l, rfl, hw.2.1, he.1, he.2, fun c1 => ?_, fun c1 c2 => ?_, fun c1 c2 => ?_⟩
      · exact x (.place p) (by rw [eo, if_neg (by rw [c1]; decide)])
      · exact x (.letter l) (by rw [eo, if_pos c1, if_neg (by rw [c2]; decide)])
      · exact q _ (by rw [eo, if_pos c1, if_pos c2])
    | gr l =>
      rw [eg_gr]
      walk_at "ex"
      refine x_atT (show _ = some (PyData.str "grow") from rfl) ?_
      walk_at "ex"
      refine x_ite (fun z => absurd z (by decide +kernel)) (fun z => ?_)
      walk_at "ex"
      refine x_atT (show _ = some (PyData.str "grow") from rfl) ?_
      walk_at "ex"
      refine x_ite (fun z => ?_) (fun z => absurd rfl z)
      walk_at "ex"
      refine x_atT (show _ = some l from rfl) ?_
      walk_at "ex"
      have eo : egOut L (.gr l) = (if letB l = true then (if L.length = 24 then .error .long else .ok (.gr (chOf l))) else .error (.letter l)) := rfl
      refine ⟨L, l, rfl, hw.2.1, he, fun c1 => ?_, fun c1 c2 => ?_, fun c1 c2 => ?_⟩
      · exact x (.letter l) (by rw [eo, if_neg (by rw [c1]; decide)])
      · exact x .long (by rw [eo, if_pos c1, if_pos c2])
      · exact q _ (by rw [eo, if_pos c1, if_neg c2])
    | sh =>
      rw [eg_sh]
      walk_at "ex"
      refine x_atT (show _ = some (PyData.str "shrink") from rfl) ?_
      walk_at "ex"
      refine x_ite (fun z => absurd z (by decide +kernel)) (fun z => ?_)
      walk_at "ex"
      refine x_atT (show _ = some (PyData.str "shrink") from rfl) ?_
      walk_at "ex"
      refine x_ite (fun z => absurd z (by decide +kernel)) (fun z => ?_)
      walk_at "ex"
      have eo : egOut L .sh = (if L.length = 1 then .error .last else .ok .sh) := rfl
      exact ⟨L, rfl, hw, fun c => q _ (by rw [eo, if_neg c]), fun c => x .last (by rw [eo, if_pos c])⟩
end
end Kp
namespace Kp
open PySem PySem.Spec PyProof.Rows L2 Kb Km Kd
def sp_Desk_check_result : SpD := fun ds n Q _ => ∃ a d : PyData, ds = [a, d] ∧ Q .none n
abbrev n_Desk_check_result : List Str := ["self", "word"]
theorem sc_Desk_check_result : FnScope n_Desk_check_result ["self", "word"] (defScope s_Desk_check_result) := ⟨rfl, rfl, rfl, by decide +kernel, rfl, by decide +kernel, by decide +kernel⟩
section
variable {P : Program} {w : World} {K : PySem.W.Frag} {mg : Str → Option Value} {base : Heap}
theorem ok_Desk_check_result (M : En K mg) : FnOk P w K mg base CX0 1 M.f_Desk_check_result M.fd_Desk_check_result ["self", "word"] (spD K sp_Desk_check_result) := by
  refine okD M.F_Desk_check_result sc_Desk_check_result (fun ds n Q X h => ?_) (fun cdv A outer s H E hr => ⟨_, (dss_one ds_pass), fun ds n Q X h => ?_⟩)
  · skip
    obtain ⟨_, _, rfl, _⟩ := h
    rfl
  · skip
    obtain ⟨a, d, rfl, q⟩ := h
    walk_at "ex"
    exact q
end
end Kp
namespace Kp
open PySem PySem.Spec PyProof.Rows L2 Kb Km Kd
def sp_Desk_do_edit (C CP CB CT CL CM : Addr) : SpD := fun ds n Q X => ∃ (a dx : Addr) (w : List Nat) (ws : List (List Nat)) (es : List Ed) (ch : PyData) (e : Eg) (cn : Addr), ds = [OBJ a, egD e] ∧ Kw.ob n a = some (dkO C dx w ws es ch) ∧ Wd24 w ∧ es.length ≤ 60 ∧ ws.length = es.length ∧ egFit e ∧ (∀ x, egAns w es.length e = .ok x → ∀ n', Kw.Upd n a (dkO C dx (edW w x) (ws ++ [w]) (es ++ [x]) ch) n' → Q .none n') ∧ (∀ r, egAns w es.length e = .error r → erX ⟨CP, CB, CT, CL, CM, cn⟩ X n r)
abbrev n_Desk_do_edit : List Str := ["self", "edit", "word"]
theorem sc_Desk_do_edit : FnScope n_Desk_do_edit ["self", "edit"] (defScope s_Desk_do_edit) := ⟨rfl, rfl, rfl, by decide +kernel, rfl, by decide +kernel, by decide +kernel⟩
section
variable {P : Program} {w : World} {K : PySem.W.Frag} {mg : Str → Option Value} {base : Heap}
theorem ok_Desk_do_edit (M : En K mg) : FnOk P w K mg base (L2N.CX P w) 7 M.f_Desk_do_edit M.fd_Desk_do_edit ["self", "edit"] (spD K (sp_Desk_do_edit M.c_Desk M.c_NoPlace M.c_BadLetter M.c_TooLong M.c_LastLetter M.c_TooManyEdits)) := by
  have G_Desk_check_result : FnOk P w K mg base CX0 6 M.f_Desk_check_result M.fd_Desk_check_result ["self", "word"] (spD K sp_Desk_check_result) := (ok_Desk_check_result M).mono (by decide)
  have G_edited : FnOk P w K mg base (L2N.CX P w) 6 M.f_edited M.fd_edited ["word", "edit"] (spD K (sp_edited M.c_NoPlace M.c_BadLetter M.c_TooLong M.c_LastLetter)) := (ok_edited M).mono (by decide)
  have G0_edited := quiet G_edited
  refine okX (N := n_Desk_do_edit) (k := 6) M.F_Desk_do_edit sc_Desk_do_edit (fun ds n Q X h => ?_) (fun cdv A outer s H E hr => ⟨_, (dss_cons (ds_if (dt_k og_ge (de_b cg_len (by rfl) M.m_len (by decide +kernel) (da_cons (de_fld M.C_Desk M.n_Desk_steps (de_var (pv 0))) da_nil)) (de_c (v := .int _) (d := .int _) (pe_glob (by rfl) M.v_MAX_EDITS ⟨_, rfl⟩) (fun _ _ _ => .int _)) (nomark _)) (dss_one (ds_raise0 rfl (L2N.takes_of rfl rfl rfl rfl) (pmk_ex0 M.q_TooManyEdits M.E_TooManyEdits M.g_TooManyEdits (by rfl)))) dss_nil)
      (dss_cons (ds_set (i := 2) sc_Desk_do_edit.nd rfl (.inl rfl) (de_call G_edited hr (by rfl) M.g_edited M.F_edited.kp M.b_edited (passX (L2N.takes_of rfl rfl rfl rfl)) (da_cons (de_fld M.C_Desk M.n_Desk_text (de_var (pv 0))) (da_cons (de_var (pv 1)) da_nil))))
      (dss_cons (ds_expr (de_meth (pe_meth (pl := _) (de_var (pv 0)) M.C_Desk M.h_Desk_check_result G_Desk_check_result hr M.b_Desk_check_result .nil passD (da_cons (de_var (pv 2)) da_nil))))
      (dss_cons (ds_putF M.C_Desk M.n_Desk_earlier (de_var (pv 0)) (de_o og_add (de_fld M.C_Desk M.n_Desk_earlier (de_var (pv 0))) (de_tup (da_cons (de_fld M.C_Desk M.n_Desk_text (de_var (pv 0))) da_nil))))
      (dss_cons (ds_putF M.C_Desk M.n_Desk_steps (de_var (pv 0)) (de_o og_add (de_fld M.C_Desk M.n_Desk_steps (de_var (pv 0))) (de_tup (da_cons (de_var (pv 1)) da_nil))))
      (dss_one (ds_putF M.C_Desk M.n_Desk_text (de_var (pv 0)) (de_var (pv 2))))))))), fun ds n Q X h => ?_⟩)
  · skip
    unfold sp_Desk_do_edit at h
    repeat (first | (rw [h.1]; rfl; done) | (obtain ⟨_, h⟩ := h))
  · skip
    obtain ⟨a, dx, w, ws, es, ch, e, cn, rfl, ho, hw, l1, l2, he, q, x⟩ := h
    walk_at "ex"
    refine ⟨a, dx, _, _, rfl, ho, dk_steps, ?_⟩
    walk_at "ex"
    rw [List.length_map]
    refine x_ite (fun z => ?_) (fun z => ?_)
    · walk_at "ex"
      exact x .many (by unfold egAns; rw [if_pos (by omega)])
    have ea : egAns w es.length e = egOut w e := by unfold egAns; rw [if_neg (by omega)]
    rw [ea] at q x
    walk_at "ex"
    refine ⟨a, dx, _, _, rfl, ho, dk_text, ?_⟩
    walk_at "ex"
    refine ⟨w, e, M.c_TooManyEdits, cn, rfl, hw, he, fun y ok => ?_, fun r no => x r no⟩
    obtain ⟨k1, k2⟩ := egOut_ok ok hw
    rw [k2]
    walk_at "ex"
    refine ⟨a, dx, _, rfl, ho, rfl, ?_⟩
    walk_at "ex"
    refine ⟨_, _, rfl, ?_⟩
    walk_at "ex"
    refine ⟨a, dx, _, _, rfl, ho, dk_earlier, ?_⟩
    walk_at "ex"
    refine ⟨a, dx, _, _, rfl, ho, dk_text, ?_⟩
    walk_at "ex"
    refine x_addT (by rw [List.length_map]; exact Nat.le_trans (show ws.length + 1 ≤ 1000 by omega) (by decide)) ?_
    rw [show List.map W ws ++ [W w] = (ws ++ [w]).map W by rw [List.map_append]; rfl]
    walk_at "ex"
    refine ⟨a, dx, _, rfl, ho, (show 5 < 1000 by decide), nlA_words _, ?_⟩
    rw [dk_sE]
    have u1 := Kw.Upd.put n a (dkO M.c_Desk dx w (ws ++ [w]) es ch)
    generalize Kw.put n a (dkO M.c_Desk dx w (ws ++ [w]) es ch) = n1 at u1 ⊢
    walk_at "ex"
    refine ⟨a, dx, _, _, rfl, u1.at_, dk_steps, ?_⟩
    walk_at "ex"
    refine x_addT (by rw [List.length_map]; exact Nat.le_trans (show es.length + 1 ≤ 1000 by omega) (by decide)) ?_
    rw [show List.map edD es ++ [edD y] = (es ++ [y]).map edD by rw [List.map_append]; rfl]
    walk_at "ex"
    refine ⟨a, dx, _, rfl, u1.at_, (show 5 < 1000 by decide), nlA_eds _, ?_⟩
    rw [dk_sS]
    have u2 := u1.trans (Kw.Upd.put n1 a (dkO M.c_Desk dx w (ws ++ [w]) (es ++ [y]) ch))
    generalize Kw.put n1 a (dkO M.c_Desk dx w (ws ++ [w]) (es ++ [y]) ch) = n2 at u2 ⊢
    walk_at "ex"
    refine ⟨a, dx, _, rfl, u2.at_, (show 5 < 1000 by decide), rfl, ?_⟩
    rw [dk_sT]
    exact q y ok _ (u2.trans (Kw.Upd.put _ _ _))
end
end Kp
namespace Kp
open PySem PySem.Spec PyProof.Rows L2 Kb Km Kd
def sp_Desk_do_alone (C CP CB CT CL CM : Addr) : SpD := fun ds n Q X => ∃ (a dx : Addr) (w : List Nat) (ws : List (List Nat)) (es : List Ed) (ch : PyData) (e : Eg) (cn : Addr), ds = [OBJ a, egD e] ∧ Kw.ob n a = some (dkO C dx w ws es ch) ∧ Wd24 w ∧ es.length ≤ 60 ∧ ws.length = es.length ∧ egFit e ∧ (∀ x, egAns w es.length e = .ok x → ∀ n', Kw.Upd n a (dkO C dx (edW w x) (ws ++ [w]) (es ++ [x]) ch) n' → Q (.int ((es.length + 1 : Nat) : Int)) n') ∧ (∀ r, egAns w es.length e = .error r → erX ⟨CP, CB, CT, CL, CM, cn⟩ X n r)
abbrev n_Desk_do_alone : List Str := ["self", "edit"]
theorem sc_Desk_do_alone : FnScope n_Desk_do_alone ["self", "edit"] (defScope s_Desk_do_alone) := ⟨rfl, rfl, rfl, by decide +kernel, rfl, by decide +kernel, by decide +kernel⟩
section
variable {P : Program} {w : World} {K : PySem.W.Frag} {mg : Str → Option Value} {base : Heap}
theorem ok_Desk_do_alone (M : En K mg) : FnOk P w K mg base (L2N.CX P w) 8 M.f_Desk_do_alone M.fd_Desk_do_alone ["self", "edit"] (spD K (sp_Desk_do_alone M.c_Desk M.c_NoPlace M.c_BadLetter M.c_TooLong M.c_LastLetter M.c_TooManyEdits)) := by
  have G_Desk_check_free : FnOk P w K mg base CX0 7 M.f_Desk_check_free M.fd_Desk_check_free ["self"] (spD K (sp_Desk_check_free M.c_Desk)) := (ok_Desk_check_free M).mono (by decide)
  have G_Desk_do_edit : FnOk P w K mg base (L2N.CX P w) 7 M.f_Desk_do_edit M.fd_Desk_do_edit ["self", "edit"] (spD K (sp_Desk_do_edit M.c_Desk M.c_NoPlace M.c_BadLetter M.c_TooLong M.c_LastLetter M.c_TooManyEdits)) := (ok_Desk_do_edit M).mono (by decide)
  have G0_Desk_do_edit := quiet G_Desk_do_edit
  refine okX (N := n_Desk_do_alone) (k := 7) M.F_Desk_do_alone sc_Desk_do_alone (fun ds n Q X h => ?_) (fun cdv A outer s H E hr => ⟨_, (dss_cons (ds_expr (de_meth0 (pe_meth0 (pl := _) (de_var (pv 0)) M.C_Desk M.h_Desk_check_free G_Desk_check_free hr M.b_Desk_check_free .nil passD)))
      (dss_cons (ds_expr (de_meth (pe_meth (pl := _) (de_var (pv 0)) M.C_Desk M.h_Desk_do_edit G_Desk_do_edit hr M.b_Desk_do_edit .nil (passX (L2N.takes_of rfl rfl rfl rfl)) (da_cons (de_var (pv 1)) da_nil))))
      (dss_one (ds_ret (de_b cg_len (by rfl) M.m_len (by decide +kernel) (da_cons (de_fld M.C_Desk M.n_Desk_steps (de_var (pv 0))) da_nil)))))), fun ds n Q X h => ?_⟩)
  · skip
    unfold sp_Desk_do_alone at h
    repeat (first | (rw [h.1]; rfl; done) | (obtain ⟨_, h⟩ := h))
  · skip
    obtain ⟨a, dx, w, ws, es, ch, e, cn, rfl, ho, hw, l1, l2, he, q, x⟩ := h
    walk_at "ex"
    refine ⟨a, dx, _, rfl, ho, rfl, ?_⟩
    walk_at "ex"
    refine ⟨a, dx, w, ws, es, ch, rfl, ho, ?_⟩
    walk_at "ex"
    refine ⟨a, dx, _, rfl, ho, rfl, ?_⟩
    walk_at "ex"
    refine ⟨a, dx, w, ws, es, ch, e, cn, rfl, ho, hw, l1, l2, he, fun y ok n' u => ?_, fun r no => x r no⟩
    walk_at "ex"
    refine ⟨a, dx, _, _, rfl, u.at_, dk_steps, ?_⟩
    walk_at "ex"
    rw [List.length_map, List.length_append]
    exact q y ok n' u
end
end Kp
namespace Kp
open PySem PySem.Spec PyProof.Rows L2 Kb Km Kd
def sp_Desk_shrink (C CP CB CT CL CM : Addr) : SpD := fun ds n Q X => ∃ (a dx : Addr) (w : List Nat) (ws : List (List Nat)) (es : List Ed) (ch : PyData)  (cn : Addr), ds = [OBJ a] ∧ Kw.ob n a = some (dkO C dx w ws es ch) ∧ Wd24 w ∧ es.length ≤ 60 ∧ ws.length = es.length ∧ egFit .sh ∧ (∀ x, egAns w es.length .sh = .ok x → ∀ n', Kw.Upd n a (dkO C dx (edW w x) (ws ++ [w]) (es ++ [x]) ch) n' → Q (.int ((es.length + 1 : Nat) : Int)) n') ∧ (∀ r, egAns w es.length .sh = .error r → erX ⟨CP, CB, CT, CL, CM, cn⟩ X n r)
abbrev n_Desk_shrink : List Str := ["self"]
theorem sc_Desk_shrink : FnScope n_Desk_shrink ["self"] (defScope s_Desk_shrink) := ⟨rfl, rfl, rfl, by decide +kernel, rfl, by decide +kernel, by decide +kernel⟩
section
variable {P : Program} {w : World} {K : PySem.W.Frag} {mg : Str → Option Value} {base : Heap}
theorem ok_Desk_shrink (M : En K mg) : FnOk P w K mg base (L2N.CX P w) 9 M.f_Desk_shrink M.fd_Desk_shrink ["self"] (spD K (sp_Desk_shrink M.c_Desk M.c_NoPlace M.c_BadLetter M.c_TooLong M.c_LastLetter M.c_TooManyEdits)) := by
  have G_Desk_do_alone : FnOk P w K mg base (L2N.CX P w) 8 M.f_Desk_do_alone M.fd_Desk_do_alone ["self", "edit"] (spD K (sp_Desk_do_alone M.c_Desk M.c_NoPlace M.c_BadLetter M.c_TooLong M.c_LastLetter M.c_TooManyEdits)) := (ok_Desk_do_alone M).mono (by decide)
  have G0_Desk_do_alone := quiet G_Desk_do_alone
  refine okX (N := n_Desk_shrink) (k := 8) M.F_Desk_shrink sc_Desk_shrink (fun ds n Q X h => ?_) (fun cdv A outer s H E hr => ⟨_, (dss_one (ds_ret (de_meth (pe_meth (pl := _) (de_var (pv 0)) M.C_Desk M.h_Desk_do_alone G_Desk_do_alone hr M.b_Desk_do_alone .nil (passX (L2N.takes_of rfl rfl rfl rfl)) (da_cons (de_tup (da_cons de_str da_nil)) da_nil))))), fun ds n Q X h => ?_⟩)
  · skip
    unfold sp_Desk_shrink at h
    repeat (first | (rw [h.1]; rfl; done) | (obtain ⟨_, h⟩ := h))
  · skip
    obtain ⟨a, dx, w, ws, es, ch, cn, rfl, ho, hw, l1, l2, he, q, x⟩ := h
    walk_at "ex"
    refine ⟨a, dx, _, rfl, ho, rfl, ?_⟩
    walk_at "ex"
    exact ⟨a, dx, w, ws, es, ch, .sh, cn, rfl, ho, hw, l1, l2, he, q, x⟩
end
end Kp
namespace Kd
open PySem PySem.Spec PyProof.Rows L2 Kb Km
theorem last_w (ws : List (List Nat)) (w : List Nat) : atI ((ws ++ [w]).map W) (-1) = some (W w) := at_last (by simp)
theorem cut_last (ds : List PyData) (d : PyData) : rCut.cutD (ds ++ [d]) none (some (-1)) = ds := by
  unfold rCut.cutD
  have e : HT.sIx (ds ++ [d]).length (ds ++ [d]).length (some (-1)) = ds.length := by
    rw [List.length_append, List.length_singleton]
    unfold HT.sIx
    simp
    omega
  rw [e, show HT.sIx (ds ++ [d]).length 0 none = 0 from rfl, List.drop_zero, Nat.sub_zero, List.take_left']
  rfl
end Kd
namespace Kp
open PySem PySem.Spec PyProof.Rows L2 Kb Km Kd
def sp_Desk_undo (C CN : Addr) : SpD := fun ds n Q X => ∃ (a dx : Addr) (w : List Nat) (ws : List (List Nat)) (es : List Ed) (ch : PyData), ds = [OBJ a] ∧ Kw.ob n a = some (dkO C dx w ws es ch) ∧ es.length ≤ 61 ∧ ws.length = es.length ∧ (es = [] → X (.ref CN) [] n) ∧ (∀ ws0 w0 es0 e0, ws = ws0 ++ [w0] → es = es0 ++ [e0] → ∀ n', Kw.Upd n a (dkO C dx w0 ws0 es0 ch) n' → Q (.int (es0.length : Nat)) n')
abbrev n_Desk_undo : List Str := ["self"]
theorem sc_Desk_undo : FnScope n_Desk_undo ["self"] (defScope s_Desk_undo) := ⟨rfl, rfl, rfl, by decide +kernel, rfl, by decide +kernel, by decide +kernel⟩
section
variable {P : Program} {w : World} {K : PySem.W.Frag} {mg : Str → Option Value} {base : Heap}
theorem ok_Desk_undo (M : En K mg) : FnOk P w K mg base (L2N.CX P w) 3 M.f_Desk_undo M.fd_Desk_undo ["self"] (spD K (sp_Desk_undo M.c_Desk M.c_NothingToUndo)) := by
  have G_Desk_check_free : FnOk P w K mg base CX0 2 M.f_Desk_check_free M.fd_Desk_check_free ["self"] (spD K (sp_Desk_check_free M.c_Desk)) := (ok_Desk_check_free M).mono (by decide)
  refine okX (N := n_Desk_undo) (k := 2) M.F_Desk_undo sc_Desk_undo (fun ds n Q X h => ?_) (fun cdv A outer s H E hr => ⟨_, (dss_cons (ds_expr (de_meth0 (pe_meth0 (pl := _) (de_var (pv 0)) M.C_Desk M.h_Desk_check_free G_Desk_check_free hr M.b_Desk_check_free .nil passD)))
      (dss_cons (ds_if (dt_k (og_eq hr.units) (de_b cg_len (by rfl) M.m_len (by decide +kernel) (da_cons (de_fld M.C_Desk M.n_Desk_steps (de_var (pv 0))) da_nil)) de_int (nomark _)) (dss_one (ds_raise0 rfl (L2N.takes_of rfl rfl rfl rfl) (pmk_ex0 M.q_NothingToUndo M.E_NothingToUndo M.g_NothingToUndo (by rfl)))) dss_nil)
      (dss_cons (ds_putF M.C_Desk M.n_Desk_text (de_var (pv 0)) (de_at ig (de_fld M.C_Desk M.n_Desk_earlier (de_var (pv 0))) (de_neg de_int) (fun _ _ => rfl)))
      (dss_cons (ds_putF M.C_Desk M.n_Desk_earlier (de_var (pv 0)) (de_cut sg (de_fld M.C_Desk M.n_Desk_earlier (de_var (pv 0))) do_none (do_some (de_neg de_int))))
      (dss_cons (ds_putF M.C_Desk M.n_Desk_steps (de_var (pv 0)) (de_cut sg (de_fld M.C_Desk M.n_Desk_steps (de_var (pv 0))) do_none (do_some (de_neg de_int))))
      (dss_one (ds_ret (de_b cg_len (by rfl) M.m_len (by decide +kernel) (da_cons (de_fld M.C_Desk M.n_Desk_steps (de_var (pv 0))) da_nil))))))))), fun ds n Q X h => ?_⟩)
  · skip
    unfold sp_Desk_undo at h
    repeat (first | (rw [h.1]; rfl; done) | (obtain ⟨_, h⟩ := h))
  · skip
    obtain ⟨a, dx, w, ws, es, ch, rfl, ho, l1, l2, x, q⟩ := h
    walk_at "ex"
    refine ⟨a, dx, _, rfl, ho, rfl, ?_⟩
    walk_at "ex"
    refine ⟨a, dx, w, ws, es, ch, rfl, ho, ?_⟩
    walk_at "ex"
    refine ⟨a, dx, _, _, rfl, ho, dk_steps, ?_⟩
    walk_at "ex"
    rw [List.length_map]
    refine x_ite (fun z => ?_) (fun z => ?_)
    · walk_at "ex"
      exact x (List.length_eq_zero_iff.mp (by omega))
    rcases List.eq_nil_or_concat es with rfl | ⟨es0, e0, rfl⟩
    · exact absurd rfl z
    rcases List.eq_nil_or_concat ws with rfl | ⟨ws0, w0, rfl⟩
    · rw [List.length_concat] at l2; cases l2
    rw [List.concat_eq_append, List.concat_eq_append] at ho
    have q := q ws0 w0 es0 e0 (List.concat_eq_append ..) (List.concat_eq_append ..)
    walk_at "ex"
    refine ⟨a, dx, _, _, rfl, ho, dk_earlier, ?_⟩
    walk_at "ex"
    refine x_atT (last_w ws0 w0) ?_
    walk_at "ex"
    refine ⟨a, dx, _, rfl, ho, (show 5 < 1000 by decide), rfl, ?_⟩
    rw [dk_sT]
    have u1 := Kw.Upd.put n a (dkO M.c_Desk dx w0 (ws0 ++ [w0]) (es0 ++ [e0]) ch)
    generalize Kw.put n a (dkO M.c_Desk dx w0 (ws0 ++ [w0]) (es0 ++ [e0]) ch) = n1 at u1 ⊢
    walk_at "ex"
    refine ⟨a, dx, _, _, rfl, u1.at_, dk_earlier, ?_⟩
    walk_at "ex"
    rw [show (ws0 ++ [w0]).map W = ws0.map W ++ [W w0] by rw [List.map_append]; rfl, cut_last]
    refine ⟨a, dx, _, rfl, u1.at_, (show 5 < 1000 by decide), nlA_words _, ?_⟩
    rw [dk_sE]
    have u2 := u1.trans (Kw.Upd.put n1 a (dkO M.c_Desk dx w0 ws0 (es0 ++ [e0]) ch))
    generalize Kw.put n1 a (dkO M.c_Desk dx w0 ws0 (es0 ++ [e0]) ch) = n2 at u2 ⊢
    walk_at "ex"
    refine ⟨a, dx, _, _, rfl, u2.at_, dk_steps, ?_⟩
    walk_at "ex"
    rw [show (es0 ++ [e0]).map edD = es0.map edD ++ [edD e0] by rw [List.map_append]; rfl, cut_last]
    refine ⟨a, dx, _, rfl, u2.at_, (show 5 < 1000 by decide), nlA_eds _, ?_⟩
    rw [dk_sS]
    have u3 := u2.trans (Kw.Upd.put n2 a (dkO M.c_Desk dx w0 ws0 es0 ch))
    generalize Kw.put n2 a (dkO M.c_Desk dx w0 ws0 es0 ch) = n3 at u3 ⊢
    walk_at "ex"
    refine ⟨a, dx, _, _, rfl, u3.at_, dk_steps, ?_⟩
    walk_at "ex"
    rw [List.length_map]
    exact q n3 u3
end
end Kp
namespace Kp
open PySem PySem.Spec PyProof.Rows L2 Kb Km Kd
def sp_do_one_word (C CP CB CT CL CM CN CW : Addr) : SpD := fun ds n Q X => ∃ (a dx : Addr) (s : Dst) (nm : List Nat), ds = [OBJ a, W nm] ∧ Kw.ob n a = some (s.ob C dx) ∧ s.Ok ∧ (∀ t s', oneA s nm = .ok (t, s') → ∀ n', Kw.Upd n a (s'.ob C dx) n' → Q (W t) n') ∧ (∀ e, oneA s nm = .error e → ecX ⟨CP, CB, CT, CL, CM, CN⟩ CW X n e)
abbrev n_do_one_word : List Str := ["desk", "name"]
theorem sc_do_one_word : FnScope n_do_one_word ["desk", "name"] (defScope s_do_one_word) := ⟨rfl, rfl, rfl, by decide +kernel, rfl, by decide +kernel, by decide +kernel⟩
section
variable {P : Program} {w : World} {K : PySem.W.Frag} {mg : Str → Option Value} {base : Heap}
theorem ok_do_one_word (M : En K mg) : FnOk P w K mg base (L2N.CX P w) 11 M.f_do_one_word M.fd_do_one_word ["desk", "name"] (spD K (sp_do_one_word M.c_Desk M.c_NoPlace M.c_BadLetter M.c_TooLong M.c_LastLetter M.c_TooManyEdits M.c_NothingToUndo M.c_BadWord)) := by
  have G_Desk_found : FnOk P w K mg base CX0 9 M.f_Desk_found M.fd_Desk_found ["self"] (spD K (sp_Desk_found M.c_Desk)) := (ok_Desk_found M).mono (by decide)
  have G_Desk_order : FnOk P w K mg base CX0 9 M.f_Desk_order M.fd_Desk_order ["self"] (spD K (sp_Desk_order M.c_Desk)) := (ok_Desk_order M).mono (by decide)
  have G_Desk_shrink : FnOk P w K mg base (L2N.CX P w) 10 M.f_Desk_shrink M.fd_Desk_shrink ["self"] (spD K (sp_Desk_shrink M.c_Desk M.c_NoPlace M.c_BadLetter M.c_TooLong M.c_LastLetter M.c_TooManyEdits)) := (ok_Desk_shrink M).mono (by decide)
  have G0_Desk_shrink := quiet G_Desk_shrink
  have G_Desk_undo : FnOk P w K mg base (L2N.CX P w) 10 M.f_Desk_undo M.fd_Desk_undo ["self"] (spD K (sp_Desk_undo M.c_Desk M.c_NothingToUndo)) := (ok_Desk_undo M).mono (by decide)
  have G0_Desk_undo := quiet G_Desk_undo
  have G_Desk_word : FnOk P w K mg base CX0 9 M.f_Desk_word M.fd_Desk_word ["self"] (spD K (sp_Desk_word M.c_Desk)) := (ok_Desk_word M).mono (by decide)
  have G_count_parts : FnOk P w K mg base CX0 10 M.f_count_parts M.fd_count_parts ["word"] (spD K sp_count_parts) := (ok_count_parts M).mono (by decide)
  have G_done : FnOk P w K mg base CX0 10 M.f_done M.fd_done ["version"] (spD K sp_done) := (ok_done M).mono (by decide)
  have G_factors : FnOk P w K mg base CX0 10 M.f_factors M.fd_factors ["word"] (spD K sp_factors) := (ok_factors M).mono (by decide)
  have G_order_text : FnOk P w K mg base CX0 10 M.f_order_text M.fd_order_text ["order"] (spD K sp_order_text) := (ok_order_text M).mono (by decide)
  have G_places_text : FnOk P w K mg base CX0 10 M.f_places_text M.fd_places_text ["places"] (spD K sp_places_text) := (ok_places_text M).mono (by decide)
  have G_word_text : FnOk P w K mg base CX0 10 M.f_word_text M.fd_word_text ["word"] (spD K sp_word_text) := (ok_word_text M).mono (by decide)
  refine okX (N := n_do_one_word) (k := 10) M.F_do_one_word sc_do_one_word (fun ds n Q X h => ?_) (fun cdv A outer s H E hr => ⟨_, (dss_cons (ds_if (dt_k (og_eq hr.units) (de_var (pv 1)) de_str (nomark _)) (dss_one (ds_ret (de_call G_done hr (by rfl) M.g_done M.F_done.kp M.b_done passD (da_cons (de_meth0 (pe_meth0 (pl := _) (de_var (pv 0)) M.C_Desk M.h_Desk_shrink G_Desk_shrink hr M.b_Desk_shrink .nil (passX (L2N.takes_of rfl rfl rfl rfl)))) da_nil)))) dss_nil)
      (dss_cons (ds_if (dt_k (og_eq hr.units) (de_var (pv 1)) de_str (nomark _)) (dss_one (ds_ret (de_call G_done hr (by rfl) M.g_done M.F_done.kp M.b_done passD (da_cons (de_meth0 (pe_meth0 (pl := _) (de_var (pv 0)) M.C_Desk M.h_Desk_undo G_Desk_undo hr M.b_Desk_undo .nil (passX (L2N.takes_of rfl rfl rfl rfl)))) da_nil)))) dss_nil)
      (dss_cons (ds_if (dt_k (og_eq hr.units) (de_var (pv 1)) de_str (nomark _)) (dss_one (ds_ret (de_call G_word_text hr (by rfl) M.g_word_text M.F_word_text.kp M.b_word_text passD (da_cons (de_prop M.C_Desk M.h_Desk_word G_Desk_word hr M.b_Desk_word (de_var (pv 0))) da_nil)))) dss_nil)
      (dss_cons (ds_if (dt_k (og_eq hr.units) (de_var (pv 1)) de_str (nomark _)) (dss_one (ds_ret (de_call G_order_text hr (by rfl) M.g_order_text M.F_order_text.kp M.b_order_text passD (da_cons (de_prop M.C_Desk M.h_Desk_order G_Desk_order hr M.b_Desk_order (de_var (pv 0))) da_nil)))) dss_nil)
      (dss_cons (ds_if (dt_k (og_eq hr.units) (de_var (pv 1)) de_str (nomark _)) (dss_one (ds_ret (de_call G_places_text hr (by rfl) M.g_places_text M.F_places_text.kp M.b_places_text passD (da_cons (de_orD (de_prop M.C_Desk M.h_Desk_found G_Desk_found hr M.b_Desk_found (de_var (pv 0))) (de_one (de_tup da_nil))) da_nil)))) dss_nil)
      (dss_cons (ds_if (dt_k (og_eq hr.units) (de_var (pv 1)) de_str (nomark _)) (dss_one (ds_ret (de_ty cg_str (by rfl) M.m_str (by decide +kernel) (da_cons (de_call G_count_parts hr (by rfl) M.g_count_parts M.F_count_parts.kp M.b_count_parts passD (da_cons (de_prop M.C_Desk M.h_Desk_word G_Desk_word hr M.b_Desk_word (de_var (pv 0))) da_nil)) da_nil)))) dss_nil)
      (dss_cons (ds_if (dt_k (og_eq hr.units) (de_var (pv 1)) de_str (nomark _)) (dss_one (ds_ret (de_ms PySem.F.slot_str_join PySem.F.type_str_join mg_join de_str (da_cons (de_call G_factors hr (by rfl) M.g_factors M.F_factors.kp M.b_factors passD (da_cons (de_prop M.C_Desk M.h_Desk_word G_Desk_word hr M.b_Desk_word (de_var (pv 0))) da_nil)) da_nil)))) dss_nil)
      (dss_one (ds_ret (de_c (v := .str _) (d := .str _) (pe_glob (by rfl) M.v_UNKNOWN ⟨_, rfl⟩) (fun _ _ _ => .str _ (by decide +kernel)))))))))))), fun ds n Q X h => ?_⟩)
  · skip
    unfold sp_do_one_word at h
    repeat (first | (rw [h.1]; rfl; done) | (obtain ⟨_, h⟩ := h))
  · skip
    obtain ⟨a, dx, s, nm, rfl, ho, hs, q, x⟩ := h
    have w1 := hs.w.1
    have w2 := hs.w.2.1
    have hn := hs.n
    walk_at "ex"
    refine x_nm shC rfl (fun c0 => ?_) (fun c0 => ?_)
    · subst c0
      walk_at "ex"
      refine ⟨a, dx, _, rfl, ho, rfl, ?_⟩
      walk_at "ex"
      refine ⟨a, dx, s.w, s.ws, s.es, patD s.p, M.c_NothingToUndo, rfl, ho, hs.w, hs.n, hs.l, trivial, fun y ok n' u => ?_, fun r no => x (.er r) ((oneA_shC s).trans (doE_n no))⟩
      walk_at "ex"
      exact ⟨s.es.length + 1, rfl, by omega, q _ _ ((oneA_shC s).trans (doE_y ok)) n' u⟩
    walk_at "ex"
    refine x_nm unC rfl (fun c1 => ?_) (fun c1 => ?_)
    · subst c1
      walk_at "ex"
      refine ⟨a, dx, _, rfl, ho, rfl, ?_⟩
      walk_at "ex"
      refine ⟨a, dx, s.w, s.ws, s.es, patD s.p, rfl, ho, by omega, hs.l, fun e => ?_, fun ws0 w0 es0 e0 e1 e2 n' u => ?_⟩
      · exact x (.er .none) ((oneA_unC s).trans (by unfold undoA; rw [if_pos e]))
      · walk_at "ex"
        refine ⟨es0.length, rfl, by rw [e2, List.length_append] at hn; omega, q _ s.undone ((oneA_unC s).trans ?_) n' ?_⟩
        · unfold undoA
          rw [if_neg (by rw [e2]; simp), e2, List.length_append, List.length_singleton, Nat.add_sub_cancel]
        · unfold Dst.ob Dst.undone
          rw [e1, e2]
          simpa using u
    walk_at "ex"
    refine x_nm wdW rfl (fun c2 => ?_) (fun c2 => ?_)
    · subst c2
      walk_at "ex"
      refine ⟨a, dx, _, rfl, ho, a, dx, s.w, s.ws, s.es, patD s.p, rfl, ho, ?_⟩
      walk_at "ex"
      exact ⟨s.w, rfl, by omega, q _ _ (oneA_wdW s) _ (.same ho)⟩
    walk_at "ex"
    refine x_nm orW rfl (fun c3 => ?_) (fun c3 => ?_)
    · subst c3
      walk_at "ex"
      refine ⟨a, dx, _, rfl, ho, a, dx, s.w, s.ws, s.es, patD s.p, rfl, ho, hs.w, ?_⟩
      walk_at "ex"
      exact ⟨tord s.w, rfl, by rw [tord_len]; omega, fun p hp => by have := (tord_ok s.w).ord.lt hp; rw [tord_len] at this; omega, q _ _ (oneA_orW s) _ (.same ho)⟩
    walk_at "ex"
    refine x_nm foC rfl (fun c4 => ?_) (fun c4 => ?_)
    · subst c4
      refine x_orD ?_
      walk_at "ex"
      refine ⟨a, dx, _, rfl, ho, a, dx, s.w, s.ws, s.es, s.p, rfl, ho, hs.w, ?_⟩
      have q := q _ _ (oneA_foC s) _ (.same ho)
      have pl : ∀ P, (plc s.w P).length ≤ 100 ∧ ∀ p ∈ plc s.w P, p ≤ 100 := fun P => ⟨by have := plc_len s.w P; omega, fun p hp => by have := List.mem_range.mp (List.mem_filter.mp hp).1; omega⟩
      generalize s.p = p at q
      cases p with
      | none =>
        refine ⟨(show ("NoneType" : String) ≠ "dict" by decide), ?_⟩
        rw [if_neg (show ¬ (truD (fndD s.w none) = true) from Bool.noConfusion)]
        walk_at "ex"
        exact ⟨[], rfl, Nat.zero_le _, fun p hp => (List.not_mem_nil hp).elim, q⟩
      | some P =>
        refine ⟨(show ("tuple" : String) ≠ "dict" by decide), ?_⟩
        obtain ⟨l1, l2⟩ := pl P
        have q : Q (W (plT (plc s.w P))) n := q
        rw [show fndD s.w (some P) = .tuple (plD (plc s.w P)) from rfl]
        generalize plc s.w P = r at q l1 l2
        cases r with
        | nil =>
          rw [if_neg (show ¬ (truD (.tuple (plD [])) = true) from Bool.noConfusion)]
          walk_at "ex"
          exact ⟨[], rfl, l1, l2, q⟩
        | cons a r =>
          rw [if_pos (tru_plD a r)]
          walk_at "ex"
          exact ⟨a :: r, rfl, l1, l2, q⟩
    walk_at "ex"
    refine x_nm paC rfl (fun c5 => ?_) (fun c5 => ?_)
    · subst c5
      walk_at "ex"
      refine ⟨a, dx, _, rfl, ho, a, dx, s.w, s.ws, s.es, patD s.p, rfl, ho, ?_⟩
      walk_at "ex"
      refine ⟨s.w, rfl, w1, w2, ?_⟩
      walk_at "ex"
      exact x_strM (Nat.lt_of_le_of_lt (parts_len w2) (by decide)) (q _ _ (oneA_paC s) _ (.same ho))
    walk_at "ex"
    refine x_nm faC rfl (fun c6 => ?_) (fun c6 => ?_)
    · subst c6
      walk_at "ex"
      refine ⟨a, dx, _, rfl, ho, a, dx, s.w, s.ws, s.es, patD s.p, rfl, ho, ?_⟩
      walk_at "ex"
      refine ⟨s.w, rfl, w1, by omega, ?_⟩
      walk_at "ex"
      exact x_joinBT (by rw [lcut_flat]; have := lcut_len s.w; omega) (q _ _ (oneA_faC s) _ (.same ho))
    walk_at "ex"
    exact q unkW s (oneA_no c0 c1 c2 c3 c4 c5 c6) _ (.same ho)
end
end Kp
namespace Kp
open PySem PySem.Spec PyProof.Rows L2 Kb Km Kd
def sp_check_word (C : Addr) : SpD := fun ds n Q X => ∃ d : PyData, ds = [d] ∧ Fit d ∧ (werr d = .none → Q .none n) ∧ (isNoneD (werr d) = false → X (.ref C) [(Str.ofString "error", werr d)] n)
abbrev n_check_word : List Str := ["value", "error"]
theorem sc_check_word : FnScope n_check_word ["value"] (defScope s_check_word) := ⟨rfl, rfl, rfl, by decide +kernel, rfl, by decide +kernel, by decide +kernel⟩
section
variable {P : Program} {w : World} {K : PySem.W.Frag} {mg : Str → Option Value} {base : Heap}
theorem ok_check_word (M : En K mg) : FnOk P w K mg base (L2N.CX P w) 3 M.f_check_word M.fd_check_word ["value"] (spD K (sp_check_word M.c_BadWord)) := by
  have G_word_error : FnOk P w K mg base CX0 2 M.f_word_error M.fd_word_error ["value"] (spD K sp_word_error) := (ok_word_error M).mono (by decide)
  refine okX (N := n_check_word) (k := 2) M.F_check_word sc_check_word (fun ds n Q X h => ?_) (fun cdv A outer s H E hr => ⟨_, (dss_cons (ds_set (i := 1) sc_check_word.nd rfl (.inl rfl) (de_call G_word_error hr (by rfl) M.g_word_error M.F_word_error.kp M.b_word_error passD (da_cons (de_var (pv 0)) da_nil)))
      (dss_one (ds_if (dt_k og_isnot (de_var (pv 1)) de_non (nomark _)) (dss_one (ds_raise rfl (L2N.takes_of rfl rfl rfl rfl) (pmk_ex1 M.E_BadWord M.no_BadWord M.ii_BadWord M.ti_BadWord (ok_ini_BadWord M) (hr.mono (by decide)) M.bi_BadWord (by rfl) M.g_BadWord (da_cons (de_var (pv 1)) da_nil)))) dss_nil))), fun ds n Q X h => ?_⟩)
  · skip
    unfold sp_check_word at h
    repeat (first | (rw [h.1]; rfl; done) | (obtain ⟨_, h⟩ := h))
  · skip
    obtain ⟨d, rfl, ⟨f1, f2⟩, q, x⟩ := h
    walk_at "ex"
    refine ⟨d, rfl, f1, f2, ?_⟩
    walk_at "ex"
    cases c : isNoneD (werr d) with
    | true =>
      walk_at "ex"
      exact q (by cases e : werr d <;> first | rfl | (rw [e] at c; cases c))
    | false =>
      walk_at "ex"
      exact x c
end
end Kp
namespace Kp
open PySem PySem.Spec PyProof.Rows L2 Kb Km Kd
def sp_Desk_pattern_set (C CW : Addr) : SpD := fun ds n Q X => ∃ (a dx : Addr) (w : List Nat) (ws : List (List Nat)) (es : List Ed) (ch v : PyData), ds = [OBJ a, v] ∧ Kw.ob n a = some (dkO C dx w ws es ch) ∧ Fit v ∧ (∀ p, okPat p → v = patD p → ∀ n', Kw.Upd n a (dkO C dx w ws es v) n' → Q .none n') ∧ (isNoneD v = false → isNoneD (werr v) = false → X (.ref CW) [(Str.ofString "error", werr v)] n)
abbrev n_Desk_pattern_set : List Str := ["self", "value"]
theorem sc_Desk_pattern_set : FnScope n_Desk_pattern_set ["self", "value"] (defScope s_Desk_pattern_set) := ⟨rfl, rfl, rfl, by decide +kernel, rfl, by decide +kernel, by decide +kernel⟩
section
variable {P : Program} {w : World} {K : PySem.W.Frag} {mg : Str → Option Value} {base : Heap}
theorem ok_Desk_pattern_set (M : En K mg) : FnOk P w K mg base (L2N.CX P w) 4 M.f_Desk_pattern_set M.fd_Desk_pattern_set ["self", "value"] (spD K (sp_Desk_pattern_set M.c_Desk M.c_BadWord)) := by
  have G_check_word : FnOk P w K mg base (L2N.CX P w) 3 M.f_check_word M.fd_check_word ["value"] (spD K (sp_check_word M.c_BadWord)) := (ok_check_word M).mono (by decide)
  have G0_check_word := quiet G_check_word
  refine okX (N := n_Desk_pattern_set) (k := 3) M.F_Desk_pattern_set sc_Desk_pattern_set (fun ds n Q X h => ?_) (fun cdv A outer s H E hr => ⟨_, (dss_cut (ds_if (dt_k og_isnot (de_var (pv 1)) de_non (nomark _)) (dss_one (ds_expr (de_call G_check_word hr (by rfl) M.g_check_word M.F_check_word.kp M.b_check_word (passX (L2N.takes_of rfl rfl rfl rfl)) (da_cons (de_var (pv 1)) da_nil)))) dss_nil)
      (dss_one (ds_putF M.C_Desk M.n_Desk_chosen (de_var (pv 0)) (de_var (pv 1))))), fun ds n Q X h => ?_⟩)
  · skip
    unfold sp_Desk_pattern_set at h
    repeat (first | (rw [h.1]; rfl; done) | (obtain ⟨_, h⟩ := h))
  · skip
    obtain ⟨a, dx, w, ws, es, ch, v, rfl, ho, fv, q, x⟩ := h
    refine cutI (fun ρ k => k = n ∧ (∃ p, okPat p ∧ v = patD p) ∧ ρ = [.d (OBJ a), .d v]) ?_ (fun ρ k ⟨e1, ⟨p, hp, ev⟩, e2⟩ => ?_)
    · walk_at "ex"
      cases c : isNoneD v with
      | true =>
        walk_at "ex"
        exact ⟨⟨none, (fun P e => by cases e), (by cases v <;> first | rfl | cases c)⟩, rfl⟩
      | false =>
        walk_at "ex"
        refine ⟨v, rfl, fv, fun e => ?_, fun e => x c e⟩
        walk_at "ex"
        obtain ⟨P, hP, rfl⟩ := werr_some (d := v) (by rw [e]; rfl)
        exact ⟨⟨some P, fun P' e => by cases e; exact hP, rfl⟩, rfl⟩
    · subst e1
      subst e2
      walk_at "ex"
      subst ev
      refine ⟨a, dx, _, rfl, ho, (show 5 < 1000 by decide), nl_pat p, ?_⟩
      rw [dk_sC]
      exact q p hp rfl _ (Kw.Upd.put _ _ _)
end
end Kp
namespace Kp
open PySem PySem.Spec PyProof.Rows L2 Kb Km Kd
def sp_Desk_look (C CW : Addr) : SpD := fun ds n Q X => ∃ (a dx : Addr) (w : List Nat) (ws : List (List Nat)) (es : List Ed) (ch v : PyData), ds = [OBJ a, v] ∧ Kw.ob n a = some (dkO C dx w ws es ch) ∧ Wd24 w ∧ Fit v ∧ (∀ p, okPat p → v = patD p → ∀ n', Kw.Upd n a (dkO C dx w ws es v) n' → Q (fndD w p) n') ∧ (isNoneD v = false → isNoneD (werr v) = false → X (.ref CW) [(Str.ofString "error", werr v)] n)
abbrev n_Desk_look : List Str := ["self", "value"]
theorem sc_Desk_look : FnScope n_Desk_look ["self", "value"] (defScope s_Desk_look) := ⟨rfl, rfl, rfl, by decide +kernel, rfl, by decide +kernel, by decide +kernel⟩
section
variable {P : Program} {w : World} {K : PySem.W.Frag} {mg : Str → Option Value} {base : Heap}
theorem ok_Desk_look (M : En K mg) : FnOk P w K mg base (L2N.CX P w) 7 M.f_Desk_look M.fd_Desk_look ["self", "value"] (spD K (sp_Desk_look M.c_Desk M.c_BadWord)) := by
  have G_Desk_found : FnOk P w K mg base CX0 5 M.f_Desk_found M.fd_Desk_found ["self"] (spD K (sp_Desk_found M.c_Desk)) := (ok_Desk_found M).mono (by decide)
  have G_Desk_pattern_set : FnOk P w K mg base (L2N.CX P w) 4 M.f_Desk_pattern_set M.fd_Desk_pattern_set ["self", "value"] (spD K (sp_Desk_pattern_set M.c_Desk M.c_BadWord)) := (ok_Desk_pattern_set M).mono (by decide)
  have G0_Desk_pattern_set := quiet G_Desk_pattern_set
  refine okX (N := n_Desk_look) (k := 6) M.F_Desk_look sc_Desk_look (fun ds n Q X h => ?_) (fun cdv A outer s H E hr => ⟨_, (dss_cons (ds_setP M.C_Desk M.h_Desk_pattern_set G_Desk_pattern_set hr M.b_Desk_pattern_set (passX (L2N.takes_of rfl rfl rfl rfl)) (de_var (pv 0)) (de_var (pv 1)))
      (dss_one (ds_ret (de_prop M.C_Desk M.h_Desk_found G_Desk_found hr M.b_Desk_found (de_var (pv 0)))))), fun ds n Q X h => ?_⟩)
  · skip
    unfold sp_Desk_look at h
    repeat (first | (rw [h.1]; rfl; done) | (obtain ⟨_, h⟩ := h))
  · skip
    obtain ⟨a, dx, w, ws, es, ch, v, rfl, ho, hw, fv, q, x⟩ := h
    walk_at "ex"
    refine ⟨a, dx, _, rfl, ho, a, dx, w, ws, es, ch, v, rfl, ho, fv, fun p hp e n' u => ?_, x⟩
    subst e
    walk_at "ex"
    exact ⟨a, dx, _, rfl, u.at_, a, dx, w, ws, es, p, rfl, u.at_, hw, q p hp rfl n' u⟩
end
end Kp
namespace Kp
open PySem PySem.Spec PyProof.Rows L2 Kb Km Kd
def sp_Desk_grow (C CP CB CT CL CM : Addr) : SpD := fun ds n Q X => ∃ (a dx : Addr) (w : List Nat) (ws : List (List Nat)) (es : List Ed) (ch : PyData) (l : PyData) (cn : Addr), ds = [OBJ a, l] ∧ Kw.ob n a = some (dkO C dx w ws es ch) ∧ Wd24 w ∧ es.length ≤ 60 ∧ ws.length = es.length ∧ egFit (.gr l) ∧ (∀ x, egAns w es.length (.gr l) = .ok x → ∀ n', Kw.Upd n a (dkO C dx (edW w x) (ws ++ [w]) (es ++ [x]) ch) n' → Q (.int ((es.length + 1 : Nat) : Int)) n') ∧ (∀ r, egAns w es.length (.gr l) = .error r → erX ⟨CP, CB, CT, CL, CM, cn⟩ X n r)
abbrev n_Desk_grow : List Str := ["self", "letter"]
theorem sc_Desk_grow : FnScope n_Desk_grow ["self", "letter"] (defScope s_Desk_grow) := ⟨rfl, rfl, rfl, by decide +kernel, rfl, by decide +kernel, by decide +kernel⟩
section
variable {P : Program} {w : World} {K : PySem.W.Frag} {mg : Str → Option Value} {base : Heap}
theorem ok_Desk_grow (M : En K mg) : FnOk P w K mg base (L2N.CX P w) 9 M.f_Desk_grow M.fd_Desk_grow ["self", "letter"] (spD K (sp_Desk_grow M.c_Desk M.c_NoPlace M.c_BadLetter M.c_TooLong M.c_LastLetter M.c_TooManyEdits)) := by
  have G_Desk_do_alone : FnOk P w K mg base (L2N.CX P w) 8 M.f_Desk_do_alone M.fd_Desk_do_alone ["self", "edit"] (spD K (sp_Desk_do_alone M.c_Desk M.c_NoPlace M.c_BadLetter M.c_TooLong M.c_LastLetter M.c_TooManyEdits)) := (ok_Desk_do_alone M).mono (by decide)
  have G0_Desk_do_alone := quiet G_Desk_do_alone
  refine okX (N := n_Desk_grow) (k := 8) M.F_Desk_grow sc_Desk_grow (fun ds n Q X h => ?_) (fun cdv A outer s H E hr => ⟨_, (dss_one (ds_ret (de_meth (pe_meth (pl := _) (de_var (pv 0)) M.C_Desk M.h_Desk_do_alone G_Desk_do_alone hr M.b_Desk_do_alone .nil (passX (L2N.takes_of rfl rfl rfl rfl)) (da_cons (de_tup (da_cons de_str (da_cons (de_var (pv 1)) da_nil))) da_nil))))), fun ds n Q X h => ?_⟩)
  · skip
    unfold sp_Desk_grow at h
    repeat (first | (rw [h.1]; rfl; done) | (obtain ⟨_, h⟩ := h))
  · skip
    obtain ⟨a, dx, w, ws, es, ch, l, cn, rfl, ho, hw, l1, l2, he, q, x⟩ := h
    walk_at "ex"
    refine ⟨a, dx, _, rfl, ho, rfl, ?_⟩
    walk_at "ex"
    exact ⟨a, dx, w, ws, es, ch, (.gr l), cn, rfl, ho, hw, l1, l2, he, q, x⟩
end
end Kp
namespace Kp
open PySem PySem.Spec PyProof.Rows L2 Kb Km Kd
def sp_Desk_rank_of (C CP : Addr) : SpD := fun ds n Q X => ∃ (a dx : Addr) (w : List Nat) (ws : List (List Nat)) (es : List Ed) (ch : PyData) (v : PyData), ds = [OBJ a, v] ∧ Kw.ob n a = some (dkO C dx w ws es ch) ∧ Wd24 w ∧ isStm v = false ∧ (inB 0 w.length v = false → X (.ref CP) [(Str.ofString "value", v)] n) ∧ (∀ k : Nat, k < w.length → v = .int (k : Nat) → Q (.int (cnt w k : Nat)) n)
abbrev n_Desk_rank_of : List Str := ["self", "place"]
theorem sc_Desk_rank_of : FnScope n_Desk_rank_of ["self", "place"] (defScope s_Desk_rank_of) := ⟨rfl, rfl, rfl, by decide +kernel, rfl, by decide +kernel, by decide +kernel⟩
section
variable {P : Program} {w : World} {K : PySem.W.Frag} {mg : Str → Option Value} {base : Heap}
theorem ok_Desk_rank_of (M : En K mg) : FnOk P w K mg base (L2N.CX P w) 4 M.f_Desk_rank_of M.fd_Desk_rank_of ["self", "place"] (spD K (sp_Desk_rank_of M.c_Desk M.c_NoPlace)) := by
  have G_check_place : FnOk P w K mg base (L2N.CX P w) 3 M.f_check_place M.fd_check_place ["value", "many"] (spD K (sp_check_place M.c_NoPlace)) := (ok_check_place M).mono (by decide)
  have G0_check_place := quiet G_check_place
  have G_tail_ranks : FnOk P w K mg base CX0 3 M.f_tail_ranks M.fd_tail_ranks ["word"] (spD K sp_tail_ranks) := (ok_tail_ranks M).mono (by decide)
  refine okX (N := n_Desk_rank_of) (k := 3) M.F_Desk_rank_of sc_Desk_rank_of (fun ds n Q X h => ?_) (fun cdv A outer s H E hr => ⟨_, (dss_cons (ds_expr (de_call G_check_place hr (by rfl) M.g_check_place M.F_check_place.kp M.b_check_place (passX (L2N.takes_of rfl rfl rfl rfl)) (da_cons (de_var (pv 1)) (da_cons (de_b cg_len (by rfl) M.m_len (by decide +kernel) (da_cons (de_fld M.C_Desk M.n_Desk_text (de_var (pv 0))) da_nil)) da_nil))))
      (dss_one (ds_ret (de_at ig (de_call G_tail_ranks hr (by rfl) M.g_tail_ranks M.F_tail_ranks.kp M.b_tail_ranks passD (da_cons (de_fld M.C_Desk M.n_Desk_text (de_var (pv 0))) da_nil)) (de_var (pv 1)) (fun _ _ => rfl))))), fun ds n Q X h => ?_⟩)
  · skip
    unfold sp_Desk_rank_of at h
    repeat (first | (rw [h.1]; rfl; done) | (obtain ⟨_, h⟩ := h))
  · skip
    obtain ⟨a, dx, w, ws, es, ch, v, rfl, ho, hw, sv, x, q⟩ := h
    walk_at "ex"
    refine ⟨a, dx, _, _, rfl, ho, dk_text, ?_⟩
    walk_at "ex"
    refine ⟨v, _, rfl, sv, x, fun c => ?_⟩
    obtain ⟨i, rfl⟩ : ∃ i, v = .int i := by cases v <;> first | exact ⟨_, rfl⟩ | cases c
    have c : 0 ≤ i ∧ i < w.length := of_decide_eq_true c
    obtain ⟨k, rfl⟩ : ∃ k : Nat, i = k := ⟨i.toNat, by omega⟩
    have hk : k < w.length := by omega
    walk_at "ex"
    refine ⟨a, dx, _, _, rfl, ho, dk_text, ?_⟩
    walk_at "ex"
    refine ⟨w, rfl, by have := hw.2.1; omega, ?_⟩
    walk_at "ex"
    refine x_atT (show atI (plD ((List.range w.length).map (cnt w))) (k : Int) = some (.int (cnt w k : Nat)) from at_first (f := fun p : Nat => PyData.int p) (by rw [List.getElem?_map, List.getElem?_range hk]; rfl)) ?_
    exact q k hk rfl
end
end Kp
namespace Kp
open PySem PySem.Spec PyProof.Rows L2 Kb Km Kd
def sp_do_two_words (C CP CB CT CL CM CN CW : Addr) : SpD := fun ds n Q X => ∃ (a dx : Addr) (s : Dst) (nm v : List Nat), ds = [OBJ a, W nm, W v] ∧ Kw.ob n a = some (s.ob C dx) ∧ s.Ok ∧ v.length ≤ 1000 ∧ (∀ t s', twoA s nm v = .ok (t, s') → ∀ n', Kw.Upd n a (s'.ob C dx) n' → Q (W t) n') ∧ (∀ e, twoA s nm v = .error e → ecX ⟨CP, CB, CT, CL, CM, CN⟩ CW X n e)
abbrev n_do_two_words : List Str := ["desk", "name", "value"]
theorem sc_do_two_words : FnScope n_do_two_words ["desk", "name", "value"] (defScope s_do_two_words) := ⟨rfl, rfl, rfl, by decide +kernel, rfl, by decide +kernel, by decide +kernel⟩
section
variable {P : Program} {w : World} {K : PySem.W.Frag} {mg : Str → Option Value} {base : Heap}
theorem ok_do_two_words (M : En K mg) : FnOk P w K mg base (L2N.CX P w) 10 M.f_do_two_words M.fd_do_two_words ["desk", "name", "value"] (spD K (sp_do_two_words M.c_Desk M.c_NoPlace M.c_BadLetter M.c_TooLong M.c_LastLetter M.c_TooManyEdits M.c_NothingToUndo M.c_BadWord)) := by
  have G_Desk_grow : FnOk P w K mg base (L2N.CX P w) 9 M.f_Desk_grow M.fd_Desk_grow ["self", "letter"] (spD K (sp_Desk_grow M.c_Desk M.c_NoPlace M.c_BadLetter M.c_TooLong M.c_LastLetter M.c_TooManyEdits)) := (ok_Desk_grow M).mono (by decide)
  have G0_Desk_grow := quiet G_Desk_grow
  have G_Desk_look : FnOk P w K mg base (L2N.CX P w) 9 M.f_Desk_look M.fd_Desk_look ["self", "value"] (spD K (sp_Desk_look M.c_Desk M.c_BadWord)) := (ok_Desk_look M).mono (by decide)
  have G0_Desk_look := quiet G_Desk_look
  have G_Desk_rank_of : FnOk P w K mg base (L2N.CX P w) 9 M.f_Desk_rank_of M.fd_Desk_rank_of ["self", "place"] (spD K (sp_Desk_rank_of M.c_Desk M.c_NoPlace)) := (ok_Desk_rank_of M).mono (by decide)
  have G0_Desk_rank_of := quiet G_Desk_rank_of
  have G_done : FnOk P w K mg base CX0 9 M.f_done M.fd_done ["version"] (spD K sp_done) := (ok_done M).mono (by decide)
  have G_is_number : FnOk P w K mg base CX0 9 M.f_is_number M.fd_is_number ["text", "many"] (spD K sp_is_number) := (ok_is_number M).mono (by decide)
  have G_places_text : FnOk P w K mg base CX0 9 M.f_places_text M.fd_places_text ["places"] (spD K sp_places_text) := (ok_places_text M).mono (by decide)
  refine okX (N := n_do_two_words) (k := 9) M.F_do_two_words sc_do_two_words (fun ds n Q X h => ?_) (fun cdv A outer s H E hr => ⟨_, (dss_cons (ds_if (dt_k (og_eq hr.units) (de_var (pv 1)) de_str (nomark _)) (dss_one (ds_ret (de_call G_done hr (by rfl) M.g_done M.F_done.kp M.b_done passD (da_cons (de_meth (pe_meth (pl := _) (de_var (pv 0)) M.C_Desk M.h_Desk_grow G_Desk_grow hr M.b_Desk_grow .nil (passX (L2N.takes_of rfl rfl rfl rfl)) (da_cons (de_var (pv 2)) da_nil))) da_nil)))) dss_nil)
      (dss_cons (ds_if (dt_k (og_eq hr.units) (de_var (pv 1)) de_str (nomark _)) (dss_one (ds_ret (de_call G_places_text hr (by rfl) M.g_places_text M.F_places_text.kp M.b_places_text passD (da_cons (de_meth (pe_meth (pl := _) (de_var (pv 0)) M.C_Desk M.h_Desk_look G_Desk_look hr M.b_Desk_look .nil (passX (L2N.takes_of rfl rfl rfl rfl)) (da_cons (de_var (pv 2)) da_nil))) da_nil)))) dss_nil)
      (dss_cons (ds_if (dt_w (dw_and (dt_k (og_eq hr.units) (de_var (pv 1)) de_str (nomark _)) (dw_and1 (dt_val (de_call G_is_number hr (by rfl) M.g_is_number M.F_is_number.kp M.b_is_number passD (da_cons (de_var (pv 2)) (da_cons (de_c (v := .int _) (d := .int _) (pe_glob (by rfl) M.v_NUMBERS ⟨_, rfl⟩) (fun _ _ _ => .int _)) da_nil))))))) (dss_one (ds_ret (de_ty cg_str (by rfl) M.m_str (by decide +kernel) (da_cons (de_meth (pe_meth (pl := _) (de_var (pv 0)) M.C_Desk M.h_Desk_rank_of G_Desk_rank_of hr M.b_Desk_rank_of .nil (passX (L2N.takes_of rfl rfl rfl rfl)) (da_cons (de_ty cg_intS (by rfl) M.m_int (by decide +kernel) (da_cons (de_var (pv 2)) da_nil)) da_nil))) da_nil)))) dss_nil)
      (dss_one (ds_ret (de_c (v := .str _) (d := .str _) (pe_glob (by rfl) M.v_UNKNOWN ⟨_, rfl⟩) (fun _ _ _ => .str _ (by decide +kernel)))))))), fun ds n Q X h => ?_⟩)
  · skip
    unfold sp_do_two_words at h
    repeat (first | (rw [h.1]; rfl; done) | (obtain ⟨_, h⟩ := h))
  · skip
    obtain ⟨a, dx, s, nm, v, rfl, ho, hs, hv, q, x⟩ := h
    have w1 := hs.w.1
    have w2 := hs.w.2.1
    have hn := hs.n
    walk_at "ex"
    refine x_nm grC rfl (fun c0 => ?_) (fun c0 => ?_)
    · subst c0
      walk_at "ex"
      refine ⟨a, dx, _, rfl, ho, rfl, ?_⟩
      walk_at "ex"
      refine ⟨a, dx, s.w, s.ws, s.es, patD s.p, W v, M.c_NothingToUndo, rfl, ho, hs.w, hs.n, hs.l, fit_W hv, fun y ok n' u => ?_, fun r no => x (.er r) ((twoA_grC s v).trans (doE_n no))⟩
      walk_at "ex"
      exact ⟨s.es.length + 1, rfl, by omega, q _ _ ((twoA_grC s v).trans (doE_y ok)) n' u⟩
    walk_at "ex"
    refine x_nm lkC rfl (fun c1 => ?_) (fun c1 => ?_)
    · subst c1
      walk_at "ex"
      refine ⟨a, dx, _, rfl, ho, rfl, ?_⟩
      walk_at "ex"
      refine ⟨a, dx, s.w, s.ws, s.es, patD s.p, W v, rfl, ho, hs.w, fit_W hv, fun p hp e n' u => ?_, fun e1 e2 => ?_⟩
      · cases p with
        | none => cases e
        | some P =>
          have e := W_inj e
          subst e
          walk_at "ex"
          refine ⟨plc s.w v, rfl, by have := plc_len s.w v; omega, fun p hp => by have := List.mem_range.mp (List.mem_filter.mp hp).1; omega, ?_⟩
          refine q _ ⟨s.w, s.ws, s.es, some v⟩ ((twoA_lkC s v).trans ?_) n' u
          unfold lookA
          rw [if_pos (by rw [werr_word (hp v rfl)]; rfl)]
          rfl
      · exact x (.word _) ((twoA_lkC s v).trans (by unfold lookA; rw [if_neg (by rw [e2]; exact Bool.noConfusion)]))
    walk_at "ex"
    refine x_nm rkC rfl (fun c2 => ?_) (fun c2 => ?_)
    · subst c2
      walk_at "ex"
      refine ⟨v, 1000, rfl, Nat.le_refl _, isN v, rfl, ?_⟩
      by_cases c : isN v = true
      · rw [if_pos c]
        walk_at "ex"
        refine ⟨a, dx, _, rfl, ho, rfl, ?_⟩
        walk_at "ex"
        refine x_intV c ?_
        walk_at "ex"
        refine ⟨a, dx, s.w, s.ws, s.es, patD s.p, .int (valN v : Nat), rfl, ho, hs.w, rfl, fun e => ?_, fun k hk ek => ?_⟩
        · have e : ¬ (0 ≤ ((valN v : Nat) : Int) ∧ ((valN v : Nat) : Int) < (s.w.length : Nat)) := of_decide_eq_false e
          exact x (.er (.place _)) ((twoA_rkC s v).trans (by unfold rankA; rw [if_pos c, if_neg (by omega)]))
        · injection ek with ek
          have ek : valN v = k := by omega
          subst ek
          walk_at "ex"
          refine x_strM (show cnt s.w (valN v) < 1000 from ?_) (q _ _ ((twoA_rkC s v).trans (by unfold rankA; rw [if_pos c, if_pos hk])) _ (.same ho))
          have := cnt_lt hk
          omega
      · rw [if_neg c]
        walk_at "ex"
        exact q unkW s ((twoA_rkC s v).trans (by unfold rankA; rw [if_neg c]; rfl)) _ (.same ho)
    walk_at "ex"
    exact q unkW s (twoA_no c0 c1 c2) _ (.same ho)
end
end Kp
namespace Kp
open PySem PySem.Spec PyProof.Rows L2 Kb Km Kd
def sp_Desk_change (C CP CB CT CL CM : Addr) : SpD := fun ds n Q X => ∃ (a dx : Addr) (w : List Nat) (ws : List (List Nat)) (es : List Ed) (ch : PyData) (p l : PyData) (cn : Addr), ds = [OBJ a, p, l] ∧ Kw.ob n a = some (dkO C dx w ws es ch) ∧ Wd24 w ∧ es.length ≤ 60 ∧ ws.length = es.length ∧ egFit (.ch p l) ∧ (∀ x, egAns w es.length (.ch p l) = .ok x → ∀ n', Kw.Upd n a (dkO C dx (edW w x) (ws ++ [w]) (es ++ [x]) ch) n' → Q (.int ((es.length + 1 : Nat) : Int)) n') ∧ (∀ r, egAns w es.length (.ch p l) = .error r → erX ⟨CP, CB, CT, CL, CM, cn⟩ X n r)
abbrev n_Desk_change : List Str := ["self", "place", "letter"]
theorem sc_Desk_change : FnScope n_Desk_change ["self", "place", "letter"] (defScope s_Desk_change) := ⟨rfl, rfl, rfl, by decide +kernel, rfl, by decide +kernel, by decide +kernel⟩
section
variable {P : Program} {w : World} {K : PySem.W.Frag} {mg : Str → Option Value} {base : Heap}
theorem ok_Desk_change (M : En K mg) : FnOk P w K mg base (L2N.CX P w) 9 M.f_Desk_change M.fd_Desk_change ["self", "place", "letter"] (spD K (sp_Desk_change M.c_Desk M.c_NoPlace M.c_BadLetter M.c_TooLong M.c_LastLetter M.c_TooManyEdits)) := by
  have G_Desk_do_alone : FnOk P w K mg base (L2N.CX P w) 8 M.f_Desk_do_alone M.fd_Desk_do_alone ["self", "edit"] (spD K (sp_Desk_do_alone M.c_Desk M.c_NoPlace M.c_BadLetter M.c_TooLong M.c_LastLetter M.c_TooManyEdits)) := (ok_Desk_do_alone M).mono (by decide)
  have G0_Desk_do_alone := quiet G_Desk_do_alone
  refine okX (N := n_Desk_change) (k := 8) M.F_Desk_change sc_Desk_change (fun ds n Q X h => ?_) (fun cdv A outer s H E hr => ⟨_, (dss_one (ds_ret (de_meth (pe_meth (pl := _) (de_var (pv 0)) M.C_Desk M.h_Desk_do_alone G_Desk_do_alone hr M.b_Desk_do_alone .nil (passX (L2N.takes_of rfl rfl rfl rfl)) (da_cons (de_tup (da_cons de_str (da_cons (de_var (pv 1)) (da_cons (de_var (pv 2)) da_nil)))) da_nil))))), fun ds n Q X h => ?_⟩)
  · skip
    unfold sp_Desk_change at h
    repeat (first | (rw [h.1]; rfl; done) | (obtain ⟨_, h⟩ := h))
  · skip
    obtain ⟨a, dx, w, ws, es, ch, p, l, cn, rfl, ho, hw, l1, l2, he, q, x⟩ := h
    walk_at "ex"
    refine ⟨a, dx, _, rfl, ho, rfl, ?_⟩
    walk_at "ex"
    exact ⟨a, dx, w, ws, es, ch, (.ch p l), cn, rfl, ho, hw, l1, l2, he, q, x⟩
end
end Kp
namespace Kp
open PySem PySem.Spec PyProof.Rows L2 Kb Km Kd
def sp_do_command (C CP CB CT CL CM CN CW : Addr) : SpD := fun ds n Q X => ∃ (a dx : Addr) (s : Dst) (l : List (List Nat)), ds = [OBJ a, .list (l.map W)] ∧ Kw.ob n a = some (s.ob C dx) ∧ s.Ok ∧ 0 < l.length ∧ l.length ≤ 1001 ∧ (∀ v ∈ l, v.length ≤ 1000) ∧ (∀ t s', comA s l = .ok (t, s') → ∀ n', Kw.Upd n a (s'.ob C dx) n' → Q (W t) n') ∧ (∀ e, comA s l = .error e → ecX ⟨CP, CB, CT, CL, CM, CN⟩ CW X n e)
abbrev n_do_command : List Str := ["desk", "words", "name"]
theorem sc_do_command : FnScope n_do_command ["desk", "words"] (defScope s_do_command) := ⟨rfl, rfl, rfl, by decide +kernel, rfl, by decide +kernel, by decide +kernel⟩
section
variable {P : Program} {w : World} {K : PySem.W.Frag} {mg : Str → Option Value} {base : Heap}
theorem ok_do_command (M : En K mg) : FnOk P w K mg base (L2N.CX P w) 12 M.f_do_command M.fd_do_command ["desk", "words"] (spD K (sp_do_command M.c_Desk M.c_NoPlace M.c_BadLetter M.c_TooLong M.c_LastLetter M.c_TooManyEdits M.c_NothingToUndo M.c_BadWord)) := by
  have G_Desk_change : FnOk P w K mg base (L2N.CX P w) 11 M.f_Desk_change M.fd_Desk_change ["self", "place", "letter"] (spD K (sp_Desk_change M.c_Desk M.c_NoPlace M.c_BadLetter M.c_TooLong M.c_LastLetter M.c_TooManyEdits)) := (ok_Desk_change M).mono (by decide)
  have G0_Desk_change := quiet G_Desk_change
  have G_do_one_word : FnOk P w K mg base (L2N.CX P w) 11 M.f_do_one_word M.fd_do_one_word ["desk", "name"] (spD K (sp_do_one_word M.c_Desk M.c_NoPlace M.c_BadLetter M.c_TooLong M.c_LastLetter M.c_TooManyEdits M.c_NothingToUndo M.c_BadWord)) := (ok_do_one_word M).mono (by decide)
  have G0_do_one_word := quiet G_do_one_word
  have G_do_two_words : FnOk P w K mg base (L2N.CX P w) 11 M.f_do_two_words M.fd_do_two_words ["desk", "name", "value"] (spD K (sp_do_two_words M.c_Desk M.c_NoPlace M.c_BadLetter M.c_TooLong M.c_LastLetter M.c_TooManyEdits M.c_NothingToUndo M.c_BadWord)) := (ok_do_two_words M).mono (by decide)
  have G0_do_two_words := quiet G_do_two_words
  have G_done : FnOk P w K mg base CX0 11 M.f_done M.fd_done ["version"] (spD K sp_done) := (ok_done M).mono (by decide)
  have G_is_number : FnOk P w K mg base CX0 11 M.f_is_number M.fd_is_number ["text", "many"] (spD K sp_is_number) := (ok_is_number M).mono (by decide)
  refine okX (N := n_do_command) (k := 11) M.F_do_command sc_do_command (fun ds n Q X h => ?_) (fun cdv A outer s H E hr => ⟨_, (dss_cons (ds_set (i := 2) sc_do_command.nd rfl (.inl rfl) (de_at ig (de_var (pv 1)) de_int (fun _ _ => rfl)))
      (dss_cons (ds_if (dt_k og_in de_str (de_var (pv 1)) (by rfl)) (dss_one (ds_ret (de_c (v := .str _) (d := .str _) (pe_glob (by rfl) M.v_UNKNOWN ⟨_, rfl⟩) (fun _ _ _ => .str _ (by decide +kernel))))) dss_nil)
      (dss_cons (ds_if (dt_k (og_eq hr.units) (de_b cg_len (by rfl) M.m_len (by decide +kernel) (da_cons (de_var (pv 1)) da_nil)) de_int (nomark _)) (dss_one (ds_ret (de_call G_do_one_word hr (by rfl) M.g_do_one_word M.F_do_one_word.kp M.b_do_one_word (passX (L2N.takes_of rfl rfl rfl rfl)) (da_cons (de_var (pv 0)) (da_cons (de_var (pv 2)) da_nil))))) dss_nil)
      (dss_cons (ds_if (dt_k (og_eq hr.units) (de_b cg_len (by rfl) M.m_len (by decide +kernel) (da_cons (de_var (pv 1)) da_nil)) de_int (nomark _)) (dss_one (ds_ret (de_call G_do_two_words hr (by rfl) M.g_do_two_words M.F_do_two_words.kp M.b_do_two_words (passX (L2N.takes_of rfl rfl rfl rfl)) (da_cons (de_var (pv 0)) (da_cons (de_var (pv 2)) (da_cons (de_at ig (de_var (pv 1)) de_int (fun _ _ => rfl)) da_nil)))))) dss_nil)
      (dss_cons (ds_if (dt_w (dw_and (dt_k (og_eq hr.units) (de_b cg_len (by rfl) M.m_len (by decide +kernel) (da_cons (de_var (pv 1)) da_nil)) de_int (nomark _)) (dw_and (dt_k (og_eq hr.units) (de_var (pv 2)) de_str (nomark _)) (dw_and1 (dt_val (de_call G_is_number hr (by rfl) M.g_is_number M.F_is_number.kp M.b_is_number passD (da_cons (de_at ig (de_var (pv 1)) de_int (fun _ _ => rfl)) (da_cons (de_c (v := .int _) (d := .int _) (pe_glob (by rfl) M.v_NUMBERS ⟨_, rfl⟩) (fun _ _ _ => .int _)) da_nil)))))))) (dss_one (ds_ret (de_call G_done hr (by rfl) M.g_done M.F_done.kp M.b_done passD (da_cons (de_meth (pe_meth (pl := _) (de_var (pv 0)) M.C_Desk M.h_Desk_change G_Desk_change hr M.b_Desk_change .nil (passX (L2N.takes_of rfl rfl rfl rfl)) (da_cons (de_ty cg_intS (by rfl) M.m_int (by decide +kernel) (da_cons (de_at ig (de_var (pv 1)) de_int (fun _ _ => rfl)) da_nil)) (da_cons (de_at ig (de_var (pv 1)) de_int (fun _ _ => rfl)) da_nil)))) da_nil)))) dss_nil)
      (dss_one (ds_ret (de_c (v := .str _) (d := .str _) (pe_glob (by rfl) M.v_UNKNOWN ⟨_, rfl⟩) (fun _ _ _ => .str _ (by decide +kernel)))))))))), fun ds n Q X h => ?_⟩)
  · skip
    unfold sp_do_command at h
    repeat (first | (rw [h.1]; rfl; done) | (obtain ⟨_, h⟩ := h))
  · skip
    obtain ⟨a, dx, s, l, rfl, ho, hs, l0, l1, hv, q, x⟩ := h
    have hn := hs.n
    obtain ⟨w0, hw0⟩ : ∃ w0, l[0]? = some w0 := by
      cases l with
      | nil => cases l0
      | cons w0 l => exact ⟨w0, rfl⟩
    have g0 : atI (l.map W) ((0 : Nat) : Int) = some (W w0) := at_first (f := W) hw0
    walk_at "ex"
    refine x_atL g0 ?_
    walk_at "ex"
    refine x_inE ⟨_, rfl, ?_⟩
    by_cases c : [] ∈ l
    · rw [if_pos (decide_eq_true c)]
      walk_at "ex"
      exact q unkW s (comA_un c) _ (.same ho)
    rw [if_neg (by rw [decide_eq_false c]; exact Bool.noConfusion)]
    walk_at "ex"
    rw [List.length_map]
    refine x_ite (fun z1 => ?_) (fun z1 => ?_)
    · obtain ⟨b, rfl⟩ := len_1 (show l.length = 1 by omega)
      cases hw0
      walk_at "ex"
      exact ⟨a, dx, s, w0, rfl, ho, hs, fun t s' e => q t s' ((comA_1 c).trans e), fun e z => x e ((comA_1 c).trans z)⟩
    walk_at "ex"
    rw [List.length_map]
    refine x_ite (fun z2 => ?_) (fun z2 => ?_)
    · obtain ⟨b, v, rfl⟩ := len_2 (show l.length = 2 by omega)
      cases hw0
      walk_at "ex"
      refine x_atL (show atI ([w0, v].map W) ((1 : Nat) : Int) = some (W v) from at_first (f := W) rfl) ?_
      exact ⟨a, dx, s, w0, v, rfl, ho, hs, hv v (by simp), fun t s' e => q t s' ((comA_2 c).trans e), fun e z => x e ((comA_2 c).trans z)⟩
    walk_at "ex"
    rw [List.length_map]
    refine x_ite (fun z3 => ?_) (fun z3 => ?_)
    · obtain ⟨b, v, u, rfl⟩ := len_3 (show l.length = 3 by omega)
      cases hw0
      have g1 : atI ([w0, v, u].map W) ((1 : Nat) : Int) = some (W v) := at_first (f := W) rfl
      have g2 : atI ([w0, v, u].map W) ((2 : Nat) : Int) = some (W u) := at_first (f := W) rfl
      walk_at "ex"
      refine x_nm chC rfl (fun c0 => ?_) (fun c0 => ?_)
      · subst c0
        walk_at "ex"
        refine x_atL g1 ?_
        walk_at "ex"
        refine ⟨v, 1000, rfl, Nat.le_refl _, isN v, rfl, ?_⟩
        by_cases c1 : isN v = true
        · rw [if_pos c1]
          have ch : comA s [chC, v, u] = doE s (.ch (.int (valN v : Nat)) (W u)) := (comA_3 c).trans (by unfold chA; rw [if_pos rfl, if_pos c1])
          walk_at "ex"
          refine ⟨a, dx, _, rfl, ho, rfl, ?_⟩
          walk_at "ex"
          refine x_atL g1 ?_
          walk_at "ex"
          refine x_intV c1 ?_
          walk_at "ex"
          refine x_atL g2 ?_
          walk_at "ex"
          refine ⟨a, dx, s.w, s.ws, s.es, patD s.p, .int (valN v : Nat), W u, M.c_NothingToUndo, rfl, ho, hs.w, hs.n, hs.l, ⟨⟨rfl, fun z e => by cases e⟩, fit_W (hv u (by simp))⟩, fun y ok n' u => ?_, fun r no => x (.er r) (ch.trans (doE_n no))⟩
          walk_at "ex"
          exact ⟨s.es.length + 1, rfl, by have := eg_room ok; omega, q _ _ (ch.trans (doE_y ok)) n' u⟩
        · rw [if_neg c1]
          walk_at "ex"
          exact q unkW s ((comA_3 c).trans (by unfold chA; rw [if_pos rfl, if_neg c1]; rfl)) _ (.same ho)
      · walk_at "ex"
        exact q unkW s ((comA_3 c).trans (by unfold chA; rw [if_neg c0]; rfl)) _ (.same ho)
    walk_at "ex"
    exact q unkW s (comA_no c (by omega) (by omega) (by omega)) _ (.same ho)
end
end Kp
namespace Kp
open PySem PySem.Spec PyProof.Rows L2 Kb Km Kd
def sp_answer_to (C : Addr) : SpD := fun ds n Q _ => ∃ (a dx : Addr) (s : Dst) (L : List Nat), ds = [OBJ a, W L] ∧ Kw.ob n a = some (s.ob C dx) ∧ s.Ok ∧ L.length ≤ 1000 ∧ ∀ n', Kw.Upd n a ((ansA s L).2.ob C dx) n' → Q (W (ansA s L).1) n'
abbrev n_answer_to : List Str := ["desk", "line"]
theorem sc_answer_to : FnScope n_answer_to ["desk", "line"] (defScope s_answer_to) := ⟨rfl, rfl, rfl, by decide +kernel, rfl, by decide +kernel, by decide +kernel⟩
section
variable {P : Program} {w : World} {K : PySem.W.Frag} {mg : Str → Option Value} {base : Heap}
theorem ok_answer_to (M : En K mg) : FnOk P w K mg base CX0 13 M.f_answer_to M.fd_answer_to ["desk", "line"] (spD K (sp_answer_to M.c_Desk)) := by
  have G_do_command : FnOk P w K mg base (L2N.CX P w) 12 M.f_do_command M.fd_do_command ["desk", "words"] (spD K (sp_do_command M.c_Desk M.c_NoPlace M.c_BadLetter M.c_TooLong M.c_LastLetter M.c_TooManyEdits M.c_NothingToUndo M.c_BadWord)) := (ok_do_command M).mono (by decide)
  have G0_do_command := quiet G_do_command
  refine okD M.F_answer_to sc_answer_to (fun ds n Q X h => ?_) (fun cdv A outer s H E hr => ⟨_, (dss_one (ds_tryU (m := 2) rfl rfl rfl takesN0 (fun E2 pn xe hps hown => (dss_one (ds_ret (de_call G_do_command hr (by rfl) M.g_do_command M.F_do_command.kp M.b_do_command hps (da_cons (de_var (pv 0)) (da_cons (de_ms PySem.F.slot_str_split PySem.F.type_str_split mg_split (de_var (pv 1)) (da_cons de_str da_nil)) da_nil)))))) (.cons (C := M.c_Busy) ⟨by rfl, by decide, .inl M.g_Busy⟩ (fun a oe pn => (dss_one (ds_ret de_str))) (.cons (C := M.c_TooManyEdits) ⟨by rfl, by decide, .inl M.g_TooManyEdits⟩ (fun a oe pn => (dss_one (ds_ret de_str))) (.cons (C := M.c_NoPlace) ⟨by rfl, by decide, .inl M.g_NoPlace⟩ (fun a oe pn => (dss_one (ds_ret de_str))) (.cons (C := M.c_BadLetter) ⟨by rfl, by decide, .inl M.g_BadLetter⟩ (fun a oe pn => (dss_one (ds_ret de_str))) (.cons (C := M.c_TooLong) ⟨by rfl, by decide, .inl M.g_TooLong⟩ (fun a oe pn => (dss_one (ds_ret de_str))) (.cons (C := M.c_LastLetter) ⟨by rfl, by decide, .inl M.g_LastLetter⟩ (fun a oe pn => (dss_one (ds_ret de_str))) (.cons (C := M.c_NotSimple) ⟨by rfl, by decide, .inl M.g_NotSimple⟩ (fun a oe pn => (dss_one (ds_ret de_str))) (.cons (C := M.c_NothingToUndo) ⟨by rfl, by decide, .inl M.g_NothingToUndo⟩ (fun a oe pn => (dss_one (ds_ret de_str))) (.cons (C := M.c_BadWord) ⟨by rfl, by decide, .inl M.g_BadWord⟩ (fun a oe pn => (dss_one (ds_ret de_str))) .nil))))))))))), fun ds n Q X h => ?_⟩)
  · skip
    unfold sp_answer_to at h
    repeat (first | (rw [h.1]; rfl; done) | (obtain ⟨_, h⟩ := h))
  · skip
    obtain ⟨a, dx, s, L, rfl, ho, hs, hl, q⟩ := h
    obtain ⟨l0, l1, l2⟩ := spl_fit hl
    have qe : ∀ e, comA s (splW L) = .error e → Q (W (erT e)) n := fun e z => by
      have := q n
      unfold ansA at this
      rw [z] at this
      exact this (.same ho)
    refine x_tryU ?_
    walk_at "ex"
    refine x_splitB (by omega) ?_
    walk_at "ex"
    refine ⟨a, dx, s, splW L, rfl, ho, hs, l0, l1, l2, fun t s' e n' u => ?_, fun e z => ?_⟩
    · unfold ansA at q
      rw [e] at q
      exact q n' u
    have qe := qe e z
    cases e with
    | word d => exact (exU_no M.em_BadWord_Busy (exU_no M.em_BadWord_TooManyEdits (exU_no M.em_BadWord_NoPlace (exU_no M.em_BadWord_BadLetter (exU_no M.em_BadWord_TooLong (exU_no M.em_BadWord_LastLetter (exU_no M.em_BadWord_NotSimple (exU_no M.em_BadWord_NothingToUndo (exU_yes M.em_BadWord_BadWord (by walk_at "ex"; exact qe))))))))))
    | er r =>
      cases r with
      | place d => exact (exU_no M.em_NoPlace_Busy (exU_no M.em_NoPlace_TooManyEdits (exU_yes M.em_NoPlace_NoPlace (by walk_at "ex"; exact qe))))
      | letter d => exact (exU_no M.em_BadLetter_Busy (exU_no M.em_BadLetter_TooManyEdits (exU_no M.em_BadLetter_NoPlace (exU_yes M.em_BadLetter_BadLetter (by walk_at "ex"; exact qe)))))
      | long => exact (exU_no M.em_TooLong_Busy (exU_no M.em_TooLong_TooManyEdits (exU_no M.em_TooLong_NoPlace (exU_no M.em_TooLong_BadLetter (exU_yes M.em_TooLong_TooLong (by walk_at "ex"; exact qe))))))
      | last => exact (exU_no M.em_LastLetter_Busy (exU_no M.em_LastLetter_TooManyEdits (exU_no M.em_LastLetter_NoPlace (exU_no M.em_LastLetter_BadLetter (exU_no M.em_LastLetter_TooLong (exU_yes M.em_LastLetter_LastLetter (by walk_at "ex"; exact qe)))))))
      | many => exact (exU_no M.em_TooManyEdits_Busy (exU_yes M.em_TooManyEdits_TooManyEdits (by walk_at "ex"; exact qe)))
      | none => exact (exU_no M.em_NothingToUndo_Busy (exU_no M.em_NothingToUndo_TooManyEdits (exU_no M.em_NothingToUndo_NoPlace (exU_no M.em_NothingToUndo_BadLetter (exU_no M.em_NothingToUndo_TooLong (exU_no M.em_NothingToUndo_LastLetter (exU_no M.em_NothingToUndo_NotSimple (exU_yes M.em_NothingToUndo_NothingToUndo (by walk_at "ex"; exact qe)))))))))
end
end Kp
namespace Kp
open PySem PySem.Spec PyProof.Rows L2 Kb Km Kd
def sp_Console_execute (C CD : Addr) : SpD := fun ds n Q _ => ∃ (c dc a dx : Addr) (ps : List PyData) (s : Dst) (v : PyData), ds = [OBJ c, v] ∧ Kw.ob n c = some (cnO C dc a ps) ∧ Kw.ob n a = some (s.ob CD dx) ∧ s.Ok ∧ c ≠ a ∧ Fit v ∧ ps.length ≤ 20 ∧ nlA ps = true ∧
  ∀ n1 n', Kw.Upd n a ((exeA s v).2.ob CD dx) n1 → Kw.Upd n1 c (cnO C dc a (last20 (ps ++ [.tuple [lineOf v, W (exeA s v).1]]))) n' → Q (W (exeA s v).1) n'
abbrev n_Console_execute : List Str := ["self", "line", "text", "answer", "pairs"]
theorem sc_Console_execute : FnScope n_Console_execute ["self", "line"] (defScope s_Console_execute) := ⟨rfl, rfl, rfl, by decide +kernel, rfl, by decide +kernel, by decide +kernel⟩
section
variable {P : Program} {w : World} {K : PySem.W.Frag} {mg : Str → Option Value} {base : Heap}
theorem ok_Console_execute (M : En K mg) : FnOk P w K mg base CX0 14 M.f_Console_execute M.fd_Console_execute ["self", "line"] (spD K (sp_Console_execute M.c_Console M.c_Desk)) := by
  have G_answer_to : FnOk P w K mg base CX0 13 M.f_answer_to M.fd_answer_to ["desk", "line"] (spD K (sp_answer_to M.c_Desk)) := (ok_answer_to M).mono (by decide)
  refine okD M.F_Console_execute sc_Console_execute (fun ds n Q X h => ?_) (fun cdv A outer s H E hr => ⟨_, (dss_cons (ds_set (i := 2) sc_Console_execute.nd rfl (.inl rfl) (de_ifExp (dt_val (de_isi (c := "str") (by decide) (by rfl) M.m_isinstance (de_var (pv 1)) (pe_bltn (v := .ty "str") (u := .type "str") (by rfl) M.m_str (by decide +kernel) rfl))) (de_var (pv 1)) de_non))
      (dss_cons (ds_set (i := 3) sc_Console_execute.nd rfl (.inl rfl) (de_ifExp (dt_k og_is (de_var (pv 2)) de_non (nomark _)) (de_c (v := .str _) (d := .str _) (pe_glob (by rfl) M.v_UNKNOWN ⟨_, rfl⟩) (fun _ _ _ => .str _ (by decide +kernel))) (de_call G_answer_to hr (by rfl) M.g_answer_to M.F_answer_to.kp M.b_answer_to passD (da_cons (de_fld M.C_Console M.n_Console_desk (de_var (pv 0))) (da_cons (de_var (pv 2)) da_nil)))))
      (dss_cons (ds_set (i := 4) sc_Console_execute.nd rfl (.inl rfl) (de_o og_add (de_fld M.C_Console M.n_Console_pairs (de_var (pv 0))) (de_tup (da_cons (de_tup (da_cons (de_var (pv 2)) (da_cons (de_var (pv 3)) da_nil))) da_nil))))
      (dss_cons (ds_putF M.C_Console M.n_Console_pairs (de_var (pv 0)) (de_cut sg (de_var (pv 4)) (do_some (de_neg (de_c (v := .int _) (d := .int _) (pe_glob (by rfl) M.v_KEPT_PAIRS ⟨_, rfl⟩) (fun _ _ _ => .int _)))) do_none))
      (dss_one (ds_ret (de_var (pv 3)))))))), fun ds n Q X h => ?_⟩)
  · skip
    unfold sp_Console_execute at h
    repeat (first | (rw [h.1]; rfl; done) | (obtain ⟨_, h⟩ := h))
  · skip
    obtain ⟨c, dc, a, dx, ps, s, v, rfl, ho, ha, hs, ne, fv, hl, hn, q⟩ := h
    walk_at "ex"
    refine ⟨fv.1, _, rfl, ?_⟩
    by_cases cs : ∃ z, v = .str z
    · obtain ⟨z, rfl⟩ := cs
      have lz := fv.2 z rfl
      rw [if_pos (show isiD "str" (PyData.str z) = true from rfl)]
      walk_at "ex"
      refine ⟨c, dc, _, _, rfl, ho, cn_desk a ps, ?_⟩
      walk_at "ex"
      refine ⟨a, dx, s, z.cps.toList, congrArg (fun d => [OBJ a, d]) (str_W z), ha, hs, by rw [Array.length_toList]; exact lz, fun n1 u => ?_⟩
      have hc := (u.ne c ne).trans ho
      have q := q n1
      rw [exe_str] at q
      have q := fun n' => q n' u
      generalize (ansA s z.cps.toList).1 = t at q ⊢
      walk_at "ex"
      refine ⟨c, dc, _, _, rfl, hc, cn_pairs a ps, ?_⟩
      walk_at "ex"
      refine x_addT (Nat.le_trans (show ps.length + 1 ≤ 1000 by omega) (by decide)) ?_
      walk_at "ex"
      rw [cut_20]
      refine ⟨c, dc, _, rfl, hc, (show 2 < 1000 by decide), nl_last (nlA_snoc hn (show nlA [PyData.str z, W t] = true from rfl)), ?_⟩
      walk_at "ex"
      rw [cn_set]
      exact q _ (.put _ _ _)
    · rw [(not_str cs).1]
      rw [(exe_no s cs).1, (exe_no s cs).2] at q
      have q := fun n' => q n n' (.same ha)
      walk_at "ex"
      refine ⟨c, dc, _, _, rfl, ho, cn_pairs a ps, ?_⟩
      walk_at "ex"
      refine x_addT (Nat.le_trans (show ps.length + 1 ≤ 1000 by omega) (by decide)) ?_
      walk_at "ex"
      rw [cut_20]
      refine ⟨c, dc, _, rfl, ho, (show 2 < 1000 by decide), nl_last (nlA_snoc hn (show nlA [PyData.none, W unkW] = true from rfl)), ?_⟩
      walk_at "ex"
      rw [cn_set]
      exact q _ (.put _ _ _)
end
end Kp
namespace Kp
open PySem PySem.Spec PyProof.Rows L2 Kb Km Kd
def sp_Desk___init__ (C : Addr) : SpD := fun ds n Q _ => ∃ (a dx : Addr) (L : List Nat), ds = [OBJ a, W L] ∧ Kw.ob n a = some (.ins C dx []) ∧ Wd24 L ∧ ∀ n', Kw.Upd n a (dkO C dx L [] [] .none) n' → Q .none n'
abbrev n_Desk___init__ : List Str := ["self", "word"]
theorem sc_Desk___init__ : FnScope n_Desk___init__ ["self", "word"] (defScope s_Desk___init__) := ⟨rfl, rfl, rfl, by decide +kernel, rfl, by decide +kernel, by decide +kernel⟩
section
variable {P : Program} {w : World} {K : PySem.W.Frag} {mg : Str → Option Value} {base : Heap}
theorem ok_Desk___init__ (M : En K mg) : FnOk P w K mg base CX0 4 M.f_Desk___init__ M.fd_Desk___init__ ["self", "word"] (spD K (sp_Desk___init__ M.c_Desk)) := by
  have G_check_word : FnOk P w K mg base (L2N.CX P w) 3 M.f_check_word M.fd_check_word ["value"] (spD K (sp_check_word M.c_BadWord)) := (ok_check_word M).mono (by decide)
  have G0_check_word := quiet G_check_word
  refine okD M.F_Desk___init__ sc_Desk___init__ (fun ds n Q X h => ?_) (fun cdv A outer s H E hr => ⟨_, (dss_cons (ds_expr (de_call G0_check_word hr (by rfl) M.g_check_word M.F_check_word.kp M.b_check_word passD (da_cons (de_var (pv 1)) da_nil)))
      (dss_cons (ds_putF M.C_Desk M.n_Desk_text (de_var (pv 0)) (de_var (pv 1)))
      (dss_cons (ds_putF M.C_Desk M.n_Desk_earlier (de_var (pv 0)) (de_tup da_nil))
      (dss_cons (ds_putF M.C_Desk M.n_Desk_steps (de_var (pv 0)) (de_tup da_nil))
      (dss_cons (ds_putF M.C_Desk M.n_Desk_chosen (de_var (pv 0)) de_non)
      (dss_one (ds_putF M.C_Desk M.n_Desk_busy (de_var (pv 0)) de_bl))))))), fun ds n Q X h => ?_⟩)
  · skip
    unfold sp_Desk___init__ at h
    repeat (first | (rw [h.1]; rfl; done) | (obtain ⟨_, h⟩ := h))
  · skip
    obtain ⟨a, dx, L, rfl, ho, hw, q⟩ := h
    walk_at "ex"
    refine (show sp_check_word M.c_BadWord [W L] n _ X0 from ?_)
    refine ⟨W L, rfl, fit_W (by have := hw.2.1; omega), fun _ => ?_, fun e => absurd e (by rw [werr_word hw]; decide)⟩
    walk_at "ex"
    refine ⟨a, dx, _, rfl, ho, by decide, rfl, ?_⟩
    walk_at "ex"
    refine ⟨a, dx, _, rfl, Kw.ob_put _ _ _, (show 1 < 1000 by decide), rfl, ?_⟩
    walk_at "ex"
    refine ⟨a, dx, _, rfl, Kw.ob_put _ _ _, (show 2 < 1000 by decide), rfl, ?_⟩
    walk_at "ex"
    refine ⟨a, dx, _, rfl, Kw.ob_put _ _ _, (show 3 < 1000 by decide), rfl, ?_⟩
    walk_at "ex"
    refine ⟨a, dx, _, rfl, Kw.ob_put _ _ _, (show 4 < 1000 by decide), rfl, ?_⟩
    exact q _ (((((Kw.Upd.put _ _ _).trans (.put _ _ _)).trans (.put _ _ _)).trans (.put _ _ _)).trans (.put _ _ _))
end
end Kp
namespace Kp
open PySem PySem.Spec PyProof.Rows L2 Kb Km Kd
def sp_Desk_version (C : Addr) : SpD := fun ds n Q _ => ∃ (a dx : Addr) (w : List Nat) (ws : List (List Nat)) (es : List Ed) (ch : PyData), ds = [OBJ a] ∧ Kw.ob n a = some (dkO C dx w ws es ch) ∧ Q (.int (es.length : Nat)) n
abbrev n_Desk_version : List Str := ["self"]
theorem sc_Desk_version : FnScope n_Desk_version ["self"] (defScope s_Desk_version) := ⟨rfl, rfl, rfl, by decide +kernel, rfl, by decide +kernel, by decide +kernel⟩
section
variable {P : Program} {w : World} {K : PySem.W.Frag} {mg : Str → Option Value} {base : Heap}
theorem ok_Desk_version (M : En K mg) : FnOk P w K mg base CX0 1 M.f_Desk_version M.fd_Desk_version ["self"] (spD K (sp_Desk_version M.c_Desk)) := by
  refine okD M.F_Desk_version sc_Desk_version (fun ds n Q X h => ?_) (fun cdv A outer s H E hr => ⟨_, (dss_one (ds_ret (de_b cg_len (by rfl) M.m_len (by decide +kernel) (da_cons (de_fld M.C_Desk M.n_Desk_steps (de_var (pv 0))) da_nil)))), fun ds n Q X h => ?_⟩)
  · skip
    unfold sp_Desk_version at h
    repeat (first | (rw [h.1]; rfl; done) | (obtain ⟨_, h⟩ := h))
  · skip
    obtain ⟨a, dx, w, ws, es, ch, rfl, ho, q⟩ := h
    walk_at "ex"
    refine ⟨a, dx, _, _, rfl, ho, dk_steps, ?_⟩
    walk_at "ex"
    rw [List.length_map]
    exact q
end
end Kp
namespace Kp
open PySem PySem.Spec PyProof.Rows L2 Kb Km Kd
def sp_Desk_pattern (C : Addr) : SpD := fun ds n Q _ => ∃ (a dx : Addr) (w : List Nat) (ws : List (List Nat)) (es : List Ed) (ch : PyData), ds = [OBJ a] ∧ Kw.ob n a = some (dkO C dx w ws es ch) ∧ Q ch n
abbrev n_Desk_pattern : List Str := ["self"]
theorem sc_Desk_pattern : FnScope n_Desk_pattern ["self"] (defScope s_Desk_pattern) := ⟨rfl, rfl, rfl, by decide +kernel, rfl, by decide +kernel, by decide +kernel⟩
section
variable {P : Program} {w : World} {K : PySem.W.Frag} {mg : Str → Option Value} {base : Heap}
theorem ok_Desk_pattern (M : En K mg) : FnOk P w K mg base CX0 1 M.f_Desk_pattern M.fd_Desk_pattern ["self"] (spD K (sp_Desk_pattern M.c_Desk)) := by
  refine okD M.F_Desk_pattern sc_Desk_pattern (fun ds n Q X h => ?_) (fun cdv A outer s H E hr => ⟨_, (dss_one (ds_ret (de_fld M.C_Desk M.n_Desk_chosen (de_var (pv 0))))), fun ds n Q X h => ?_⟩)
  · skip
    unfold sp_Desk_pattern at h
    repeat (first | (rw [h.1]; rfl; done) | (obtain ⟨_, h⟩ := h))
  · skip
    obtain ⟨a, dx, w, ws, es, ch, rfl, ho, q⟩ := h
    walk_at "ex"
    exact ⟨a, dx, _, _, rfl, ho, dk_chosen, q⟩
end
end Kp
namespace Kp
open PySem PySem.Spec PyProof.Rows L2 Kb Km Kd
def sp_Desk_edits (C : Addr) : SpD := fun ds n Q _ => ∃ (a dx : Addr) (w : List Nat) (ws : List (List Nat)) (es : List Ed) (ch : PyData), ds = [OBJ a] ∧ Kw.ob n a = some (dkO C dx w ws es ch) ∧ Q (.tuple (es.map edD)) n
abbrev n_Desk_edits : List Str := ["self"]
theorem sc_Desk_edits : FnScope n_Desk_edits ["self"] (defScope s_Desk_edits) := ⟨rfl, rfl, rfl, by decide +kernel, rfl, by decide +kernel, by decide +kernel⟩
section
variable {P : Program} {w : World} {K : PySem.W.Frag} {mg : Str → Option Value} {base : Heap}
theorem ok_Desk_edits (M : En K mg) : FnOk P w K mg base CX0 1 M.f_Desk_edits M.fd_Desk_edits ["self"] (spD K (sp_Desk_edits M.c_Desk)) := by
  refine okD M.F_Desk_edits sc_Desk_edits (fun ds n Q X h => ?_) (fun cdv A outer s H E hr => ⟨_, (dss_one (ds_ret (de_fld M.C_Desk M.n_Desk_steps (de_var (pv 0))))), fun ds n Q X h => ?_⟩)
  · skip
    unfold sp_Desk_edits at h
    repeat (first | (rw [h.1]; rfl; done) | (obtain ⟨_, h⟩ := h))
  · skip
    obtain ⟨a, dx, w, ws, es, ch, rfl, ho, q⟩ := h
    walk_at "ex"
    exact ⟨a, dx, _, _, rfl, ho, dk_steps, q⟩
end
end Kp
namespace Kp
open PySem PySem.Spec PyProof.Rows L2 Kb Km Kd
def sp_Desk___len__ (C : Addr) : SpD := fun ds n Q _ => ∃ (a dx : Addr) (w : List Nat) (ws : List (List Nat)) (es : List Ed) (ch : PyData), ds = [OBJ a] ∧ Kw.ob n a = some (dkO C dx w ws es ch) ∧ Q (.int (w.length : Nat)) n
abbrev n_Desk___len__ : List Str := ["self"]
theorem sc_Desk___len__ : FnScope n_Desk___len__ ["self"] (defScope s_Desk___len__) := ⟨rfl, rfl, rfl, by decide +kernel, rfl, by decide +kernel, by decide +kernel⟩
section
variable {P : Program} {w : World} {K : PySem.W.Frag} {mg : Str → Option Value} {base : Heap}
theorem ok_Desk___len__ (M : En K mg) : FnOk P w K mg base CX0 1 M.f_Desk___len__ M.fd_Desk___len__ ["self"] (spD K (sp_Desk___len__ M.c_Desk)) := by
  refine okD M.F_Desk___len__ sc_Desk___len__ (fun ds n Q X h => ?_) (fun cdv A outer s H E hr => ⟨_, (dss_one (ds_ret (de_b cg_len (by rfl) M.m_len (by decide +kernel) (da_cons (de_fld M.C_Desk M.n_Desk_text (de_var (pv 0))) da_nil)))), fun ds n Q X h => ?_⟩)
  · skip
    unfold sp_Desk___len__ at h
    repeat (first | (rw [h.1]; rfl; done) | (obtain ⟨_, h⟩ := h))
  · skip
    obtain ⟨a, dx, w, ws, es, ch, rfl, ho, q⟩ := h
    walk_at "ex"
    refine ⟨a, dx, _, _, rfl, ho, dk_text, ?_⟩
    walk_at "ex"
    exact q
end
end Kp
namespace Kp
open PySem PySem.Spec PyProof.Rows L2 Kb Km Kd
def sp_Desk___str__ (C : Addr) : SpD := fun ds n Q _ => ∃ (a dx : Addr) (w : List Nat) (ws : List (List Nat)) (es : List Ed) (ch : PyData), ds = [OBJ a] ∧ Kw.ob n a = some (dkO C dx w ws es ch) ∧ w.length ≤ 100 ∧ es.length ≤ 100 ∧ Q (W (dkT w.length es.length)) n
abbrev n_Desk___str__ : List Str := ["self"]
theorem sc_Desk___str__ : FnScope n_Desk___str__ ["self"] (defScope s_Desk___str__) := ⟨rfl, rfl, rfl, by decide +kernel, rfl, by decide +kernel, by decide +kernel⟩
section
variable {P : Program} {w : World} {K : PySem.W.Frag} {mg : Str → Option Value} {base : Heap}
theorem ok_Desk___str__ (M : En K mg) : FnOk P w K mg base CX0 1 M.f_Desk___str__ M.fd_Desk___str__ ["self"] (spD K (sp_Desk___str__ M.c_Desk)) := by
  refine okD M.F_Desk___str__ sc_Desk___str__ (fun ds n Q X h => ?_) (fun cdv A outer s H E hr => ⟨_, (dss_one (ds_ret (de_fs4 (de_b cg_len (by rfl) M.m_len (by decide +kernel) (da_cons (de_fld M.C_Desk M.n_Desk_text (de_var (pv 0))) da_nil)) (de_b cg_len (by rfl) M.m_len (by decide +kernel) (da_cons (de_fld M.C_Desk M.n_Desk_steps (de_var (pv 0))) da_nil))))), fun ds n Q X h => ?_⟩)
  · skip
    unfold sp_Desk___str__ at h
    repeat (first | (rw [h.1]; rfl; done) | (obtain ⟨_, h⟩ := h))
  · skip
    obtain ⟨a, dx, w, ws, es, ch, rfl, ho, h1, h2, q⟩ := h
    walk_at "ex"
    refine x_fs4 ?_
    walk_at "ex"
    refine ⟨a, dx, _, _, rfl, ho, dk_text, ?_⟩
    walk_at "ex"
    refine fs4_n h1 ?_
    walk_at "ex"
    refine ⟨a, dx, _, _, rfl, ho, dk_steps, ?_⟩
    walk_at "ex"
    rw [List.length_map]
    refine fs4_n h2 ?_
    rw [dkT_str]
    exact q
end
end Kp
namespace Kd
open PySem PySem.Spec PyProof.Rows L2 Kb Km
def oddL : List PyData := [.none, .bool true, .bool false, .int (-1), .int 0, .int 1, .int 23, .int 24, .int (10 ^ 29), .str "", .str "a", .str "A", .str "ab", .str "0", .str " ", .tuple [], .list [], .dict [], .tuple [.int 0], .list [.str "a"]] ++ [.tuple [.str "a"], .dict [(.str "a", .int 1)], .str "aB", W (repW 25 [122])]
theorem odd_at {k : Nat} (h : k < 24) : ∃ d, d ∈ oddL ∧ atI oddL (k : Int) = some d := by
  have hk : k < oddL.length := h
  refine ⟨oddL[k], List.getElem_mem hk, ?_⟩
  unfold L2.atI
  rw [ixNat hk]
  exact List.getElem?_eq_getElem hk
theorem odd_fit : ∀ d ∈ oddL, Fit d := by
  intro d hd
  unfold oddL at hd
  simp only [List.mem_append, List.mem_cons, List.not_mem_nil, or_false] at hd
  rcases hd with (rfl | rfl | rfl | rfl | rfl | rfl | rfl | rfl | rfl | rfl | rfl | rfl | rfl | rfl | rfl | rfl | rfl | rfl | rfl | rfl) | (rfl | rfl | rfl | rfl) <;> exact ⟨rfl, fun z e => by first | (cases e; done) | (cases e; decide +kernel)⟩
end Kd
namespace Kp
open PySem PySem.Spec PyProof.Rows L2 Kb Km Kd
def sp_law_odd : SpD := fun ds n Q _ => ds = [STRM] ∧ Kw.wt n ≤ 1000000 ∧ ∀ d ∈ oddL, Q d (Kw.adv n 1)
abbrev n_law_odd : List Str := ["_law_stream_here", "_law_some"]
theorem sc_law_odd : FnScope n_law_odd ["_law_stream_here"] (defScope s_law_odd) := ⟨rfl, rfl, rfl, by decide +kernel, rfl, by decide +kernel, by decide +kernel⟩
section
variable {P : Program} {w : World} {K : PySem.W.Frag} {mg : Str → Option Value} {base : Heap}
theorem ok_law_odd (M : En K mg) : FnOk P w K mg base CX0 2 M.f_law_odd M.fd_law_odd ["_law_stream_here"] (spD K sp_law_odd) := by
  have G_law_draw : FnOk P w K mg base CX0 1 M.f_law_draw M.fd_law_draw ["_law_stream_here", "_law_many"] (spD K sp_law_draw) := (ok_law_draw M).mono (by decide)
  refine okD M.F_law_odd sc_law_odd (fun ds n Q X h => ?_) (fun cdv A outer s H E hr => ⟨_, (dss_cons (ds_set (i := 1) sc_law_odd.nd rfl (.inl rfl) (de_lst (da_cons de_non (da_cons de_bl (da_cons de_bl (da_cons (de_neg de_int) (da_cons de_int (da_cons de_int (da_cons de_int (da_cons de_int (da_cons (de_o og_pow de_int de_int) (da_cons de_str (da_cons de_str (da_cons de_str (da_cons de_str (da_cons de_str (da_cons de_str (da_cons (de_tup da_nil) (da_cons (de_lst da_nil) (da_cons de_dct0 (da_cons (de_tup (da_cons de_int da_nil)) (da_cons (de_lst (da_cons de_str da_nil)) da_nil))))))))))))))))))))))
      (dss_one (ds_ret (de_at ig (de_o og_add (de_var (pv 1)) (de_lst (da_cons (de_tup (da_cons de_str da_nil)) (da_cons de_dct1 (da_cons de_str (da_cons (de_o og_mulW de_str de_int) da_nil)))))) (de_call G_law_draw hr (by rfl) M.g_law_draw M.F_law_draw.kp M.b_law_draw passD (da_cons (de_var (pv 0)) (da_cons de_int da_nil))) (fun _ _ => rfl))))), fun ds n Q X h => ?_⟩)
  · skip
    rw [h.1]; rfl
  · skip
    obtain ⟨rfl, hn, q⟩ := h
    walk_at "ex"
    refine ⟨by first | decide | (unfold L2.CPow; decide), ?_⟩
    walk_at "ex"
    refine x_mulW (M := [122]) (k := 25) (by decide) (by decide) ?_
    walk_at "ex"
    refine x_addL (by show 24 ≤ sizeLine; decide) ?_
    walk_at "ex"
    refine ⟨_, rfl, by omega, by omega, by omega, fun a ha => ?_⟩
    obtain ⟨d, hd, e⟩ := odd_at (k := a) (by omega)
    refine x_atL e ?_
    exact q d hd
end
end Kp
namespace Kd
open PySem PySem.Spec PyProof.Rows L2 Kb
theorem six_at {j : Nat} (h : j < 6) : ∃ z : Str, atI [PyData.str "ab", .str "abc", .str "a", .str "az", .str "abcdefghijklmnopqrstuvwxyz", .str "ab"] (j : Int) = some (.str z) ∧ 0 < z.length ∧ z.length ≤ 26 ∧ ∀ c ∈ z.cps.toList, Ltr c := by
  have : ∀ z ∈ [Str.ofString "ab", "abc", "a", "az", "abcdefghijklmnopqrstuvwxyz", "ab"], 0 < z.length ∧ z.length ≤ 26 ∧ ∀ c ∈ z.cps.toList, 97 ≤ c ∧ c ≤ 122 := by decide +kernel
  rcases (by omega : j = 0 ∨ j = 1 ∨ j = 2 ∨ j = 3 ∨ j = 4 ∨ j = 5) with rfl | rfl | rfl | rfl | rfl | rfl <;> exact ⟨_, rfl, this _ (by simp)⟩
/-- letters as texts of one sign -/
def chD (L : List Nat) : List PyData := L.map fun c => .str ⟨#[c]⟩
theorem chD_len (L : List Nat) : (chD L).length = L.length := by unfold chD; rw [List.length_map]
theorem join_chars (L : List Nat) : Txt.join (Str.ofString "") (L.map fun c => (⟨#[c]⟩ : Str)) = ⟨L.toArray⟩ := by
  have h := join_nil_signs ⟨L.toArray⟩
  unfold Txt.join
  rw [PySem.StrLaws.glued_eq_join]
  have e : signs (⟨L.toArray⟩ : Str) = L.map fun c => (⟨#[c]⟩ : Str) := by simp [signs]
  rw [← e]
  exact h
theorem sum_chars (L : List Nat) : ((L.map fun c => (⟨#[c]⟩ : Str)).map (·.length)).sum = L.length := by
  induction L with
  | nil => rfl
  | cons x r ih =>
    rw [List.map_cons, List.map_cons, List.sum_cons, ih, List.length_cons]
    show 1 + r.length = r.length + 1
    omega
/-- ''.join of letters -/
theorem x_joinC {P : PyData → Prop} {L : List Nat} (hl : L.length ≤ 1000) (h : P (W L)) : rJoin (.str (Str.ofString "")) [.list (chD L)] P := by
  refine ⟨L.map fun c => ⟨#[c]⟩, ?_, ?_, ?_⟩
  · unfold chD; rw [List.map_map]; rfl
  · rw [sum_chars, List.length_map]
    show L.length + L.length * 0 ≤ 16777216
    omega
  · rw [join_chars]; exact h
end Kd
namespace Kp
open PySem PySem.Spec PyProof.Rows L2 Kb Km Kd
def sp_law_word : SpD := fun ds n Q _ => ∃ m : Nat, ds = [STRM, .int m] ∧ Kw.wt n ≤ 900000 ∧ 0 < m ∧ m ≤ 24 ∧ ∀ (L : List Nat) (n' : Nat), Kw.ob n' = Kw.ob n → Kw.wt n' ≤ Kw.wt n + 40 → 0 < L.length → L.length ≤ m → Ltrs L → Q (W L) n'
abbrev n_law_word : List Str := ["_law_stream_here", "_law_most", "_law_size", "_law_way", "_law_letters", "_law_word_here", "_law_k"]
theorem sc_law_word : FnScope n_law_word ["_law_stream_here", "_law_most"] (defScope s_law_word) := ⟨rfl, rfl, rfl, by decide +kernel, rfl, by decide +kernel, by decide +kernel⟩
section
variable {P : Program} {w : World} {K : PySem.W.Frag} {mg : Str → Option Value} {base : Heap}
theorem ok_law_word (M : En K mg) : FnOk P w K mg base CX0 3 M.f_law_word M.fd_law_word ["_law_stream_here", "_law_most"] (spD K sp_law_word) := by
  have G_law_draw : FnOk P w K mg base CX0 2 M.f_law_draw M.fd_law_draw ["_law_stream_here", "_law_many"] (spD K sp_law_draw) := (ok_law_draw M).mono (by decide)
  have G_law_pick : FnOk P w K mg base CX0 2 M.f_law_pick M.fd_law_pick ["_law_stream_here", "_law_items"] (spD K sp_law_pick) := (ok_law_pick M).mono (by decide)
  refine okD M.F_law_word sc_law_word (fun ds n Q X h => ?_) (fun cdv A outer s H E hr => ⟨_, (dss_cons (ds_par (i := 2) (j := 3) (by rfl) sc_law_word.nd rfl rfl (by decide) rfl rfl (da_cons (de_o og_add de_int (de_call G_law_draw hr (by rfl) M.g_law_draw M.F_law_draw.kp M.b_law_draw passD (da_cons (de_var (pv 0)) (da_cons (de_var (pv 1)) da_nil)))) (da_cons (de_call G_law_draw hr (by rfl) M.g_law_draw M.F_law_draw.kp M.b_law_draw passD (da_cons (de_var (pv 0)) (da_cons de_int da_nil))) da_nil)) (by rfl))
      (dss_cons (ds_set (i := 4) sc_law_word.nd rfl (.inr rfl) (de_at ig (de_lst (da_cons de_str (da_cons de_str (da_cons de_str (da_cons de_str (da_cons de_str (da_cons de_str da_nil))))))) (de_var (pv 3)) (fun _ _ => rfl)))
      (dss_cons (ds_set (i := 5) sc_law_word.nd rfl (.inl rfl) (de_ms PySem.F.slot_str_join PySem.F.type_str_join mg_join de_str (da_cons (de_lc (own := [("_law_k", 6)]) rfl sc_law_word.nd (di_range1 (by rfl) M.m_range (da_cons (de_var (pv 2)) da_nil)) (blkOk_by (N := n_law_word) (sc := defScope s_law_word) (by decide +kernel)) (tc_name (i := 6)) (fun _ _ _ _ _ => (pg_name (i := 6) sc_law_word.nd rfl (Or.inl rfl))) (fun _ _ _ _ _ => dts_nil) (fun _ _ _ _ _ => (de_call G_law_pick hr (by rfl) M.g_law_pick M.F_law_pick.kp M.b_law_pick passD (da_cons (de_var (pv 0)) (da_cons (de_var (pv 4)) da_nil))))) da_nil)))
      (dss_cut (ds_if (dt_w (dw_and (dt_k og_gt (de_var (pv 3)) de_int (nomark _)) (dw_and1 (dt_k (og_eq hr.units) (de_call G_law_draw hr (by rfl) M.g_law_draw M.F_law_draw.kp M.b_law_draw passD (da_cons (de_var (pv 0)) (da_cons de_int da_nil))) de_int (nomark _))))) (dss_one (ds_set (i := 5) sc_law_word.nd rfl (.inl rfl) (de_cut sg (de_o og_mulW (de_cut sg (de_var (pv 5)) do_none (do_some (de_o og_add de_int (de_call G_law_draw hr (by rfl) M.g_law_draw M.F_law_draw.kp M.b_law_draw passD (da_cons (de_var (pv 0)) (da_cons de_int da_nil)))))) (de_var (pv 2))) do_none (do_some (de_var (pv 2)))))) dss_nil)
      (dss_one (ds_ret (de_var (pv 5)))))))), fun ds n Q X h => ?_⟩)
  · skip
    unfold sp_law_word at h
    repeat (first | (rw [h.1]; rfl; done) | (obtain ⟨_, h⟩ := h))
  · skip
    obtain ⟨m, rfl, hn, m0, m1, q⟩ := h
    walk_at "ex"
    refine ⟨_, rfl, by omega, by omega, by omega, fun k hk => ?_⟩
    walk_at "ex"
    refine ⟨_, rfl, by rw [Kw.wt_adv]; omega, by decide, by decide, fun j hj => ?_⟩
    walk_at "ex"
    obtain ⟨z, hz, z0, z1, zl⟩ := six_at (j := j) (by omega)
    refine x_atL hz ?_
    have el : (sgD z).length = z.length := by unfold sgD; rw [List.length_map, Array.length_toList]; rfl
    walk_at "ex"
    refine lci (fun i acc n' => ∃ L : List Nat, acc = chD L ∧ L.length = i ∧ Ltrs L ∧ Kw.ob n' = Kw.ob n ∧ Kw.wt n' = Kw.wt n + 2 + i) ⟨[], rfl, rfl, fun _ h => (nomatch h), by simp only [Kw.ob_adv], by first | omega | (simp only [Kw.wt_adv]; done) | (simp only [Kw.wt_adv]; omega)⟩ (fun i x acc n' hx ⟨L, ha, hl, hL, ho', hn'⟩ => ?_) (fun acc n' ⟨L, ha, hl, hL, ho', hn'⟩ => ?_)
    · obtain ⟨hi, rfl⟩ := rng_at hx
      walk_at "ex"
      refine ⟨_, _, rfl, rfl, by omega, by omega, by omega, fun x hx => ?_⟩
      unfold sgD at hx
      obtain ⟨c, hc, rfl⟩ := List.mem_map.mp hx
      refine ⟨by rw [ha, chD_len, hl]; exact small1000 (by omega), L ++ [c], by rw [ha]; unfold chD; rw [List.map_append]; rfl, by rw [List.length_append, hl]; rfl, fun y hy => ?_, by rw [Kw.ob_adv]; exact ho', by rw [Kw.wt_adv]; omega⟩
      rcases List.mem_append.mp hy with e | e
      · exact hL y e
      · rw [List.mem_singleton.mp e]; exact zl c hc
    · subst ha
      rw [rngD_len] at hl hn'
      have hl : L.length = 1 + k := by omega
      walk_at "ex"
      refine x_joinC (by omega) ?_
      walk_at "ex"
      refine cutI (fun ρ n' => ∃ (M : List Nat) (y6 : Cell), ρ = [.d STRM, .d (.int m), .d (.int (1 + k)), .d (.int (j : Nat)), .d (.str z), .d (W M), y6] ∧ 0 < M.length ∧ M.length ≤ m ∧ Ltrs M ∧ Kw.ob n' = Kw.ob n ∧ Kw.wt n' ≤ Kw.wt n + 40) ?_ (fun ρ n' ⟨M, y6, e1, e2, e3, e4, e5, e6⟩ => ?_)
      · walk_at "ex"
        refine x_ite (fun c1 => ?_) (fun c1 => ?_)
        · walk_at "ex"
          refine ⟨_, rfl, by omega, by decide, by decide, fun r2 hr2 => ?_⟩
          walk_at "ex"
          refine x_ite (fun _ => ?_) (fun _ => ?_)
          · walk_at "ex"
            refine ⟨_, rfl, by rw [Kw.wt_adv]; omega, by decide, by decide, fun r3 hr3 => ?_⟩
            walk_at "ex"
            refine ⟨List.take (1 + (r3 : Int)).toNat L, 1 + k, rfl, by rw [show (1 + (k : Int)) = ((1 + k : Nat) : Int) by omega], by omega, by rw [List.length_take]; omega, ?_⟩
            walk_at "ex"
            have lm : (1 + k) ≤ (repW (1 + k) (List.take (1 + (r3 : Int)).toNat L)).length := by
              rw [repW_len, List.length_take]
              exact Nat.le_mul_of_pos_right _ (by omega)
            refine ⟨_, _, rfl, by rw [List.length_take]; omega, by rw [List.length_take]; omega, fun c hc => ?_, by first | exact ho' | (simp only [Kw.ob_adv]; exact ho'), by first | omega | (simp only [Kw.wt_adv]; done) | (simp only [Kw.wt_adv]; omega)⟩
            exact hL c (List.mem_of_mem_take (repW_mem (List.mem_of_mem_take hc)))
          · exact ⟨L, _, rfl, by omega, by omega, hL, by first | exact ho' | (simp only [Kw.ob_adv]; exact ho'), by first | omega | (simp only [Kw.wt_adv]; done) | (simp only [Kw.wt_adv]; omega)⟩
        · exact ⟨L, _, rfl, by omega, by omega, hL, by first | exact ho' | (simp only [Kw.ob_adv]; exact ho'), by first | omega | (simp only [Kw.wt_adv]; done) | (simp only [Kw.wt_adv]; omega)⟩
      · subst e1
        walk_at "ex"
        exact q M n' e5 e6 (by omega) (by omega) e4
end
end Kp
namespace Kp
open PySem PySem.Spec PyProof.Rows L2 Kb Km Kd
def sp_law_seen (C : Addr) : SpD := fun ds n Q _ => ∃ (a dx : Addr) (w : List Nat) (ws : List (List Nat)) (es : List Ed) (ch : PyData), ds = [OBJ a] ∧ Kw.ob n a = some (dkO C dx w ws es ch) ∧ Wd24 w ∧ es.length ≤ 61 ∧ (∀ e ∈ es, edFit e) ∧ Q (.str (seenD w es).shown) n
abbrev n_law_seen : List Str := ["_law_desk"]
theorem sc_law_seen : FnScope n_law_seen ["_law_desk"] (defScope s_law_seen) := ⟨rfl, rfl, rfl, by decide +kernel, rfl, by decide +kernel, by decide +kernel⟩
section
variable {P : Program} {w : World} {K : PySem.W.Frag} {mg : Str → Option Value} {base : Heap}
theorem ok_law_seen (M : En K mg) : FnG P w K mg base 4 M.f_law_seen M.fd_law_seen ["_law_desk"] (spD K (sp_law_seen M.c_Desk)) := by
  have G_Desk___len__ : FnOk P w K mg base CX0 2 M.f_Desk___len__ M.fd_Desk___len__ ["self"] (spD K (sp_Desk___len__ M.c_Desk)) := (ok_Desk___len__ M).mono (by decide)
  have G_Desk___str__ : FnOk P w K mg base CX0 1 M.f_Desk___str__ M.fd_Desk___str__ ["self"] (spD K (sp_Desk___str__ M.c_Desk)) := (ok_Desk___str__ M).mono (by decide)
  have G_Desk_edits : FnOk P w K mg base CX0 3 M.f_Desk_edits M.fd_Desk_edits ["self"] (spD K (sp_Desk_edits M.c_Desk)) := (ok_Desk_edits M).mono (by decide)
  have G_Desk_order : FnOk P w K mg base CX0 2 M.f_Desk_order M.fd_Desk_order ["self"] (spD K (sp_Desk_order M.c_Desk)) := (ok_Desk_order M).mono (by decide)
  have G_Desk_version : FnOk P w K mg base CX0 2 M.f_Desk_version M.fd_Desk_version ["self"] (spD K (sp_Desk_version M.c_Desk)) := (ok_Desk_version M).mono (by decide)
  have G_Desk_word : FnOk P w K mg base CX0 2 M.f_Desk_word M.fd_Desk_word ["self"] (spD K (sp_Desk_word M.c_Desk)) := (ok_Desk_word M).mono (by decide)
  refine okG M.F_law_seen sc_law_seen (fun ds n Q X h => ?_) (fun cdv A outer s H  hr hgd => ⟨_, (dss_one (ds_ret (de_b (cg_reprY hgd hr.units) (by rfl) M.m_repr (by decide +kernel) (da_cons (de_lst (da_cons (de_prop M.C_Desk M.h_Desk_word G_Desk_word hr M.b_Desk_word (de_var (pv 0))) (da_cons (de_prop M.C_Desk M.h_Desk_order G_Desk_order hr M.b_Desk_order (de_var (pv 0))) (da_cons (de_prop M.C_Desk M.h_Desk_version G_Desk_version hr M.b_Desk_version (de_var (pv 0))) (da_cons (de_meth0 (pe_meth0 (pl := _) (de_var (pv 0)) M.C_Desk M.h_Desk_edits G_Desk_edits hr M.b_Desk_edits .nil passD)) (da_cons (de_lenO M.h_Desk___len__ G_Desk___len__ hr M.b_Desk___len__ (by rfl) M.m_len (de_var (pv 0))) (da_cons (de_strO M.h_Desk___str__ G_Desk___str__ hr (unO hr) M.b_Desk___str__ (by rfl) M.m_str (de_var (pv 0))) da_nil))))))) da_nil)))), fun ds n Q X h => ?_⟩)
  · skip
    unfold sp_law_seen at h
    repeat (first | (rw [h.1]; rfl; done) | (obtain ⟨_, h⟩ := h))
  · skip
    obtain ⟨a, dx, w, ws, es, ch, rfl, ho, hw, hl, hf, q⟩ := h
    walk_at "ex"
    have h24 := hw.2.1
    refine ⟨a, dx, _, rfl, ho, a, dx, w, ws, es, ch, rfl, ho, ?_⟩
    walk_at "ex"
    refine ⟨a, dx, _, rfl, ho, a, dx, w, ws, es, ch, rfl, ho, hw, ?_⟩
    walk_at "ex"
    refine ⟨a, dx, _, rfl, ho, a, dx, w, ws, es, ch, rfl, ho, ?_⟩
    walk_at "ex"
    refine ⟨a, dx, _, rfl, ho, rfl, ?_⟩
    walk_at "ex"
    refine ⟨a, dx, w, ws, es, ch, rfl, ho, ?_⟩
    walk_at "ex"
    refine ⟨a, dx, _, rfl, ho, a, dx, w, ws, es, ch, rfl, ho, ⟨_, rfl, by omega, by omega⟩, ?_⟩
    walk_at "ex"
    refine ⟨a, dx, _, rfl, ho, a, dx, w, ws, es, ch, rfl, ho, by omega, by omega, ⟨_, rfl⟩, ?_⟩
    walk_at "ex"
    refine x_reprY (seen_rep hw hl hf) ?_
    exact q
end
end Kp
namespace Kd
open PySem PySem.Spec PyProof.Rows L2 Kb Km
def digB (c : Nat) : Bool := decide (48 ≤ c ∧ c ≤ 57)
def numB (L : List Nat) : Bool := decide (1 ≤ L.length ∧ L.length ≤ 3) && L.all digB && (decide (L = [48]) || decide (L.headD 0 ≠ 48))
theorem num_all : ∀ k ∈ List.range 1000, numB (numW k) = true := by decide +kernel
theorem num_1 : ∀ i ∈ List.range 10, ([48 + i] : List Nat) ∈ (List.range 1000).map numW := by decide +kernel
theorem num_2 : ∀ i ∈ List.range 10, ∀ j ∈ List.range 10, i ≠ 0 → ([48 + i, 48 + j] : List Nat) = numW (10 * i + j) := by decide +kernel
theorem num_3 : ∀ i ∈ List.range 10, ∀ j ∈ List.range 10, ∀ k ∈ List.range 10, i ≠ 0 → ([48 + i, 48 + j, 48 + k] : List Nat) = numW (100 * i + 10 * j + k) := by decide +kernel
theorem dig_of {c : Nat} (h : digB c = true) : ∃ i, i ∈ List.range 10 ∧ c = 48 + i := by
  have h : 48 ≤ c ∧ c ≤ 57 := of_decide_eq_true h
  exact ⟨c - 48, List.mem_range.mpr (by omega), by omega⟩
theorem isN_eq (L : List Nat) : isN L = numB L := by
  cases h : numB L with
  | false =>
    refine decide_eq_false fun z => ?_
    obtain ⟨k, hk, rfl⟩ := List.mem_map.mp z
    rw [num_all k hk] at h
    cases h
  | true =>
    refine decide_eq_true ?_
    unfold numB at h
    rw [Bool.and_eq_true, Bool.and_eq_true, decide_eq_true_iff, Bool.or_eq_true, decide_eq_true_iff, decide_eq_true_iff] at h
    obtain ⟨⟨⟨h1, h2⟩, h3⟩, h4⟩ := h
    match L, h1, h2, h3, h4 with
    | [a], _, _, h3, _ =>
      obtain ⟨i, hi, rfl⟩ := dig_of (by simpa using h3)
      exact num_1 i hi
    | [a, b], _, _, h3, h4 =>
      simp only [List.all_cons, List.all_nil, Bool.and_true, Bool.and_eq_true] at h3
      obtain ⟨i, hi, rfl⟩ := dig_of h3.1
      obtain ⟨j, hj, rfl⟩ := dig_of h3.2
      have ni : i ≠ 0 := fun z => by subst z; rcases h4 with h4 | h4 <;> simp at h4
      have := List.mem_range.mp hi
      have := List.mem_range.mp hj
      rw [num_2 i hi j hj ni]
      exact List.mem_map_of_mem (List.mem_range.mpr (by omega))
    | [a, b, c], _, _, h3, h4 =>
      simp only [List.all_cons, List.all_nil, Bool.and_true, Bool.and_eq_true] at h3
      obtain ⟨i, hi, rfl⟩ := dig_of h3.1
      obtain ⟨j, hj, rfl⟩ := dig_of h3.2.1
      obtain ⟨k, hk, rfl⟩ := dig_of h3.2.2
      have ni : i ≠ 0 := fun z => by subst z; rcases h4 with h4 | h4 <;> simp at h4
      have := List.mem_range.mp hi
      have := List.mem_range.mp hj
      have := List.mem_range.mp hk
      rw [num_3 i hi j hj k hk ni]
      exact List.mem_map_of_mem (List.mem_range.mpr (by omega))
    | [], h1, _, _, _ => exact absurd h1 (by simp)
    | _ :: _ :: _ :: _ :: _, _, h2, _, _ => simp only [List.length_cons] at h2; omega
def DIG : Str := Str.ofString "0123456789"
theorem dig_list : DIG.cps.toList = List.range' 48 10 := by decide +kernel
theorem x_digNot {P : PyData → Prop} {c : Nat} (h : P (.bool (!digB c))) : rInG true (W [c]) (.str (Str.ofString "0123456789")) P := by
  show P (.bool (true != isIn DIG ⟨#[c]⟩))
  rw [isIn_one, dig_list, show decide (c ∈ List.range' 48 10) = digB c from dec_iff (by rw [List.mem_range'_1]; omega), Bool.true_bne]
  exact h
theorem sgD_L (L : List Nat) : sgD ⟨L.toArray⟩ = L.map fun c => W [c] := by
  unfold sgD
  rw [List.toList_toArray]
  rfl
end Kd
namespace Kp
open PySem PySem.Spec PyProof.Rows L2 Kb Km Kd
def sp_law_is_number : SpD := fun ds n Q _ => ∃ L : List Nat, ds = [W L] ∧ L.length ≤ 1000 ∧ Q (.bool (isN L)) n
abbrev n_law_is_number : List Str := ["_law_word_here", "_law_sign"]
theorem sc_law_is_number : FnScope n_law_is_number ["_law_word_here"] (defScope s_law_is_number) := ⟨rfl, rfl, rfl, by decide +kernel, rfl, by decide +kernel, by decide +kernel⟩
section
variable {P : Program} {w : World} {K : PySem.W.Frag} {mg : Str → Option Value} {base : Heap}
theorem ok_law_is_number (M : En K mg) : FnOk P w K mg base CX0 1 M.f_law_is_number M.fd_law_is_number ["_law_word_here"] (spD K sp_law_is_number) := by
  refine okD M.F_law_is_number sc_law_is_number (fun ds n Q X h => ?_) (fun cdv A outer s H E hr => ⟨_, (dss_cons (ds_if (dt_w (dw_or (dt_not (dt_ch og_le og_le de_int (de_b cg_len (by rfl) M.m_len (by decide +kernel) (da_cons (de_var (pv 0)) da_nil)) de_int)) (dw_or1 (dt_k (og_ne0 hr.units) (de_lc (own := [("_law_sign", 1)]) rfl sc_law_is_number.nd (di_src (de_var (pv 0))) (blkOk_by (N := n_law_is_number) (sc := defScope s_law_is_number) (by decide +kernel)) (tc_name (i := 1)) (fun _ _ _ _ _ => (pg_name (i := 1) sc_law_is_number.nd rfl (Or.inl rfl))) (fun _ _ _ _ _ => (dts_one (dt_k og_notin (de_var (pv 1)) de_str (by rfl)))) (fun _ _ _ _ _ => (de_var (pv 1)))) (de_lst da_nil) (nomark _))))) (dss_one (ds_ret de_bl)) dss_nil)
      (dss_one (ds_ret (de_or (de_k (og_eq hr.units) (de_var (pv 0)) de_str (nomark _)) (de_one (de_k (og_ne hr.units) (de_at ig (de_var (pv 0)) de_int (fun _ _ => rfl)) de_str (nomark _))))))), fun ds n Q X h => ?_⟩)
  · skip
    unfold sp_law_is_number at h
    repeat (first | (rw [h.1]; rfl; done) | (obtain ⟨_, h⟩ := h))
  · skip
    obtain ⟨L, rfl, hl, q⟩ := h
    rw [isN_eq] at q
    walk_at "ex"
    refine x_ite (fun c1 => ?_) (fun c1 => ?_)
    · walk_at "ex"
      by_cases c2 : ((L.length : Nat) : Int) ≤ 3
      · rw [decide_eq_true c2]
        walk_at "ex"
        rw [sgD_L]
        refine lc_L (fun c => !digB c) (fun c => W [c]) (by omega) (fun c hc P R h1 h2 => ?_) ?_
        · walk_at "ex"
          refine x_digNot ⟨_, rfl, ?_⟩
          cases hd : digB c with
          | true =>
            have h2 := h2 (by rw [hd]; rfl)
            walk_at "ex"
            exact h2
          | false =>
            have h1 := h1 (by rw [hd]; rfl)
            walk_at "ex"
            exact h1
        · walk_at "ex"
          by_cases c3 : L.all digB = true
          · rw [List.filter_eq_nil_iff.mpr fun c hc => by rw [List.all_eq_true.mp c3 c hc]; decide]
            rw [show (!(List.map (fun c => W [c]) ([] : List Nat)).isEmpty) = false from rfl]
            walk_at "ex"
            rw [show Str.ofString "0" = ⟨([48] : List Nat).toArray⟩ from rfl]
            refine w_eq (A := L) (B := [48]) ?_
            walk_at "ex"
            have e1 : decide (1 ≤ L.length ∧ L.length ≤ 3) = true := decide_eq_true ⟨by omega, by omega⟩
            unfold numB at q
            rw [e1, c3] at q
            refine x_ite (fun c4 => ?_) (fun c4 => ?_)
            · rw [decide_eq_true c4] at q
              exact q
            · rw [decide_eq_false c4] at q
              obtain ⟨a, r, rfl⟩ : ∃ a r, L = a :: r := by
                cases L with
                | nil => simp at e1
                | cons a r => exact ⟨a, r, rfl⟩
              walk_at "ex"
              refine ⟨a, by rw [List.toList_toArray]; unfold L2.atI; rw [show ((0 : Int)) = ((0 : Nat) : Int) from rfl, ixNat (show 0 < (a :: r).length by simp)]; rfl, ?_⟩
              walk_at "ex"
              show Q (.bool (!decide (([a] : List Nat) = [48]))) n
              rw [show (!decide (([a] : List Nat) = [48])) = decide (a ≠ 48) by simp]
              exact q
          · have hf : ((L.filter fun c => !digB c).map fun c => W [c]).isEmpty = false := by
              cases hl : L.filter fun c => !digB c with
              | cons => rfl
              | nil => exact absurd (List.all_eq_true.mpr fun c hc => by simpa using List.filter_eq_nil_iff.mp hl c hc) c3
            rw [hf]
            walk_at "ex"
            rw [show numB L = false by unfold numB; rw [Bool.eq_false_iff.mpr c3]; simp] at q
            exact q
      · rw [decide_eq_false c2]
        walk_at "ex"
        rw [show numB L = false by unfold numB; rw [decide_eq_false (by omega)]; rfl] at q
        exact q
    · walk_at "ex"
      rw [show numB L = false by unfold numB; rw [decide_eq_false (by omega)]; rfl] at q
      exact q
end
end Kp
namespace Kd
open PySem PySem.Spec PyProof.Rows L2 Kb Km
def sizesL : List (Str × Int) := [("change", 2), ("grow", 1), ("shrink", 0), ("undo", 0), ("word", 0), ("order", 0), ("look", 1), ("found", 0), ("rank", 1), ("parts", 0), ("factors", 0)]
def szOf (nm : List Nat) : Int :=
  if nm = chC then 2 else if nm = grC then 1 else if nm = shC then 0 else if nm = unC then 0 else if nm = wdW then 0 else if nm = orW then 0 else if nm = lkC then 1 else if nm = foC then 0 else if nm = rkC then 1 else if nm = paC then 0 else if nm = faC then 0 else -1
theorem key_iff {z : Str} {A : List Nat} (h : z.cps.toList = A) (nm : List Nat) : ((Sum.inr z : Key) = Sum.inr (⟨nm.toArray⟩ : Str)) ↔ nm = A := by
  constructor
  · intro e
    injection e with e
    rw [← h, e]
  · intro e
    rw [e, ← h]
theorem getD_cons (p : Key × PyData) (ks : List (Key × PyData)) (k : Key) : getD (p :: ks) k = if p.1 = k then some p.2 else getD ks k := rfl
theorem size_get (nm : List Nat) : (getD (sizesL.map fun kv => ((Sum.inr kv.1 : Key), PyData.int kv.2)) (.inr ⟨nm.toArray⟩)).getD (.int (-1)) = .int (szOf nm) := by
  unfold sizesL szOf
  simp only [List.map_cons, List.map_nil, getD_cons]
  by_cases h : nm = chC
  · rw [if_pos ((key_iff (A := chC) (by decide +kernel) nm).mpr h), if_pos h]; rfl
  rw [if_neg (fun z => h ((key_iff (A := chC) (by decide +kernel) nm).mp z)), if_neg h]
  clear h
  by_cases h : nm = grC
  · rw [if_pos ((key_iff (A := grC) (by decide +kernel) nm).mpr h), if_pos h]; rfl
  rw [if_neg (fun z => h ((key_iff (A := grC) (by decide +kernel) nm).mp z)), if_neg h]
  clear h
  by_cases h : nm = shC
  · rw [if_pos ((key_iff (A := shC) (by decide +kernel) nm).mpr h), if_pos h]; rfl
  rw [if_neg (fun z => h ((key_iff (A := shC) (by decide +kernel) nm).mp z)), if_neg h]
  clear h
  by_cases h : nm = unC
  · rw [if_pos ((key_iff (A := unC) (by decide +kernel) nm).mpr h), if_pos h]; rfl
  rw [if_neg (fun z => h ((key_iff (A := unC) (by decide +kernel) nm).mp z)), if_neg h]
  clear h
  by_cases h : nm = wdW
  · rw [if_pos ((key_iff (A := wdW) (by decide +kernel) nm).mpr h), if_pos h]; rfl
  rw [if_neg (fun z => h ((key_iff (A := wdW) (by decide +kernel) nm).mp z)), if_neg h]
  clear h
  by_cases h : nm = orW
  · rw [if_pos ((key_iff (A := orW) (by decide +kernel) nm).mpr h), if_pos h]; rfl
  rw [if_neg (fun z => h ((key_iff (A := orW) (by decide +kernel) nm).mp z)), if_neg h]
  clear h
  by_cases h : nm = lkC
  · rw [if_pos ((key_iff (A := lkC) (by decide +kernel) nm).mpr h), if_pos h]; rfl
  rw [if_neg (fun z => h ((key_iff (A := lkC) (by decide +kernel) nm).mp z)), if_neg h]
  clear h
  by_cases h : nm = foC
  · rw [if_pos ((key_iff (A := foC) (by decide +kernel) nm).mpr h), if_pos h]; rfl
  rw [if_neg (fun z => h ((key_iff (A := foC) (by decide +kernel) nm).mp z)), if_neg h]
  clear h
  by_cases h : nm = rkC
  · rw [if_pos ((key_iff (A := rkC) (by decide +kernel) nm).mpr h), if_pos h]; rfl
  rw [if_neg (fun z => h ((key_iff (A := rkC) (by decide +kernel) nm).mp z)), if_neg h]
  clear h
  by_cases h : nm = paC
  · rw [if_pos ((key_iff (A := paC) (by decide +kernel) nm).mpr h), if_pos h]; rfl
  rw [if_neg (fun z => h ((key_iff (A := paC) (by decide +kernel) nm).mp z)), if_neg h]
  clear h
  by_cases h : nm = faC
  · rw [if_pos ((key_iff (A := faC) (by decide +kernel) nm).mpr h), if_pos h]; rfl
  rw [if_neg (fun z => h ((key_iff (A := faC) (by decide +kernel) nm).mp z)), if_neg h]
  rfl
/-- is it a command -/
def cmdB (l : List (List Nat)) : Bool := decide (szOf (l.headD []) = (l.length : Int) - 1) && (!decide ([] ∈ l) && (!decide (l.headD [] = chC ∨ l.headD [] = rkC) || isN (l.getD 1 [])))
def cmdV : PyData → Bool
  | .str z => cmdB (splW z.cps.toList)
  | _ => false
theorem size_le (nm : List Nat) : szOf nm ≤ 2 := by
  unfold szOf
  repeat' split
  all_goals decide
theorem ch_size {nm : List Nat} (h : szOf nm = 2) : nm = chC := by
  by_cases c : nm = chC
  · exact c
  · unfold szOf at h
    rw [if_neg c] at h
    repeat' split at h
    all_goals cases h
theorem one_size {nm : List Nat} (h : szOf nm = 1) : nm = grC ∨ nm = lkC ∨ nm = rkC := by
  unfold szOf at h
  repeat' split at h
  all_goals first | (cases h; done) | (rename_i e; exact .inl e) | (rename_i e; exact .inr (.inl e)) | (rename_i e; exact .inr (.inr e))
theorem no_size {nm : List Nat} (h : szOf nm = 0) : nm = shC ∨ nm = unC ∨ nm = wdW ∨ nm = orW ∨ nm = foC ∨ nm = paC ∨ nm = faC := by
  unfold szOf at h
  repeat' split at h
  all_goals first | (cases h; done) | (rename_i e; simp only [e, true_or, or_true])
/-- what is no command is not known -/
theorem com_no (s : Dst) {l : List (List Nat)} (h : cmdB l = false) : comA s l = unkA s := by
  by_cases c : [] ∈ l
  · exact comA_un c
  have hn : ∀ (m : Int), szOf (l.headD []) = m → m = (l.length : Int) - 1 → (¬ (l.headD [] = chC ∨ l.headD [] = rkC) ∨ isN (l.getD 1 []) = true) → False := fun m h1 h2 h3 => by
    unfold cmdB at h
    rw [decide_eq_true (h1.trans h2), decide_eq_false c, Bool.true_and, Bool.not_false, Bool.true_and, Bool.or_eq_false_iff] at h
    rcases h3 with h3 | h3
    · rw [decide_eq_false h3] at h; exact absurd h.1 (by decide)
    · rw [h3] at h; exact absurd h.2 (by decide)
  match l, c, hn with
  | [], _, _ => exact comA_no (by simp) (by simp) (by simp) (by simp)
  | [nm], c, hn =>
    rw [comA_1 c]
    refine oneA_no (fun e => ?_) (fun e => ?_) (fun e => ?_) (fun e => ?_) (fun e => ?_) (fun e => ?_) (fun e => ?_) <;> (subst e; exact hn 0 (by decide) rfl (.inl (by decide)))
  | [nm, v], c, hn =>
    rw [comA_2 c]
    by_cases e1 : nm = grC
    · subst e1; exact (hn 1 (show szOf grC = 1 by decide) rfl (.inl (by show ¬ (grC = chC ∨ grC = rkC); decide))).elim
    by_cases e2 : nm = lkC
    · subst e2; exact (hn 1 (show szOf lkC = 1 by decide) rfl (.inl (by show ¬ (lkC = chC ∨ lkC = rkC); decide))).elim
    by_cases e3 : nm = rkC
    · subst e3
      rw [twoA_rkC]
      unfold rankA
      by_cases e4 : isN v = true
      · exact (hn 1 (show szOf rkC = 1 by decide) rfl (.inr e4)).elim
      · rw [if_neg e4]
    · exact twoA_no e1 e2 e3
  | [nm, a, b], c, hn =>
    rw [comA_3 c]
    unfold chA
    by_cases e1 : nm = chC
    · rw [if_pos e1]
      subst e1
      by_cases e4 : isN a = true
      · exact (hn 2 (show szOf chC = 2 by decide) rfl (.inr e4)).elim
      · rw [if_neg e4]
    · rw [if_neg e1]
  | _ :: _ :: _ :: _ :: _, c, _ => exact comA_no c (by simp) (by simp) (by simp)
/-- an answer that is not 'unknown command' -/
def NotU (r : Rs) : Prop := ∀ t s', r = .ok (t, s') → t ≠ unkW
theorem NotU.of {t : List Nat} {s : Dst} (h : t ≠ unkW) : NotU (.ok (t, s)) := fun t' s' e => by cases e; exact h
theorem NotU.er {e : Ec} : NotU (.error e) := fun _ _ h => by cases h
theorem head_ne {t : List Nat} (h : t.headD 0 ≠ 117) : t ≠ unkW := fun e => h (by rw [e]; rfl)
theorem num_head (k : Nat) (h : k < 1000) : (numW k).headD 0 ≠ 117 := by
  obtain ⟨h1, h2, _⟩ := num_ok3 h
  cases e : numW k with
  | nil => rw [e] at h2; cases h2
  | cons c r =>
    have := h1 c (by rw [e]; exact List.mem_cons_self)
    show c ≠ 117
    omega
theorem join_head {M : List Nat} {Ls : List (List Nat)} (h : M ≠ []) : (joinB (M :: Ls)).headD 0 = M.headD 0 := by
  cases M with
  | nil => exact absurd rfl h
  | cons c r => cases Ls <;> rfl
theorem plT_ne {r : List Nat} (h : ∀ p ∈ r, p < 1000) : plT r ≠ unkW := by
  unfold plT
  split
  · decide
  · cases r with
    | nil => exact absurd rfl ‹_›
    | cons p r =>
      refine head_ne ?_
      rw [List.map_cons, join_head (fun e => by have := (num_ok3 (h p List.mem_cons_self)).2.1; rw [e] at this; cases this)]
      exact num_head p (h p List.mem_cons_self)
theorem doE_u (s : Dst) (e : Eg) : NotU (doE s e) := fun t s' h => by
  unfold doE at h
  split at h
  · cases h; exact head_ne (by show (111 : Nat) ≠ 117; decide)
  · cases h
theorem fac_u (w : List Nat) (h : Ltrs w) (w0 : 0 < w.length) : joinB (lcut w) ≠ unkW := fun e => by
  have h0 : lcut w ≠ [] := by rw [lcut_cons w0]; simp
  have z := spl_joinB h0 (fun M hM hc => by have := lcut_ltrs h hM 32 hc; unfold Ltr at this; omega)
  rw [e] at z
  have s1 := (lcut_all (M := w) [117, 110, 107, 110, 111, 119, 110] (by rw [← z]; decide +kernel)).1
  have := s1.2 1 (by decide) (by decide)
  revert this
  decide
theorem plc_1000 {w P : List Nat} (h : w.length ≤ 24) : ∀ p ∈ plc w P, p < 1000 := fun p hp => by
  have := List.mem_range.mp (List.mem_filter.mp hp).1
  omega
/-- what is a command is answered with another text -/
theorem com_yes {s : Dst} (hs : s.Ok) {l : List (List Nat)} (l0 : 0 < l.length) (h : cmdB l = true) : NotU (comA s l) := by
  unfold cmdB at h
  rw [Bool.and_eq_true, Bool.and_eq_true, decide_eq_true_iff] at h
  obtain ⟨h1, h2, h3⟩ := h
  have c : ¬ [] ∈ l := by simpa using h2
  have w2 := hs.w.2.1
  match l, l0, c, h1, h3 with
  | [nm], _, c, h1, _ =>
    rw [comA_1 c]
    have h1 : szOf nm = 0 := h1
    rcases no_size h1 with rfl | rfl | rfl | rfl | rfl | rfl | rfl
    · rw [oneA_shC]; exact doE_u s _
    · rw [oneA_unC]
      unfold undoA
      split
      · exact .er
      · exact .of (head_ne (by show (111 : Nat) ≠ 117; decide))
    · rw [oneA_wdW]; exact .of (head_ne (by rw [join_head (by decide)]; decide))
    · rw [oneA_orW]; exact .of (head_ne (by rw [join_head (by decide)]; decide))
    · rw [oneA_foC]
      refine .of (plT_ne ?_)
      cases s.p with
      | none => exact fun p hp => (List.not_mem_nil hp).elim
      | some P => exact plc_1000 w2
    · rw [oneA_paC]; exact .of (head_ne (num_head _ (Nat.lt_of_le_of_lt (parts_len w2) (by decide))))
    · rw [oneA_faC]; exact .of (fac_u _ hs.w.2.2 hs.w.1)
  | [nm, v], _, c, h1, h3 =>
    rw [comA_2 c]
    have h1 : szOf nm = 1 := h1
    rcases one_size h1 with rfl | rfl | rfl
    · rw [twoA_grC]; exact doE_u s _
    · rw [twoA_lkC]
      unfold lookA
      split
      · exact .of (plT_ne (plc_1000 w2))
      · exact .er
    · rw [twoA_rkC]
      unfold rankA
      have h3 : isN v = true := by simpa using h3
      rw [if_pos h3]
      split
      · rename_i hk
        exact .of (head_ne (num_head _ (by have := cnt_lt hk; omega)))
      · exact .er
  | [nm, a, b], _, c, h1, h3 =>
    rw [comA_3 c]
    have h1 : szOf nm = 2 := h1
    obtain rfl := ch_size h1
    unfold chA
    have h3 : isN a = true := by simpa using h3
    rw [if_pos rfl, if_pos h3]
    exact doE_u s _
  | a :: _ :: _ :: _ :: r, _, _, h1, _ =>
    have := size_le a
    have h1 : szOf a = ((a :: _ :: _ :: _ :: r).length : Int) - 1 := h1
    simp only [List.length_cons] at h1
    omega
theorem er_u (e : Ec) : erT e ≠ unkW := by
  cases e with
  | word d => exact head_ne (by show (101 : Nat) ≠ 117; decide)
  | er r => cases r <;> exact head_ne (by show (101 : Nat) ≠ 117; decide)
theorem spl_pos (L : List Nat) : 0 < (splW L).length := List.length_pos_iff.mpr (spl_ne L)
/-- told by the answer -/
theorem exe_cmd {s : Dst} (hs : s.Ok) (v : PyData) : (cmdV v = true → (exeA s v).1 ≠ unkW) ∧ (cmdV v = false → exeA s v = (unkW, s)) := by
  cases v with
  | str z =>
    show (cmdB (splW z.cps.toList) = true → (ansA s z.cps.toList).1 ≠ unkW) ∧ (cmdB (splW z.cps.toList) = false → ansA s z.cps.toList = (unkW, s))
    unfold ansA
    refine ⟨fun h => ?_, fun h => ?_⟩
    · have := com_yes hs (spl_pos _) h
      cases e : comA s (splW z.cps.toList) with
      | ok r => obtain ⟨t, s'⟩ := r; exact this t s' e
      | error e0 => exact er_u e0
    · rw [com_no s h]; rfl
  | _ => exact ⟨fun h => (by cases h), fun _ => rfl⟩
theorem x_ninLW {P : PyData → Prop} {Ls : List (List Nat)} {k : List Nat} (h : P (.bool (!decide (k ∈ Ls)))) : rInG true (W k) (.list (Ls.map W)) P := ⟨⟨rfl, scal_W Ls⟩, by
  show P (.bool (true != ((Ls.map W).any fun z => PyData.eqv z (W k))))
  rw [any_W, Bool.true_bne]
  exact h⟩
theorem nm_two (nm : List Nat) : decide (nm ∈ [chC, rkC]) = decide (nm = chC ∨ nm = rkC) := dec_iff (by simp)
theorem x_twoNot {P : PyData → Prop} {k : List Nat} (h : P (.bool (!decide (k = chC ∨ k = rkC)))) : rInG true (W k) (.list [.str (Str.ofString "change"), .str (Str.ofString "rank")]) P := x_ninLW (Ls := [chC, rkC]) (by rw [nm_two]; exact h)
end Kd
namespace Kp
open PySem PySem.Spec PyProof.Rows L2 Kb Km Kd
def sp_law_is_command : SpD := fun ds n Q _ => ∃ d : PyData, ds = [d] ∧ Fit d ∧ Q (.bool (cmdV d)) n
abbrev n_law_is_command : List Str := ["_law_value", "_law_words", "_law_sizes"]
theorem sc_law_is_command : FnScope n_law_is_command ["_law_value"] (defScope s_law_is_command) := ⟨rfl, rfl, rfl, by decide +kernel, rfl, by decide +kernel, by decide +kernel⟩
section
variable {P : Program} {w : World} {K : PySem.W.Frag} {mg : Str → Option Value} {base : Heap}
theorem ok_law_is_command (M : En K mg) : FnOk P w K mg base CX0 2 M.f_law_is_command M.fd_law_is_command ["_law_value"] (spD K sp_law_is_command) := by
  have G_law_is_number : FnOk P w K mg base CX0 1 M.f_law_is_number M.fd_law_is_number ["_law_word_here"] (spD K sp_law_is_number) := (ok_law_is_number M).mono (by decide)
  refine okD M.F_law_is_command sc_law_is_command (fun ds n Q X h => ?_) (fun cdv A outer s H E hr => ⟨_, (dss_cons (ds_if (dt_not (dt_val (de_isi (c := "str") (by decide) (by rfl) M.m_isinstance (de_var (pv 0)) (pe_bltn (v := .ty "str") (u := .type "str") (by rfl) M.m_str (by decide +kernel) rfl)))) (dss_one (ds_ret de_bl)) dss_nil)
      (dss_cons (ds_set (i := 1) sc_law_is_command.nd rfl (.inl rfl) (de_ms PySem.F.slot_str_split PySem.F.type_str_split mg_split (de_var (pv 0)) (da_cons de_str da_nil)))
      (dss_cons (ds_mk (i := 2) sc_law_is_command.nd rfl (.inl rfl) (dm_lits (.cons (fun _ => de_str) (fun _ => de_int) (.cons (fun _ => de_str) (fun _ => de_int) (.cons (fun _ => de_str) (fun _ => de_int) (.cons (fun _ => de_str) (fun _ => de_int) (.cons (fun _ => de_str) (fun _ => de_int) (.cons (fun _ => de_str) (fun _ => de_int) (.cons (fun _ => de_str) (fun _ => de_int) (.cons (fun _ => de_str) (fun _ => de_int) (.cons (fun _ => de_str) (fun _ => de_int) (.cons (fun _ => de_str) (fun _ => de_int) (.cons (fun _ => de_str) (fun _ => de_int) .nil))))))))))) rfl rfl (by simp) (by decide) (by decide) (by rfl) (by decide +kernel)))
      (dss_cons (ds_if (dt_w (dw_or (dt_k (og_ne hr.units) (de_dget2 (i := 2) hr.units (pv 2) (de_at ig (de_var (pv 1)) de_int (fun _ _ => rfl)) (de_neg de_int) ⟨rfl, rfl, rfl, rfl⟩) (de_o og_sub (de_b cg_len (by rfl) M.m_len (by decide +kernel) (da_cons (de_var (pv 1)) da_nil)) de_int) (nomark _)) (dw_or1 (dt_k og_in de_str (de_var (pv 1)) (by rfl))))) (dss_one (ds_ret de_bl)) dss_nil)
      (dss_one (ds_ret (de_or (de_k og_notin (de_at ig (de_var (pv 1)) de_int (fun _ _ => rfl)) (de_lst (da_cons de_str (da_cons de_str da_nil))) (by rfl)) (de_one (de_call G_law_is_number hr (by rfl) M.g_law_is_number M.F_law_is_number.kp M.b_law_is_number passD (da_cons (de_at ig (de_var (pv 1)) de_int (fun _ _ => rfl)) da_nil)))))))))), fun ds n Q X h => ?_⟩)
  · skip
    unfold sp_law_is_command at h
    repeat (first | (rw [h.1]; rfl; done) | (obtain ⟨_, h⟩ := h))
  · skip
    obtain ⟨d, rfl, ⟨f1, f2⟩, q⟩ := h
    walk_at "ex"
    refine ⟨f1, _, rfl, ?_⟩
    by_cases c : ∃ z, d = .str z
    · obtain ⟨z, rfl⟩ := c
      have lz := f2 z rfl
      rw [str_W z] at q ⊢
      have lz : z.cps.toList.length ≤ 1000 := by rw [Array.length_toList]; exact lz
      generalize z.cps.toList = L at q lz ⊢
      have q : Q (.bool (cmdB (splW L))) n := by
        have e : cmdV (W L) = cmdB (splW L) := by show cmdB (splW L.toArray.toList) = _; rw [List.toList_toArray]
        rwa [e] at q
      obtain ⟨l0, l1, l2⟩ := spl_fit lz
      rw [show isiD "str" (W L) = true from rfl]
      walk_at "ex"
      refine x_splitB (by omega) ?_
      generalize splW L = l at q l0 l1 l2 ⊢
      walk_at "ex"
      obtain ⟨w0, r, rfl⟩ : ∃ w0 r, l = w0 :: r := by
        cases l with
        | nil => cases l0
        | cons a r => exact ⟨a, r, rfl⟩
      have g0 : atI ((w0 :: r).map W) ((0 : Nat) : Int) = some (W w0) := at_first (f := W) rfl
      refine x_atL g0 ?_
      walk_at "ex"
      refine ⟨.inr ⟨w0.toArray⟩, rfl, ?_⟩
      rw [show (getD (List.map (fun kv => ((Sum.inr kv.fst : Key), PyData.int kv.snd)) [(Str.ofString "change", 2), (Str.ofString "grow", 1), (Str.ofString "shrink", 0), (Str.ofString "undo", 0), (Str.ofString "word", 0), (Str.ofString "order", 0), (Str.ofString "look", 1), (Str.ofString "found", 0), (Str.ofString "rank", 1), (Str.ofString "parts", 0), (Str.ofString "factors", 0)]) (.inr ⟨w0.toArray⟩)).getD (.int (-1)) = .int (szOf w0) from size_get w0]
      walk_at "ex"
      have e0 : (w0 :: r).headD [] = w0 := rfl
      unfold cmdB at q
      rw [e0] at q
      refine x_iteN (fun c1 => ?_) (fun c1 => ?_)
      · rw [List.length_map] at c1
        rw [decide_eq_false c1] at q
        walk_at "ex"
        exact q
      rw [List.length_map] at c1
      rw [decide_eq_true c1] at q
      walk_at "ex"
      refine x_inE ⟨_, rfl, ?_⟩
      by_cases c2 : [] ∈ w0 :: r
      · rw [decide_eq_true c2] at q ⊢
        walk_at "ex"
        exact q
      rw [decide_eq_false c2] at q ⊢
      walk_at "ex"
      refine x_atL g0 ?_
      walk_at "ex"
      refine x_twoNot ?_
      refine ⟨_, rfl, ?_⟩
      by_cases c3 : w0 = chC ∨ w0 = rkC
      · rw [decide_eq_true c3] at q ⊢
        walk_at "ex"
        obtain ⟨v, r', rfl⟩ : ∃ v r', r = v :: r' := by
          cases r with
          | nil =>
            rcases c3 with rfl | rfl
            · exact absurd c1 (by show ¬ (szOf chC = ((1 : Nat) : Int) - 1); decide)
            · exact absurd c1 (by show ¬ (szOf rkC = ((1 : Nat) : Int) - 1); decide)
          | cons v r' => exact ⟨v, r', rfl⟩
        refine x_atL (show atI ((w0 :: v :: r').map W) ((1 : Nat) : Int) = some (W v) from at_first (f := W) rfl) ?_
        walk_at "ex"
        exact ⟨v, rfl, l2 v (by simp), q⟩
      · rw [decide_eq_false c3] at q ⊢
        walk_at "ex"
        exact q
    · obtain ⟨c1, c2⟩ := not_str c
      rw [c1]
      walk_at "ex"
      rw [show cmdV d = false by cases d <;> first | rfl | exact absurd ⟨_, rfl⟩ c] at q
      exact q
end
end Kp
namespace Kd
open PySem PySem.Spec PyProof.Rows L2 Kb Km
def linesK : List PyData := [.str "change 0 a", .str "change 1 b", .str "grow a", .str "shrink", .str "undo", .str "word", .str "order", .str "look a", .str "found", .str "rank 0"]
  ++ [.str "parts", .str "factors", .str "change 999 A", .str "look A1", .str "rank 999", .str "", .str " ", .str "Word", .str "word ", .str " word"]
  ++ [.str "word 0", .str "change", .str "change 0", .str "change 0 a b", .str "change  0 a", .str "grow", .str "grow ", .str "grow a b"]
  ++ [.str "shrink 0", .str "look", .str "look ", .str "look a b", .str "rank", .str "rank 00", .str "rank 01", .str "rank +1", .str "rank -1"]
  ++ [.str "rank 1_0", .str "rank 1000", .str "rank 0.0", .str "rank a", .str "change a 0", .str "change 01 a", .str "undo 1", .str "order 0"]
  ++ [.str "found a", .str "parts 0", .str "factors 0", .str "word\n", .str "\nword", .str "grow \n", .str "unknown command", .str "ok"]
  ++ [.str "none", .str "run", .str "edits", .str "pattern", .str "walk", .str "log", .str "word ana", .str "change 0a", .str "look\na"]
def lineB (d : PyData) : Bool := match d with
  | .str z => decide (z.cps.toList.length ≤ 40)
  | _ => false
theorem lines_all : linesK.all lineB = true := by decide +kernel
theorem lines_W {d : PyData} (h : d ∈ linesK) : ∃ L : List Nat, d = W L ∧ L.length ≤ 40 := by
  have := List.all_eq_true.mp lines_all d h
  cases d with
  | str z => exact ⟨z.cps.toList, str_W z, of_decide_eq_true this⟩
  | _ => cases this
theorem fit_lines {d : PyData} (h : d ∈ linesK) : Fit d := by
  obtain ⟨L, rfl, hl⟩ := lines_W h
  exact fit_W (by omega)
end Kd
namespace Kp
open PySem PySem.Spec PyProof.Rows L2 Kb Km Kd
def sp_law_lines : SpD := fun ds n Q _ => ds = [] ∧ Q (.list linesK) n
abbrev n_law_lines : List Str := ["_law_found"]
theorem sc_law_lines : FnScope n_law_lines [] (defScope s_law_lines) := ⟨rfl, rfl, rfl, by decide +kernel, rfl, by decide +kernel, by decide +kernel⟩
section
variable {P : Program} {w : World} {K : PySem.W.Frag} {mg : Str → Option Value} {base : Heap}
theorem ok_law_lines (M : En K mg) : FnOk P w K mg base CX0 1 M.f_law_lines M.fd_law_lines [] (spD K sp_law_lines) := by
  refine okD M.F_law_lines sc_law_lines (fun ds n Q X h => ?_) (fun cdv A outer s H E hr => ⟨_, (dss_cons (ds_set (i := 0) sc_law_lines.nd rfl (.inl rfl) (de_lst (da_cons de_str (da_cons de_str (da_cons de_str (da_cons de_str (da_cons de_str (da_cons de_str (da_cons de_str (da_cons de_str (da_cons de_str (da_cons de_str da_nil))))))))))))
      (dss_cons (ds_set (i := 0) sc_law_lines.nd rfl (.inl rfl) (de_o og_add (de_var (pv 0)) (de_lst (da_cons de_str (da_cons de_str (da_cons de_str (da_cons de_str (da_cons de_str (da_cons de_str (da_cons de_str (da_cons de_str (da_cons de_str (da_cons de_str da_nil)))))))))))))
      (dss_cons (ds_set (i := 0) sc_law_lines.nd rfl (.inl rfl) (de_o og_add (de_var (pv 0)) (de_lst (da_cons de_str (da_cons de_str (da_cons de_str (da_cons de_str (da_cons de_str (da_cons de_str (da_cons de_str (da_cons de_str da_nil)))))))))))
      (dss_cons (ds_set (i := 0) sc_law_lines.nd rfl (.inl rfl) (de_o og_add (de_var (pv 0)) (de_lst (da_cons de_str (da_cons de_str (da_cons de_str (da_cons de_str (da_cons de_str (da_cons de_str (da_cons de_str (da_cons de_str (da_cons de_str da_nil))))))))))))
      (dss_cons (ds_set (i := 0) sc_law_lines.nd rfl (.inl rfl) (de_o og_add (de_var (pv 0)) (de_lst (da_cons de_str (da_cons de_str (da_cons de_str (da_cons de_str (da_cons de_str (da_cons de_str (da_cons de_str (da_cons de_str da_nil)))))))))))
      (dss_cons (ds_set (i := 0) sc_law_lines.nd rfl (.inl rfl) (de_o og_add (de_var (pv 0)) (de_lst (da_cons de_str (da_cons de_str (da_cons de_str (da_cons de_str (da_cons de_str (da_cons de_str (da_cons de_str (da_cons de_str da_nil)))))))))))
      (dss_one (ds_ret (de_o og_add (de_var (pv 0)) (de_lst (da_cons de_str (da_cons de_str (da_cons de_str (da_cons de_str (da_cons de_str (da_cons de_str (da_cons de_str (da_cons de_str (da_cons de_str da_nil))))))))))))))))))), fun ds n Q X h => ?_⟩)
  · skip
    rw [h.1]; rfl
  · skip
    obtain ⟨rfl, q⟩ := h
    walk_at "ex"
    refine x_addL (Nat.le_trans (m := 100) (by decide) (by decide)) ?_
    walk_at "ex"
    refine x_addL (Nat.le_trans (m := 100) (by decide) (by decide)) ?_
    walk_at "ex"
    refine x_addL (Nat.le_trans (m := 100) (by decide) (by decide)) ?_
    walk_at "ex"
    refine x_addL (Nat.le_trans (m := 100) (by decide) (by decide)) ?_
    walk_at "ex"
    refine x_addL (Nat.le_trans (m := 100) (by decide) (by decide)) ?_
    walk_at "ex"
    refine x_addL (Nat.le_trans (m := 100) (by decide) (by decide)) ?_
    walk_at "ex"
    exact q
end
end Kp
namespace Kd
open PySem PySem.Spec PyProof.Rows L2 Kb Km
theorem sign_at {z : Str} {k : Nat} (h : k < z.length) : ∃ c : Nat, atI z.cps.toList (k : Int) = some c := by
  have h : k < z.cps.toList.length := by rw [Array.length_toList]; exact h
  refine ⟨z.cps.toList[k], ?_⟩
  unfold L2.atI
  rw [ixNat h]
  exact List.getElem?_eq_getElem h
theorem four_atW (A B C D : List Nat) {k : Nat} (h : k < 4) : ∃ E : List Nat, atI [W A, W B, W C, W D] (k : Int) = some (W E) ∧ (E = A ∨ E = B ∨ E = C ∨ E = D) := by
  rcases (by omega : k = 0 ∨ k = 1 ∨ k = 2 ∨ k = 3) with rfl | rfl | rfl | rfl
  · exact ⟨A, rfl, .inl rfl⟩
  · exact ⟨B, rfl, .inr (.inl rfl)⟩
  · exact ⟨C, rfl, .inr (.inr (.inl rfl))⟩
  · exact ⟨D, rfl, .inr (.inr (.inr rfl))⟩
end Kd
namespace Kp
open PySem PySem.Spec PyProof.Rows L2 Kb Km Kd
def sp_law_changed : SpD := fun ds n Q _ => ∃ L : List Nat, ds = [STRM, W L] ∧ L.length ≤ 40 ∧ Kw.wt n ≤ 900000 ∧ ∀ (M : List Nat) (n' : Nat), M.length ≤ 50 → Kw.ob n' = Kw.ob n → Kw.wt n' ≤ Kw.wt n + 20 → Q (W M) n'
abbrev n_law_changed : List Str := ["_law_stream_here", "_law_line", "_law_turn", "_law_spot", "_law_sign", "_law_way", "_law_ahead", "_law_behind"]
theorem sc_law_changed : FnScope n_law_changed ["_law_stream_here", "_law_line"] (defScope s_law_changed) := ⟨rfl, rfl, rfl, by decide +kernel, rfl, by decide +kernel, by decide +kernel⟩
section
variable {P : Program} {w : World} {K : PySem.W.Frag} {mg : Str → Option Value} {base : Heap}
theorem ok_law_changed (M : En K mg) : FnOk P w K mg base CX0 2 M.f_law_changed M.fd_law_changed ["_law_stream_here", "_law_line"] (spD K sp_law_changed) := by
  have G_law_draw : FnOk P w K mg base CX0 1 M.f_law_draw M.fd_law_draw ["_law_stream_here", "_law_many"] (spD K sp_law_draw) := (ok_law_draw M).mono (by decide)
  refine okD M.F_law_changed sc_law_changed (fun ds n Q X h => ?_) (fun cdv A outer s H E hr => ⟨_, (dss_cons (ds_for PassesOwn.never rfl (di_range1 (by rfl) M.m_range (da_cons (de_o og_add de_int (de_call G_law_draw hr (by rfl) M.g_law_draw M.F_law_draw.kp M.b_law_draw passD (da_cons (de_var (pv 0)) (da_cons de_int da_nil)))) da_nil)) (pg_name (i := 2) sc_law_changed.nd rfl (.inl rfl)) (tg_name (i := 2)) (dss_cons (ds_set (i := 3) sc_law_changed.nd rfl (.inl rfl) (de_call G_law_draw hr (by rfl) M.g_law_draw M.F_law_draw.kp M.b_law_draw passD (da_cons (de_var (pv 0)) (da_cons (de_o og_add (de_b cg_len (by rfl) M.m_len (by decide +kernel) (da_cons (de_var (pv 1)) da_nil)) de_int) da_nil))))
      (dss_cons (ds_set (i := 4) sc_law_changed.nd rfl (.inl rfl) (de_at ig de_str (de_call G_law_draw hr (by rfl) M.g_law_draw M.F_law_draw.kp M.b_law_draw passD (da_cons (de_var (pv 0)) (da_cons de_int da_nil))) (fun _ _ => rfl)))
      (dss_cons (ds_par3 (i := 5) (j := 6) (l := 7) rfl sc_law_changed.nd rfl rfl rfl (by decide) (by decide) (by decide) rfl rfl rfl (da_cons (de_call G_law_draw hr (by rfl) M.g_law_draw M.F_law_draw.kp M.b_law_draw passD (da_cons (de_var (pv 0)) (da_cons de_int da_nil))) (da_cons (de_cut sg (de_var (pv 1)) do_none (do_some (de_var (pv 3)))) (da_cons (de_cut sg (de_var (pv 1)) (do_some (de_var (pv 3))) do_none) da_nil))) (by rfl))
      (dss_cons (ds_set (i := 7) sc_law_changed.nd rfl (.inl rfl) (de_at ig (de_lst (da_cons (de_o og_add (de_var (pv 4)) (de_var (pv 7))) (da_cons (de_cut sg (de_var (pv 7)) (do_some de_int) do_none) (da_cons (de_o og_add (de_var (pv 4)) (de_cut sg (de_var (pv 7)) (do_some de_int) do_none)) (da_cons (de_o og_add (de_o og_add (de_cut sg (de_var (pv 7)) (do_some de_int) (do_some de_int)) (de_cut sg (de_var (pv 7)) do_none (do_some de_int))) (de_cut sg (de_var (pv 7)) (do_some de_int) do_none)) da_nil))))) (de_var (pv 5)) (fun _ _ => rfl)))
      (dss_one (ds_set (i := 1) sc_law_changed.nd rfl (.inl rfl) (de_o og_add (de_var (pv 6)) (de_var (pv 7))))))))))
      (dss_one (ds_ret (de_var (pv 1))))), fun ds n Q X h => ?_⟩)
  · skip
    unfold sp_law_changed at h
    repeat (first | (rw [h.1]; rfl; done) | (obtain ⟨_, h⟩ := h))
  · skip
    obtain ⟨L, rfl, hl, hn, q⟩ := h
    walk_at "ex"
    refine ⟨3, rfl, by omega, by decide, by decide, fun v hv => ?_⟩
    walk_at "ex"
    refine for_rng0 (fun i ρ k => ∃ (M : List Nat) (y2 y3 y4 y5 y6 y7 : Cell), M.length ≤ 40 + i ∧ Kw.ob k = Kw.ob n ∧ Kw.wt k ≤ Kw.wt n + 1 + 5 * i ∧ ρ = [.d STRM, .d (W M), y2, y3, y4, y5, y6, y7]) ⟨L, _, _, _, _, _, _, by omega, Kw.ob_adv _ _, by rw [Kw.wt_adv]; omega, rfl⟩ (fun i ρ k hi ⟨M, y2, y3, y4, y5, y6, y7, hM, ho, hk, e⟩ => ?_) (fun ρ k ⟨M, y2, y3, y4, y5, y6, y7, hM, ho, hk, e⟩ => ?_)
    · subst e
      have hi : i < 3 := by omega
      walk_at "ex"
      refine ⟨_, rfl, by omega, by omega, by omega, fun a ha => ?_⟩
      walk_at "ex"
      refine ⟨35, rfl, by rw [Kw.wt_adv]; omega, by decide, by decide, fun b hb => ?_⟩
      walk_at "ex"
      obtain ⟨c, hc⟩ := sign_at (z := Str.ofString "  -+_0123456789acdefghiklnoprstuw\nA") (k := b) (by rw [show (Str.ofString "  -+_0123456789acdefghiklnoprstuw\nA").length = 35 by decide +kernel]; omega)
      refine ⟨c, hc, ?_⟩
      rw [show PyData.str (⟨#[c]⟩ : Str) = W [c] from rfl]
      walk_at "ex"
      refine ⟨4, rfl, by rw [Kw.wt_adv, Kw.wt_adv]; omega, by decide, by decide, fun w hw => ?_⟩
      walk_at "ex"
      obtain ⟨E, hE, hE2⟩ := four_atW ([c] ++ List.drop a M) (List.drop (Int.toNat 1) (List.drop a M)) ([c] ++ List.drop (Int.toNat 1) (List.drop a M)) (List.take (Int.toNat 2 - Int.toNat 1) (List.drop (Int.toNat 1) (List.drop a M)) ++ List.take (Int.toNat 1) (List.drop a M) ++ List.drop (Int.toNat 2) (List.drop a M)) (k := w) (by omega)
      have lE : E.length ≤ M.length - a + 1 := by
        rcases hE2 with rfl | rfl | rfl | rfl <;> simp only [List.length_append, List.length_drop, List.length_take, List.length_singleton] <;> omega
      refine x_atL hE ?_
      clear hE hE2
      walk_at "ex"
      exact ⟨_, _, _, _, _, _, _, by rw [List.length_append, List.length_take]; omega, by rw [Kw.ob_adv, Kw.ob_adv, Kw.ob_adv]; exact ho, by rw [Kw.wt_adv, Kw.wt_adv, Kw.wt_adv]; omega, rfl⟩
    · subst e
      walk_at "ex"
      exact q M k (by omega) ho (by omega)
end
end Kp
namespace Kd
open PySem PySem.Spec PyProof.Rows L2 Kb Km
def Fits (s : Dst) : Prop := ∀ e ∈ s.es, edFit e
def GoodF (r : Rs) : Prop := ∀ t s', r = .ok (t, s') → Fits s'
theorem GoodF.of {t : List Nat} {s : Dst} (h : Fits s) : GoodF (.ok (t, s)) := fun t' s' e => by cases e; exact h
theorem GoodF.er {e : Ec} : GoodF (.error e) := fun t' s' h => by cases h
theorem gf_doE {s : Dst} (h : s.Ok) (f : Fits s) (e : Eg) : GoodF (doE s e) := fun t s' q => by
  unfold doE at q
  split at q
  · rename_i x hx
    cases q
    unfold egAns at hx
    split at hx
    · cases hx
    · intro y hy
      have hy : y ∈ s.es ++ [x] := hy
      rcases List.mem_append.mp hy with hy | hy
      · exact f y hy
      · rw [List.mem_singleton.mp hy]
        exact edFit_of h.w (egOut_ok hx h.w).1
  · cases q
theorem gf_one {s : Dst} (h : s.Ok) (f : Fits s) (nm : List Nat) : GoodF (oneA s nm) := by
  unfold oneA
  split
  · exact gf_doE h f _
  split
  · unfold undoA
    split
    · exact .er
    · exact .of fun y hy => f y ((List.dropLast_sublist _).subset hy)
  split
  · exact .of f
  split
  · exact .of f
  split
  · exact .of f
  split
  · exact .of f
  split
  · exact .of f
  · exact .of f
theorem gf_two {s : Dst} (h : s.Ok) (f : Fits s) (nm v : List Nat) : GoodF (twoA s nm v) := by
  unfold twoA
  split
  · exact gf_doE h f _
  split
  · unfold lookA
    split
    · exact .of f
    · exact .er
  split
  · unfold rankA
    split
    · split
      · exact .of f
      · exact .er
    · exact .of f
  · exact .of f
theorem gf_com {s : Dst} (h : s.Ok) (f : Fits s) (l : List (List Nat)) : GoodF (comA s l) := by
  unfold comA
  split
  · exact .of f
  · split
    · exact gf_one h f _
    · exact gf_two h f _ _
    · unfold chA
      split
      · split
        · exact gf_doE h f _
        · exact .of f
      · exact .of f
    · exact .of f
theorem exe_fits {s : Dst} (h : s.Ok) (f : Fits s) (v : PyData) : Fits (exeA s v).2 := by
  cases v with
  | str z =>
    show Fits (ansA s z.cps.toList).2
    unfold ansA
    cases e : comA s (splW z.cps.toList) with
    | ok r => obtain ⟨t, s'⟩ := r; exact gf_com h f _ t s' e
    | error e0 => exact f
  | _ => exact f
theorem seen_sx {w : List Nat} {es : List Ed} (hw : Wd24 w) (hl : es.length ≤ 61) (h : ∀ e ∈ es, edFit e) : Sx (seenD w es) 85000 4 := by
  obtain ⟨t1, t2⟩ := dkT_ok (a := w.length) (b := es.length) (by have := hw.2.1; omega) (by omega)
  refine (Sx.list (n := 14000) (e := 3) (ds := [W w, .tuple (plD (tord w)), .int (es.length : Nat), .tuple (es.map edD), .int (w.length : Nat), W (dkT w.length es.length)]) fun x hx => ?_).mono (by simp only [List.length_cons, List.length_nil]; decide) (by decide)
  simp only [List.mem_cons, List.not_mem_nil, or_false] at hx
  rcases hx with rfl | rfl | rfl | rfl | rfl | rfl
  · exact (sx_wn hw.2.1 (ltr_lt hw.2.2)).mono (by decide) (by decide)
  · exact (sm_pl (r := tord w) fun i hi => by have := tord_lt hi; have := hw.2.1; omega).sx.mono (by rw [tord_len]; have := hw.2.1; omega) (by decide)
  · exact (sx_nat (by omega)).mono (by decide) (by decide)
  · exact sx_eds h hl
  · exact (sx_nat (by have := hw.2.1; omega)).mono (by decide) (by decide)
  · exact (sx_wn t1 t2).mono (by decide) (by decide)
theorem line_nl (v : PyData) (t : List Nat) : nlA [lineOf v, W t] = true := by cases v <;> rfl
end Kd
namespace Kp
open PySem PySem.Spec PyProof.Rows L2 Kb Km Kd
abbrev n_law : List Str := ["_law_script", "_law_stream_here", "_law_desk", "_law_console", "_law_values", "_law_k", "_law_value", "_law_held", "_law_answer"]
theorem sc_law : FnScope n_law ["_law_script"] (defScope s_law) := ⟨rfl, rfl, rfl, by decide +kernel, rfl, by decide +kernel, by decide +kernel⟩
section
variable {P : Program} {w : World} {K : PySem.W.Frag} {mg : Str → Option Value} {base : Heap}
theorem law_body (M : En K mg) {f : Addr} {cdv : Value} {s : Shared} {H : Hp} {a : Addr} {ns : List Int} (hS : SqL K H a (ns.map V.int)) (hn : ns.length ≤ 63) :
    ∃ t, PSs (cxOf CX0 P w K mg base n_law "law" (defScope s_law) f cdv callerA [] s H E0).nox (defBody s_law) t ∧
      t { nx := fun _ H' => (fun v (_ : Hp) => v = V.bl true) .non H', rt := fun v _ => v = .bl true } (start n_law [.ref a]) H := by
  have G_Console___init__ : FnOk P w K mg base CX0 13 M.f_Console___init__ M.fd_Console___init__ ["self", "desk"] (spD K (sp_Console___init__ M.c_Console)) := (ok_Console___init__ M).mono (by decide)
  have G_Console_execute : FnOk P w K mg base CX0 14 M.f_Console_execute M.fd_Console_execute ["self", "line"] (spD K (sp_Console_execute M.c_Console M.c_Desk)) := (ok_Console_execute M).mono (by decide)
  have G_Desk___init__ : FnOk P w K mg base CX0 13 M.f_Desk___init__ M.fd_Desk___init__ ["self", "word"] (spD K (sp_Desk___init__ M.c_Desk)) := (ok_Desk___init__ M).mono (by decide)
  have G_Desk_pattern : FnOk P w K mg base CX0 13 M.f_Desk_pattern M.fd_Desk_pattern ["self"] (spD K (sp_Desk_pattern M.c_Desk)) := (ok_Desk_pattern M).mono (by decide)
  have G_law_changed : FnOk P w K mg base CX0 14 M.f_law_changed M.fd_law_changed ["_law_stream_here", "_law_line"] (spD K sp_law_changed) := (ok_law_changed M).mono (by decide)
  have G_law_is_command : FnOk P w K mg base CX0 14 M.f_law_is_command M.fd_law_is_command ["_law_value"] (spD K sp_law_is_command) := (ok_law_is_command M).mono (by decide)
  have G_law_lines : FnOk P w K mg base CX0 14 M.f_law_lines M.fd_law_lines [] (spD K sp_law_lines) := (ok_law_lines M).mono (by decide)
  have G_law_odd : FnOk P w K mg base CX0 14 M.f_law_odd M.fd_law_odd ["_law_stream_here"] (spD K sp_law_odd) := (ok_law_odd M).mono (by decide)
  have G_law_pick : FnOk P w K mg base CX0 14 M.f_law_pick M.fd_law_pick ["_law_stream_here", "_law_items"] (spD K sp_law_pick) := (ok_law_pick M).mono (by decide)
  have G_law_seen : FnG P w K mg base 14 M.f_law_seen M.fd_law_seen ["_law_desk"] (spD K (sp_law_seen M.c_Desk)) := (ok_law_seen M).mono (by decide)
  have G_law_stream : FnOk P w K mg base CX0 14 M.f_law_stream M.fd_law_stream ["_law_script"] (spStream K) := ok_stream M.F_law_stream M.m_abs M.m_len
  have G_law_word : FnOk P w K mg base CX0 14 M.f_law_word M.fd_law_word ["_law_stream_here", "_law_most"] (spD K sp_law_word) := (ok_law_word M).mono (by decide)
  have hr : Room 14 (callerA.deeper (envOfC "law" (defScope s_law) s.heap.objs.size f cdv)) := Room.deeper (k := 14) ⟨rfl, by decide, by decide⟩ _
  refine lawD (i := 1) rfl (ps_set (i := 1) sc_law.nd rfl (.inl rfl) (pe_call G_law_stream hr (by rfl) M.g_law_stream M.F_law_stream.kp M.b_law_stream .nil pass0 (pa_cons (pv 0) pa_nil))) (fun σ Q e q => by subst e; exact ⟨.ref a, rfl, a, ns, rfl, hS, hn, q⟩) (dss_cons (ds_set (i := 2) sc_law.nd rfl (.inl rfl) (de_make M.h_Desk___init__ G_Desk___init__ hr (by rfl) M.g_Desk M.b_Desk___init__ passD (da_cons (de_call G_law_word hr (by rfl) M.g_law_word M.F_law_word.kp M.b_law_word passD (da_cons (de_var (pv 1)) (da_cons de_int da_nil))) da_nil)))
      (dss_cons (ds_par (i := 3) (j := 4) (by rfl) sc_law.nd rfl rfl (by decide) rfl rfl (da_cons (de_make M.h_Console___init__ G_Console___init__ hr (by rfl) M.g_Console M.b_Console___init__ passD (da_cons (de_var (pv 2)) da_nil)) (da_cons (de_lst (da_cons de_non (da_cons de_int (da_cons de_bl (da_cons (de_tup (da_cons de_str da_nil)) (da_cons (de_lst (da_cons de_str da_nil)) (da_cons de_dct0 da_nil))))))) da_nil)) (by rfl))
      (dss_cons (ds_own (i := 4) sc_law.nd rfl (.inl rfl) (df_add (de_o og_add (de_var (pv 4)) (de_call0 G_law_lines hr (by rfl) M.g_law_lines M.F_law_lines.kp M.b_law_lines passD)) (de_lst (da_cons (de_call G_law_odd hr (by rfl) M.g_law_odd M.F_law_odd.kp M.b_law_odd passD (da_cons (de_var (pv 1)) da_nil)) da_nil))))
      (dss_cons (ds_for PassesOwn.never rfl (di_range1 (by rfl) M.m_range (da_cons de_int da_nil)) (pg_name (i := 5) sc_law.nd rfl (.inl rfl)) (tg_name (i := 5)) (dss_one (ds_append (i := 4) (pv 4) (de_call G_law_changed hr (by rfl) M.g_law_changed M.F_law_changed.kp M.b_law_changed passD (da_cons (de_var (pv 1)) (da_cons (de_call G_law_pick hr (by rfl) M.g_law_pick M.F_law_pick.kp M.b_law_pick passD (da_cons (de_var (pv 1)) (da_cons (de_call0 G_law_lines hr (by rfl) M.g_law_lines M.F_law_lines.kp M.b_law_lines passD) da_nil))) da_nil))))))
      (dss_frz (i := 4) (dss_cons (ds_for PassesOwn.never rfl (di_src (de_var (pv 4))) (pg_name (i := 6) sc_law.nd rfl (.inl rfl)) (tg_name (i := 6)) (dss_cons (ds_par (i := 7) (j := 8) (by rfl) sc_law.nd rfl rfl (by decide) rfl rfl (da_cons (de_o og_add (de_cg G_law_seen hr rfl (by rfl) M.g_law_seen M.F_law_seen.kp M.b_law_seen (da_cons (de_var (pv 2)) da_nil)) (de_b (cg_reprY rfl hr.units) (by rfl) M.m_repr (by decide +kernel) (da_cons (de_prop M.C_Desk M.h_Desk_pattern G_Desk_pattern hr M.b_Desk_pattern (de_var (pv 2))) da_nil))) (da_cons (de_meth (pe_meth (pl := _) (de_var (pv 3)) M.C_Console M.h_Console_execute G_Console_execute hr M.b_Console_execute .nil passD (da_cons (de_var (pv 6)) da_nil))) da_nil)) (by rfl))
      (dss_cons (ds_if (dt_w (dw_or (dt_not (dt_val (de_isi (c := "str") (by decide) (by rfl) M.m_isinstance (de_var (pv 8)) (pe_bltn (v := .ty "str") (u := .type "str") (by rfl) M.m_str (by decide +kernel) rfl)))) (dw_or1 (dt_k (og_eq hr.units) (de_k (og_eq hr.units) (de_var (pv 8)) de_str (nomark _)) (de_call G_law_is_command hr (by rfl) M.g_law_is_command M.F_law_is_command.kp M.b_law_is_command passD (da_cons (de_var (pv 6)) da_nil)) (nomark _))))) (dss_one (ds_ret de_bl)) dss_nil)
      (dss_one (ds_if (dt_w (dw_and (dt_k (og_eq hr.units) (de_var (pv 8)) de_str (nomark _)) (dw_and1 (dt_k (og_ne hr.units) (de_o og_add (de_cg G_law_seen hr rfl (by rfl) M.g_law_seen M.F_law_seen.kp M.b_law_seen (da_cons (de_var (pv 2)) da_nil)) (de_b (cg_reprY rfl hr.units) (by rfl) M.m_repr (by decide +kernel) (da_cons (de_prop M.C_Desk M.h_Desk_pattern G_Desk_pattern hr M.b_Desk_pattern (de_var (pv 2))) da_nil))) (de_var (pv 7)) (nomark _))))) (dss_one (ds_ret de_bl)) dss_nil)))))
      (dss_one (ds_ret de_bl)))))))) (fun n hn0 => ?_)
  walk_at "ex"
  refine ⟨8, rfl, by have := hn0.1; omega, by decide, by decide, fun L k1 ho1 ht1 l0 l1 lt => ?_⟩
  walk_at "ex"
  intro a dx h1 h2 ne
  have hL : Wd24 L := ⟨l0, by omega, lt⟩
  refine ⟨a, dx, L, rfl, Kw.ob_put _ _ _, hL, fun n2 u => ⟨rfl, ?_⟩⟩
  have ht2 : Kw.wt n2 ≤ 40 := by rw [u.wt, Kw.wt_put, Kw.wt_put]; have := hn0.1; omega
  walk_at "ex"
  intro c dc h3 h4 ne0
  refine ⟨c, dc, a, rfl, Kw.ob_put _ _ _, fun n3 u3 => ⟨rfl, ?_⟩⟩
  have ht3 : Kw.wt n3 ≤ 40 := by rw [u3.wt, Kw.wt_put, Kw.wt_put]; exact ht2
  have ha : Kw.ob n3 a = some ((⟨L, [], [], none⟩ : Dst).ob M.c_Desk dx) := stay3 h3 h4 u3 u.at_
  have hc := u3.at_
  have ca : c ≠ a := fun z => by subst z; rw [u.at_] at h3; cases h3
  clear u3 u h3 h4 h1 h2
  walk_at "ex"
  refine ⟨rfl, ?_⟩
  generalize hz : linesK = ll
  have hll : ∀ d ∈ ll, Fit d := fun d hd => fit_lines (by rw [hz]; exact hd)
  have lll : ll.length = 62 := by rw [← hz]; decide +kernel
  refine x_addL (Nat.le_trans (show 6 + ll.length ≤ 100 by omega) (by decide)) ?_
  walk_at "ex"
  refine ⟨rfl, by omega, fun od hod => ?_⟩
  walk_at "ex"
  refine ⟨_, _, rfl, rfl, Nat.le_trans (m := 100) ?_ (by decide), ?_⟩
  · rw [List.length_append, List.length_singleton]
    show 6 + ll.length + 1 ≤ 100
    omega
  have hv0 : ∀ d ∈ [PyData.none, .int 5, .bool true, .tuple [.str (Str.ofString "word")], .list [.str (Str.ofString "undo")], .dict []] ++ ll ++ [od], Fit d := fun d hd => by
    rcases List.mem_append.mp hd with hd | hd
    · rcases List.mem_append.mp hd with hd | hd
      · simp only [List.mem_cons, List.not_mem_nil, or_false] at hd
        rcases hd with rfl | rfl | rfl | rfl | rfl | rfl <;> exact ⟨rfl, fun z e => by cases e⟩
      · exact hll d hd
    · rw [List.mem_singleton.mp hd]; exact odd_fit od hod
  have lv0 : ([PyData.none, .int 5, .bool true, .tuple [.str (Str.ofString "word")], .list [.str (Str.ofString "undo")], .dict []] ++ ll ++ [od]).length ≤ 100 := by
    rw [List.length_append, List.length_append, List.length_singleton]
    show 6 + ll.length + 1 ≤ 100
    omega
  generalize [PyData.none, .int 5, .bool true, .tuple [.str (Str.ofString "word")], .list [.str (Str.ofString "undo")], .dict []] ++ ll ++ [od] = v0 at hv0 lv0 ⊢
  walk_at "ex"
  refine for_rng0 (fun i ρ k => ∃ (vs : List PyData) (y5 y6 y7 y8 : Cell), vs.length ≤ 100 + i ∧ (∀ d ∈ vs, Fit d) ∧ Kw.wt k ≤ 41 + 30 * i ∧ Kw.ob k = Kw.ob n3 ∧ ρ = [.no, .d STRM, .d (OBJ a), .d (OBJ c), .own vs, y5, y6, y7, y8]) ⟨v0, _, _, _, _, by omega, hv0, by rw [Kw.wt_adv]; omega, Kw.ob_adv _ _, rfl⟩ (fun i ρ k hi ⟨vs, y5, y6, y7, y8, lv, hv, hk, ho, e⟩ => ?_) (fun ρ k ⟨vs, y5, y6, y7, y8, lv, hv, hk, ho, e⟩ => ?_)
  · subst e
    have hi : i < 20 := hi
    walk_at "ex"
    refine ⟨rfl, ?_⟩
    walk_at "ex"
    refine ⟨_, linesK, rfl, rfl, by omega, by decide +kernel, by decide +kernel, fun x hx => ?_⟩
    obtain ⟨Lx, rfl, hM⟩ := lines_W hx
    walk_at "ex"
    refine ⟨Lx, rfl, hM, by rw [Kw.wt_adv]; omega, fun M2 k2 hM2 ho2 ht2 => ?_⟩
    refine ⟨small1000 (by omega), ?_⟩
    walk_at "ex"
    refine ⟨_, _, _, _, _, by rw [List.length_append, List.length_singleton]; omega, fun d hd => ?_, by rw [Kw.wt_adv] at ht2; omega, by rw [ho2, Kw.ob_adv]; exact ho, rfl⟩
    rcases List.mem_append.mp hd with hd | hd
    · exact hv d hd
    · rw [List.mem_singleton.mp hd]; exact fit_W (by omega)
  · subst e
    refine x_frz rfl ?_
    have ha : Kw.ob k a = some ((⟨L, [], [], none⟩ : Dst).ob M.c_Desk dx) := by rw [ho]; exact ha
    have hc : Kw.ob k c = some (cnO M.c_Console dc a []) := by rw [ho]; exact hc
    walk_at "ex"
    refine for_pred (R := Fit) hv (fun ρ k => ∃ (s : Dst) (ps : List PyData) (y6 y7 y8 : Cell), Kw.ob k a = some (s.ob M.c_Desk dx) ∧ s.Ok ∧ Fits s ∧ Kw.ob k c = some (cnO M.c_Console dc a ps) ∧ ps.length ≤ 20 ∧ nlA ps = true ∧ ρ = [.no, .d STRM, .d (OBJ a), .d (OBJ c), .d (.list vs), y5, y6, y7, y8]) ⟨_, [], _, _, _, ha, ⟨hL, Nat.zero_le _, rfl, fun v hv => (List.not_mem_nil hv).elim, fun P e => by cases e⟩, fun e he => (List.not_mem_nil he).elim, hc, Nat.zero_le _, rfl, rfl⟩ (fun v ρ k fv ⟨s, ps, y6, y7, y8, ha, hs, hf, hc, lp, np, e⟩ => ?_) (fun ρ k ⟨s, ps, y6, y7, y8, ha, hs, hf, hc, lp, np, e⟩ => ?_)
    · subst e
      walk_at "ex"
      refine ⟨a, dx, s.w, s.ws, s.es, patD s.p, rfl, ha, hs.w, by have := hs.n; omega, hf, ?_⟩
      walk_at "ex"
      refine ⟨a, dx, _, rfl, ha, a, dx, s.w, s.ws, s.es, patD s.p, rfl, ha, ?_⟩
      have s1 := seen_sx hs.w (by have := hs.n; omega) hf
      have s2 := sx_pat hs.p
      have rq := s2.rep (by decide) (by decide)
      walk_at "ex"
      refine x_reprY rq ?_
      refine x_addS (Nat.le_trans (Nat.add_le_add s1.ln s2.ln) (by decide)) ?_
      generalize hheld : (seenD s.w s.es).shown ++ (patD s.p).shown = held
      walk_at "ex"
      refine ⟨c, dc, _, rfl, hc, rfl, ?_⟩
      walk_at "ex"
      refine ⟨c, dc, a, dx, ps, s, v, rfl, hc, ha, hs, ca, fv, lp, np, fun n1 n' u1 u2 => ?_⟩
      have ha2 : Kw.ob n' a = some ((exeA s v).2.ob M.c_Desk dx) := by rw [u2.ne a ca.symm]; exact u1.at_
      have hc2 := u2.at_
      have np2 : nlA (last20 (ps ++ [.tuple [lineOf v, W (exeA s v).1]])) = true := nl_last (nlA_snoc np (line_nl v _))
      have lp2 := last_len (ps ++ [.tuple [lineOf v, W (exeA s v).1]])
      obtain ⟨ok2, _⟩ := exe_fit hs v
      have f2 := exe_fits hs hf v
      obtain ⟨cy, cno⟩ := exe_cmd hs v
      generalize last20 (ps ++ [.tuple [lineOf v, W (exeA s v).1]]) = ps2 at hc2 np2 lp2
      clear u1 u2
      walk_at "ex"
      rw [show Str.ofString "unknown command" = ⟨unkW.toArray⟩ from by decide +kernel]
      refine w_eq (A := (exeA s v).1) (B := unkW) ?_
      walk_at "ex"
      refine ⟨v, rfl, fv, ?_⟩
      cases hcv : cmdV v with
      | true =>
        have ht := cy hcv
        rw [decide_eq_false ht]
        walk_at "ex"
        refine x_eqB ⟨_, rfl, ?_⟩
        rw [if_neg (by decide)]
        walk_at "ex"
        refine w_eq (A := (exeA s v).1) (B := unkW) ?_
        walk_at "ex"
        rw [decide_eq_false ht]
        walk_at "ex"
        exact ⟨_, _, _, _, _, ha2, ok2, f2, hc2, lp2, np2, rfl⟩
      | false =>
        have ht := cno hcv
        rw [ht] at ha2 ok2 f2 ⊢
        rw [decide_eq_true rfl]
        walk_at "ex"
        refine x_eqB ⟨_, rfl, ?_⟩
        rw [if_neg (by decide)]
        walk_at "ex"
        refine w_eq (A := unkW) (B := unkW) ?_
        walk_at "ex"
        rw [decide_eq_true rfl]
        walk_at "ex"
        refine ⟨a, dx, s.w, s.ws, s.es, patD s.p, rfl, ha2, hs.w, by have := hs.n; omega, hf, ?_⟩
        walk_at "ex"
        refine ⟨a, dx, _, rfl, ha2, a, dx, s.w, s.ws, s.es, patD s.p, rfl, ha2, ?_⟩
        walk_at "ex"
        refine x_reprY rq ?_
        refine x_addS (Nat.le_trans (Nat.add_le_add s1.ln s2.ln) (by decide)) ?_
        rw [hheld]
        walk_at "ex"
        refine x_iteN (fun c => absurd rfl c) (fun _ => ?_)
        walk_at "ex"
        exact ⟨_, _, _, _, _, ha2, hs, hf, hc2, lp2, np2, rfl⟩
    · subst e
      walk_at "ex"
      exact rfl
end
end Kp
namespace Kp
open PySem PySem.Spec PyProof.Rows L2 Kb Km Kd
theorem all_mk {l : PySem.W.OpenLaw} {w : World} {K : PySem.W.Frag} {h : Heap} {mg : Str → Option Value} {fa f_law_stream f_law_draw f_law_pick f_is_whole f_is_place f_check_place f_rank_places f_word_error f_is_word f_is_letter f_tail_order f_tail_ranks f_ranks_of f_first_lower f_factor_places f_factors f_common_length f_heads_of f_each_part f_count_parts f_word_text f_order_text f_places_text f_is_number f_Console___init__ f_done f_Desk_word f_Desk_order f_places_of f_Desk_found f_Desk_check_free f_check_letter f_changed f_lengthened f_shortened f_edited f_Desk_check_result f_Desk_do_edit f_Desk_do_alone f_Desk_shrink f_Desk_undo f_do_one_word f_check_word f_Desk_pattern_set f_Desk_look f_Desk_grow f_Desk_rank_of f_do_two_words f_Desk_change f_do_command f_answer_to f_Console_execute f_Desk___init__ f_Desk_version f_Desk_pattern f_Desk_edits f_Desk___len__ f_Desk___str__ f_law_odd f_law_word f_law_seen f_law_is_number f_law_is_command f_law_lines f_law_changed f_law : Addr} (X : K.In h) (G : h.Ns mainGlobals mg) (hfa : mg "law" = some (.ref fa))
    {od_law_stream an_law_stream : Option Addr} {sl_law_stream : Array (Option Value)} {oc_law_stream kV_law_stream dc_law_stream pm_law_stream cd_law_stream ct_law_stream : Value}
    (a_law_stream : PySem.W.nsIn K mainGlobals "_law_stream" = some (some (.ref f_law_stream)))
    {od_law_draw an_law_draw : Option Addr} {sl_law_draw : Array (Option Value)} {oc_law_draw kV_law_draw dc_law_draw pm_law_draw cd_law_draw ct_law_draw : Value}
    (a_law_draw : PySem.W.nsIn K mainGlobals "_law_draw" = some (some (.ref f_law_draw)))
    {od_law_pick an_law_pick : Option Addr} {sl_law_pick : Array (Option Value)} {oc_law_pick kV_law_pick dc_law_pick pm_law_pick cd_law_pick ct_law_pick : Value}
    (a_law_pick : PySem.W.nsIn K mainGlobals "_law_pick" = some (some (.ref f_law_pick)))
    {od_is_whole an_is_whole : Option Addr} {sl_is_whole : Array (Option Value)} {oc_is_whole kV_is_whole dc_is_whole pm_is_whole cd_is_whole ct_is_whole : Value}
    (a_is_whole : PySem.W.nsIn K mainGlobals "is_whole" = some (some (.ref f_is_whole)))
    {od_is_place an_is_place : Option Addr} {sl_is_place : Array (Option Value)} {oc_is_place kV_is_place dc_is_place pm_is_place cd_is_place ct_is_place : Value}
    (a_is_place : PySem.W.nsIn K mainGlobals "is_place" = some (some (.ref f_is_place)))
    {od_check_place an_check_place : Option Addr} {sl_check_place : Array (Option Value)} {oc_check_place kV_check_place dc_check_place pm_check_place cd_check_place ct_check_place : Value}
    (a_check_place : PySem.W.nsIn K mainGlobals "check_place" = some (some (.ref f_check_place)))
    {od_rank_places an_rank_places : Option Addr} {sl_rank_places : Array (Option Value)} {oc_rank_places kV_rank_places dc_rank_places pm_rank_places cd_rank_places ct_rank_places : Value}
    (a_rank_places : PySem.W.nsIn K mainGlobals "rank_places" = some (some (.ref f_rank_places)))
    {od_word_error an_word_error : Option Addr} {sl_word_error : Array (Option Value)} {oc_word_error kV_word_error dc_word_error pm_word_error cd_word_error ct_word_error : Value}
    (a_word_error : PySem.W.nsIn K mainGlobals "word_error" = some (some (.ref f_word_error)))
    {od_is_word an_is_word : Option Addr} {sl_is_word : Array (Option Value)} {oc_is_word kV_is_word dc_is_word pm_is_word cd_is_word ct_is_word : Value}
    (a_is_word : PySem.W.nsIn K mainGlobals "is_word" = some (some (.ref f_is_word)))
    {od_is_letter an_is_letter : Option Addr} {sl_is_letter : Array (Option Value)} {oc_is_letter kV_is_letter dc_is_letter pm_is_letter cd_is_letter ct_is_letter : Value}
    (a_is_letter : PySem.W.nsIn K mainGlobals "is_letter" = some (some (.ref f_is_letter)))
    {od_tail_order an_tail_order : Option Addr} {sl_tail_order : Array (Option Value)} {oc_tail_order kV_tail_order dc_tail_order pm_tail_order cd_tail_order ct_tail_order : Value}
    (a_tail_order : PySem.W.nsIn K mainGlobals "tail_order" = some (some (.ref f_tail_order)))
    {od_tail_ranks an_tail_ranks : Option Addr} {sl_tail_ranks : Array (Option Value)} {oc_tail_ranks kV_tail_ranks dc_tail_ranks pm_tail_ranks cd_tail_ranks ct_tail_ranks : Value}
    (a_tail_ranks : PySem.W.nsIn K mainGlobals "tail_ranks" = some (some (.ref f_tail_ranks)))
    {od_ranks_of an_ranks_of : Option Addr} {sl_ranks_of : Array (Option Value)} {oc_ranks_of kV_ranks_of dc_ranks_of pm_ranks_of cd_ranks_of ct_ranks_of : Value}
    (a_ranks_of : PySem.W.nsIn K mainGlobals "ranks_of" = some (some (.ref f_ranks_of)))
    {od_first_lower an_first_lower : Option Addr} {sl_first_lower : Array (Option Value)} {oc_first_lower kV_first_lower dc_first_lower pm_first_lower cd_first_lower ct_first_lower : Value}
    (a_first_lower : PySem.W.nsIn K mainGlobals "first_lower" = some (some (.ref f_first_lower)))
    {od_factor_places an_factor_places : Option Addr} {sl_factor_places : Array (Option Value)} {oc_factor_places kV_factor_places dc_factor_places pm_factor_places cd_factor_places ct_factor_places : Value}
    (a_factor_places : PySem.W.nsIn K mainGlobals "factor_places" = some (some (.ref f_factor_places)))
    {od_factors an_factors : Option Addr} {sl_factors : Array (Option Value)} {oc_factors kV_factors dc_factors pm_factors cd_factors ct_factors : Value}
    (a_factors : PySem.W.nsIn K mainGlobals "factors" = some (some (.ref f_factors)))
    {od_common_length an_common_length : Option Addr} {sl_common_length : Array (Option Value)} {oc_common_length kV_common_length dc_common_length pm_common_length cd_common_length ct_common_length : Value}
    (a_common_length : PySem.W.nsIn K mainGlobals "common_length" = some (some (.ref f_common_length)))
    {od_heads_of an_heads_of : Option Addr} {sl_heads_of : Array (Option Value)} {oc_heads_of kV_heads_of dc_heads_of pm_heads_of cd_heads_of ct_heads_of : Value}
    (a_heads_of : PySem.W.nsIn K mainGlobals "heads_of" = some (some (.ref f_heads_of)))
    {od_each_part an_each_part : Option Addr} {sl_each_part : Array (Option Value)} {oc_each_part kV_each_part dc_each_part pm_each_part cd_each_part ct_each_part : Value}
    (a_each_part : PySem.W.nsIn K mainGlobals "each_part" = some (some (.ref f_each_part)))
    {od_count_parts an_count_parts : Option Addr} {sl_count_parts : Array (Option Value)} {oc_count_parts kV_count_parts dc_count_parts pm_count_parts cd_count_parts ct_count_parts : Value}
    (a_count_parts : PySem.W.nsIn K mainGlobals "count_parts" = some (some (.ref f_count_parts)))
    {od_word_text an_word_text : Option Addr} {sl_word_text : Array (Option Value)} {oc_word_text kV_word_text dc_word_text pm_word_text cd_word_text ct_word_text : Value}
    (a_word_text : PySem.W.nsIn K mainGlobals "word_text" = some (some (.ref f_word_text)))
    {od_order_text an_order_text : Option Addr} {sl_order_text : Array (Option Value)} {oc_order_text kV_order_text dc_order_text pm_order_text cd_order_text ct_order_text : Value}
    (a_order_text : PySem.W.nsIn K mainGlobals "order_text" = some (some (.ref f_order_text)))
    {od_places_text an_places_text : Option Addr} {sl_places_text : Array (Option Value)} {oc_places_text kV_places_text dc_places_text pm_places_text cd_places_text ct_places_text : Value}
    (a_places_text : PySem.W.nsIn K mainGlobals "places_text" = some (some (.ref f_places_text)))
    {od_is_number an_is_number : Option Addr} {sl_is_number : Array (Option Value)} {oc_is_number kV_is_number dc_is_number pm_is_number cd_is_number ct_is_number : Value}
    (a_is_number : PySem.W.nsIn K mainGlobals "is_number" = some (some (.ref f_is_number)))
    {od_Console___init__ an_Console___init__ : Option Addr} {sl_Console___init__ : Array (Option Value)} {oc_Console___init__ kV_Console___init__ dc_Console___init__ pm_Console___init__ cd_Console___init__ ct_Console___init__ : Value}
    {od_done an_done : Option Addr} {sl_done : Array (Option Value)} {oc_done kV_done dc_done pm_done cd_done ct_done : Value}
    (a_done : PySem.W.nsIn K mainGlobals "done" = some (some (.ref f_done)))
    {od_Desk_word an_Desk_word : Option Addr} {sl_Desk_word : Array (Option Value)} {oc_Desk_word kV_Desk_word dc_Desk_word pm_Desk_word cd_Desk_word ct_Desk_word : Value}
    {od_Desk_order an_Desk_order : Option Addr} {sl_Desk_order : Array (Option Value)} {oc_Desk_order kV_Desk_order dc_Desk_order pm_Desk_order cd_Desk_order ct_Desk_order : Value}
    {od_places_of an_places_of : Option Addr} {sl_places_of : Array (Option Value)} {oc_places_of kV_places_of dc_places_of pm_places_of cd_places_of ct_places_of : Value}
    (a_places_of : PySem.W.nsIn K mainGlobals "places_of" = some (some (.ref f_places_of)))
    {od_Desk_found an_Desk_found : Option Addr} {sl_Desk_found : Array (Option Value)} {oc_Desk_found kV_Desk_found dc_Desk_found pm_Desk_found cd_Desk_found ct_Desk_found : Value}
    {od_Desk_check_free an_Desk_check_free : Option Addr} {sl_Desk_check_free : Array (Option Value)} {oc_Desk_check_free kV_Desk_check_free dc_Desk_check_free pm_Desk_check_free cd_Desk_check_free ct_Desk_check_free : Value}
    {od_check_letter an_check_letter : Option Addr} {sl_check_letter : Array (Option Value)} {oc_check_letter kV_check_letter dc_check_letter pm_check_letter cd_check_letter ct_check_letter : Value}
    (a_check_letter : PySem.W.nsIn K mainGlobals "check_letter" = some (some (.ref f_check_letter)))
    {od_changed an_changed : Option Addr} {sl_changed : Array (Option Value)} {oc_changed kV_changed dc_changed pm_changed cd_changed ct_changed : Value}
    (a_changed : PySem.W.nsIn K mainGlobals "changed" = some (some (.ref f_changed)))
    {od_lengthened an_lengthened : Option Addr} {sl_lengthened : Array (Option Value)} {oc_lengthened kV_lengthened dc_lengthened pm_lengthened cd_lengthened ct_lengthened : Value}
    (a_lengthened : PySem.W.nsIn K mainGlobals "lengthened" = some (some (.ref f_lengthened)))
    {od_shortened an_shortened : Option Addr} {sl_shortened : Array (Option Value)} {oc_shortened kV_shortened dc_shortened pm_shortened cd_shortened ct_shortened : Value}
    (a_shortened : PySem.W.nsIn K mainGlobals "shortened" = some (some (.ref f_shortened)))
    {od_edited an_edited : Option Addr} {sl_edited : Array (Option Value)} {oc_edited kV_edited dc_edited pm_edited cd_edited ct_edited : Value}
    (a_edited : PySem.W.nsIn K mainGlobals "edited" = some (some (.ref f_edited)))
    {od_Desk_check_result an_Desk_check_result : Option Addr} {sl_Desk_check_result : Array (Option Value)} {oc_Desk_check_result kV_Desk_check_result dc_Desk_check_result pm_Desk_check_result cd_Desk_check_result ct_Desk_check_result : Value}
    {od_Desk_do_edit an_Desk_do_edit : Option Addr} {sl_Desk_do_edit : Array (Option Value)} {oc_Desk_do_edit kV_Desk_do_edit dc_Desk_do_edit pm_Desk_do_edit cd_Desk_do_edit ct_Desk_do_edit : Value}
    {od_Desk_do_alone an_Desk_do_alone : Option Addr} {sl_Desk_do_alone : Array (Option Value)} {oc_Desk_do_alone kV_Desk_do_alone dc_Desk_do_alone pm_Desk_do_alone cd_Desk_do_alone ct_Desk_do_alone : Value}
    {od_Desk_shrink an_Desk_shrink : Option Addr} {sl_Desk_shrink : Array (Option Value)} {oc_Desk_shrink kV_Desk_shrink dc_Desk_shrink pm_Desk_shrink cd_Desk_shrink ct_Desk_shrink : Value}
    {od_Desk_undo an_Desk_undo : Option Addr} {sl_Desk_undo : Array (Option Value)} {oc_Desk_undo kV_Desk_undo dc_Desk_undo pm_Desk_undo cd_Desk_undo ct_Desk_undo : Value}
    {od_do_one_word an_do_one_word : Option Addr} {sl_do_one_word : Array (Option Value)} {oc_do_one_word kV_do_one_word dc_do_one_word pm_do_one_word cd_do_one_word ct_do_one_word : Value}
    (a_do_one_word : PySem.W.nsIn K mainGlobals "do_one_word" = some (some (.ref f_do_one_word)))
    {od_check_word an_check_word : Option Addr} {sl_check_word : Array (Option Value)} {oc_check_word kV_check_word dc_check_word pm_check_word cd_check_word ct_check_word : Value}
    (a_check_word : PySem.W.nsIn K mainGlobals "check_word" = some (some (.ref f_check_word)))
    {od_Desk_pattern_set an_Desk_pattern_set : Option Addr} {sl_Desk_pattern_set : Array (Option Value)} {oc_Desk_pattern_set kV_Desk_pattern_set dc_Desk_pattern_set pm_Desk_pattern_set cd_Desk_pattern_set ct_Desk_pattern_set : Value}
    {od_Desk_look an_Desk_look : Option Addr} {sl_Desk_look : Array (Option Value)} {oc_Desk_look kV_Desk_look dc_Desk_look pm_Desk_look cd_Desk_look ct_Desk_look : Value}
    {od_Desk_grow an_Desk_grow : Option Addr} {sl_Desk_grow : Array (Option Value)} {oc_Desk_grow kV_Desk_grow dc_Desk_grow pm_Desk_grow cd_Desk_grow ct_Desk_grow : Value}
    {od_Desk_rank_of an_Desk_rank_of : Option Addr} {sl_Desk_rank_of : Array (Option Value)} {oc_Desk_rank_of kV_Desk_rank_of dc_Desk_rank_of pm_Desk_rank_of cd_Desk_rank_of ct_Desk_rank_of : Value}
    {od_do_two_words an_do_two_words : Option Addr} {sl_do_two_words : Array (Option Value)} {oc_do_two_words kV_do_two_words dc_do_two_words pm_do_two_words cd_do_two_words ct_do_two_words : Value}
    (a_do_two_words : PySem.W.nsIn K mainGlobals "do_two_words" = some (some (.ref f_do_two_words)))
    {od_Desk_change an_Desk_change : Option Addr} {sl_Desk_change : Array (Option Value)} {oc_Desk_change kV_Desk_change dc_Desk_change pm_Desk_change cd_Desk_change ct_Desk_change : Value}
    {od_do_command an_do_command : Option Addr} {sl_do_command : Array (Option Value)} {oc_do_command kV_do_command dc_do_command pm_do_command cd_do_command ct_do_command : Value}
    (a_do_command : PySem.W.nsIn K mainGlobals "do_command" = some (some (.ref f_do_command)))
    {od_answer_to an_answer_to : Option Addr} {sl_answer_to : Array (Option Value)} {oc_answer_to kV_answer_to dc_answer_to pm_answer_to cd_answer_to ct_answer_to : Value}
    (a_answer_to : PySem.W.nsIn K mainGlobals "answer_to" = some (some (.ref f_answer_to)))
    {od_Console_execute an_Console_execute : Option Addr} {sl_Console_execute : Array (Option Value)} {oc_Console_execute kV_Console_execute dc_Console_execute pm_Console_execute cd_Console_execute ct_Console_execute : Value}
    {od_Desk___init__ an_Desk___init__ : Option Addr} {sl_Desk___init__ : Array (Option Value)} {oc_Desk___init__ kV_Desk___init__ dc_Desk___init__ pm_Desk___init__ cd_Desk___init__ ct_Desk___init__ : Value}
    {od_Desk_version an_Desk_version : Option Addr} {sl_Desk_version : Array (Option Value)} {oc_Desk_version kV_Desk_version dc_Desk_version pm_Desk_version cd_Desk_version ct_Desk_version : Value}
    {od_Desk_pattern an_Desk_pattern : Option Addr} {sl_Desk_pattern : Array (Option Value)} {oc_Desk_pattern kV_Desk_pattern dc_Desk_pattern pm_Desk_pattern cd_Desk_pattern ct_Desk_pattern : Value}
    {od_Desk_edits an_Desk_edits : Option Addr} {sl_Desk_edits : Array (Option Value)} {oc_Desk_edits kV_Desk_edits dc_Desk_edits pm_Desk_edits cd_Desk_edits ct_Desk_edits : Value}
    {od_Desk___len__ an_Desk___len__ : Option Addr} {sl_Desk___len__ : Array (Option Value)} {oc_Desk___len__ kV_Desk___len__ dc_Desk___len__ pm_Desk___len__ cd_Desk___len__ ct_Desk___len__ : Value}
    {od_Desk___str__ an_Desk___str__ : Option Addr} {sl_Desk___str__ : Array (Option Value)} {oc_Desk___str__ kV_Desk___str__ dc_Desk___str__ pm_Desk___str__ cd_Desk___str__ ct_Desk___str__ : Value}
    {od_law_odd an_law_odd : Option Addr} {sl_law_odd : Array (Option Value)} {oc_law_odd kV_law_odd dc_law_odd pm_law_odd cd_law_odd ct_law_odd : Value}
    (a_law_odd : PySem.W.nsIn K mainGlobals "_law_odd" = some (some (.ref f_law_odd)))
    {od_law_word an_law_word : Option Addr} {sl_law_word : Array (Option Value)} {oc_law_word kV_law_word dc_law_word pm_law_word cd_law_word ct_law_word : Value}
    (a_law_word : PySem.W.nsIn K mainGlobals "_law_word" = some (some (.ref f_law_word)))
    {od_law_seen an_law_seen : Option Addr} {sl_law_seen : Array (Option Value)} {oc_law_seen kV_law_seen dc_law_seen pm_law_seen cd_law_seen ct_law_seen : Value}
    (a_law_seen : PySem.W.nsIn K mainGlobals "_law_seen" = some (some (.ref f_law_seen)))
    {od_law_is_number an_law_is_number : Option Addr} {sl_law_is_number : Array (Option Value)} {oc_law_is_number kV_law_is_number dc_law_is_number pm_law_is_number cd_law_is_number ct_law_is_number : Value}
    (a_law_is_number : PySem.W.nsIn K mainGlobals "_law_is_number" = some (some (.ref f_law_is_number)))
    {od_law_is_command an_law_is_command : Option Addr} {sl_law_is_command : Array (Option Value)} {oc_law_is_command kV_law_is_command dc_law_is_command pm_law_is_command cd_law_is_command ct_law_is_command : Value}
    (a_law_is_command : PySem.W.nsIn K mainGlobals "_law_is_command" = some (some (.ref f_law_is_command)))
    {od_law_lines an_law_lines : Option Addr} {sl_law_lines : Array (Option Value)} {oc_law_lines kV_law_lines dc_law_lines pm_law_lines cd_law_lines ct_law_lines : Value}
    (a_law_lines : PySem.W.nsIn K mainGlobals "_law_lines" = some (some (.ref f_law_lines)))
    {od_law_changed an_law_changed : Option Addr} {sl_law_changed : Array (Option Value)} {oc_law_changed kV_law_changed dc_law_changed pm_law_changed cd_law_changed ct_law_changed : Value}
    (a_law_changed : PySem.W.nsIn K mainGlobals "_law_changed" = some (some (.ref f_law_changed)))
    {od_law an_law : Option Addr} {sl_law : Array (Option Value)} {oc_law kV_law dc_law pm_law cd_law ct_law : Value}
    (a_law : PySem.W.nsIn K mainGlobals "law" = some (some (.ref f_law)))
    {c_Console : Addr} (a_Console : PySem.W.nsIn K mainGlobals "Console" = some (some (.ref c_Console)))
    {c_Desk : Addr} (a_Desk : PySem.W.nsIn K mainGlobals "Desk" = some (some (.ref c_Desk)))
    (ma_Console___init__ : PySem.W.findIn K (.ref c_Console) "__init__" = some (some (.ref f_Console___init__))) (mf_Console___init__ : PySem.W.isFn K (.ref f_Console___init__) = true)
    (mm_Console___init__ : PySem.W.makesIn K c_Console = true) (mk_Console___init__ : PySem.W.keepIn K (.ref c_Console) = true)
    {p_Desk_word : Addr} {r_Desk_word : List Value} (pa_Desk_word : PySem.W.findIn K (.ref c_Desk) "word" = some (some (.ref p_Desk_word))) (pg_Desk_word : PySem.W.specialIn K (.ref p_Desk_word) "__get__" = some (some (.builtin "property.__get__"))) (pt_Desk_word : PySem.W.takesIn K (.ref p_Desk_word) = some true) (pr_Desk_word : PySem.W.recIn K p_Desk_word "property" = some (.ref f_Desk_word :: r_Desk_word))
    {p_Desk_order : Addr} {r_Desk_order : List Value} (pa_Desk_order : PySem.W.findIn K (.ref c_Desk) "order" = some (some (.ref p_Desk_order))) (pg_Desk_order : PySem.W.specialIn K (.ref p_Desk_order) "__get__" = some (some (.builtin "property.__get__"))) (pt_Desk_order : PySem.W.takesIn K (.ref p_Desk_order) = some true) (pr_Desk_order : PySem.W.recIn K p_Desk_order "property" = some (.ref f_Desk_order :: r_Desk_order))
    {p_Desk_found : Addr} {r_Desk_found : List Value} (pa_Desk_found : PySem.W.findIn K (.ref c_Desk) "found" = some (some (.ref p_Desk_found))) (pg_Desk_found : PySem.W.specialIn K (.ref p_Desk_found) "__get__" = some (some (.builtin "property.__get__"))) (pt_Desk_found : PySem.W.takesIn K (.ref p_Desk_found) = some true) (pr_Desk_found : PySem.W.recIn K p_Desk_found "property" = some (.ref f_Desk_found :: r_Desk_found))
    (ma_Desk_check_free : PySem.W.findIn K (.ref c_Desk) "check_free" = some (some (.ref f_Desk_check_free))) (mf_Desk_check_free : PySem.W.isFn K (.ref f_Desk_check_free) = true)
    (ma_Desk_check_result : PySem.W.findIn K (.ref c_Desk) "check_result" = some (some (.ref f_Desk_check_result))) (mf_Desk_check_result : PySem.W.isFn K (.ref f_Desk_check_result) = true)
    (ma_Desk_do_edit : PySem.W.findIn K (.ref c_Desk) "do_edit" = some (some (.ref f_Desk_do_edit))) (mf_Desk_do_edit : PySem.W.isFn K (.ref f_Desk_do_edit) = true)
    (ma_Desk_do_alone : PySem.W.findIn K (.ref c_Desk) "do_alone" = some (some (.ref f_Desk_do_alone))) (mf_Desk_do_alone : PySem.W.isFn K (.ref f_Desk_do_alone) = true)
    (ma_Desk_shrink : PySem.W.findIn K (.ref c_Desk) "shrink" = some (some (.ref f_Desk_shrink))) (mf_Desk_shrink : PySem.W.isFn K (.ref f_Desk_shrink) = true)
    (ma_Desk_undo : PySem.W.findIn K (.ref c_Desk) "undo" = some (some (.ref f_Desk_undo))) (mf_Desk_undo : PySem.W.isFn K (.ref f_Desk_undo) = true)
    {p_Desk_pattern_set : Addr} {u_Desk_pattern_set : Value} {r_Desk_pattern_set : List Value} (pa_Desk_pattern_set : PySem.W.findIn K (.ref c_Desk) "pattern" = some (some (.ref p_Desk_pattern_set))) (pt_Desk_pattern_set : PySem.W.takesIn K (.ref p_Desk_pattern_set) = some true) (py_Desk_pattern_set : PySem.W.typeIn K (.ref p_Desk_pattern_set) = some (.type "property")) (pr_Desk_pattern_set : PySem.W.recIn K p_Desk_pattern_set "property" = some (u_Desk_pattern_set :: .ref f_Desk_pattern_set :: r_Desk_pattern_set))
    (ma_Desk_look : PySem.W.findIn K (.ref c_Desk) "look" = some (some (.ref f_Desk_look))) (mf_Desk_look : PySem.W.isFn K (.ref f_Desk_look) = true)
    (ma_Desk_grow : PySem.W.findIn K (.ref c_Desk) "grow" = some (some (.ref f_Desk_grow))) (mf_Desk_grow : PySem.W.isFn K (.ref f_Desk_grow) = true)
    (ma_Desk_rank_of : PySem.W.findIn K (.ref c_Desk) "rank_of" = some (some (.ref f_Desk_rank_of))) (mf_Desk_rank_of : PySem.W.isFn K (.ref f_Desk_rank_of) = true)
    (ma_Desk_change : PySem.W.findIn K (.ref c_Desk) "change" = some (some (.ref f_Desk_change))) (mf_Desk_change : PySem.W.isFn K (.ref f_Desk_change) = true)
    (ma_Console_execute : PySem.W.findIn K (.ref c_Console) "execute" = some (some (.ref f_Console_execute))) (mf_Console_execute : PySem.W.isFn K (.ref f_Console_execute) = true)
    (ma_Desk___init__ : PySem.W.findIn K (.ref c_Desk) "__init__" = some (some (.ref f_Desk___init__))) (mf_Desk___init__ : PySem.W.isFn K (.ref f_Desk___init__) = true)
    (mm_Desk___init__ : PySem.W.makesIn K c_Desk = true) (mk_Desk___init__ : PySem.W.keepIn K (.ref c_Desk) = true)
    {p_Desk_version : Addr} {r_Desk_version : List Value} (pa_Desk_version : PySem.W.findIn K (.ref c_Desk) "version" = some (some (.ref p_Desk_version))) (pg_Desk_version : PySem.W.specialIn K (.ref p_Desk_version) "__get__" = some (some (.builtin "property.__get__"))) (pt_Desk_version : PySem.W.takesIn K (.ref p_Desk_version) = some true) (pr_Desk_version : PySem.W.recIn K p_Desk_version "property" = some (.ref f_Desk_version :: r_Desk_version))
    {p_Desk_pattern : Addr} {r_Desk_pattern : List Value} (pa_Desk_pattern : PySem.W.findIn K (.ref c_Desk) "pattern" = some (some (.ref p_Desk_pattern))) (pg_Desk_pattern : PySem.W.specialIn K (.ref p_Desk_pattern) "__get__" = some (some (.builtin "property.__get__"))) (pt_Desk_pattern : PySem.W.takesIn K (.ref p_Desk_pattern) = some true) (pr_Desk_pattern : PySem.W.recIn K p_Desk_pattern "property" = some (.ref f_Desk_pattern :: r_Desk_pattern))
    (ma_Desk_edits : PySem.W.findIn K (.ref c_Desk) "edits" = some (some (.ref f_Desk_edits))) (mf_Desk_edits : PySem.W.isFn K (.ref f_Desk_edits) = true)
    (ma_Desk___len__ : PySem.W.findIn K (.ref c_Desk) "__len__" = some (some (.ref f_Desk___len__))) (mf_Desk___len__ : PySem.W.isFn K (.ref f_Desk___len__) = true)
    (ma_Desk___str__ : PySem.W.findIn K (.ref c_Desk) "__str__" = some (some (.ref f_Desk___str__))) (mf_Desk___str__ : PySem.W.isFn K (.ref f_Desk___str__) = true)
    (l_law_stream : K.lookup f_law_stream = some ⟨oc_law_stream, od_law_stream, .func (PySem.W.fnOf "_law_stream" "_law_stream" (defArgs s_law_stream) (defBody s_law_stream) (defScope s_law_stream) .none kV_law_stream dc_law_stream pm_law_stream an_law_stream cd_law_stream ct_law_stream), sl_law_stream⟩)
    (c_law_stream : PySem.W.codeIn K cd_law_stream "_law_stream" = true) (k_law_stream : PySem.W.keepIn K (.ref f_law_stream) = true)
    (l_law_draw : K.lookup f_law_draw = some ⟨oc_law_draw, od_law_draw, .func (PySem.W.fnOf "_law_draw" "_law_draw" (defArgs s_law_draw) (defBody s_law_draw) (defScope s_law_draw) .none kV_law_draw dc_law_draw pm_law_draw an_law_draw cd_law_draw ct_law_draw), sl_law_draw⟩)
    (c_law_draw : PySem.W.codeIn K cd_law_draw "_law_draw" = true) (k_law_draw : PySem.W.keepIn K (.ref f_law_draw) = true)
    (l_law_pick : K.lookup f_law_pick = some ⟨oc_law_pick, od_law_pick, .func (PySem.W.fnOf "_law_pick" "_law_pick" (defArgs s_law_pick) (defBody s_law_pick) (defScope s_law_pick) .none kV_law_pick dc_law_pick pm_law_pick an_law_pick cd_law_pick ct_law_pick), sl_law_pick⟩)
    (c_law_pick : PySem.W.codeIn K cd_law_pick "_law_pick" = true) (k_law_pick : PySem.W.keepIn K (.ref f_law_pick) = true)
    (l_is_whole : K.lookup f_is_whole = some ⟨oc_is_whole, od_is_whole, .func (PySem.W.fnOf "is_whole" "is_whole" (defArgs s_is_whole) (defBody s_is_whole) (defScope s_is_whole) .none kV_is_whole dc_is_whole pm_is_whole an_is_whole cd_is_whole ct_is_whole), sl_is_whole⟩)
    (c_is_whole : PySem.W.codeIn K cd_is_whole "is_whole" = true) (k_is_whole : PySem.W.keepIn K (.ref f_is_whole) = true)
    (l_is_place : K.lookup f_is_place = some ⟨oc_is_place, od_is_place, .func (PySem.W.fnOf "is_place" "is_place" (defArgs s_is_place) (defBody s_is_place) (defScope s_is_place) .none kV_is_place dc_is_place pm_is_place an_is_place cd_is_place ct_is_place), sl_is_place⟩)
    (c_is_place : PySem.W.codeIn K cd_is_place "is_place" = true) (k_is_place : PySem.W.keepIn K (.ref f_is_place) = true)
    (l_check_place : K.lookup f_check_place = some ⟨oc_check_place, od_check_place, .func (PySem.W.fnOf "check_place" "check_place" (defArgs s_check_place) (defBody s_check_place) (defScope s_check_place) .none kV_check_place dc_check_place pm_check_place an_check_place cd_check_place ct_check_place), sl_check_place⟩)
    (c_check_place : PySem.W.codeIn K cd_check_place "check_place" = true) (k_check_place : PySem.W.keepIn K (.ref f_check_place) = true)
    (l_rank_places : K.lookup f_rank_places = some ⟨oc_rank_places, od_rank_places, .func (PySem.W.fnOf "rank_places" "rank_places" (defArgs s_rank_places) (defBody s_rank_places) (defScope s_rank_places) .none kV_rank_places dc_rank_places pm_rank_places an_rank_places cd_rank_places ct_rank_places), sl_rank_places⟩)
    (c_rank_places : PySem.W.codeIn K cd_rank_places "rank_places" = true) (k_rank_places : PySem.W.keepIn K (.ref f_rank_places) = true)
    (l_word_error : K.lookup f_word_error = some ⟨oc_word_error, od_word_error, .func (PySem.W.fnOf "word_error" "word_error" (defArgs s_word_error) (defBody s_word_error) (defScope s_word_error) .none kV_word_error dc_word_error pm_word_error an_word_error cd_word_error ct_word_error), sl_word_error⟩)
    (c_word_error : PySem.W.codeIn K cd_word_error "word_error" = true) (k_word_error : PySem.W.keepIn K (.ref f_word_error) = true)
    (l_is_word : K.lookup f_is_word = some ⟨oc_is_word, od_is_word, .func (PySem.W.fnOf "is_word" "is_word" (defArgs s_is_word) (defBody s_is_word) (defScope s_is_word) .none kV_is_word dc_is_word pm_is_word an_is_word cd_is_word ct_is_word), sl_is_word⟩)
    (c_is_word : PySem.W.codeIn K cd_is_word "is_word" = true) (k_is_word : PySem.W.keepIn K (.ref f_is_word) = true)
    (l_is_letter : K.lookup f_is_letter = some ⟨oc_is_letter, od_is_letter, .func (PySem.W.fnOf "is_letter" "is_letter" (defArgs s_is_letter) (defBody s_is_letter) (defScope s_is_letter) .none kV_is_letter dc_is_letter pm_is_letter an_is_letter cd_is_letter ct_is_letter), sl_is_letter⟩)
    (c_is_letter : PySem.W.codeIn K cd_is_letter "is_letter" = true) (k_is_letter : PySem.W.keepIn K (.ref f_is_letter) = true)
    (l_tail_order : K.lookup f_tail_order = some ⟨oc_tail_order, od_tail_order, .func (PySem.W.fnOf "tail_order" "tail_order" (defArgs s_tail_order) (defBody s_tail_order) (defScope s_tail_order) .none kV_tail_order dc_tail_order pm_tail_order an_tail_order cd_tail_order ct_tail_order), sl_tail_order⟩)
    (c_tail_order : PySem.W.codeIn K cd_tail_order "tail_order" = true) (k_tail_order : PySem.W.keepIn K (.ref f_tail_order) = true)
    (l_tail_ranks : K.lookup f_tail_ranks = some ⟨oc_tail_ranks, od_tail_ranks, .func (PySem.W.fnOf "tail_ranks" "tail_ranks" (defArgs s_tail_ranks) (defBody s_tail_ranks) (defScope s_tail_ranks) .none kV_tail_ranks dc_tail_ranks pm_tail_ranks an_tail_ranks cd_tail_ranks ct_tail_ranks), sl_tail_ranks⟩)
    (c_tail_ranks : PySem.W.codeIn K cd_tail_ranks "tail_ranks" = true) (k_tail_ranks : PySem.W.keepIn K (.ref f_tail_ranks) = true)
    (l_ranks_of : K.lookup f_ranks_of = some ⟨oc_ranks_of, od_ranks_of, .func (PySem.W.fnOf "ranks_of" "ranks_of" (defArgs s_ranks_of) (defBody s_ranks_of) (defScope s_ranks_of) .none kV_ranks_of dc_ranks_of pm_ranks_of an_ranks_of cd_ranks_of ct_ranks_of), sl_ranks_of⟩)
    (c_ranks_of : PySem.W.codeIn K cd_ranks_of "ranks_of" = true) (k_ranks_of : PySem.W.keepIn K (.ref f_ranks_of) = true)
    (l_first_lower : K.lookup f_first_lower = some ⟨oc_first_lower, od_first_lower, .func (PySem.W.fnOf "first_lower" "first_lower" (defArgs s_first_lower) (defBody s_first_lower) (defScope s_first_lower) .none kV_first_lower dc_first_lower pm_first_lower an_first_lower cd_first_lower ct_first_lower), sl_first_lower⟩)
    (c_first_lower : PySem.W.codeIn K cd_first_lower "first_lower" = true) (k_first_lower : PySem.W.keepIn K (.ref f_first_lower) = true)
    (l_factor_places : K.lookup f_factor_places = some ⟨oc_factor_places, od_factor_places, .func (PySem.W.fnOf "factor_places" "factor_places" (defArgs s_factor_places) (defBody s_factor_places) (defScope s_factor_places) .none kV_factor_places dc_factor_places pm_factor_places an_factor_places cd_factor_places ct_factor_places), sl_factor_places⟩)
    (c_factor_places : PySem.W.codeIn K cd_factor_places "factor_places" = true) (k_factor_places : PySem.W.keepIn K (.ref f_factor_places) = true)
    (l_factors : K.lookup f_factors = some ⟨oc_factors, od_factors, .func (PySem.W.fnOf "factors" "factors" (defArgs s_factors) (defBody s_factors) (defScope s_factors) .none kV_factors dc_factors pm_factors an_factors cd_factors ct_factors), sl_factors⟩)
    (c_factors : PySem.W.codeIn K cd_factors "factors" = true) (k_factors : PySem.W.keepIn K (.ref f_factors) = true)
    (l_common_length : K.lookup f_common_length = some ⟨oc_common_length, od_common_length, .func (PySem.W.fnOf "common_length" "common_length" (defArgs s_common_length) (defBody s_common_length) (defScope s_common_length) .none kV_common_length dc_common_length pm_common_length an_common_length cd_common_length ct_common_length), sl_common_length⟩)
    (c_common_length : PySem.W.codeIn K cd_common_length "common_length" = true) (k_common_length : PySem.W.keepIn K (.ref f_common_length) = true)
    (l_heads_of : K.lookup f_heads_of = some ⟨oc_heads_of, od_heads_of, .func (PySem.W.fnOf "heads_of" "heads_of" (defArgs s_heads_of) (defBody s_heads_of) (defScope s_heads_of) .none kV_heads_of dc_heads_of pm_heads_of an_heads_of cd_heads_of ct_heads_of), sl_heads_of⟩)
    (c_heads_of : PySem.W.codeIn K cd_heads_of "heads_of" = true) (k_heads_of : PySem.W.keepIn K (.ref f_heads_of) = true)
    (l_each_part : K.lookup f_each_part = some ⟨oc_each_part, od_each_part, .func (PySem.W.fnOf "each_part" "each_part" (defArgs s_each_part) (defBody s_each_part) (defScope s_each_part) .none kV_each_part dc_each_part pm_each_part an_each_part cd_each_part ct_each_part), sl_each_part⟩)
    (c_each_part : PySem.W.codeIn K cd_each_part "each_part" = true) (k_each_part : PySem.W.keepIn K (.ref f_each_part) = true)
    (l_count_parts : K.lookup f_count_parts = some ⟨oc_count_parts, od_count_parts, .func (PySem.W.fnOf "count_parts" "count_parts" (defArgs s_count_parts) (defBody s_count_parts) (defScope s_count_parts) .none kV_count_parts dc_count_parts pm_count_parts an_count_parts cd_count_parts ct_count_parts), sl_count_parts⟩)
    (c_count_parts : PySem.W.codeIn K cd_count_parts "count_parts" = true) (k_count_parts : PySem.W.keepIn K (.ref f_count_parts) = true)
    (l_word_text : K.lookup f_word_text = some ⟨oc_word_text, od_word_text, .func (PySem.W.fnOf "word_text" "word_text" (defArgs s_word_text) (defBody s_word_text) (defScope s_word_text) .none kV_word_text dc_word_text pm_word_text an_word_text cd_word_text ct_word_text), sl_word_text⟩)
    (c_word_text : PySem.W.codeIn K cd_word_text "word_text" = true) (k_word_text : PySem.W.keepIn K (.ref f_word_text) = true)
    (l_order_text : K.lookup f_order_text = some ⟨oc_order_text, od_order_text, .func (PySem.W.fnOf "order_text" "order_text" (defArgs s_order_text) (defBody s_order_text) (defScope s_order_text) .none kV_order_text dc_order_text pm_order_text an_order_text cd_order_text ct_order_text), sl_order_text⟩)
    (c_order_text : PySem.W.codeIn K cd_order_text "order_text" = true) (k_order_text : PySem.W.keepIn K (.ref f_order_text) = true)
    (l_places_text : K.lookup f_places_text = some ⟨oc_places_text, od_places_text, .func (PySem.W.fnOf "places_text" "places_text" (defArgs s_places_text) (defBody s_places_text) (defScope s_places_text) .none kV_places_text dc_places_text pm_places_text an_places_text cd_places_text ct_places_text), sl_places_text⟩)
    (c_places_text : PySem.W.codeIn K cd_places_text "places_text" = true) (k_places_text : PySem.W.keepIn K (.ref f_places_text) = true)
    (l_is_number : K.lookup f_is_number = some ⟨oc_is_number, od_is_number, .func (PySem.W.fnOf "is_number" "is_number" (defArgs s_is_number) (defBody s_is_number) (defScope s_is_number) .none kV_is_number dc_is_number pm_is_number an_is_number cd_is_number ct_is_number), sl_is_number⟩)
    (c_is_number : PySem.W.codeIn K cd_is_number "is_number" = true) (k_is_number : PySem.W.keepIn K (.ref f_is_number) = true)
    (l_Console___init__ : K.lookup f_Console___init__ = some ⟨oc_Console___init__, od_Console___init__, .func (PySem.W.fnOf "__init__" "Console.__init__" (defArgs s_Console___init__) (defBody s_Console___init__) (defScope s_Console___init__) .none kV_Console___init__ dc_Console___init__ pm_Console___init__ an_Console___init__ cd_Console___init__ ct_Console___init__), sl_Console___init__⟩)
    (c_Console___init__ : PySem.W.codeIn K cd_Console___init__ "Console.__init__" = true) (k_Console___init__ : PySem.W.keepIn K (.ref f_Console___init__) = true)
    (l_done : K.lookup f_done = some ⟨oc_done, od_done, .func (PySem.W.fnOf "done" "done" (defArgs s_done) (defBody s_done) (defScope s_done) .none kV_done dc_done pm_done an_done cd_done ct_done), sl_done⟩)
    (c_done : PySem.W.codeIn K cd_done "done" = true) (k_done : PySem.W.keepIn K (.ref f_done) = true)
    (l_Desk_word : K.lookup f_Desk_word = some ⟨oc_Desk_word, od_Desk_word, .func (PySem.W.fnOf "word" "Desk.word" (defArgs s_Desk_word) (defBody s_Desk_word) (defScope s_Desk_word) .none kV_Desk_word dc_Desk_word pm_Desk_word an_Desk_word cd_Desk_word ct_Desk_word), sl_Desk_word⟩)
    (c_Desk_word : PySem.W.codeIn K cd_Desk_word "Desk.word" = true) (k_Desk_word : PySem.W.keepIn K (.ref f_Desk_word) = true)
    (l_Desk_order : K.lookup f_Desk_order = some ⟨oc_Desk_order, od_Desk_order, .func (PySem.W.fnOf "order" "Desk.order" (defArgs s_Desk_order) (defBody s_Desk_order) (defScope s_Desk_order) .none kV_Desk_order dc_Desk_order pm_Desk_order an_Desk_order cd_Desk_order ct_Desk_order), sl_Desk_order⟩)
    (c_Desk_order : PySem.W.codeIn K cd_Desk_order "Desk.order" = true) (k_Desk_order : PySem.W.keepIn K (.ref f_Desk_order) = true)
    (l_places_of : K.lookup f_places_of = some ⟨oc_places_of, od_places_of, .func (PySem.W.fnOf "places_of" "places_of" (defArgs s_places_of) (defBody s_places_of) (defScope s_places_of) .none kV_places_of dc_places_of pm_places_of an_places_of cd_places_of ct_places_of), sl_places_of⟩)
    (c_places_of : PySem.W.codeIn K cd_places_of "places_of" = true) (k_places_of : PySem.W.keepIn K (.ref f_places_of) = true)
    (l_Desk_found : K.lookup f_Desk_found = some ⟨oc_Desk_found, od_Desk_found, .func (PySem.W.fnOf "found" "Desk.found" (defArgs s_Desk_found) (defBody s_Desk_found) (defScope s_Desk_found) .none kV_Desk_found dc_Desk_found pm_Desk_found an_Desk_found cd_Desk_found ct_Desk_found), sl_Desk_found⟩)
    (c_Desk_found : PySem.W.codeIn K cd_Desk_found "Desk.found" = true) (k_Desk_found : PySem.W.keepIn K (.ref f_Desk_found) = true)
    (l_Desk_check_free : K.lookup f_Desk_check_free = some ⟨oc_Desk_check_free, od_Desk_check_free, .func (PySem.W.fnOf "check_free" "Desk.check_free" (defArgs s_Desk_check_free) (defBody s_Desk_check_free) (defScope s_Desk_check_free) .none kV_Desk_check_free dc_Desk_check_free pm_Desk_check_free an_Desk_check_free cd_Desk_check_free ct_Desk_check_free), sl_Desk_check_free⟩)
    (c_Desk_check_free : PySem.W.codeIn K cd_Desk_check_free "Desk.check_free" = true) (k_Desk_check_free : PySem.W.keepIn K (.ref f_Desk_check_free) = true)
    (l_check_letter : K.lookup f_check_letter = some ⟨oc_check_letter, od_check_letter, .func (PySem.W.fnOf "check_letter" "check_letter" (defArgs s_check_letter) (defBody s_check_letter) (defScope s_check_letter) .none kV_check_letter dc_check_letter pm_check_letter an_check_letter cd_check_letter ct_check_letter), sl_check_letter⟩)
    (c_check_letter : PySem.W.codeIn K cd_check_letter "check_letter" = true) (k_check_letter : PySem.W.keepIn K (.ref f_check_letter) = true)
    (l_changed : K.lookup f_changed = some ⟨oc_changed, od_changed, .func (PySem.W.fnOf "changed" "changed" (defArgs s_changed) (defBody s_changed) (defScope s_changed) .none kV_changed dc_changed pm_changed an_changed cd_changed ct_changed), sl_changed⟩)
    (c_changed : PySem.W.codeIn K cd_changed "changed" = true) (k_changed : PySem.W.keepIn K (.ref f_changed) = true)
    (l_lengthened : K.lookup f_lengthened = some ⟨oc_lengthened, od_lengthened, .func (PySem.W.fnOf "lengthened" "lengthened" (defArgs s_lengthened) (defBody s_lengthened) (defScope s_lengthened) .none kV_lengthened dc_lengthened pm_lengthened an_lengthened cd_lengthened ct_lengthened), sl_lengthened⟩)
    (c_lengthened : PySem.W.codeIn K cd_lengthened "lengthened" = true) (k_lengthened : PySem.W.keepIn K (.ref f_lengthened) = true)
    (l_shortened : K.lookup f_shortened = some ⟨oc_shortened, od_shortened, .func (PySem.W.fnOf "shortened" "shortened" (defArgs s_shortened) (defBody s_shortened) (defScope s_shortened) .none kV_shortened dc_shortened pm_shortened an_shortened cd_shortened ct_shortened), sl_shortened⟩)
    (c_shortened : PySem.W.codeIn K cd_shortened "shortened" = true) (k_shortened : PySem.W.keepIn K (.ref f_shortened) = true)
    (l_edited : K.lookup f_edited = some ⟨oc_edited, od_edited, .func (PySem.W.fnOf "edited" "edited" (defArgs s_edited) (defBody s_edited) (defScope s_edited) .none kV_edited dc_edited pm_edited an_edited cd_edited ct_edited), sl_edited⟩)
    (c_edited : PySem.W.codeIn K cd_edited "edited" = true) (k_edited : PySem.W.keepIn K (.ref f_edited) = true)
    (l_Desk_check_result : K.lookup f_Desk_check_result = some ⟨oc_Desk_check_result, od_Desk_check_result, .func (PySem.W.fnOf "check_result" "Desk.check_result" (defArgs s_Desk_check_result) (defBody s_Desk_check_result) (defScope s_Desk_check_result) .none kV_Desk_check_result dc_Desk_check_result pm_Desk_check_result an_Desk_check_result cd_Desk_check_result ct_Desk_check_result), sl_Desk_check_result⟩)
    (c_Desk_check_result : PySem.W.codeIn K cd_Desk_check_result "Desk.check_result" = true) (k_Desk_check_result : PySem.W.keepIn K (.ref f_Desk_check_result) = true)
    (l_Desk_do_edit : K.lookup f_Desk_do_edit = some ⟨oc_Desk_do_edit, od_Desk_do_edit, .func (PySem.W.fnOf "do_edit" "Desk.do_edit" (defArgs s_Desk_do_edit) (defBody s_Desk_do_edit) (defScope s_Desk_do_edit) .none kV_Desk_do_edit dc_Desk_do_edit pm_Desk_do_edit an_Desk_do_edit cd_Desk_do_edit ct_Desk_do_edit), sl_Desk_do_edit⟩)
    (c_Desk_do_edit : PySem.W.codeIn K cd_Desk_do_edit "Desk.do_edit" = true) (k_Desk_do_edit : PySem.W.keepIn K (.ref f_Desk_do_edit) = true)
    (l_Desk_do_alone : K.lookup f_Desk_do_alone = some ⟨oc_Desk_do_alone, od_Desk_do_alone, .func (PySem.W.fnOf "do_alone" "Desk.do_alone" (defArgs s_Desk_do_alone) (defBody s_Desk_do_alone) (defScope s_Desk_do_alone) .none kV_Desk_do_alone dc_Desk_do_alone pm_Desk_do_alone an_Desk_do_alone cd_Desk_do_alone ct_Desk_do_alone), sl_Desk_do_alone⟩)
    (c_Desk_do_alone : PySem.W.codeIn K cd_Desk_do_alone "Desk.do_alone" = true) (k_Desk_do_alone : PySem.W.keepIn K (.ref f_Desk_do_alone) = true)
    (l_Desk_shrink : K.lookup f_Desk_shrink = some ⟨oc_Desk_shrink, od_Desk_shrink, .func (PySem.W.fnOf "shrink" "Desk.shrink" (defArgs s_Desk_shrink) (defBody s_Desk_shrink) (defScope s_Desk_shrink) .none kV_Desk_shrink dc_Desk_shrink pm_Desk_shrink an_Desk_shrink cd_Desk_shrink ct_Desk_shrink), sl_Desk_shrink⟩)
    (c_Desk_shrink : PySem.W.codeIn K cd_Desk_shrink "Desk.shrink" = true) (k_Desk_shrink : PySem.W.keepIn K (.ref f_Desk_shrink) = true)
    (l_Desk_undo : K.lookup f_Desk_undo = some ⟨oc_Desk_undo, od_Desk_undo, .func (PySem.W.fnOf "undo" "Desk.undo" (defArgs s_Desk_undo) (defBody s_Desk_undo) (defScope s_Desk_undo) .none kV_Desk_undo dc_Desk_undo pm_Desk_undo an_Desk_undo cd_Desk_undo ct_Desk_undo), sl_Desk_undo⟩)
    (c_Desk_undo : PySem.W.codeIn K cd_Desk_undo "Desk.undo" = true) (k_Desk_undo : PySem.W.keepIn K (.ref f_Desk_undo) = true)
    (l_do_one_word : K.lookup f_do_one_word = some ⟨oc_do_one_word, od_do_one_word, .func (PySem.W.fnOf "do_one_word" "do_one_word" (defArgs s_do_one_word) (defBody s_do_one_word) (defScope s_do_one_word) .none kV_do_one_word dc_do_one_word pm_do_one_word an_do_one_word cd_do_one_word ct_do_one_word), sl_do_one_word⟩)
    (c_do_one_word : PySem.W.codeIn K cd_do_one_word "do_one_word" = true) (k_do_one_word : PySem.W.keepIn K (.ref f_do_one_word) = true)
    (l_check_word : K.lookup f_check_word = some ⟨oc_check_word, od_check_word, .func (PySem.W.fnOf "check_word" "check_word" (defArgs s_check_word) (defBody s_check_word) (defScope s_check_word) .none kV_check_word dc_check_word pm_check_word an_check_word cd_check_word ct_check_word), sl_check_word⟩)
    (c_check_word : PySem.W.codeIn K cd_check_word "check_word" = true) (k_check_word : PySem.W.keepIn K (.ref f_check_word) = true)
    (l_Desk_pattern_set : K.lookup f_Desk_pattern_set = some ⟨oc_Desk_pattern_set, od_Desk_pattern_set, .func (PySem.W.fnOf "pattern" "Desk.pattern" (defArgs s_Desk_pattern_set) (defBody s_Desk_pattern_set) (defScope s_Desk_pattern_set) .none kV_Desk_pattern_set dc_Desk_pattern_set pm_Desk_pattern_set an_Desk_pattern_set cd_Desk_pattern_set ct_Desk_pattern_set), sl_Desk_pattern_set⟩)
    (c_Desk_pattern_set : PySem.W.codeIn K cd_Desk_pattern_set "Desk.pattern" = true) (k_Desk_pattern_set : PySem.W.keepIn K (.ref f_Desk_pattern_set) = true)
    (l_Desk_look : K.lookup f_Desk_look = some ⟨oc_Desk_look, od_Desk_look, .func (PySem.W.fnOf "look" "Desk.look" (defArgs s_Desk_look) (defBody s_Desk_look) (defScope s_Desk_look) .none kV_Desk_look dc_Desk_look pm_Desk_look an_Desk_look cd_Desk_look ct_Desk_look), sl_Desk_look⟩)
    (c_Desk_look : PySem.W.codeIn K cd_Desk_look "Desk.look" = true) (k_Desk_look : PySem.W.keepIn K (.ref f_Desk_look) = true)
    (l_Desk_grow : K.lookup f_Desk_grow = some ⟨oc_Desk_grow, od_Desk_grow, .func (PySem.W.fnOf "grow" "Desk.grow" (defArgs s_Desk_grow) (defBody s_Desk_grow) (defScope s_Desk_grow) .none kV_Desk_grow dc_Desk_grow pm_Desk_grow an_Desk_grow cd_Desk_grow ct_Desk_grow), sl_Desk_grow⟩)
    (c_Desk_grow : PySem.W.codeIn K cd_Desk_grow "Desk.grow" = true) (k_Desk_grow : PySem.W.keepIn K (.ref f_Desk_grow) = true)
    (l_Desk_rank_of : K.lookup f_Desk_rank_of = some ⟨oc_Desk_rank_of, od_Desk_rank_of, .func (PySem.W.fnOf "rank_of" "Desk.rank_of" (defArgs s_Desk_rank_of) (defBody s_Desk_rank_of) (defScope s_Desk_rank_of) .none kV_Desk_rank_of dc_Desk_rank_of pm_Desk_rank_of an_Desk_rank_of cd_Desk_rank_of ct_Desk_rank_of), sl_Desk_rank_of⟩)
    (c_Desk_rank_of : PySem.W.codeIn K cd_Desk_rank_of "Desk.rank_of" = true) (k_Desk_rank_of : PySem.W.keepIn K (.ref f_Desk_rank_of) = true)
    (l_do_two_words : K.lookup f_do_two_words = some ⟨oc_do_two_words, od_do_two_words, .func (PySem.W.fnOf "do_two_words" "do_two_words" (defArgs s_do_two_words) (defBody s_do_two_words) (defScope s_do_two_words) .none kV_do_two_words dc_do_two_words pm_do_two_words an_do_two_words cd_do_two_words ct_do_two_words), sl_do_two_words⟩)
    (c_do_two_words : PySem.W.codeIn K cd_do_two_words "do_two_words" = true) (k_do_two_words : PySem.W.keepIn K (.ref f_do_two_words) = true)
    (l_Desk_change : K.lookup f_Desk_change = some ⟨oc_Desk_change, od_Desk_change, .func (PySem.W.fnOf "change" "Desk.change" (defArgs s_Desk_change) (defBody s_Desk_change) (defScope s_Desk_change) .none kV_Desk_change dc_Desk_change pm_Desk_change an_Desk_change cd_Desk_change ct_Desk_change), sl_Desk_change⟩)
    (c_Desk_change : PySem.W.codeIn K cd_Desk_change "Desk.change" = true) (k_Desk_change : PySem.W.keepIn K (.ref f_Desk_change) = true)
    (l_do_command : K.lookup f_do_command = some ⟨oc_do_command, od_do_command, .func (PySem.W.fnOf "do_command" "do_command" (defArgs s_do_command) (defBody s_do_command) (defScope s_do_command) .none kV_do_command dc_do_command pm_do_command an_do_command cd_do_command ct_do_command), sl_do_command⟩)
    (c_do_command : PySem.W.codeIn K cd_do_command "do_command" = true) (k_do_command : PySem.W.keepIn K (.ref f_do_command) = true)
    (l_answer_to : K.lookup f_answer_to = some ⟨oc_answer_to, od_answer_to, .func (PySem.W.fnOf "answer_to" "answer_to" (defArgs s_answer_to) (defBody s_answer_to) (defScope s_answer_to) .none kV_answer_to dc_answer_to pm_answer_to an_answer_to cd_answer_to ct_answer_to), sl_answer_to⟩)
    (c_answer_to : PySem.W.codeIn K cd_answer_to "answer_to" = true) (k_answer_to : PySem.W.keepIn K (.ref f_answer_to) = true)
    (l_Console_execute : K.lookup f_Console_execute = some ⟨oc_Console_execute, od_Console_execute, .func (PySem.W.fnOf "execute" "Console.execute" (defArgs s_Console_execute) (defBody s_Console_execute) (defScope s_Console_execute) .none kV_Console_execute dc_Console_execute pm_Console_execute an_Console_execute cd_Console_execute ct_Console_execute), sl_Console_execute⟩)
    (c_Console_execute : PySem.W.codeIn K cd_Console_execute "Console.execute" = true) (k_Console_execute : PySem.W.keepIn K (.ref f_Console_execute) = true)
    (l_Desk___init__ : K.lookup f_Desk___init__ = some ⟨oc_Desk___init__, od_Desk___init__, .func (PySem.W.fnOf "__init__" "Desk.__init__" (defArgs s_Desk___init__) (defBody s_Desk___init__) (defScope s_Desk___init__) .none kV_Desk___init__ dc_Desk___init__ pm_Desk___init__ an_Desk___init__ cd_Desk___init__ ct_Desk___init__), sl_Desk___init__⟩)
    (c_Desk___init__ : PySem.W.codeIn K cd_Desk___init__ "Desk.__init__" = true) (k_Desk___init__ : PySem.W.keepIn K (.ref f_Desk___init__) = true)
    (l_Desk_version : K.lookup f_Desk_version = some ⟨oc_Desk_version, od_Desk_version, .func (PySem.W.fnOf "version" "Desk.version" (defArgs s_Desk_version) (defBody s_Desk_version) (defScope s_Desk_version) .none kV_Desk_version dc_Desk_version pm_Desk_version an_Desk_version cd_Desk_version ct_Desk_version), sl_Desk_version⟩)
    (c_Desk_version : PySem.W.codeIn K cd_Desk_version "Desk.version" = true) (k_Desk_version : PySem.W.keepIn K (.ref f_Desk_version) = true)
    (l_Desk_pattern : K.lookup f_Desk_pattern = some ⟨oc_Desk_pattern, od_Desk_pattern, .func (PySem.W.fnOf "pattern" "Desk.pattern" (defArgs s_Desk_pattern) (defBody s_Desk_pattern) (defScope s_Desk_pattern) .none kV_Desk_pattern dc_Desk_pattern pm_Desk_pattern an_Desk_pattern cd_Desk_pattern ct_Desk_pattern), sl_Desk_pattern⟩)
    (c_Desk_pattern : PySem.W.codeIn K cd_Desk_pattern "Desk.pattern" = true) (k_Desk_pattern : PySem.W.keepIn K (.ref f_Desk_pattern) = true)
    (l_Desk_edits : K.lookup f_Desk_edits = some ⟨oc_Desk_edits, od_Desk_edits, .func (PySem.W.fnOf "edits" "Desk.edits" (defArgs s_Desk_edits) (defBody s_Desk_edits) (defScope s_Desk_edits) .none kV_Desk_edits dc_Desk_edits pm_Desk_edits an_Desk_edits cd_Desk_edits ct_Desk_edits), sl_Desk_edits⟩)
    (c_Desk_edits : PySem.W.codeIn K cd_Desk_edits "Desk.edits" = true) (k_Desk_edits : PySem.W.keepIn K (.ref f_Desk_edits) = true)
    (l_Desk___len__ : K.lookup f_Desk___len__ = some ⟨oc_Desk___len__, od_Desk___len__, .func (PySem.W.fnOf "__len__" "Desk.__len__" (defArgs s_Desk___len__) (defBody s_Desk___len__) (defScope s_Desk___len__) .none kV_Desk___len__ dc_Desk___len__ pm_Desk___len__ an_Desk___len__ cd_Desk___len__ ct_Desk___len__), sl_Desk___len__⟩)
    (c_Desk___len__ : PySem.W.codeIn K cd_Desk___len__ "Desk.__len__" = true) (k_Desk___len__ : PySem.W.keepIn K (.ref f_Desk___len__) = true)
    (l_Desk___str__ : K.lookup f_Desk___str__ = some ⟨oc_Desk___str__, od_Desk___str__, .func (PySem.W.fnOf "__str__" "Desk.__str__" (defArgs s_Desk___str__) (defBody s_Desk___str__) (defScope s_Desk___str__) .none kV_Desk___str__ dc_Desk___str__ pm_Desk___str__ an_Desk___str__ cd_Desk___str__ ct_Desk___str__), sl_Desk___str__⟩)
    (c_Desk___str__ : PySem.W.codeIn K cd_Desk___str__ "Desk.__str__" = true) (k_Desk___str__ : PySem.W.keepIn K (.ref f_Desk___str__) = true)
    (l_law_odd : K.lookup f_law_odd = some ⟨oc_law_odd, od_law_odd, .func (PySem.W.fnOf "_law_odd" "_law_odd" (defArgs s_law_odd) (defBody s_law_odd) (defScope s_law_odd) .none kV_law_odd dc_law_odd pm_law_odd an_law_odd cd_law_odd ct_law_odd), sl_law_odd⟩)
    (c_law_odd : PySem.W.codeIn K cd_law_odd "_law_odd" = true) (k_law_odd : PySem.W.keepIn K (.ref f_law_odd) = true)
    (l_law_word : K.lookup f_law_word = some ⟨oc_law_word, od_law_word, .func (PySem.W.fnOf "_law_word" "_law_word" (defArgs s_law_word) (defBody s_law_word) (defScope s_law_word) .none kV_law_word dc_law_word pm_law_word an_law_word cd_law_word ct_law_word), sl_law_word⟩)
    (c_law_word : PySem.W.codeIn K cd_law_word "_law_word" = true) (k_law_word : PySem.W.keepIn K (.ref f_law_word) = true)
    (l_law_seen : K.lookup f_law_seen = some ⟨oc_law_seen, od_law_seen, .func (PySem.W.fnOf "_law_seen" "_law_seen" (defArgs s_law_seen) (defBody s_law_seen) (defScope s_law_seen) .none kV_law_seen dc_law_seen pm_law_seen an_law_seen cd_law_seen ct_law_seen), sl_law_seen⟩)
    (c_law_seen : PySem.W.codeIn K cd_law_seen "_law_seen" = true) (k_law_seen : PySem.W.keepIn K (.ref f_law_seen) = true)
    (l_law_is_number : K.lookup f_law_is_number = some ⟨oc_law_is_number, od_law_is_number, .func (PySem.W.fnOf "_law_is_number" "_law_is_number" (defArgs s_law_is_number) (defBody s_law_is_number) (defScope s_law_is_number) .none kV_law_is_number dc_law_is_number pm_law_is_number an_law_is_number cd_law_is_number ct_law_is_number), sl_law_is_number⟩)
    (c_law_is_number : PySem.W.codeIn K cd_law_is_number "_law_is_number" = true) (k_law_is_number : PySem.W.keepIn K (.ref f_law_is_number) = true)
    (l_law_is_command : K.lookup f_law_is_command = some ⟨oc_law_is_command, od_law_is_command, .func (PySem.W.fnOf "_law_is_command" "_law_is_command" (defArgs s_law_is_command) (defBody s_law_is_command) (defScope s_law_is_command) .none kV_law_is_command dc_law_is_command pm_law_is_command an_law_is_command cd_law_is_command ct_law_is_command), sl_law_is_command⟩)
    (c_law_is_command : PySem.W.codeIn K cd_law_is_command "_law_is_command" = true) (k_law_is_command : PySem.W.keepIn K (.ref f_law_is_command) = true)
    (l_law_lines : K.lookup f_law_lines = some ⟨oc_law_lines, od_law_lines, .func (PySem.W.fnOf "_law_lines" "_law_lines" (defArgs s_law_lines) (defBody s_law_lines) (defScope s_law_lines) .none kV_law_lines dc_law_lines pm_law_lines an_law_lines cd_law_lines ct_law_lines), sl_law_lines⟩)
    (c_law_lines : PySem.W.codeIn K cd_law_lines "_law_lines" = true) (k_law_lines : PySem.W.keepIn K (.ref f_law_lines) = true)
    (l_law_changed : K.lookup f_law_changed = some ⟨oc_law_changed, od_law_changed, .func (PySem.W.fnOf "_law_changed" "_law_changed" (defArgs s_law_changed) (defBody s_law_changed) (defScope s_law_changed) .none kV_law_changed dc_law_changed pm_law_changed an_law_changed cd_law_changed ct_law_changed), sl_law_changed⟩)
    (c_law_changed : PySem.W.codeIn K cd_law_changed "_law_changed" = true) (k_law_changed : PySem.W.keepIn K (.ref f_law_changed) = true)
    (l_law : K.lookup f_law = some ⟨oc_law, od_law, .func (PySem.W.fnOf "law" "law" (defArgs s_law) (defBody s_law) (defScope s_law) .none kV_law dc_law pm_law an_law cd_law ct_law), sl_law⟩)
    (c_law : PySem.W.codeIn K cd_law "law" = true) (k_law : PySem.W.keepIn K (.ref f_law) = true)
    (cp_Console : PySem.W.plainGet K c_Console Str.empty = true) (ch_Console : PySem.W.hasDictIn K c_Console = true) (co_Console : PySem.W.plainOver K c_Console = true) (cs_Console : PySem.W.findIn K (.ref c_Console) "__setattr__" = some (some (.builtin "object.__setattr__")))
    (n_Console_desk : PySem.W.findIn K (.ref c_Console) "desk" = some none)
    (n_Console_pairs : PySem.W.findIn K (.ref c_Console) "pairs" = some none)
    (cp_Desk : PySem.W.plainGet K c_Desk Str.empty = true) (ch_Desk : PySem.W.hasDictIn K c_Desk = true) (co_Desk : PySem.W.plainOver K c_Desk = true) (cs_Desk : PySem.W.findIn K (.ref c_Desk) "__setattr__" = some (some (.builtin "object.__setattr__")))
    (n_Desk_text : PySem.W.findIn K (.ref c_Desk) "text" = some none)
    (n_Desk_earlier : PySem.W.findIn K (.ref c_Desk) "earlier" = some none)
    (n_Desk_steps : PySem.W.findIn K (.ref c_Desk) "steps" = some none)
    (n_Desk_chosen : PySem.W.findIn K (.ref c_Desk) "chosen" = some none)
    (n_Desk_busy : PySem.W.findIn K (.ref c_Desk) "busy" = some none)
    (z_enumerate : PySem.W.nsIn K mainGlobals "enumerate" = some none)
    (z_tuple : PySem.W.nsIn K mainGlobals "tuple" = some none)
    (z_sorted : PySem.W.nsIn K mainGlobals "sorted" = some none)
    (z_len : PySem.W.nsIn K mainGlobals "len" = some none)
    (z_zip : PySem.W.nsIn K mainGlobals "zip" = some none)
    (z_repr : PySem.W.nsIn K mainGlobals "repr" = some none)
    (z_range : PySem.W.nsIn K mainGlobals "range" = some none)
    (z_isinstance : PySem.W.nsIn K mainGlobals "isinstance" = some none)
    (z_int : PySem.W.nsIn K mainGlobals "int" = some none)
    (z_list : PySem.W.nsIn K mainGlobals "list" = some none)
    (z_str : PySem.W.nsIn K mainGlobals "str" = some none)
    (z_abs : PySem.W.nsIn K mainGlobals "abs" = some none)
    (z_bool : PySem.W.nsIn K mainGlobals "bool" = some none)
    {t_MAX_WORD : Tok} (v_MAX_WORD : PySem.W.nsIn K mainGlobals "MAX_WORD" = some (some (.int 24 t_MAX_WORD)))
    {t_MAX_EDITS : Tok} (v_MAX_EDITS : PySem.W.nsIn K mainGlobals "MAX_EDITS" = some (some (.int 60 t_MAX_EDITS)))
    {t_BATCH : Tok} (v_BATCH : PySem.W.nsIn K mainGlobals "BATCH" = some (some (.int 20 t_BATCH)))
    {t_LETTERS : Tok} (v_LETTERS : PySem.W.nsIn K mainGlobals "LETTERS" = some (some (.str "abcdefghijklmnopqrstuvwxyz" t_LETTERS)))
    {t_KEPT_PAIRS : Tok} (v_KEPT_PAIRS : PySem.W.nsIn K mainGlobals "KEPT_PAIRS" = some (some (.int 20 t_KEPT_PAIRS)))
    {t_NUMBERS : Tok} (v_NUMBERS : PySem.W.nsIn K mainGlobals "NUMBERS" = some (some (.int 1000 t_NUMBERS)))
    {t_UNKNOWN : Tok} (v_UNKNOWN : PySem.W.nsIn K mainGlobals "UNKNOWN" = some (some (.str "unknown command" t_UNKNOWN)))
    {c_NoPlace : Addr} (a_NoPlace : PySem.W.nsIn K mainGlobals "NoPlace" = some (some (.ref c_NoPlace)))
    {c_BadLetter : Addr} (a_BadLetter : PySem.W.nsIn K mainGlobals "BadLetter" = some (some (.ref c_BadLetter)))
    {c_TooLong : Addr} (a_TooLong : PySem.W.nsIn K mainGlobals "TooLong" = some (some (.ref c_TooLong)))
    {c_LastLetter : Addr} (a_LastLetter : PySem.W.nsIn K mainGlobals "LastLetter" = some (some (.ref c_LastLetter)))
    {c_TooManyEdits : Addr} (a_TooManyEdits : PySem.W.nsIn K mainGlobals "TooManyEdits" = some (some (.ref c_TooManyEdits)))
    {c_NothingToUndo : Addr} (a_NothingToUndo : PySem.W.nsIn K mainGlobals "NothingToUndo" = some (some (.ref c_NothingToUndo)))
    {c_BadWord : Addr} (a_BadWord : PySem.W.nsIn K mainGlobals "BadWord" = some (some (.ref c_BadWord)))
    {c_Busy : Addr} (a_Busy : PySem.W.nsIn K mainGlobals "Busy" = some (some (.ref c_Busy)))
    {c_NotSimple : Addr} (a_NotSimple : PySem.W.nsIn K mainGlobals "NotSimple" = some (some (.ref c_NotSimple)))
    (x_ng : PySem.W.specialIn K (.builtin "object.__class__") "__get__" = some (some (.builtin "getset_descriptor.__get__"))) (x_nt : PySem.W.takesIn K (.builtin "object.__class__") = some true)
    {nm_NoPlace q_NoPlace : Str} {N_NoPlace : Addr} {bs_NoPlace bm_NoPlace : List Value} {sn_NoPlace : List Str} {sub_NoPlace : List Value} {ab_NoPlace : Bool} {col_NoPlace : Option Bool} {dd_NoPlace : Option Addr} {k0_NoPlace k1_NoPlace k2_NoPlace k3_NoPlace k5_NoPlace : Option Value}
    (xl_NoPlace : K.lookup c_NoPlace = some (excClassObj nm_NoPlace q_NoPlace c_NoPlace N_NoPlace bs_NoPlace bm_NoPlace true sn_NoPlace sub_NoPlace ab_NoPlace col_NoPlace dd_NoPlace k0_NoPlace k1_NoPlace k2_NoPlace k3_NoPlace k5_NoPlace "LookupError.__new__"))
    (xt_NoPlace : PySem.W.excTail [.type "LookupError", .type "Exception", .type "BaseException", .type "object"] bm_NoPlace = true)
    (xs_NoPlace : PySem.W.findIn K (.ref c_NoPlace) "__setattr__" = some (some (.builtin "object.__setattr__"))) (xg_NoPlace : PySem.W.findIn K (.ref c_NoPlace) "__getattribute__" = some (some (.builtin "BaseException.__getattribute__"))) (xh_NoPlace : PySem.W.findIn K (.ref c_NoPlace) "__getattr__" = some none)
    (xc_NoPlace : PySem.W.findIn K (.ref c_NoPlace) "__class__" = some (some (.builtin "object.__class__"))) (xe_NoPlace : PySem.W.subIn K (.ref c_NoPlace) (.type "BaseException") = some true) (xy_NoPlace : PySem.W.typeIn K (.ref c_NoPlace) = some (.type "type")) (xk_NoPlace : PySem.W.keepIn K (.ref c_NoPlace) = true)
    (xd_NoPlace : PySem.W.hasDictIn K c_NoPlace = true) (xm_NoPlace : PySem.W.mroIn K c_NoPlace (.type "object") = some true)
    (xn_NoPlace : PySem.W.findIn K (.ref c_NoPlace) "value" = some none)
    {i_NoPlace : Addr} (xi_NoPlace : PySem.W.findIn K (.ref c_NoPlace) "__init__" = some (some (.ref i_NoPlace))) (xf_NoPlace : PySem.W.typeIn K (.ref i_NoPlace) = some (.type "function"))
    {oi_NoPlace ai_NoPlace : Option Addr} {li_NoPlace : Array (Option Value)} {ci_NoPlace kV_iNoPlace di_NoPlace pi_NoPlace cdi_NoPlace cti_NoPlace : Value}
    (xa_NoPlace : K.lookup i_NoPlace = some ⟨ci_NoPlace, oi_NoPlace, .func (PySem.W.fnOf "__init__" "NoPlace.__init__" (defArgs s_ini_NoPlace) (defBody s_ini_NoPlace) (defScope s_ini_NoPlace) .none kV_iNoPlace di_NoPlace pi_NoPlace ai_NoPlace cdi_NoPlace cti_NoPlace), li_NoPlace⟩) (xb_NoPlace : PySem.W.codeIn K cdi_NoPlace "NoPlace.__init__" = true) (xp_NoPlace : PySem.W.keepIn K (.ref i_NoPlace) = true)
    {nm_BadLetter q_BadLetter : Str} {N_BadLetter : Addr} {bs_BadLetter bm_BadLetter : List Value} {sn_BadLetter : List Str} {sub_BadLetter : List Value} {ab_BadLetter : Bool} {col_BadLetter : Option Bool} {dd_BadLetter : Option Addr} {k0_BadLetter k1_BadLetter k2_BadLetter k3_BadLetter k5_BadLetter : Option Value}
    (xl_BadLetter : K.lookup c_BadLetter = some (excClassObj nm_BadLetter q_BadLetter c_BadLetter N_BadLetter bs_BadLetter bm_BadLetter true sn_BadLetter sub_BadLetter ab_BadLetter col_BadLetter dd_BadLetter k0_BadLetter k1_BadLetter k2_BadLetter k3_BadLetter k5_BadLetter "ValueError.__new__"))
    (xt_BadLetter : PySem.W.excTail [.type "ValueError", .type "Exception", .type "BaseException", .type "object"] bm_BadLetter = true)
    (xs_BadLetter : PySem.W.findIn K (.ref c_BadLetter) "__setattr__" = some (some (.builtin "object.__setattr__"))) (xg_BadLetter : PySem.W.findIn K (.ref c_BadLetter) "__getattribute__" = some (some (.builtin "BaseException.__getattribute__"))) (xh_BadLetter : PySem.W.findIn K (.ref c_BadLetter) "__getattr__" = some none)
    (xc_BadLetter : PySem.W.findIn K (.ref c_BadLetter) "__class__" = some (some (.builtin "object.__class__"))) (xe_BadLetter : PySem.W.subIn K (.ref c_BadLetter) (.type "BaseException") = some true) (xy_BadLetter : PySem.W.typeIn K (.ref c_BadLetter) = some (.type "type")) (xk_BadLetter : PySem.W.keepIn K (.ref c_BadLetter) = true)
    (xd_BadLetter : PySem.W.hasDictIn K c_BadLetter = true) (xm_BadLetter : PySem.W.mroIn K c_BadLetter (.type "object") = some true)
    (xn_BadLetter : PySem.W.findIn K (.ref c_BadLetter) "value" = some none)
    {i_BadLetter : Addr} (xi_BadLetter : PySem.W.findIn K (.ref c_BadLetter) "__init__" = some (some (.ref i_BadLetter))) (xf_BadLetter : PySem.W.typeIn K (.ref i_BadLetter) = some (.type "function"))
    {oi_BadLetter ai_BadLetter : Option Addr} {li_BadLetter : Array (Option Value)} {ci_BadLetter kV_iBadLetter di_BadLetter pi_BadLetter cdi_BadLetter cti_BadLetter : Value}
    (xa_BadLetter : K.lookup i_BadLetter = some ⟨ci_BadLetter, oi_BadLetter, .func (PySem.W.fnOf "__init__" "BadLetter.__init__" (defArgs s_ini_BadLetter) (defBody s_ini_BadLetter) (defScope s_ini_BadLetter) .none kV_iBadLetter di_BadLetter pi_BadLetter ai_BadLetter cdi_BadLetter cti_BadLetter), li_BadLetter⟩) (xb_BadLetter : PySem.W.codeIn K cdi_BadLetter "BadLetter.__init__" = true) (xp_BadLetter : PySem.W.keepIn K (.ref i_BadLetter) = true)
    {nm_TooLong q_TooLong : Str} {N_TooLong : Addr} {bs_TooLong bm_TooLong : List Value} {sn_TooLong : List Str} {sub_TooLong : List Value} {ab_TooLong : Bool} {col_TooLong : Option Bool} {dd_TooLong : Option Addr} {k0_TooLong k1_TooLong k2_TooLong k3_TooLong k5_TooLong : Option Value}
    (xl_TooLong : K.lookup c_TooLong = some (excClassObj nm_TooLong q_TooLong c_TooLong N_TooLong bs_TooLong bm_TooLong true sn_TooLong sub_TooLong ab_TooLong col_TooLong dd_TooLong k0_TooLong k1_TooLong k2_TooLong k3_TooLong k5_TooLong "ValueError.__new__"))
    (xt_TooLong : PySem.W.excTail [.type "ValueError", .type "Exception", .type "BaseException", .type "object"] bm_TooLong = true)
    (xs_TooLong : PySem.W.findIn K (.ref c_TooLong) "__setattr__" = some (some (.builtin "object.__setattr__"))) (xg_TooLong : PySem.W.findIn K (.ref c_TooLong) "__getattribute__" = some (some (.builtin "BaseException.__getattribute__"))) (xh_TooLong : PySem.W.findIn K (.ref c_TooLong) "__getattr__" = some none)
    (xc_TooLong : PySem.W.findIn K (.ref c_TooLong) "__class__" = some (some (.builtin "object.__class__"))) (xe_TooLong : PySem.W.subIn K (.ref c_TooLong) (.type "BaseException") = some true) (xy_TooLong : PySem.W.typeIn K (.ref c_TooLong) = some (.type "type")) (xk_TooLong : PySem.W.keepIn K (.ref c_TooLong) = true)
    (xd_TooLong : PySem.W.hasDictIn K c_TooLong = true) (xm_TooLong : PySem.W.mroIn K c_TooLong (.type "object") = some true)
    (xn_TooLong : PySem.W.findIn K (.ref c_TooLong) "limit" = some none)
    {i_TooLong : Addr} (xi_TooLong : PySem.W.findIn K (.ref c_TooLong) "__init__" = some (some (.ref i_TooLong))) (xf_TooLong : PySem.W.typeIn K (.ref i_TooLong) = some (.type "function"))
    {oi_TooLong ai_TooLong : Option Addr} {li_TooLong : Array (Option Value)} {ci_TooLong kV_iTooLong di_TooLong pi_TooLong cdi_TooLong cti_TooLong : Value}
    (xa_TooLong : K.lookup i_TooLong = some ⟨ci_TooLong, oi_TooLong, .func (PySem.W.fnOf "__init__" "TooLong.__init__" (defArgs s_ini_TooLong) (defBody s_ini_TooLong) (defScope s_ini_TooLong) .none kV_iTooLong di_TooLong pi_TooLong ai_TooLong cdi_TooLong cti_TooLong), li_TooLong⟩) (xb_TooLong : PySem.W.codeIn K cdi_TooLong "TooLong.__init__" = true) (xp_TooLong : PySem.W.keepIn K (.ref i_TooLong) = true)
    {nm_LastLetter q_LastLetter : Str} {N_LastLetter : Addr} {bs_LastLetter bm_LastLetter : List Value} {sn_LastLetter : List Str} {sub_LastLetter : List Value} {ab_LastLetter : Bool} {col_LastLetter : Option Bool} {dd_LastLetter : Option Addr} {k0_LastLetter k1_LastLetter k2_LastLetter k3_LastLetter k5_LastLetter : Option Value}
    (xl_LastLetter : K.lookup c_LastLetter = some (excClassObj nm_LastLetter q_LastLetter c_LastLetter N_LastLetter bs_LastLetter bm_LastLetter true sn_LastLetter sub_LastLetter ab_LastLetter col_LastLetter dd_LastLetter k0_LastLetter k1_LastLetter k2_LastLetter k3_LastLetter k5_LastLetter "ValueError.__new__"))
    (xt_LastLetter : PySem.W.excTail [.type "ValueError", .type "Exception", .type "BaseException", .type "object"] bm_LastLetter = true)
    (xs_LastLetter : PySem.W.findIn K (.ref c_LastLetter) "__setattr__" = some (some (.builtin "object.__setattr__"))) (xg_LastLetter : PySem.W.findIn K (.ref c_LastLetter) "__getattribute__" = some (some (.builtin "BaseException.__getattribute__"))) (xh_LastLetter : PySem.W.findIn K (.ref c_LastLetter) "__getattr__" = some none)
    (xc_LastLetter : PySem.W.findIn K (.ref c_LastLetter) "__class__" = some (some (.builtin "object.__class__"))) (xe_LastLetter : PySem.W.subIn K (.ref c_LastLetter) (.type "BaseException") = some true) (xy_LastLetter : PySem.W.typeIn K (.ref c_LastLetter) = some (.type "type")) (xk_LastLetter : PySem.W.keepIn K (.ref c_LastLetter) = true)
    (xd_LastLetter : PySem.W.hasDictIn K c_LastLetter = true) (xm_LastLetter : PySem.W.mroIn K c_LastLetter (.type "object") = some true)
    (xq_LastLetter : PySem.W.excIn K c_LastLetter [.type "ValueError", .type "Exception", .type "BaseException", .type "object"] "ValueError.__new__" = true)
    {nm_TooManyEdits q_TooManyEdits : Str} {N_TooManyEdits : Addr} {bs_TooManyEdits bm_TooManyEdits : List Value} {sn_TooManyEdits : List Str} {sub_TooManyEdits : List Value} {ab_TooManyEdits : Bool} {col_TooManyEdits : Option Bool} {dd_TooManyEdits : Option Addr} {k0_TooManyEdits k1_TooManyEdits k2_TooManyEdits k3_TooManyEdits k5_TooManyEdits : Option Value}
    (xl_TooManyEdits : K.lookup c_TooManyEdits = some (excClassObj nm_TooManyEdits q_TooManyEdits c_TooManyEdits N_TooManyEdits bs_TooManyEdits bm_TooManyEdits true sn_TooManyEdits sub_TooManyEdits ab_TooManyEdits col_TooManyEdits dd_TooManyEdits k0_TooManyEdits k1_TooManyEdits k2_TooManyEdits k3_TooManyEdits k5_TooManyEdits "ValueError.__new__"))
    (xt_TooManyEdits : PySem.W.excTail [.type "ValueError", .type "Exception", .type "BaseException", .type "object"] bm_TooManyEdits = true)
    (xs_TooManyEdits : PySem.W.findIn K (.ref c_TooManyEdits) "__setattr__" = some (some (.builtin "object.__setattr__"))) (xg_TooManyEdits : PySem.W.findIn K (.ref c_TooManyEdits) "__getattribute__" = some (some (.builtin "BaseException.__getattribute__"))) (xh_TooManyEdits : PySem.W.findIn K (.ref c_TooManyEdits) "__getattr__" = some none)
    (xc_TooManyEdits : PySem.W.findIn K (.ref c_TooManyEdits) "__class__" = some (some (.builtin "object.__class__"))) (xe_TooManyEdits : PySem.W.subIn K (.ref c_TooManyEdits) (.type "BaseException") = some true) (xy_TooManyEdits : PySem.W.typeIn K (.ref c_TooManyEdits) = some (.type "type")) (xk_TooManyEdits : PySem.W.keepIn K (.ref c_TooManyEdits) = true)
    (xd_TooManyEdits : PySem.W.hasDictIn K c_TooManyEdits = true) (xm_TooManyEdits : PySem.W.mroIn K c_TooManyEdits (.type "object") = some true)
    (xq_TooManyEdits : PySem.W.excIn K c_TooManyEdits [.type "ValueError", .type "Exception", .type "BaseException", .type "object"] "ValueError.__new__" = true)
    {nm_NothingToUndo q_NothingToUndo : Str} {N_NothingToUndo : Addr} {bs_NothingToUndo bm_NothingToUndo : List Value} {sn_NothingToUndo : List Str} {sub_NothingToUndo : List Value} {ab_NothingToUndo : Bool} {col_NothingToUndo : Option Bool} {dd_NothingToUndo : Option Addr} {k0_NothingToUndo k1_NothingToUndo k2_NothingToUndo k3_NothingToUndo k5_NothingToUndo : Option Value}
    (xl_NothingToUndo : K.lookup c_NothingToUndo = some (excClassObj nm_NothingToUndo q_NothingToUndo c_NothingToUndo N_NothingToUndo bs_NothingToUndo bm_NothingToUndo true sn_NothingToUndo sub_NothingToUndo ab_NothingToUndo col_NothingToUndo dd_NothingToUndo k0_NothingToUndo k1_NothingToUndo k2_NothingToUndo k3_NothingToUndo k5_NothingToUndo "ValueError.__new__"))
    (xt_NothingToUndo : PySem.W.excTail [.type "ValueError", .type "Exception", .type "BaseException", .type "object"] bm_NothingToUndo = true)
    (xs_NothingToUndo : PySem.W.findIn K (.ref c_NothingToUndo) "__setattr__" = some (some (.builtin "object.__setattr__"))) (xg_NothingToUndo : PySem.W.findIn K (.ref c_NothingToUndo) "__getattribute__" = some (some (.builtin "BaseException.__getattribute__"))) (xh_NothingToUndo : PySem.W.findIn K (.ref c_NothingToUndo) "__getattr__" = some none)
    (xc_NothingToUndo : PySem.W.findIn K (.ref c_NothingToUndo) "__class__" = some (some (.builtin "object.__class__"))) (xe_NothingToUndo : PySem.W.subIn K (.ref c_NothingToUndo) (.type "BaseException") = some true) (xy_NothingToUndo : PySem.W.typeIn K (.ref c_NothingToUndo) = some (.type "type")) (xk_NothingToUndo : PySem.W.keepIn K (.ref c_NothingToUndo) = true)
    (xd_NothingToUndo : PySem.W.hasDictIn K c_NothingToUndo = true) (xm_NothingToUndo : PySem.W.mroIn K c_NothingToUndo (.type "object") = some true)
    (xq_NothingToUndo : PySem.W.excIn K c_NothingToUndo [.type "ValueError", .type "Exception", .type "BaseException", .type "object"] "ValueError.__new__" = true)
    {nm_BadWord q_BadWord : Str} {N_BadWord : Addr} {bs_BadWord bm_BadWord : List Value} {sn_BadWord : List Str} {sub_BadWord : List Value} {ab_BadWord : Bool} {col_BadWord : Option Bool} {dd_BadWord : Option Addr} {k0_BadWord k1_BadWord k2_BadWord k3_BadWord k5_BadWord : Option Value}
    (xl_BadWord : K.lookup c_BadWord = some (excClassObj nm_BadWord q_BadWord c_BadWord N_BadWord bs_BadWord bm_BadWord true sn_BadWord sub_BadWord ab_BadWord col_BadWord dd_BadWord k0_BadWord k1_BadWord k2_BadWord k3_BadWord k5_BadWord "ValueError.__new__"))
    (xt_BadWord : PySem.W.excTail [.type "ValueError", .type "Exception", .type "BaseException", .type "object"] bm_BadWord = true)
    (xs_BadWord : PySem.W.findIn K (.ref c_BadWord) "__setattr__" = some (some (.builtin "object.__setattr__"))) (xg_BadWord : PySem.W.findIn K (.ref c_BadWord) "__getattribute__" = some (some (.builtin "BaseException.__getattribute__"))) (xh_BadWord : PySem.W.findIn K (.ref c_BadWord) "__getattr__" = some none)
    (xc_BadWord : PySem.W.findIn K (.ref c_BadWord) "__class__" = some (some (.builtin "object.__class__"))) (xe_BadWord : PySem.W.subIn K (.ref c_BadWord) (.type "BaseException") = some true) (xy_BadWord : PySem.W.typeIn K (.ref c_BadWord) = some (.type "type")) (xk_BadWord : PySem.W.keepIn K (.ref c_BadWord) = true)
    (xd_BadWord : PySem.W.hasDictIn K c_BadWord = true) (xm_BadWord : PySem.W.mroIn K c_BadWord (.type "object") = some true)
    (xn_BadWord : PySem.W.findIn K (.ref c_BadWord) "error" = some none)
    {i_BadWord : Addr} (xi_BadWord : PySem.W.findIn K (.ref c_BadWord) "__init__" = some (some (.ref i_BadWord))) (xf_BadWord : PySem.W.typeIn K (.ref i_BadWord) = some (.type "function"))
    {oi_BadWord ai_BadWord : Option Addr} {li_BadWord : Array (Option Value)} {ci_BadWord kV_iBadWord di_BadWord pi_BadWord cdi_BadWord cti_BadWord : Value}
    (xa_BadWord : K.lookup i_BadWord = some ⟨ci_BadWord, oi_BadWord, .func (PySem.W.fnOf "__init__" "BadWord.__init__" (defArgs s_ini_BadWord) (defBody s_ini_BadWord) (defScope s_ini_BadWord) .none kV_iBadWord di_BadWord pi_BadWord ai_BadWord cdi_BadWord cti_BadWord), li_BadWord⟩) (xb_BadWord : PySem.W.codeIn K cdi_BadWord "BadWord.__init__" = true) (xp_BadWord : PySem.W.keepIn K (.ref i_BadWord) = true)
    (em_NoPlace_Busy : PySem.W.exmOne K (.ref c_NoPlace) (.ref c_Busy) = some false)
    (em_NoPlace_TooManyEdits : PySem.W.exmOne K (.ref c_NoPlace) (.ref c_TooManyEdits) = some false)
    (em_NoPlace_NoPlace : PySem.W.exmOne K (.ref c_NoPlace) (.ref c_NoPlace) = some true)
    (em_NoPlace_BadLetter : PySem.W.exmOne K (.ref c_NoPlace) (.ref c_BadLetter) = some false)
    (em_NoPlace_TooLong : PySem.W.exmOne K (.ref c_NoPlace) (.ref c_TooLong) = some false)
    (em_NoPlace_LastLetter : PySem.W.exmOne K (.ref c_NoPlace) (.ref c_LastLetter) = some false)
    (em_NoPlace_NotSimple : PySem.W.exmOne K (.ref c_NoPlace) (.ref c_NotSimple) = some false)
    (em_NoPlace_NothingToUndo : PySem.W.exmOne K (.ref c_NoPlace) (.ref c_NothingToUndo) = some false)
    (em_NoPlace_BadWord : PySem.W.exmOne K (.ref c_NoPlace) (.ref c_BadWord) = some false)
    (em_BadLetter_Busy : PySem.W.exmOne K (.ref c_BadLetter) (.ref c_Busy) = some false)
    (em_BadLetter_TooManyEdits : PySem.W.exmOne K (.ref c_BadLetter) (.ref c_TooManyEdits) = some false)
    (em_BadLetter_NoPlace : PySem.W.exmOne K (.ref c_BadLetter) (.ref c_NoPlace) = some false)
    (em_BadLetter_BadLetter : PySem.W.exmOne K (.ref c_BadLetter) (.ref c_BadLetter) = some true)
    (em_BadLetter_TooLong : PySem.W.exmOne K (.ref c_BadLetter) (.ref c_TooLong) = some false)
    (em_BadLetter_LastLetter : PySem.W.exmOne K (.ref c_BadLetter) (.ref c_LastLetter) = some false)
    (em_BadLetter_NotSimple : PySem.W.exmOne K (.ref c_BadLetter) (.ref c_NotSimple) = some false)
    (em_BadLetter_NothingToUndo : PySem.W.exmOne K (.ref c_BadLetter) (.ref c_NothingToUndo) = some false)
    (em_BadLetter_BadWord : PySem.W.exmOne K (.ref c_BadLetter) (.ref c_BadWord) = some false)
    (em_TooLong_Busy : PySem.W.exmOne K (.ref c_TooLong) (.ref c_Busy) = some false)
    (em_TooLong_TooManyEdits : PySem.W.exmOne K (.ref c_TooLong) (.ref c_TooManyEdits) = some false)
    (em_TooLong_NoPlace : PySem.W.exmOne K (.ref c_TooLong) (.ref c_NoPlace) = some false)
    (em_TooLong_BadLetter : PySem.W.exmOne K (.ref c_TooLong) (.ref c_BadLetter) = some false)
    (em_TooLong_TooLong : PySem.W.exmOne K (.ref c_TooLong) (.ref c_TooLong) = some true)
    (em_TooLong_LastLetter : PySem.W.exmOne K (.ref c_TooLong) (.ref c_LastLetter) = some false)
    (em_TooLong_NotSimple : PySem.W.exmOne K (.ref c_TooLong) (.ref c_NotSimple) = some false)
    (em_TooLong_NothingToUndo : PySem.W.exmOne K (.ref c_TooLong) (.ref c_NothingToUndo) = some false)
    (em_TooLong_BadWord : PySem.W.exmOne K (.ref c_TooLong) (.ref c_BadWord) = some false)
    (em_LastLetter_Busy : PySem.W.exmOne K (.ref c_LastLetter) (.ref c_Busy) = some false)
    (em_LastLetter_TooManyEdits : PySem.W.exmOne K (.ref c_LastLetter) (.ref c_TooManyEdits) = some false)
    (em_LastLetter_NoPlace : PySem.W.exmOne K (.ref c_LastLetter) (.ref c_NoPlace) = some false)
    (em_LastLetter_BadLetter : PySem.W.exmOne K (.ref c_LastLetter) (.ref c_BadLetter) = some false)
    (em_LastLetter_TooLong : PySem.W.exmOne K (.ref c_LastLetter) (.ref c_TooLong) = some false)
    (em_LastLetter_LastLetter : PySem.W.exmOne K (.ref c_LastLetter) (.ref c_LastLetter) = some true)
    (em_LastLetter_NotSimple : PySem.W.exmOne K (.ref c_LastLetter) (.ref c_NotSimple) = some false)
    (em_LastLetter_NothingToUndo : PySem.W.exmOne K (.ref c_LastLetter) (.ref c_NothingToUndo) = some false)
    (em_LastLetter_BadWord : PySem.W.exmOne K (.ref c_LastLetter) (.ref c_BadWord) = some false)
    (em_TooManyEdits_Busy : PySem.W.exmOne K (.ref c_TooManyEdits) (.ref c_Busy) = some false)
    (em_TooManyEdits_TooManyEdits : PySem.W.exmOne K (.ref c_TooManyEdits) (.ref c_TooManyEdits) = some true)
    (em_TooManyEdits_NoPlace : PySem.W.exmOne K (.ref c_TooManyEdits) (.ref c_NoPlace) = some false)
    (em_TooManyEdits_BadLetter : PySem.W.exmOne K (.ref c_TooManyEdits) (.ref c_BadLetter) = some false)
    (em_TooManyEdits_TooLong : PySem.W.exmOne K (.ref c_TooManyEdits) (.ref c_TooLong) = some false)
    (em_TooManyEdits_LastLetter : PySem.W.exmOne K (.ref c_TooManyEdits) (.ref c_LastLetter) = some false)
    (em_TooManyEdits_NotSimple : PySem.W.exmOne K (.ref c_TooManyEdits) (.ref c_NotSimple) = some false)
    (em_TooManyEdits_NothingToUndo : PySem.W.exmOne K (.ref c_TooManyEdits) (.ref c_NothingToUndo) = some false)
    (em_TooManyEdits_BadWord : PySem.W.exmOne K (.ref c_TooManyEdits) (.ref c_BadWord) = some false)
    (em_NothingToUndo_Busy : PySem.W.exmOne K (.ref c_NothingToUndo) (.ref c_Busy) = some false)
    (em_NothingToUndo_TooManyEdits : PySem.W.exmOne K (.ref c_NothingToUndo) (.ref c_TooManyEdits) = some false)
    (em_NothingToUndo_NoPlace : PySem.W.exmOne K (.ref c_NothingToUndo) (.ref c_NoPlace) = some false)
    (em_NothingToUndo_BadLetter : PySem.W.exmOne K (.ref c_NothingToUndo) (.ref c_BadLetter) = some false)
    (em_NothingToUndo_TooLong : PySem.W.exmOne K (.ref c_NothingToUndo) (.ref c_TooLong) = some false)
    (em_NothingToUndo_LastLetter : PySem.W.exmOne K (.ref c_NothingToUndo) (.ref c_LastLetter) = some false)
    (em_NothingToUndo_NotSimple : PySem.W.exmOne K (.ref c_NothingToUndo) (.ref c_NotSimple) = some false)
    (em_NothingToUndo_NothingToUndo : PySem.W.exmOne K (.ref c_NothingToUndo) (.ref c_NothingToUndo) = some true)
    (em_NothingToUndo_BadWord : PySem.W.exmOne K (.ref c_NothingToUndo) (.ref c_BadWord) = some false)
    (em_BadWord_Busy : PySem.W.exmOne K (.ref c_BadWord) (.ref c_Busy) = some false)
    (em_BadWord_TooManyEdits : PySem.W.exmOne K (.ref c_BadWord) (.ref c_TooManyEdits) = some false)
    (em_BadWord_NoPlace : PySem.W.exmOne K (.ref c_BadWord) (.ref c_NoPlace) = some false)
    (em_BadWord_BadLetter : PySem.W.exmOne K (.ref c_BadWord) (.ref c_BadLetter) = some false)
    (em_BadWord_TooLong : PySem.W.exmOne K (.ref c_BadWord) (.ref c_TooLong) = some false)
    (em_BadWord_LastLetter : PySem.W.exmOne K (.ref c_BadWord) (.ref c_LastLetter) = some false)
    (em_BadWord_NotSimple : PySem.W.exmOne K (.ref c_BadWord) (.ref c_NotSimple) = some false)
    (em_BadWord_NothingToUndo : PySem.W.exmOne K (.ref c_BadWord) (.ref c_NothingToUndo) = some false)
    (em_BadWord_BadWord : PySem.W.exmOne K (.ref c_BadWord) (.ref c_BadWord) = some true)
    (base : Heap) (s : Shared) (H : Hp) (a : Addr) (ns : List Int) (hn : ns.length ≤ 63) (KB : K.In base) (GB : base.Ns mainGlobals mg)
    (e0 : Env0 l.prog w K mg base callerA [] s H) (hS : SqL K H a (ns.map V.int)) :
    codeAny (model l.prog w) callerA (.call (.ref fa) ⟨[.ref a], []⟩) (CR CX0 [] l.prog w H s (fun v _ => v = .bl true) E0) s := by
  have e := hfa.symm.trans (PySem.W.mg_of X G a_law)
  cases e
  have F_law_stream := fun_mk (st := s_law_stream) l_law_stream c_law_stream k_law_stream
  have b_law_stream := F_law_stream.binds (ps := ["_law_script"]) fun _ _ _ _ _ _ us hl => match us, hl with | [_], _ => rfl
  have F_law_draw := fun_mk (st := s_law_draw) l_law_draw c_law_draw k_law_draw
  have b_law_draw := F_law_draw.binds (ps := ["_law_stream_here", "_law_many"]) fun _ _ _ _ _ _ us hl => match us, hl with | [_, _], _ => rfl
  have F_law_pick := fun_mk (st := s_law_pick) l_law_pick c_law_pick k_law_pick
  have b_law_pick := F_law_pick.binds (ps := ["_law_stream_here", "_law_items"]) fun _ _ _ _ _ _ us hl => match us, hl with | [_, _], _ => rfl
  have F_is_whole := fun_mk (st := s_is_whole) l_is_whole c_is_whole k_is_whole
  have b_is_whole := F_is_whole.binds (ps := ["value"]) fun _ _ _ _ _ _ us hl => match us, hl with | [_], _ => rfl
  have F_is_place := fun_mk (st := s_is_place) l_is_place c_is_place k_is_place
  have b_is_place := F_is_place.binds (ps := ["value", "many"]) fun _ _ _ _ _ _ us hl => match us, hl with | [_, _], _ => rfl
  have F_check_place := fun_mk (st := s_check_place) l_check_place c_check_place k_check_place
  have b_check_place := F_check_place.binds (ps := ["value", "many"]) fun _ _ _ _ _ _ us hl => match us, hl with | [_, _], _ => rfl
  have F_rank_places := fun_mk (st := s_rank_places) l_rank_places c_rank_places k_rank_places
  have b_rank_places := F_rank_places.binds (ps := ["order"]) fun _ _ _ _ _ _ us hl => match us, hl with | [_], _ => rfl
  have F_word_error := fun_mk (st := s_word_error) l_word_error c_word_error k_word_error
  have b_word_error := F_word_error.binds (ps := ["value"]) fun _ _ _ _ _ _ us hl => match us, hl with | [_], _ => rfl
  have F_is_word := fun_mk (st := s_is_word) l_is_word c_is_word k_is_word
  have b_is_word := F_is_word.binds (ps := ["value"]) fun _ _ _ _ _ _ us hl => match us, hl with | [_], _ => rfl
  have F_is_letter := fun_mk (st := s_is_letter) l_is_letter c_is_letter k_is_letter
  have b_is_letter := F_is_letter.binds (ps := ["value"]) fun _ _ _ _ _ _ us hl => match us, hl with | [_], _ => rfl
  have F_tail_order := fun_mk (st := s_tail_order) l_tail_order c_tail_order k_tail_order
  have b_tail_order := F_tail_order.binds (ps := ["word"]) fun _ _ _ _ _ _ us hl => match us, hl with | [_], _ => rfl
  have F_tail_ranks := fun_mk (st := s_tail_ranks) l_tail_ranks c_tail_ranks k_tail_ranks
  have b_tail_ranks := F_tail_ranks.binds (ps := ["word"]) fun _ _ _ _ _ _ us hl => match us, hl with | [_], _ => rfl
  have F_ranks_of := fun_mk (st := s_ranks_of) l_ranks_of c_ranks_of k_ranks_of
  have b_ranks_of := F_ranks_of.binds (ps := ["order"]) fun _ _ _ _ _ _ us hl => match us, hl with | [_], _ => rfl
  have F_first_lower := fun_mk (st := s_first_lower) l_first_lower c_first_lower k_first_lower
  have b_first_lower := F_first_lower.binds (ps := ["ranks", "rank"]) fun _ _ _ _ _ _ us hl => match us, hl with | [_, _], _ => rfl
  have F_factor_places := fun_mk (st := s_factor_places) l_factor_places c_factor_places k_factor_places
  have b_factor_places := F_factor_places.binds (ps := ["order"]) fun _ _ _ _ _ _ us hl => match us, hl with | [_], _ => rfl
  have F_factors := fun_mk (st := s_factors) l_factors c_factors k_factors
  have b_factors := F_factors.binds (ps := ["word"]) fun _ _ _ _ _ _ us hl => match us, hl with | [_], _ => rfl
  have F_common_length := fun_mk (st := s_common_length) l_common_length c_common_length k_common_length
  have b_common_length := F_common_length.binds (ps := ["word", "one", "other"]) fun _ _ _ _ _ _ us hl => match us, hl with | [_, _, _], _ => rfl
  have F_heads_of := fun_mk (st := s_heads_of) l_heads_of c_heads_of k_heads_of
  have b_heads_of := F_heads_of.binds (ps := ["word"]) fun _ _ _ _ _ _ us hl => match us, hl with | [_], _ => rfl
  have F_each_part := fun_mk (st := s_each_part) l_each_part c_each_part k_each_part
  have b_each_part := F_each_part.binds (ps := ["word"]) fun _ _ _ _ _ _ us hl => match us, hl with | [_], _ => rfl
  have F_count_parts := fun_mk (st := s_count_parts) l_count_parts c_count_parts k_count_parts
  have b_count_parts := F_count_parts.binds (ps := ["word"]) fun _ _ _ _ _ _ us hl => match us, hl with | [_], _ => rfl
  have F_word_text := fun_mk (st := s_word_text) l_word_text c_word_text k_word_text
  have b_word_text := F_word_text.binds (ps := ["word"]) fun _ _ _ _ _ _ us hl => match us, hl with | [_], _ => rfl
  have F_order_text := fun_mk (st := s_order_text) l_order_text c_order_text k_order_text
  have b_order_text := F_order_text.binds (ps := ["order"]) fun _ _ _ _ _ _ us hl => match us, hl with | [_], _ => rfl
  have F_places_text := fun_mk (st := s_places_text) l_places_text c_places_text k_places_text
  have b_places_text := F_places_text.binds (ps := ["places"]) fun _ _ _ _ _ _ us hl => match us, hl with | [_], _ => rfl
  have F_is_number := fun_mk (st := s_is_number) l_is_number c_is_number k_is_number
  have b_is_number := F_is_number.binds (ps := ["text", "many"]) fun _ _ _ _ _ _ us hl => match us, hl with | [_, _], _ => rfl
  have F_Console___init__ := fun_mk (st := s_Console___init__) l_Console___init__ c_Console___init__ k_Console___init__
  have b_Console___init__ := F_Console___init__.binds (ps := ["self", "desk"]) fun _ _ _ _ _ _ us hl => match us, hl with | [_, _], _ => rfl
  have F_done := fun_mk (st := s_done) l_done c_done k_done
  have b_done := F_done.binds (ps := ["version"]) fun _ _ _ _ _ _ us hl => match us, hl with | [_], _ => rfl
  have F_Desk_word := fun_mk (st := s_Desk_word) l_Desk_word c_Desk_word k_Desk_word
  have b_Desk_word := F_Desk_word.binds (ps := ["self"]) fun _ _ _ _ _ _ us hl => match us, hl with | [_], _ => rfl
  have F_Desk_order := fun_mk (st := s_Desk_order) l_Desk_order c_Desk_order k_Desk_order
  have b_Desk_order := F_Desk_order.binds (ps := ["self"]) fun _ _ _ _ _ _ us hl => match us, hl with | [_], _ => rfl
  have F_places_of := fun_mk (st := s_places_of) l_places_of c_places_of k_places_of
  have b_places_of := F_places_of.binds (ps := ["word", "pattern"]) fun _ _ _ _ _ _ us hl => match us, hl with | [_, _], _ => rfl
  have F_Desk_found := fun_mk (st := s_Desk_found) l_Desk_found c_Desk_found k_Desk_found
  have b_Desk_found := F_Desk_found.binds (ps := ["self"]) fun _ _ _ _ _ _ us hl => match us, hl with | [_], _ => rfl
  have F_Desk_check_free := fun_mk (st := s_Desk_check_free) l_Desk_check_free c_Desk_check_free k_Desk_check_free
  have b_Desk_check_free := F_Desk_check_free.binds (ps := ["self"]) fun _ _ _ _ _ _ us hl => match us, hl with | [_], _ => rfl
  have F_check_letter := fun_mk (st := s_check_letter) l_check_letter c_check_letter k_check_letter
  have b_check_letter := F_check_letter.binds (ps := ["value"]) fun _ _ _ _ _ _ us hl => match us, hl with | [_], _ => rfl
  have F_changed := fun_mk (st := s_changed) l_changed c_changed k_changed
  have b_changed := F_changed.binds (ps := ["word", "place", "letter"]) fun _ _ _ _ _ _ us hl => match us, hl with | [_, _, _], _ => rfl
  have F_lengthened := fun_mk (st := s_lengthened) l_lengthened c_lengthened k_lengthened
  have b_lengthened := F_lengthened.binds (ps := ["word", "letter"]) fun _ _ _ _ _ _ us hl => match us, hl with | [_, _], _ => rfl
  have F_shortened := fun_mk (st := s_shortened) l_shortened c_shortened k_shortened
  have b_shortened := F_shortened.binds (ps := ["word"]) fun _ _ _ _ _ _ us hl => match us, hl with | [_], _ => rfl
  have F_edited := fun_mk (st := s_edited) l_edited c_edited k_edited
  have b_edited := F_edited.binds (ps := ["word", "edit"]) fun _ _ _ _ _ _ us hl => match us, hl with | [_, _], _ => rfl
  have F_Desk_check_result := fun_mk (st := s_Desk_check_result) l_Desk_check_result c_Desk_check_result k_Desk_check_result
  have b_Desk_check_result := F_Desk_check_result.binds (ps := ["self", "word"]) fun _ _ _ _ _ _ us hl => match us, hl with | [_, _], _ => rfl
  have F_Desk_do_edit := fun_mk (st := s_Desk_do_edit) l_Desk_do_edit c_Desk_do_edit k_Desk_do_edit
  have b_Desk_do_edit := F_Desk_do_edit.binds (ps := ["self", "edit"]) fun _ _ _ _ _ _ us hl => match us, hl with | [_, _], _ => rfl
  have F_Desk_do_alone := fun_mk (st := s_Desk_do_alone) l_Desk_do_alone c_Desk_do_alone k_Desk_do_alone
  have b_Desk_do_alone := F_Desk_do_alone.binds (ps := ["self", "edit"]) fun _ _ _ _ _ _ us hl => match us, hl with | [_, _], _ => rfl
  have F_Desk_shrink := fun_mk (st := s_Desk_shrink) l_Desk_shrink c_Desk_shrink k_Desk_shrink
  have b_Desk_shrink := F_Desk_shrink.binds (ps := ["self"]) fun _ _ _ _ _ _ us hl => match us, hl with | [_], _ => rfl
  have F_Desk_undo := fun_mk (st := s_Desk_undo) l_Desk_undo c_Desk_undo k_Desk_undo
  have b_Desk_undo := F_Desk_undo.binds (ps := ["self"]) fun _ _ _ _ _ _ us hl => match us, hl with | [_], _ => rfl
  have F_do_one_word := fun_mk (st := s_do_one_word) l_do_one_word c_do_one_word k_do_one_word
  have b_do_one_word := F_do_one_word.binds (ps := ["desk", "name"]) fun _ _ _ _ _ _ us hl => match us, hl with | [_, _], _ => rfl
  have F_check_word := fun_mk (st := s_check_word) l_check_word c_check_word k_check_word
  have b_check_word := F_check_word.binds (ps := ["value"]) fun _ _ _ _ _ _ us hl => match us, hl with | [_], _ => rfl
  have F_Desk_pattern_set := fun_mk (st := s_Desk_pattern_set) l_Desk_pattern_set c_Desk_pattern_set k_Desk_pattern_set
  have b_Desk_pattern_set := F_Desk_pattern_set.binds (ps := ["self", "value"]) fun _ _ _ _ _ _ us hl => match us, hl with | [_, _], _ => rfl
  have F_Desk_look := fun_mk (st := s_Desk_look) l_Desk_look c_Desk_look k_Desk_look
  have b_Desk_look := F_Desk_look.binds (ps := ["self", "value"]) fun _ _ _ _ _ _ us hl => match us, hl with | [_, _], _ => rfl
  have F_Desk_grow := fun_mk (st := s_Desk_grow) l_Desk_grow c_Desk_grow k_Desk_grow
  have b_Desk_grow := F_Desk_grow.binds (ps := ["self", "letter"]) fun _ _ _ _ _ _ us hl => match us, hl with | [_, _], _ => rfl
  have F_Desk_rank_of := fun_mk (st := s_Desk_rank_of) l_Desk_rank_of c_Desk_rank_of k_Desk_rank_of
  have b_Desk_rank_of := F_Desk_rank_of.binds (ps := ["self", "place"]) fun _ _ _ _ _ _ us hl => match us, hl with | [_, _], _ => rfl
  have F_do_two_words := fun_mk (st := s_do_two_words) l_do_two_words c_do_two_words k_do_two_words
  have b_do_two_words := F_do_two_words.binds (ps := ["desk", "name", "value"]) fun _ _ _ _ _ _ us hl => match us, hl with | [_, _, _], _ => rfl
  have F_Desk_change := fun_mk (st := s_Desk_change) l_Desk_change c_Desk_change k_Desk_change
  have b_Desk_change := F_Desk_change.binds (ps := ["self", "place", "letter"]) fun _ _ _ _ _ _ us hl => match us, hl with | [_, _, _], _ => rfl
  have F_do_command := fun_mk (st := s_do_command) l_do_command c_do_command k_do_command
  have b_do_command := F_do_command.binds (ps := ["desk", "words"]) fun _ _ _ _ _ _ us hl => match us, hl with | [_, _], _ => rfl
  have F_answer_to := fun_mk (st := s_answer_to) l_answer_to c_answer_to k_answer_to
  have b_answer_to := F_answer_to.binds (ps := ["desk", "line"]) fun _ _ _ _ _ _ us hl => match us, hl with | [_, _], _ => rfl
  have F_Console_execute := fun_mk (st := s_Console_execute) l_Console_execute c_Console_execute k_Console_execute
  have b_Console_execute := F_Console_execute.binds (ps := ["self", "line"]) fun _ _ _ _ _ _ us hl => match us, hl with | [_, _], _ => rfl
  have F_Desk___init__ := fun_mk (st := s_Desk___init__) l_Desk___init__ c_Desk___init__ k_Desk___init__
  have b_Desk___init__ := F_Desk___init__.binds (ps := ["self", "word"]) fun _ _ _ _ _ _ us hl => match us, hl with | [_, _], _ => rfl
  have F_Desk_version := fun_mk (st := s_Desk_version) l_Desk_version c_Desk_version k_Desk_version
  have b_Desk_version := F_Desk_version.binds (ps := ["self"]) fun _ _ _ _ _ _ us hl => match us, hl with | [_], _ => rfl
  have F_Desk_pattern := fun_mk (st := s_Desk_pattern) l_Desk_pattern c_Desk_pattern k_Desk_pattern
  have b_Desk_pattern := F_Desk_pattern.binds (ps := ["self"]) fun _ _ _ _ _ _ us hl => match us, hl with | [_], _ => rfl
  have F_Desk_edits := fun_mk (st := s_Desk_edits) l_Desk_edits c_Desk_edits k_Desk_edits
  have b_Desk_edits := F_Desk_edits.binds (ps := ["self"]) fun _ _ _ _ _ _ us hl => match us, hl with | [_], _ => rfl
  have F_Desk___len__ := fun_mk (st := s_Desk___len__) l_Desk___len__ c_Desk___len__ k_Desk___len__
  have b_Desk___len__ := F_Desk___len__.binds (ps := ["self"]) fun _ _ _ _ _ _ us hl => match us, hl with | [_], _ => rfl
  have F_Desk___str__ := fun_mk (st := s_Desk___str__) l_Desk___str__ c_Desk___str__ k_Desk___str__
  have b_Desk___str__ := F_Desk___str__.binds (ps := ["self"]) fun _ _ _ _ _ _ us hl => match us, hl with | [_], _ => rfl
  have F_law_odd := fun_mk (st := s_law_odd) l_law_odd c_law_odd k_law_odd
  have b_law_odd := F_law_odd.binds (ps := ["_law_stream_here"]) fun _ _ _ _ _ _ us hl => match us, hl with | [_], _ => rfl
  have F_law_word := fun_mk (st := s_law_word) l_law_word c_law_word k_law_word
  have b_law_word := F_law_word.binds (ps := ["_law_stream_here", "_law_most"]) fun _ _ _ _ _ _ us hl => match us, hl with | [_, _], _ => rfl
  have F_law_seen := fun_mk (st := s_law_seen) l_law_seen c_law_seen k_law_seen
  have b_law_seen := F_law_seen.binds (ps := ["_law_desk"]) fun _ _ _ _ _ _ us hl => match us, hl with | [_], _ => rfl
  have F_law_is_number := fun_mk (st := s_law_is_number) l_law_is_number c_law_is_number k_law_is_number
  have b_law_is_number := F_law_is_number.binds (ps := ["_law_word_here"]) fun _ _ _ _ _ _ us hl => match us, hl with | [_], _ => rfl
  have F_law_is_command := fun_mk (st := s_law_is_command) l_law_is_command c_law_is_command k_law_is_command
  have b_law_is_command := F_law_is_command.binds (ps := ["_law_value"]) fun _ _ _ _ _ _ us hl => match us, hl with | [_], _ => rfl
  have F_law_lines := fun_mk (st := s_law_lines) l_law_lines c_law_lines k_law_lines
  have b_law_lines := F_law_lines.binds (ps := []) fun _ _ _ _ _ _ us hl => match us, hl with | [], _ => rfl
  have F_law_changed := fun_mk (st := s_law_changed) l_law_changed c_law_changed k_law_changed
  have b_law_changed := F_law_changed.binds (ps := ["_law_stream_here", "_law_line"]) fun _ _ _ _ _ _ us hl => match us, hl with | [_, _], _ => rfl
  have FI_NoPlace := fun_mk (st := s_ini_NoPlace) xa_NoPlace xb_NoPlace xp_NoPlace
  have bi_NoPlace := FI_NoPlace.binds (ps := ["self", "value"]) fun _ _ _ _ _ _ us hl => match us, hl with | [_, _], _ => rfl
  have FI_BadLetter := fun_mk (st := s_ini_BadLetter) xa_BadLetter xb_BadLetter xp_BadLetter
  have bi_BadLetter := FI_BadLetter.binds (ps := ["self", "value"]) fun _ _ _ _ _ _ us hl => match us, hl with | [_, _], _ => rfl
  have FI_TooLong := fun_mk (st := s_ini_TooLong) xa_TooLong xb_TooLong xp_TooLong
  have bi_TooLong := FI_TooLong.binds (ps := ["self", "limit"]) fun _ _ _ _ _ _ us hl => match us, hl with | [_, _], _ => rfl
  have FI_BadWord := fun_mk (st := s_ini_BadWord) xa_BadWord xb_BadWord xp_BadWord
  have bi_BadWord := FI_BadWord.binds (ps := ["self", "error"]) fun _ _ _ _ _ _ us hl => match us, hl with | [_, _], _ => rfl
  have E_NoPlace : ExA K c_NoPlace := ⟨_, _, _, _, ⟨PySem.F.excBase_LookupError, PySem.F.store_LookupError, ⟨_, _, _, _, _, _, _, _, _, _, _, _, _, _, _, xl_NoPlace, xt_NoPlace⟩, xs_NoPlace, xg_NoPlace, xh_NoPlace, xc_NoPlace, xe_NoPlace, xy_NoPlace, xk_NoPlace, xd_NoPlace, xm_NoPlace, x_ng, x_nt⟩⟩
  have E_BadLetter : ExA K c_BadLetter := ⟨_, _, _, _, ⟨PySem.F.excBase_ValueError, PySem.F.store_ValueError, ⟨_, _, _, _, _, _, _, _, _, _, _, _, _, _, _, xl_BadLetter, xt_BadLetter⟩, xs_BadLetter, xg_BadLetter, xh_BadLetter, xc_BadLetter, xe_BadLetter, xy_BadLetter, xk_BadLetter, xd_BadLetter, xm_BadLetter, x_ng, x_nt⟩⟩
  have E_TooLong : ExA K c_TooLong := ⟨_, _, _, _, ⟨PySem.F.excBase_ValueError, PySem.F.store_ValueError, ⟨_, _, _, _, _, _, _, _, _, _, _, _, _, _, _, xl_TooLong, xt_TooLong⟩, xs_TooLong, xg_TooLong, xh_TooLong, xc_TooLong, xe_TooLong, xy_TooLong, xk_TooLong, xd_TooLong, xm_TooLong, x_ng, x_nt⟩⟩
  have E_LastLetter : ExA K c_LastLetter := ⟨_, _, _, _, ⟨PySem.F.excBase_ValueError, PySem.F.store_ValueError, ⟨_, _, _, _, _, _, _, _, _, _, _, _, _, _, _, xl_LastLetter, xt_LastLetter⟩, xs_LastLetter, xg_LastLetter, xh_LastLetter, xc_LastLetter, xe_LastLetter, xy_LastLetter, xk_LastLetter, xd_LastLetter, xm_LastLetter, x_ng, x_nt⟩⟩
  have E_TooManyEdits : ExA K c_TooManyEdits := ⟨_, _, _, _, ⟨PySem.F.excBase_ValueError, PySem.F.store_ValueError, ⟨_, _, _, _, _, _, _, _, _, _, _, _, _, _, _, xl_TooManyEdits, xt_TooManyEdits⟩, xs_TooManyEdits, xg_TooManyEdits, xh_TooManyEdits, xc_TooManyEdits, xe_TooManyEdits, xy_TooManyEdits, xk_TooManyEdits, xd_TooManyEdits, xm_TooManyEdits, x_ng, x_nt⟩⟩
  have E_NothingToUndo : ExA K c_NothingToUndo := ⟨_, _, _, _, ⟨PySem.F.excBase_ValueError, PySem.F.store_ValueError, ⟨_, _, _, _, _, _, _, _, _, _, _, _, _, _, _, xl_NothingToUndo, xt_NothingToUndo⟩, xs_NothingToUndo, xg_NothingToUndo, xh_NothingToUndo, xc_NothingToUndo, xe_NothingToUndo, xy_NothingToUndo, xk_NothingToUndo, xd_NothingToUndo, xm_NothingToUndo, x_ng, x_nt⟩⟩
  have E_BadWord : ExA K c_BadWord := ⟨_, _, _, _, ⟨PySem.F.excBase_ValueError, PySem.F.store_ValueError, ⟨_, _, _, _, _, _, _, _, _, _, _, _, _, _, _, xl_BadWord, xt_BadWord⟩, xs_BadWord, xg_BadWord, xh_BadWord, xc_BadWord, xe_BadWord, xy_BadWord, xk_BadWord, xd_BadWord, xm_BadWord, x_ng, x_nt⟩⟩
  obtain ⟨t, ht, hq⟩ := law_body (P := l.prog) (w := w) (base := base) (f := fa) (cdv := cd_law) (s := s) (K := K) (mg := mg) { c_NoPlace := c_NoPlace, g_NoPlace := PySem.W.mg_of X G a_NoPlace, c_BadLetter := c_BadLetter, g_BadLetter := PySem.W.mg_of X G a_BadLetter, c_TooLong := c_TooLong, g_TooLong := PySem.W.mg_of X G a_TooLong, c_LastLetter := c_LastLetter, g_LastLetter := PySem.W.mg_of X G a_LastLetter, c_TooManyEdits := c_TooManyEdits, g_TooManyEdits := PySem.W.mg_of X G a_TooManyEdits, c_NothingToUndo := c_NothingToUndo, g_NothingToUndo := PySem.W.mg_of X G a_NothingToUndo, c_BadWord := c_BadWord, g_BadWord := PySem.W.mg_of X G a_BadWord, c_Busy := c_Busy, g_Busy := PySem.W.mg_of X G a_Busy, c_NotSimple := c_NotSimple, g_NotSimple := PySem.W.mg_of X G a_NotSimple, i_NoPlace := i_NoPlace, fi_NoPlace := _, E_NoPlace := E_NoPlace, no_NoPlace := xn_NoPlace, ii_NoPlace := xi_NoPlace, ti_NoPlace := xf_NoPlace, FI_NoPlace := FI_NoPlace, bi_NoPlace := bi_NoPlace, i_BadLetter := i_BadLetter, fi_BadLetter := _, E_BadLetter := E_BadLetter, no_BadLetter := xn_BadLetter, ii_BadLetter := xi_BadLetter, ti_BadLetter := xf_BadLetter, FI_BadLetter := FI_BadLetter, bi_BadLetter := bi_BadLetter, i_TooLong := i_TooLong, fi_TooLong := _, E_TooLong := E_TooLong, no_TooLong := xn_TooLong, ii_TooLong := xi_TooLong, ti_TooLong := xf_TooLong, FI_TooLong := FI_TooLong, bi_TooLong := bi_TooLong, i_BadWord := i_BadWord, fi_BadWord := _, E_BadWord := E_BadWord, no_BadWord := xn_BadWord, ii_BadWord := xi_BadWord, ti_BadWord := xf_BadWord, FI_BadWord := FI_BadWord, bi_BadWord := bi_BadWord, E_LastLetter := E_LastLetter, q_LastLetter := ⟨_, _, _, _, PySem.F.excBase_ValueError, xq_LastLetter⟩, E_TooManyEdits := E_TooManyEdits, q_TooManyEdits := ⟨_, _, _, _, PySem.F.excBase_ValueError, xq_TooManyEdits⟩, E_NothingToUndo := E_NothingToUndo, q_NothingToUndo := ⟨_, _, _, _, PySem.F.excBase_ValueError, xq_NothingToUndo⟩, em_NoPlace_Busy := em_NoPlace_Busy, em_NoPlace_TooManyEdits := em_NoPlace_TooManyEdits, em_NoPlace_NoPlace := em_NoPlace_NoPlace, em_NoPlace_BadLetter := em_NoPlace_BadLetter, em_NoPlace_TooLong := em_NoPlace_TooLong, em_NoPlace_LastLetter := em_NoPlace_LastLetter, em_NoPlace_NotSimple := em_NoPlace_NotSimple, em_NoPlace_NothingToUndo := em_NoPlace_NothingToUndo, em_NoPlace_BadWord := em_NoPlace_BadWord, em_BadLetter_Busy := em_BadLetter_Busy, em_BadLetter_TooManyEdits := em_BadLetter_TooManyEdits, em_BadLetter_NoPlace := em_BadLetter_NoPlace, em_BadLetter_BadLetter := em_BadLetter_BadLetter, em_BadLetter_TooLong := em_BadLetter_TooLong, em_BadLetter_LastLetter := em_BadLetter_LastLetter, em_BadLetter_NotSimple := em_BadLetter_NotSimple, em_BadLetter_NothingToUndo := em_BadLetter_NothingToUndo, em_BadLetter_BadWord := em_BadLetter_BadWord, em_TooLong_Busy := em_TooLong_Busy, em_TooLong_TooManyEdits := em_TooLong_TooManyEdits, em_TooLong_NoPlace := em_TooLong_NoPlace, em_TooLong_BadLetter := em_TooLong_BadLetter, em_TooLong_TooLong := em_TooLong_TooLong, em_TooLong_LastLetter := em_TooLong_LastLetter, em_TooLong_NotSimple := em_TooLong_NotSimple, em_TooLong_NothingToUndo := em_TooLong_NothingToUndo, em_TooLong_BadWord := em_TooLong_BadWord, em_LastLetter_Busy := em_LastLetter_Busy, em_LastLetter_TooManyEdits := em_LastLetter_TooManyEdits, em_LastLetter_NoPlace := em_LastLetter_NoPlace, em_LastLetter_BadLetter := em_LastLetter_BadLetter, em_LastLetter_TooLong := em_LastLetter_TooLong, em_LastLetter_LastLetter := em_LastLetter_LastLetter, em_LastLetter_NotSimple := em_LastLetter_NotSimple, em_LastLetter_NothingToUndo := em_LastLetter_NothingToUndo, em_LastLetter_BadWord := em_LastLetter_BadWord, em_TooManyEdits_Busy := em_TooManyEdits_Busy, em_TooManyEdits_TooManyEdits := em_TooManyEdits_TooManyEdits, em_TooManyEdits_NoPlace := em_TooManyEdits_NoPlace, em_TooManyEdits_BadLetter := em_TooManyEdits_BadLetter, em_TooManyEdits_TooLong := em_TooManyEdits_TooLong, em_TooManyEdits_LastLetter := em_TooManyEdits_LastLetter, em_TooManyEdits_NotSimple := em_TooManyEdits_NotSimple, em_TooManyEdits_NothingToUndo := em_TooManyEdits_NothingToUndo, em_TooManyEdits_BadWord := em_TooManyEdits_BadWord, em_NothingToUndo_Busy := em_NothingToUndo_Busy, em_NothingToUndo_TooManyEdits := em_NothingToUndo_TooManyEdits, em_NothingToUndo_NoPlace := em_NothingToUndo_NoPlace, em_NothingToUndo_BadLetter := em_NothingToUndo_BadLetter, em_NothingToUndo_TooLong := em_NothingToUndo_TooLong, em_NothingToUndo_LastLetter := em_NothingToUndo_LastLetter, em_NothingToUndo_NotSimple := em_NothingToUndo_NotSimple, em_NothingToUndo_NothingToUndo := em_NothingToUndo_NothingToUndo, em_NothingToUndo_BadWord := em_NothingToUndo_BadWord, em_BadWord_Busy := em_BadWord_Busy, em_BadWord_TooManyEdits := em_BadWord_TooManyEdits, em_BadWord_NoPlace := em_BadWord_NoPlace, em_BadWord_BadLetter := em_BadWord_BadLetter, em_BadWord_TooLong := em_BadWord_TooLong, em_BadWord_LastLetter := em_BadWord_LastLetter, em_BadWord_NotSimple := em_BadWord_NotSimple, em_BadWord_NothingToUndo := em_BadWord_NothingToUndo, em_BadWord_BadWord := em_BadWord_BadWord, f_law_stream := f_law_stream, fd_law_stream := _, f_law_draw := f_law_draw, fd_law_draw := _, f_law_pick := f_law_pick, fd_law_pick := _, f_is_whole := f_is_whole, fd_is_whole := _, f_is_place := f_is_place, fd_is_place := _, f_check_place := f_check_place, fd_check_place := _, f_rank_places := f_rank_places, fd_rank_places := _, f_word_error := f_word_error, fd_word_error := _, f_is_word := f_is_word, fd_is_word := _, f_is_letter := f_is_letter, fd_is_letter := _, f_tail_order := f_tail_order, fd_tail_order := _, f_tail_ranks := f_tail_ranks, fd_tail_ranks := _, f_ranks_of := f_ranks_of, fd_ranks_of := _, f_first_lower := f_first_lower, fd_first_lower := _, f_factor_places := f_factor_places, fd_factor_places := _, f_factors := f_factors, fd_factors := _, f_common_length := f_common_length, fd_common_length := _, f_heads_of := f_heads_of, fd_heads_of := _, f_each_part := f_each_part, fd_each_part := _, f_count_parts := f_count_parts, fd_count_parts := _, f_word_text := f_word_text, fd_word_text := _, f_order_text := f_order_text, fd_order_text := _, f_places_text := f_places_text, fd_places_text := _, f_is_number := f_is_number, fd_is_number := _, f_Console___init__ := f_Console___init__, fd_Console___init__ := _, f_done := f_done, fd_done := _, f_Desk_word := f_Desk_word, fd_Desk_word := _, f_Desk_order := f_Desk_order, fd_Desk_order := _, f_places_of := f_places_of, fd_places_of := _, f_Desk_found := f_Desk_found, fd_Desk_found := _, f_Desk_check_free := f_Desk_check_free, fd_Desk_check_free := _, f_check_letter := f_check_letter, fd_check_letter := _, f_changed := f_changed, fd_changed := _, f_lengthened := f_lengthened, fd_lengthened := _, f_shortened := f_shortened, fd_shortened := _, f_edited := f_edited, fd_edited := _, f_Desk_check_result := f_Desk_check_result, fd_Desk_check_result := _, f_Desk_do_edit := f_Desk_do_edit, fd_Desk_do_edit := _, f_Desk_do_alone := f_Desk_do_alone, fd_Desk_do_alone := _, f_Desk_shrink := f_Desk_shrink, fd_Desk_shrink := _, f_Desk_undo := f_Desk_undo, fd_Desk_undo := _, f_do_one_word := f_do_one_word, fd_do_one_word := _, f_check_word := f_check_word, fd_check_word := _, f_Desk_pattern_set := f_Desk_pattern_set, fd_Desk_pattern_set := _, f_Desk_look := f_Desk_look, fd_Desk_look := _, f_Desk_grow := f_Desk_grow, fd_Desk_grow := _, f_Desk_rank_of := f_Desk_rank_of, fd_Desk_rank_of := _, f_do_two_words := f_do_two_words, fd_do_two_words := _, f_Desk_change := f_Desk_change, fd_Desk_change := _, f_do_command := f_do_command, fd_do_command := _, f_answer_to := f_answer_to, fd_answer_to := _, f_Console_execute := f_Console_execute, fd_Console_execute := _, f_Desk___init__ := f_Desk___init__, fd_Desk___init__ := _, f_Desk_version := f_Desk_version, fd_Desk_version := _, f_Desk_pattern := f_Desk_pattern, fd_Desk_pattern := _, f_Desk_edits := f_Desk_edits, fd_Desk_edits := _, f_Desk___len__ := f_Desk___len__, fd_Desk___len__ := _, f_Desk___str__ := f_Desk___str__, fd_Desk___str__ := _, f_law_odd := f_law_odd, fd_law_odd := _, f_law_word := f_law_word, fd_law_word := _, f_law_seen := f_law_seen, fd_law_seen := _, f_law_is_number := f_law_is_number, fd_law_is_number := _, f_law_is_command := f_law_is_command, fd_law_is_command := _, f_law_lines := f_law_lines, fd_law_lines := _, f_law_changed := f_law_changed, fd_law_changed := _, t_MAX_WORD := _, t_MAX_EDITS := _, t_BATCH := _, t_LETTERS := _, t_KEPT_PAIRS := _, t_NUMBERS := _, t_UNKNOWN := _, F_law_stream := F_law_stream, b_law_stream := b_law_stream, g_law_stream := PySem.W.mg_of X G a_law_stream, F_law_draw := F_law_draw, b_law_draw := b_law_draw, g_law_draw := PySem.W.mg_of X G a_law_draw, F_law_pick := F_law_pick, b_law_pick := b_law_pick, g_law_pick := PySem.W.mg_of X G a_law_pick, F_is_whole := F_is_whole, b_is_whole := b_is_whole, g_is_whole := PySem.W.mg_of X G a_is_whole, F_is_place := F_is_place, b_is_place := b_is_place, g_is_place := PySem.W.mg_of X G a_is_place, F_check_place := F_check_place, b_check_place := b_check_place, g_check_place := PySem.W.mg_of X G a_check_place, F_rank_places := F_rank_places, b_rank_places := b_rank_places, g_rank_places := PySem.W.mg_of X G a_rank_places, F_word_error := F_word_error, b_word_error := b_word_error, g_word_error := PySem.W.mg_of X G a_word_error, F_is_word := F_is_word, b_is_word := b_is_word, g_is_word := PySem.W.mg_of X G a_is_word, F_is_letter := F_is_letter, b_is_letter := b_is_letter, g_is_letter := PySem.W.mg_of X G a_is_letter, F_tail_order := F_tail_order, b_tail_order := b_tail_order, g_tail_order := PySem.W.mg_of X G a_tail_order, F_tail_ranks := F_tail_ranks, b_tail_ranks := b_tail_ranks, g_tail_ranks := PySem.W.mg_of X G a_tail_ranks, F_ranks_of := F_ranks_of, b_ranks_of := b_ranks_of, g_ranks_of := PySem.W.mg_of X G a_ranks_of, F_first_lower := F_first_lower, b_first_lower := b_first_lower, g_first_lower := PySem.W.mg_of X G a_first_lower, F_factor_places := F_factor_places, b_factor_places := b_factor_places, g_factor_places := PySem.W.mg_of X G a_factor_places, F_factors := F_factors, b_factors := b_factors, g_factors := PySem.W.mg_of X G a_factors, F_common_length := F_common_length, b_common_length := b_common_length, g_common_length := PySem.W.mg_of X G a_common_length, F_heads_of := F_heads_of, b_heads_of := b_heads_of, g_heads_of := PySem.W.mg_of X G a_heads_of, F_each_part := F_each_part, b_each_part := b_each_part, g_each_part := PySem.W.mg_of X G a_each_part, F_count_parts := F_count_parts, b_count_parts := b_count_parts, g_count_parts := PySem.W.mg_of X G a_count_parts, F_word_text := F_word_text, b_word_text := b_word_text, g_word_text := PySem.W.mg_of X G a_word_text, F_order_text := F_order_text, b_order_text := b_order_text, g_order_text := PySem.W.mg_of X G a_order_text, F_places_text := F_places_text, b_places_text := b_places_text, g_places_text := PySem.W.mg_of X G a_places_text, F_is_number := F_is_number, b_is_number := b_is_number, g_is_number := PySem.W.mg_of X G a_is_number, F_Console___init__ := F_Console___init__, b_Console___init__ := b_Console___init__, F_done := F_done, b_done := b_done, g_done := PySem.W.mg_of X G a_done, F_Desk_word := F_Desk_word, b_Desk_word := b_Desk_word, F_Desk_order := F_Desk_order, b_Desk_order := b_Desk_order, F_places_of := F_places_of, b_places_of := b_places_of, g_places_of := PySem.W.mg_of X G a_places_of, F_Desk_found := F_Desk_found, b_Desk_found := b_Desk_found, F_Desk_check_free := F_Desk_check_free, b_Desk_check_free := b_Desk_check_free, F_check_letter := F_check_letter, b_check_letter := b_check_letter, g_check_letter := PySem.W.mg_of X G a_check_letter, F_changed := F_changed, b_changed := b_changed, g_changed := PySem.W.mg_of X G a_changed, F_lengthened := F_lengthened, b_lengthened := b_lengthened, g_lengthened := PySem.W.mg_of X G a_lengthened, F_shortened := F_shortened, b_shortened := b_shortened, g_shortened := PySem.W.mg_of X G a_shortened, F_edited := F_edited, b_edited := b_edited, g_edited := PySem.W.mg_of X G a_edited, F_Desk_check_result := F_Desk_check_result, b_Desk_check_result := b_Desk_check_result, F_Desk_do_edit := F_Desk_do_edit, b_Desk_do_edit := b_Desk_do_edit, F_Desk_do_alone := F_Desk_do_alone, b_Desk_do_alone := b_Desk_do_alone, F_Desk_shrink := F_Desk_shrink, b_Desk_shrink := b_Desk_shrink, F_Desk_undo := F_Desk_undo, b_Desk_undo := b_Desk_undo, F_do_one_word := F_do_one_word, b_do_one_word := b_do_one_word, g_do_one_word := PySem.W.mg_of X G a_do_one_word, F_check_word := F_check_word, b_check_word := b_check_word, g_check_word := PySem.W.mg_of X G a_check_word, F_Desk_pattern_set := F_Desk_pattern_set, b_Desk_pattern_set := b_Desk_pattern_set, F_Desk_look := F_Desk_look, b_Desk_look := b_Desk_look, F_Desk_grow := F_Desk_grow, b_Desk_grow := b_Desk_grow, F_Desk_rank_of := F_Desk_rank_of, b_Desk_rank_of := b_Desk_rank_of, F_do_two_words := F_do_two_words, b_do_two_words := b_do_two_words, g_do_two_words := PySem.W.mg_of X G a_do_two_words, F_Desk_change := F_Desk_change, b_Desk_change := b_Desk_change, F_do_command := F_do_command, b_do_command := b_do_command, g_do_command := PySem.W.mg_of X G a_do_command, F_answer_to := F_answer_to, b_answer_to := b_answer_to, g_answer_to := PySem.W.mg_of X G a_answer_to, F_Console_execute := F_Console_execute, b_Console_execute := b_Console_execute, F_Desk___init__ := F_Desk___init__, b_Desk___init__ := b_Desk___init__, F_Desk_version := F_Desk_version, b_Desk_version := b_Desk_version, F_Desk_pattern := F_Desk_pattern, b_Desk_pattern := b_Desk_pattern, F_Desk_edits := F_Desk_edits, b_Desk_edits := b_Desk_edits, F_Desk___len__ := F_Desk___len__, b_Desk___len__ := b_Desk___len__, F_Desk___str__ := F_Desk___str__, b_Desk___str__ := b_Desk___str__, F_law_odd := F_law_odd, b_law_odd := b_law_odd, g_law_odd := PySem.W.mg_of X G a_law_odd, F_law_word := F_law_word, b_law_word := b_law_word, g_law_word := PySem.W.mg_of X G a_law_word, F_law_seen := F_law_seen, b_law_seen := b_law_seen, g_law_seen := PySem.W.mg_of X G a_law_seen, F_law_is_number := F_law_is_number, b_law_is_number := b_law_is_number, g_law_is_number := PySem.W.mg_of X G a_law_is_number, F_law_is_command := F_law_is_command, b_law_is_command := b_law_is_command, g_law_is_command := PySem.W.mg_of X G a_law_is_command, F_law_lines := F_law_lines, b_law_lines := b_law_lines, g_law_lines := PySem.W.mg_of X G a_law_lines, F_law_changed := F_law_changed, b_law_changed := b_law_changed, g_law_changed := PySem.W.mg_of X G a_law_changed, c_Console := c_Console, g_Console := PySem.W.mg_of X G a_Console, C_Console := ⟨cp_Console, ch_Console, co_Console, cs_Console⟩, c_Desk := c_Desk, g_Desk := PySem.W.mg_of X G a_Desk, C_Desk := ⟨cp_Desk, ch_Desk, co_Desk, cs_Desk⟩, n_Console_desk := n_Console_desk, n_Console_pairs := n_Console_pairs, n_Desk_text := n_Desk_text, n_Desk_earlier := n_Desk_earlier, n_Desk_steps := n_Desk_steps, n_Desk_chosen := n_Desk_chosen, n_Desk_busy := n_Desk_busy, h_Console___init__ := ⟨mm_Console___init__, ma_Console___init__, mf_Console___init__, mk_Console___init__⟩, p_Desk_word := p_Desk_word, h_Desk_word := ⟨pa_Desk_word, pg_Desk_word, pt_Desk_word, r_Desk_word, pr_Desk_word⟩, p_Desk_order := p_Desk_order, h_Desk_order := ⟨pa_Desk_order, pg_Desk_order, pt_Desk_order, r_Desk_order, pr_Desk_order⟩, p_Desk_found := p_Desk_found, h_Desk_found := ⟨pa_Desk_found, pg_Desk_found, pt_Desk_found, r_Desk_found, pr_Desk_found⟩, h_Desk_check_free := ⟨ma_Desk_check_free, mf_Desk_check_free, k_Desk_check_free⟩, h_Desk_check_result := ⟨ma_Desk_check_result, mf_Desk_check_result, k_Desk_check_result⟩, h_Desk_do_edit := ⟨ma_Desk_do_edit, mf_Desk_do_edit, k_Desk_do_edit⟩, h_Desk_do_alone := ⟨ma_Desk_do_alone, mf_Desk_do_alone, k_Desk_do_alone⟩, h_Desk_shrink := ⟨ma_Desk_shrink, mf_Desk_shrink, k_Desk_shrink⟩, h_Desk_undo := ⟨ma_Desk_undo, mf_Desk_undo, k_Desk_undo⟩, p_Desk_pattern_set := p_Desk_pattern_set, h_Desk_pattern_set := SetOf.of pa_Desk_pattern_set pt_Desk_pattern_set py_Desk_pattern_set pr_Desk_pattern_set, h_Desk_look := ⟨ma_Desk_look, mf_Desk_look, k_Desk_look⟩, h_Desk_grow := ⟨ma_Desk_grow, mf_Desk_grow, k_Desk_grow⟩, h_Desk_rank_of := ⟨ma_Desk_rank_of, mf_Desk_rank_of, k_Desk_rank_of⟩, h_Desk_change := ⟨ma_Desk_change, mf_Desk_change, k_Desk_change⟩, h_Console_execute := ⟨ma_Console_execute, mf_Console_execute, k_Console_execute⟩, h_Desk___init__ := ⟨mm_Desk___init__, ma_Desk___init__, mf_Desk___init__, mk_Desk___init__⟩, p_Desk_version := p_Desk_version, h_Desk_version := ⟨pa_Desk_version, pg_Desk_version, pt_Desk_version, r_Desk_version, pr_Desk_version⟩, p_Desk_pattern := p_Desk_pattern, h_Desk_pattern := ⟨pa_Desk_pattern, pg_Desk_pattern, pt_Desk_pattern, r_Desk_pattern, pr_Desk_pattern⟩, h_Desk_edits := ⟨ma_Desk_edits, mf_Desk_edits, k_Desk_edits⟩, h_Desk___len__ := ⟨ma_Desk___len__, mf_Desk___len__⟩, h_Desk___str__ := ⟨ma_Desk___str__, mf_Desk___str__⟩, m_enumerate := PySem.W.mg_none_of X G z_enumerate, m_tuple := PySem.W.mg_none_of X G z_tuple, m_sorted := PySem.W.mg_none_of X G z_sorted, m_len := PySem.W.mg_none_of X G z_len, m_zip := PySem.W.mg_none_of X G z_zip, m_repr := PySem.W.mg_none_of X G z_repr, m_range := PySem.W.mg_none_of X G z_range, m_isinstance := PySem.W.mg_none_of X G z_isinstance, m_int := PySem.W.mg_none_of X G z_int, m_list := PySem.W.mg_none_of X G z_list, m_str := PySem.W.mg_none_of X G z_str, m_abs := PySem.W.mg_none_of X G z_abs, m_bool := PySem.W.mg_none_of X G z_bool, v_MAX_WORD := PySem.W.mg_of X G v_MAX_WORD, v_MAX_EDITS := PySem.W.mg_of X G v_MAX_EDITS, v_BATCH := PySem.W.mg_of X G v_BATCH, v_LETTERS := PySem.W.mg_of X G v_LETTERS, v_KEPT_PAIRS := PySem.W.mg_of X G v_KEPT_PAIRS, v_NUMBERS := PySem.W.mg_of X G v_NUMBERS, v_UNKNOWN := PySem.W.mg_of X G v_UNKNOWN } hS hn
  exact runAt (k := 14) (vs := [.ref a]) (us := [.ref a]) (Q := fun v _ => v = .bl true) l_law c_law sc_law rfl ⟨rfl, by decide, by decide⟩ e0 (.of_eq rfl) (.cons rfl .nil) ht.nox hq
end Kp
open PySem PySem.W PyProof.Rows
set_option maxHeartbeats 0 in
theorem PySem.Challenge.cw_tailranks_k88_lines_that_are_no_commands_holds : PySem.Challenge.rw_tailranks_k88_lines_that_are_no_commands.Holds := by
  w_on; o_law
  refine holds_open (N := 8144) (q := Kp.vw) (loose := ["Console", "SIZES", "Desk"]) (Xt := fun z => xlAt Kp.vw [] z && recOk (RowW.records (PySem.Challenge.rw_tailranks_k88_lines_that_are_no_commands).row.toRowW) z) (XP := XL Kp.vw []) (YP := Hook.says _) Kp.left1 (Hook.of _) (Hook.keeps _) (fun z e => xl_of z (Bool.and_eq_true_iff.mp e).1) XL.keeps (by rfl) (by rfl) (by rfl) (fun z e => recFacts_of (Bool.and_eq_true_iff.mp e).2) (by rfl) (by first | assumption | decide +kernel) (by decide +kernel) ⟨rfl, rfl, rfl, rfl, rfl, by decide +kernel⟩ ?hw ?hc
  case hw => w_witness2
  k_fill
  refine Kb.walkAt (l := PySem.Challenge.rw_tailranks_k88_lines_that_are_no_commands) (n := 63) rfl (by decide) rfl (fun w h Y => PySem.W.kIn_of Y) ?F
  case F =>
    intro w mg fa h KX G hmg
    refine' Kp.all_mk KX G hmg ?a_law_stream ?a_law_draw ?a_law_pick ?a_is_whole ?a_is_place ?a_check_place ?a_rank_places ?a_word_error ?a_is_word ?a_is_letter ?a_tail_order ?a_tail_ranks ?a_ranks_of ?a_first_lower ?a_factor_places ?a_factors ?a_common_length ?a_heads_of ?a_each_part ?a_count_parts ?a_word_text ?a_order_text ?a_places_text ?a_is_number ?a_done ?a_places_of ?a_check_letter ?a_changed ?a_lengthened ?a_shortened ?a_edited ?a_do_one_word ?a_check_word ?a_do_two_words ?a_do_command ?a_answer_to ?a_law_odd ?a_law_word ?a_law_seen ?a_law_is_number ?a_law_is_command ?a_law_lines ?a_law_changed ?a_law ?a_Console ?a_Desk ?ma_Console___init__ ?mf_Console___init__ ?mm_Console___init__ ?mk_Console___init__ ?pa_Desk_word ?pg_Desk_word ?pt_Desk_word ?pr_Desk_word ?pa_Desk_order ?pg_Desk_order ?pt_Desk_order ?pr_Desk_order ?pa_Desk_found ?pg_Desk_found ?pt_Desk_found ?pr_Desk_found ?ma_Desk_check_free ?mf_Desk_check_free ?ma_Desk_check_result ?mf_Desk_check_result ?ma_Desk_do_edit ?mf_Desk_do_edit ?ma_Desk_do_alone ?mf_Desk_do_alone ?ma_Desk_shrink ?mf_Desk_shrink ?ma_Desk_undo ?mf_Desk_undo ?pa_Desk_pattern_set ?pt_Desk_pattern_set ?py_Desk_pattern_set ?pr_Desk_pattern_set ?ma_Desk_look ?mf_Desk_look ?ma_Desk_grow ?mf_Desk_grow ?ma_Desk_rank_of ?mf_Desk_rank_of ?ma_Desk_change ?mf_Desk_change ?ma_Console_execute ?mf_Console_execute ?ma_Desk___init__ ?mf_Desk___init__ ?mm_Desk___init__ ?mk_Desk___init__ ?pa_Desk_version ?pg_Desk_version ?pt_Desk_version ?pr_Desk_version ?pa_Desk_pattern ?pg_Desk_pattern ?pt_Desk_pattern ?pr_Desk_pattern ?ma_Desk_edits ?mf_Desk_edits ?ma_Desk___len__ ?mf_Desk___len__ ?ma_Desk___str__ ?mf_Desk___str__ ?l_law_stream ?c_law_stream ?k_law_stream ?l_law_draw ?c_law_draw ?k_law_draw ?l_law_pick ?c_law_pick ?k_law_pick ?l_is_whole ?c_is_whole ?k_is_whole ?l_is_place ?c_is_place ?k_is_place ?l_check_place ?c_check_place ?k_check_place ?l_rank_places ?c_rank_places ?k_rank_places ?l_word_error ?c_word_error ?k_word_error ?l_is_word ?c_is_word ?k_is_word ?l_is_letter ?c_is_letter ?k_is_letter ?l_tail_order ?c_tail_order ?k_tail_order ?l_tail_ranks ?c_tail_ranks ?k_tail_ranks ?l_ranks_of ?c_ranks_of ?k_ranks_of ?l_first_lower ?c_first_lower ?k_first_lower ?l_factor_places ?c_factor_places ?k_factor_places ?l_factors ?c_factors ?k_factors ?l_common_length ?c_common_length ?k_common_length ?l_heads_of ?c_heads_of ?k_heads_of ?l_each_part ?c_each_part ?k_each_part ?l_count_parts ?c_count_parts ?k_count_parts ?l_word_text ?c_word_text ?k_word_text ?l_order_text ?c_order_text ?k_order_text ?l_places_text ?c_places_text ?k_places_text ?l_is_number ?c_is_number ?k_is_number ?l_Console___init__ ?c_Console___init__ ?k_Console___init__ ?l_done ?c_done ?k_done ?l_Desk_word ?c_Desk_word ?k_Desk_word ?l_Desk_order ?c_Desk_order ?k_Desk_order ?l_places_of ?c_places_of ?k_places_of ?l_Desk_found ?c_Desk_found ?k_Desk_found ?l_Desk_check_free ?c_Desk_check_free ?k_Desk_check_free ?l_check_letter ?c_check_letter ?k_check_letter ?l_changed ?c_changed ?k_changed ?l_lengthened ?c_lengthened ?k_lengthened ?l_shortened ?c_shortened ?k_shortened ?l_edited ?c_edited ?k_edited ?l_Desk_check_result ?c_Desk_check_result ?k_Desk_check_result ?l_Desk_do_edit ?c_Desk_do_edit ?k_Desk_do_edit ?l_Desk_do_alone ?c_Desk_do_alone ?k_Desk_do_alone ?l_Desk_shrink ?c_Desk_shrink ?k_Desk_shrink ?l_Desk_undo ?c_Desk_undo ?k_Desk_undo ?l_do_one_word ?c_do_one_word ?k_do_one_word ?l_check_word ?c_check_word ?k_check_word ?l_Desk_pattern_set ?c_Desk_pattern_set ?k_Desk_pattern_set ?l_Desk_look ?c_Desk_look ?k_Desk_look ?l_Desk_grow ?c_Desk_grow ?k_Desk_grow ?l_Desk_rank_of ?c_Desk_rank_of ?k_Desk_rank_of ?l_do_two_words ?c_do_two_words ?k_do_two_words ?l_Desk_change ?c_Desk_change ?k_Desk_change ?l_do_command ?c_do_command ?k_do_command ?l_answer_to ?c_answer_to ?k_answer_to ?l_Console_execute ?c_Console_execute ?k_Console_execute ?l_Desk___init__ ?c_Desk___init__ ?k_Desk___init__ ?l_Desk_version ?c_Desk_version ?k_Desk_version ?l_Desk_pattern ?c_Desk_pattern ?k_Desk_pattern ?l_Desk_edits ?c_Desk_edits ?k_Desk_edits ?l_Desk___len__ ?c_Desk___len__ ?k_Desk___len__ ?l_Desk___str__ ?c_Desk___str__ ?k_Desk___str__ ?l_law_odd ?c_law_odd ?k_law_odd ?l_law_word ?c_law_word ?k_law_word ?l_law_seen ?c_law_seen ?k_law_seen ?l_law_is_number ?c_law_is_number ?k_law_is_number ?l_law_is_command ?c_law_is_command ?k_law_is_command ?l_law_lines ?c_law_lines ?k_law_lines ?l_law_changed ?c_law_changed ?k_law_changed ?l_law ?c_law ?k_law ?cp_Console ?ch_Console ?co_Console ?cs_Console ?n_Console_desk ?n_Console_pairs ?cp_Desk ?ch_Desk ?co_Desk ?cs_Desk ?n_Desk_text ?n_Desk_earlier ?n_Desk_steps ?n_Desk_chosen ?n_Desk_busy ?z_enumerate ?z_tuple ?z_sorted ?z_len ?z_zip ?z_repr ?z_range ?z_isinstance ?z_int ?z_list ?z_str ?z_abs ?z_bool ?v_MAX_WORD ?v_MAX_EDITS ?v_BATCH ?v_LETTERS ?v_KEPT_PAIRS ?v_NUMBERS ?v_UNKNOWN ?a_NoPlace ?a_BadLetter ?a_TooLong ?a_LastLetter ?a_TooManyEdits ?a_NothingToUndo ?a_BadWord ?a_Busy ?a_NotSimple ?x_ng ?x_nt ?xl_NoPlace ?xt_NoPlace ?xs_NoPlace ?xg_NoPlace ?xh_NoPlace ?xc_NoPlace ?xe_NoPlace ?xy_NoPlace ?xk_NoPlace ?xd_NoPlace ?xm_NoPlace ?xn_NoPlace ?xi_NoPlace ?xf_NoPlace ?xa_NoPlace ?xb_NoPlace ?xp_NoPlace ?xl_BadLetter ?xt_BadLetter ?xs_BadLetter ?xg_BadLetter ?xh_BadLetter ?xc_BadLetter ?xe_BadLetter ?xy_BadLetter ?xk_BadLetter ?xd_BadLetter ?xm_BadLetter ?xn_BadLetter ?xi_BadLetter ?xf_BadLetter ?xa_BadLetter ?xb_BadLetter ?xp_BadLetter ?xl_TooLong ?xt_TooLong ?xs_TooLong ?xg_TooLong ?xh_TooLong ?xc_TooLong ?xe_TooLong ?xy_TooLong ?xk_TooLong ?xd_TooLong ?xm_TooLong ?xn_TooLong ?xi_TooLong ?xf_TooLong ?xa_TooLong ?xb_TooLong ?xp_TooLong ?xl_LastLetter ?xt_LastLetter ?xs_LastLetter ?xg_LastLetter ?xh_LastLetter ?xc_LastLetter ?xe_LastLetter ?xy_LastLetter ?xk_LastLetter ?xd_LastLetter ?xm_LastLetter ?xq_LastLetter ?xl_TooManyEdits ?xt_TooManyEdits ?xs_TooManyEdits ?xg_TooManyEdits ?xh_TooManyEdits ?xc_TooManyEdits ?xe_TooManyEdits ?xy_TooManyEdits ?xk_TooManyEdits ?xd_TooManyEdits ?xm_TooManyEdits ?xq_TooManyEdits ?xl_NothingToUndo ?xt_NothingToUndo ?xs_NothingToUndo ?xg_NothingToUndo ?xh_NothingToUndo ?xc_NothingToUndo ?xe_NothingToUndo ?xy_NothingToUndo ?xk_NothingToUndo ?xd_NothingToUndo ?xm_NothingToUndo ?xq_NothingToUndo ?xl_BadWord ?xt_BadWord ?xs_BadWord ?xg_BadWord ?xh_BadWord ?xc_BadWord ?xe_BadWord ?xy_BadWord ?xk_BadWord ?xd_BadWord ?xm_BadWord ?xn_BadWord ?xi_BadWord ?xf_BadWord ?xa_BadWord ?xb_BadWord ?xp_BadWord ?em_NoPlace_Busy ?em_NoPlace_TooManyEdits ?em_NoPlace_NoPlace ?em_NoPlace_BadLetter ?em_NoPlace_TooLong ?em_NoPlace_LastLetter ?em_NoPlace_NotSimple ?em_NoPlace_NothingToUndo ?em_NoPlace_BadWord ?em_BadLetter_Busy ?em_BadLetter_TooManyEdits ?em_BadLetter_NoPlace ?em_BadLetter_BadLetter ?em_BadLetter_TooLong ?em_BadLetter_LastLetter ?em_BadLetter_NotSimple ?em_BadLetter_NothingToUndo ?em_BadLetter_BadWord ?em_TooLong_Busy ?em_TooLong_TooManyEdits ?em_TooLong_NoPlace ?em_TooLong_BadLetter ?em_TooLong_TooLong ?em_TooLong_LastLetter ?em_TooLong_NotSimple ?em_TooLong_NothingToUndo ?em_TooLong_BadWord ?em_LastLetter_Busy ?em_LastLetter_TooManyEdits ?em_LastLetter_NoPlace ?em_LastLetter_BadLetter ?em_LastLetter_TooLong ?em_LastLetter_LastLetter ?em_LastLetter_NotSimple ?em_LastLetter_NothingToUndo ?em_LastLetter_BadWord ?em_TooManyEdits_Busy ?em_TooManyEdits_TooManyEdits ?em_TooManyEdits_NoPlace ?em_TooManyEdits_BadLetter ?em_TooManyEdits_TooLong ?em_TooManyEdits_LastLetter ?em_TooManyEdits_NotSimple ?em_TooManyEdits_NothingToUndo ?em_TooManyEdits_BadWord ?em_NothingToUndo_Busy ?em_NothingToUndo_TooManyEdits ?em_NothingToUndo_NoPlace ?em_NothingToUndo_BadLetter ?em_NothingToUndo_TooLong ?em_NothingToUndo_LastLetter ?em_NothingToUndo_NotSimple ?em_NothingToUndo_NothingToUndo ?em_NothingToUndo_BadWord ?em_BadWord_Busy ?em_BadWord_TooManyEdits ?em_BadWord_NoPlace ?em_BadWord_BadLetter ?em_BadWord_TooLong ?em_BadWord_LastLetter ?em_BadWord_NotSimple ?em_BadWord_NothingToUndo ?em_BadWord_BadWord
    (case a_law_stream => k_is); (case a_law_draw => k_is); (case a_law_pick => k_is); (case a_is_whole => k_is); (case a_is_place => k_is); (case a_check_place => k_is); (case a_rank_places => k_is); (case a_word_error => k_is); (case a_is_word => k_is); (case a_is_letter => k_is); (case a_tail_order => k_is); (case a_tail_ranks => k_is); (case a_ranks_of => k_is); (case a_first_lower => k_is); (case a_factor_places => k_is); (case a_factors => k_is); (case a_common_length => k_is); (case a_heads_of => k_is); (case a_each_part => k_is); (case a_count_parts => k_is); (case a_word_text => k_is); (case a_order_text => k_is); (case a_places_text => k_is); (case a_is_number => k_is); (case a_done => k_is); (case a_places_of => k_is); (case a_check_letter => k_is); (case a_changed => k_is); (case a_lengthened => k_is); (case a_shortened => k_is); (case a_edited => k_is); (case a_do_one_word => k_is); (case a_check_word => k_is); (case a_do_two_words => k_is); (case a_do_command => k_is); (case a_answer_to => k_is); (case a_law_odd => k_is); (case a_law_word => k_is); (case a_law_seen => k_is); (case a_law_is_number => k_is); (case a_law_is_command => k_is); (case a_law_lines => k_is); (case a_law_changed => k_is); (case a_law => k_is); (case a_Console => k_is); (case a_Desk => k_is); (case ma_Console___init__ => k_is); (case mf_Console___init__ => k_is); (case mm_Console___init__ => k_is); (case mk_Console___init__ => k_is); (case pa_Desk_word => k_is); (case pg_Desk_word => k_is); (case pt_Desk_word => k_is); (case pr_Desk_word => k_is); (case pa_Desk_order => k_is); (case pg_Desk_order => k_is); (case pt_Desk_order => k_is); (case pr_Desk_order => k_is); (case pa_Desk_found => k_is); (case pg_Desk_found => k_is); (case pt_Desk_found => k_is); (case pr_Desk_found => k_is); (case ma_Desk_check_free => k_is); (case mf_Desk_check_free => k_is); (case ma_Desk_check_result => k_is); (case mf_Desk_check_result => k_is); (case ma_Desk_do_edit => k_is); (case mf_Desk_do_edit => k_is); (case ma_Desk_do_alone => k_is); (case mf_Desk_do_alone => k_is); (case ma_Desk_shrink => k_is); (case mf_Desk_shrink => k_is); (case ma_Desk_undo => k_is); (case mf_Desk_undo => k_is); (case pa_Desk_pattern_set => k_is); (case pt_Desk_pattern_set => k_is); (case py_Desk_pattern_set => k_is); (case pr_Desk_pattern_set => k_is); (case ma_Desk_look => k_is); (case mf_Desk_look => k_is); (case ma_Desk_grow => k_is); (case mf_Desk_grow => k_is); (case ma_Desk_rank_of => k_is); (case mf_Desk_rank_of => k_is); (case ma_Desk_change => k_is); (case mf_Desk_change => k_is); (case ma_Console_execute => k_is); (case mf_Console_execute => k_is); (case ma_Desk___init__ => k_is); (case mf_Desk___init__ => k_is); (case mm_Desk___init__ => k_is); (case mk_Desk___init__ => k_is); (case pa_Desk_version => k_is); (case pg_Desk_version => k_is); (case pt_Desk_version => k_is); (case pr_Desk_version => k_is); (case pa_Desk_pattern => k_is); (case pg_Desk_pattern => k_is); (case pt_Desk_pattern => k_is); (case pr_Desk_pattern => k_is); (case ma_Desk_edits => k_is); (case mf_Desk_edits => k_is); (case ma_Desk___len__ => k_is); (case mf_Desk___len__ => k_is); (case ma_Desk___str__ => k_is); (case mf_Desk___str__ => k_is); (case l_law_stream => k_is); (case c_law_stream => k_is); (case k_law_stream => k_is); (case l_law_draw => k_is); (case c_law_draw => k_is); (case k_law_draw => k_is); (case l_law_pick => k_is); (case c_law_pick => k_is); (case k_law_pick => k_is); (case l_is_whole => k_is); (case c_is_whole => k_is); (case k_is_whole => k_is); (case l_is_place => k_is); (case c_is_place => k_is); (case k_is_place => k_is); (case l_check_place => k_is); (case c_check_place => k_is); (case k_check_place => k_is); (case l_rank_places => k_is); (case c_rank_places => k_is); (case k_rank_places => k_is); (case l_word_error => k_is); (case c_word_error => k_is); (case k_word_error => k_is); (case l_is_word => k_is); (case c_is_word => k_is); (case k_is_word => k_is); (case l_is_letter => k_is); (case c_is_letter => k_is); (case k_is_letter => k_is); (case l_tail_order => k_is); (case c_tail_order => k_is); (case k_tail_order => k_is); (case l_tail_ranks => k_is); (case c_tail_ranks => k_is); (case k_tail_ranks => k_is); (case l_ranks_of => k_is); (case c_ranks_of => k_is); (case k_ranks_of => k_is); (case l_first_lower => k_is); (case c_first_lower => k_is); (case k_first_lower => k_is); (case l_factor_places => k_is); (case c_factor_places => k_is); (case k_factor_places => k_is); (case l_factors => k_is); (case c_factors => k_is); (case k_factors => k_is); (case l_common_length => k_is); (case c_common_length => k_is); (case k_common_length => k_is); (case l_heads_of => k_is); (case c_heads_of => k_is); (case k_heads_of => k_is); (case l_each_part => k_is); (case c_each_part => k_is); (case k_each_part => k_is); (case l_count_parts => k_is); (case c_count_parts => k_is); (case k_count_parts => k_is); (case l_word_text => k_is); (case c_word_text => k_is); (case k_word_text => k_is); (case l_order_text => k_is); (case c_order_text => k_is); (case k_order_text => k_is); (case l_places_text => k_is); (case c_places_text => k_is); (case k_places_text => k_is); (case l_is_number => k_is); (case c_is_number => k_is); (case k_is_number => k_is); (case l_Console___init__ => k_is); (case c_Console___init__ => k_is); (case k_Console___init__ => k_is); (case l_done => k_is); (case c_done => k_is); (case k_done => k_is); (case l_Desk_word => k_is); (case c_Desk_word => k_is); (case k_Desk_word => k_is); (case l_Desk_order => k_is); (case c_Desk_order => k_is); (case k_Desk_order => k_is); (case l_places_of => k_is); (case c_places_of => k_is); (case k_places_of => k_is); (case l_Desk_found => k_is); (case c_Desk_found => k_is); (case k_Desk_found => k_is); (case l_Desk_check_free => k_is); (case c_Desk_check_free => k_is); (case k_Desk_check_free => k_is); (case l_check_letter => k_is); (case c_check_letter => k_is); (case k_check_letter => k_is); (case l_changed => k_is); (case c_changed => k_is); (case k_changed => k_is); (case l_lengthened => k_is); (case c_lengthened => k_is); (case k_lengthened => k_is); (case l_shortened => k_is); (case c_shortened => k_is); (case k_shortened => k_is); (case l_edited => k_is); (case c_edited => k_is); (case k_edited => k_is); (case l_Desk_check_result => k_is); (case c_Desk_check_result => k_is); (case k_Desk_check_result => k_is); (case l_Desk_do_edit => k_is); (case c_Desk_do_edit => k_is); (case k_Desk_do_edit => k_is); (case l_Desk_do_alone => k_is); (case c_Desk_do_alone => k_is); (case k_Desk_do_alone => k_is); (case l_Desk_shrink => k_is); (case c_Desk_shrink => k_is); (case k_Desk_shrink => k_is); (case l_Desk_undo => k_is); (case c_Desk_undo => k_is); (case k_Desk_undo => k_is); (case l_do_one_word => k_is); (case c_do_one_word => k_is); (case k_do_one_word => k_is); (case l_check_word => k_is); (case c_check_word => k_is); (case k_check_word => k_is); (case l_Desk_pattern_set => k_is); (case c_Desk_pattern_set => k_is); (case k_Desk_pattern_set => k_is); (case l_Desk_look => k_is); (case c_Desk_look => k_is); (case k_Desk_look => k_is); (case l_Desk_grow => k_is); (case c_Desk_grow => k_is); (case k_Desk_grow => k_is); (case l_Desk_rank_of => k_is); (case c_Desk_rank_of => k_is); (case k_Desk_rank_of => k_is); (case l_do_two_words => k_is); (case c_do_two_words => k_is); (case k_do_two_words => k_is); (case l_Desk_change => k_is); (case c_Desk_change => k_is); (case k_Desk_change => k_is); (case l_do_command => k_is); (case c_do_command => k_is); (case k_do_command => k_is); (case l_answer_to => k_is); (case c_answer_to => k_is); (case k_answer_to => k_is); (case l_Console_execute => k_is); (case c_Console_execute => k_is); (case k_Console_execute => k_is); (case l_Desk___init__ => k_is); (case c_Desk___init__ => k_is); (case k_Desk___init__ => k_is); (case l_Desk_version => k_is); (case c_Desk_version => k_is); (case k_Desk_version => k_is); (case l_Desk_pattern => k_is); (case c_Desk_pattern => k_is); (case k_Desk_pattern => k_is); (case l_Desk_edits => k_is); (case c_Desk_edits => k_is); (case k_Desk_edits => k_is); (case l_Desk___len__ => k_is); (case c_Desk___len__ => k_is); (case k_Desk___len__ => k_is); (case l_Desk___str__ => k_is); (case c_Desk___str__ => k_is); (case k_Desk___str__ => k_is); (case l_law_odd => k_is); (case c_law_odd => k_is); (case k_law_odd => k_is); (case l_law_word => k_is); (case c_law_word => k_is); (case k_law_word => k_is); (case l_law_seen => k_is); (case c_law_seen => k_is); (case k_law_seen => k_is); (case l_law_is_number => k_is); (case c_law_is_number => k_is); (case k_law_is_number => k_is); (case l_law_is_command => k_is); (case c_law_is_command => k_is); (case k_law_is_command => k_is); (case l_law_lines => k_is); (case c_law_lines => k_is); (case k_law_lines => k_is); (case l_law_changed => k_is); (case c_law_changed => k_is); (case k_law_changed => k_is); (case l_law => k_is); (case c_law => k_is); (case k_law => k_is); (case cp_Console => k_is); (case ch_Console => k_is); (case co_Console => k_is); (case cs_Console => k_is); (case n_Console_desk => k_is); (case n_Console_pairs => k_is); (case cp_Desk => k_is); (case ch_Desk => k_is); (case co_Desk => k_is); (case cs_Desk => k_is); (case n_Desk_text => k_is); (case n_Desk_earlier => k_is); (case n_Desk_steps => k_is); (case n_Desk_chosen => k_is); (case n_Desk_busy => k_is); (case z_enumerate => k_is); (case z_tuple => k_is); (case z_sorted => k_is); (case z_len => k_is); (case z_zip => k_is); (case z_repr => k_is); (case z_range => k_is); (case z_isinstance => k_is); (case z_int => k_is); (case z_list => k_is); (case z_str => k_is); (case z_abs => k_is); (case z_bool => k_is); (case v_MAX_WORD => k_is); (case v_MAX_EDITS => k_is); (case v_BATCH => k_is); (case v_LETTERS => k_is); (case v_KEPT_PAIRS => k_is); (case v_NUMBERS => k_is); (case v_UNKNOWN => k_is); (case a_NoPlace => k_is); (case a_BadLetter => k_is); (case a_TooLong => k_is); (case a_LastLetter => k_is); (case a_TooManyEdits => k_is); (case a_NothingToUndo => k_is); (case a_BadWord => k_is); (case a_Busy => k_is); (case a_NotSimple => k_is); (case x_ng => k_is); (case x_nt => k_is); (case xl_NoPlace => k_is); (case xt_NoPlace => first | decide +kernel | rfl | k_is); (case xs_NoPlace => k_is); (case xg_NoPlace => k_is); (case xh_NoPlace => k_is); (case xc_NoPlace => k_is); (case xe_NoPlace => k_is); (case xy_NoPlace => k_is); (case xk_NoPlace => k_is); (case xd_NoPlace => k_is); (case xm_NoPlace => k_is); (case xn_NoPlace => k_is); (case xi_NoPlace => k_is); (case xf_NoPlace => k_is); (case xa_NoPlace => k_is); (case xb_NoPlace => k_is); (case xp_NoPlace => k_is); (case xl_BadLetter => k_is); (case xt_BadLetter => first | decide +kernel | rfl | k_is); (case xs_BadLetter => k_is); (case xg_BadLetter => k_is); (case xh_BadLetter => k_is); (case xc_BadLetter => k_is); (case xe_BadLetter => k_is); (case xy_BadLetter => k_is); (case xk_BadLetter => k_is); (case xd_BadLetter => k_is); (case xm_BadLetter => k_is); (case xn_BadLetter => k_is); (case xi_BadLetter => k_is); (case xf_BadLetter => k_is); (case xa_BadLetter => k_is); (case xb_BadLetter => k_is); (case xp_BadLetter => k_is); (case xl_TooLong => k_is); (case xt_TooLong => first | decide +kernel | rfl | k_is); (case xs_TooLong => k_is); (case xg_TooLong => k_is); (case xh_TooLong => k_is); (case xc_TooLong => k_is); (case xe_TooLong => k_is); (case xy_TooLong => k_is); (case xk_TooLong => k_is); (case xd_TooLong => k_is); (case xm_TooLong => k_is); (case xn_TooLong => k_is); (case xi_TooLong => k_is); (case xf_TooLong => k_is); (case xa_TooLong => k_is); (case xb_TooLong => k_is); (case xp_TooLong => k_is); (case xl_LastLetter => k_is); (case xt_LastLetter => first | decide +kernel | rfl | k_is); (case xs_LastLetter => k_is); (case xg_LastLetter => k_is); (case xh_LastLetter => k_is); (case xc_LastLetter => k_is); (case xe_LastLetter => k_is); (case xy_LastLetter => k_is); (case xk_LastLetter => k_is); (case xd_LastLetter => k_is); (case xm_LastLetter => k_is); (case xq_LastLetter => k_exc); (case xl_TooManyEdits => k_is); (case xt_TooManyEdits => first | decide +kernel | rfl | k_is); (case xs_TooManyEdits => k_is); (case xg_TooManyEdits => k_is); (case xh_TooManyEdits => k_is); (case xc_TooManyEdits => k_is); (case xe_TooManyEdits => k_is); (case xy_TooManyEdits => k_is); (case xk_TooManyEdits => k_is); (case xd_TooManyEdits => k_is); (case xm_TooManyEdits => k_is); (case xq_TooManyEdits => k_exc); (case xl_NothingToUndo => k_is); (case xt_NothingToUndo => first | decide +kernel | rfl | k_is); (case xs_NothingToUndo => k_is); (case xg_NothingToUndo => k_is); (case xh_NothingToUndo => k_is); (case xc_NothingToUndo => k_is); (case xe_NothingToUndo => k_is); (case xy_NothingToUndo => k_is); (case xk_NothingToUndo => k_is); (case xd_NothingToUndo => k_is); (case xm_NothingToUndo => k_is); (case xq_NothingToUndo => k_exc); (case xl_BadWord => k_is); (case xt_BadWord => first | decide +kernel | rfl | k_is); (case xs_BadWord => k_is); (case xg_BadWord => k_is); (case xh_BadWord => k_is); (case xc_BadWord => k_is); (case xe_BadWord => k_is); (case xy_BadWord => k_is); (case xk_BadWord => k_is); (case xd_BadWord => k_is); (case xm_BadWord => k_is); (case xn_BadWord => k_is); (case xi_BadWord => k_is); (case xf_BadWord => k_is); (case xa_BadWord => k_is); (case xb_BadWord => k_is); (case xp_BadWord => k_is); (case em_NoPlace_Busy => first | decide +kernel | rfl | k_is); (case em_NoPlace_TooManyEdits => first | decide +kernel | rfl | k_is); (case em_NoPlace_NoPlace => first | decide +kernel | rfl | k_is); (case em_NoPlace_BadLetter => first | decide +kernel | rfl | k_is); (case em_NoPlace_TooLong => first | decide +kernel | rfl | k_is); (case em_NoPlace_LastLetter => first | decide +kernel | rfl | k_is); (case em_NoPlace_NotSimple => first | decide +kernel | rfl | k_is); (case em_NoPlace_NothingToUndo => first | decide +kernel | rfl | k_is); (case em_NoPlace_BadWord => first | decide +kernel | rfl | k_is); (case em_BadLetter_Busy => first | decide +kernel | rfl | k_is); (case em_BadLetter_TooManyEdits => first | decide +kernel | rfl | k_is); (case em_BadLetter_NoPlace => first | decide +kernel | rfl | k_is); (case em_BadLetter_BadLetter => first | decide +kernel | rfl | k_is); (case em_BadLetter_TooLong => first | decide +kernel | rfl | k_is); (case em_BadLetter_LastLetter => first | decide +kernel | rfl | k_is); (case em_BadLetter_NotSimple => first | decide +kernel | rfl | k_is); (case em_BadLetter_NothingToUndo => first | decide +kernel | rfl | k_is); (case em_BadLetter_BadWord => first | decide +kernel | rfl | k_is); (case em_TooLong_Busy => first | decide +kernel | rfl | k_is); (case em_TooLong_TooManyEdits => first | decide +kernel | rfl | k_is); (case em_TooLong_NoPlace => first | decide +kernel | rfl | k_is); (case em_TooLong_BadLetter => first | decide +kernel | rfl | k_is); (case em_TooLong_TooLong => first | decide +kernel | rfl | k_is); (case em_TooLong_LastLetter => first | decide +kernel | rfl | k_is); (case em_TooLong_NotSimple => first | decide +kernel | rfl | k_is); (case em_TooLong_NothingToUndo => first | decide +kernel | rfl | k_is); (case em_TooLong_BadWord => first | decide +kernel | rfl | k_is); (case em_LastLetter_Busy => first | decide +kernel | rfl | k_is); (case em_LastLetter_TooManyEdits => first | decide +kernel | rfl | k_is); (case em_LastLetter_NoPlace => first | decide +kernel | rfl | k_is); (case em_LastLetter_BadLetter => first | decide +kernel | rfl | k_is); (case em_LastLetter_TooLong => first | decide +kernel | rfl | k_is); (case em_LastLetter_LastLetter => first | decide +kernel | rfl | k_is); (case em_LastLetter_NotSimple => first | decide +kernel | rfl | k_is); (case em_LastLetter_NothingToUndo => first | decide +kernel | rfl | k_is); (case em_LastLetter_BadWord => first | decide +kernel | rfl | k_is); (case em_TooManyEdits_Busy => first | decide +kernel | rfl | k_is); (case em_TooManyEdits_TooManyEdits => first | decide +kernel | rfl | k_is); (case em_TooManyEdits_NoPlace => first | decide +kernel | rfl | k_is); (case em_TooManyEdits_BadLetter => first | decide +kernel | rfl | k_is); (case em_TooManyEdits_TooLong => first | decide +kernel | rfl | k_is); (case em_TooManyEdits_LastLetter => first | decide +kernel | rfl | k_is); (case em_TooManyEdits_NotSimple => first | decide +kernel | rfl | k_is); (case em_TooManyEdits_NothingToUndo => first | decide +kernel | rfl | k_is); (case em_TooManyEdits_BadWord => first | decide +kernel | rfl | k_is); (case em_NothingToUndo_Busy => first | decide +kernel | rfl | k_is); (case em_NothingToUndo_TooManyEdits => first | decide +kernel | rfl | k_is); (case em_NothingToUndo_NoPlace => first | decide +kernel | rfl | k_is); (case em_NothingToUndo_BadLetter => first | decide +kernel | rfl | k_is); (case em_NothingToUndo_TooLong => first | decide +kernel | rfl | k_is); (case em_NothingToUndo_LastLetter => first | decide +kernel | rfl | k_is); (case em_NothingToUndo_NotSimple => first | decide +kernel | rfl | k_is); (case em_NothingToUndo_NothingToUndo => first | decide +kernel | rfl | k_is); (case em_NothingToUndo_BadWord => first | decide +kernel | rfl | k_is); (case em_BadWord_Busy => first | decide +kernel | rfl | k_is); (case em_BadWord_TooManyEdits => first | decide +kernel | rfl | k_is); (case em_BadWord_NoPlace => first | decide +kernel | rfl | k_is); (case em_BadWord_BadLetter => first | decide +kernel | rfl | k_is); (case em_BadWord_TooLong => first | decide +kernel | rfl | k_is); (case em_BadWord_LastLetter => first | decide +kernel | rfl | k_is); (case em_BadWord_NotSimple => first | decide +kernel | rfl | k_is); (case em_BadWord_NothingToUndo => first | decide +kernel | rfl | k_is); (case em_BadWord_BadWord => first | decide +kernel | rfl | k_is)
