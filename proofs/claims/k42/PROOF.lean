import PyProof.Rows.All
import Wide.All
import OpenK.AllK
import Wide.FinOn
import PySem.Challenge.RW_tailranks_k42_whole_least_of_the_heads
import HandS.Base
import HandS.Call
import HandS.List
import HandS.Comp
import HandS.Ends
import HandS.Dict
import HandS.Iter
import HandS.Text
import HandS.Words
import HandS.WordsList
import KE.SortData
import HandS.Codes
import HandS.TupAny
import HandS.TupLe
import KE.KIndexOf
import HandS.IsInst
import HandS.Conv
import HandS.Style
import KE.GoesMore
import PyProof.Draws
import PyProof.EnumMake
import KE.SortData
import HandS.Codes
import HandS.TupAny
import HandS.TupLe
import KE.KIndexOf
import HandS.Conv
import HandS.Style
import HandS.Walk
import KE.GoesZip
import PyProof.ReprRoads
import PyProof.FitsInt
import PyProof.StrOps2
import PyProof.Rows.StrMeet
import PyProof.Rows.StrSigns2
set_option Elab.async false
set_option linter.all false
set_option maxRecDepth 100000
set_option maxHeartbeats 4000000
set_option exponentiation.threshold 3000
namespace Kb
open PySem PySem.Spec PyProof.Rows L2
/-! ### repr of data, where no repr is under way -/
def rRepr (K : PySem.W.Frag) : List V → Hp → VK → Prop := fun xs H Q =>
  ∃ (a : Addr) (d : PyData), xs = [.ref a] ∧ Dp K H (.ref a) d ∧ d.showable = true ∧ d.hasDict = false ∧ d.depth ≤ 60 ∧
    d.shown.length ≤ sizeLine ∧ Q (.str d.shown) H
theorem call_repr {X : Cx} (hg : X.A.guards = some []) (hu : X.A.units + 64 < cLine) :
    CallR X (.builtin "repr") (rRepr X.K) := by
  intro pins s σ H xs us Q I r h
  obtain ⟨a, d, rfl, hd, hs, hn, hdp, hl, q⟩ := h
  obtain ⟨u, rfl, ru⟩ := vals1 r
  cases (show u = Value.ref a from ru)
  obtain ⟨as, rd⟩ := Dp.reads I d _ _ hd rfl
  refine repr_of_reads' (h₀ := s.heap) rd hs (fun z => ?_) hg (by omega) (fun _ _ e => e) (fun h' u tk k => ?_) hl
  · rw [hn] at z
    cases z
  · exact ⟨.str d.shown, H, I.kept k, ⟨_, rfl⟩, q⟩
/-! ### a def's run at one place alone -/
theorem runAt {P : Program} {w : World} {K : PySem.W.Frag} {mg : Str → Option Value} {base : Heap} {k : Nat} {f : Addr}
    {name qual : Str} {pa : Arguments} {bd : List Stmt} {sc : Scope} {dV kV dc pm cv ct oc : Value} {an od : Option Addr}
    {sl : Array (Option Value)} {N ps : List Str} {A : Around} {outer : List Env} {s : Shared} {H : Hp} {args : Args}
    {us : List Value} {vs : List V} {Q : VK} {t : TS}
    (lk : K.lookup f = some ⟨oc, od, .func (PySem.W.fnOf name qual pa bd sc dV kV dc pm an cv ct), sl⟩)
    (cd : PySem.W.codeIn K cv qual = true) (S : FnScope N ps sc) (hl : vs.length = ps.length) (room : Room (k + 1) A)
    (e0 : Env0 P w K mg base A outer s H)
    (bt : BindsTo s (PySem.W.fnOf name qual pa bd sc dV kV dc pm an cv ct) args (ps.zip us)) (rv : Vals vs us)
    (ht : PSs (cxOf CX0 P w K mg base N qual sc f cv A outer s H E0) bd t)
    (hq : t { nx := fun _ H' => Q .non H', rt := Q } (start N vs) H) :
    codeAny (model P w) A (.call (.ref f) args) (CR CX0 outer P w H s Q E0) s := by
  have kin : K.In s.heap := e0.mod.kin.keeps (fun b o e => (e0.bs b o e).1)
  have lim : s.heap.NoLimit := e0.mod.nolimit.keeps (fun b o e => (e0.bs b o e).1)
  refine codeAny_call_function room.depth (kin _ _ lk) rfl S.co S.gen rfl (PySem.W.codeRec_of kin cd) (bt _ _ _ _ ?_)
  refine wpAny_newFunctionEnv_cells S.kind (fun y hy => ?_) (fun env he s1 x => ?_)
  · obtain ⟨n, v⟩ := y
    cases S.par n (List.of_mem_zip hy).1 with
    | inl q => exact .inl q
    | inr q => exact .inr ⟨q, PySem.W.cellsFrom_some _ _ _ (.inl q)⟩
  · subst he
    refine ⟨lim.keeps x.toInCall.keep, codeAny_func ?_⟩
    have I := inv_start (CX := CX0) (E := E0) S room.hd e0 hl rv x
    refine wpAny_mono (ht.run [] s1 (start N vs) H _ I hq) (fun fl s' z => ?_) (fun e s' z => z)
    cases fl with
    | ret u =>
      obtain ⟨v, σ', H', J, rr, q⟩ := z
      exact ⟨v, H', J.os, J.bare, J.base, J.hok, rr, q⟩
    | next =>
      obtain ⟨σ', H', J, q⟩ := z
      exact ⟨V.non, H', J.os, J.bare, J.base, J.hok, rfl, q⟩
    | brk =>
      obtain ⟨_, _, _, q⟩ := z
      exact q.elim
    | cont =>
      obtain ⟨_, _, _, q⟩ := z
      exact q.elim

/-! ### the law's own call, where its run is known at the caller's place -/
theorem lawAt {P : Program} {w : World} {K : PySem.W.Frag} {mg mb : Str → Option Value} {fa a : Addr} {s₁ : Shared}
    {vs : List Value} {ns : List Int} (kin : K.In s₁.heap) (gl : s₁.heap.Ns mainGlobals mg) (bl : s₁.heap.Ns builtinsNs mb)
    (boot : ∀ x : Str, x ≠ "__name__" → mb x = bootBuiltins x) (lim : s₁.heap.NoLimit) (gens : s₁.gens = #[])
    (oa : s₁.heap.get? a = some { cls := .type "list", data := .seq vs.toArray }) (hiv : IntsAre vs ns)
    (small : ns.length ≤ sizeLine)
    (run : ∀ (base : Heap) (H : Hp), K.In base → base.Ns mainGlobals mg → Env0 P w K mg base callerA [] s₁ H →
      SqL K H a (ns.map V.int) →
      codeAny (model P w) callerA (.call (.ref fa) ⟨[.ref a], []⟩) (CR CX0 [] P w H s₁ (fun v _ => v = .bl true) E0) s₁) :
    codeAny (model P w) callerA (.call (.ref fa) ⟨[.ref a], []⟩)
      (fun r s' => r = .ok (.ret (.bool true)) ∧ OldK s₁.heap s'.heap ∧ s'.os = s₁.os ∧ AllBare s'.gens) s₁ := by
  have rv := vals_ints hiv
  have lv : vs.length = ns.length := hiv.length
  have main : ∀ H : Hp, (∀ b, H b = none ∨ (b = a ∧ K.lookup a = none ∧ ∃ o xs, H b = some (.frz o (.lst xs)))) →
      SqL K H a (ns.map V.int) → HOk P w H s₁.heap →
      codeAny (model P w) callerA (.call (.ref fa) ⟨[.ref a], []⟩)
        (fun r s' => r = .ok (.ret (.bool true)) ∧ OldK s₁.heap s'.heap ∧ s'.os = s₁.os ∧ AllBare s'.gens) s₁ := by
    intro H only sq hok
    have dicts : ∀ {b : Addr} {m : Str → Option Value}, s₁.heap.Ns b m → (hidT s₁.heap H).Ns b m := by
      rintro b m ⟨o, es, ep, g, dd, r⟩
      refine ⟨o, es, ep, hidT_get g ?_, dd, r⟩
      rcases only b with z | ⟨rfl, _, _⟩
      · exact z
      · rw [oa] at g
        cases g
        cases dd
    have kb : K.In (hidT s₁.heap H) := by
      intro b o g
      refine hidT_get (kin b o g) ?_
      rcases only b with z | ⟨rfl, z, _⟩
      · exact z
      · rw [z] at g
        cases g
    have lim' : (hidT s₁.heap H).NoLimit := by
      obtain ⟨mc, z1, z2⟩ := lim
      exact ⟨mc, dicts z1, z2⟩
    have env : Env0 P w K mg (hidT s₁.heap H) callerA [] s₁ H := {
      frames := rfl
      mod := ⟨kb, dicts gl, ⟨mb, dicts bl, boot⟩, lim'⟩
      bs := fun b o g => of_hidT g
      bsz := Nat.le_of_eq (hidT_size _ _)
      funs := trivial
      frf := fun b z => nomatch (show b ∈ ([] : List Addr) from z)
      hok := hok
      bare := .of_eq gens }
    refine codeAny_mono (run _ H kb (dicts gl) env sq) ?_
    rintro (e | fl) s' h
    · exact h.elim
    · cases fl with
      | next => exact h.elim
      | brk => exact h.elim
      | cont => exact h.elim
      | ret u =>
        obtain ⟨v, H', os, bare, un, hok', rel, rfl⟩ := h
        obtain rfl : u = Value.bool true := rel
        refine ⟨rfl, OldK.of_keep ?_, os, bare⟩
        intro b o g
        rcases only b with z | ⟨_, _, ob, xs, z⟩
        · exact un.keep b o g z (fun z => nomatch (show b ∈ ([] : List Addr) from z)) (fun z => nomatch z)
        · have g1 := (hok b _ z).1
          have g2 := (hok' b _ (un.frzs b ob _ z)).1
          rw [g] at g1
          cases g1
          exact g2
  cases own : K.lookup a with
  | some o =>
    have g := kin a o own
    rw [oa] at g
    cases g
    refine main (fun _ => none) (fun b => .inl rfl) (.inr ⟨_, vs.toArray, _, own, rfl, rfl, rfl, ?_, ?_⟩) ?_
    · rw [List.size_toArray, lv]
      exact small
    · simpa using rv
    · intro b u z
      cases z
  | none =>
    refine main (fun b => if b = a then some (.frz { cls := .type "list", data := .seq vs.toArray } (.lst (ns.map V.int))) else none)
      ?_ (.inl (.inr ⟨_, if_pos rfl⟩)) ?_
    · intro b
      by_cases e : b = a
      · exact .inr ⟨e, own, _, _, if_pos e⟩
      · exact .inl (if_neg e)
    · intro b u z
      dsimp only at z
      by_cases e : b = a
      · rw [if_pos e] at z
        cases z
        subst e
        exact ⟨oa, by rw [List.length_map]; exact small, vs, _, rv, oa⟩
      · rw [if_neg e] at z
        cases z

theorem walkAt {l : PySem.W.OpenLaw} {n : Nat} {q : Program} {loose : List Str} {XP : (Str → Option Value) → Heap → Prop}
    {YP : World → Heap → Prop} {d : DefRec} {K : Params → PySem.W.Frag} (most : l.most = some n) (le : n ≤ sizeLine)
    (nodef : d.params.defaults = []) (hY : ∀ (w : World) (h : Heap), YP w h → (K w.params).In h)
    (F : ∀ (w : World) (mg : Str → Option Value) (fa : Addr) (h : Heap), (K w.params).In h → h.Ns mainGlobals mg →
      mg d.name = some (.ref fa) → ∀ (base : Heap) (s : Shared) (H : Hp) (a : Addr) (ns : List Int), ns.length ≤ n →
      (K w.params).In base → base.Ns mainGlobals mg → Env0 l.prog w (K w.params) mg base callerA [] s H →
      SqL (K w.params) H a (ns.map V.int) →
      codeAny (model l.prog w) callerA (.call (.ref fa) ⟨[.ref a], []⟩)
        (CR CX0 [] l.prog w H s (fun v _ => v = .bl true) E0) s) :
    PySem.W.WalkO q loose XP YP l.row.toRowW d [] (fun f vs => PySem.call f vs) := by
  refine Att.attach_call most nodef ?_
  intro w s0 s1 mg mb fa o pm cd doc a vs ns G Y _ _ _ hmg oa hiv len gens
  have kin := hY w _ Y
  refine lawAt kin G.T.g G.T.b G.T.builtins G.T.nolimit gens oa hiv (Nat.le_trans len le) ?_
  intro base H kb gb e0 sq
  exact F w mg fa _ kin G.T.g hmg base s1 H a ns len kb gb e0 sq
/-! ### heaps -/
theorem same_new {H : Hp} {p : Addr} {o : HO} (h : H p = none) : Same H (upd H p o) := fun b x e => by
  rw [upd_ne (ne_of_none e h)]
  exact e
/-- the stream: its list at p, the great cells at b, all cells at c, the number of turns -/
structure Stm (H : Hp) (p b c : Addr) (t : Nat) : Prop where
  ex : ∃ (i : Int) (big cells : List Int), H p = some (.lst [.ref b, .ref c, .int i]) ∧ 0 ≤ i ∧ i ≤ t ∧
    H b = some (.lst (big.map V.int)) ∧ big.length ≤ 63 ∧ H c = some (.lst (cells.map V.int)) ∧ 0 < cells.length ∧ cells.length ≤ 64
  bc : b ≠ c
/-- all but the stream stands -/
def Kept (p b : Addr) (H H' : Hp) : Prop := ∀ (q : Addr) (o : HO), q ≠ p → q ≠ b → H q = some o → H' q = some o
theorem Kept.refl {p b : Addr} (H : Hp) : Kept p b H H := fun _ _ _ _ h => h
theorem Kept.trans {p b : Addr} {H H1 H2 : Hp} (x : Kept p b H H1) (y : Kept p b H1 H2) : Kept p b H H2 :=
  fun q o h1 h2 e => y q o h1 h2 (x q o h1 h2 e)
theorem Kept.same {p b : Addr} {H H1 : Hp} (x : Same H H1) : Kept p b H H1 := fun q o _ _ e => x q o e
theorem Stm.same {H H1 : Hp} {p b c : Addr} {t : Nat} (S : Stm H p b c t) (h : Same H H1) : Stm H1 p b c t := by
  obtain ⟨⟨i, big, cells, h1, h2, h3, h4, h5, h6, h7⟩, h8⟩ := S
  exact ⟨⟨i, big, cells, h _ _ h1, h2, h3, h _ _ h4, h5, h _ _ h6, h7⟩, h8⟩
theorem Stm.mono {H : Hp} {p b c : Addr} {t u : Nat} (S : Stm H p b c t) (h : t ≤ u) : Stm H p b c u := by
  obtain ⟨⟨i, big, cells, h1, h2, h3, h4, h5, h6, h7⟩, h8⟩ := S
  exact ⟨⟨i, big, cells, h1, h2, by omega, h4, h5, h6, h7⟩, h8⟩
/-- what stands apart of the stream's two changing lists -/
theorem Stm.ne_p {H : Hp} {p b c q : Addr} {t : Nat} (S : Stm H p b c t) (h : H q = none) : q ≠ p ∧ q ≠ b ∧ q ≠ c := by
  obtain ⟨⟨i, big, cells, h1, _, _, h4, _, h6, _⟩, _⟩ := S
  refine ⟨fun e => ?_, fun e => ?_, fun e => ?_⟩
  · subst e; rw [h] at h1; cases h1
  · subst e; rw [h] at h4; cases h4
  · subst e; rw [h] at h6; cases h6
/-- a list of ints as data -/
def dInts (ns : List Int) : PyData := .list (ns.map PyData.int)
theorem dpAll_ints {K : PySem.W.Frag} {H : Hp} : ∀ ns : List Int, DpAll K H (ns.map V.int) (ns.map PyData.int)
  | [] => .nil
  | n :: ns => .cons (.int n) (dpAll_ints ns)
theorem lay_ints : ∀ ns : List Int, PyData.canLayAll0 (ns.map PyData.int) = true
  | [] => rfl
  | n :: ns => by
    simp only [List.map_cons, PyData.canLayAll0, PyData.canLay0, Bool.true_and]
    exact lay_ints ns
theorem depth_ints : ∀ ns : List Int, PyData.depthAll (ns.map PyData.int) ≤ 1
  | [] => by simp [PyData.depthAll]
  | n :: ns => by
    have h := depth_ints ns
    simp only [List.map_cons, PyData.depthAll, PyData.depth]
    omega
theorem shaped_ints (ns : List Int) : SeqAt.shaped (.list (ns.map PyData.int)) = true := by
  have h1 := depth_ints ns
  have h2 : PyData.depth (.list (ns.map PyData.int)) ≤ 64 := by
    simp only [PyData.depth]
    omega
  unfold SeqAt.shaped
  rw [Bool.and_eq_true]
  exact ⟨by simp only [PyData.canLay0]; exact lay_ints ns, decide_eq_true h2⟩
theorem eqv_nil (ns : List Int) : PyData.eqv (.list (ns.map PyData.int)) (.list []) = ns.isEmpty := by
  cases ns with
  | nil => simp [PyData.eqv, PyData.eqvAll]
  | cons n ns => simp [PyData.eqv, PyData.eqvAll]
theorem ix0 (n : Nat) : ixN (n + 1) 0 = some 0 := by
  unfold ixN
  rw [if_pos (by decide), if_pos (by omega)]
  rfl
theorem sq0 (n : Nat) : seqIndex? 0 (n + 1) = some 0 := by
  unfold seqIndex?
  simp
theorem ixNat {n j : Nat} (h : j < n) : ixN n (j : Int) = some j := by
  unfold ixN
  rw [if_pos (by omega), if_pos (by omega)]
  rfl
theorem Stm.upd {H : Hp} {p b c D : Addr} {t : Nat} {o : HO} (S : Stm H p b c t) (h : D ≠ p ∧ D ≠ b ∧ D ≠ c) : Stm (upd H D o) p b c t := by
  obtain ⟨⟨i, big, cells, h1, h2, h3, h4, h5, h6, h7⟩, h8⟩ := S
  exact ⟨⟨i, big, cells, by rw [upd_ne h.1.symm]; exact h1, h2, h3, by rw [upd_ne h.2.1.symm]; exact h4, h5, by rw [upd_ne h.2.2.symm]; exact h6, h7⟩, h8⟩
theorem Kept.upd {p b D : Addr} {H H1 : Hp} {o : HO} (x : Kept p b H H1) (h : H D = none) : Kept p b H (upd H1 D o) := fun q u h1 h2 e => by
  rw [upd_ne (ne_of_none e h)]
  exact x q u h1 h2 e
theorem Kept.free {p b D : Addr} {H H1 : Hp} (x : Kept p b H H1) (h : H1 D = none) (h1 : D ≠ p) (h2 : D ≠ b) : H D = none := by
  cases e : H D with
  | none => rfl
  | some o =>
    rw [x D o h1 h2 e] at h
    cases h
theorem _root_.L2.Same.tup {K : PySem.W.Frag} {H H' : Hp} {a : Addr} {xs : List V} (e : Same H H') (h : SqT K H a xs) : SqT K H' a xs := by
  rcases h with (h | ⟨o, h⟩) | h
  · exact .inl (.inl (e _ _ h))
  · exact .inl (.inr ⟨o, e _ _ h⟩)
  · exact .inr h
end Kb
namespace Km
/-- the tail order of a list of codes -/
def TailOrd (L : List Nat) (r : List Nat) : Prop := r.Perm (List.range L.length) ∧ r.Pairwise (fun i j => L.drop i < L.drop j)
theorem TailOrd.len {L r : List Nat} (h : TailOrd L r) : r.length = L.length := by
  rw [h.1.length_eq, List.length_range]
theorem TailOrd.uniq {L r s : List Nat} (h : TailOrd L r) (g : TailOrd L s) : r = s :=
  List.Perm.eq_of_pairwise (fun _ _ _ _ x y => (List.lt_asymm x y).elim) h.2 g.2 (h.1.trans g.1.symm)
theorem TailOrd.lt {L r : List Nat} (h : TailOrd L r) {i : Nat} (hi : i ∈ r) : i < L.length := List.mem_range.mp (h.1.mem_iff.mp hi)
theorem tri {a b : List Nat} (h : ¬ b < a) (n : a ≠ b) : a < b := by
  by_cases x : a < b
  · exact x
  · exact (n (List.le_antisymm (List.not_lt.mp h) (List.not_lt.mp x))).elim
theorem drops_nodup (L : List Nat) : ((List.range L.length).map (fun i => L.drop i)).Nodup := by
  unfold List.Nodup
  rw [List.pairwise_map]
  refine List.Pairwise.imp_of_mem (fun {a b} ha hb hab => ?_) (List.nodup_range (n := L.length))
  intro e
  have ha := List.mem_range.mp ha
  have hb := List.mem_range.mp hb
  have := congrArg List.length e
  rw [List.length_drop, List.length_drop] at this
  exact hab (by omega)
theorem back_range (L : List Nat) : (((List.range L.length).map (fun i => L.drop i)).map fun y => L.length - y.length) = List.range L.length := by
  rw [List.map_map]
  conv => rhs; rw [← List.map_id (List.range L.length)]
  refine List.map_congr_left (fun i hi => ?_)
  have hi := List.mem_range.mp hi
  show L.length - (L.drop i).length = i
  rw [List.length_drop]
  omega
/-- from the sorted tails -/
theorem of_sorted {L : List Nat} {ys : List (List Nat)} (p : ys.Perm ((List.range L.length).map fun i => L.drop i)) (s : ys.Pairwise fun a b => ¬ b < a) :
    TailOrd L (ys.map fun y => L.length - y.length) := by
  constructor
  · have := p.map (fun y => L.length - y.length)
    rw [back_range] at this
    exact this
  · have nd : ys.Nodup := p.nodup_iff.mpr (drops_nodup L)
    have st : ys.Pairwise (fun a b => a < b) := (s.and nd).imp (fun {a b} h => tri h.1 h.2)
    rw [List.pairwise_map]
    refine List.Pairwise.imp_of_mem (fun {a b} ha hb hab => ?_) st
    have back : ∀ y ∈ ys, L.drop (L.length - y.length) = y := by
      intro y hy
      obtain ⟨i, hi, rfl⟩ := List.mem_map.mp (p.mem_iff.mp hy)
      have hi := List.mem_range.mp hi
      rw [List.length_drop]
      congr 1
      omega
    rw [back a ha, back b hb]
    exact hab
/-- the number of tails that are less -/
def cnt (L : List Nat) (i : Nat) : Nat := ((List.range L.length).filter fun o => decide (L.drop o < L.drop i)).length
theorem cnt_lt {L : List Nat} {i : Nat} (h : i < L.length) : cnt L i < L.length := by
  unfold cnt
  have h1 := List.length_filter_le (fun o => decide (L.drop o < L.drop i)) (List.range L.length)
  rw [List.length_range] at h1
  rcases Nat.lt_or_eq_of_le h1 with h2 | h2
  · exact h2
  · exfalso
    have h3 : ((List.range L.length).filter fun o => decide (L.drop o < L.drop i)).length = (List.range L.length).length := by rw [List.length_range]; exact h2
    have h4 := List.length_filter_eq_length_iff.mp h3 i (List.mem_range.mpr h)
    exact List.lt_irrefl _ (of_decide_eq_true h4)
theorem countP_first {R : Nat → Nat → Prop} [DecidableRel R] (irr : ∀ a, ¬ R a a) (asy : ∀ a b, R a b → ¬ R b a) : ∀ (r : List Nat) (k : Nat) (h : k < r.length), r.Pairwise R → r.countP (fun o => decide (R o r[k])) = k
  | [], k, h, _ => absurd h (Nat.not_lt_zero _)
  | x :: r, 0, h, p => by
    rw [List.pairwise_cons] at p
    rw [List.countP_eq_zero]
    intro o ho
    have ho : o ∈ x :: r := ho
    show ¬ decide (R o x) = true
    rcases List.mem_cons.mp ho with e | e
    · subst e
      simpa using irr o
    · simpa using asy _ _ (p.1 o e)
  | x :: r, k + 1, h, p => by
    rw [List.pairwise_cons] at p
    have hk : k < r.length := by simpa using h
    have ih := countP_first irr asy r k hk p.2
    show (x :: r).countP (fun o => decide (R o r[k])) = k + 1
    rw [List.countP_cons_of_pos, ih]
    simpa using p.1 _ (List.getElem_mem hk)
theorem TailOrd.cnt_at {L r : List Nat} (h : TailOrd L r) (k : Nat) (hk : k < r.length) : cnt L r[k] = k := by
  unfold cnt
  rw [← List.countP_eq_length_filter, ← h.1.countP_eq]
  exact countP_first (R := fun a b => L.drop a < L.drop b) (fun a => List.lt_irrefl _) (fun a b x => List.lt_asymm x) r k hk h.2
/-- the places put at their numbers -/
def putAll (L : List Nat) : Nat → List Nat → List Nat
  | 0, f => f
  | i + 1, f => (putAll L i f).set (cnt L i) i
theorem putAll_len (L : List Nat) : ∀ (i : Nat) (f : List Nat), (putAll L i f).length = f.length
  | 0, f => rfl
  | i + 1, f => by
    show ((putAll L i f).set (cnt L i) i).length = f.length
    rw [List.length_set, putAll_len L i f]
theorem TailOrd.inj {L r : List Nat} (h : TailOrd L r) {i j : Nat} (hi : i < L.length) (hj : j < L.length) (e : cnt L i = cnt L j) : i = j := by
  obtain ⟨a, ha, ea⟩ := List.getElem_of_mem (h.1.mem_iff.mpr (List.mem_range.mpr hi))
  obtain ⟨b, hb, eb⟩ := List.getElem_of_mem (h.1.mem_iff.mpr (List.mem_range.mpr hj))
  have x := h.cnt_at a ha
  have y := h.cnt_at b hb
  rw [ea] at x
  rw [eb] at y
  have : a = b := by omega
  subst this
  exact ea.symm.trans eb
theorem TailOrd.put {L r : List Nat} (h : TailOrd L r) (f : List Nat) (hf : f.length = L.length) : ∀ n, n ≤ L.length → ∀ i, i < n → (putAll L n f)[cnt L i]? = some i
  | 0, _, i, hi => absurd hi (Nat.not_lt_zero _)
  | n + 1, hn, i, hi => by
    show ((putAll L n f).set (cnt L n) n)[cnt L i]? = some i
    by_cases e : i = n
    · subst e
      rw [List.getElem?_set_self]
      rw [putAll_len, hf]
      exact cnt_lt (by omega)
    · rw [List.getElem?_set_ne]
      · exact h.put f hf n (by omega) i (by omega)
      · intro z
        exact e (h.inj (by omega) (by omega) z).symm
theorem TailOrd.counted {L r : List Nat} (h : TailOrd L r) (f : List Nat) (hf : f.length = L.length) : putAll L L.length f = r := by
  apply List.ext_getElem?
  intro k
  by_cases hk : k < r.length
  · have e := h.put f hf L.length (Nat.le_refl _) r[k] (h.lt (List.getElem_mem hk))
    rw [h.cnt_at k hk] at e
    rw [e, List.getElem?_eq_getElem hk]
  · rw [List.getElem?_eq_none (by rw [putAll_len, hf, ← h.len]; omega), List.getElem?_eq_none (by omega)]
end Km
namespace Kb
open PySem PySem.Spec PyProof.Rows L2
/-! ### what repr shows is short -/
structure Sm (d : PyData) (n e : Nat) : Prop where
  sh : d.showable = true
  nd : d.hasDict = false
  dp : d.depth ≤ e
  ln : d.shown.length ≤ n
theorem Sm.int {i : Int} {k : Nat} (k0 : 0 < k) (h : i.natAbs < 10 ^ k) (k1 : k ≤ 400) : Sm (.int i) (k + 1) 1 := by
  refine ⟨?_, by simp [PyData.hasDict], by simp [PyData.depth], ?_⟩
  · simp only [PyData.showable, decide_eq_true_eq]
    by_cases h0 : i.natAbs = 0
    · rw [h0]
      decide
    · rw [Nat.log2_lt h0]
      refine Nat.lt_of_lt_of_le h (Nat.le_trans (Nat.pow_le_pow_left (show 10 ≤ 2 ^ 4 by decide) k) ?_)
      rw [← Nat.pow_mul]
      exact Nat.pow_le_pow_right (by decide) (by omega)
  · simp only [PyData.shown]
    rw [PySem.ofString_length]
    exact int_text_length_le10 k0 h
theorem Sm.mono {d : PyData} {n m e f : Nat} (h : Sm d n e) (hn : n ≤ m) (he : e ≤ f) : Sm d m f := ⟨h.sh, h.nd, Nat.le_trans h.dp he, Nat.le_trans h.ln hn⟩
theorem all_sh : ∀ {ds : List PyData}, (∀ d ∈ ds, d.showable = true) → PyData.showableAll ds = true
  | [], _ => by simp [PyData.showableAll]
  | d :: ds, h => by
    simp only [PyData.showableAll, Bool.and_eq_true]
    exact ⟨h d List.mem_cons_self, all_sh fun x hx => h x (List.mem_cons_of_mem _ hx)⟩
theorem all_nd : ∀ {ds : List PyData}, (∀ d ∈ ds, d.hasDict = false) → PyData.hasDictAll ds = false
  | [], _ => by simp [PyData.hasDictAll]
  | d :: ds, h => by
    simp only [PyData.hasDictAll, Bool.or_eq_false_iff]
    exact ⟨h d List.mem_cons_self, all_nd fun x hx => h x (List.mem_cons_of_mem _ hx)⟩
theorem all_dp {e : Nat} : ∀ {ds : List PyData}, (∀ d ∈ ds, d.depth ≤ e) → PyData.depthAll ds ≤ e
  | [], _ => by simp [PyData.depthAll]
  | d :: ds, h => by
    have h1 := h d List.mem_cons_self
    have h2 := all_dp (ds := ds) fun x hx => h x (List.mem_cons_of_mem _ hx)
    simp only [PyData.depthAll]
    omega
theorem all_ln {n : Nat} : ∀ {ds : List PyData}, (∀ d ∈ ds, d.shown.length ≤ n) → piled (PyData.shownAll ds) ≤ (n + 2) * ds.length
  | [], _ => by simp [PyData.shownAll, piled_nil]
  | d :: ds, h => by
    have h1 := h d List.mem_cons_self
    have h2 := all_ln (ds := ds) fun x hx => h x (List.mem_cons_of_mem _ hx)
    simp only [PyData.shownAll, piled_cons, List.length_cons, Nat.mul_succ]
    omega
theorem textFrom_le : ∀ (ts : List Str) (k : Nat) (acc : Str), (textFrom k acc ts).length ≤ acc.length + piled ts
  | [], _, acc => by
    show acc.length ≤ _
    omega
  | t :: ts, k, acc => by
    have h := textFrom_le ts (k + 1) (acc ++ (if k > 0 then ", " else "" : String) ++ t)
    have e : (Str.ofString (if k > 0 then ", " else "" : String)).length ≤ 2 := by split <;> decide +kernel
    rw [Str.length_append, Str.length_append] at h
    rw [piled_cons]
    show (textFrom (k + 1) (acc ++ (if k > 0 then ", " else "" : String) ++ t) ts).length ≤ _
    omega
theorem listText_le (ts : List Str) : (listText ts).length ≤ piled ts + 2 := by
  have h := textFrom_le ts 0 "["
  have e1 : (Str.ofString "[").length = 1 := by decide +kernel
  have e2 : (Str.ofString "]").length = 1 := by decide +kernel
  unfold listText
  rw [Str.length_append]
  omega
theorem tupleText_le (ts : List Str) : (tupleText ts).length ≤ piled ts + 3 := by
  have e3 : (Str.ofString (if ts.length == 1 then ",)" else ")" : String)).length ≤ 2 := by split <;> decide +kernel
  have e1 : (Str.ofString "(").length = 1 := by decide +kernel
  unfold tupleText
  rw [Str.length_append, Str.length_append]
  by_cases h : ts = []
  · subst h
    decide +kernel
  · have := join_length_add ts h
    omega
theorem Sm.list {ds : List PyData} {n e : Nat} (h : ∀ d ∈ ds, Sm d n e) : Sm (.list ds) ((n + 2) * ds.length + 2) (e + 1) := by
  refine ⟨by simp only [PyData.showable]; exact all_sh fun d hd => (h d hd).sh, by simp only [PyData.hasDict]; exact all_nd fun d hd => (h d hd).nd, ?_, ?_⟩
  · have := all_dp fun d hd => (h d hd).dp
    simp only [PyData.depth]
    omega
  · have h1 := all_ln fun d hd => (h d hd).ln
    have h2 := listText_le (PyData.shownAll ds)
    simp only [PyData.shown]
    omega
theorem Sm.tuple {ds : List PyData} {n e : Nat} (h : ∀ d ∈ ds, Sm d n e) : Sm (.tuple ds) ((n + 2) * ds.length + 3) (e + 1) := by
  refine ⟨by simp only [PyData.showable]; exact all_sh fun d hd => (h d hd).sh, by simp only [PyData.hasDict]; exact all_nd fun d hd => (h d hd).nd, ?_, ?_⟩
  · have := all_dp fun d hd => (h d hd).dp
    simp only [PyData.depth]
    omega
  · have h1 := all_ln fun d hd => (h d hd).ln
    have h2 := tupleText_le (PyData.shownAll ds)
    simp only [PyData.shown]
    omega
/-- what the reading of repr(x) asks, of short data -/
theorem rRepr_of {K : PySem.W.Frag} {H : Hp} {a : Addr} {d : PyData} {Q : VK} {n e : Nat} (hd : Dp K H (.ref a) d) (s : Sm d n e) (hn : n ≤ 1000000) (he : e ≤ 60) (q : Q (.str d.shown) H) : rRepr K [.ref a] H Q :=
  ⟨a, d, rfl, hd, s.sh, s.nd, Nat.le_trans s.dp he, Nat.le_trans (Nat.le_trans s.ln hn) (by decide), q⟩
theorem Sm.fits {d : PyData} {n e : Nat} (s : Sm d n e) (hn : n ≤ 1000000) : d.shown.length ≤ sizeLine := Nat.le_trans (Nat.le_trans s.ln hn) (by decide)
theorem Sm.flat {d : PyData} {n e : Nat} (s : Sm d n e) (he : e ≤ 60) : d.depth ≤ 60 := Nat.le_trans s.dp he
/-- places as values -/
def plV (r : List Nat) : List V := r.map fun i : Nat => V.int (i : Int)
def plD (r : List Nat) : List PyData := r.map fun i : Nat => PyData.int (i : Int)
theorem dp_pl {K : PySem.W.Frag} {H : Hp} : ∀ r : List Nat, DpAll K H (plV r) (plD r)
  | [] => .nil
  | i :: r => .cons (.int _) (dp_pl r)
theorem sm_pl {r : List Nat} (h : ∀ i ∈ r, i < 1000) : Sm (.tuple (plD r)) (6 * r.length + 3) 2 := by
  have := Sm.tuple (ds := plD r) (n := 4) (e := 1) fun d hd => by
    obtain ⟨i, hi, rfl⟩ := List.mem_map.mp hd
    exact Sm.int (k := 3) (by decide) (by have := h i hi; omega) (by decide)
  unfold plD at *
  rw [List.length_map] at this
  exact this
/-! ### a text times a number -/
def repS (n : Nat) (x : Str) : Str := ⟨(List.replicate n x.cps).foldl (· ++ ·) #[]⟩
theorem rep_fold (a : Array Nat) : ∀ (n : Nat) (acc : Array Nat), ((List.replicate n a).foldl (· ++ ·) acc).toList = acc.toList ++ (List.replicate n a.toList).flatten
  | 0, acc => by simp
  | n + 1, acc => by
    rw [List.replicate_succ, List.foldl_cons, rep_fold a n, List.replicate_succ, List.flatten_cons, Array.toList_append, List.append_assoc]
theorem repS_list (n : Nat) (x : Str) : (repS n x).cps.toList = (List.replicate n x.cps.toList).flatten := by
  unfold repS
  rw [rep_fold]
  rfl
theorem repS_len (n : Nat) (x : Str) : (repS n x).length = n * x.length := by
  show (repS n x).cps.size = n * x.cps.size
  rw [← Array.length_toList, repS_list, List.length_flatten, List.map_replicate, List.sum_replicate_nat, Array.length_toList]
theorem op_rep_str {X : Cx} : OpR X (binaryOp .Mult) (fun x y H Q => ∃ (i : Str) (n : Nat), x = .str i ∧ y = .int n ∧ 2 ≤ n ∧ n ≤ 1000 ∧ 1 ≤ i.length ∧ i.length ≤ 1000 ∧ Q (.str (repS n i)) H) := by
  intro pins s σ H x y v u Q I rx ry h
  obtain ⟨i, n, rfl, rfl, n0, n1, l0, l1, q⟩ := h
  obtain ⟨t, rfl⟩ := rx
  obtain ⟨t', rfl⟩ := ry
  have e1 : ¬ ((n : Int) < 1) := by omega
  have e2 : ((n : Int) == 1 || i.length == 0) = false := by
    rw [Bool.or_eq_false_iff, beq_eq_false_iff_ne, beq_eq_false_iff_ne]
    omega
  have big : i.length * n ≤ 1000000 := Nat.mul_le_mul l1 n1
  have tl : Builtin.Str.tooLong (i.length * (n : Int).toNat) = false := by
    unfold Builtin.Str.tooLong
    rw [decide_eq_false_iff_not, Int.toNat_natCast]
    have := sizeLine_eq
    omega
  refine PySem.P.mul_str ?_ ?_ (fun _ _ => tl) ?_
  · rw [Bool.or_eq_false_iff, decide_eq_false_iff_not, decide_eq_false_iff_not]
    omega
  · intro _ _ h
    have : (2 ^ 63 - 1 : Int) / n ≥ 1000 := by
      rw [ge_iff_le, Int.le_ediv_iff_mul_le (by omega)]
      omega
    omega
  · rw [if_neg e1, if_neg (by rw [e2]; exact Bool.false_ne_true)]
    refine ⟨?_, ?_⟩
    · have e := repS_len n i
      have := sizeLine_eq
      rw [Int.toNat_natCast]
      show (repS n i).length ≤ sizeLine
      rw [e, Nat.mul_comm]
      omega
    · exact ⟨.str (repS n i), H, I.tok _, ⟨_, rfl⟩, q⟩
end Kb
namespace Kb
open PySem PySem.Spec PyProof.Rows L2
open AutoSeq1 (wpAny_loadPart')
/-! ### enumerate of a tuple -/
abbrev tItO (l : Addr) : Obj := { cls := .type "tuple_iterator", data := .fields #[.ref l, .int 0 0] }
abbrev enO (it : Addr) : Obj := { cls := .type "enumerate", data := .fields #[.none, .bool false, .ref it, rawInt 0, .none, .none] }
theorem meets_enumT (l : Addr) (items : Array Value) (n : Nat) (dct : Option Addr) (sl : Array (Option Value)) :
    Meets (Builtin.«enumerate.__new__» ⟨[.type "enumerate", .ref l], []⟩) (fun _ R s =>
      s.heap.get? l = some { cls := .type "tuple", dict := dct, data := .seq items n, slots := sl } ∧
      R (.ok (.ret (.ref (s.heap.push (tItO l)).objs.size))) { s with heap := (s.heap.push (tItO l)).push (enO s.heap.objs.size) }) :=
  Meets.of_wp (by
    intro prog w A R s h
    obtain ⟨hp, g, d, tk, os⟩ := s
    obtain ⟨hl, h⟩ := h
    have hsub := sub_enumerate
    have hT : Heap.IsTuple (Shared.heap ⟨hp, g, d, tk, os⟩) l items := ⟨_, hl, rfl, n, rfl⟩
    wp_walk using wpAny_loadPart' hl
    apply wpAny_stack_any
    intro st
    apply wpAny_pure
    split
    · rename_i c _ _ _ _ _
      cases (c == Value.type "enumerate") <;> (wp_walk using wpAny_loadPart' hl, wpAny_pyIter_tuple hT; exact ⟨_, rfl, h⟩)
    · wp_walk using wpAny_loadPart' hl, wpAny_pyIter_tuple hT
      exact ⟨_, rfl, h⟩)
theorem call_enumT {prog : Program} {w : World} {A : Around} {E : Value → Shared → Prop} {s : Shared} {l : Addr} {items : Array Value} {Q : Value → Shared → Prop} (hT : s.heap.IsTuple l items)
    (h : ∀ h', IsEnum h' (s.heap.objs.size + 1) s.heap.objs.size 0 .none → h'.IsTupleIter s.heap.objs.size l 0 →
      (∀ b o, s.heap.get? b = some o → h'.get? b = some o) → Q (.ref (s.heap.objs.size + 1)) { s with heap := h' }) :
    wpAny (model prog w) A (call (.type "enumerate") [.ref l]) Q E s := by
  obtain ⟨⟨c, dct, dt, sl⟩, hl, hc, n, hd⟩ := hT
  obtain rfl : c = .type "tuple" := hc
  obtain rfl : dt = .seq items n := hd
  refine callType_new F.called_enumerate (by decide) (F.typeCall_enumerate_1 _) (F.newCall_enumerate_1 _) (fun obj => F.args_object_init_2 obj _)
    F.entry_enumerate_new (meets_enumT l items n dct sl) ⟨hl, ?_⟩
  have z1 : (s.heap.push (tItO l)).objs.size = s.heap.objs.size + 1 := Heap.size_push ..
  have z2 : IsEnum ((s.heap.push (tItO l)).push (enO s.heap.objs.size)) (s.heap.objs.size + 1) s.heap.objs.size 0 .none := by
    have z := Heap.get?_push_size (s.heap.push (tItO l)) (o := enO s.heap.objs.size) rfl
    rw [z1] at z
    exact z
  show _ ∧ _
  rw [z1]
  exact ⟨⟨_, z2, rfl⟩, h _ z2 ⟨_, Heap.get?_push_of_some _ (Heap.get?_push_size _ rfl), rfl, rfl⟩ (fun b o q => Heap.get?_push_of_some _ (Heap.get?_push_of_some _ q))⟩
/-- the tuple at a: its items with their numbers, in new pairs -/
def ItET (K : PySem.W.Frag) (a : Addr) : It where
  go := fun i H => ∃ (xs : List V) (x : V), SqT K H a xs ∧ xs[i]? = some x
  yld := fun i H v H' => ∃ T x, v = .ref T ∧ H T = none ∧ H' = upd H T (.tup [.int (i : Nat), x]) ∧ ∀ xs, SqT K H a xs → xs[i]? = some x
  stop := fun i H => ∃ xs : List V, SqT K H a xs ∧ xs.length = i
theorem turnET {P : Program} {w : World} {K : PySem.W.Frag} {elts : List Expr} {kk : Nat} {tpos : Pos} (a e it : Addr) (ha : a ≠ it) (hae : a ≠ e) (hne : e ≠ it) :
    Turn P w K (.Tuple elts kk tpos) (ItET K a) [e, it] e (fun i h => (∃ old, IsEnum h e it ((i : Nat) : Int) old) ∧ h.IsTupleIter it a i) := by
  constructor
  · simp
  · rintro i h ⟨⟨old, he⟩, ⟨o, ho, hc, hd⟩⟩ b hb
    simp only [List.mem_cons, List.not_mem_nil, or_false] at hb
    rcases hb with rfl | rfl
    · exact ⟨_, he, fun v q => nomatch q⟩
    · refine ⟨o, ho, fun v q => ?_⟩
      rw [hd] at q
      cases q
  · rintro i h h' ⟨⟨old, he⟩, hi⟩ k
    exact ⟨⟨old, k e (by simp) _ he⟩, hi.at (fun o q => k it (by simp) o q)⟩
  · intro X hP hw hK hc i pins s σ H E I hf st hg
    subst hP hw hK
    obtain ⟨⟨old, he⟩, hit⟩ := st
    obtain ⟨xs, x, hq, hx⟩ := hg
    obtain ⟨its, rv, p, hz⟩ := I.tuple hq
    obtain ⟨u, hu, ru⟩ := rv.get hx
    have hel : e < s.heap.objs.size := Heap.lt_size he
    have hil : it < s.heap.objs.size := by
      obtain ⟨_, z, _⟩ := hit
      exact Heap.lt_size z
    have hil2 : i < its.toArray.size := by
      have := (List.getElem?_eq_some_iff.mp hu).1
      simpa using this
    have D := Draws.tuple (prog := X.prog) (w := X.w) (A := X.A.in1) (I.ok.hd hc) it a ha its.toArray
    have hef : e ∉ [it, a] := by
      simp only [List.mem_cons, List.not_mem_nil, or_false, not_or]
      exact ⟨hne, hae.symm⟩
    refine wpAny_pyNext_enum_itemD D he ⟨hit, p⟩ hil2 hne hef (fun y h' tk hy ho hst hT hsz hk => ?_)
    have hyu : y = u := by
      have h1 : its.toArray[i]? = some u := by simpa using hu
      exact Option.some.inj (hy.symm.trans h1)
    subst hyu
    refine ⟨_, rfl, wpAny_letOwnedTupleGo_enum (s := { s with heap := h', toks := tk + 1 }) ho (fun h2 he2 sb => ?_)⟩
    have hT2 : h2.get? s.heap.objs.size = some { cls := .type "tuple", data := .seq #[.int i tk, y] } := (sb.2 _ (Nat.ne_of_gt hel)).trans hT
    have new : ObjOk X.prog X.w (upd H s.heap.objs.size (.tup [.int (i : Nat), x])) h2 s.heap.objs.size (.tup [.int (i : Nat), x]) :=
      ⟨by show 2 ≤ sizeLine; decide, [.int i tk, y], .cons ⟨_, rfl⟩ (.cons ru .nil), ⟨_, hT2, rfl, _, rfl⟩⟩
    have I1 : Inv X pins σ (upd H s.heap.objs.size (.tup [.int (i : Nat), x])) { s with heap := h2, toks := tk + 1 } := by
      refine I.turnedNew (ch := [e, it]) (fun b ob hb z => ?_) hf (Nat.le_refl _) new
      simp only [List.mem_cons, List.not_mem_nil, or_false, not_or] at hb
      exact (sb.2 b hb.1).trans (hk b ob hb.1 hb.2 z)
    refine ⟨.ref s.heap.objs.size, _, I1, rfl, ⟨_, x, rfl, I.hok.fresh (Nat.le_refl _), rfl, fun ys hy => ?_⟩, ⟨⟨y, ?_⟩, hst.1.at (fun o q => (sb.2 it (Ne.symm hne)).trans q)⟩, fun b hb => ?_⟩
    · rw [I.tuple_inj hy hq]
      exact hx
    · have e1 : ((i + 1 : Nat) : Int) = (i : Int) + 1 := by omega
      rw [e1]
      exact he2
    · have hlt : b < s.heap.objs.size := by
        simp only [List.mem_cons, List.not_mem_nil, or_false] at hb
        rcases hb with rfl | rfl
        · exact hel
        · exact hil
      rw [upd_ne (Nat.ne_of_lt hlt)]
      exact (hf b hb).1
  · intro X hP hw hK hc i pins s σ H E I hf st hg
    subst hP hw hK
    obtain ⟨⟨old, he⟩, hit⟩ := st
    obtain ⟨xs, hq, hx⟩ := hg
    obtain ⟨its, rv, p, hz⟩ := I.tuple hq
    obtain ⟨f0, f1, f2, f3, f4, f5⟩ := hf it (by simp)
    have hl := rv.length
    have D := Draws.tuple (prog := X.prog) (w := X.w) (A := X.A.in1) (I.ok.hd hc) it a ha its.toArray
    have hsz : its.toArray.size = i := by
      rw [List.size_toArray]
      omega
    refine wpAny_pyNext_enum_endD D he ⟨by rw [hsz]; exact hit, p⟩ (fun h' eb => ⟨rfl, I.turned (t' := s.toks) (fun b o hb z => eb b o hb z) f0 f1 f3 f4 f5⟩)
  · rintro A i s Q E ⟨⟨_, he⟩, _⟩ h
    exact wpAny_pyIter_enum he h
def iEnT (K : PySem.W.Frag) (ta : TA) : TI := fun σ H R => ta σ H fun vs H1 => ∃ a xs, vs = [.ref a] ∧ SqT K H1 a xs ∧ R (ItET K a) H1
theorem pi_enumT {X : Cx} {e : Expr} {ta : TA} {p pos tpos : Pos} {elts : List Expr} {kk : Nat} (hg : Gl X "enumerate") (hm : X.mg "enumerate" = none) (ha : PA X [e] ta)
    (hs : starEach [e] X.env = [(false, eval e X.env)] := by rfl) : PI X (.Tuple elts kk tpos) (.Call (.Name "enumerate" p) [e] [] pos) (iEnT X.K ta) := by
  refine ⟨fun pins s σ H R I h => ?_⟩
  have run := ha.run pos pins s σ H _ I h
  refine Call_ (ld_blt I hg hm boot_enumerate (PyProof.Rows.callWith_type1 (thn run ?_) hs rfl))
  rintro us s1 ⟨vs, H1, I1, r1, a, xs, rfl, hq, q⟩
  cases r1 with
  | cons r rr =>
    cases rr
    cases r
    obtain ⟨its, rv, pt, hz⟩ := I1.tuple hq
    have hlt : a < s1.heap.objs.size := by
      obtain ⟨o, ho, _⟩ := pt
      exact Heap.lt_size ho
    refine call_enumT pt (fun h' he hit hk => wpAny_pyIter_enum he ?_)
    refine ⟨s1.heap.objs.size + 1, [s1.heap.objs.size + 1, s1.heap.objs.size], _, _, H1, rfl, I1.kept (t' := s1.toks) hk,
      turnET a (s1.heap.objs.size + 1) s1.heap.objs.size (Nat.ne_of_lt hlt) (Nat.ne_of_lt (Nat.lt_succ_of_lt hlt)) (Nat.succ_ne_self _), ⟨⟨.none, he⟩, hit⟩, fun b hb => ?_, q⟩
    have le : s1.heap.objs.size ≤ b := by
      simp only [List.mem_cons, List.not_mem_nil, or_false] at hb
      rcases hb with rfl | rfl
      · exact Nat.le_succ _
      · exact Nat.le_refl _
    exact I1.fpOk le (I1.hok.fresh le)
/-- a for over enumerate of a tuple -/
theorem for_enT {K : PySem.W.Frag} {a : Addr} {xs : List V} {g : TG} {tb : TS} {D : Ends} {σ : L2.St} {H : Hp} (Pv : Nat → L2.St → Hp → Prop) (h0 : Pv 0 σ H) (hl : ∀ i σ H, i ≤ xs.length → Pv i σ H → SqT K H a xs)
    (hs : ∀ i x σ H T, xs[i]? = some x → Pv i σ H → H T = none → g (.ref T) σ (upd H T (.tup [.int (i : Nat), x])) fun σ2 H2 => tb { D with nx := Pv (i + 1), ct := Pv (i + 1), bk := D.nx } σ2 H2)
    (hd : ∀ σ H, Pv xs.length σ H → D.nx σ H) :
    ∃ W : Nat → Nat → L2.St → Hp → Prop, (∃ m, W 0 m σ H) ∧ ∀ i m σ H, W i m σ H →
      ((ItET K a).stop i H ∧ D.nx σ H) ∨ ((ItET K a).go i H ∧ ∃ N : L2.St → Hp → Prop, (∀ σ' H', N σ' H' → ∃ m', m' < m ∧ W (i + 1) m' σ' H') ∧
        ∀ x H', (ItET K a).yld i H x H' → g x σ H' fun σ2 H2 => tb { D with nx := N, ct := N, bk := D.nx } σ2 H2) := by
  refine ⟨fun i m σ H => m = xs.length - i ∧ i ≤ xs.length ∧ Pv i σ H, ⟨xs.length, by omega, by omega, h0⟩, ?_⟩
  rintro i m σ H ⟨rfl, hi, pv⟩
  have sq := hl i σ H hi pv
  by_cases lt : i < xs.length
  · refine .inr ⟨⟨xs, xs[i], sq, List.getElem?_eq_getElem lt⟩, Pv (i + 1), fun σ' H' p' => ⟨xs.length - (i + 1), by omega, rfl, lt, p'⟩, ?_⟩
    rintro x H' ⟨T, y, rfl, hT, rfl, hy⟩
    exact hs i y σ H T (hy xs sq) pv hT
  · have e : i = xs.length := by omega
    subst e
    exact .inl ⟨⟨xs, sq, rfl⟩, hd σ H pv⟩
end Kb
namespace Kb
open PySem PySem.Spec PyProof.Rows L2
/-! ### sorted of data -/
def rSortedD (K : PySem.W.Frag) : List V → Hp → VK → Prop := fun vs H Q => ∃ (a : Addr) (xs : List V) (enc : V → PyData), vs = [V.ref a] ∧ SqL K H a xs ∧
  (∀ x ∈ xs, Dp K H x (enc x)) ∧ PySem.W.AllAlike (xs.map enc) ∧ PySem.W.Sortable (xs.map enc) ∧ (∀ x ∈ xs, (enc x).depth ≤ 60) ∧
  ∀ p, H p = none → Q (.ref p) (upd H p (.lst (xs.mergeSort (PySem.W.dataLe false enc))))
theorem each_vals : ∀ {xs : List V} {its : List Value}, Vals xs its → PySem.W.EachIs (fun v x => RelV x v) its xs
  | _, _, .nil => .nil
  | _, _, .cons h r => .cons h (each_vals r)
theorem vals_each : ∀ {xs : List V} {its : List Value}, PySem.W.EachIs (fun v x => RelV x v) its xs → Vals xs its
  | _, _, .nil => .nil
  | _, _, .cons h r => .cons h (vals_each r)
theorem each_reads {X : Cx} {pins : List (Addr × Obj)} {σ : L2.St} {H : Hp} {s : Shared} (I : Inv X pins σ H s) (enc : V → PyData) : ∀ {xs : List V} {its : List Value}, Vals xs its → (∀ x ∈ xs, Dp X.K H x (enc x)) →
    PySem.W.EachIs (fun v x => ∃ as, Reads s.heap v (enc x) as) its xs
  | _, _, .nil, _ => .nil
  | _, _, .cons h r, hd => .cons (Dp.reads I _ _ _ (hd _ List.mem_cons_self) h) (each_reads I enc r fun x hx => hd x (List.mem_cons_of_mem _ hx))
theorem cr_sortedD {X : Cx} (hu : X.A.units + 64 < cLine) : CallR X (.builtin "sorted") (rSortedD X.K) := by
  intro pins s σ H vs us Q I r h
  obtain ⟨a, xs, enc, rfl, hs, hd, hal, hk, hdp, q⟩ := h
  obtain ⟨its, rv, hl, hz⟩ := I.list hs
  rw [Vals.ref1 r]
  refine PySem.W.sorted_data (bs := xs) (enc := enc) (R := fun v x => RelV x v) hl.isList (each_vals rv) (each_reads I enc rv hd) hal hk hz (fun b hb => ?_) (fun out ho he => ?_)
  · have := hdp b hb
    omega
  · obtain ⟨ep, he'⟩ := PyProof.Rows.sortedAll_at s.heap its out.toArray
    have hlen : (xs.mergeSort (PySem.W.dataLe false enc)).length ≤ sizeLine := by
      rw [List.length_mergeSort]
      exact hz
    have I1 : Inv X pins σ (upd H (s.heap.objs.size + 1) (.lst (xs.mergeSort (PySem.W.dataLe false enc)))) { s with heap := PyProof.Rows.sortedAll s.heap its out.toArray } :=
      I.laid (t' := s.toks) (fun _ _ => PyProof.Rows.sortedAll_old) (Nat.le_succ _) ⟨hlen, out, ep, vals_each he, by simpa using he'⟩
    exact ⟨.ref _, _, I1, rfl, q _ (I.hok.fresh (Nat.le_succ _))⟩
end Kb
namespace Kb
open PySem PySem.Spec PyProof.Rows L2
theorem plV_ints (r : List Nat) : plV r = (r.map fun i : Nat => (i : Int)).map V.int := by
  unfold plV
  rw [List.map_map]
  rfl
theorem idx_cast (k : Nat) : ∀ r : List Nat, (r.map fun i : Nat => (i : Int)).idxOf (k : Int) = r.idxOf k
  | [] => rfl
  | x :: r => by
    rw [List.map_cons, List.idxOf_cons, List.idxOf_cons, idx_cast k r]
    by_cases h : x = k
    · subst h
      simp
    · have h2 : ¬ ((x : Int) = (k : Int)) := by omega
      have e1 : ((x : Int) == (k : Int)) = false := beq_eq_false_iff_ne.mpr h2
      have e2 : (x == k) = false := beq_eq_false_iff_ne.mpr h
      rw [e1, e2]
/-! ### the place of an int in a tuple -/
def rTupAt (K : PySem.W.Frag) : V → List V → Hp → VK → Prop := fun x xs H Q => ∃ (p : Addr) (r : List Nat) (k : Nat), x = .ref p ∧ xs = [.int k] ∧ SqT K H p (plV r) ∧ k ∈ r ∧ Q (.int (r.idxOf k : Nat)) H
theorem mt_tup_at {X : Cx} : MtR X "tuple.index" (rTupAt X.K) := by
  intro pins s σ H x xs v us Q I rx rs h
  obtain ⟨p, r, k, rfl, rfl, hq, hk, q⟩ := h
  cases rx
  obtain ⟨u, rfl, t, rfl⟩ := vals1 rs
  rw [plV_ints] at hq
  obtain ⟨its, rv, pt, hz⟩ := I.tuple hq
  refine PySem.SeqAt.tuple_index_ints (show s.heap.IsTuple p its.toArray from pt) rv.ints (List.mem_map.mpr ⟨k, hk, rfl⟩) ?_
  rw [idx_cast]
  exact ⟨.int (r.idxOf k : Nat), H, I.tok _, ⟨_, rfl⟩, q⟩
def rListAt (K : PySem.W.Frag) : V → List V → Hp → VK → Prop := fun x xs H Q => ∃ (p : Addr) (r : List Nat) (k : Nat), x = .ref p ∧ xs = [.int k] ∧ SqL K H p (plV r) ∧ k ∈ r ∧ Q (.int (r.idxOf k : Nat)) H
theorem mt_list_at {X : Cx} : MtR X "list.index" (rListAt X.K) := by
  intro pins s σ H x xs v us Q I rx rs h
  obtain ⟨p, r, k, rfl, rfl, hq, hk, q⟩ := h
  cases rx
  obtain ⟨u, rfl, t, rfl⟩ := vals1 rs
  rw [plV_ints] at hq
  obtain ⟨its, rv, pt, hz⟩ := I.list hq
  refine PySem.SeqAt.list_index_ints pt.isList rv.ints (by rw [List.length_map] at hz; exact hz) (List.mem_map.mpr ⟨k, hk, rfl⟩) ?_
  rw [idx_cast]
  exact ⟨.int (r.idxOf k : Nat), H, I.tok _, ⟨_, rfl⟩, q⟩
/-! ### tuples whose object is told: they have methods -/
/-- a tuple of places, its object without a dict -/
structure FT (H : Hp) (q : Addr) (xs : List V) : Prop where
  ex : ∃ o : Obj, H q = some (.frz o (.tup xs)) ∧ o.cls = .type "tuple" ∧ o.dict = none
theorem FT.sq {K : PySem.W.Frag} {H : Hp} {q : Addr} {xs : List V} (h : FT H q xs) : SqT K H q xs := by
  obtain ⟨o, h, _⟩ := h.ex
  exact .inl (.inr ⟨o, h⟩)
theorem FT.same {H H1 : Hp} {q : Addr} {xs : List V} (h : FT H q xs) (s : Same H H1) : FT H1 q xs := by
  obtain ⟨o, h, r⟩ := h.ex
  exact ⟨o, s _ _ h, r⟩
theorem FT.kept {H H1 : Hp} {p b q : Addr} {xs : List V} (h : FT H q xs) (s : Kept p b H H1) (h1 : q ≠ p) (h2 : q ≠ b) : FT H1 q xs := by
  obtain ⟨o, h, r⟩ := h.ex
  exact ⟨o, s _ _ h1 h2 h, r⟩
theorem FT.new {H : Hp} {q : Addr} {xs : List V} {o : Obj} (c : o.cls = .type "tuple") (d : o.dict = none) : FT (upd H q (.frz o (.tup xs))) q xs := ⟨o, upd_same, c, d⟩
theorem call_tupF {X : Cx} : CallR X (.type "tuple") (fun xs H Q => ∃ p ys, xs = [.ref p] ∧ SqL X.K H p ys ∧
    ∀ (l : Addr) (o : Obj), H l = none → o.cls = .type "tuple" → o.dict = none → Q (.ref l) (upd H l (.frz o (.tup ys)))) := by
  intro pins s σ H xs us Q I r h
  obtain ⟨p, ys, rfl, hq, q⟩ := h
  obtain ⟨u, rfl, rx⟩ := vals1 r
  cases rx
  obtain ⟨its, rv, pl, hz⟩ := I.list hq
  have hlen := rv.length
  refine call_tuple_list pl.isList (fun h' kp => ?_) (by rw [List.size_toArray]; omega)
  have I1 : Inv X pins σ H { s with heap := h' } := I.kept (t' := s.toks) kp
  have new : ObjOk X.prog X.w (upd H h'.objs.size (.frz { cls := .type "tuple", data := .seq its.toArray } (.tup ys))) (h'.push { cls := .type "tuple", data := .seq its.toArray }) h'.objs.size
      (.frz { cls := .type "tuple", data := .seq its.toArray } (.tup ys)) := ⟨Heap.get?_push_size _ rfl, hz, its, rv, IsTup.new _ _⟩
  have I2 := I1.laid (t' := s.toks) (fun b o e => Heap.get?_push_of_some _ e) (Nat.le_refl _) new
  exact ⟨.ref h'.objs.size, _, I2, rfl, q _ _ (I1.hok.fresh (Nat.le_refl _)) rfl rfl⟩
def tTupF (t : TA) : TE := fun σ H Q => t σ H fun xs H1 => xs.length ≤ sizeLine ∧
  ∀ (p : Addr) (o : Obj), H1 p = none → o.cls = .type "tuple" → o.dict = none → Q (.ref p) (upd H1 p (.frz o (.tup xs)))
theorem pe_tupF {X : Cx} {es : List Expr} {t : TA} {pos : Pos} {x1} (h : PA X es t) : PE X (.Tuple es x1 pos) (tTupF t) := by
  constructor
  intro pins s σ H Q I hq
  refine wpAny_Tuple_spliced (thn (h.run pos pins s σ H _ I hq) ?_)
  rintro us s1 ⟨xs, H1, I1, r, z, q⟩
  refine ⟨by rw [← r.length]; exact z, ?_⟩
  have new : ObjOk X.prog X.w (upd H1 s1.heap.objs.size (.frz { cls := .type "tuple", data := .seq us.toArray } (.tup xs))) (s1.heap.push { cls := .type "tuple", data := .seq us.toArray }) s1.heap.objs.size
      (.frz { cls := .type "tuple", data := .seq us.toArray } (.tup xs)) := ⟨Heap.get?_push_size _ rfl, z, us, r, IsTup.new _ _⟩
  have I2 := I1.laid (t' := s1.toks) (fun b o e => Heap.get?_push_of_some _ e) (Nat.le_refl _) new
  exact ⟨.ref s1.heap.objs.size, _, I2, rfl, q _ _ (I1.hok.fresh (Nat.le_refl _)) rfl rfl⟩
/-- t.m(e, ..), t such a tuple -/
def tTM (r : V → List V → Hp → VK → Prop) (to : TE) (t : TA) : TE := fun σ H Q => to σ H fun x H1 => (∃ a xs, x = .ref a ∧ FT H1 a xs) ∧ t σ H1 fun xs H2 => r x xs H2 Q
theorem pe_tm {X : Cx} {o e : Expr} {es : List Expr} {to : TE} {t : TA} {name : Str} {apos cpos : Pos} {id : String} {r : V → List V → Hp → VK → Prop}
    (slot : Slot "tuple" name id) (hty : typeOf (.builtin id) = pure (.type "method_descriptor")) (hm : MtR X id r) (ho : PE X o to) (ha : PA X (e :: es) t)
    (hbase : attributeBase o name X.env (eval o X.env) = eval o X.env := by rfl)
    (hfew : ((backTo cpos (starEach (e :: es) X.env)).all (fun x => !x.1) && (backToKw cpos (keywordEach [] X.env)).all (fun x => x.1.isSome)
      && decide ((e :: es).length + ([] : List Keyword).length + (if ([] : List Keyword).isEmpty then 0 else 1) < 30)) = true := by rfl)
    (hline : (apos.endLine == cpos.line) = true := by rfl) (hs : starEach (e :: es) X.env = (false, eval e X.env) :: starEach es X.env := by rfl)
    (hplain : (backTo cpos (starEach es X.env)).any (·.1) = false := by rfl) : PE X (.Call (.Attribute o name apos) (e :: es) [] cpos) (tTM r to t) := by
  constructor
  intro pins s σ H Q I h
  refine wpAny_Call_method_late hbase hfew hline rfl (thn (ho.run pins s σ H _ I h) ?_)
  rintro v s1 ⟨x, H1, I1, r1, ⟨a, xs, rfl, ⟨ob, hob, hc, hd⟩⟩, q1⟩
  cases r1
  have hg : s1.heap.get? a = some ob := (I1.hok a _ hob).1
  refine ⟨"tuple", id, PySem.F.plainAttrs_tuple, slot, hty, ⟨ob, hg, hc⟩, fun a' e' => ?_, ?_⟩
  · cases e'
    exact ⟨ob, hg, hd⟩
  · have run := ha.run cpos pins s1 σ H1 _ I1 q1
    rw [hs] at run ⊢
    refine Calls.callWith_builtin ?_ (Calls.evalArgs_plain (thn run ?_))
    · show (false || (backTo cpos (starEach es X.env)).any (·.1)) = false
      rw [hplain]
      rfl
    · rintro us s2 ⟨vs, H2, I2, r2, q2⟩
      exact hm pins s2 σ H2 (.ref a) vs (.ref a) us Q I2 rfl r2 q2
/-! ### sums and slices of tuples, their object left open -/
def rCatU (K : PySem.W.Frag) : R2 := fun x y H Q => ∃ a b xs ys, x = .ref a ∧ y = .ref b ∧ SqT K H a xs ∧ SqT K H b ys ∧ xs.length + ys.length ≤ sizeLine ∧
  ∀ u H', Same H H' → SqT K H' u (xs ++ ys) → Q (.ref u) H'
theorem op_catU {X : Cx} : OpR X (binaryOp .Add) (rCatU X.K) := by
  intro pins s σ H x y v u Q I rx ry h
  obtain ⟨a, b, xs, ys, rfl, rfl, ha, hb, hl, q⟩ := h
  refine op_catA pins s σ H _ _ v u Q I rx ry ⟨a, b, xs, ys, rfl, rfl, ha, hb, hl, fun e => ?_, fun _ e => ?_, fun _ _ p hp => ?_⟩
  · subst e
    exact q _ _ (Same.refl H) hb
  · subst e
    refine q _ _ (Same.refl H) ?_
    rw [List.append_nil]
    exact ha
  · exact q _ _ (same_new hp) (.inl (.inl upd_same))
theorem cutV_whole {xs : List V} {lo hi : Option Int} (h : HT.sIx xs.length 0 lo = 0 ∧ HT.sIx xs.length xs.length hi = xs.length) : cutV xs lo hi = xs := by
  unfold cutV
  rw [h.1, h.2]
  simp
def rSlU (K : PySem.W.Frag) : V → Option Int → Option Int → Hp → VK → Prop := fun x lo hi H Q => ∃ a xs, x = .ref a ∧ SqT K H a xs ∧ ∀ u H', Same H H' → SqT K H' u (cutV xs lo hi) → Q (.ref u) H'
theorem sl_tupU {X : Cx} : SlR X (rSlU X.K) := by
  intro pins s σ H x v vl vu lo hi sl Q I rx hs pl pu h
  obtain ⟨a, xs, rfl, ha, q⟩ := h
  refine sl_tupA pins s σ H _ v vl vu lo hi sl Q I rx hs pl pu ⟨a, xs, rfl, ha, fun e => ?_, fun _ p hp => ?_⟩
  · refine q _ _ (Same.refl H) ?_
    rw [cutV_whole e]
    exact ha
  · exact q _ _ (same_new hp) (.inl (.inl upd_same))
end Kb
namespace Kb
open PySem PySem.Spec PyProof.Rows L2
/-! ### t[::-1] of a tuple -/
section
variable {prog : Program} {w : World} {A : Around} {E : Value → Shared → Prop} {s : Shared}
theorem applied_rev {sl : Addr} {vl vu vs : Value} {n : Nat} {Q : Int × Int × Nat → Shared → Prop} (hs : s.heap.IsSliceOf sl vl vu vs) (pl : IsPart vl none) (pu : IsPart vu none) (ps : IsPart vs (some (-1)))
    (h : Q ((n : Int) - 1, -1, n) s) : wpAny (model prog w) A (Builtin.Slice.sliceApplied (.ref sl) (pure (n : Int))) Q E s := by
  obtain ⟨os, hos, hcs, hds⟩ := id hs
  unfold Builtin.Slice.sliceApplied Builtin.Slice.sliceFields
  have pn : Builtin.Slice.slicePlaces ((n : Int) - 1) (-1) (-1) = n := by
    unfold Builtin.Slice.slicePlaces
    rw [if_neg (by decide)]
    by_cases c : n = 0
    · subst c
      decide
    · rw [if_pos (by omega)]
      have : ((n : Int) - 1 - -1 - 1) / (- -1) = (n : Int) - 1 := by
        rw [Int.neg_neg, Int.ediv_one]
        omega
      rw [this]
      omega
  apply wpAny_bind
  apply wpAny_bind
  refine wpAny_field hos hds (x := vl) rfl ?_
  apply wpAny_bind
  refine wpAny_field hos hds (x := vu) rfl ?_
  apply wpAny_bind
  refine wpAny_field hos hds (x := vs) rfl (wpAny_pure ?_)
  apply wpAny_bind
  refine HT.slicePart_ ps ?_
  show wpAny _ _ (if ((-1 : Int) == 0) = true then _ else _) _ _ s
  rw [if_neg (by decide)]
  apply wpAny_bind
  refine HT.slicePart_ pl ?_
  apply wpAny_bind
  refine HT.slicePart_ pu ?_
  apply wpAny_bind
  refine wpAny_pure ?_
  show wpAny _ _ (pure ((n : Int) - 1, (-1 : Int), Builtin.Slice.slicePlaces ((n : Int) - 1) (-1) (-1))) _ _ s
  rw [pn]
  exact wpAny_pure h
theorem fm_congr {α β : Type} {f g : α → Option β} : ∀ {l : List α}, (∀ x ∈ l, f x = g x) → l.filterMap f = l.filterMap g
  | [], _ => rfl
  | x :: l, h => by
    rw [List.filterMap_cons, List.filterMap_cons, h x List.mem_cons_self, fm_congr (fun y hy => h y (List.mem_cons_of_mem _ hy))]
theorem pick_rev (xs : Array Value) : ((List.range xs.size).filterMap fun (m : Nat) => xs[(((xs.size : Int) - 1) + (m : Int) * (-1)).toNat]?) = xs.toList.reverse := by
  have e : (List.range xs.size).filterMap (fun (m : Nat) => xs[(((xs.size : Int) - 1) + (m : Int) * (-1)).toNat]?) = (List.range xs.size).filterMap (fun m => xs.toList.reverse[m]?) := by
    refine fm_congr (fun m hm => ?_)
    have hm := List.mem_range.mp hm
    have hi : (((xs.size : Int) - 1) + (m : Int) * (-1)).toNat = xs.size - 1 - m := by omega
    rw [hi, List.getElem?_reverse (by rw [Array.length_toList]; exact hm), Array.length_toList, Array.getElem?_toList]
  rw [e]
  have len : xs.size = xs.toList.reverse.length := by rw [List.length_reverse, Array.length_toList]
  rw [len]
  generalize xs.toList.reverse = l
  apply List.ext_getElem?
  intro i
  clear e len
  induction l generalizing i with
  | nil => rfl
  | cons x r ih =>
    rw [List.length_cons, List.range_succ_eq_map, List.filterMap_cons]
    show (x :: ((List.range r.length).map Nat.succ).filterMap fun m => (x :: r)[m]?)[i]? = (x :: r)[i]?
    rw [List.filterMap_map]
    cases i with
    | zero => rfl
    | succ i => exact ih i
theorem getItem_tuple_rev {t sl : Addr} {items : Array Value} {vl vu vs : Value} {Q : Value → Shared → Prop} (ht : IsTup s.heap t items) (hs : s.heap.IsSliceOf sl vl vu vs) (pl : IsPart vl none) (pu : IsPart vu none) (ps : IsPart vs (some (-1)))
    (h : Q (.ref s.heap.objs.size) { s with heap := s.heap.push { cls := .type "tuple", data := .seq items.toList.reverse.toArray } })
    (hsz : items.size ≤ sizeLine) : wpAny (model prog w) A (getItem (.ref t) (.ref sl)) Q E s := by
  have fits : sizeOk (.seq items.toList.reverse.toArray) := by
    show items.toList.reverse.toArray.size ≤ sizeLine
    rw [List.size_toArray, List.length_reverse, Array.length_toList]
    exact hsz
  obtain ⟨os, hos, hcs, hds⟩ := id hs
  have hTs : s.TypeIs (.ref sl) "slice" := ⟨os, hos, hcs⟩
  unfold getItem
  try with_reducible refine wpAny_holding ?_
  first | refine wpAny_bind (wpAny_pure ?_) | skip
  apply wpAny_bind
  refine wpAny_sequenceKey ht.typeIs (by decide) ?_
  apply wpAny_bind
  refine wpAny_callSpecial?_slot (name := Str.ofString "__getitem__") ht.typeIs PyProof.Rows.slot_tuple_getitem ?_
  refine wpAny_call_entry PyProof.Rows.slot_tuple_getitem ht.typeIs entry_tuple_getitem ?_ (args_tuple_getitem _ _)
  show wpAny _ _ (Builtin.Tuple.tupleItemsOf (.ref t) >>= _) _ _ s
  apply wpAny_bind
  refine tupleItemsOf_ ht ?_
  apply wpAny_bind
  refine wpAny_typeOf hTs ?_
  rw [if_pos (by decide)]
  apply wpAny_bind
  refine applied_rev hs pl pu ps ?_
  have hno : ¬ ((((items.size : Int) - 1) == 0 && (-1 : Int) == 1 && items.size == items.size) = true) := by
    rw [show ((-1 : Int) == 1) = false from by decide, Bool.and_false, Bool.false_and]
    exact Bool.false_ne_true
  show wpAny _ _ (if (((items.size : Int) - 1) == 0 && (-1 : Int) == 1 && items.size == items.size) = true then _ else _) _ _ s
  rw [if_neg hno, pick_rev]
  first
    | exact wpAny_bind (m := Builtin.Tuple.tupleExact _) (wpAny_newObj_type (wpAny_pure ⟨_, rfl, wpAny_pure h⟩) fits)
    | exact wpAny_bind (m := Builtin.Tuple.tupleExact _) (wpAny_newObj_type (wpAny_bind (wpAny_pure (wpAny_pure ⟨_, rfl, wpAny_pure h⟩))) fits)
    | exact wpAny_bind (wpAny_bind (m := Builtin.Tuple.tupleExact _) (wpAny_newObj_type (wpAny_pure (wpAny_pure ⟨_, rfl, wpAny_pure h⟩)) fits))
    | exact wpAny_bind (wpAny_bind (m := Builtin.Tuple.tupleExact _) (wpAny_newObj_type (wpAny_pure ⟨_, rfl, wpAny_pure h⟩) fits))
end
def tRevT (K : PySem.W.Frag) (te : TE) : TE := fun σ H Q => te σ H fun x H1 => ∃ a xs, x = .ref a ∧ SqT K H1 a xs ∧
  ∀ (p : Addr) (o : Obj), H1 p = none → o.cls = .type "tuple" → o.dict = none → Q (.ref p) (upd H1 p (.frz o (.tup xs.reverse)))
theorem pe_revT {X : Cx} {e : Expr} {te : TE} {k : Nat} {p1 p2 p3 pos : Pos} (he : PE X e te) :
    PE X (.Subscript e (.Slice none none (some (.UnaryOp .USub (.Constant (.int 1) k p1) p2)) p3) pos) (tRevT X.K te) := by
  constructor
  intro pins s σ H Q I h
  refine Subscript_ (thn (he.run pins s σ H _ I h) ?_)
  rintro v s1 ⟨x, H1, I1, r1, a, xs, rfl, hx, q⟩
  cases r1
  have minus : PO X (some (.UnaryOp .USub (.Constant (.int 1) k p1) p2)) (tPart (tUn (rU fun i => .int (-i)) (tC (.int 1)))) := po_some (pe_un un_neg pe_int)
  refine wpAny_Slice (thn (po_none.run pins s1 σ H1 (fun o H2 => o = none ∧ H2 = H1) I1 ⟨rfl, rfl⟩) ?_)
  rintro vl s2 ⟨l, H2, I2, pl, rfl, rfl⟩
  refine thn (po_none.run pins s2 σ H2 (fun o H3 => o = none ∧ H3 = H2) I2 ⟨rfl, rfl⟩) ?_
  rintro vu s3 ⟨u, H3, I3, pu, rfl, rfl⟩
  refine thn (minus.run pins s3 σ H3 (fun o H4 => o = some (-1) ∧ H4 = H3) I3 ⟨1, rfl, -1, rfl, rfl, rfl⟩) ?_
  rintro vs s4 ⟨o, H4, I4, ps, rfl, rfl⟩
  have I5 : Inv X pins σ H4 { s4 with heap := s4.heap.push { cls := .type "slice", data := .fields #[vl, vu, vs] } } := I4.kept (t' := s4.toks) (fun b ob q => Heap.get?_push_of_some _ q)
  obtain ⟨its, r, ht, hz⟩ := I5.tuple hx
  have hlen := r.length
  show wpAny (model X.prog X.w) X.A (subscriptTail e (.Slice none none (some (.UnaryOp .USub (.Constant (.int 1) k p1) p2)) p3) (.ref a) (.ref s4.heap.objs.size)) (EP X pins σ Q) X.xe _
  refine tail_any (ops := [.ref a, .ref s4.heap.objs.size]) ht.typeIs (PyProof.Rows.slot_tuple_getitem.lookup) ?_ (by with_unfolding_all rfl)
  refine getItem_tuple_rev ht (Heap.IsSliceOf.new _ vl vu vs) pl pu ps ?_ (by rw [List.size_toArray]; omega)
  generalize hh : ({ s4 with heap := s4.heap.push { cls := .type "slice", data := .fields #[vl, vu, vs] } } : Shared) = s5 at I5
  rw [List.toList_toArray]
  have new : ObjOk X.prog X.w (upd H4 s5.heap.objs.size (.frz { cls := .type "tuple", data := .seq its.reverse.toArray } (.tup xs.reverse))) (s5.heap.push { cls := .type "tuple", data := .seq its.reverse.toArray }) s5.heap.objs.size
      (.frz { cls := .type "tuple", data := .seq its.reverse.toArray } (.tup xs.reverse)) := ⟨Heap.get?_push_size _ rfl, by rw [List.length_reverse]; exact hz, its.reverse, r.reverse, IsTup.new _ _⟩
  have I6 := I5.laid (t' := s5.toks) (fun b o e => Heap.get?_push_of_some _ e) (Nat.le_refl _) new
  exact ⟨.ref s5.heap.objs.size, _, I6, rfl, q _ _ (I5.hok.fresh (Nat.le_refl _)) rfl rfl⟩
/-! ### tuple(range(..)), its object told -/
def tTupRgF (te : L2.St → Hp → (Int → Int → Hp → Prop) → Prop) : TE := fun σ H Q => te σ H fun a b H1 => RgOk a b ∧
  ∀ (q : Addr) (o : Obj), H1 q = none → o.cls = .type "tuple" → o.dict = none → Q (.ref q) (upd H1 q (.frz o (.tup (rgV a b))))
theorem pe_tupRgF {X : Cx} {e : Expr} {te : L2.St → Hp → (Int → Int → Hp → Prop) → Prop} {p pos : Pos} (hc : X.calm = true) (hg : Gl X "tuple") (hm : X.mg "tuple" = none) (he : PRg X e te)
    (na : starEach [e] X.env = (false, eval e X.env) :: starEach [] X.env := by rfl) : PE X (.Call (.Name "tuple" p) [e] [] pos) (tTupRgF te) := by
  constructor
  intro pins s σ H Q I h
  have run := he pins s σ H _ I h
  refine Call_ (ld_blt I hg hm boot_tuple (PyProof.Rows.callWith_type1 (args_cons (thn run ?_) na) na))
  rintro x s1 ⟨r, a, b, t, u, v, H1, ex, hr, I1, ok, q⟩
  refine args_nil ?_
  subst ex
  obtain ⟨b1, b2, b3, b4, b5⟩ := ok
  refine call_tuple_range (n := (b - a).toNat) (I1.ok.hd hc) hr (small_one b1 b2 b3 b4) (rangeSize_nat a b) b5 (fun h' tk acc hk hi => ?_)
  have I2 : Inv X pins σ H1 { s1 with heap := h', toks := tk } := I1.kept hk
  have new : ObjOk X.prog X.w (upd H1 h'.objs.size (.frz { cls := .type "tuple", data := .seq acc } (.tup (rgV a b)))) (h'.push { cls := .type "tuple", data := .seq acc }) h'.objs.size
      (.frz { cls := .type "tuple", data := .seq acc } (.tup (rgV a b))) := by
    refine ⟨Heap.get?_push_size _ rfl, ?_, acc.toList, vals_rg hi, ?_⟩
    · rw [rgV_length, sizeLine_eq]
      omega
    · rw [Array.toArray_toList]
      exact IsTup.new _ _
  have I3 := I2.laid (t' := tk) (fun c o e => Heap.get?_push_of_some _ e) (Nat.le_refl _) new
  exact ⟨.ref h'.objs.size, _, I3, rfl, q _ _ (I2.hok.fresh (Nat.le_refl _)) rfl rfl⟩
theorem rgV_pl (n : Nat) : rgV 0 (n : Int) = plV (List.range n) := by
  unfold rgV plV
  rw [Int.sub_zero, Int.toNat_natCast]
  refine List.map_congr_left (fun i _ => ?_)
  rw [Int.zero_add]
theorem plV_rev (r : List Nat) : (plV r).reverse = plV r.reverse := by
  unfold plV
  rw [List.map_reverse]
end Kb
namespace Kb
open PySem PySem.Spec PyProof.Rows L2
/-! ### zip of two sources: texts, lists, tuples in any mix -/
inductive Sr
  | t (z : Str)
  | l (a : Addr)
  | u (a : Addr)
def sgV (c : Nat) : V := .str ⟨#[c]⟩
namespace Sr
def v : Sr → V
  | .t z => .str z
  | .l a => .ref a
  | .u a => .ref a
def has (K : PySem.W.Frag) (H : Hp) : Sr → List V → Prop
  | .t z => fun xs => xs = z.cps.toList.map sgV
  | .l a => fun xs => SqL K H a xs
  | .u a => fun xs => SqT K H a xs
def it (tk : Tok) (p : Addr) (i : Nat) (h : Heap) : Sr → Prop
  | .t z => h.IsStrIter p (strIterType z) z tk i
  | .l a => h.IsListIter p a i
  | .u a => h.IsTupleIter p a i
def off (q : Addr) : Sr → Prop
  | .t _ => True
  | .l a => a ≠ q
  | .u a => a ≠ q
theorem it_at {tk : Tok} {p : Addr} {i : Nat} {h h' : Heap} : ∀ {r : Sr}, r.it tk p i h → (∀ o, h.get? p = some o → h'.get? p = some o) → r.it tk p i h'
  | .t z, ⟨o, ho, q⟩, k => ⟨o, k o ho, q⟩
  | .l a, st, k => Heap.IsListIter.at st k
  | .u a, st, k => Heap.IsTupleIter.at st k
theorem it_obj {tk : Tok} {p : Addr} {i : Nat} {h : Heap} : ∀ {r : Sr}, r.it tk p i h → ∃ o, h.get? p = some o ∧ ∀ v, o.data ≠ .cell v
  | .t z, ⟨o, ho, _, d⟩ => ⟨o, ho, fun v q => by rw [d] at q; cases q⟩
  | .l a, ⟨o, ho, _, d⟩ => ⟨o, ho, fun v q => by rw [d] at q; cases q⟩
  | .u a, ⟨o, ho, _, d⟩ => ⟨o, ho, fun v q => by rw [d] at q; cases q⟩
/-- what its iterator draws -/
theorem draws {X : Cx} {pins : List (Addr × Obj)} {σ : L2.St} {H : Hp} {s : Shared} (I : Inv X pins σ H s) (hh : X.A.in1.handled = none) {r : Sr} {xs : List V} {tk : Tok} {p : Addr} {i : Nat} (hx : r.has X.K H xs) (hp : r.off p) (st : r.it tk p i s.heap) :
    ∃ (fp : List Addr) (Pr : Nat → Value → Prop) (St : Nat → Heap → Prop), Draws X.prog X.w X.A.in1 p fp xs.length Pr St ∧ St i s.heap ∧ p ∈ fp ∧ (∀ q, q ≠ p → r.off q → q ∉ fp) ∧
      (∀ j u, Pr j u → ∃ x, xs[j]? = some x ∧ RelV x u) ∧ ∀ j h, St j h → r.it tk p j h := by
  cases r with
  | t z =>
    have e : xs = z.cps.toList.map sgV := hx
    have n : xs.length = z.cps.size := by rw [e, List.length_map, Array.length_toList]
    refine ⟨_, _, _, by rw [n]; exact Draws.text hh p z tk, st, by simp, fun q h1 _ h2 => h1 (by simpa using h2), fun j u hj => ?_, fun j h q => q⟩
    obtain ⟨c, t', hc, rfl⟩ := hj
    refine ⟨sgV c, ?_, t', rfl⟩
    rw [e, List.getElem?_map, Array.getElem?_toList, hc]
    rfl
  | l a =>
    obtain ⟨its, rv, pl, _⟩ := I.list (show SqL X.K H a xs from hx)
    have n : xs.length = its.toArray.size := by rw [List.size_toArray]; exact rv.length
    refine ⟨[p, a], fun i v => its.toArray[i]? = some v, fun i h => h.IsListIter p a i ∧ h.IsList a its.toArray, by rw [n]; exact Draws.list hh p a hp its.toArray, ⟨st, pl.isList⟩, by simp, fun q h1 h2 h3 => ?_, fun j u hj => ?_, fun j h q => q.1⟩
    · simp only [List.mem_cons, List.not_mem_nil, or_false] at h3
      rcases h3 with e | e
      · exact h1 e
      · exact h2 e.symm
    · have hj' : its[j]? = some u := by simpa using hj
      have lt : j < xs.length := by
        have := (List.getElem?_eq_some_iff.mp hj').1
        have := rv.length
        omega
      obtain ⟨u2, h2, r2⟩ := rv.get (List.getElem?_eq_getElem lt)
      rw [hj'] at h2
      cases h2
      exact ⟨_, List.getElem?_eq_getElem lt, r2⟩
  | u a =>
    obtain ⟨its, rv, pl, _⟩ := I.tuple (show SqT X.K H a xs from hx)
    have n : xs.length = its.toArray.size := by rw [List.size_toArray]; exact rv.length
    refine ⟨[p, a], fun i v => its.toArray[i]? = some v, fun i h => h.IsTupleIter p a i ∧ h.IsTuple a its.toArray, by rw [n]; exact Draws.tuple hh p a hp its.toArray, ⟨st, pl⟩, by simp, fun q h1 h2 h3 => ?_, fun j u hj => ?_, fun j h q => q.1⟩
    · simp only [List.mem_cons, List.not_mem_nil, or_false] at h3
      rcases h3 with e | e
      · exact h1 e
      · exact h2 e.symm
    · have hj' : its[j]? = some u := by simpa using hj
      have lt : j < xs.length := by
        have := (List.getElem?_eq_some_iff.mp hj').1
        have := rv.length
        omega
      obtain ⟨u2, h2, r2⟩ := rv.get (List.getElem?_eq_getElem lt)
      rw [hj'] at h2
      cases h2
      exact ⟨_, List.getElem?_eq_getElem lt, r2⟩
theorem inj {X : Cx} {pins : List (Addr × Obj)} {σ : L2.St} {H : Hp} {s : Shared} (I : Inv X pins σ H s) : ∀ {r : Sr} {xs ys : List V}, r.has X.K H xs → r.has X.K H ys → xs = ys
  | .t z, _, _, h1, h2 => by
    have e1 : _ = z.cps.toList.map sgV := h1
    have e2 : _ = z.cps.toList.map sgV := h2
    rw [e1, e2]
  | .l a, _, _, h1, h2 => I.list_inj h1 h2
  | .u a, _, _, h1, h2 => I.tuple_inj h1 h2
/-- how it begins -/
theorem begins {X : Cx} {pins : List (Addr × Obj)} {σ : L2.St} {H : Hp} {s : Shared} (I : Inv X pins σ H s) {r : Sr} {xs : List V} {u : Value} (hx : r.has X.K H xs) (ru : RelV r.v u) :
    ∃ (o : Obj) (B : Heap → Prop) (tk : Tok), Begins u o B ∧ B s.heap ∧ (∀ p h, h.get? p = some o → r.it tk p 0 h) ∧ ∀ q, s.heap.objs.size ≤ q → r.off q := by
  cases r with
  | t z =>
    obtain ⟨tk, rfl⟩ := ru
    exact ⟨_, _, tk, begins_text z tk, trivial, fun p h e => ⟨_, e, rfl, rfl⟩, fun _ _ => trivial⟩
  | l a =>
    obtain ⟨its, rv, pl, _⟩ := I.list (show SqL X.K H a xs from hx)
    cases (show u = Value.ref a from ru)
    exact ⟨_, _, 0, begins_list a its.toArray, pl.isList, fun p h e => ⟨_, e, rfl, rfl⟩, fun q h e => Nat.ne_of_lt (Nat.lt_of_lt_of_le pl.lt h) e⟩
  | u a =>
    obtain ⟨its, rv, pl, _⟩ := I.tuple (show SqT X.K H a xs from hx)
    cases (show u = Value.ref a from ru)
    refine ⟨_, _, 0, begins_tuple a its.toArray, pl, fun p h e => ⟨_, e, rfl, rfl⟩, fun q h e => ?_⟩
    obtain ⟨o, ho, _⟩ := pl
    exact Nat.ne_of_lt (Nat.lt_of_lt_of_le (Heap.lt_size ho) h) e
end Sr
def ItzS (K : PySem.W.Frag) (r1 r2 : Sr) : It where
  go := fun i H => ∃ xs ys x y, r1.has K H xs ∧ r2.has K H ys ∧ xs[i]? = some x ∧ ys[i]? = some y
  yld := fun i H v H' => ∃ T x y, v = .ref T ∧ H T = none ∧ H' = upd H T (.tup [x, y]) ∧ (∀ xs, r1.has K H xs → xs[i]? = some x) ∧ ∀ ys, r2.has K H ys → ys[i]? = some y
  stop := fun i H => ∃ xs ys, r1.has K H xs ∧ r2.has K H ys ∧ i ≤ xs.length ∧ i ≤ ys.length ∧ (i = xs.length ∨ i = ys.length)
structure Far (r1 r2 : Sr) (z TI TO p1 p2 : Addr) : Prop where
  n1 : TI ≠ z
  n2 : TO ≠ z
  n3 : TI ≠ TO
  n4 : TI ≠ p1
  n5 : TI ≠ p2
  n6 : z ≠ p1
  n7 : z ≠ p2
  n8 : TO ≠ p1
  n9 : TO ≠ p2
  n10 : p1 ≠ p2
  o1 : ∀ q ∈ [z, TO, p1, p2], r1.off q
  o2 : ∀ q ∈ [z, TO, p1, p2], r2.off q
theorem Far.sep {r1 r2 : Sr} {z TI TO p1 p2 : Addr} (F : Far r1 r2 z TI TO p1 p2) {fp1 fp2 : List Addr} (m1 : p1 ∈ fp1) (m2 : p2 ∈ fp2) (a1 : ∀ q, q ≠ p1 → r1.off q → q ∉ fp1) (a2 : ∀ q, q ≠ p2 → r2.off q → q ∉ fp2) :
    ZipSep2 z TI TO p1 p2 fp1 fp2 :=
  ⟨F.n1, F.n2, F.n3, F.n4, m1, a1 _ F.n6 (F.o1 _ (by simp)), a1 _ F.n8 (F.o1 _ (by simp)), F.n5, m2, a2 _ F.n7 (F.o2 _ (by simp)), a2 _ F.n9 (F.o2 _ (by simp)), a2 _ F.n10 (F.o2 _ (by simp)), a1 _ F.n10.symm (F.o1 _ (by simp))⟩
theorem turnZS {P : Program} {w : World} {K : PySem.W.Frag} {elts : List Expr} {kk : Nat} {tpos : Pos} {r1 r2 : Sr} {z TI TO p1 p2 : Addr} {t1 t2 : Tok} (F : Far r1 r2 z TI TO p1 p2) :
    Turn P w K (.Tuple elts kk tpos) (ItzS K r1 r2) [z, TI, TO, p1, p2] z (fun i h => IsZip h z TI TO .none ∧ IsTupOf2 h TI (.ref p1) (.ref p2) ∧ (∃ x y, IsTupOf2 h TO x y) ∧ r1.it t1 p1 i h ∧ r2.it t2 p2 i h) := by
  constructor
  · simp
  · rintro i h ⟨hz, hTI, ⟨x, y, hTO⟩, s1, s2⟩ c hc
    have e' : c = z ∨ c = TI ∨ c = TO ∨ c = p1 ∨ c = p2 := by simpa using hc
    rcases e' with rfl | rfl | rfl | rfl | rfl
    · exact ⟨_, hz, fun v q => nomatch q⟩
    · exact ⟨_, hTI, fun v q => nomatch q⟩
    · exact ⟨_, hTO, fun v q => nomatch q⟩
    · exact Sr.it_obj s1
    · exact Sr.it_obj s2
  · rintro i h h' ⟨hz, hTI, ⟨x, y, hTO⟩, s1, s2⟩ k
    exact ⟨k _ (by simp) _ hz, k _ (by simp) _ hTI, ⟨x, y, k _ (by simp) _ hTO⟩, Sr.it_at s1 (fun o q => k _ (by simp) o q), Sr.it_at s2 (fun o q => k _ (by simp) o q)⟩
  · intro X hP hw hK hc i pins s σ H E I hf st hg
    subst hP hw hK
    obtain ⟨hz, hTI, ⟨x0, y0, hTO⟩, s1, s2⟩ := st
    obtain ⟨xs, ys, x, y, hqx, hqy, hx, hy⟩ := hg
    obtain ⟨fp1, P1, S1, D1, d1, m1, a1, e1, f1⟩ := Sr.draws I (I.ok.hd hc) hqx (F.o1 _ (by simp)) s1
    obtain ⟨fp2, P2, S2, D2, d2, m2, a2, e2, f2⟩ := Sr.draws I (I.ok.hd hc) hqy (F.o2 _ (by simp)) s2
    have l1 := (List.getElem?_eq_some_iff.mp hx).1
    have l2 := (List.getElem?_eq_some_iff.mp hy).1
    have hzl : z < s.heap.objs.size := Heap.lt_size hz
    refine wpAny_pyNext_zipD2_item (F.sep m1 m2 a1 a2) D1 D2 hz hTI hTO d1 d2 l1 l2 (fun u1 u2 h' tk y1 y2 z' TO' s1' s2' hT hsz hk => ?_)
    obtain ⟨x', hx', ru⟩ := e1 _ _ y1
    obtain ⟨y', hy', ru2⟩ := e2 _ _ y2
    rw [hx] at hx'
    rw [hy] at hy'
    cases hx'
    cases hy'
    refine ⟨_, rfl, wpAny_letOwnedTupleGo_zip (s := { s with heap := h', toks := tk }) z' (fun h2 z2 sb => ?_)⟩
    have hT2 : h2.get? s.heap.objs.size = some { cls := .type "tuple", data := .seq #[u1, u2] } := (sb.2 _ (Nat.ne_of_gt hzl)).trans hT
    have new : ObjOk X.prog X.w (upd H s.heap.objs.size (.tup [x, y])) h2 s.heap.objs.size (.tup [x, y]) :=
      ⟨by show 2 ≤ sizeLine; decide, [u1, u2], .cons ru (.cons ru2 .nil), ⟨_, hT2, rfl, _, rfl⟩⟩
    have I1 : Inv X pins σ (upd H s.heap.objs.size (.tup [x, y])) { s with heap := h2, toks := tk } := by
      refine I.turnedNew (ch := [z, TI, TO, p1, p2]) (fun c o hb q => ?_) hf (Nat.le_refl _) new
      simp only [List.mem_cons, List.not_mem_nil, or_false, not_or] at hb
      exact (sb.2 c hb.1).trans (hk c o hb.1 hb.2.2.1 hb.2.2.2.1 hb.2.2.2.2 q)
    refine ⟨.ref s.heap.objs.size, _, I1, rfl, ⟨_, x, y, rfl, I.hok.fresh (Nat.le_refl _), rfl, fun l hl => by rw [Sr.inj I hl hqx]; exact hx, fun l hl => by rw [Sr.inj I hl hqy]; exact hy⟩, ⟨z2, ?_, ⟨u1, u2, ?_⟩, ?_, ?_⟩, fun c hcm => ?_⟩
    · exact (sb.2 _ F.n1).trans (hk _ _ F.n1 F.n3 F.n4 F.n5 hTI)
    · exact (sb.2 _ F.n2).trans TO'
    · exact Sr.it_at (f1 _ _ s1') (fun o q => (sb.2 _ F.n6.symm).trans q)
    · exact Sr.it_at (f2 _ _ s2') (fun o q => (sb.2 _ F.n7.symm).trans q)
    · have hlt : c < s.heap.objs.size := by
        have e' : c = z ∨ c = TI ∨ c = TO ∨ c = p1 ∨ c = p2 := by simpa using hcm
        rcases e' with rfl | rfl | rfl | rfl | rfl
        · exact hzl
        · exact Heap.lt_size hTI
        · exact Heap.lt_size hTO
        · obtain ⟨_, q, _⟩ := Sr.it_obj s1
          exact Heap.lt_size q
        · obtain ⟨_, q, _⟩ := Sr.it_obj s2
          exact Heap.lt_size q
      rw [upd_ne (Nat.ne_of_lt hlt)]
      exact (hf c hcm).1
  · intro X hP hw hK hc i pins s σ H E I hf st hg
    subst hP hw hK
    obtain ⟨hz, hTI, ⟨x0, y0, hTO⟩, s1, s2⟩ := st
    obtain ⟨xs, ys, hqx, hqy, le1, le2, hend⟩ := hg
    obtain ⟨fp1, P1, S1, D1, d1, m1, a1, e1, f1⟩ := Sr.draws I (I.ok.hd hc) hqx (F.o1 _ (by simp)) s1
    obtain ⟨fp2, P2, S2, D2, d2, m2, a2, e2, f2⟩ := Sr.draws I (I.ok.hd hc) hqy (F.o2 _ (by simp)) s2
    refine wpAny_pyNext_zipD2_end (F.sep m1 m2 a1 a2) D1 D2 hz hTI hTO d1 d2 le1 le2 hend (fun h' tk hk => ⟨rfl, I.turnedL (ch := [z, TI, TO, p1, p2]) (fun c o hb q => ?_) hf⟩)
    simp only [List.mem_cons, List.not_mem_nil, or_false, not_or] at hb
    exact hk c o hb.1 hb.2.2.1 hb.2.2.2.1 hb.2.2.2.2 q
  · rintro A i s Q E ⟨hz, _⟩ h
    exact wpAny_pyIter_zip hz h
theorem far_new {r1 r2 : Sr} (N : Nat) (f1 : ∀ q, N ≤ q → r1.off q) (f2 : ∀ q, N ≤ q → r2.off q) : Far r1 r2 (N + 4) (N + 2) (N + 3) N (N + 1) := by
  have ne : ∀ i j : Nat, i ≠ j → ¬ (N + i = N + j) := fun i j h e => by omega
  have o : ∀ q ∈ ([N + 4, N + 3, N, N + 1] : List Nat), N ≤ q := fun q hq => by
    simp only [List.mem_cons, List.not_mem_nil, or_false] at hq
    omega
  exact ⟨ne 2 4 (by decide), ne 3 4 (by decide), ne 2 3 (by decide), ne 2 0 (by decide), ne 2 1 (by decide), ne 4 0 (by decide), ne 4 1 (by decide), ne 3 0 (by decide), ne 3 1 (by decide), ne 0 1 (by decide), fun q hq => f1 q (o q hq), fun q hq => f2 q (o q hq)⟩
theorem le_new {N c : Nat} (h : c = N + 4 ∨ c = N + 2 ∨ c = N + 3 ∨ c = N ∨ c = N + 1) : N ≤ c := by omega
def iZipS (K : PySem.W.Frag) (ta : TA) : TI := fun σ H R => ta σ H fun vs H1 => ∃ r1 r2 xs ys, vs = [Sr.v r1, Sr.v r2] ∧ r1.has K H1 xs ∧ r2.has K H1 ys ∧ R (ItzS K r1 r2) H1
theorem pi_zipS {X : Cx} {e e2 : Expr} {ta : TA} {p pos tpos : Pos} {elts : List Expr} {kk : Nat} (hg : Gl X "zip") (hm : X.mg "zip" = none) (ha : PA X [e, e2] ta)
    (hs : starEach [e, e2] X.env = (false, eval e X.env) :: starEach [e2] X.env := by rfl) (hpl : (backTo pos (starEach [e2] X.env)).any (·.1) = false := by rfl) :
    PI X (.Tuple elts kk tpos) (.Call (.Name "zip" p) [e, e2] [] pos) (iZipS X.K ta) := by
  refine ⟨fun pins s σ H R I h => ?_⟩
  have run := ha.run pos pins s σ H _ I h
  refine Call_ (ld_blt I hg hm PyProof.Rows.boot_zip (PyProof.Rows.callWith_type1 (thn run ?_) hs hpl))
  rintro us s1 ⟨vs, H1, I1, rr, r1, r2, xs, ys, rfl, hqx, hqy, q⟩
  cases rr with
  | cons ra rr =>
    cases rr with
    | cons rb rr =>
      cases rr
      obtain ⟨o1, B1, t1, b1, c1, k1, f1⟩ := Sr.begins I1 hqx ra
      obtain ⟨o2, B2, t2, b2, c2, k2, f2⟩ := Sr.begins I1 hqy rb
      refine zip_begins2 b1 b2 c1 c2 (fun h' hz hTI hTO g1 g2 hsz hk => wpAny_pyIter_zip hz ?_)
      have F := far_new s1.heap.objs.size f1 f2
      refine ⟨_, _, _, _, H1, rfl, I1.kept (t' := s1.toks) hk, turnZS (t1 := t1) (t2 := t2) F, ⟨hz, hTI, ⟨_, _, hTO⟩, k1 _ _ g1, k2 _ _ g2⟩, fun c hcm => ?_, q⟩
      have hle : s1.heap.objs.size ≤ c := by
        simp only [List.mem_cons, List.not_mem_nil, or_false] at hcm
        exact le_new hcm
      exact I1.fpOk hle (I1.hok.fresh hle)
theorem walk_zipS {K : PySem.W.Frag} {r1 r2 : Sr} {xs ys : List V} {n : Nat} (hn : n = min xs.length ys.length) : Walk (ItzS K r1 r2) n (fun H => r1.has K H xs ∧ r2.has K H ys) (YPair (fun i => xs[i]?) (fun i => ys[i]?)) := by
  subst hn
  refine ⟨fun i _ hi q => ⟨xs, ys, xs[i]'(by omega), ys[i]'(by omega), q.1, q.2, List.getElem?_eq_getElem _, List.getElem?_eq_getElem _⟩, fun _ q => ⟨xs, ys, q.1, q.2, by omega, by omega, by omega⟩, fun i H v H' _ q y => ?_⟩
  obtain ⟨T, x, z, h1, h2, h3, h4, h5⟩ := y
  exact ⟨T, x, z, h1, h2, h3, h4 xs q.1, h5 ys q.2⟩
end Kb
namespace Kb
open PySem PySem.Spec PyProof.Rows L2
/-! ### min of a tuple of ints -/
theorem min_tupR {prog : Program} {w : World} {A : Around} {E : Value → Shared → Prop} {s : Shared} {l : Addr} {its : List Value} {ns : List Int} {Q : Value → Shared → Prop} (hh : A.handled = none) (hl : s.heap.IsTuple l its.toArray) (hi : IntsAre its ns) (hne : 0 < ns.length)
    (h : ∀ h' tk M t', (∀ b o, s.heap.get? b = some o → h'.get? b = some o) → M ∈ ns → (∀ a, a ∈ ns → M ≤ a) → Q (.int M t') { s with heap := h', toks := tk }) : wpAny (model prog w) A (call (.builtin "min") [.ref l]) Q E s := by
  obtain ⟨xs, e⟩ := hi.allInts.items
  have hn : numsOf (intItems xs).toList = ns := by rw [← e]; exact hi.numsOf
  rw [nums_intItems] at hn
  subst hn
  rw [e] at hl
  have hsz : 0 < xs.size := by simpa using hne
  have ll : l < s.heap.objs.size := by
    obtain ⟨o, ho, _⟩ := hl
    exact Heap.lt_size ho
  refine call_min_walk (wpAny_pyIter_tuple hl ?_)
  have keep : ∀ b o, s.heap.get? b = some o → (s.heap.push { cls := .type "tuple_iterator", data := .fields #[.ref l, .int 0 0] }).get? b = some o := fun b o q => Heap.get?_push_of_some _ q
  refine ⟨_, _, _, _, _, _, _, rfl, Walks.tuple (A := A.in1) hh s.heap.objs.size l (Nat.ne_of_lt ll) (intItems xs), ⟨⟨_, Heap.get?_push_size _ rfl, rfl, rfl⟩, hl.at (fun o q => keep _ _ q)⟩, fun b hb => ?_, by simpa [intItems] using hsz, CmpOf.ints_lt (numAt xs) (fun _ _ => intItems_at), fun v h' tk hP hk => ?_⟩
  · show b < (s.heap.push _).objs.size
    rw [Heap.size_push]
    simp only [List.mem_cons, List.not_mem_nil, or_false] at hb
    rcases hb with rfl | rfl
    · exact Nat.lt_succ_self _
    · exact Nat.lt_succ_of_lt ll
  · have hv : (intItems xs)[argBest (fun i j => decide (numAt xs i < numAt xs j)) (xs.size - 1)]? = some v := by simpa [intItems] using hP
    obtain ⟨t, rfl⟩ := intItems_at hv
    obtain ⟨h1, h2⟩ := argBest_lt (numAt xs) (xs.size - 1)
    refine h h' tk _ t (fun b o q => hk b o ?_ (keep b o q)) ?_ (fun a ha => ?_)
    · intro z
      have z : b = s.heap.objs.size := by simpa using z
      exact Nat.ne_of_lt (Heap.lt_size q) z
    · rw [numAt_eq]
      exact PySem.getD_mem (by rw [List.length_map, Array.length_toList]; omega)
    · obtain ⟨j, hj, rfl⟩ := mem_getD ha
      rw [List.length_map, Array.length_toList] at hj
      rw [← numAt_eq]
      exact h2 j (by omega)
def rMinT (K : PySem.W.Frag) : List V → Hp → VK → Prop := fun vs H Q => ∃ (a : Addr) (ns : List Int), vs = [V.ref a] ∧ SqT K H a (ns.map V.int) ∧ 0 < ns.length ∧ ∀ m, m ∈ ns → (∀ y, y ∈ ns → m ≤ y) → Q (.int m) H
theorem cr_minT {X : Cx} (hc : X.calm = true) : CallR X (.builtin "min") (rMinT X.K) := by
  intro pins s σ H vs us Q I r h
  obtain ⟨a, ns, rfl, hs, hne, q⟩ := h
  obtain ⟨its, rv, hl, _⟩ := I.tuple hs
  rw [Vals.ref1 r]
  refine min_tupR (I.ok.hd hc) hl rv.ints hne (fun h' tk m t' hk h1 h2 => ⟨.int _, H, I.kept hk, ⟨_, rfl⟩, q m h1 h2⟩)
end Kb
namespace Kp
open PySem PySem.Spec PyProof.Rows L2 Kb
def topS (i : Nat) : Stmt := PySem.Challenge.pw_tailranks_k42_whole_least_of_the_heads.main.body.getD i (.Pass ⟨0, 0, 0, 0⟩)
abbrev sPlace : Stmt := topS 3
abbrev sCheck : Stmt := topS 4
abbrev sRank : Stmt := topS 5
abbrev sOrder : Stmt := topS 7
abbrev sRanksOf : Stmt := topS 9
abbrev sCLen : Stmt := topS 11
abbrev sHeads : Stmt := topS 12
abbrev sStream : Stmt := topS 14
abbrev sDraw : Stmt := topS 15
abbrev sPick : Stmt := topS 16
abbrev sDrawn : Stmt := topS 17
abbrev sLaw : Stmt := topS 18
end Kp
namespace Kp
open PySem PySem.Spec PyProof.Rows L2 Kb
abbrev nStream : List Str := ["_law_script", "_law_cells", "_law_cell"]
theorem scStream : FnScope nStream ["_law_script"] (defScope sStream) := ⟨rfl, rfl, rfl, by decide +kernel, rfl, by decide +kernel, by decide +kernel⟩
section
variable {P : Program} {w : World} {K : PySem.W.Frag} {mg : Str → Option Value} {base : Heap}
def spStream (K : PySem.W.Frag) : Sp := fun vs H Q _ => ∃ (a : Addr) (ns : List Int), vs = [.ref a] ∧ SqL K H a (ns.map V.int) ∧ ns.length ≤ 63 ∧
  ∀ H' p b c, Same H H' → H p = none → H b = none → H c = none → Stm H' p b c 0 → Q (.ref p) H'
theorem ok_stream {f : Addr} {fd : FuncData} {k : Nat} (F : Fun K "_law_stream" "_law_stream" sStream f fd) (mAbs : mg "abs" = none) (mLen : mg "len" = none) :
    FnOk P w K mg base CX0 (k + 1) f fd ["_law_script"] (spStream K) := by
  refine F.ok scStream (fun vs H Q E h => ?_) (fun cdv A outer s H vs Q E hr h => ?_)
  · obtain ⟨a, ns, rfl, _⟩ := h
    rfl
  · obtain ⟨a, ns, rfl, hS, hlen, q⟩ := h
    refine ⟨_, pss_cons (ps_setLc (i := 1) (own := [("_law_cell", 2)]) (g := gName 2) (tt := tYes) rfl scStream.nd rfl rfl (sw_true rfl rfl rfl (by decide +kernel)) (pi_list (pv 0))
        (blkOk_by (N := nStream) (sc := defScope sStream) (by decide +kernel)) (fun _ _ _ _ _ => pg_name (i := 2) scStream.nd rfl (Or.inl rfl)) (fun _ _ _ _ _ => pts_nil)
        (fun _ _ _ _ _ => pe_callB call_abs (by rfl) mAbs (by decide +kernel) (pa_cons (pv 2) pa_nil)))
      (pss_one (ps_ret (pe_lst (pa_cons (pe_lc (own := [("_law_cell", 2)]) (g := gName 2) rfl scStream.nd (pi_list (pv 1)) (blkOk_by (N := nStream) (sc := defScope sStream) (by decide +kernel))
          (fun _ _ _ _ _ => pg_name (i := 2) scStream.nd rfl (Or.inl rfl)) (fun _ _ _ _ _ => pts_one (pt_cmpR op_ge (pv 2) (pe_op op_pow pe_int pe_int) (nomark _))) (fun _ _ _ _ _ => pv 2))
        (pa_cons (pe_op op_cat (pv 1) (pe_lst (pa_cons (pe_op op_add (pe_callB call_len_seq (by rfl) mLen PySem.boot_len (pa_cons (pv 1) pa_nil)) pe_int) pa_nil))) (pa_cons pe_int pa_nil)))))), ?_⟩
    refine ⟨.ref a, rfl, a, rfl, ⟨_, hS⟩, fun D hD => lc_list (K := K) (a := a) (xs := ns.map V.int)
      (fun i H' => ∃ l : List Int, Same H H' ∧ H' D = some (.lst (l.map V.int)) ∧ l.length = i) ⟨[], same_new hD, upd_same, rfl⟩ (fun i H' _ h => ?_) (fun i x H' hx h => ?_) (fun H1 h => ?_)⟩
    · obtain ⟨l, h1, _⟩ := h
      exact h1.seq hS
    · obtain ⟨l, h1, h2, h3⟩ := h
      rw [List.getElem?_map] at hx
      obtain ⟨z, hz, rfl⟩ := Option.map_eq_some_iff.mp hx
      refine ⟨rfl, .int z, rfl, z, rfl, l.map V.int, h2, ?_, ?_⟩
      · rw [List.length_map, h3]
        have := (List.getElem?_eq_some_iff.mp hz).1
        exact small1000 (by omega)
      · refine ⟨l ++ [_], fun b o e => ?_, by rw [upd_same, List.map_append]; rfl, by rw [List.length_append, h3]; rfl⟩
        have nb : b ≠ D := ne_of_none e hD
        rw [upd_ne nb]
        exact h1 _ _ e
    · obtain ⟨l, sm, eD, el⟩ := h
      rw [List.length_map] at el
      refine ⟨.ref D, rfl, D, rfl, ⟨_, .inl (.inl eD)⟩, fun B hB => lc_list (K := K) (a := D) (xs := l.map V.int)
        (fun i H' => ∃ r : List Int, Same H1 H' ∧ H' B = some (.lst (r.map V.int)) ∧ r.length ≤ i) ⟨[], same_new hB, upd_same, Nat.le_refl _⟩ (fun i H' _ h => ?_) (fun i x H' hx h => ?_) (fun H2 h => ?_)⟩
      · obtain ⟨r, h1, _⟩ := h
        exact h1.seq (.inl (.inl eD))
      · obtain ⟨r, h1, h2, h3⟩ := h
        rw [List.getElem?_map] at hx
        obtain ⟨z, hz, rfl⟩ := Option.map_eq_some_iff.mp hx
        have hi := (List.getElem?_eq_some_iff.mp hz).1
        refine ⟨rfl, .int z, rfl, 10, 18, rfl, rfl, ⟨by decide, by decide, by decide⟩, z, _, rfl, rfl, _, rfl, ite2 (fun _ => ?_) (fun _ => ?_)⟩
        · refine ⟨.int z, rfl, r.map V.int, h2, ?_, r ++ [z], fun b o e => ?_, by rw [upd_same, List.map_append]; rfl, by rw [List.length_append]; show r.length + 1 ≤ _; omega⟩
          · rw [List.length_map]
            exact small1000 (by omega)
          · have nb : b ≠ B := ne_of_none e hB
            rw [upd_ne nb]
            exact h1 _ _ e
        · exact ⟨r, h1, h2, by omega⟩
      · obtain ⟨r, sm2, eB, er⟩ := h
        rw [List.length_map] at er
        have eD2 := sm2 _ _ eD
        refine ⟨.ref D, rfl, .ref D, rfl, D, l.map V.int, rfl, .inl (.inl (.inl eD2)), _, 29, rfl, rfl, by show 1 ≤ sizeLine; decide, fun Z hZ => ?_⟩
        have sm3 := same_new (o := .lst [V.int (((l.map V.int).length : Int) + 29)]) hZ
        refine ⟨D, Z, l.map V.int, _, rfl, rfl, sm3 _ _ eD2, upd_same, ?_, fun C hC => ?_⟩
        · rw [List.length_map]
          exact Nat.le_of_lt (small1000 (by show l.length + 1 ≤ 1000; omega))
        · have sm4 := same_new (o := .lst (l.map V.int ++ [V.int (((l.map V.int).length : Int) + 29)])) hC
          refine ⟨by show 3 ≤ sizeLine; decide, fun p hp => ?_⟩
          have sm5 := same_new (o := .lst [.ref B, .ref C, .int 0]) hp
          have all : Same H _ := sm.trans (sm2.trans (sm3.trans (sm4.trans sm5)))
          have nB : H B = none := sm.free hB
          have nC : H C = none := sm.free (sm2.free (sm3.free hC))
          have np : H p = none := sm.free (sm2.free (sm3.free (sm4.free hp)))
          have eB4 := sm4 _ _ (sm3 _ _ eB)
          refine q _ p B C all np nB nC ⟨⟨0, r, l ++ [((l.map V.int).length : Int) + 29], upd_same, by decide, by decide, sm5 _ _ eB4, by omega, ?_, by rw [List.length_append]; show 0 < l.length + 1; omega, by rw [List.length_append]; show l.length + 1 ≤ 64; omega⟩, ?_⟩
          · rw [sm5 C _ upd_same, List.map_append]
            rfl
          · exact fun e => by
              have z := sm3 _ _ eB
              rw [e, hC] at z
              cases z
end
end Kp
namespace Kp
open PySem PySem.Spec PyProof.Rows L2 Kb
abbrev nDraw : List Str := ["_law_stream_here", "_law_many", "_law_rest", "_law_turn", "_law_cell", "_law_mixed"]
theorem scDraw : FnScope nDraw ["_law_stream_here", "_law_many"] (defScope sDraw) := ⟨rfl, rfl, rfl, by decide +kernel, rfl, by decide +kernel, by decide +kernel⟩
def bigLen (b : Addr) (H : Hp) : Nat := match H b with
  | some (.lst xs) => xs.length
  | _ => 0
theorem bigLen_of {b : Addr} {H : Hp} {xs : List V} (h : H b = some (.lst xs)) : bigLen b H = xs.length := by
  unfold bigLen
  rw [h]
section
variable {P : Program} {w : World} {K : PySem.W.Frag} {mg : Str → Option Value} {base : Heap}
def spDraw : Sp := fun vs H Q _ => ∃ (p b c : Addr) (t : Nat) (m : Int), vs = [.ref p, .int m] ∧ Stm H p b c t ∧ t ≤ 1000000 ∧ 0 < m ∧ m < 1000 ∧
  ∀ H' r, Kept p b H H' → Stm H' p b c (t + 1) → 0 ≤ r → r < m → Q (.int r) H'
theorem ok_draw {f : Addr} {fd : FuncData} {k : Nat} (F : Fun K "_law_draw" "_law_draw" sDraw f fd) (mLen : mg "len" = none) :
    FnOk P w K mg base CX0 (k + 1) f fd ["_law_stream_here", "_law_many"] spDraw := by
  refine F.ok scDraw (fun vs H Q E h => ?_) (fun cdv A outer s H vs Q E hr h => ?_)
  · obtain ⟨p, b, c, t, m, rfl, _⟩ := h
    rfl
  · obtain ⟨p, b, c, t, m, rfl, hS, ht, hm0, hm1, q⟩ := h
    refine ⟨_, pss_cons (ps_while PassesOwn.never (pt_cmpR (op_neD hr.units) (pe_ix ix_list (pv 0) pe_int (fun _ _ => rfl)) (pe_lst pa_nil) (nomark _))
        (pss_cons (ps_set (i := 2) scDraw.nd rfl (.inl rfl) (pe_ix ix_list (pe_ix ix_list (pv 0) pe_int (fun _ _ => rfl)) pe_int (fun _ _ => rfl)))
        (pss_cons (ps_if (pt_cmpR op_gt (pv 2) pe_int (nomark _))
          (pss_cons (ps_asg (pe_op op_fdiv (pv 2) (pv 1)) (pg_sub (pe_ix ix_list (pv 0) pe_int (fun _ _ => rfl)) pe_int set_list)) (pss_one (ps_ret (pe_op op_mod (pv 2) (pv 1))))) pss_nil)
        (pss_one (ps_expr (pe_bm PySem.F.plainAttrs_list PySem.F.slot_list_pop PySem.F.type_list_pop mt_popAt (pe_ix ix_list (pv 0) pe_int (fun _ _ => rfl)) (pa_cons pe_int pa_nil)))))))
      (pss_cons (ps_set (i := 3) scDraw.nd rfl (.inl rfl) (pe_op op_add (pe_ix ix_list (pv 0) pe_int (fun _ _ => rfl)) pe_int))
      (pss_cons (ps_asg (pv 3) (pg_sub (pv 0) pe_int set_list))
      (pss_cons (ps_set (i := 4) scDraw.nd rfl (.inl rfl) (pe_op op_mod (pe_ix ix_list (pe_ix ix_list (pv 0) pe_int (fun _ _ => rfl))
          (pe_op op_mod (pv 3) (pe_callB call_len_seq (by rfl) mLen PySem.boot_len (pa_cons (pe_ix ix_list (pv 0) pe_int (fun _ _ => rfl)) pa_nil))) (fun _ _ => rfl)) pe_int))
      (pss_cons (ps_set (i := 5) scDraw.nd rfl (.inl rfl) (pe_op op_mod (pe_op op_add (pe_op op_add (pe_op op_mul (pv 4) (pe_op op_add pe_int (pe_op op_mul pe_int (pv 3))))
          (pe_op op_mul (pe_op op_mul pe_int (pv 3)) (pv 3))) pe_int) pe_int))
      (pss_one (ps_ret (pe_op op_mod (pe_op op_fdiv (pe_op op_mod (pe_op op_mul (pv 5) (pv 5)) pe_int) pe_int) (pv 1)))))))), ?_⟩
    refine while_by (fun σ H' => ∃ y2, σ = [some (.ref p), some (.int m), y2, none, none, none] ∧ Kept p b H H' ∧ Stm H' p b c t) (fun _ H' => bigLen b H') ⟨none, rfl, Kept.refl H, hS⟩ (fun σ H1 h => ?_) (fun σ H1 Q Q' im h => ?_)
    · obtain ⟨y2, rfl, kp, S⟩ := h
      obtain ⟨⟨i, big, cells, e1, i0, i1, e2, l2, e3, c0, c1⟩, bc⟩ := id S
      refine ⟨.ref p, rfl, p, _, 0, .ref b, rfl, rfl, .inl (.inl e1), rfl, Nat.zero_le _, fun Z hZ => ?_⟩
      have sZ := same_new (o := .lst []) hZ
      have e1' := sZ _ _ e1
      have e2' := sZ _ _ e2
      have e3' := sZ _ _ e3
      refine ⟨.list (big.map PyData.int), .list [], .lst (.inl (.inl e2')) (dpAll_ints big), .lst (.inl (.inl upd_same)) .nil, shaped_ints big, by decide, _, rfl, ?_⟩
      rw [eqv_nil]
      cases big with
      | cons z rest =>
        refine ⟨.ref p, rfl, p, _, 0, .ref b, rfl, rfl, .inl (.inl e1'), rfl, b, _, 0, .int z, rfl, rfl, .inl (.inl e2'), at_of (j := 0) rfl rfl, ?_⟩
        have npb : p ≠ b := fun e => by
          rw [e, e2] at e1
          cases e1
        refine ⟨.int z, rfl, z, 0, rfl, rfl, _, rfl, ite2 (fun hz => ?_) (fun hz => ?_)⟩
        · -- the first great cell
          refine ⟨.int z, rfl, .int m, rfl, z, m, rfl, rfl, ⟨hm0, by omega⟩, .ref p, rfl, p, _, 0, .ref b, rfl, rfl, .inl (.inl e1'), rfl, b, _, 0, 0, rfl, rfl, e2', ix0 _, ?_⟩
          refine ⟨.int z, rfl, .int m, rfl, z, m, rfl, rfl, hm0, ?_⟩
          refine q _ _ (kp.trans ((Kept.same sZ).trans fun x o h1 h2 e => ?_)) ⟨⟨i, z / m :: rest, cells, ?_, i0, by omega, ?_, l2, ?_, c0, c1⟩, bc⟩ (Int.emod_nonneg _ (by omega)) (Int.emod_lt_of_pos _ hm0)
          · rw [upd_ne h2]
            exact e
          · rw [upd_ne npb]
            exact e1'
          · rw [upd_same]
            rfl
          · rw [upd_ne bc.symm]
            exact e3'
        · -- it is taken out
          refine ⟨.ref p, rfl, p, _, 0, .ref b, rfl, rfl, .inl (.inl e1'), rfl, .inl ⟨rfl, _, .inl (.inl e2')⟩, b, _, 0, 0, .int z, rfl, rfl, e2', by decide, by decide, sq0 _, rfl, ?_⟩
          refine ⟨⟨some (.int z), rfl, kp.trans ((Kept.same sZ).trans fun x o h1 h2 e => ?_), ⟨⟨i, rest, cells, ?_, i0, i1, ?_, ?_, ?_, c0, c1⟩, bc⟩⟩, ?_⟩
          · rw [upd_ne h2]
            exact e
          · rw [upd_ne npb]
            exact e1'
          · rw [upd_same]
            rfl
          · exact Nat.le_of_succ_le l2
          · rw [upd_ne bc.symm]
            exact e3'
          · rw [bigLen_of upd_same, bigLen_of e2]
            simp
      | nil =>
        have npc : p ≠ c := fun e => by
          rw [e, e3] at e1
          cases cells with
          | nil => cases c0
          | cons x r => cases e1
        have npb : b ≠ p := fun e => by
          rw [← e, e2] at e1
          cases e1
        -- turn = stream[2] + 1
        refine ⟨.ref p, rfl, p, _, 2, .int i, rfl, rfl, .inl (.inl e1'), rfl, i, 1, rfl, rfl, ?_⟩
        -- stream[2] = turn
        refine ⟨.int (i + 1), rfl, .ref p, rfl, p, _, 2, 2, rfl, rfl, e1', rfl, ?_⟩
        have e1u : (upd (upd H1 Z (.lst [])) p (.lst ([V.ref b, V.ref c, V.int i].set 2 (V.int (i + 1))))) p = some (.lst [.ref b, .ref c, .int (i + 1)]) := upd_same
        have e3u : (upd (upd H1 Z (.lst [])) p (.lst ([V.ref b, V.ref c, V.int i].set 2 (V.int (i + 1))))) c = some (.lst (cells.map V.int)) := by
          rw [upd_ne npc.symm]
          exact e3'
        have e2u : (upd (upd H1 Z (.lst [])) p (.lst ([V.ref b, V.ref c, V.int i].set 2 (V.int (i + 1))))) b = some (.lst (([] : List Int).map V.int)) := by
          rw [upd_ne npb]
          exact e2'
        -- cell
        have hlen : (0 : Int) < ((cells.map V.int).length : Int) := by
          rw [List.length_map]
          omega
        have j0 := Int.emod_nonneg (i + 1) (show ((cells.map V.int).length : Int) ≠ 0 by omega)
        have j1 := Int.emod_lt_of_pos (i + 1) hlen
        obtain ⟨j, hj⟩ := Int.eq_ofNat_of_zero_le j0
        have hjl : j < cells.length := by
          rw [List.length_map] at j1 hj
          omega
        refine ⟨.ref p, rfl, p, _, 0 + 1, .ref c, rfl, rfl, .inl (.inl e1u), rfl, .int (i + 1), rfl, .ref p, rfl, p, _, 1, .ref c, rfl, rfl, .inl (.inl e1u), rfl, c, _, rfl, .inl (.inl (.inl e3u)), i + 1, _, rfl, rfl, hlen, c, _, _, .int cells[j], rfl, rfl, .inl (.inl e3u), at_of hj (by rw [List.getElem?_map, List.getElem?_eq_getElem hjl]; rfl), cells[j], 2147483587, rfl, rfl, by show (0 : Int) < 2147483587; decide, ?_⟩
        have g0 := Int.emod_nonneg cells[j] (show (2147483587 : Int) ≠ 0 by decide)
        have g1 := Int.emod_lt_of_pos cells[j] (show (0 : Int) < 2147483587 by decide)
        obtain ⟨g, hg⟩ : ∃ g : Int, g = cells[j] % 2147483587 := ⟨_, rfl⟩
        rw [← hg] at g0 g1
        dsimp only
        rw [← hg]
        -- mixed
        refine ⟨.int g, rfl, .int (i + 1), rfl, 48271, i + 1, rfl, rfl, .inl ⟨by decide, by decide⟩, 39373, _, rfl, rfl, g, _, rfl, rfl, .inl ⟨by omega, by omega⟩, .int (i + 1), rfl, 69621, i + 1, rfl, rfl, .inl ⟨by decide, by decide⟩, .int (i + 1), rfl, _, i + 1, rfl, rfl, .inr ⟨by omega, by omega⟩, _, _, rfl, rfl, _, 41, rfl, rfl, _, 2147483647, rfl, rfl, by show (0 : Int) < 2147483647; decide, ?_⟩
        have m0 := Int.emod_nonneg (g * (39373 + 48271 * (i + 1)) + 69621 * (i + 1) * (i + 1) + 41) (show (2147483647 : Int) ≠ 0 by decide)
        have m1 := Int.emod_lt_of_pos (g * (39373 + 48271 * (i + 1)) + 69621 * (i + 1) * (i + 1) + 41) (show (0 : Int) < 2147483647 by decide)
        obtain ⟨x, hx⟩ : ∃ x : Int, x = (g * (39373 + 48271 * (i + 1)) + 69621 * (i + 1) * (i + 1) + 41) % 2147483647 := ⟨_, rfl⟩
        rw [← hx] at m0 m1
        dsimp only
        rw [← hx]
        refine ⟨.int x, rfl, .int x, rfl, x, x, rfl, rfl, .inl ⟨by omega, by omega⟩, _, 2147483629, rfl, rfl, by show (0 : Int) < 2147483629; decide, _, 16, rfl, rfl, ⟨by decide, by decide⟩, .int m, rfl, _, m, rfl, rfl, hm0, ?_⟩
        refine q _ _ (kp.trans ((Kept.same sZ).trans fun x o h1 h2 e => ?_)) ⟨⟨i + 1, [], cells, e1u, by omega, by omega, e2u, by decide, e3u, c0, c1⟩, bc⟩ (Int.emod_nonneg _ (by omega)) (Int.emod_lt_of_pos _ hm0)
        rw [upd_ne h1]
        exact e
    · obtain ⟨v, x1, p', xs, z, v2, x2, x3, x4, x5, x6, x7⟩ := h
      refine ⟨v, x1, p', xs, z, v2, x2, x3, x4, x5, x6, fun Z hZ => ?_⟩
      obtain ⟨d, e, y1, y2, y3, y4, kk, y5, y6⟩ := x7 Z hZ
      exact ⟨d, e, y1, y2, y3, y4, kk, y5, im _ _ y6⟩
end
end Kp
namespace Kp
open PySem PySem.Spec PyProof.Rows L2 Kb
abbrev nPick : List Str := ["_law_stream_here", "_law_items"]
theorem scPick : FnScope nPick ["_law_stream_here", "_law_items"] (defScope sPick) := ⟨rfl, rfl, rfl, by decide +kernel, rfl, by decide +kernel, by decide +kernel⟩
abbrev nDrawn : List Str := ["_law_stream_here", "_law_most", "_law_size", "_law_letters", "_law_found", "_law_many", "_law_k"]
theorem scDrawn : FnScope nDrawn ["_law_stream_here", "_law_most"] (defScope sDrawn) := ⟨rfl, rfl, rfl, by decide +kernel, rfl, by decide +kernel, by decide +kernel⟩
def chV (c : Nat) : V := .str ⟨#[c]⟩
/-- a small letter's code -/
def Low (c : Nat) : Prop := 97 ≤ c ∧ c ≤ 122
def Lows (z : Str) : Prop := ∀ c ∈ z.cps.toList, Low c
section
variable {P : Program} {w : World} {K : PySem.W.Frag} {mg : Str → Option Value} {base : Heap}
def spPickL (K : PySem.W.Frag) : Sp := fun vs H Q _ => ∃ (p b c l : Addr) (t : Nat) (xs : List V), vs = [.ref p, .ref l] ∧ Stm H p b c t ∧ t ≤ 1000000 ∧ H l = some (.lst xs) ∧ l ≠ p ∧ l ≠ b ∧
  0 < xs.length ∧ xs.length < 1000 ∧ ∀ H' v, Kept p b H H' → Stm H' p b c (t + 1) → v ∈ xs → Q v H'
def spPickS : Sp := fun vs H Q _ => ∃ (p b c : Addr) (t : Nat) (z : Str), vs = [.ref p, .str z] ∧ Stm H p b c t ∧ t ≤ 1000000 ∧
  0 < z.length ∧ z.length < 1000 ∧ ∀ H' x, Kept p b H H' → Stm H' p b c (t + 1) → x ∈ z.cps.toList → Q (chV x) H'
theorem ok_pickL {f fD : Addr} {fd fdD : FuncData} {k : Nat} (F : Fun K "_law_pick" "_law_pick" sPick f fd) (FD : Fun K "_law_draw" "_law_draw" sDraw fD fdD)
    (bD : Binds K fdD ["_law_stream_here", "_law_many"] []) (gD : mg "_law_draw" = some (.ref fD)) (mLen : mg "len" = none) :
    FnOk P w K mg base CX0 (k + 2) f fd ["_law_stream_here", "_law_items"] (spPickL K) := by
  have GD : FnOk P w K mg base CX0 (k + 1) fD fdD ["_law_stream_here", "_law_many"] spDraw := ok_draw FD mLen
  refine F.ok scPick (fun vs H Q E h => ?_) (fun cdv A outer s H vs Q E hr h => ?_)
  · obtain ⟨p, b, c, l, t, xs, rfl, _⟩ := h
    rfl
  · obtain ⟨p, b, c, l, t, xs, rfl, hS, ht, hl, n1, n2, x0, x1, q⟩ := h
    refine ⟨_, pss_one (ps_ret (pe_ix ix_list (pv 1) (pe_call GD hr (by rfl) gD FD.kp bD .nil pass0 (pa_cons (pv 0) (pa_cons (pe_callB call_len_seq (by rfl) mLen PySem.boot_len (pa_cons (pv 1) pa_nil)) pa_nil))) (fun _ _ => rfl))), ?_⟩
    refine ⟨.ref l, rfl, .ref p, rfl, .ref l, rfl, l, xs, rfl, .inl (.inl (.inl hl)), p, b, c, t, _, rfl, hS, ht, by omega, by omega, fun H' r kp S r0 r1 => ?_⟩
    obtain ⟨j, rfl⟩ := Int.eq_ofNat_of_zero_le r0
    have hj : j < xs.length := by omega
    refine ⟨l, xs, _, xs[j], rfl, rfl, .inl (.inl (kp _ _ n1 n2 hl)), at_of rfl (List.getElem?_eq_getElem hj), ?_⟩
    exact q _ _ kp S (List.getElem_mem hj)
theorem ok_pickS {f fD : Addr} {fd fdD : FuncData} {k : Nat} (F : Fun K "_law_pick" "_law_pick" sPick f fd) (FD : Fun K "_law_draw" "_law_draw" sDraw fD fdD)
    (bD : Binds K fdD ["_law_stream_here", "_law_many"] []) (gD : mg "_law_draw" = some (.ref fD)) (mLen : mg "len" = none) :
    FnOk P w K mg base CX0 (k + 2) f fd ["_law_stream_here", "_law_items"] spPickS := by
  have GD : FnOk P w K mg base CX0 (k + 1) fD fdD ["_law_stream_here", "_law_many"] spDraw := ok_draw FD mLen
  refine F.ok scPick (fun vs H Q E h => ?_) (fun cdv A outer s H vs Q E hr h => ?_)
  · obtain ⟨p, b, c, t, z, rfl, _⟩ := h
    rfl
  · obtain ⟨p, b, c, t, z, rfl, hS, ht, x0, x1, q⟩ := h
    refine ⟨_, pss_one (ps_ret (pe_ix ix_str (pv 1) (pe_call GD hr (by rfl) gD FD.kp bD .nil pass0 (pa_cons (pv 0) (pa_cons (pe_callB call_len_str (by rfl) mLen PySem.boot_len (pa_cons (pv 1) pa_nil)) pa_nil))) (fun _ _ => rfl))), ?_⟩
    have hz : z.length ≤ sizeLine := Nat.le_of_lt (small1000 (by omega))
    refine ⟨.str z, rfl, .ref p, rfl, .str z, rfl, z, rfl, hz, p, b, c, t, _, rfl, hS, ht, by omega, by omega, fun H' r kp S r0 r1 => ?_⟩
    obtain ⟨j, rfl⟩ := Int.eq_ofNat_of_zero_le r0
    have hj : j < z.cps.toList.length := by
      rw [Array.length_toList]
      show j < z.length
      omega
    refine ⟨z, _, z.cps.toList[j], rfl, rfl, hz, atI_nat (List.getElem?_eq_getElem hj), ?_⟩
    exact q _ _ kp S (List.getElem_mem hj)
/-- a text of the menu of letters -/
def Menu (v : V) : Prop := ∃ z : Str, v = .str z ∧ 0 < z.length ∧ z.length ≤ 26 ∧ Lows z
instance (z : Str) : Decidable (Lows z) := by
  unfold Lows Low
  infer_instance
theorem menu : ∀ v ∈ [V.str "a", V.str "ab", V.str "abc", V.str "az", V.str "aab", V.str "abcdefghijklmnopqrstuvwxyz"], Menu v := by
  intro v hv
  simp only [List.mem_cons, List.not_mem_nil, or_false] at hv
  rcases hv with rfl | rfl | rfl | rfl | rfl | rfl <;> exact ⟨_, rfl, by decide +kernel, by decide +kernel, by decide +kernel⟩
theorem abz : ∀ c ∈ (Str.ofString "abz").cps.toList, Low c := by
  show Lows "abz"
  decide +kernel
def spDrawn : Sp := fun vs H Q _ => ∃ (p b c : Addr) (t : Nat) (m : Int), vs = [.ref p, .int m] ∧ Stm H p b c t ∧ t ≤ 900000 ∧ 0 < m ∧ m ≤ 24 ∧
  ∀ H' z, Kept p b H H' → Stm H' p b c (t + 40) → 0 < z.length → (z.length : Int) ≤ m → Lows z → Q (.str z) H'
theorem ok_drawn {f fD fP : Addr} {fd fdD fdP : FuncData} {k : Nat} (F : Fun K "_law_drawn" "_law_drawn" sDrawn f fd) (FD : Fun K "_law_draw" "_law_draw" sDraw fD fdD) (FP : Fun K "_law_pick" "_law_pick" sPick fP fdP)
    (bD : Binds K fdD ["_law_stream_here", "_law_many"] []) (bP : Binds K fdP ["_law_stream_here", "_law_items"] []) (gD : mg "_law_draw" = some (.ref fD)) (gP : mg "_law_pick" = some (.ref fP))
    (mLen : mg "len" = none) (mRange : mg "range" = none) (mMin : mg "min" = none) :
    FnOk P w K mg base CX0 (k + 3) f fd ["_law_stream_here", "_law_most"] spDrawn := by
  have GD : FnOk P w K mg base CX0 (k + 2) fD fdD ["_law_stream_here", "_law_many"] spDraw := ok_draw FD mLen
  have GL : FnOk P w K mg base CX0 (k + 2) fP fdP ["_law_stream_here", "_law_items"] (spPickL K) := ok_pickL FP FD bD gD mLen
  have GS : FnOk P w K mg base CX0 (k + 2) fP fdP ["_law_stream_here", "_law_items"] spPickS := ok_pickS FP FD bD gD mLen
  refine F.ok scDrawn (fun vs H Q E h => ?_) (fun cdv A outer s H vs Q E hr h => ?_)
  · obtain ⟨p, b, c, t, m, rfl, _⟩ := h
    rfl
  · obtain ⟨p, b, c, t, m, rfl, hS, ht, m0, m1, q⟩ := h
    refine ⟨_, pss_cons (ps_set (i := 2) scDrawn.nd rfl (.inl rfl) (pe_op op_add pe_int (pe_call GD hr (by rfl) gD FD.kp bD .nil pass0 (pa_cons (pv 0) (pa_cons (pv 1) pa_nil)))))
      (pss_cons (ps_set (i := 3) scDrawn.nd rfl (.inr rfl) (pe_call GL hr (by rfl) gP FP.kp bP .nil pass0 (pa_cons (pv 0) (pa_cons (pe_lst (pa_cons pe_str (pa_cons pe_str (pa_cons pe_str (pa_cons pe_str (pa_cons pe_str (pa_cons pe_str pa_nil))))))) pa_nil))))
      (pss_cons (ps_set (i := 4) scDrawn.nd rfl (.inr rfl) (pe_lc (own := [("_law_k", 6)]) (g := gName 6) (tt := tYes) rfl scDrawn.nd (pi_range1 (by rfl) mRange (pa_cons (pv 2) pa_nil)) (blkOk_by (N := nDrawn) (sc := defScope sDrawn) (by decide +kernel))
          (fun _ _ _ _ _ => pg_name (i := 6) scDrawn.nd rfl (Or.inl rfl)) (fun _ _ _ _ _ => pts_nil) (fun _ _ _ _ _ => pe_call GS hr (by rfl) gP FP.kp bP .nil pass0 (pa_cons (pv 0) (pa_cons (pv 3) pa_nil)))))
      (pss_cons (ps_if (pt_cmpR op_eq (pe_call GD hr (by rfl) gD FD.kp bD .nil pass0 (pa_cons (pv 0) (pa_cons pe_int pa_nil))) pe_int (nomark _))
        (pss_cons (ps_set (i := 5) scDrawn.nd rfl (.inr rfl) (pe_op op_add pe_int (pe_call GD hr (by rfl) gD FD.kp bD .nil pass0 (pa_cons (pv 0) (pa_cons (pe_callB (call_min2 rfl) (by rfl) mMin (by decide +kernel) (pa_cons (pv 2) (pa_cons pe_int pa_nil))) pa_nil)))))
        (pss_cons (ps_set (i := 4) scDrawn.nd rfl (.inr rfl) (pe_lc (own := [("_law_k", 6)]) (g := gName 6) (tt := tYes) rfl scDrawn.nd (pi_range1 (by rfl) mRange (pa_cons (pv 2) pa_nil)) (blkOk_by (N := nDrawn) (sc := defScope sDrawn) (by decide +kernel))
          (fun _ _ _ _ _ => pg_name (i := 6) scDrawn.nd rfl (Or.inl rfl)) (fun _ _ _ _ _ => pts_nil) (fun _ _ _ _ _ => pe_ix (r := rIxL K) ix_list (pv 4) (pe_op op_mod (pv 6) (pv 5)) (fun _ _ => rfl))))
        (pss_one (ps_if (pt_cmpR op_eq (pe_call GD hr (by rfl) gD FD.kp bD .nil pass0 (pa_cons (pv 0) (pa_cons pe_int pa_nil))) pe_int (nomark _))
          (pss_one (ps_asg (pe_call GS hr (by rfl) gP FP.kp bP .nil pass0 (pa_cons (pv 0) (pa_cons pe_str pa_nil))) (pg_sub (pv 4) (pe_call GD hr (by rfl) gD FD.kp bD .nil pass0 (pa_cons (pv 0) (pa_cons (pv 2) pa_nil))) set_list))) pss_nil))))
        pss_nil)
      (pss_one (ps_ret (pe_join pe_str (pv 4))))))), ?_⟩
    -- size
    refine ⟨.ref p, rfl, .int m, rfl, p, b, c, t, m, rfl, hS, by omega, m0, by omega, fun H1 r k1 S1 r0 r1 => ⟨1, r, rfl, rfl, ?_⟩⟩
    obtain ⟨n0, rfl⟩ := Int.eq_ofNat_of_zero_le r0
    -- letters
    refine ⟨.ref p, rfl, by show 6 ≤ sizeLine; decide, fun L hL => ?_⟩
    have sL := same_new (o := .lst [V.str "a", V.str "ab", V.str "abc", V.str "az", V.str "aab", V.str "abcdefghijklmnopqrstuvwxyz"]) hL
    have nL := S1.ne_p hL
    refine ⟨p, b, c, L, t + 1, _, rfl, S1.same sL, by omega, upd_same, nL.1, nL.2.1, by decide, by decide, fun H2 v k2 S2 hv => ?_⟩
    obtain ⟨z, rfl, z0, z1, zl⟩ := menu v hv
    have k2' : Kept p b H H2 := k1.trans ((Kept.same sL).trans k2)
    -- found
    refine ⟨_, rfl, _, rfl, by omega, by omega, fun D hD => lc_range (lo := 0) (n := ((1 : Int) + (n0 : Int)).toNat)
      (fun i H' => ∃ cs : List Nat, Kept p b H2 H' ∧ Stm H' p b c (t + 1 + 1 + i) ∧ H' D = some (.lst (cs.map chV)) ∧ cs.length = i ∧ ∀ c ∈ cs, Low c)
      ⟨[], Kept.same (same_new hD), S2.same (same_new hD), upd_same, rfl, fun _ h => nomatch h⟩ (fun i H' hi h => ?_) (fun H3 h => ?_)⟩
    · obtain ⟨cs, k3, S3, eD, el, ea⟩ := h
      have nD := S2.ne_p hD
      refine ⟨rfl, .ref p, rfl, .str z, rfl, p, b, c, _, z, rfl, S3, by omega, z0, by omega, fun H4 x k4 S4 hx => ?_⟩
      have eD4 := k4 _ _ nD.1 nD.2.1 eD
      refine ⟨cs.map chV, eD4, ?_, cs ++ [x], (k3.trans k4).upd hD, S4.upd nD, ?_, ?_, ?_⟩
      · rw [List.length_map]
        exact small1000 (by omega)
      · rw [upd_same, List.map_append]
        rfl
      · rw [List.length_append, el]
        rfl
      · intro y hy
        rcases List.mem_append.mp hy with e | e
        · exact ea y e
        · rw [List.mem_singleton.mp e]
          exact zl x hx
    · obtain ⟨cs, k3, S3, eD, el, ea⟩ := h
      have nD := S2.ne_p hD
      have hn : cs.length = 1 + n0 := by omega
      have fin : ∀ (H' : Hp) (T : Addr) (ds : List Nat) (t' : Nat), Kept p b H H' → Stm H' p b c t' → t' ≤ t + 40 → H' T = some (.lst (ds.map chV)) → ds.length = 1 + n0 → (∀ c ∈ ds, Low c) →
          ∃ (a : Str) (pp : Addr) (ys : List Str), V.str "" = .str a ∧ [V.ref T] = [.ref pp] ∧ (SqL K H' pp (ys.map V.str) ∨ SqT K H' pp (ys.map V.str)) ∧ (ys.map (·.length)).sum + ys.length * a.length ≤ 16777216 ∧ Q (.str (Txt.join a ys)) H' := by
        intro H' T ds t' kk SS tt eT dl da
        have ej : Txt.join (Str.ofString "") (signs ⟨ds.toArray⟩) = ⟨ds.toArray⟩ := by
          unfold Txt.join
          rw [PySem.StrLaws.glued_eq_join]
          exact join_nil_signs _
        have es : (signs ⟨ds.toArray⟩).map V.str = ds.map chV := by
          simp [signs, List.map_map, Function.comp_def, chV]
        have e1 : ∀ l : List Nat, ((l.map fun c => (⟨#[c]⟩ : Str)).map (·.length)).sum = l.length := by
          intro l
          induction l with
          | nil => rfl
          | cons x r ih =>
            rw [List.map_cons, List.map_cons, List.sum_cons, ih, List.length_cons]
            show 1 + r.length = r.length + 1
            omega
        refine ⟨"", T, signs ⟨ds.toArray⟩, rfl, rfl, .inl (.inl (.inl (by rw [es]; exact eT))), ?_, ?_⟩
        · have e2 := e1 ds
          have e3 : signs (⟨ds.toArray⟩ : Str) = ds.map fun c => (⟨#[c]⟩ : Str) := by simp [signs]
          rw [e3, e2]
          show ds.length + _ * 0 ≤ _
          omega
        · rw [ej]
          refine q H' _ kk (SS.mono tt) ?_ ?_ ?_
          · show 0 < ds.toArray.size
            rw [List.size_toArray]
            omega
          · show ((ds.toArray.size : Nat) : Int) ≤ m
            rw [List.size_toArray]
            omega
          · intro y hy
            exact da y (by simpa using hy)
      -- if draw(stream, 3) == 0
      refine ⟨.ref p, rfl, p, b, c, _, 3, rfl, S3, by omega, by decide, by decide, fun H4 r k4 S4 _ _ => ⟨rfl, _, rfl, ite2 (fun _ => ?_) (fun _ => ?_)⟩⟩
      · have eD4 := k4 _ _ nD.1 nD.2.1 eD
        -- many
        refine ⟨.ref p, rfl, .int (1 + n0), rfl, 1 + n0, 5, rfl, p, b, c, _, _, rfl, S4, by omega, by split <;> omega, by split <;> omega, fun H5 r5 k5 S5 r50 r51 => ⟨1, r5, rfl, rfl, ?_⟩⟩
        have eD5 := k5 _ _ nD.1 nD.2.1 eD4
        have hmany : 1 + r5 ≤ (1 + n0 : Int) ∧ (0 : Int) < 1 + r5 := by
          split at r51 <;> omega
        refine ⟨_, rfl, _, rfl, by omega, by omega, fun D2 hD2 => lc_range (lo := 0) (n := ((1 : Int) + (n0 : Int)).toNat)
          (fun i H' => ∃ ds : List Nat, Same H5 H' ∧ H' D2 = some (.lst (ds.map chV)) ∧ ds.length = i ∧ ∀ c ∈ ds, Low c)
          ⟨[], same_new hD2, upd_same, rfl, fun _ h => nomatch h⟩ (fun i H' hi h => ?_) (fun H6 h => ?_)⟩
        · obtain ⟨ds, s6, e6, l6, a6⟩ := h
          have j0 := Int.emod_nonneg ((0 : Int) + (i : Int)) (show (1 + r5 : Int) ≠ 0 by omega)
          have j1 := Int.emod_lt_of_pos ((0 : Int) + (i : Int)) hmany.2
          obtain ⟨j, hj⟩ := Int.eq_ofNat_of_zero_le j0
          have hjl : j < cs.length := by omega
          refine ⟨rfl, .ref D, rfl, .int (0 + i), rfl, .int (1 + r5), rfl, _, _, rfl, rfl, hmany.2, D, cs.map chV, _, chV cs[j], rfl, rfl, .inl (.inl (s6 _ _ eD5)), at_of hj (by rw [List.getElem?_map, List.getElem?_eq_getElem hjl]; rfl), ds.map chV, e6, ?_, ds ++ [cs[j]], fun y o e => ?_, ?_, ?_, ?_⟩
          · rw [List.length_map]
            exact small1000 (by omega)
          · rw [upd_ne (ne_of_none e hD2)]
            exact s6 _ _ e
          · rw [upd_same, List.map_append]
            rfl
          · rw [List.length_append, l6]
            rfl
          · intro y hy
            rcases List.mem_append.mp hy with e | e
            · exact a6 y e
            · rw [List.mem_singleton.mp e]
              exact ea _ (List.getElem_mem hjl)
        · obtain ⟨ds, s6, e6, l6, a6⟩ := h
          have nD2 := S5.ne_p hD2
          have S6 := S5.same s6
          have kk : Kept p b H H6 := k2'.trans (k3.trans (k4.trans (k5.trans (Kept.same s6))))
          -- if draw(stream, 2) == 0
          refine ⟨.ref p, rfl, p, b, c, _, 2, rfl, S6, by omega, by decide, by decide, fun H7 r7 k7 S7 _ _ => ⟨rfl, _, rfl, ite2 (fun _ => ?_) (fun _ => ?_)⟩⟩
          · refine ⟨.ref p, rfl, p, b, c, _, "abz", rfl, S7, by omega, by decide +kernel, by decide +kernel, fun H8 x8 k8 S8 h8 => ?_⟩
            refine ⟨.ref D2, rfl, .ref p, rfl, .int (1 + n0), rfl, p, b, c, _, 1 + n0, rfl, S8, by omega, by omega, by omega, fun H9 r9 k9 S9 r90 r91 => ?_⟩
            obtain ⟨j9, rfl⟩ := Int.eq_ofNat_of_zero_le r90
            have e9 := k9 _ _ nD2.1 nD2.2.1 (k8 _ _ nD2.1 nD2.2.1 (k7 _ _ nD2.1 nD2.2.1 e6))
            refine ⟨D2, _, _, j9, rfl, rfl, e9, ixNat (by rw [List.length_map]; omega), ?_⟩
            refine ⟨⟨_, rfl⟩, .ref D2, rfl, fin _ D2 (ds.set j9 x8) (t + 1 + 1 + (1 + n0) + 1 + 1 + 1 + 1 + 1) ?_ ?_ (by omega) ?_ ?_ ?_⟩
            · refine Kept.upd (kk.trans (k7.trans (k8.trans k9))) ?_
              exact (k2'.trans (k3.trans (k4.trans k5))).free hD2 nD2.1 nD2.2.1
            · exact (S9.upd nD2).mono (by omega)
            · rw [upd_same, ← List.map_set]
            · rw [List.length_set]
              omega
            · intro y hy
              rcases List.mem_or_eq_of_mem_set hy with e | e
              · exact a6 y e
              · rw [e]
                exact abz x8 h8
          · exact ⟨⟨_, rfl⟩, .ref D2, rfl, fin _ D2 ds _ (kk.trans k7) S7 (by omega) (k7 _ _ nD2.1 nD2.2.1 e6) (by omega) a6⟩
      · exact ⟨⟨_, rfl⟩, .ref D, rfl, fin _ D cs _ (k2'.trans (k3.trans k4)) S4 (by omega) (k4 _ _ nD.1 nD.2.1 eD) hn ea⟩
end
end Kp
namespace Kb
open PySem PySem.Spec PyProof.Rows L2
/-- the tail of a text -/
def tlS (z : Str) (j : Nat) : Str := ⟨(z.cps.toList.drop j).toArray⟩
theorem tlS_list (z : Str) (j : Nat) : (tlS z j).cps.toList = z.cps.toList.drop j := rfl
theorem tlS_len (z : Str) (j : Nat) : (tlS z j).length = z.length - j := by
  show (tlS z j).cps.size = z.cps.size - j
  rw [← Array.length_toList, tlS_list, List.length_drop, Array.length_toList]
theorem cut_tl (z : Str) (j : Nat) (h : j ≤ z.length) : cutS z (some (j : Int)) none = tlS z j := by
  unfold cutS tlS
  rw [show HT.sIx z.length 0 (some (j : Int)) = min j z.length from HT.sIx_nat z.length 0 j, HT.sIx_none, Nat.min_eq_left h]
  congr 2
  apply List.take_of_length_le
  rw [List.length_drop, Array.length_toList]
  exact Nat.le_refl _
theorem rising_pw : ∀ (l : List Str) (p : Str), risingS p l = true → (p :: l).Pairwise (fun a b => ¬ b.cps.toList < a.cps.toList)
  | [], p, _ => by simp
  | x :: r, p, h => by
    unfold risingS at h
    rw [Bool.and_eq_true, Bool.not_eq_true', ltCps_eq, decide_eq_false_iff_not] at h
    have ih := rising_pw r x h.2
    rw [List.pairwise_cons]
    refine ⟨fun b hb => ?_, ih⟩
    rcases List.mem_cons.mp hb with e | e
    · rw [e]
      exact h.1
    · have h1 := (List.pairwise_cons.mp ih).1 b e
      exact List.not_lt.mpr (List.le_trans (List.not_lt.mp h.1) (List.not_lt.mp h1))
theorem sorted_pw : ∀ (l : List Str), sortedS l = true → l.Pairwise (fun a b => ¬ b.cps.toList < a.cps.toList)
  | [], _ => by simp
  | x :: r, h => rising_pw r x h
end Kb
namespace Km
/-- what rank_places makes of the first i places -/
def rk (r : List Nat) : Nat → List Nat
  | 0 => List.replicate r.length 0
  | i + 1 => (rk r i).set (r.getD i 0) i
theorem rk_len (r : List Nat) : ∀ i, (rk r i).length = r.length
  | 0 => List.length_replicate
  | i + 1 => by
    show ((rk r i).set (r.getD i 0) i).length = r.length
    rw [List.length_set, rk_len r i]
theorem rk_at {r : List Nat} (nd : r.Nodup) (lt : ∀ i ∈ r, i < r.length) : ∀ n, n ≤ r.length → ∀ (k : Nat) (h : k < r.length), k < n → (rk r n)[r[k]]? = some k
  | 0, _, k, _, hk => absurd hk (Nat.not_lt_zero _)
  | n + 1, hn, k, h, hk => by
    show ((rk r n).set (r.getD n 0) n)[r[k]]? = some k
    have hg : r.getD n 0 = r[n] := by
      rw [List.getD_eq_getElem?_getD, List.getElem?_eq_getElem (by omega)]
      rfl
    rw [hg]
    by_cases e : k = n
    · subst e
      rw [List.getElem?_set_self]
      rw [rk_len]
      exact lt _ (List.getElem_mem h)
    · rw [List.getElem?_set_ne]
      · exact rk_at nd lt n (by omega) k h (by omega)
      · intro z
        exact e ((List.getElem_inj nd).mp z).symm
/-- an order of places -/
def Ord (r : List Nat) : Prop := r.Perm (List.range r.length)
theorem Ord.nd {r : List Nat} (h : Ord r) : r.Nodup := h.nodup_iff.mpr List.nodup_range
theorem Ord.lt {r : List Nat} (h : Ord r) {i : Nat} (hi : i ∈ r) : i < r.length := List.mem_range.mp (h.mem_iff.mp hi)
theorem Ord.mem {r : List Nat} (h : Ord r) {i : Nat} (hi : i < r.length) : i ∈ r := h.mem_iff.mpr (List.mem_range.mpr hi)
theorem TailOrd.ord {L r : List Nat} (h : TailOrd L r) : Ord r := by
  unfold Ord
  rw [h.len]
  exact h.1
theorem Ord.rk_at {r : List Nat} (h : Ord r) (k : Nat) (hk : k < r.length) : (rk r r.length)[r[k]]? = some k :=
  Km.rk_at h.nd (fun _ hi => h.lt hi) r.length (Nat.le_refl _) k hk hk
theorem Ord.rk_idx {r : List Nat} (h : Ord r) {i : Nat} (hi : i < r.length) : (rk r r.length)[i]? = some (r.idxOf i) := by
  have hm := h.mem hi
  have hx : r.idxOf i < r.length := List.idxOf_lt_length_iff.mpr hm
  have e := h.rk_at (r.idxOf i) hx
  rw [List.getElem_idxOf hx] at e
  exact e
theorem TailOrd.rk_cnt {L r : List Nat} (h : TailOrd L r) : rk r r.length = (List.range L.length).map (cnt L) := by
  apply List.ext_getElem?
  intro i
  by_cases hi : i < r.length
  · obtain ⟨k, hk, rfl⟩ := List.getElem_of_mem (h.ord.mem hi)
    rw [h.ord.rk_at k hk, List.getElem?_map, List.getElem?_range (h.lt (List.getElem_mem hk))]
    show some k = some (cnt L r[k])
    rw [h.cnt_at k hk]
  · rw [List.getElem?_eq_none (by rw [rk_len]; omega), List.getElem?_eq_none (by rw [List.length_map, List.length_range, ← h.len]; omega)]
end Km
namespace Kp
open PySem PySem.Spec PyProof.Rows L2 Kb Km
abbrev nOrder : List Str := ["word", "tails", "place", "tail"]
theorem scOrder : FnScope nOrder ["word"] (defScope sOrder) := ⟨rfl, rfl, rfl, by decide +kernel, rfl, by decide +kernel, by decide +kernel⟩
section
variable {P : Program} {w : World} {K : PySem.W.Frag} {mg : Str → Option Value} {base : Heap}
def spOrder : Sp := fun vs H Q _ => ∃ z : Str, vs = [.str z] ∧ z.length < 64 ∧
  ∀ H' q r, Same H H' → H q = none → H' q = some (.tup (plV r)) → TailOrd z.cps.toList r → Q (.ref q) H'
theorem ok_order {f : Addr} {fd : FuncData} {k : Nat} (F : Fun K "tail_order" "tail_order" sOrder f fd) (mLen : mg "len" = none) (mRange : mg "range" = none) (mSorted : mg "sorted" = none) (mTuple : mg "tuple" = none) :
    FnOk P w K mg base CX0 (k + 1) f fd ["word"] spOrder := by
  refine F.ok scOrder (fun vs H Q E h => ?_) (fun cdv A outer s H vs Q E hr h => ?_)
  · obtain ⟨z, rfl, _⟩ := h
    rfl
  · obtain ⟨z, rfl, hz, q⟩ := h
    have zs : z.length ≤ sizeLine := Nat.le_of_lt (small1000 (by omega))
    refine ⟨_, pss_cons (ps_set (i := 1) scOrder.nd rfl (.inl rfl) (pe_callB cr_sortedS (by rfl) mSorted (by decide +kernel) (pa_cons
        (pe_lc (own := [("place", 2)]) (g := gName 2) (tt := tYes) rfl scOrder.nd (pi_range1 (by rfl) mRange (pa_cons (pe_callB call_len_str (by rfl) mLen PySem.boot_len (pa_cons (pv 0) pa_nil)) pa_nil))
          (blkOk_by (N := nOrder) (sc := defScope sOrder) (by decide +kernel)) (fun _ _ _ _ _ => pg_name (i := 2) scOrder.nd rfl (Or.inl rfl)) (fun _ _ _ _ _ => pts_nil)
          (fun _ _ _ _ _ => pe_slice sl_str (pv 0) (po_some (pv 2)) po_none)) pa_nil)))
      (pss_one (ps_ret (pe_callTy call_tuple_of (by rfl) mTuple (by decide +kernel) (pa_cons
        (pe_lc (own := [("tail", 3)]) (g := gName 3) (tt := tYes) rfl scOrder.nd (pi_list (pv 1))
          (blkOk_by (N := nOrder) (sc := defScope sOrder) (by decide +kernel)) (fun _ _ _ _ _ => pg_name (i := 3) scOrder.nd rfl (Or.inl rfl)) (fun _ _ _ _ _ => pts_nil)
          (fun _ _ _ _ _ => pe_op op_sub (pe_callB call_len_str (by rfl) mLen PySem.boot_len (pa_cons (pv 0) pa_nil)) (pe_callB call_len_str (by rfl) mLen PySem.boot_len (pa_cons (pv 3) pa_nil)))) pa_nil)))), ?_⟩
    refine ⟨.str z, rfl, z, rfl, zs, _, rfl, by omega, by omega, fun D hD => lc_range (lo := 0) (n := z.length)
      (fun i H' => Same H H' ∧ H' D = some (.lst (((List.range i).map (tlS z)).map V.str))) ⟨same_new hD, upd_same⟩ (fun i H' hi h => ?_) (fun H1 h => ?_)⟩
    · obtain ⟨h1, h2⟩ := h
      refine ⟨rfl, .str z, rfl, .int (0 + i), rfl, _, rfl, z, rfl, zs, _, h2, ?_, fun y o e => ?_, ?_⟩
      · rw [List.length_map, List.length_map, List.length_range]
        exact small1000 (by omega)
      · rw [upd_ne (ne_of_none e hD)]
        exact h1 _ _ e
      · rw [upd_same, Int.zero_add, cut_tl z i (by omega), List.range_succ, List.map_append, List.map_append]
        rfl
    · obtain ⟨s1, e1⟩ := h
      refine ⟨D, (List.range z.length).map (tlS z), rfl, .inl (.inl e1), by rw [List.length_map, List.length_range]; exact hz, fun ys p perm srt hp => ?_⟩
      have s2 := same_new (o := .lst (ys.map V.str)) hp
      have yl : ys.length < 64 := by
        rw [perm.length_eq, List.length_map, List.length_range]
        exact hz
      have yb : ∀ y ∈ ys, y.length ≤ z.length := by
        intro y hy
        obtain ⟨i, _, rfl⟩ := List.mem_map.mp (perm.mem_iff.mp hy)
        rw [tlS_len]
        omega
      refine ⟨.ref p, rfl, p, rfl, ⟨_, .inl (.inl upd_same)⟩, fun D2 hD2 => lc_list (K := K) (a := p) (xs := ys.map V.str)
        (fun i H' => Same (upd H1 p (.lst (ys.map V.str))) H' ∧ H' D2 = some (.lst (plV ((ys.take i).map fun y => z.length - y.length)))) ⟨same_new hD2, upd_same⟩ (fun i H' _ h => ?_) (fun i x H' hx h => ?_) (fun H2 h => ?_)⟩
      · exact h.1.seq (.inl (.inl upd_same))
      · obtain ⟨h1, h2⟩ := h
        rw [List.getElem?_map] at hx
        obtain ⟨y, hy, rfl⟩ := Option.map_eq_some_iff.mp hx
        have ym : y ∈ ys := List.mem_of_getElem? hy
        have yy := yb y ym
        refine ⟨rfl, .str z, rfl, z, rfl, zs, .str y, rfl, y, rfl, by omega, _, _, rfl, rfl, _, h2, ?_, fun b o e => ?_, ?_⟩
        · unfold plV
          rw [List.length_map, List.length_map, List.length_take]
          exact small1000 (by omega)
        · rw [upd_ne (ne_of_none e hD2)]
          exact h1 _ _ e
        · rw [upd_same, List.take_add_one, hy]
          unfold plV
          rw [List.map_append, List.map_append]
          have : (((z.length - y.length : Nat) : Int)) = (z.length : Int) - (y.length : Int) := by omega
          simp [this]
      · obtain ⟨s3, e3⟩ := h
        rw [List.length_map] at e3
        refine ⟨D2, _, rfl, .inl ⟨.inl (.inl e3), fun l hl => ?_⟩⟩
        have s4 := same_new (o := .tup (plV ((ys.take ys.length).map fun y => z.length - y.length))) hl
        have all := s1.trans (s2.trans (s3.trans s4))
        have nl : H l = none := s1.free (s2.free (s3.free hl))
        refine q _ l _ all nl upd_same ?_
        rw [List.take_length]
        have t := of_sorted (L := z.cps.toList) (ys := ys.map fun y => y.cps.toList) (by
          have := perm.map (fun y => y.cps.toList)
          rw [List.map_map] at this
          have e : z.cps.toList.length = z.length := Array.length_toList
          rw [e]
          exact this) (by
          rw [List.pairwise_map]
          exact sorted_pw ys srt)
        rw [List.map_map] at t
        have e2 : (ys.map ((fun y => z.cps.toList.length - y.length) ∘ fun y => y.cps.toList)) = ys.map fun y => z.length - y.length := by
          refine List.map_congr_left (fun y _ => ?_)
          show z.cps.toList.length - y.cps.toList.length = z.length - y.length
          rw [Array.length_toList, Array.length_toList]
          rfl
        rw [e2] at t
        exact t
end
end Kp
namespace Kb
open PySem PySem.Spec PyProof.Rows L2
theorem cutV_take (xs : List V) (j : Nat) (h : j ≤ xs.length) : cutV xs none (some (j : Int)) = xs.take j := by
  unfold cutV
  rw [HT.sIx_none, show HT.sIx xs.length xs.length (some (j : Int)) = min j xs.length from HT.sIx_nat xs.length xs.length j, Nat.min_eq_left h]
  rfl
theorem cutV_drop (xs : List V) (j : Nat) (h : j ≤ xs.length) : cutV xs (some (j : Int)) none = xs.drop j := by
  unfold cutV
  rw [HT.sIx_none, show HT.sIx xs.length 0 (some (j : Int)) = min j xs.length from HT.sIx_nat xs.length 0 j, Nat.min_eq_left h]
  apply List.take_of_length_le
  rw [List.length_drop]
  exact Nat.le_refl _
theorem plV_len (r : List Nat) : (plV r).length = r.length := List.length_map ..
theorem plV_take (r : List Nat) (j : Nat) : (plV r).take j = plV (r.take j) := by
  unfold plV
  rw [List.map_take]
theorem plV_drop (r : List Nat) (j : Nat) : (plV r).drop j = plV (r.drop j) := by
  unfold plV
  rw [List.map_drop]
theorem plV_app (r s : List Nat) : plV r ++ plV s = plV (r ++ s) := by
  unfold plV
  rw [List.map_append]
theorem plV_get {r : List Nat} {i : Nat} {x : V} (h : (plV r)[i]? = some x) : ∃ p : Nat, r[i]? = some p ∧ x = .int p := by
  unfold plV at h
  rw [List.getElem?_map] at h
  obtain ⟨p, hp, rfl⟩ := Option.map_eq_some_iff.mp h
  exact ⟨p, hp, rfl⟩
end Kb
namespace Kp
open PySem PySem.Spec PyProof.Rows L2 Kb Km
abbrev nPlace : List Str := ["value", "many"]
theorem scPlace : FnScope nPlace ["value", "many"] (defScope sPlace) := ⟨rfl, rfl, rfl, by decide +kernel, rfl, by decide +kernel, by decide +kernel⟩
section
variable {P : Program} {w : World} {K : PySem.W.Frag} {mg : Str → Option Value} {base : Heap}
def spPlace : Sp := fun vs H Q _ => ∃ i m : Int, vs = [.int i, .int m] ∧ Q (.bl (decide (0 ≤ i ∧ i < m))) H
theorem ok_place {f : Addr} {fd : FuncData} {k : Nat} (F : Fun K "is_place" "is_place" sPlace f fd) (mIsi : mg "isinstance" = none) (mInt : mg "int" = none) (mBool : mg "bool" = none) :
    FnOk P w K mg base CX0 (k + 1) f fd ["value", "many"] spPlace := by
  refine F.ok scPlace (fun vs H Q E h => ?_) (fun cdv A outer s H vs Q E hr h => ?_)
  · obtain ⟨i, m, rfl, _⟩ := h
    rfl
  · obtain ⟨i, m, rfl, q⟩ := h
    refine ⟨_, pss_cons (ps_if (PW.pt (pw_or (pt_not (pt_val (pe_callB call_isi (by rfl) mIsi (by decide +kernel) (pa_cons (pv 0) (pa_cons (pe_bltn (v := .ty "int") (u := .type "int") (by rfl) mInt (by decide +kernel) rfl) pa_nil)))))
          (pw_or1 (pt_val (pe_callB call_isi (by rfl) mIsi (by decide +kernel) (pa_cons (pv 0) (pa_cons (pe_bltn (v := .ty "bool") (u := .type "bool") (by rfl) mBool (by decide +kernel) rfl) pa_nil)))))))
        (pss_one (ps_ret pe_bl)) pss_nil)
      (pss_one (ps_ret (pe_chain op_le op_lt pe_int (pv 0) (pv 1)))), ?_⟩
    refine ⟨.int i, rfl, .int i, .ty "int", .type "int", .type "int", true, rfl, .ty _, .base (.int _), kit_ty (by decide +kernel), _, rfl, ?_⟩
    refine ⟨.int i, rfl, .int i, .ty "bool", .type "int", .type "bool", false, rfl, .ty _, .base (.int _), kit_ty (by decide +kernel), _, rfl, ?_⟩
    refine ⟨.int i, rfl, 0, i, rfl, rfl, _, rfl, ite2 (fun c => ?_) (fun c => ?_)⟩
    · have c := of_decide_eq_true c
      refine ⟨.int m, rfl, i, m, rfl, rfl, ?_⟩
      have e : decide (0 ≤ i ∧ i < m) = decide (i < m) := by simp [c]
      rw [e] at q
      exact q
    · have c : ¬ 0 ≤ i := fun h => c (decide_eq_true h)
      have e : decide (0 ≤ i ∧ i < m) = false := by simp [c]
      rw [e] at q
      exact q
end
end Kp
namespace Kp
open PySem PySem.Spec PyProof.Rows L2 Kb Km
abbrev nRank : List Str := ["order", "ranks", "rank", "place"]
theorem scRank : FnScope nRank ["order"] (defScope sRank) := ⟨rfl, rfl, rfl, by decide +kernel, rfl, by decide +kernel, by decide +kernel⟩
section
variable {P : Program} {w : World} {K : PySem.W.Frag} {mg : Str → Option Value} {base : Heap}
def spRank (K : PySem.W.Frag) : Sp := fun vs H Q _ => ∃ (q : Addr) (r : List Nat), vs = [.ref q] ∧ SqT K H q (plV r) ∧ r.length < 1000 ∧ (∀ i ∈ r, i < r.length) ∧
  ∀ H' l, Same H H' → H l = none → H' l = some (.tup (plV (rk r r.length))) → Q (.ref l) H'
theorem ok_rank {f : Addr} {fd : FuncData} {k : Nat} (F : Fun K "rank_places" "rank_places" sRank f fd) (mLen : mg "len" = none) (mTuple : mg "tuple" = none) (mEnum : mg "enumerate" = none) :
    FnOk P w K mg base CX0 (k + 1) f fd ["order"] (spRank K) := by
  refine F.ok scRank (fun vs H Q E h => ?_) (fun cdv A outer s H vs Q E hr h => ?_)
  · obtain ⟨q, r, rfl, _⟩ := h
    rfl
  · obtain ⟨o, r, rfl, ho, hr1, hlt, q⟩ := h
    have pl : (plV r).length = r.length := List.length_map ..
    refine ⟨_, pss_cons (ps_set (i := 1) scRank.nd rfl (.inl rfl) (pe_op op_rep (pe_lst (pa_cons pe_int pa_nil)) (pe_callB call_len_seq (by rfl) mLen PySem.boot_len (pa_cons (pv 0) pa_nil))))
      (pss_cons (ps_for PassesOwn.never rfl (pi_enumT (by rfl) mEnum (pa_cons (pv 0) pa_nil)) (pg_tup rfl (pgs_cons (pg_name (i := 2) scRank.nd rfl (.inl rfl)) (pgs_cons (pg_name (i := 3) scRank.nd rfl (.inl rfl)) pgs_nil)))
        (pss_one (ps_asg (pv 2) (pg_sub (pv 1) (pv 3) set_list))))
      (pss_one (ps_ret (pe_callTy call_tuple_of (by rfl) mTuple (by decide +kernel) (pa_cons (pv 1) pa_nil))))), ?_⟩
    refine ⟨by show 1 ≤ sizeLine; decide, fun Z hZ => ?_⟩
    have sZ := same_new (o := .lst [V.int 0]) hZ
    have ho1 : SqT K (upd H Z (.lst [V.int 0])) o (plV r) := sZ.tup ho
    refine ⟨.ref o, rfl, o, _, rfl, .inr ho1, Z, _, _, rfl, rfl, upd_same, by omega, by omega, by show 1 * (plV r).length ≤ sizeLine; rw [pl, Nat.one_mul]; exact Nat.le_of_lt (small1000 (by omega)), fun T hT => ?_⟩
    have eF : (List.replicate (((plV r).length : Int)).toNat [V.int 0]).flatten = plV (rk r 0) := by
      rw [Int.toNat_natCast, pl]
      show _ = plV (List.replicate r.length 0)
      unfold plV
      rw [List.map_replicate]
      simp [List.flatten_replicate_singleton]
    rw [eF]
    have nT : H T = none := sZ.free hT
    have sT := same_new (o := .lst (plV (rk r 0))) hT
    refine ⟨.ref o, rfl, o, _, rfl, sT.tup ho1, for_enT (K := K) (a := o) (xs := plV r)
      (fun i σ H' => ∃ y2 y3, σ = [some (.ref o), some (.ref T), y2, y3] ∧ Same H H' ∧ H' T = some (.lst (plV (rk r i))))
      ⟨none, none, rfl, sZ.trans sT, upd_same⟩ (fun i σ H' _ h => ?_) (fun i x σ H1 T1 hx h hT1 => ?_) (fun σ H1 h => ?_)⟩
    · obtain ⟨_, _, _, h1, _⟩ := h
      exact h1.tup ho
    · obtain ⟨y2, y3, rfl, s1, e1⟩ := h
      unfold plV at hx
      rw [List.getElem?_map] at hx
      obtain ⟨p, hp, rfl⟩ := Option.map_eq_some_iff.mp hx
      have hi := (List.getElem?_eq_some_iff.mp hp).1
      have nTT : T ≠ T1 := ne_of_none e1 hT1
      refine ⟨T1, _, rfl, .inl (.inl upd_same), rfl, _, _, rfl, _, _, rfl, rfl, ?_⟩
      have hpl := hlt p (List.mem_of_getElem? hp)
      refine ⟨.int i, rfl, .ref T, rfl, .int p, rfl, T, _, _, p, rfl, rfl, by rw [upd_ne nTT]; exact e1, ixNat (by unfold plV; rw [List.length_map, rk_len]; exact hpl), ?_⟩
      refine ⟨some (.int i), some (.int p), rfl, fun b u e => ?_, ?_⟩
      · rw [upd_ne (ne_of_none e nT), upd_ne (ne_of_none (s1 _ _ e) hT1)]
        exact s1 _ _ e
      · rw [upd_same]
        unfold plV
        rw [← List.map_set (f := fun i : Nat => V.int (i : Int))]
        show _ = some (HO.lst (List.map (fun i : Nat => V.int (i : Int)) ((rk r i).set (r.getD i 0) i)))
        rw [List.getD_eq_getElem?_getD, hp]
        rfl
    · obtain ⟨y2, y3, rfl, s1, e1⟩ := h
      rw [pl] at e1
      refine ⟨.ref T, rfl, T, _, rfl, .inl ⟨.inl (.inl e1), fun l hl => ?_⟩⟩
      exact q _ l (s1.trans (same_new hl)) (s1.free hl) upd_same
end
end Kp
namespace Kp
open PySem PySem.Spec PyProof.Rows L2 Kb Km
abbrev nRanksOf : List Str := ["order"]
theorem scRanksOf : FnScope nRanksOf ["order"] (defScope sRanksOf) := ⟨rfl, rfl, rfl, by decide +kernel, rfl, by decide +kernel, by decide +kernel⟩
section
variable {P : Program} {w : World} {K : PySem.W.Frag} {mg : Str → Option Value} {base : Heap}
theorem ok_ranksOf {f fR : Addr} {fd fdR : FuncData} {k : Nat} (F : Fun K "ranks_of" "ranks_of" sRanksOf f fd) (FR : Fun K "rank_places" "rank_places" sRank fR fdR) (bR : Binds K fdR ["order"] []) (gR : mg "rank_places" = some (.ref fR))
    (mLen : mg "len" = none) (mTuple : mg "tuple" = none) (mEnum : mg "enumerate" = none) : FnOk P w K mg base CX0 (k + 2) f fd ["order"] (spRank K) := by
  have GR : FnOk P w K mg base CX0 (k + 1) fR fdR ["order"] (spRank K) := ok_rank FR mLen mTuple mEnum
  refine F.ok scRanksOf (fun vs H Q E h => ?_) (fun cdv A outer s H vs Q E hr h => ?_)
  · obtain ⟨q, r, rfl, _⟩ := h
    rfl
  · obtain ⟨o, r, rfl, h⟩ := h
    refine ⟨_, pss_one (ps_ret (pe_call GR hr (by rfl) gR FR.kp bR .nil pass0 (pa_cons (pv 0) pa_nil))), ?_⟩
    exact ⟨.ref o, rfl, o, r, rfl, h⟩
end
end Kp
namespace Km
/-- the number of first items in which two lists agree -/
def cpl : List Nat → List Nat → Nat
  | x :: a, y :: b => if x = y then cpl a b + 1 else 0
  | _, _ => 0
theorem cpl_of : ∀ (k : Nat) (a b : List Nat), k ≤ a.length → k ≤ b.length → (∀ i, i < k → a[i]? = b[i]?) → (k = a.length ∨ k = b.length ∨ a[k]? ≠ b[k]?) → cpl a b = k
  | 0, [], _, _, _, _, _ => by simp [cpl]
  | 0, _ :: _, [], _, _, _, _ => by simp [cpl]
  | 0, x :: a, y :: b, _, _, _, h => by
    have ne : x ≠ y := by
      rcases h with h | h | h
      · simp at h
      · simp at h
      · simpa using h
    simp [cpl, ne]
  | k + 1, [], _, h, _, _, _ => by simp at h
  | k + 1, _ :: _, [], _, h, _, _ => by simp at h
  | k + 1, x :: a, y :: b, h1, h2, h3, h4 => by
    have e : x = y := by simpa using h3 0 (by omega)
    have ih := cpl_of k a b (by simpa using h1) (by simpa using h2) (fun i hi => by simpa using h3 (i + 1) (by omega)) (by simpa using h4)
    simp [cpl, e, ih]
theorem cpl_le_left : ∀ (a b : List Nat), cpl a b ≤ a.length
  | [], _ => by simp [cpl]
  | _ :: _, [] => by simp [cpl]
  | x :: a, y :: b => by
    have := cpl_le_left a b
    unfold cpl
    split
    · simpa using this
    · simp
/-- the common lengths of neighbours -/
def hds (L r : List Nat) : List Nat := (List.range (r.length - 1)).map fun k => cpl (L.drop (r.getD k 0)) (L.drop (r.getD (k + 1) 0))
theorem hds_len (L r : List Nat) : (hds L r).length = r.length - 1 := by
  unfold hds
  rw [List.length_map, List.length_range]
end Km
namespace Kp
open PySem PySem.Spec PyProof.Rows L2 Kb Km
abbrev nCheck : List Str := ["value", "many"]
theorem scCheck : FnScope nCheck ["value", "many"] (defScope sCheck) := ⟨rfl, rfl, rfl, by decide +kernel, rfl, by decide +kernel, by decide +kernel⟩
abbrev nCLen : List Str := ["word", "one", "other", "length", "left", "right"]
theorem scCLen : FnScope nCLen ["word", "one", "other"] (defScope sCLen) := ⟨rfl, rfl, rfl, by decide +kernel, rfl, by decide +kernel, by decide +kernel⟩
abbrev nHeads : List Str := ["word", "order", "k"]
theorem scHeads : FnScope nHeads ["word"] (defScope sHeads) := ⟨rfl, rfl, rfl, by decide +kernel, rfl, by decide +kernel, by decide +kernel⟩
section
variable {P : Program} {w : World} {K : PySem.W.Frag} {mg : Str → Option Value} {base : Heap}
def spCheck : Sp := fun vs H Q _ => ∃ i m : Int, vs = [.int i, .int m] ∧ 0 ≤ i ∧ i < m ∧ Q .non H
theorem ok_check {f fPl : Addr} {fd fdPl : FuncData} {k : Nat} (F : Fun K "check_place" "check_place" sCheck f fd) (FPl : Fun K "is_place" "is_place" sPlace fPl fdPl) (bPl : Binds K fdPl ["value", "many"] []) (gPl : mg "is_place" = some (.ref fPl))
    (mIsi : mg "isinstance" = none) (mInt : mg "int" = none) (mBool : mg "bool" = none) : FnOk P w K mg base CX0 (k + 2) f fd ["value", "many"] spCheck := by
  have GPl : FnOk P w K mg base CX0 (k + 1) fPl fdPl ["value", "many"] spPlace := ok_place FPl mIsi mInt mBool
  refine F.ok scCheck (fun vs H Q E h => ?_) (fun cdv A outer s H vs Q E hr h => ?_)
  · obtain ⟨i, m, rfl, _⟩ := h
    rfl
  · obtain ⟨i, m, rfl, h0, h1, q⟩ := h
    refine ⟨_, pss_one (ps_if (pt_not (pt_val (pe_call GPl hr (by rfl) gPl FPl.kp bPl .nil pass0 (pa_cons (pv 0) (pa_cons (pv 1) pa_nil))))) pss_never pss_nil), ?_⟩
    refine ⟨.int i, rfl, .int m, rfl, i, m, rfl, _, rfl, ?_⟩
    rw [decide_eq_true (show 0 ≤ i ∧ i < m from ⟨h0, h1⟩)]
    exact q
def spCLen : Sp := fun vs H Q _ => ∃ (z : Str) (i j : Nat), vs = [.str z, .int i, .int j] ∧ z.length < 1000 ∧ i < z.length ∧ j < z.length ∧
  ∀ H', Same H H' → Q (.int (cpl (z.cps.toList.drop i) (z.cps.toList.drop j) : Nat)) H'
theorem tl_sg (z : Str) (i : Nat) : ((tlS z i).cps.toList.map sgV) = (z.cps.toList.drop i).map sgV := by rw [tlS_list]
theorem ok_clen {f fPl fCP : Addr} {fd fdPl fdCP : FuncData} {k : Nat} (F : Fun K "common_length" "common_length" sCLen f fd) (FCP : Fun K "check_place" "check_place" sCheck fCP fdCP) (FPl : Fun K "is_place" "is_place" sPlace fPl fdPl)
    (bCP : Binds K fdCP ["value", "many"] []) (bPl : Binds K fdPl ["value", "many"] []) (gCP : mg "check_place" = some (.ref fCP)) (gPl : mg "is_place" = some (.ref fPl))
    (mIsi : mg "isinstance" = none) (mInt : mg "int" = none) (mBool : mg "bool" = none) (mLen : mg "len" = none) (mZip : mg "zip" = none) : FnOk P w K mg base CX0 (k + 3) f fd ["word", "one", "other"] spCLen := by
  have GCP : FnOk P w K mg base CX0 (k + 2) fCP fdCP ["value", "many"] spCheck := ok_check FCP FPl bPl gPl mIsi mInt mBool
  refine F.ok scCLen (fun vs H Q E h => ?_) (fun cdv A outer s H vs Q E hr h => ?_)
  · obtain ⟨z, i, j, rfl, _⟩ := h
    rfl
  · obtain ⟨z, i, j, rfl, hz, hi, hj, q⟩ := h
    have zs : z.length ≤ sizeLine := Nat.le_of_lt (small1000 (by omega))
    refine ⟨_, pss_cons (ps_expr (pe_call GCP hr (by rfl) gCP FCP.kp bCP .nil pass0 (pa_cons (pv 1) (pa_cons (pe_callB call_len_str (by rfl) mLen PySem.boot_len (pa_cons (pv 0) pa_nil)) pa_nil))))
      (pss_cons (ps_expr (pe_call GCP hr (by rfl) gCP FCP.kp bCP .nil pass0 (pa_cons (pv 2) (pa_cons (pe_callB call_len_str (by rfl) mLen PySem.boot_len (pa_cons (pv 0) pa_nil)) pa_nil))))
      (pss_cons (ps_set (i := 3) scCLen.nd rfl (.inl rfl) pe_int)
      (pss_cons (ps_for PassesOwn.never rfl (pi_zipS (by rfl) mZip (pa_cons (pe_slice sl_str (pv 0) (po_some (pv 1)) po_none) (pa_cons (pe_slice sl_str (pv 0) (po_some (pv 2)) po_none) pa_nil)))
          (pg_tup rfl (pgs_cons (pg_name (i := 4) scCLen.nd rfl (.inl rfl)) (pgs_cons (pg_name (i := 5) scCLen.nd rfl (.inl rfl)) pgs_nil)))
        (pss_cons (ps_if (pt_cmpR op_ne (pv 4) (pv 5) (nomark _)) (pss_one (ps_ret (pv 3))) pss_nil)
        (pss_one (ps_aug (i := 3) scCLen.nd rfl (.inl rfl) pe_int ip_add))))
      (pss_one (ps_ret (pv 3)))))), ?_⟩
    refine ⟨.int i, rfl, .str z, rfl, z, rfl, zs, _, _, rfl, by omega, by omega, .int j, rfl, .str z, rfl, z, rfl, zs, _, _, rfl, by omega, by omega, ?_⟩
    refine ⟨.str z, rfl, .int i, rfl, _, rfl, z, rfl, zs, .str z, rfl, .int j, rfl, _, rfl, z, rfl, zs, ?_⟩
    rw [cut_tl z i (by omega), cut_tl z j (by omega)]
    generalize ea : z.cps.toList.drop i = a at q
    generalize eb : z.cps.toList.drop j = b at q
    refine ⟨.t (tlS z i), .t (tlS z j), a.map sgV, b.map sgV, rfl, by rw [← ea]; exact (tl_sg z i).symm, by rw [← eb]; exact (tl_sg z j).symm, ?_⟩
    refine for_it (walk_zipS (n := min a.length b.length) (xs := a.map sgV) (ys := b.map sgV) (by rw [List.length_map, List.length_map]))
      (fun k σ H' => ∃ y4 y5, σ = [some (.str z), some (.int i), some (.int j), some (.int k), y4, y5] ∧ Same H H' ∧ ∀ m, m < k → a[m]? = b[m]?)
      ⟨none, none, rfl, fun _ _ e => e, fun m h => absurd h (Nat.not_lt_zero _)⟩ (fun k σ H' _ h => ⟨by rw [← ea]; exact (tl_sg z i).symm, by rw [← eb]; exact (tl_sg z j).symm⟩) (fun k x σ H1 H2 hk h hy => ?_) (fun σ H1 h => ?_)
    · obtain ⟨y4, y5, rfl, s1, e1⟩ := h
      obtain ⟨T, u, v, rfl, hT, rfl, hu, hv⟩ := hy
      dsimp only at hu hv
      rw [List.getElem?_map] at hu hv
      obtain ⟨c, hc, rfl⟩ := Option.map_eq_some_iff.mp hu
      obtain ⟨d, hd, rfl⟩ := Option.map_eq_some_iff.mp hv
      have s2 := s1.trans (same_new (o := .tup [sgV c, sgV d]) hT)
      refine ⟨T, _, rfl, .inl (.inl upd_same), rfl, _, _, rfl, _, _, rfl, rfl, ?_⟩
      refine ⟨sgV c, rfl, sgV d, rfl, rfl, _, rfl, ?_⟩
      by_cases cd : c = d
      · subst cd
        refine iteNS rfl ⟨_, rfl, _, 1, rfl, rfl, _, _, rfl, s2, fun m hm => ?_⟩
        by_cases e : m = k
        · rw [e, hc, hd]
        · exact e1 m (by omega)
      · have ne : ¬ sgV c = sgV d := by
          intro e
          have e := V.str.inj e
          have e := congrArg (fun z : Str => z.cps.toList) e
          exact cd (by simpa using e)
        rw [decide_eq_false ne]
        refine iteT ⟨_, rfl, ?_⟩
        have ec := cpl_of k a b (by omega) (by omega) e1 (.inr (.inr (by rw [hc, hd]; simpa using cd)))
        rw [ec] at q
        exact q _ s2
    · obtain ⟨y4, y5, rfl, s1, e1⟩ := h
      refine ⟨_, rfl, ?_⟩
      have ec := cpl_of (min a.length b.length) a b (by omega) (by omega) e1 (by omega)
      rw [ec] at q
      exact q _ s1
def spHeads : Sp := fun vs H Q _ => ∃ z : Str, vs = [.str z] ∧ z.length < 64 ∧
  ∀ H' q r, Same H H' → H q = none → H' q = some (.tup (plV (hds z.cps.toList r))) → TailOrd z.cps.toList r → Q (.ref q) H'
theorem ok_heads {f fPl fCP fCL fO : Addr} {fd fdPl fdCP fdCL fdO : FuncData} {k : Nat} (F : Fun K "heads_of" "heads_of" sHeads f fd) (FCL : Fun K "common_length" "common_length" sCLen fCL fdCL) (FCP : Fun K "check_place" "check_place" sCheck fCP fdCP) (FPl : Fun K "is_place" "is_place" sPlace fPl fdPl) (FO : Fun K "tail_order" "tail_order" sOrder fO fdO)
    (bCL : Binds K fdCL ["word", "one", "other"] []) (bCP : Binds K fdCP ["value", "many"] []) (bPl : Binds K fdPl ["value", "many"] []) (bO : Binds K fdO ["word"] []) (gCL : mg "common_length" = some (.ref fCL)) (gCP : mg "check_place" = some (.ref fCP)) (gPl : mg "is_place" = some (.ref fPl)) (gO : mg "tail_order" = some (.ref fO))
    (mIsi : mg "isinstance" = none) (mInt : mg "int" = none) (mBool : mg "bool" = none) (mLen : mg "len" = none) (mZip : mg "zip" = none) (mRange : mg "range" = none) (mSorted : mg "sorted" = none) (mTuple : mg "tuple" = none) : FnOk P w K mg base CX0 (k + 4) f fd ["word"] spHeads := by
  have GCL : FnOk P w K mg base CX0 (k + 3) fCL fdCL ["word", "one", "other"] spCLen := ok_clen FCL FCP FPl bCP bPl gCP gPl mIsi mInt mBool mLen mZip
  have GO : FnOk P w K mg base CX0 (k + 3) fO fdO ["word"] spOrder := ok_order FO mLen mRange mSorted mTuple
  refine F.ok scHeads (fun vs H Q E h => ?_) (fun cdv A outer s H vs Q E hr h => ?_)
  · obtain ⟨z, rfl, _⟩ := h
    rfl
  · obtain ⟨z, rfl, hz, q⟩ := h
    refine ⟨_, pss_cons (ps_set (i := 1) scHeads.nd rfl (.inr rfl) (pe_call GO hr (by rfl) gO FO.kp bO .nil pass0 (pa_cons (pv 0) pa_nil)))
      (pss_one (ps_ret (pe_callTy call_tuple_of (by rfl) mTuple (by decide +kernel) (pa_cons
        (pe_lc (own := [("k", 2)]) (g := gName 2) (tt := tYes) rfl scHeads.nd (pi_range2 (by rfl) mRange (pa_cons pe_int (pa_cons (pe_callB call_len_seq (by rfl) mLen PySem.boot_len (pa_cons (pv 1) pa_nil)) pa_nil)))
          (blkOk_by (N := nHeads) (sc := defScope sHeads) (by decide +kernel)) (fun _ _ _ _ _ => pg_name (i := 2) scHeads.nd rfl (Or.inl rfl)) (fun _ _ _ _ _ => pts_nil)
          (fun _ _ _ _ _ => pe_call GCL hr (by rfl) gCL FCL.kp bCL .nil pass0 (pa_cons (pv 0) (pa_cons (pe_ix (r := rIxT K) ix_tup (pv 1) (pe_op op_sub (pv 2) pe_int) (fun _ _ => rfl)) (pa_cons (pe_ix (r := rIxT K) ix_tup (pv 1) (pv 2) (fun _ _ => rfl)) pa_nil))))) pa_nil)))), ?_⟩
    refine ⟨.str z, rfl, z, rfl, hz, fun H1 o r s1 no eo t => ?_⟩
    have rl : r.length = z.length := t.len.trans Array.length_toList
    have pl := plV_len r
    have b0 : ∀ k, k < r.length → r.getD k 0 < z.length := fun k hk => by
      rw [List.getD_eq_getElem?_getD, List.getElem?_eq_getElem hk]
      have := t.ord.lt (List.getElem_mem hk)
      exact Nat.lt_of_lt_of_eq this rl
    have at' : ∀ k, k < r.length → (plV r)[k]? = some (V.int (r.getD k 0 : Nat)) := fun k hk => by
      unfold plV
      rw [List.getElem?_map, List.getD_eq_getElem?_getD, List.getElem?_eq_getElem hk]
      rfl
    refine ⟨.ref o, rfl, o, _, rfl, .inr (.inl (.inl eo)), 1, _, rfl, ⟨by decide, by decide, by omega, by rw [pl]; omega⟩, fun D hD => lc_range (lo := 1) (n := (((plV r).length : Int) - 1).toNat)
      (fun j H' => Same H1 H' ∧ H' D = some (.lst (plV ((List.range j).map fun k => cpl (z.cps.toList.drop (r.getD k 0)) (z.cps.toList.drop (r.getD (k + 1) 0)))))) ⟨same_new hD, upd_same⟩ (fun j H' hj h => ?_) (fun H2 h => ?_)⟩
    · obtain ⟨h1, h2⟩ := h
      rw [pl] at hj
      have ho' : SqT K H' o (plV r) := .inl (.inl (h1 _ _ eo))
      refine ⟨rfl, .str z, rfl, .ref o, rfl, .int (1 + j), rfl, _, 1, rfl, rfl, o, _, _, _, rfl, rfl, ho', at_of (j := j) (by omega) (at' j (by omega)), .ref o, rfl, .int (1 + j), rfl, o, _, _, _, rfl, rfl, ho', at_of (j := j + 1) (by omega) (at' (j + 1) (by omega)), z, _, _, rfl, by omega, b0 j (by omega), b0 (j + 1) (by omega), fun H3 s3 => ?_⟩
      refine ⟨_, s3 _ _ h2, ?_, fun b o e => ?_, ?_⟩
      · rw [plV_len, List.length_map, List.length_range]
        exact small1000 (by omega)
      · rw [upd_ne (ne_of_none e hD)]
        exact s3 _ _ (h1 _ _ e)
      · rw [upd_same, List.range_succ, List.map_append]
        unfold plV
        rw [List.map_append]
        rfl
    · obtain ⟨s2, e2⟩ := h
      refine ⟨D, _, rfl, .inl ⟨.inl (.inl e2), fun l hl => ?_⟩⟩
      refine q _ l r (s1.trans (s2.trans (same_new hl))) (s1.free (s2.free hl)) ?_ t
      rw [upd_same]
      unfold hds
      have en : (((plV r).length : Int) - 1).toNat = r.length - 1 := by
        rw [pl]
        omega
      rw [en]
end
end Kp
namespace Km
theorem cpl_self : ∀ a : List Nat, cpl a a = a.length
  | [] => by simp [cpl]
  | x :: a => by simp [cpl, cpl_self a]
theorem cpl_comm : ∀ a b : List Nat, cpl a b = cpl b a
  | [], [] => rfl
  | [], _ :: _ => by simp [cpl]
  | _ :: _, [] => by simp [cpl]
  | x :: a, y :: b => by
    by_cases e : x = y
    · simp [cpl, e, cpl_comm a b]
    · have e' : ¬ y = x := fun z => e z.symm
      simp [cpl, e, e']
theorem cpl_mid : ∀ a b c : List Nat, a < b → b < c → cpl a c = min (cpl a b) (cpl b c)
  | [], b, c, _, _ => by simp [cpl]
  | x :: a, [], _, h, _ => absurd h (List.not_lt_nil _)
  | x :: a, y :: b, [], _, h => absurd h (List.not_lt_nil _)
  | x :: a, y :: b, z :: c, h1, h2 => by
    rw [List.cons_lt_cons_iff] at h1 h2
    rcases h1 with h1 | ⟨rfl, h1⟩
    · have n1 : ¬ x = y := by omega
      have n2 : ¬ x = z := by
        rcases h2 with h2 | ⟨h2, _⟩ <;> omega
      simp [cpl, n1, n2]
    · rcases h2 with h2 | ⟨rfl, h2⟩
      · have n2 : ¬ x = z := by omega
        simp [cpl, n2]
      · have ih := cpl_mid a b c h1 h2
        simp only [cpl, if_true]
        omega
theorem cpl_pos {L : List Nat} {i j : Nat} (h : 0 < cpl (L.drop i) (L.drop j)) (lt : L.drop i < L.drop j) : cpl (L.drop i) (L.drop j) = cpl (L.drop (i + 1)) (L.drop (j + 1)) + 1 ∧ L.drop (i + 1) < L.drop (j + 1) := by
  have ti : L.drop (i + 1) = (L.drop i).tail := by rw [List.tail_drop]
  have tj : L.drop (j + 1) = (L.drop j).tail := by rw [List.tail_drop]
  rw [ti, tj]
  revert h lt
  cases L.drop i with
  | nil => intro h; simp [cpl] at h
  | cons x a =>
    cases L.drop j with
    | nil => intro h; simp [cpl] at h
    | cons y b =>
      intro h lt
      by_cases e : x = y
      · subst e
        rw [List.cons_lt_cons_iff] at lt
        rcases lt with lt | ⟨_, lt⟩
        · omega
        · exact ⟨by simp [cpl], lt⟩
      · simp [cpl, e] at h
theorem TailOrd.at_lt {L r : List Nat} (h : TailOrd L r) {i j : Nat} (hij : i < j) (hj : j < r.length) : L.drop (r.getD i 0) < L.drop (r.getD j 0) := by
  rw [List.getD_eq_getElem?_getD, List.getD_eq_getElem?_getD, List.getElem?_eq_getElem hj, List.getElem?_eq_getElem (by omega)]
  exact List.pairwise_iff_getElem.mp h.2 i j (by omega) hj hij
theorem hds_at {L r : List Nat} {k : Nat} (h : k + 1 < r.length) : (hds L r).getD k 0 = cpl (L.drop (r.getD k 0)) (L.drop (r.getD (k + 1) 0)) := by
  unfold hds
  rw [List.getD_eq_getElem?_getD, List.getElem?_map, List.getElem?_range (by omega)]
  rfl
theorem TailOrd.mins {L r : List Nat} (h : TailOrd L r) (low : Nat) : ∀ d, low + d + 1 < r.length →
    (∃ k, low ≤ k ∧ k < low + d + 1 ∧ cpl (L.drop (r.getD low 0)) (L.drop (r.getD (low + d + 1) 0)) = (hds L r).getD k 0) ∧
    ∀ k, low ≤ k → k < low + d + 1 → cpl (L.drop (r.getD low 0)) (L.drop (r.getD (low + d + 1) 0)) ≤ (hds L r).getD k 0
  | 0, hl => by
    refine ⟨⟨low, Nat.le_refl _, by omega, (hds_at hl).symm⟩, fun k h1 h2 => ?_⟩
    have e : k = low := by omega
    rw [e, hds_at hl]
    exact Nat.le_refl _
  | d + 1, hl => by
    obtain ⟨⟨k0, a1, a2, a3⟩, ih⟩ := h.mins low d (by omega)
    have m := cpl_mid _ _ _ (h.at_lt (show low < low + d + 1 by omega) (by omega)) (h.at_lt (show low + d + 1 < low + (d + 1) + 1 by omega) hl)
    have e : (hds L r).getD (low + d + 1) 0 = _ := hds_at (L := L) (show low + d + 1 + 1 < r.length by omega)
    rw [show low + (d + 1) + 1 = low + d + 1 + 1 by omega] at m ⊢
    rw [m]
    refine ⟨?_, fun k h1 h2 => ?_⟩
    · by_cases c : cpl (L.drop (r.getD low 0)) (L.drop (r.getD (low + d + 1) 0)) ≤ cpl (L.drop (r.getD (low + d + 1) 0)) (L.drop (r.getD (low + d + 1 + 1) 0))
      · exact ⟨k0, a1, by omega, by rw [Nat.min_eq_left c]; exact a3⟩
      · exact ⟨low + d + 1, by omega, by omega, by rw [Nat.min_eq_right (by omega)]; exact e.symm⟩
    · by_cases c : k = low + d + 1
      · rw [c, e]
        exact Nat.min_le_right _ _
      · exact Nat.le_trans (Nat.min_le_left _ _) (ih k h1 (by omega))
/-- the rank of a lesser tail is less -/
theorem TailOrd.rk_lt {L r : List Nat} (h : TailOrd L r) {i j : Nat} (hi : i < r.length) (hj : j < r.length) (lt : L.drop i < L.drop j) : ∃ a b : Nat, (rk r r.length)[i]? = some a ∧ (rk r r.length)[j]? = some b ∧ a < b := by
  obtain ⟨a, ha, rfl⟩ := List.getElem_of_mem (h.ord.mem hi)
  obtain ⟨b, hb, rfl⟩ := List.getElem_of_mem (h.ord.mem hj)
  refine ⟨a, b, h.ord.rk_at a ha, h.ord.rk_at b hb, ?_⟩
  rcases Nat.lt_trichotomy a b with c | c | c
  · exact c
  · subst c
    exact absurd lt (List.lt_irrefl _)
  · exact absurd (List.pairwise_iff_getElem.mp h.2 b a hb ha c) (List.lt_asymm lt)
end Km
namespace Kp
open PySem PySem.Spec PyProof.Rows L2 Kb Km
abbrev nLaw : List Str := ["_law_script", "_law_stream_here", "_law_turn", "_law_word", "_law_order", "_law_heads", "_law_size", "_law_ranks", "_law_low", "_law_high", "_law_due", "_law_k", "_law_one", "_law_other", "_law_rest"]
theorem scLaw : FnScope nLaw ["_law_script"] (defScope sLaw) := ⟨rfl, rfl, rfl, by decide +kernel, rfl, by decide +kernel, by decide +kernel⟩
theorem plV_at {r : List Nat} {k : Nat} (hk : k < r.length) : (plV r)[k]? = some (V.int (r.getD k 0 : Nat)) := by
  unfold plV
  rw [List.getElem?_map, List.getD_eq_getElem?_getD, List.getElem?_eq_getElem hk]
  rfl
theorem plV_ints (r : List Nat) : plV r = (r.map fun i : Nat => (i : Int)).map V.int := by
  unfold plV
  rw [List.map_map]
  rfl
theorem cutV_mid (xs : List V) (i j : Nat) (h1 : i ≤ j) (h2 : j ≤ xs.length) : cutV xs (some (i : Int)) (some (j : Int)) = (xs.drop i).take (j - i) := by
  unfold cutV
  rw [show HT.sIx xs.length 0 (some (i : Int)) = min i xs.length from HT.sIx_nat xs.length 0 i, show HT.sIx xs.length xs.length (some (j : Int)) = min j xs.length from HT.sIx_nat xs.length xs.length j, Nat.min_eq_left h2, Nat.min_eq_left (by omega)]
theorem mem_mid {r : List Nat} {i j x : Nat} (h2 : j ≤ r.length) : x ∈ (r.drop i).take (j - i) ↔ ∃ k, i ≤ k ∧ k < j ∧ r.getD k 0 = x := by
  constructor
  · intro h
    obtain ⟨m, hm, rfl⟩ := List.getElem_of_mem h
    rw [List.length_take, List.length_drop] at hm
    refine ⟨i + m, by omega, by omega, ?_⟩
    rw [List.getElem_take, List.getElem_drop, List.getD_eq_getElem?_getD, List.getElem?_eq_getElem (by omega)]
    rfl
  · rintro ⟨k, h3, h4, rfl⟩
    rw [List.getD_eq_getElem?_getD, List.getElem?_eq_getElem (by omega)]
    refine List.mem_iff_getElem.mpr ⟨k - i, by rw [List.length_take, List.length_drop]; omega, ?_⟩
    rw [List.getElem_take, List.getElem_drop]
    show r[i + (k - i)] = r[k]
    congr 1
    omega
section
variable {P : Program} {w : World} {K : PySem.W.Frag} {mg : Str → Option Value} {base : Heap}
theorem law_body {f fPl fCP fR fO fRO fCL fHO fS fD fP fW : Addr} {fdPl fdCP fdR fdO fdRO fdCL fdHO fdS fdD fdP fdW : FuncData} {cdv : Value} {s : Shared} {H : Hp} {a : Addr} {ns : List Int}
    (FPl : Fun K "is_place" "is_place" sPlace fPl fdPl) (FCP : Fun K "check_place" "check_place" sCheck fCP fdCP) (FR : Fun K "rank_places" "rank_places" sRank fR fdR) (FO : Fun K "tail_order" "tail_order" sOrder fO fdO) (FRO : Fun K "ranks_of" "ranks_of" sRanksOf fRO fdRO) (FCL : Fun K "common_length" "common_length" sCLen fCL fdCL) (FHO : Fun K "heads_of" "heads_of" sHeads fHO fdHO) (FS : Fun K "_law_stream" "_law_stream" sStream fS fdS) (FD : Fun K "_law_draw" "_law_draw" sDraw fD fdD) (FP : Fun K "_law_pick" "_law_pick" sPick fP fdP) (FW : Fun K "_law_drawn" "_law_drawn" sDrawn fW fdW)
    (bPl : Binds K fdPl ["value", "many"] []) (bCP : Binds K fdCP ["value", "many"] []) (bR : Binds K fdR ["order"] []) (bO : Binds K fdO ["word"] []) (bRO : Binds K fdRO ["order"] []) (bCL : Binds K fdCL ["word", "one", "other"] []) (bHO : Binds K fdHO ["word"] []) (bS : Binds K fdS ["_law_script"] []) (bD : Binds K fdD ["_law_stream_here", "_law_many"] []) (bP : Binds K fdP ["_law_stream_here", "_law_items"] []) (bW : Binds K fdW ["_law_stream_here", "_law_most"] [])
    (gPl : mg "is_place" = some (.ref fPl)) (gCP : mg "check_place" = some (.ref fCP)) (gR : mg "rank_places" = some (.ref fR)) (gO : mg "tail_order" = some (.ref fO)) (gRO : mg "ranks_of" = some (.ref fRO)) (gCL : mg "common_length" = some (.ref fCL)) (gHO : mg "heads_of" = some (.ref fHO)) (gS : mg "_law_stream" = some (.ref fS)) (gD : mg "_law_draw" = some (.ref fD)) (gP : mg "_law_pick" = some (.ref fP)) (gW : mg "_law_drawn" = some (.ref fW))
    (m_len : mg "len" = none) (m_range : mg "range" = none) (m_min : mg "min" = none) (m_abs : mg "abs" = none) (m_sorted : mg "sorted" = none) (m_tuple : mg "tuple" = none) (m_enumerate : mg "enumerate" = none) (m_isinstance : mg "isinstance" = none) (m_int : mg "int" = none) (m_bool : mg "bool" = none) (m_zip : mg "zip" = none) (m_max : mg "max" = none)
    (hS : SqL K H a (ns.map V.int)) (hn : ns.length ≤ 63) :
    ∃ t, PSs (cxOf CX0 P w K mg base nLaw "law" (defScope sLaw) f cdv callerA [] s H E0).nox (defBody sLaw) t ∧
      t { nx := fun _ H' => (fun v (_ : Hp) => v = V.bl true) .non H', rt := fun v _ => v = .bl true } (start nLaw [.ref a]) H := by
  have GS : FnOk P w K mg base CX0 1 fS fdS ["_law_script"] (spStream K) := ok_stream FS m_abs m_len
  have GW : FnOk P w K mg base CX0 3 fW fdW ["_law_stream_here", "_law_most"] spDrawn := ok_drawn FW FD FP bD bP gD gP m_len m_range m_min
  have GO : FnOk P w K mg base CX0 1 fO fdO ["word"] spOrder := ok_order FO m_len m_range m_sorted m_tuple
  have GRO : FnOk P w K mg base CX0 2 fRO fdRO ["order"] (spRank K) := ok_ranksOf FRO FR bR gR m_len m_tuple m_enumerate
  have GCL : FnOk P w K mg base CX0 3 fCL fdCL ["word", "one", "other"] spCLen := ok_clen FCL FCP FPl bCP bPl gCP gPl m_isinstance m_int m_bool m_len m_zip
  have GHO : FnOk P w K mg base CX0 4 fHO fdHO ["word"] spHeads := ok_heads FHO FCL FCP FPl FO bCL bCP bPl bO gCL gCP gPl gO m_isinstance m_int m_bool m_len m_zip m_range m_sorted m_tuple
  have hr : Room 4 (callerA.deeper (envOfC "law" (defScope sLaw) s.heap.objs.size f cdv)) := Room.deeper (k := 4) ⟨rfl, by decide, by decide⟩ _
  have hr3 := hr.mono (show 3 ≤ 4 by decide)
  have hr2 := hr.mono (show 2 ≤ 4 by decide)
  have hr1 := hr.mono (show 1 ≤ 4 by decide)
  refine ⟨_, (pss_cons (ps_set (i := 1) scLaw.nd rfl (.inl rfl) (pe_call GS hr1 (by rfl) gS FS.kp bS .nil pass0 (pa_cons (pv 0) pa_nil)))
      (pss_cons (ps_for PassesOwn.never rfl (pi_range1 (by rfl) m_range (pa_cons pe_int pa_nil)) (pg_name (i := 2) scLaw.nd rfl (.inl rfl)) (pss_cons (ps_set (i := 3) scLaw.nd rfl (.inl rfl) (pe_call GW hr3 (by rfl) gW FW.kp bW .nil pass0 (pa_cons (pv 1) (pa_cons (pe_ix (r := rIxL K) ix_list (pe_lst (pa_cons pe_int (pa_cons pe_int (pa_cons pe_int (pa_cons pe_int pa_nil))))) (pv 2) (fun _ _ => rfl)) pa_nil))))
      (pss_cons (ps_par3 (i := 4) (j := 5) (l := 6) rfl scLaw.nd rfl rfl rfl (by decide) (by decide) (by decide) rfl rfl rfl (pa_cons (pe_call GO hr1 (by rfl) gO FO.kp bO .nil pass0 (pa_cons (pv 3) pa_nil)) (pa_cons (pe_call GHO hr (by rfl) gHO FHO.kp bHO .nil pass0 (pa_cons (pv 3) pa_nil)) (pa_cons (pe_callB call_len_str (by rfl) m_len PySem.boot_len (pa_cons (pv 3) pa_nil)) pa_nil))) (by rfl))
      (pss_cons (ps_set (i := 7) scLaw.nd rfl (.inl rfl) (pe_call GRO hr2 (by rfl) gRO FRO.kp bRO .nil pass0 (pa_cons (pv 4) pa_nil)))
      (pss_cons (ps_for PassesOwn.never rfl (pi_range1 (by rfl) m_range (pa_cons (pv 6) pa_nil)) (pg_name (i := 8) scLaw.nd rfl (.inl rfl)) (pss_cons (ps_if (pt_cmpR op_ne (pe_call GCL hr3 (by rfl) gCL FCL.kp bCL .nil pass0 (pa_cons (pv 3) (pa_cons (pe_ix (r := rIxT K) ix_tup (pv 4) (pv 8) (fun _ _ => rfl)) (pa_cons (pe_ix (r := rIxT K) ix_tup (pv 4) (pv 8) (fun _ _ => rfl)) pa_nil)))) (pe_op op_sub (pv 6) (pe_ix (r := rIxT K) ix_tup (pv 4) (pv 8) (fun _ _ => rfl))) (nomark _)) (pss_one (ps_ret pe_bl)) pss_nil)
      (pss_one (ps_for PassesOwn.never rfl (pi_range2 (by rfl) m_range (pa_cons (pe_op op_add (pv 8) pe_int) (pa_cons (pv 6) pa_nil))) (pg_name (i := 9) scLaw.nd rfl (.inl rfl)) (pss_cons (ps_set (i := 10) scLaw.nd rfl (.inl rfl) (pe_callB (cr_minT rfl) (by rfl) m_min (by decide +kernel) (pa_cons (pe_slice sl_tupA (pv 5) (po_some (pv 8)) (po_some (pv 9))) pa_nil)))
      (pss_cons (ps_if (pt_cmpR op_ne (pe_call GCL hr3 (by rfl) gCL FCL.kp bCL .nil pass0 (pa_cons (pv 3) (pa_cons (pe_ix (r := rIxT K) ix_tup (pv 4) (pv 8) (fun _ _ => rfl)) (pa_cons (pe_ix (r := rIxT K) ix_tup (pv 4) (pv 9) (fun _ _ => rfl)) pa_nil)))) (pv 10) (nomark _)) (pss_one (ps_ret pe_bl)) pss_nil)
      (pss_one (ps_if (pt_cmpR op_ne (pe_call GCL hr3 (by rfl) gCL FCL.kp bCL .nil pass0 (pa_cons (pv 3) (pa_cons (pe_ix (r := rIxT K) ix_tup (pv 4) (pv 9) (fun _ _ => rfl)) (pa_cons (pe_ix (r := rIxT K) ix_tup (pv 4) (pv 8) (fun _ _ => rfl)) pa_nil)))) (pv 10) (nomark _)) (pss_one (ps_ret pe_bl)) pss_nil))))))))
      (pss_one (ps_for PassesOwn.never rfl (pi_range2 (by rfl) m_range (pa_cons pe_int (pa_cons (pv 6) pa_nil))) (pg_name (i := 11) scLaw.nd rfl (.inl rfl)) (pss_cons (ps_par (i := 12) (j := 13) (by rfl) scLaw.nd rfl rfl (by decide) rfl rfl (pa_cons (pe_op op_add (pe_ix (r := rIxT K) ix_tup (pv 4) (pe_op op_sub (pv 11) pe_int) (fun _ _ => rfl)) pe_int) (pa_cons (pe_op op_add (pe_ix (r := rIxT K) ix_tup (pv 4) (pv 11) (fun _ _ => rfl)) pe_int) pa_nil)) (by rfl))
      (pss_one (ps_if (pt_cmpR op_gt (pe_ix (r := rIxT K) ix_tup (pv 5) (pe_op op_sub (pv 11) pe_int) (fun _ _ => rfl)) pe_int (nomark _)) (pss_cons (ps_set (i := 14) scLaw.nd rfl (.inl rfl) (pe_ifExp (pt_cmpR op_lt (pe_callB (call_max2 rfl) (by rfl) m_max (by decide +kernel) (pa_cons (pv 12) (pa_cons (pv 13) pa_nil))) (pv 6) (nomark _)) (pe_call GCL hr3 (by rfl) gCL FCL.kp bCL .nil pass0 (pa_cons (pv 3) (pa_cons (pv 12) (pa_cons (pv 13) pa_nil)))) pe_int))
      (pss_one (ps_if (PW.pt (pw_or (pt_cmpR op_ne (pe_ix (r := rIxT K) ix_tup (pv 5) (pe_op op_sub (pv 11) pe_int) (fun _ _ => rfl)) (pe_op op_add pe_int (pv 14)) (nomark _)) (pw_or1 (PW.pt (pw_and (pt_cmpR op_lt (pv 12) (pv 6) (nomark _)) (pw_and1 (PW.pt (pw_or (pt_cmpR op_eq (pv 13) (pv 6) (nomark _)) (pw_or1 (pt_cmpR op_gt (pe_ix (r := rIxT K) ix_tup (pv 7) (pv 12) (fun _ _ => rfl)) (pe_ix (r := rIxT K) ix_tup (pv 7) (pv 13) (fun _ _ => rfl)) (nomark _))))))))))) (pss_one (ps_ret pe_bl)) pss_nil))) pss_nil))))))))))
      (pss_one (ps_ret pe_bl)))), ?_⟩
  refine ⟨.ref a, rfl, a, ns, rfl, hS, hn, fun H1 p b c s1 np nb nc S1 => ?_⟩
  refine ⟨4, rfl, by decide, by decide, for_range (lo := 0) (n := 4)
    (fun i σ H' => ∃ y2 y3 y4 y5 y6 y7 y8 y9 y10 y11 y12 y13 y14, σ = [some (.ref a), some (.ref p), y2, y3, y4, y5, y6, y7, y8, y9, y10, y11, y12, y13, y14] ∧ Stm H' p b c (i * 40))
    ⟨none, none, none, none, none, none, none, none, none, none, none, none, none, rfl, S1.mono (Nat.zero_le _)⟩ (fun i σ H2 hi h => ?_) (fun σ H2 h => rfl)⟩
  obtain ⟨y2, y3, y4, y5, y6, y7, y8, y9, y10, y11, y12, y13, y14, rfl, S2⟩ := h
  obtain ⟨m, hm, m0, m1⟩ : ∃ m : Int, [V.int 24, V.int 14, V.int 8, V.int 3][i]? = some (.int m) ∧ 0 < m ∧ m ≤ 24 := by
    have : i = 0 ∨ i = 1 ∨ i = 2 ∨ i = 3 := by omega
    rcases this with rfl | rfl | rfl | rfl
    · exact ⟨24, rfl, by decide, by decide⟩
    · exact ⟨14, rfl, by decide, by decide⟩
    · exact ⟨8, rfl, by decide, by decide⟩
    · exact ⟨3, rfl, by decide, by decide⟩
  refine ⟨.ref p, rfl, by show 4 ≤ sizeLine; decide, fun l hl => ⟨.int (0 + i), rfl, l, _, _, _, rfl, rfl, .inl (.inl upd_same), at_of (j := i) (by omega) hm, ?_⟩⟩
  refine ⟨p, b, c, _, m, rfl, S2.same (same_new hl), by omega, m0, m1, fun H3 z k3 S3 z0 zm zl => ?_⟩
  have z24 : z.length ≤ 24 := by omega
  have zs : z.length ≤ sizeLine := Nat.le_of_lt (small1000 (by omega))
  have zL : z.cps.toList.length = z.length := Array.length_toList
  refine ⟨.str z, rfl, z, rfl, by omega, fun H4 o r s4 no eo t => ⟨.str z, rfl, z, rfl, by omega, fun H5 g r2 s5 ng eg t2 => ⟨.str z, rfl, z, rfl, zs, _, _, _, rfl, ?_⟩⟩⟩
  obtain rfl := t.uniq t2
  have rl : r.length = z.length := t.len.trans zL
  refine ⟨.ref o, rfl, o, r, rfl, .inl (.inl (s5 _ _ eo)), by omega, fun i hi => t.ord.lt hi, fun H6 l2 s6 nl2 el2 => ?_⟩
  have eo6 := s6 _ _ (s5 _ _ eo)
  have eg6 := s6 _ _ eg
  have S6 := ((S3.same s4).same s5).same s6
  have hl2 : (hds z.cps.toList r).length = z.length - 1 := by rw [hds_len, rl]
  have b0 : ∀ k, k < z.length → r.getD k 0 < z.length := fun k hk => by
    rw [List.getD_eq_getElem?_getD, List.getElem?_eq_getElem (by omega)]
    exact Nat.lt_of_lt_of_eq (t.ord.lt (List.getElem_mem (by omega))) rl
  refine ⟨.int z.length, rfl, _, rfl, by omega, by omega, for_range (lo := 0) (n := z.length)
    (fun j σ H' => ∃ y8 y9 y10 y11 y12 y13 y14, σ = [some (.ref a), some (.ref p), some (.int (0 + i)), some (.str z), some (.ref o), some (.ref g), some (.int z.length), some (.ref l2), y8, y9, y10, y11, y12, y13, y14] ∧ Same H6 H')
    ⟨y8, y9, y10, y11, y12, y13, y14, rfl, fun _ _ e => e⟩ (fun j σ H7 hj h => ?_) (fun σ H7 h => ?_)⟩
  · obtain ⟨y8, y9, y10, y11, y12, y13, y14, rfl, s7⟩ := h
    have eo7 : SqT K H7 o (plV r) := .inl (.inl (s7 _ _ eo6))
    refine ⟨.str z, rfl, .ref o, rfl, .int (0 + j), rfl, o, _, _, _, rfl, rfl, eo7, at_of (j := j) (by omega) (plV_at (by omega)), .ref o, rfl, .int (0 + j), rfl, o, _, _, _, rfl, rfl, eo7, at_of (j := j) (by omega) (plV_at (by omega)), z, _, _, rfl, by omega, b0 j hj, b0 j hj, fun H8 s8 => ?_⟩
    have eo8 : SqT K H8 o (plV r) := .inl (.inl (s8 _ _ (s7 _ _ eo6)))
    refine ⟨.int z.length, rfl, .ref o, rfl, .int (0 + j), rfl, o, _, _, _, rfl, rfl, eo8, at_of (j := j) (by omega) (plV_at (by omega)), _, _, rfl, rfl, rfl, _, rfl, iteNS ?_ ?_⟩
    · rw [cpl_self, List.length_drop, zL]
      have := b0 j hj
      congr 1
      omega
    · refine ⟨.int (0 + j), rfl, _, 1, rfl, rfl, .int z.length, rfl, _, _, rfl, ⟨by omega, by omega, by omega, by omega⟩, ?_⟩
      refine for_range (lo := (0 + (j : Int) + 1)) (n := ((z.length : Int) - (0 + (j : Int) + 1)).toNat)
        (fun d σ H' => ∃ y9 y10 y11 y12 y13 y14, σ = [some (.ref a), some (.ref p), some (.int (0 + i)), some (.str z), some (.ref o), some (.ref g), some (.int z.length), some (.ref l2), some (.int (0 + j)), y9, y10, y11, y12, y13, y14] ∧ Same H6 H')
        ⟨y9, y10, y11, y12, y13, y14, rfl, s7.trans s8⟩ (fun d σ H9 hd h => ?_) (fun σ H9 h => ?_)
      · obtain ⟨y9, y10, y11, y12, y13, y14, rfl, s9⟩ := h
        have hd' : j + d + 1 < z.length := by omega
        have e1 : (0 + (j : Int)) = ((j : Nat) : Int) := by omega
        have e2 : (0 + (j : Int) + 1 + (d : Int)) = ((j + d + 1 : Nat) : Int) := by omega
        have cutE : cutV (plV (hds z.cps.toList r)) (some (0 + (j : Int))) (some (0 + (j : Int) + 1 + (d : Int))) = plV (((hds z.cps.toList r).drop j).take (j + d + 1 - j)) := by
          rw [e2, e1, cutV_mid _ _ _ (by omega) (by rw [plV_len]; omega), plV_drop, plV_take]
        obtain ⟨⟨k0, a1, a2, a3⟩, ih⟩ := t.mins j d (by omega)
        have eg9 : SqT K H9 g (plV (hds z.cps.toList r)) := .inl (.inl (s9 _ _ eg6))
        refine ⟨.ref g, rfl, .int (0 + j), rfl, _, rfl, .int (0 + (j : Int) + 1 + d), rfl, _, rfl, g, _, rfl, eg9, fun hf => ?_, fun _ q hq => ?_⟩
        · have hx : SqT K H9 g (plV (((hds z.cps.toList r).drop j).take (j + d + 1 - j))) := by
            rw [e2, e1, show HT.sIx (plV (hds z.cps.toList r)).length 0 (some (j : Int)) = min j _ from HT.sIx_nat _ 0 j, show HT.sIx (plV (hds z.cps.toList r)).length (plV (hds z.cps.toList r)).length (some ((j + d + 1 : Nat) : Int)) = min (j + d + 1) _ from HT.sIx_nat _ _ (j + d + 1), plV_len] at hf
            have j0 : j = 0 := by omega
            rw [List.take_of_length_le (by rw [List.length_drop]; omega), j0, List.drop_zero]
            exact eg9
          have s10 := s9
          refine ⟨_, (((hds z.cps.toList r).drop j).take (j + d + 1 - j)).map (fun i : Nat => (i : Int)), rfl, by rw [← plV_ints]; exact hx, ?_, fun m hm1 hm2 => ?_⟩
          · rw [List.length_map, List.length_take, List.length_drop, hl2]
            omega
          obtain ⟨m', hm', rfl⟩ := List.mem_map.mp hm1
          obtain ⟨k1, c1, c2, rfl⟩ := (mem_mid (by omega)).mp hm'
          have x1 := ih k1 c1 c2
          have x2 := hm2 _ (List.mem_map.mpr ⟨_, (mem_mid (by omega)).mpr ⟨k0, a1, a2, rfl⟩, rfl⟩)
          have em : (hds z.cps.toList r).getD k1 0 = cpl (z.cps.toList.drop (r.getD j 0)) (z.cps.toList.drop (r.getD (j + d + 1) 0)) := by omega
          rw [em]
          have eo10 : ∀ H', Same H6 H' → SqT K H' o (plV r) := fun H' s' => .inl (.inl (s' _ _ eo6))
          refine ⟨.str z, rfl, .ref o, rfl, .int (0 + j), rfl, o, _, _, _, rfl, rfl, eo10 _ s10, at_of (j := j) (by omega) (plV_at (by omega)), .ref o, rfl, .int (0 + (j : Int) + 1 + d), rfl, o, _, _, _, rfl, rfl, eo10 _ s10, at_of (j := j + d + 1) (by omega) (plV_at (by omega)), z, _, _, rfl, by omega, b0 _ hj, b0 _ hd', fun H11 s11 => ?_⟩
          refine ⟨_, rfl, rfl, _, rfl, iteNS rfl ?_⟩
          have s611 := s10.trans s11
          refine ⟨.str z, rfl, .ref o, rfl, .int (0 + (j : Int) + 1 + d), rfl, o, _, _, _, rfl, rfl, eo10 _ s611, at_of (j := j + d + 1) (by omega) (plV_at (by omega)), .ref o, rfl, .int (0 + j), rfl, o, _, _, _, rfl, rfl, eo10 _ s611, at_of (j := j) (by omega) (plV_at (by omega)), z, _, _, rfl, by omega, b0 _ hd', b0 _ hj, fun H12 s12 => ?_⟩
          refine ⟨_, rfl, rfl, _, rfl, iteNS (by rw [cpl_comm]) ?_⟩
          exact ⟨_, _, _, _, _, _, rfl, s611.trans s12⟩
        · rw [cutE]
          have hx : SqT K (upd H9 q (.tup (plV (((hds z.cps.toList r).drop j).take (j + d + 1 - j))))) q (plV (((hds z.cps.toList r).drop j).take (j + d + 1 - j))) := .inl (.inl upd_same)
          have s10 := s9.trans (same_new (o := .tup (plV (((hds z.cps.toList r).drop j).take (j + d + 1 - j)))) hq)
          refine ⟨_, (((hds z.cps.toList r).drop j).take (j + d + 1 - j)).map (fun i : Nat => (i : Int)), rfl, by rw [← plV_ints]; exact hx, ?_, fun m hm1 hm2 => ?_⟩
          · rw [List.length_map, List.length_take, List.length_drop, hl2]
            omega
          obtain ⟨m', hm', rfl⟩ := List.mem_map.mp hm1
          obtain ⟨k1, c1, c2, rfl⟩ := (mem_mid (by omega)).mp hm'
          have x1 := ih k1 c1 c2
          have x2 := hm2 _ (List.mem_map.mpr ⟨_, (mem_mid (by omega)).mpr ⟨k0, a1, a2, rfl⟩, rfl⟩)
          have em : (hds z.cps.toList r).getD k1 0 = cpl (z.cps.toList.drop (r.getD j 0)) (z.cps.toList.drop (r.getD (j + d + 1) 0)) := by omega
          rw [em]
          have eo10 : ∀ H', Same H6 H' → SqT K H' o (plV r) := fun H' s' => .inl (.inl (s' _ _ eo6))
          refine ⟨.str z, rfl, .ref o, rfl, .int (0 + j), rfl, o, _, _, _, rfl, rfl, eo10 _ s10, at_of (j := j) (by omega) (plV_at (by omega)), .ref o, rfl, .int (0 + (j : Int) + 1 + d), rfl, o, _, _, _, rfl, rfl, eo10 _ s10, at_of (j := j + d + 1) (by omega) (plV_at (by omega)), z, _, _, rfl, by omega, b0 _ hj, b0 _ hd', fun H11 s11 => ?_⟩
          refine ⟨_, rfl, rfl, _, rfl, iteNS rfl ?_⟩
          have s611 := s10.trans s11
          refine ⟨.str z, rfl, .ref o, rfl, .int (0 + (j : Int) + 1 + d), rfl, o, _, _, _, rfl, rfl, eo10 _ s611, at_of (j := j + d + 1) (by omega) (plV_at (by omega)), .ref o, rfl, .int (0 + j), rfl, o, _, _, _, rfl, rfl, eo10 _ s611, at_of (j := j) (by omega) (plV_at (by omega)), z, _, _, rfl, by omega, b0 _ hd', b0 _ hj, fun H12 s12 => ?_⟩
          refine ⟨_, rfl, rfl, _, rfl, iteNS (by rw [cpl_comm]) ?_⟩
          exact ⟨_, _, _, _, _, _, rfl, s611.trans s12⟩
      · obtain ⟨y9, y10, y11, y12, y13, y14, rfl, s9⟩ := h
        exact ⟨_, _, _, _, _, _, _, rfl, s9⟩
  · obtain ⟨y8, y9, y10, y11, y12, y13, y14, rfl, s7⟩ := h
    refine ⟨.int z.length, rfl, 1, _, rfl, ⟨by decide, by decide, by omega, by omega⟩, for_range (lo := 1) (n := ((z.length : Int) - 1).toNat)
      (fun d σ H' => ∃ y8 y9 y10 y11 y12 y13 y14, σ = [some (.ref a), some (.ref p), some (.int (0 + i)), some (.str z), some (.ref o), some (.ref g), some (.int z.length), some (.ref l2), y8, y9, y10, y11, y12, y13, y14] ∧ Same H6 H')
      ⟨_, _, _, _, _, _, _, rfl, s7⟩ (fun d σ H8 hd h => ?_) (fun σ H8 h => ?_)⟩
    · obtain ⟨y8, y9, y10, y11, y12, y13, y14, rfl, s8⟩ := h
      have hd' : d + 1 < z.length := by omega
      have eo8 : SqT K H8 o (plV r) := .inl (.inl (s8 _ _ eo6))
      have eg8 : SqT K H8 g (plV (hds z.cps.toList r)) := .inl (.inl (s8 _ _ eg6))
      have b1 := b0 d (by omega)
      have b2 := b0 (d + 1) (by omega)
      refine ⟨.ref o, rfl, .int (1 + d), rfl, _, 1, rfl, rfl, o, _, _, _, rfl, rfl, eo8, at_of (j := d) (by omega) (plV_at (by omega)), _, 1, rfl, rfl, .ref o, rfl, .int (1 + d), rfl, o, _, _, _, rfl, rfl, eo8, at_of (j := d + 1) (by omega) (plV_at (by omega)), _, 1, rfl, rfl, _, _, rfl, ?_⟩
      refine ⟨.ref g, rfl, .int (1 + d), rfl, _, 1, rfl, rfl, g, _, _, _, rfl, rfl, eg8, at_of (j := d) (by omega) (plV_at (by omega)), _, _, rfl, rfl, _, rfl, ite2 (fun c => ?_) (fun c => ?_)⟩
      · have c := of_decide_eq_true c
        have hv := hds_at (L := z.cps.toList) (show d + 1 < r.length by omega)
        have rnk := fun (h1 : r.getD d 0 + 1 < r.length) (h2 : r.getD (d + 1) 0 + 1 < r.length) (h3 : z.cps.toList.drop (r.getD d 0 + 1) < z.cps.toList.drop (r.getD (d + 1) 0 + 1)) => t.rk_lt h1 h2 h3
        rw [hv] at c
        have lt := t.at_lt (show d < d + 1 by omega) (show d + 1 < r.length by omega)
        obtain ⟨c1, c2⟩ := cpl_pos (by omega) lt
        generalize ex : r.getD d 0 = x at *
        generalize ey : r.getD (d + 1) 0 = y at *
        have ynz : y + 1 ≤ z.length ∧ x + 1 ≤ z.length := by omega
        have yne : x + 1 < z.length → y + 1 < z.length := fun h => by
          rcases Nat.lt_or_eq_of_le ynz.1 with e | e
          · exact e
          · rw [e, ← zL, List.drop_length] at c2
            exact absurd c2 (List.not_lt_nil _)
        refine ⟨_, rfl, _, rfl, _, _, rfl, .int z.length, rfl, _, _, rfl, rfl, _, rfl, ite2 (fun c3 => ?_) (fun c3 => ?_)⟩
        · have c3 := of_decide_eq_true c3
          have c3' : x + 1 < z.length ∧ y + 1 < z.length := by
            split at c3 <;> omega
          refine ⟨.str z, rfl, _, rfl, _, rfl, z, x + 1, y + 1, rfl, by omega, by omega, by omega, fun H9 s9 => ?_⟩
          have s69 := s8.trans s9
          have eg9 : SqT K H9 g (plV (hds z.cps.toList r)) := .inl (.inl (s69 _ _ eg6))
          have el9 : SqT K H9 l2 (plV (rk r r.length)) := .inl (.inl (s69 _ _ el2))
          refine ⟨.ref g, rfl, .int (1 + d), rfl, _, 1, rfl, rfl, g, _, _, _, rfl, rfl, eg9, at_of (j := d) (by omega) (plV_at (by omega)), _, rfl, 1, _, rfl, rfl, rfl, _, rfl, iteNS ?_ ?_⟩
          · rw [hv, c1]
            exact congrArg V.int (by omega)
          refine ⟨_, rfl, _, rfl, _, _, rfl, rfl, _, rfl, ite2 (fun c4 => ?_) (fun c4 => ⟨_, _, _, _, _, _, _, rfl, s69⟩)⟩
          have c4 : (x : Int) + 1 < z.length := of_decide_eq_true c4
          have y1 := yne (by omega)
          refine ⟨_, rfl, _, rfl, rfl, _, rfl, ite2 (fun c5 => ?_) (fun c5 => ?_)⟩
          · have c5 := V.int.inj (of_decide_eq_true c5)
            omega
          obtain ⟨ra, rb, q1, q2, q3⟩ := rnk (by omega) (by omega) c2
          have q1' : (plV (rk r r.length))[x + 1]? = some (V.int ra) := by unfold plV; rw [List.getElem?_map, q1]; rfl
          have q2' : (plV (rk r r.length))[y + 1]? = some (V.int rb) := by unfold plV; rw [List.getElem?_map, q2]; rfl
          refine ⟨.ref l2, rfl, _, rfl, l2, _, _, _, rfl, rfl, el9, at_of (j := x + 1) (by omega) q1', .ref l2, rfl, _, rfl, l2, _, _, _, rfl, rfl, el9, at_of (j := y + 1) (by omega) q2', _, _, rfl, rfl, _, rfl, ite2 (fun c6 => ?_) (fun c6 => ⟨_, _, _, _, _, _, _, rfl, s69⟩)⟩
          have c6 : (rb : Int) < ra := of_decide_eq_true c6
          omega
        · have c3 : ¬ (if (y : Int) + 1 > (x : Int) + 1 then (y : Int) + 1 else (x : Int) + 1) < z.length := fun h => c3 (decide_eq_true h)
          have xn : x + 1 = z.length ∨ y + 1 = z.length := by
            split at c3 <;> omega
          have xn : x + 1 = z.length := by
            by_cases e : x + 1 = z.length
            · exact e
            · have := yne (by omega)
              omega
          have s69 := s8
          have c1 : cpl (z.cps.toList.drop x) (z.cps.toList.drop y) = 0 + 1 := by
            rw [c1, xn, ← zL, List.drop_length]
            simp [cpl]
          have eg9 : SqT K H8 g (plV (hds z.cps.toList r)) := .inl (.inl (s69 _ _ eg6))
          have el9 : SqT K H8 l2 (plV (rk r r.length)) := .inl (.inl (s69 _ _ el2))
          refine ⟨.ref g, rfl, .int (1 + d), rfl, _, 1, rfl, rfl, g, _, _, _, rfl, rfl, eg9, at_of (j := d) (by omega) (plV_at (by omega)), _, rfl, 1, _, rfl, rfl, rfl, _, rfl, iteNS ?_ ?_⟩
          · rw [hv, c1]
            exact congrArg V.int (by omega)
          refine ⟨_, rfl, _, rfl, _, _, rfl, rfl, _, rfl, ite2 (fun c4 => ?_) (fun c4 => ⟨_, _, _, _, _, _, _, rfl, s69⟩)⟩
          have c4 : (x : Int) + 1 < z.length := of_decide_eq_true c4
          have y1 := yne (by omega)
          refine ⟨_, rfl, _, rfl, rfl, _, rfl, ite2 (fun c5 => ?_) (fun c5 => ?_)⟩
          · have c5 := V.int.inj (of_decide_eq_true c5)
            omega
          obtain ⟨ra, rb, q1, q2, q3⟩ := rnk (by omega) (by omega) c2
          have q1' : (plV (rk r r.length))[x + 1]? = some (V.int ra) := by unfold plV; rw [List.getElem?_map, q1]; rfl
          have q2' : (plV (rk r r.length))[y + 1]? = some (V.int rb) := by unfold plV; rw [List.getElem?_map, q2]; rfl
          refine ⟨.ref l2, rfl, _, rfl, l2, _, _, _, rfl, rfl, el9, at_of (j := x + 1) (by omega) q1', .ref l2, rfl, _, rfl, l2, _, _, _, rfl, rfl, el9, at_of (j := y + 1) (by omega) q2', _, _, rfl, rfl, _, rfl, ite2 (fun c6 => ?_) (fun c6 => ⟨_, _, _, _, _, _, _, rfl, s69⟩)⟩
          have c6 : (rb : Int) < ra := of_decide_eq_true c6
          omega
      · exact ⟨_, _, _, _, _, _, _, rfl, s8⟩
    · obtain ⟨y8, y9, y10, y11, y12, y13, y14, rfl, s8⟩ := h
      exact ⟨_, _, _, _, _, _, _, _, _, _, _, _, _, rfl, (S6.same s8).mono (by omega)⟩
end
end Kp
namespace Kp
open PySem PySem.Spec PyProof.Rows L2 Kb Km
theorem all_mk {l : PySem.W.OpenLaw} {w : World} {K : PySem.W.Frag} {h : Heap} {mg : Str → Option Value} {fa fPl fCP fR fO fRO fCL fHO fS fD fP fW fL : Addr} (X : K.In h) (G : h.Ns mainGlobals mg) (hfa : mg "law" = some (.ref fa))
    {odPl anPl : Option Addr} {slPl : Array (Option Value)} {ocPl kVPl dcPl pmPl cdPl ctPl : Value}
    (aPl : PySem.W.nsIn K mainGlobals "is_place" = some (some (.ref fPl)))
    (lPl : K.lookup fPl = some ⟨ocPl, odPl, .func (PySem.W.fnOf "is_place" "is_place" (defArgs sPlace) (defBody sPlace) (defScope sPlace) .none kVPl dcPl pmPl anPl cdPl ctPl), slPl⟩)
    (cPl : PySem.W.codeIn K cdPl "is_place" = true) (kPl : PySem.W.keepIn K (.ref fPl) = true)
    {odCP anCP : Option Addr} {slCP : Array (Option Value)} {ocCP kVCP dcCP pmCP cdCP ctCP : Value}
    (aCP : PySem.W.nsIn K mainGlobals "check_place" = some (some (.ref fCP)))
    (lCP : K.lookup fCP = some ⟨ocCP, odCP, .func (PySem.W.fnOf "check_place" "check_place" (defArgs sCheck) (defBody sCheck) (defScope sCheck) .none kVCP dcCP pmCP anCP cdCP ctCP), slCP⟩)
    (cCP : PySem.W.codeIn K cdCP "check_place" = true) (kCP : PySem.W.keepIn K (.ref fCP) = true)
    {odR anR : Option Addr} {slR : Array (Option Value)} {ocR kVR dcR pmR cdR ctR : Value}
    (aR : PySem.W.nsIn K mainGlobals "rank_places" = some (some (.ref fR)))
    (lR : K.lookup fR = some ⟨ocR, odR, .func (PySem.W.fnOf "rank_places" "rank_places" (defArgs sRank) (defBody sRank) (defScope sRank) .none kVR dcR pmR anR cdR ctR), slR⟩)
    (cR : PySem.W.codeIn K cdR "rank_places" = true) (kR : PySem.W.keepIn K (.ref fR) = true)
    {odO anO : Option Addr} {slO : Array (Option Value)} {ocO kVO dcO pmO cdO ctO : Value}
    (aO : PySem.W.nsIn K mainGlobals "tail_order" = some (some (.ref fO)))
    (lO : K.lookup fO = some ⟨ocO, odO, .func (PySem.W.fnOf "tail_order" "tail_order" (defArgs sOrder) (defBody sOrder) (defScope sOrder) .none kVO dcO pmO anO cdO ctO), slO⟩)
    (cO : PySem.W.codeIn K cdO "tail_order" = true) (kO : PySem.W.keepIn K (.ref fO) = true)
    {odRO anRO : Option Addr} {slRO : Array (Option Value)} {ocRO kVRO dcRO pmRO cdRO ctRO : Value}
    (aRO : PySem.W.nsIn K mainGlobals "ranks_of" = some (some (.ref fRO)))
    (lRO : K.lookup fRO = some ⟨ocRO, odRO, .func (PySem.W.fnOf "ranks_of" "ranks_of" (defArgs sRanksOf) (defBody sRanksOf) (defScope sRanksOf) .none kVRO dcRO pmRO anRO cdRO ctRO), slRO⟩)
    (cRO : PySem.W.codeIn K cdRO "ranks_of" = true) (kRO : PySem.W.keepIn K (.ref fRO) = true)
    {odCL anCL : Option Addr} {slCL : Array (Option Value)} {ocCL kVCL dcCL pmCL cdCL ctCL : Value}
    (aCL : PySem.W.nsIn K mainGlobals "common_length" = some (some (.ref fCL)))
    (lCL : K.lookup fCL = some ⟨ocCL, odCL, .func (PySem.W.fnOf "common_length" "common_length" (defArgs sCLen) (defBody sCLen) (defScope sCLen) .none kVCL dcCL pmCL anCL cdCL ctCL), slCL⟩)
    (cCL : PySem.W.codeIn K cdCL "common_length" = true) (kCL : PySem.W.keepIn K (.ref fCL) = true)
    {odHO anHO : Option Addr} {slHO : Array (Option Value)} {ocHO kVHO dcHO pmHO cdHO ctHO : Value}
    (aHO : PySem.W.nsIn K mainGlobals "heads_of" = some (some (.ref fHO)))
    (lHO : K.lookup fHO = some ⟨ocHO, odHO, .func (PySem.W.fnOf "heads_of" "heads_of" (defArgs sHeads) (defBody sHeads) (defScope sHeads) .none kVHO dcHO pmHO anHO cdHO ctHO), slHO⟩)
    (cHO : PySem.W.codeIn K cdHO "heads_of" = true) (kHO : PySem.W.keepIn K (.ref fHO) = true)
    {odS anS : Option Addr} {slS : Array (Option Value)} {ocS kVS dcS pmS cdS ctS : Value}
    (aS : PySem.W.nsIn K mainGlobals "_law_stream" = some (some (.ref fS)))
    (lS : K.lookup fS = some ⟨ocS, odS, .func (PySem.W.fnOf "_law_stream" "_law_stream" (defArgs sStream) (defBody sStream) (defScope sStream) .none kVS dcS pmS anS cdS ctS), slS⟩)
    (cS : PySem.W.codeIn K cdS "_law_stream" = true) (kS : PySem.W.keepIn K (.ref fS) = true)
    {odD anD : Option Addr} {slD : Array (Option Value)} {ocD kVD dcD pmD cdD ctD : Value}
    (aD : PySem.W.nsIn K mainGlobals "_law_draw" = some (some (.ref fD)))
    (lD : K.lookup fD = some ⟨ocD, odD, .func (PySem.W.fnOf "_law_draw" "_law_draw" (defArgs sDraw) (defBody sDraw) (defScope sDraw) .none kVD dcD pmD anD cdD ctD), slD⟩)
    (cD : PySem.W.codeIn K cdD "_law_draw" = true) (kD : PySem.W.keepIn K (.ref fD) = true)
    {odP anP : Option Addr} {slP : Array (Option Value)} {ocP kVP dcP pmP cdP ctP : Value}
    (aP : PySem.W.nsIn K mainGlobals "_law_pick" = some (some (.ref fP)))
    (lP : K.lookup fP = some ⟨ocP, odP, .func (PySem.W.fnOf "_law_pick" "_law_pick" (defArgs sPick) (defBody sPick) (defScope sPick) .none kVP dcP pmP anP cdP ctP), slP⟩)
    (cP : PySem.W.codeIn K cdP "_law_pick" = true) (kP : PySem.W.keepIn K (.ref fP) = true)
    {odW anW : Option Addr} {slW : Array (Option Value)} {ocW kVW dcW pmW cdW ctW : Value}
    (aW : PySem.W.nsIn K mainGlobals "_law_drawn" = some (some (.ref fW)))
    (lW : K.lookup fW = some ⟨ocW, odW, .func (PySem.W.fnOf "_law_drawn" "_law_drawn" (defArgs sDrawn) (defBody sDrawn) (defScope sDrawn) .none kVW dcW pmW anW cdW ctW), slW⟩)
    (cW : PySem.W.codeIn K cdW "_law_drawn" = true) (kW : PySem.W.keepIn K (.ref fW) = true)
    {odL anL : Option Addr} {slL : Array (Option Value)} {ocL kVL dcL pmL cdL ctL : Value}
    (aL : PySem.W.nsIn K mainGlobals "law" = some (some (.ref fL)))
    (lL : K.lookup fL = some ⟨ocL, odL, .func (PySem.W.fnOf "law" "law" (defArgs sLaw) (defBody sLaw) (defScope sLaw) .none kVL dcL pmL anL cdL ctL), slL⟩)
    (cL : PySem.W.codeIn K cdL "law" = true) (kL : PySem.W.keepIn K (.ref fL) = true)
    (z_len : PySem.W.nsIn K mainGlobals "len" = some none)
    (z_range : PySem.W.nsIn K mainGlobals "range" = some none)
    (z_min : PySem.W.nsIn K mainGlobals "min" = some none)
    (z_abs : PySem.W.nsIn K mainGlobals "abs" = some none)
    (z_sorted : PySem.W.nsIn K mainGlobals "sorted" = some none)
    (z_tuple : PySem.W.nsIn K mainGlobals "tuple" = some none)
    (z_enumerate : PySem.W.nsIn K mainGlobals "enumerate" = some none)
    (z_isinstance : PySem.W.nsIn K mainGlobals "isinstance" = some none)
    (z_int : PySem.W.nsIn K mainGlobals "int" = some none)
    (z_bool : PySem.W.nsIn K mainGlobals "bool" = some none)
    (z_zip : PySem.W.nsIn K mainGlobals "zip" = some none)
    (z_max : PySem.W.nsIn K mainGlobals "max" = some none)
    (base : Heap) (s : Shared) (H : Hp) (a : Addr) (ns : List Int) (hn : ns.length ≤ 63) (KB : K.In base) (GB : base.Ns mainGlobals mg)
    (e0 : Env0 l.prog w K mg base callerA [] s H) (hS : SqL K H a (ns.map V.int)) :
    codeAny (model l.prog w) callerA (.call (.ref fa) ⟨[.ref a], []⟩) (CR CX0 [] l.prog w H s (fun v _ => v = .bl true) E0) s := by
  have e := hfa.symm.trans (PySem.W.mg_of X G aL)
  cases e
  have FPl := fun_mk (st := sPlace) lPl cPl kPl
  have bPl := FPl.binds (ps := ["value", "many"]) fun _ _ _ _ _ _ us hl => match us, hl with | [_, _], _ => rfl
  have FCP := fun_mk (st := sCheck) lCP cCP kCP
  have bCP := FCP.binds (ps := ["value", "many"]) fun _ _ _ _ _ _ us hl => match us, hl with | [_, _], _ => rfl
  have FR := fun_mk (st := sRank) lR cR kR
  have bR := FR.binds (ps := ["order"]) fun _ _ _ _ _ _ us hl => match us, hl with | [_], _ => rfl
  have FO := fun_mk (st := sOrder) lO cO kO
  have bO := FO.binds (ps := ["word"]) fun _ _ _ _ _ _ us hl => match us, hl with | [_], _ => rfl
  have FRO := fun_mk (st := sRanksOf) lRO cRO kRO
  have bRO := FRO.binds (ps := ["order"]) fun _ _ _ _ _ _ us hl => match us, hl with | [_], _ => rfl
  have FCL := fun_mk (st := sCLen) lCL cCL kCL
  have bCL := FCL.binds (ps := ["word", "one", "other"]) fun _ _ _ _ _ _ us hl => match us, hl with | [_, _, _], _ => rfl
  have FHO := fun_mk (st := sHeads) lHO cHO kHO
  have bHO := FHO.binds (ps := ["word"]) fun _ _ _ _ _ _ us hl => match us, hl with | [_], _ => rfl
  have FS := fun_mk (st := sStream) lS cS kS
  have bS := FS.binds (ps := ["_law_script"]) fun _ _ _ _ _ _ us hl => match us, hl with | [_], _ => rfl
  have FD := fun_mk (st := sDraw) lD cD kD
  have bD := FD.binds (ps := ["_law_stream_here", "_law_many"]) fun _ _ _ _ _ _ us hl => match us, hl with | [_, _], _ => rfl
  have FP := fun_mk (st := sPick) lP cP kP
  have bP := FP.binds (ps := ["_law_stream_here", "_law_items"]) fun _ _ _ _ _ _ us hl => match us, hl with | [_, _], _ => rfl
  have FW := fun_mk (st := sDrawn) lW cW kW
  have bW := FW.binds (ps := ["_law_stream_here", "_law_most"]) fun _ _ _ _ _ _ us hl => match us, hl with | [_, _], _ => rfl
  obtain ⟨t, ht, hq⟩ := law_body (P := l.prog) (w := w) (base := base) (f := fa) (cdv := cdL) (s := s) FPl FCP FR FO FRO FCL FHO FS FD FP FW bPl bCP bR bO bRO bCL bHO bS bD bP bW (PySem.W.mg_of X G aPl) (PySem.W.mg_of X G aCP) (PySem.W.mg_of X G aR) (PySem.W.mg_of X G aO) (PySem.W.mg_of X G aRO) (PySem.W.mg_of X G aCL) (PySem.W.mg_of X G aHO) (PySem.W.mg_of X G aS) (PySem.W.mg_of X G aD) (PySem.W.mg_of X G aP) (PySem.W.mg_of X G aW) (PySem.W.mg_none_of X G z_len) (PySem.W.mg_none_of X G z_range) (PySem.W.mg_none_of X G z_min) (PySem.W.mg_none_of X G z_abs) (PySem.W.mg_none_of X G z_sorted) (PySem.W.mg_none_of X G z_tuple) (PySem.W.mg_none_of X G z_enumerate) (PySem.W.mg_none_of X G z_isinstance) (PySem.W.mg_none_of X G z_int) (PySem.W.mg_none_of X G z_bool) (PySem.W.mg_none_of X G z_zip) (PySem.W.mg_none_of X G z_max)  hS hn
  exact runAt (k := 8) (vs := [.ref a]) (us := [.ref a]) (Q := fun v _ => v = .bl true) lL cL scLaw rfl ⟨rfl, by decide, by decide⟩ e0 (.of_eq rfl) (.cons rfl .nil) ht.nox hq
end Kp
open PySem PySem.W PyProof.Rows
set_option maxHeartbeats 0 in
theorem PySem.Challenge.cw_tailranks_k42_whole_least_of_the_heads_holds : PySem.Challenge.rw_tailranks_k42_whole_least_of_the_heads.Holds := by
  w_on; o_law; k_head; (case hw => w_witness2)
  k_fill
  refine Kb.walkAt (l := PySem.Challenge.rw_tailranks_k42_whole_least_of_the_heads) (n := 63) rfl (by decide) rfl (fun w h Y => PySem.W.kIn_of Y) ?F
  case F =>
    intro w mg fa h KX G hmg
    refine' Kp.all_mk KX G hmg ?aPl ?lPl ?cPl ?kPl ?aCP ?lCP ?cCP ?kCP ?aR ?lR ?cR ?kR ?aO ?lO ?cO ?kO ?aRO ?lRO ?cRO ?kRO ?aCL ?lCL ?cCL ?kCL ?aHO ?lHO ?cHO ?kHO ?aS ?lS ?cS ?kS ?aD ?lD ?cD ?kD ?aP ?lP ?cP ?kP ?aW ?lW ?cW ?kW ?aL ?lL ?cL ?kL ?z_len ?z_range ?z_min ?z_abs ?z_sorted ?z_tuple ?z_enumerate ?z_isinstance ?z_int ?z_bool ?z_zip ?z_max
    (case aPl => k_is); (case lPl => k_is); (case cPl => k_is); (case kPl => k_is); (case aCP => k_is); (case lCP => k_is); (case cCP => k_is); (case kCP => k_is); (case aR => k_is); (case lR => k_is); (case cR => k_is); (case kR => k_is); (case aO => k_is); (case lO => k_is); (case cO => k_is); (case kO => k_is); (case aRO => k_is); (case lRO => k_is); (case cRO => k_is); (case kRO => k_is); (case aCL => k_is); (case lCL => k_is); (case cCL => k_is); (case kCL => k_is); (case aHO => k_is); (case lHO => k_is); (case cHO => k_is); (case kHO => k_is); (case aS => k_is); (case lS => k_is); (case cS => k_is); (case kS => k_is); (case aD => k_is); (case lD => k_is); (case cD => k_is); (case kD => k_is); (case aP => k_is); (case lP => k_is); (case cP => k_is); (case kP => k_is); (case aW => k_is); (case lW => k_is); (case cW => k_is); (case kW => k_is); (case aL => k_is); (case lL => k_is); (case cL => k_is); (case kL => k_is); (case z_len => k_is); (case z_range => k_is); (case z_min => k_is); (case z_abs => k_is); (case z_sorted => k_is); (case z_tuple => k_is); (case z_enumerate => k_is); (case z_isinstance => k_is); (case z_int => k_is); (case z_bool => k_is); (case z_zip => k_is); (case z_max => k_is)
