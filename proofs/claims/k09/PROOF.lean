import PyProof.Rows.All
import Wide.All
import OpenK.AllK
import Wide.FinOn
import PySem.Challenge.RW_tailranks_k09_fewest_letters_and_least_w
import HandS.Base
import HandS.Call
import HandS.List
import HandS.Comp
import HandS.Ends
import HandS.Dict
import HandS.Iter
import HandS.Text
import HandS.Words
import HandS.WordsList
import KE.SortData
import HandS.Codes
import HandS.TupAny
import HandS.TupLe
import KE.KIndexOf
import HandS.IsInst
import HandS.Conv
import HandS.Style
import KE.GoesMore
import PyProof.Draws
import PyProof.EnumMake
import PyProof.ReprRoads
import PyProof.FitsInt
import PyProof.StrOps2
import PyProof.Rows.StrMeet
import PyProof.Rows.StrSigns2
set_option Elab.async false
set_option linter.all false
set_option maxRecDepth 100000
set_option maxHeartbeats 4000000
set_option exponentiation.threshold 3000
namespace Km
/-- the tail order of a list of codes -/
def TailOrd (L : List Nat) (r : List Nat) : Prop := r.Perm (List.range L.length) ∧ r.Pairwise (fun i j => L.drop i < L.drop j)
theorem TailOrd.len {L r : List Nat} (h : TailOrd L r) : r.length = L.length := by
  rw [h.1.length_eq, List.length_range]
theorem TailOrd.uniq {L r s : List Nat} (h : TailOrd L r) (g : TailOrd L s) : r = s :=
  List.Perm.eq_of_pairwise (fun _ _ _ _ x y => (List.lt_asymm x y).elim) h.2 g.2 (h.1.trans g.1.symm)
theorem TailOrd.lt {L r : List Nat} (h : TailOrd L r) {i : Nat} (hi : i ∈ r) : i < L.length := List.mem_range.mp (h.1.mem_iff.mp hi)
theorem tri {a b : List Nat} (h : ¬ b < a) (n : a ≠ b) : a < b := by
  by_cases x : a < b
  · exact x
  · exact (n (List.le_antisymm (List.not_lt.mp h) (List.not_lt.mp x))).elim
theorem drops_nodup (L : List Nat) : ((List.range L.length).map (fun i => L.drop i)).Nodup := by
  unfold List.Nodup
  rw [List.pairwise_map]
  refine List.Pairwise.imp_of_mem (fun {a b} ha hb hab => ?_) (List.nodup_range (n := L.length))
  intro e
  have ha := List.mem_range.mp ha
  have hb := List.mem_range.mp hb
  have := congrArg List.length e
  rw [List.length_drop, List.length_drop] at this
  exact hab (by omega)
theorem back_range (L : List Nat) : (((List.range L.length).map (fun i => L.drop i)).map fun y => L.length - y.length) = List.range L.length := by
  rw [List.map_map]
  conv => rhs; rw [← List.map_id (List.range L.length)]
  refine List.map_congr_left (fun i hi => ?_)
  have hi := List.mem_range.mp hi
  show L.length - (L.drop i).length = i
  rw [List.length_drop]
  omega
/-- from the sorted tails -/
theorem of_sorted {L : List Nat} {ys : List (List Nat)} (p : ys.Perm ((List.range L.length).map fun i => L.drop i)) (s : ys.Pairwise fun a b => ¬ b < a) :
    TailOrd L (ys.map fun y => L.length - y.length) := by
  constructor
  · have := p.map (fun y => L.length - y.length)
    rw [back_range] at this
    exact this
  · have nd : ys.Nodup := p.nodup_iff.mpr (drops_nodup L)
    have st : ys.Pairwise (fun a b => a < b) := (s.and nd).imp (fun {a b} h => tri h.1 h.2)
    rw [List.pairwise_map]
    refine List.Pairwise.imp_of_mem (fun {a b} ha hb hab => ?_) st
    have back : ∀ y ∈ ys, L.drop (L.length - y.length) = y := by
      intro y hy
      obtain ⟨i, hi, rfl⟩ := List.mem_map.mp (p.mem_iff.mp hy)
      have hi := List.mem_range.mp hi
      rw [List.length_drop]
      congr 1
      omega
    rw [back a ha, back b hb]
    exact hab
/-- the number of tails that are less -/
def cnt (L : List Nat) (i : Nat) : Nat := ((List.range L.length).filter fun o => decide (L.drop o < L.drop i)).length
theorem cnt_lt {L : List Nat} {i : Nat} (h : i < L.length) : cnt L i < L.length := by
  unfold cnt
  have h1 := List.length_filter_le (fun o => decide (L.drop o < L.drop i)) (List.range L.length)
  rw [List.length_range] at h1
  rcases Nat.lt_or_eq_of_le h1 with h2 | h2
  · exact h2
  · exfalso
    have h3 : ((List.range L.length).filter fun o => decide (L.drop o < L.drop i)).length = (List.range L.length).length := by rw [List.length_range]; exact h2
    have h4 := List.length_filter_eq_length_iff.mp h3 i (List.mem_range.mpr h)
    exact List.lt_irrefl _ (of_decide_eq_true h4)
theorem countP_first {R : Nat → Nat → Prop} [DecidableRel R] (irr : ∀ a, ¬ R a a) (asy : ∀ a b, R a b → ¬ R b a) : ∀ (r : List Nat) (k : Nat) (h : k < r.length), r.Pairwise R → r.countP (fun o => decide (R o r[k])) = k
  | [], k, h, _ => absurd h (Nat.not_lt_zero _)
  | x :: r, 0, h, p => by
    rw [List.pairwise_cons] at p
    rw [List.countP_eq_zero]
    intro o ho
    have ho : o ∈ x :: r := ho
    show ¬ decide (R o x) = true
    rcases List.mem_cons.mp ho with e | e
    · subst e
      simpa using irr o
    · simpa using asy _ _ (p.1 o e)
  | x :: r, k + 1, h, p => by
    rw [List.pairwise_cons] at p
    have hk : k < r.length := by simpa using h
    have ih := countP_first irr asy r k hk p.2
    show (x :: r).countP (fun o => decide (R o r[k])) = k + 1
    rw [List.countP_cons_of_pos, ih]
    simpa using p.1 _ (List.getElem_mem hk)
theorem TailOrd.cnt_at {L r : List Nat} (h : TailOrd L r) (k : Nat) (hk : k < r.length) : cnt L r[k] = k := by
  unfold cnt
  rw [← List.countP_eq_length_filter, ← h.1.countP_eq]
  exact countP_first (R := fun a b => L.drop a < L.drop b) (fun a => List.lt_irrefl _) (fun a b x => List.lt_asymm x) r k hk h.2
/-- the places put at their numbers -/
def putAll (L : List Nat) : Nat → List Nat → List Nat
  | 0, f => f
  | i + 1, f => (putAll L i f).set (cnt L i) i
theorem putAll_len (L : List Nat) : ∀ (i : Nat) (f : List Nat), (putAll L i f).length = f.length
  | 0, f => rfl
  | i + 1, f => by
    show ((putAll L i f).set (cnt L i) i).length = f.length
    rw [List.length_set, putAll_len L i f]
theorem TailOrd.inj {L r : List Nat} (h : TailOrd L r) {i j : Nat} (hi : i < L.length) (hj : j < L.length) (e : cnt L i = cnt L j) : i = j := by
  obtain ⟨a, ha, ea⟩ := List.getElem_of_mem (h.1.mem_iff.mpr (List.mem_range.mpr hi))
  obtain ⟨b, hb, eb⟩ := List.getElem_of_mem (h.1.mem_iff.mpr (List.mem_range.mpr hj))
  have x := h.cnt_at a ha
  have y := h.cnt_at b hb
  rw [ea] at x
  rw [eb] at y
  have : a = b := by omega
  subst this
  exact ea.symm.trans eb
theorem TailOrd.put {L r : List Nat} (h : TailOrd L r) (f : List Nat) (hf : f.length = L.length) : ∀ n, n ≤ L.length → ∀ i, i < n → (putAll L n f)[cnt L i]? = some i
  | 0, _, i, hi => absurd hi (Nat.not_lt_zero _)
  | n + 1, hn, i, hi => by
    show ((putAll L n f).set (cnt L n) n)[cnt L i]? = some i
    by_cases e : i = n
    · subst e
      rw [List.getElem?_set_self]
      rw [putAll_len, hf]
      exact cnt_lt (by omega)
    · rw [List.getElem?_set_ne]
      · exact h.put f hf n (by omega) i (by omega)
      · intro z
        exact e (h.inj (by omega) (by omega) z).symm
theorem TailOrd.counted {L r : List Nat} (h : TailOrd L r) (f : List Nat) (hf : f.length = L.length) : putAll L L.length f = r := by
  apply List.ext_getElem?
  intro k
  by_cases hk : k < r.length
  · have e := h.put f hf L.length (Nat.le_refl _) r[k] (h.lt (List.getElem_mem hk))
    rw [h.cnt_at k hk] at e
    rw [e, List.getElem?_eq_getElem hk]
  · rw [List.getElem?_eq_none (by rw [putAll_len, hf, ← h.len]; omega), List.getElem?_eq_none (by omega)]
end Km
namespace Kb
open PySem PySem.Spec PyProof.Rows L2
/-! ### repr of data, where no repr is under way -/
def rRepr (K : PySem.W.Frag) : List V → Hp → VK → Prop := fun xs H Q =>
  ∃ (a : Addr) (d : PyData), xs = [.ref a] ∧ Dp K H (.ref a) d ∧ d.showable = true ∧ d.hasDict = false ∧ d.depth ≤ 60 ∧
    d.shown.length ≤ sizeLine ∧ Q (.str d.shown) H
theorem call_repr {X : Cx} (hg : X.A.guards = some []) (hu : X.A.units + 64 < cLine) :
    CallR X (.builtin "repr") (rRepr X.K) := by
  intro pins s σ H xs us Q I r h
  obtain ⟨a, d, rfl, hd, hs, hn, hdp, hl, q⟩ := h
  obtain ⟨u, rfl, ru⟩ := vals1 r
  cases (show u = Value.ref a from ru)
  obtain ⟨as, rd⟩ := Dp.reads I d _ _ hd rfl
  refine repr_of_reads' (h₀ := s.heap) rd hs (fun z => ?_) hg (by omega) (fun _ _ e => e) (fun h' u tk k => ?_) hl
  · rw [hn] at z
    cases z
  · exact ⟨.str d.shown, H, I.kept k, ⟨_, rfl⟩, q⟩
/-! ### a def's run at one place alone -/
theorem runAt {P : Program} {w : World} {K : PySem.W.Frag} {mg : Str → Option Value} {base : Heap} {k : Nat} {f : Addr}
    {name qual : Str} {pa : Arguments} {bd : List Stmt} {sc : Scope} {dV kV dc pm cv ct oc : Value} {an od : Option Addr}
    {sl : Array (Option Value)} {N ps : List Str} {A : Around} {outer : List Env} {s : Shared} {H : Hp} {args : Args}
    {us : List Value} {vs : List V} {Q : VK} {t : TS}
    (lk : K.lookup f = some ⟨oc, od, .func (PySem.W.fnOf name qual pa bd sc dV kV dc pm an cv ct), sl⟩)
    (cd : PySem.W.codeIn K cv qual = true) (S : FnScope N ps sc) (hl : vs.length = ps.length) (room : Room (k + 1) A)
    (e0 : Env0 P w K mg base A outer s H)
    (bt : BindsTo s (PySem.W.fnOf name qual pa bd sc dV kV dc pm an cv ct) args (ps.zip us)) (rv : Vals vs us)
    (ht : PSs (cxOf CX0 P w K mg base N qual sc f cv A outer s H E0) bd t)
    (hq : t { nx := fun _ H' => Q .non H', rt := Q } (start N vs) H) :
    codeAny (model P w) A (.call (.ref f) args) (CR CX0 outer P w H s Q E0) s := by
  have kin : K.In s.heap := e0.mod.kin.keeps (fun b o e => (e0.bs b o e).1)
  have lim : s.heap.NoLimit := e0.mod.nolimit.keeps (fun b o e => (e0.bs b o e).1)
  refine codeAny_call_function room.depth (kin _ _ lk) rfl S.co S.gen rfl (PySem.W.codeRec_of kin cd) (bt _ _ _ _ ?_)
  refine wpAny_newFunctionEnv_cells S.kind (fun y hy => ?_) (fun env he s1 x => ?_)
  · obtain ⟨n, v⟩ := y
    cases S.par n (List.of_mem_zip hy).1 with
    | inl q => exact .inl q
    | inr q => exact .inr ⟨q, PySem.W.cellsFrom_some _ _ _ (.inl q)⟩
  · subst he
    refine ⟨lim.keeps x.toInCall.keep, codeAny_func ?_⟩
    have I := inv_start (CX := CX0) (E := E0) S room.hd e0 hl rv x
    refine wpAny_mono (ht.run [] s1 (start N vs) H _ I hq) (fun fl s' z => ?_) (fun e s' z => z)
    cases fl with
    | ret u =>
      obtain ⟨v, σ', H', J, rr, q⟩ := z
      exact ⟨v, H', J.os, J.bare, J.base, J.hok, rr, q⟩
    | next =>
      obtain ⟨σ', H', J, q⟩ := z
      exact ⟨V.non, H', J.os, J.bare, J.base, J.hok, rfl, q⟩
    | brk =>
      obtain ⟨_, _, _, q⟩ := z
      exact q.elim
    | cont =>
      obtain ⟨_, _, _, q⟩ := z
      exact q.elim

/-! ### the law's own call, where its run is known at the caller's place -/
theorem lawAt {P : Program} {w : World} {K : PySem.W.Frag} {mg mb : Str → Option Value} {fa a : Addr} {s₁ : Shared}
    {vs : List Value} {ns : List Int} (kin : K.In s₁.heap) (gl : s₁.heap.Ns mainGlobals mg) (bl : s₁.heap.Ns builtinsNs mb)
    (boot : ∀ x : Str, x ≠ "__name__" → mb x = bootBuiltins x) (lim : s₁.heap.NoLimit) (gens : s₁.gens = #[])
    (oa : s₁.heap.get? a = some { cls := .type "list", data := .seq vs.toArray }) (hiv : IntsAre vs ns)
    (small : ns.length ≤ sizeLine)
    (run : ∀ (base : Heap) (H : Hp), K.In base → base.Ns mainGlobals mg → Env0 P w K mg base callerA [] s₁ H →
      SqL K H a (ns.map V.int) →
      codeAny (model P w) callerA (.call (.ref fa) ⟨[.ref a], []⟩) (CR CX0 [] P w H s₁ (fun v _ => v = .bl true) E0) s₁) :
    codeAny (model P w) callerA (.call (.ref fa) ⟨[.ref a], []⟩)
      (fun r s' => r = .ok (.ret (.bool true)) ∧ OldK s₁.heap s'.heap ∧ s'.os = s₁.os ∧ AllBare s'.gens) s₁ := by
  have rv := vals_ints hiv
  have lv : vs.length = ns.length := hiv.length
  have main : ∀ H : Hp, (∀ b, H b = none ∨ (b = a ∧ K.lookup a = none ∧ ∃ o xs, H b = some (.frz o (.lst xs)))) →
      SqL K H a (ns.map V.int) → HOk P w H s₁.heap →
      codeAny (model P w) callerA (.call (.ref fa) ⟨[.ref a], []⟩)
        (fun r s' => r = .ok (.ret (.bool true)) ∧ OldK s₁.heap s'.heap ∧ s'.os = s₁.os ∧ AllBare s'.gens) s₁ := by
    intro H only sq hok
    have dicts : ∀ {b : Addr} {m : Str → Option Value}, s₁.heap.Ns b m → (hidT s₁.heap H).Ns b m := by
      rintro b m ⟨o, es, ep, g, dd, r⟩
      refine ⟨o, es, ep, hidT_get g ?_, dd, r⟩
      rcases only b with z | ⟨rfl, _, _⟩
      · exact z
      · rw [oa] at g
        cases g
        cases dd
    have kb : K.In (hidT s₁.heap H) := by
      intro b o g
      refine hidT_get (kin b o g) ?_
      rcases only b with z | ⟨rfl, z, _⟩
      · exact z
      · rw [z] at g
        cases g
    have lim' : (hidT s₁.heap H).NoLimit := by
      obtain ⟨mc, z1, z2⟩ := lim
      exact ⟨mc, dicts z1, z2⟩
    have env : Env0 P w K mg (hidT s₁.heap H) callerA [] s₁ H := {
      frames := rfl
      mod := ⟨kb, dicts gl, ⟨mb, dicts bl, boot⟩, lim'⟩
      bs := fun b o g => of_hidT g
      bsz := Nat.le_of_eq (hidT_size _ _)
      funs := trivial
      frf := fun b z => nomatch (show b ∈ ([] : List Addr) from z)
      hok := hok
      bare := .of_eq gens }
    refine codeAny_mono (run _ H kb (dicts gl) env sq) ?_
    rintro (e | fl) s' h
    · exact h.elim
    · cases fl with
      | next => exact h.elim
      | brk => exact h.elim
      | cont => exact h.elim
      | ret u =>
        obtain ⟨v, H', os, bare, un, hok', rel, rfl⟩ := h
        obtain rfl : u = Value.bool true := rel
        refine ⟨rfl, OldK.of_keep ?_, os, bare⟩
        intro b o g
        rcases only b with z | ⟨_, _, ob, xs, z⟩
        · exact un.keep b o g z (fun z => nomatch (show b ∈ ([] : List Addr) from z)) (fun z => nomatch z)
        · have g1 := (hok b _ z).1
          have g2 := (hok' b _ (un.frzs b ob _ z)).1
          rw [g] at g1
          cases g1
          exact g2
  cases own : K.lookup a with
  | some o =>
    have g := kin a o own
    rw [oa] at g
    cases g
    refine main (fun _ => none) (fun b => .inl rfl) (.inr ⟨_, vs.toArray, _, own, rfl, rfl, rfl, ?_, ?_⟩) ?_
    · rw [List.size_toArray, lv]
      exact small
    · simpa using rv
    · intro b u z
      cases z
  | none =>
    refine main (fun b => if b = a then some (.frz { cls := .type "list", data := .seq vs.toArray } (.lst (ns.map V.int))) else none)
      ?_ (.inl (.inr ⟨_, if_pos rfl⟩)) ?_
    · intro b
      by_cases e : b = a
      · exact .inr ⟨e, own, _, _, if_pos e⟩
      · exact .inl (if_neg e)
    · intro b u z
      dsimp only at z
      by_cases e : b = a
      · rw [if_pos e] at z
        cases z
        subst e
        exact ⟨oa, by rw [List.length_map]; exact small, vs, _, rv, oa⟩
      · rw [if_neg e] at z
        cases z

theorem walkAt {l : PySem.W.OpenLaw} {n : Nat} {q : Program} {loose : List Str} {XP : (Str → Option Value) → Heap → Prop}
    {YP : World → Heap → Prop} {d : DefRec} {K : Params → PySem.W.Frag} (most : l.most = some n) (le : n ≤ sizeLine)
    (nodef : d.params.defaults = []) (hY : ∀ (w : World) (h : Heap), YP w h → (K w.params).In h)
    (F : ∀ (w : World) (mg : Str → Option Value) (fa : Addr) (h : Heap), (K w.params).In h → h.Ns mainGlobals mg →
      mg d.name = some (.ref fa) → ∀ (base : Heap) (s : Shared) (H : Hp) (a : Addr) (ns : List Int), ns.length ≤ n →
      (K w.params).In base → base.Ns mainGlobals mg → Env0 l.prog w (K w.params) mg base callerA [] s H →
      SqL (K w.params) H a (ns.map V.int) →
      codeAny (model l.prog w) callerA (.call (.ref fa) ⟨[.ref a], []⟩)
        (CR CX0 [] l.prog w H s (fun v _ => v = .bl true) E0) s) :
    PySem.W.WalkO q loose XP YP l.row.toRowW d [] (fun f vs => PySem.call f vs) := by
  refine Att.attach_call most nodef ?_
  intro w s0 s1 mg mb fa o pm cd doc a vs ns G Y _ _ _ hmg oa hiv len gens
  have kin := hY w _ Y
  refine lawAt kin G.T.g G.T.b G.T.builtins G.T.nolimit gens oa hiv (Nat.le_trans len le) ?_
  intro base H kb gb e0 sq
  exact F w mg fa _ kin G.T.g hmg base s1 H a ns len kb gb e0 sq
/-! ### heaps -/
theorem same_new {H : Hp} {p : Addr} {o : HO} (h : H p = none) : Same H (upd H p o) := fun b x e => by
  rw [upd_ne (ne_of_none e h)]
  exact e
/-- the stream: its list at p, the great cells at b, all cells at c, the number of turns -/
structure Stm (H : Hp) (p b c : Addr) (t : Nat) : Prop where
  ex : ∃ (i : Int) (big cells : List Int), H p = some (.lst [.ref b, .ref c, .int i]) ∧ 0 ≤ i ∧ i ≤ t ∧
    H b = some (.lst (big.map V.int)) ∧ big.length ≤ 63 ∧ H c = some (.lst (cells.map V.int)) ∧ 0 < cells.length ∧ cells.length ≤ 64
  bc : b ≠ c
/-- all but the stream stands -/
def Kept (p b : Addr) (H H' : Hp) : Prop := ∀ (q : Addr) (o : HO), q ≠ p → q ≠ b → H q = some o → H' q = some o
theorem Kept.refl {p b : Addr} (H : Hp) : Kept p b H H := fun _ _ _ _ h => h
theorem Kept.trans {p b : Addr} {H H1 H2 : Hp} (x : Kept p b H H1) (y : Kept p b H1 H2) : Kept p b H H2 :=
  fun q o h1 h2 e => y q o h1 h2 (x q o h1 h2 e)
theorem Kept.same {p b : Addr} {H H1 : Hp} (x : Same H H1) : Kept p b H H1 := fun q o _ _ e => x q o e
theorem Stm.same {H H1 : Hp} {p b c : Addr} {t : Nat} (S : Stm H p b c t) (h : Same H H1) : Stm H1 p b c t := by
  obtain ⟨⟨i, big, cells, h1, h2, h3, h4, h5, h6, h7⟩, h8⟩ := S
  exact ⟨⟨i, big, cells, h _ _ h1, h2, h3, h _ _ h4, h5, h _ _ h6, h7⟩, h8⟩
theorem Stm.mono {H : Hp} {p b c : Addr} {t u : Nat} (S : Stm H p b c t) (h : t ≤ u) : Stm H p b c u := by
  obtain ⟨⟨i, big, cells, h1, h2, h3, h4, h5, h6, h7⟩, h8⟩ := S
  exact ⟨⟨i, big, cells, h1, h2, by omega, h4, h5, h6, h7⟩, h8⟩
/-- what stands apart of the stream's two changing lists -/
theorem Stm.ne_p {H : Hp} {p b c q : Addr} {t : Nat} (S : Stm H p b c t) (h : H q = none) : q ≠ p ∧ q ≠ b ∧ q ≠ c := by
  obtain ⟨⟨i, big, cells, h1, _, _, h4, _, h6, _⟩, _⟩ := S
  refine ⟨fun e => ?_, fun e => ?_, fun e => ?_⟩
  · subst e; rw [h] at h1; cases h1
  · subst e; rw [h] at h4; cases h4
  · subst e; rw [h] at h6; cases h6
/-- a list of ints as data -/
def dInts (ns : List Int) : PyData := .list (ns.map PyData.int)
theorem dpAll_ints {K : PySem.W.Frag} {H : Hp} : ∀ ns : List Int, DpAll K H (ns.map V.int) (ns.map PyData.int)
  | [] => .nil
  | n :: ns => .cons (.int n) (dpAll_ints ns)
theorem lay_ints : ∀ ns : List Int, PyData.canLayAll0 (ns.map PyData.int) = true
  | [] => rfl
  | n :: ns => by
    simp only [List.map_cons, PyData.canLayAll0, PyData.canLay0, Bool.true_and]
    exact lay_ints ns
theorem depth_ints : ∀ ns : List Int, PyData.depthAll (ns.map PyData.int) ≤ 1
  | [] => by simp [PyData.depthAll]
  | n :: ns => by
    have h := depth_ints ns
    simp only [List.map_cons, PyData.depthAll, PyData.depth]
    omega
theorem shaped_ints (ns : List Int) : SeqAt.shaped (.list (ns.map PyData.int)) = true := by
  have h1 := depth_ints ns
  have h2 : PyData.depth (.list (ns.map PyData.int)) ≤ 64 := by
    simp only [PyData.depth]
    omega
  unfold SeqAt.shaped
  rw [Bool.and_eq_true]
  exact ⟨by simp only [PyData.canLay0]; exact lay_ints ns, decide_eq_true h2⟩
theorem eqv_nil (ns : List Int) : PyData.eqv (.list (ns.map PyData.int)) (.list []) = ns.isEmpty := by
  cases ns with
  | nil => simp [PyData.eqv, PyData.eqvAll]
  | cons n ns => simp [PyData.eqv, PyData.eqvAll]
theorem ix0 (n : Nat) : ixN (n + 1) 0 = some 0 := by
  unfold ixN
  rw [if_pos (by decide), if_pos (by omega)]
  rfl
theorem sq0 (n : Nat) : seqIndex? 0 (n + 1) = some 0 := by
  unfold seqIndex?
  simp
theorem ixNat {n j : Nat} (h : j < n) : ixN n (j : Int) = some j := by
  unfold ixN
  rw [if_pos (by omega), if_pos (by omega)]
  rfl
theorem Stm.upd {H : Hp} {p b c D : Addr} {t : Nat} {o : HO} (S : Stm H p b c t) (h : D ≠ p ∧ D ≠ b ∧ D ≠ c) : Stm (upd H D o) p b c t := by
  obtain ⟨⟨i, big, cells, h1, h2, h3, h4, h5, h6, h7⟩, h8⟩ := S
  exact ⟨⟨i, big, cells, by rw [upd_ne h.1.symm]; exact h1, h2, h3, by rw [upd_ne h.2.1.symm]; exact h4, h5, by rw [upd_ne h.2.2.symm]; exact h6, h7⟩, h8⟩
theorem Kept.upd {p b D : Addr} {H H1 : Hp} {o : HO} (x : Kept p b H H1) (h : H D = none) : Kept p b H (upd H1 D o) := fun q u h1 h2 e => by
  rw [upd_ne (ne_of_none e h)]
  exact x q u h1 h2 e
theorem Kept.free {p b D : Addr} {H H1 : Hp} (x : Kept p b H H1) (h : H1 D = none) (h1 : D ≠ p) (h2 : D ≠ b) : H D = none := by
  cases e : H D with
  | none => rfl
  | some o =>
    rw [x D o h1 h2 e] at h
    cases h
theorem _root_.L2.Same.tup {K : PySem.W.Frag} {H H' : Hp} {a : Addr} {xs : List V} (e : Same H H') (h : SqT K H a xs) : SqT K H' a xs := by
  rcases h with (h | ⟨o, h⟩) | h
  · exact .inl (.inl (e _ _ h))
  · exact .inl (.inr ⟨o, e _ _ h⟩)
  · exact .inr h
end Kb
namespace Kb
open PySem PySem.Spec PyProof.Rows L2
/-! ### what repr shows is short -/
structure Sm (d : PyData) (n e : Nat) : Prop where
  sh : d.showable = true
  nd : d.hasDict = false
  dp : d.depth ≤ e
  ln : d.shown.length ≤ n
theorem Sm.int {i : Int} {k : Nat} (k0 : 0 < k) (h : i.natAbs < 10 ^ k) (k1 : k ≤ 400) : Sm (.int i) (k + 1) 1 := by
  refine ⟨?_, by simp [PyData.hasDict], by simp [PyData.depth], ?_⟩
  · simp only [PyData.showable, decide_eq_true_eq]
    by_cases h0 : i.natAbs = 0
    · rw [h0]
      decide
    · rw [Nat.log2_lt h0]
      refine Nat.lt_of_lt_of_le h (Nat.le_trans (Nat.pow_le_pow_left (show 10 ≤ 2 ^ 4 by decide) k) ?_)
      rw [← Nat.pow_mul]
      exact Nat.pow_le_pow_right (by decide) (by omega)
  · simp only [PyData.shown]
    rw [PySem.ofString_length]
    exact int_text_length_le10 k0 h
theorem Sm.mono {d : PyData} {n m e f : Nat} (h : Sm d n e) (hn : n ≤ m) (he : e ≤ f) : Sm d m f := ⟨h.sh, h.nd, Nat.le_trans h.dp he, Nat.le_trans h.ln hn⟩
theorem all_sh : ∀ {ds : List PyData}, (∀ d ∈ ds, d.showable = true) → PyData.showableAll ds = true
  | [], _ => by simp [PyData.showableAll]
  | d :: ds, h => by
    simp only [PyData.showableAll, Bool.and_eq_true]
    exact ⟨h d List.mem_cons_self, all_sh fun x hx => h x (List.mem_cons_of_mem _ hx)⟩
theorem all_nd : ∀ {ds : List PyData}, (∀ d ∈ ds, d.hasDict = false) → PyData.hasDictAll ds = false
  | [], _ => by simp [PyData.hasDictAll]
  | d :: ds, h => by
    simp only [PyData.hasDictAll, Bool.or_eq_false_iff]
    exact ⟨h d List.mem_cons_self, all_nd fun x hx => h x (List.mem_cons_of_mem _ hx)⟩
theorem all_dp {e : Nat} : ∀ {ds : List PyData}, (∀ d ∈ ds, d.depth ≤ e) → PyData.depthAll ds ≤ e
  | [], _ => by simp [PyData.depthAll]
  | d :: ds, h => by
    have h1 := h d List.mem_cons_self
    have h2 := all_dp (ds := ds) fun x hx => h x (List.mem_cons_of_mem _ hx)
    simp only [PyData.depthAll]
    omega
theorem all_ln {n : Nat} : ∀ {ds : List PyData}, (∀ d ∈ ds, d.shown.length ≤ n) → piled (PyData.shownAll ds) ≤ (n + 2) * ds.length
  | [], _ => by simp [PyData.shownAll, piled_nil]
  | d :: ds, h => by
    have h1 := h d List.mem_cons_self
    have h2 := all_ln (ds := ds) fun x hx => h x (List.mem_cons_of_mem _ hx)
    simp only [PyData.shownAll, piled_cons, List.length_cons, Nat.mul_succ]
    omega
theorem textFrom_le : ∀ (ts : List Str) (k : Nat) (acc : Str), (textFrom k acc ts).length ≤ acc.length + piled ts
  | [], _, acc => by
    show acc.length ≤ _
    omega
  | t :: ts, k, acc => by
    have h := textFrom_le ts (k + 1) (acc ++ (if k > 0 then ", " else "" : String) ++ t)
    have e : (Str.ofString (if k > 0 then ", " else "" : String)).length ≤ 2 := by split <;> decide +kernel
    rw [Str.length_append, Str.length_append] at h
    rw [piled_cons]
    show (textFrom (k + 1) (acc ++ (if k > 0 then ", " else "" : String) ++ t) ts).length ≤ _
    omega
theorem listText_le (ts : List Str) : (listText ts).length ≤ piled ts + 2 := by
  have h := textFrom_le ts 0 "["
  have e1 : (Str.ofString "[").length = 1 := by decide +kernel
  have e2 : (Str.ofString "]").length = 1 := by decide +kernel
  unfold listText
  rw [Str.length_append]
  omega
theorem tupleText_le (ts : List Str) : (tupleText ts).length ≤ piled ts + 3 := by
  have e3 : (Str.ofString (if ts.length == 1 then ",)" else ")" : String)).length ≤ 2 := by split <;> decide +kernel
  have e1 : (Str.ofString "(").length = 1 := by decide +kernel
  unfold tupleText
  rw [Str.length_append, Str.length_append]
  by_cases h : ts = []
  · subst h
    decide +kernel
  · have := join_length_add ts h
    omega
theorem Sm.list {ds : List PyData} {n e : Nat} (h : ∀ d ∈ ds, Sm d n e) : Sm (.list ds) ((n + 2) * ds.length + 2) (e + 1) := by
  refine ⟨by simp only [PyData.showable]; exact all_sh fun d hd => (h d hd).sh, by simp only [PyData.hasDict]; exact all_nd fun d hd => (h d hd).nd, ?_, ?_⟩
  · have := all_dp fun d hd => (h d hd).dp
    simp only [PyData.depth]
    omega
  · have h1 := all_ln fun d hd => (h d hd).ln
    have h2 := listText_le (PyData.shownAll ds)
    simp only [PyData.shown]
    omega
theorem Sm.tuple {ds : List PyData} {n e : Nat} (h : ∀ d ∈ ds, Sm d n e) : Sm (.tuple ds) ((n + 2) * ds.length + 3) (e + 1) := by
  refine ⟨by simp only [PyData.showable]; exact all_sh fun d hd => (h d hd).sh, by simp only [PyData.hasDict]; exact all_nd fun d hd => (h d hd).nd, ?_, ?_⟩
  · have := all_dp fun d hd => (h d hd).dp
    simp only [PyData.depth]
    omega
  · have h1 := all_ln fun d hd => (h d hd).ln
    have h2 := tupleText_le (PyData.shownAll ds)
    simp only [PyData.shown]
    omega
/-- what the reading of repr(x) asks, of short data -/
theorem rRepr_of {K : PySem.W.Frag} {H : Hp} {a : Addr} {d : PyData} {Q : VK} {n e : Nat} (hd : Dp K H (.ref a) d) (s : Sm d n e) (hn : n ≤ 1000000) (he : e ≤ 60) (q : Q (.str d.shown) H) : rRepr K [.ref a] H Q :=
  ⟨a, d, rfl, hd, s.sh, s.nd, Nat.le_trans s.dp he, Nat.le_trans (Nat.le_trans s.ln hn) (by decide), q⟩
theorem Sm.fits {d : PyData} {n e : Nat} (s : Sm d n e) (hn : n ≤ 1000000) : d.shown.length ≤ sizeLine := Nat.le_trans (Nat.le_trans s.ln hn) (by decide)
theorem Sm.flat {d : PyData} {n e : Nat} (s : Sm d n e) (he : e ≤ 60) : d.depth ≤ 60 := Nat.le_trans s.dp he
/-- places as values -/
def plV (r : List Nat) : List V := r.map fun i : Nat => V.int (i : Int)
def plD (r : List Nat) : List PyData := r.map fun i : Nat => PyData.int (i : Int)
theorem dp_pl {K : PySem.W.Frag} {H : Hp} : ∀ r : List Nat, DpAll K H (plV r) (plD r)
  | [] => .nil
  | i :: r => .cons (.int _) (dp_pl r)
theorem sm_pl {r : List Nat} (h : ∀ i ∈ r, i < 1000) : Sm (.tuple (plD r)) (6 * r.length + 3) 2 := by
  have := Sm.tuple (ds := plD r) (n := 4) (e := 1) fun d hd => by
    obtain ⟨i, hi, rfl⟩ := List.mem_map.mp hd
    exact Sm.int (k := 3) (by decide) (by have := h i hi; omega) (by decide)
  unfold plD at *
  rw [List.length_map] at this
  exact this
/-! ### a text times a number -/
def repS (n : Nat) (x : Str) : Str := ⟨(List.replicate n x.cps).foldl (· ++ ·) #[]⟩
theorem rep_fold (a : Array Nat) : ∀ (n : Nat) (acc : Array Nat), ((List.replicate n a).foldl (· ++ ·) acc).toList = acc.toList ++ (List.replicate n a.toList).flatten
  | 0, acc => by simp
  | n + 1, acc => by
    rw [List.replicate_succ, List.foldl_cons, rep_fold a n, List.replicate_succ, List.flatten_cons, Array.toList_append, List.append_assoc]
theorem repS_list (n : Nat) (x : Str) : (repS n x).cps.toList = (List.replicate n x.cps.toList).flatten := by
  unfold repS
  rw [rep_fold]
  rfl
theorem repS_len (n : Nat) (x : Str) : (repS n x).length = n * x.length := by
  show (repS n x).cps.size = n * x.cps.size
  rw [← Array.length_toList, repS_list, List.length_flatten, List.map_replicate, List.sum_replicate_nat, Array.length_toList]
theorem op_rep_str {X : Cx} : OpR X (binaryOp .Mult) (fun x y H Q => ∃ (i : Str) (n : Nat), x = .str i ∧ y = .int n ∧ 2 ≤ n ∧ n ≤ 1000 ∧ 1 ≤ i.length ∧ i.length ≤ 1000 ∧ Q (.str (repS n i)) H) := by
  intro pins s σ H x y v u Q I rx ry h
  obtain ⟨i, n, rfl, rfl, n0, n1, l0, l1, q⟩ := h
  obtain ⟨t, rfl⟩ := rx
  obtain ⟨t', rfl⟩ := ry
  have e1 : ¬ ((n : Int) < 1) := by omega
  have e2 : ((n : Int) == 1 || i.length == 0) = false := by
    rw [Bool.or_eq_false_iff, beq_eq_false_iff_ne, beq_eq_false_iff_ne]
    omega
  have big : i.length * n ≤ 1000000 := Nat.mul_le_mul l1 n1
  have tl : Builtin.Str.tooLong (i.length * (n : Int).toNat) = false := by
    unfold Builtin.Str.tooLong
    rw [decide_eq_false_iff_not, Int.toNat_natCast]
    have := sizeLine_eq
    omega
  refine PySem.P.mul_str ?_ ?_ (fun _ _ => tl) ?_
  · rw [Bool.or_eq_false_iff, decide_eq_false_iff_not, decide_eq_false_iff_not]
    omega
  · intro _ _ h
    have : (2 ^ 63 - 1 : Int) / n ≥ 1000 := by
      rw [ge_iff_le, Int.le_ediv_iff_mul_le (by omega)]
      omega
    omega
  · rw [if_neg e1, if_neg (by rw [e2]; exact Bool.false_ne_true)]
    refine ⟨?_, ?_⟩
    · have e := repS_len n i
      have := sizeLine_eq
      rw [Int.toNat_natCast]
      show (repS n i).length ≤ sizeLine
      rw [e, Nat.mul_comm]
      omega
    · exact ⟨.str (repS n i), H, I.tok _, ⟨_, rfl⟩, q⟩
end Kb
namespace Kb
open PySem PySem.Spec PyProof.Rows L2
open AutoSeq1 (wpAny_loadPart')
/-! ### enumerate of a tuple -/
abbrev tItO (l : Addr) : Obj := { cls := .type "tuple_iterator", data := .fields #[.ref l, .int 0 0] }
abbrev enO (it : Addr) : Obj := { cls := .type "enumerate", data := .fields #[.none, .bool false, .ref it, rawInt 0, .none, .none] }
theorem meets_enumT (l : Addr) (items : Array Value) (n : Nat) (dct : Option Addr) (sl : Array (Option Value)) :
    Meets (Builtin.«enumerate.__new__» ⟨[.type "enumerate", .ref l], []⟩) (fun _ R s =>
      s.heap.get? l = some { cls := .type "tuple", dict := dct, data := .seq items n, slots := sl } ∧
      R (.ok (.ret (.ref (s.heap.push (tItO l)).objs.size))) { s with heap := (s.heap.push (tItO l)).push (enO s.heap.objs.size) }) :=
  Meets.of_wp (by
    intro prog w A R s h
    obtain ⟨hp, g, d, tk, os⟩ := s
    obtain ⟨hl, h⟩ := h
    have hsub := sub_enumerate
    have hT : Heap.IsTuple (Shared.heap ⟨hp, g, d, tk, os⟩) l items := ⟨_, hl, rfl, n, rfl⟩
    wp_walk using wpAny_loadPart' hl
    apply wpAny_stack_any
    intro st
    apply wpAny_pure
    split
    · rename_i c _ _ _ _ _
      cases (c == Value.type "enumerate") <;> (wp_walk using wpAny_loadPart' hl, wpAny_pyIter_tuple hT; exact ⟨_, rfl, h⟩)
    · wp_walk using wpAny_loadPart' hl, wpAny_pyIter_tuple hT
      exact ⟨_, rfl, h⟩)
theorem call_enumT {prog : Program} {w : World} {A : Around} {E : Value → Shared → Prop} {s : Shared} {l : Addr} {items : Array Value} {Q : Value → Shared → Prop} (hT : s.heap.IsTuple l items)
    (h : ∀ h', IsEnum h' (s.heap.objs.size + 1) s.heap.objs.size 0 .none → h'.IsTupleIter s.heap.objs.size l 0 →
      (∀ b o, s.heap.get? b = some o → h'.get? b = some o) → Q (.ref (s.heap.objs.size + 1)) { s with heap := h' }) :
    wpAny (model prog w) A (call (.type "enumerate") [.ref l]) Q E s := by
  obtain ⟨⟨c, dct, dt, sl⟩, hl, hc, n, hd⟩ := hT
  obtain rfl : c = .type "tuple" := hc
  obtain rfl : dt = .seq items n := hd
  refine callType_new F.called_enumerate (by decide) (F.typeCall_enumerate_1 _) (F.newCall_enumerate_1 _) (fun obj => F.args_object_init_2 obj _)
    F.entry_enumerate_new (meets_enumT l items n dct sl) ⟨hl, ?_⟩
  have z1 : (s.heap.push (tItO l)).objs.size = s.heap.objs.size + 1 := Heap.size_push ..
  have z2 : IsEnum ((s.heap.push (tItO l)).push (enO s.heap.objs.size)) (s.heap.objs.size + 1) s.heap.objs.size 0 .none := by
    have z := Heap.get?_push_size (s.heap.push (tItO l)) (o := enO s.heap.objs.size) rfl
    rw [z1] at z
    exact z
  show _ ∧ _
  rw [z1]
  exact ⟨⟨_, z2, rfl⟩, h _ z2 ⟨_, Heap.get?_push_of_some _ (Heap.get?_push_size _ rfl), rfl, rfl⟩ (fun b o q => Heap.get?_push_of_some _ (Heap.get?_push_of_some _ q))⟩
/-- the tuple at a: its items with their numbers, in new pairs -/
def ItET (K : PySem.W.Frag) (a : Addr) : It where
  go := fun i H => ∃ (xs : List V) (x : V), SqT K H a xs ∧ xs[i]? = some x
  yld := fun i H v H' => ∃ T x, v = .ref T ∧ H T = none ∧ H' = upd H T (.tup [.int (i : Nat), x]) ∧ ∀ xs, SqT K H a xs → xs[i]? = some x
  stop := fun i H => ∃ xs : List V, SqT K H a xs ∧ xs.length = i
theorem turnET {P : Program} {w : World} {K : PySem.W.Frag} {elts : List Expr} {kk : Nat} {tpos : Pos} (a e it : Addr) (ha : a ≠ it) (hae : a ≠ e) (hne : e ≠ it) :
    Turn P w K (.Tuple elts kk tpos) (ItET K a) [e, it] e (fun i h => (∃ old, IsEnum h e it ((i : Nat) : Int) old) ∧ h.IsTupleIter it a i) := by
  constructor
  · simp
  · rintro i h ⟨⟨old, he⟩, ⟨o, ho, hc, hd⟩⟩ b hb
    simp only [List.mem_cons, List.not_mem_nil, or_false] at hb
    rcases hb with rfl | rfl
    · exact ⟨_, he, fun v q => nomatch q⟩
    · refine ⟨o, ho, fun v q => ?_⟩
      rw [hd] at q
      cases q
  · rintro i h h' ⟨⟨old, he⟩, hi⟩ k
    exact ⟨⟨old, k e (by simp) _ he⟩, hi.at (fun o q => k it (by simp) o q)⟩
  · intro X hP hw hK hc i pins s σ H E I hf st hg
    subst hP hw hK
    obtain ⟨⟨old, he⟩, hit⟩ := st
    obtain ⟨xs, x, hq, hx⟩ := hg
    obtain ⟨its, rv, p, hz⟩ := I.tuple hq
    obtain ⟨u, hu, ru⟩ := rv.get hx
    have hel : e < s.heap.objs.size := Heap.lt_size he
    have hil : it < s.heap.objs.size := by
      obtain ⟨_, z, _⟩ := hit
      exact Heap.lt_size z
    have hil2 : i < its.toArray.size := by
      have := (List.getElem?_eq_some_iff.mp hu).1
      simpa using this
    have D := Draws.tuple (prog := X.prog) (w := X.w) (A := X.A.in1) (I.ok.hd hc) it a ha its.toArray
    have hef : e ∉ [it, a] := by
      simp only [List.mem_cons, List.not_mem_nil, or_false, not_or]
      exact ⟨hne, hae.symm⟩
    refine wpAny_pyNext_enum_itemD D he ⟨hit, p⟩ hil2 hne hef (fun y h' tk hy ho hst hT hsz hk => ?_)
    have hyu : y = u := by
      have h1 : its.toArray[i]? = some u := by simpa using hu
      exact Option.some.inj (hy.symm.trans h1)
    subst hyu
    refine ⟨_, rfl, wpAny_letOwnedTupleGo_enum (s := { s with heap := h', toks := tk + 1 }) ho (fun h2 he2 sb => ?_)⟩
    have hT2 : h2.get? s.heap.objs.size = some { cls := .type "tuple", data := .seq #[.int i tk, y] } := (sb.2 _ (Nat.ne_of_gt hel)).trans hT
    have new : ObjOk X.prog X.w (upd H s.heap.objs.size (.tup [.int (i : Nat), x])) h2 s.heap.objs.size (.tup [.int (i : Nat), x]) :=
      ⟨by show 2 ≤ sizeLine; decide, [.int i tk, y], .cons ⟨_, rfl⟩ (.cons ru .nil), ⟨_, hT2, rfl, _, rfl⟩⟩
    have I1 : Inv X pins σ (upd H s.heap.objs.size (.tup [.int (i : Nat), x])) { s with heap := h2, toks := tk + 1 } := by
      refine I.turnedNew (ch := [e, it]) (fun b ob hb z => ?_) hf (Nat.le_refl _) new
      simp only [List.mem_cons, List.not_mem_nil, or_false, not_or] at hb
      exact (sb.2 b hb.1).trans (hk b ob hb.1 hb.2 z)
    refine ⟨.ref s.heap.objs.size, _, I1, rfl, ⟨_, x, rfl, I.hok.fresh (Nat.le_refl _), rfl, fun ys hy => ?_⟩, ⟨⟨y, ?_⟩, hst.1.at (fun o q => (sb.2 it (Ne.symm hne)).trans q)⟩, fun b hb => ?_⟩
    · rw [I.tuple_inj hy hq]
      exact hx
    · have e1 : ((i + 1 : Nat) : Int) = (i : Int) + 1 := by omega
      rw [e1]
      exact he2
    · have hlt : b < s.heap.objs.size := by
        simp only [List.mem_cons, List.not_mem_nil, or_false] at hb
        rcases hb with rfl | rfl
        · exact hel
        · exact hil
      rw [upd_ne (Nat.ne_of_lt hlt)]
      exact (hf b hb).1
  · intro X hP hw hK hc i pins s σ H E I hf st hg
    subst hP hw hK
    obtain ⟨⟨old, he⟩, hit⟩ := st
    obtain ⟨xs, hq, hx⟩ := hg
    obtain ⟨its, rv, p, hz⟩ := I.tuple hq
    obtain ⟨f0, f1, f2, f3, f4, f5⟩ := hf it (by simp)
    have hl := rv.length
    have D := Draws.tuple (prog := X.prog) (w := X.w) (A := X.A.in1) (I.ok.hd hc) it a ha its.toArray
    have hsz : its.toArray.size = i := by
      rw [List.size_toArray]
      omega
    refine wpAny_pyNext_enum_endD D he ⟨by rw [hsz]; exact hit, p⟩ (fun h' eb => ⟨rfl, I.turned (t' := s.toks) (fun b o hb z => eb b o hb z) f0 f1 f3 f4 f5⟩)
  · rintro A i s Q E ⟨⟨_, he⟩, _⟩ h
    exact wpAny_pyIter_enum he h
def iEnT (K : PySem.W.Frag) (ta : TA) : TI := fun σ H R => ta σ H fun vs H1 => ∃ a xs, vs = [.ref a] ∧ SqT K H1 a xs ∧ R (ItET K a) H1
theorem pi_enumT {X : Cx} {e : Expr} {ta : TA} {p pos tpos : Pos} {elts : List Expr} {kk : Nat} (hg : Gl X "enumerate") (hm : X.mg "enumerate" = none) (ha : PA X [e] ta)
    (hs : starEach [e] X.env = [(false, eval e X.env)] := by rfl) : PI X (.Tuple elts kk tpos) (.Call (.Name "enumerate" p) [e] [] pos) (iEnT X.K ta) := by
  refine ⟨fun pins s σ H R I h => ?_⟩
  have run := ha.run pos pins s σ H _ I h
  refine Call_ (ld_blt I hg hm boot_enumerate (PyProof.Rows.callWith_type1 (thn run ?_) hs rfl))
  rintro us s1 ⟨vs, H1, I1, r1, a, xs, rfl, hq, q⟩
  cases r1 with
  | cons r rr =>
    cases rr
    cases r
    obtain ⟨its, rv, pt, hz⟩ := I1.tuple hq
    have hlt : a < s1.heap.objs.size := by
      obtain ⟨o, ho, _⟩ := pt
      exact Heap.lt_size ho
    refine call_enumT pt (fun h' he hit hk => wpAny_pyIter_enum he ?_)
    refine ⟨s1.heap.objs.size + 1, [s1.heap.objs.size + 1, s1.heap.objs.size], _, _, H1, rfl, I1.kept (t' := s1.toks) hk,
      turnET a (s1.heap.objs.size + 1) s1.heap.objs.size (Nat.ne_of_lt hlt) (Nat.ne_of_lt (Nat.lt_succ_of_lt hlt)) (Nat.succ_ne_self _), ⟨⟨.none, he⟩, hit⟩, fun b hb => ?_, q⟩
    have le : s1.heap.objs.size ≤ b := by
      simp only [List.mem_cons, List.not_mem_nil, or_false] at hb
      rcases hb with rfl | rfl
      · exact Nat.le_succ _
      · exact Nat.le_refl _
    exact I1.fpOk le (I1.hok.fresh le)
/-- a for over enumerate of a tuple -/
theorem for_enT {K : PySem.W.Frag} {a : Addr} {xs : List V} {g : TG} {tb : TS} {D : Ends} {σ : L2.St} {H : Hp} (Pv : Nat → L2.St → Hp → Prop) (h0 : Pv 0 σ H) (hl : ∀ i σ H, i ≤ xs.length → Pv i σ H → SqT K H a xs)
    (hs : ∀ i x σ H T, xs[i]? = some x → Pv i σ H → H T = none → g (.ref T) σ (upd H T (.tup [.int (i : Nat), x])) fun σ2 H2 => tb { D with nx := Pv (i + 1), ct := Pv (i + 1), bk := D.nx } σ2 H2)
    (hd : ∀ σ H, Pv xs.length σ H → D.nx σ H) :
    ∃ W : Nat → Nat → L2.St → Hp → Prop, (∃ m, W 0 m σ H) ∧ ∀ i m σ H, W i m σ H →
      ((ItET K a).stop i H ∧ D.nx σ H) ∨ ((ItET K a).go i H ∧ ∃ N : L2.St → Hp → Prop, (∀ σ' H', N σ' H' → ∃ m', m' < m ∧ W (i + 1) m' σ' H') ∧
        ∀ x H', (ItET K a).yld i H x H' → g x σ H' fun σ2 H2 => tb { D with nx := N, ct := N, bk := D.nx } σ2 H2) := by
  refine ⟨fun i m σ H => m = xs.length - i ∧ i ≤ xs.length ∧ Pv i σ H, ⟨xs.length, by omega, by omega, h0⟩, ?_⟩
  rintro i m σ H ⟨rfl, hi, pv⟩
  have sq := hl i σ H hi pv
  by_cases lt : i < xs.length
  · refine .inr ⟨⟨xs, xs[i], sq, List.getElem?_eq_getElem lt⟩, Pv (i + 1), fun σ' H' p' => ⟨xs.length - (i + 1), by omega, rfl, lt, p'⟩, ?_⟩
    rintro x H' ⟨T, y, rfl, hT, rfl, hy⟩
    exact hs i y σ H T (hy xs sq) pv hT
  · have e : i = xs.length := by omega
    subst e
    exact .inl ⟨⟨xs, sq, rfl⟩, hd σ H pv⟩
end Kb
namespace Kb
open PySem PySem.Spec PyProof.Rows L2
/-! ### sorted of data -/
def rSortedD (K : PySem.W.Frag) : List V → Hp → VK → Prop := fun vs H Q => ∃ (a : Addr) (xs : List V) (enc : V → PyData), vs = [V.ref a] ∧ SqL K H a xs ∧
  (∀ x ∈ xs, Dp K H x (enc x)) ∧ PySem.W.AllAlike (xs.map enc) ∧ PySem.W.Sortable (xs.map enc) ∧ (∀ x ∈ xs, (enc x).depth ≤ 60) ∧
  ∀ p, H p = none → Q (.ref p) (upd H p (.lst (xs.mergeSort (PySem.W.dataLe false enc))))
theorem each_vals : ∀ {xs : List V} {its : List Value}, Vals xs its → PySem.W.EachIs (fun v x => RelV x v) its xs
  | _, _, .nil => .nil
  | _, _, .cons h r => .cons h (each_vals r)
theorem vals_each : ∀ {xs : List V} {its : List Value}, PySem.W.EachIs (fun v x => RelV x v) its xs → Vals xs its
  | _, _, .nil => .nil
  | _, _, .cons h r => .cons h (vals_each r)
theorem each_reads {X : Cx} {pins : List (Addr × Obj)} {σ : L2.St} {H : Hp} {s : Shared} (I : Inv X pins σ H s) (enc : V → PyData) : ∀ {xs : List V} {its : List Value}, Vals xs its → (∀ x ∈ xs, Dp X.K H x (enc x)) →
    PySem.W.EachIs (fun v x => ∃ as, Reads s.heap v (enc x) as) its xs
  | _, _, .nil, _ => .nil
  | _, _, .cons h r, hd => .cons (Dp.reads I _ _ _ (hd _ List.mem_cons_self) h) (each_reads I enc r fun x hx => hd x (List.mem_cons_of_mem _ hx))
theorem cr_sortedD {X : Cx} (hu : X.A.units + 64 < cLine) : CallR X (.builtin "sorted") (rSortedD X.K) := by
  intro pins s σ H vs us Q I r h
  obtain ⟨a, xs, enc, rfl, hs, hd, hal, hk, hdp, q⟩ := h
  obtain ⟨its, rv, hl, hz⟩ := I.list hs
  rw [Vals.ref1 r]
  refine PySem.W.sorted_data (bs := xs) (enc := enc) (R := fun v x => RelV x v) hl.isList (each_vals rv) (each_reads I enc rv hd) hal hk hz (fun b hb => ?_) (fun out ho he => ?_)
  · have := hdp b hb
    omega
  · obtain ⟨ep, he'⟩ := PyProof.Rows.sortedAll_at s.heap its out.toArray
    have hlen : (xs.mergeSort (PySem.W.dataLe false enc)).length ≤ sizeLine := by
      rw [List.length_mergeSort]
      exact hz
    have I1 : Inv X pins σ (upd H (s.heap.objs.size + 1) (.lst (xs.mergeSort (PySem.W.dataLe false enc)))) { s with heap := PyProof.Rows.sortedAll s.heap its out.toArray } :=
      I.laid (t' := s.toks) (fun _ _ => PyProof.Rows.sortedAll_old) (Nat.le_succ _) ⟨hlen, out, ep, vals_each he, by simpa using he'⟩
    exact ⟨.ref _, _, I1, rfl, q _ (I.hok.fresh (Nat.le_succ _))⟩
end Kb
namespace Kb
open PySem PySem.Spec PyProof.Rows L2
theorem plV_ints (r : List Nat) : plV r = (r.map fun i : Nat => (i : Int)).map V.int := by
  unfold plV
  rw [List.map_map]
  rfl
theorem idx_cast (k : Nat) : ∀ r : List Nat, (r.map fun i : Nat => (i : Int)).idxOf (k : Int) = r.idxOf k
  | [] => rfl
  | x :: r => by
    rw [List.map_cons, List.idxOf_cons, List.idxOf_cons, idx_cast k r]
    by_cases h : x = k
    · subst h
      simp
    · have h2 : ¬ ((x : Int) = (k : Int)) := by omega
      have e1 : ((x : Int) == (k : Int)) = false := beq_eq_false_iff_ne.mpr h2
      have e2 : (x == k) = false := beq_eq_false_iff_ne.mpr h
      rw [e1, e2]
/-! ### the place of an int in a tuple -/
def rTupAt (K : PySem.W.Frag) : V → List V → Hp → VK → Prop := fun x xs H Q => ∃ (p : Addr) (r : List Nat) (k : Nat), x = .ref p ∧ xs = [.int k] ∧ SqT K H p (plV r) ∧ k ∈ r ∧ Q (.int (r.idxOf k : Nat)) H
theorem mt_tup_at {X : Cx} : MtR X "tuple.index" (rTupAt X.K) := by
  intro pins s σ H x xs v us Q I rx rs h
  obtain ⟨p, r, k, rfl, rfl, hq, hk, q⟩ := h
  cases rx
  obtain ⟨u, rfl, t, rfl⟩ := vals1 rs
  rw [plV_ints] at hq
  obtain ⟨its, rv, pt, hz⟩ := I.tuple hq
  refine PySem.SeqAt.tuple_index_ints (show s.heap.IsTuple p its.toArray from pt) rv.ints (List.mem_map.mpr ⟨k, hk, rfl⟩) ?_
  rw [idx_cast]
  exact ⟨.int (r.idxOf k : Nat), H, I.tok _, ⟨_, rfl⟩, q⟩
def rListAt (K : PySem.W.Frag) : V → List V → Hp → VK → Prop := fun x xs H Q => ∃ (p : Addr) (r : List Nat) (k : Nat), x = .ref p ∧ xs = [.int k] ∧ SqL K H p (plV r) ∧ k ∈ r ∧ Q (.int (r.idxOf k : Nat)) H
theorem mt_list_at {X : Cx} : MtR X "list.index" (rListAt X.K) := by
  intro pins s σ H x xs v us Q I rx rs h
  obtain ⟨p, r, k, rfl, rfl, hq, hk, q⟩ := h
  cases rx
  obtain ⟨u, rfl, t, rfl⟩ := vals1 rs
  rw [plV_ints] at hq
  obtain ⟨its, rv, pt, hz⟩ := I.list hq
  refine PySem.SeqAt.list_index_ints pt.isList rv.ints (by rw [List.length_map] at hz; exact hz) (List.mem_map.mpr ⟨k, hk, rfl⟩) ?_
  rw [idx_cast]
  exact ⟨.int (r.idxOf k : Nat), H, I.tok _, ⟨_, rfl⟩, q⟩
/-! ### tuples whose object is told: they have methods -/
/-- a tuple of places, its object without a dict -/
structure FT (H : Hp) (q : Addr) (xs : List V) : Prop where
  ex : ∃ o : Obj, H q = some (.frz o (.tup xs)) ∧ o.cls = .type "tuple" ∧ o.dict = none
theorem FT.sq {K : PySem.W.Frag} {H : Hp} {q : Addr} {xs : List V} (h : FT H q xs) : SqT K H q xs := by
  obtain ⟨o, h, _⟩ := h.ex
  exact .inl (.inr ⟨o, h⟩)
theorem FT.same {H H1 : Hp} {q : Addr} {xs : List V} (h : FT H q xs) (s : Same H H1) : FT H1 q xs := by
  obtain ⟨o, h, r⟩ := h.ex
  exact ⟨o, s _ _ h, r⟩
theorem FT.kept {H H1 : Hp} {p b q : Addr} {xs : List V} (h : FT H q xs) (s : Kept p b H H1) (h1 : q ≠ p) (h2 : q ≠ b) : FT H1 q xs := by
  obtain ⟨o, h, r⟩ := h.ex
  exact ⟨o, s _ _ h1 h2 h, r⟩
theorem FT.new {H : Hp} {q : Addr} {xs : List V} {o : Obj} (c : o.cls = .type "tuple") (d : o.dict = none) : FT (upd H q (.frz o (.tup xs))) q xs := ⟨o, upd_same, c, d⟩
theorem call_tupF {X : Cx} : CallR X (.type "tuple") (fun xs H Q => ∃ p ys, xs = [.ref p] ∧ SqL X.K H p ys ∧
    ∀ (l : Addr) (o : Obj), H l = none → o.cls = .type "tuple" → o.dict = none → Q (.ref l) (upd H l (.frz o (.tup ys)))) := by
  intro pins s σ H xs us Q I r h
  obtain ⟨p, ys, rfl, hq, q⟩ := h
  obtain ⟨u, rfl, rx⟩ := vals1 r
  cases rx
  obtain ⟨its, rv, pl, hz⟩ := I.list hq
  have hlen := rv.length
  refine call_tuple_list pl.isList (fun h' kp => ?_) (by rw [List.size_toArray]; omega)
  have I1 : Inv X pins σ H { s with heap := h' } := I.kept (t' := s.toks) kp
  have new : ObjOk X.prog X.w (upd H h'.objs.size (.frz { cls := .type "tuple", data := .seq its.toArray } (.tup ys))) (h'.push { cls := .type "tuple", data := .seq its.toArray }) h'.objs.size
      (.frz { cls := .type "tuple", data := .seq its.toArray } (.tup ys)) := ⟨Heap.get?_push_size _ rfl, hz, its, rv, IsTup.new _ _⟩
  have I2 := I1.laid (t' := s.toks) (fun b o e => Heap.get?_push_of_some _ e) (Nat.le_refl _) new
  exact ⟨.ref h'.objs.size, _, I2, rfl, q _ _ (I1.hok.fresh (Nat.le_refl _)) rfl rfl⟩
def tTupF (t : TA) : TE := fun σ H Q => t σ H fun xs H1 => xs.length ≤ sizeLine ∧
  ∀ (p : Addr) (o : Obj), H1 p = none → o.cls = .type "tuple" → o.dict = none → Q (.ref p) (upd H1 p (.frz o (.tup xs)))
theorem pe_tupF {X : Cx} {es : List Expr} {t : TA} {pos : Pos} {x1} (h : PA X es t) : PE X (.Tuple es x1 pos) (tTupF t) := by
  constructor
  intro pins s σ H Q I hq
  refine wpAny_Tuple_spliced (thn (h.run pos pins s σ H _ I hq) ?_)
  rintro us s1 ⟨xs, H1, I1, r, z, q⟩
  refine ⟨by rw [← r.length]; exact z, ?_⟩
  have new : ObjOk X.prog X.w (upd H1 s1.heap.objs.size (.frz { cls := .type "tuple", data := .seq us.toArray } (.tup xs))) (s1.heap.push { cls := .type "tuple", data := .seq us.toArray }) s1.heap.objs.size
      (.frz { cls := .type "tuple", data := .seq us.toArray } (.tup xs)) := ⟨Heap.get?_push_size _ rfl, z, us, r, IsTup.new _ _⟩
  have I2 := I1.laid (t' := s1.toks) (fun b o e => Heap.get?_push_of_some _ e) (Nat.le_refl _) new
  exact ⟨.ref s1.heap.objs.size, _, I2, rfl, q _ _ (I1.hok.fresh (Nat.le_refl _)) rfl rfl⟩
/-- t.m(e, ..), t such a tuple -/
def tTM (r : V → List V → Hp → VK → Prop) (to : TE) (t : TA) : TE := fun σ H Q => to σ H fun x H1 => (∃ a xs, x = .ref a ∧ FT H1 a xs) ∧ t σ H1 fun xs H2 => r x xs H2 Q
theorem pe_tm {X : Cx} {o e : Expr} {es : List Expr} {to : TE} {t : TA} {name : Str} {apos cpos : Pos} {id : String} {r : V → List V → Hp → VK → Prop}
    (slot : Slot "tuple" name id) (hty : typeOf (.builtin id) = pure (.type "method_descriptor")) (hm : MtR X id r) (ho : PE X o to) (ha : PA X (e :: es) t)
    (hbase : attributeBase o name X.env (eval o X.env) = eval o X.env := by rfl)
    (hfew : ((backTo cpos (starEach (e :: es) X.env)).all (fun x => !x.1) && (backToKw cpos (keywordEach [] X.env)).all (fun x => x.1.isSome)
      && decide ((e :: es).length + ([] : List Keyword).length + (if ([] : List Keyword).isEmpty then 0 else 1) < 30)) = true := by rfl)
    (hline : (apos.endLine == cpos.line) = true := by rfl) (hs : starEach (e :: es) X.env = (false, eval e X.env) :: starEach es X.env := by rfl)
    (hplain : (backTo cpos (starEach es X.env)).any (·.1) = false := by rfl) : PE X (.Call (.Attribute o name apos) (e :: es) [] cpos) (tTM r to t) := by
  constructor
  intro pins s σ H Q I h
  refine wpAny_Call_method_late hbase hfew hline rfl (thn (ho.run pins s σ H _ I h) ?_)
  rintro v s1 ⟨x, H1, I1, r1, ⟨a, xs, rfl, ⟨ob, hob, hc, hd⟩⟩, q1⟩
  cases r1
  have hg : s1.heap.get? a = some ob := (I1.hok a _ hob).1
  refine ⟨"tuple", id, PySem.F.plainAttrs_tuple, slot, hty, ⟨ob, hg, hc⟩, fun a' e' => ?_, ?_⟩
  · cases e'
    exact ⟨ob, hg, hd⟩
  · have run := ha.run cpos pins s1 σ H1 _ I1 q1
    rw [hs] at run ⊢
    refine Calls.callWith_builtin ?_ (Calls.evalArgs_plain (thn run ?_))
    · show (false || (backTo cpos (starEach es X.env)).any (·.1)) = false
      rw [hplain]
      rfl
    · rintro us s2 ⟨vs, H2, I2, r2, q2⟩
      exact hm pins s2 σ H2 (.ref a) vs (.ref a) us Q I2 rfl r2 q2
/-! ### sums and slices of tuples, their object left open -/
def rCatU (K : PySem.W.Frag) : R2 := fun x y H Q => ∃ a b xs ys, x = .ref a ∧ y = .ref b ∧ SqT K H a xs ∧ SqT K H b ys ∧ xs.length + ys.length ≤ sizeLine ∧
  ∀ u H', Same H H' → SqT K H' u (xs ++ ys) → Q (.ref u) H'
theorem op_catU {X : Cx} : OpR X (binaryOp .Add) (rCatU X.K) := by
  intro pins s σ H x y v u Q I rx ry h
  obtain ⟨a, b, xs, ys, rfl, rfl, ha, hb, hl, q⟩ := h
  refine op_catA pins s σ H _ _ v u Q I rx ry ⟨a, b, xs, ys, rfl, rfl, ha, hb, hl, fun e => ?_, fun _ e => ?_, fun _ _ p hp => ?_⟩
  · subst e
    exact q _ _ (Same.refl H) hb
  · subst e
    refine q _ _ (Same.refl H) ?_
    rw [List.append_nil]
    exact ha
  · exact q _ _ (same_new hp) (.inl (.inl upd_same))
theorem cutV_whole {xs : List V} {lo hi : Option Int} (h : HT.sIx xs.length 0 lo = 0 ∧ HT.sIx xs.length xs.length hi = xs.length) : cutV xs lo hi = xs := by
  unfold cutV
  rw [h.1, h.2]
  simp
def rSlU (K : PySem.W.Frag) : V → Option Int → Option Int → Hp → VK → Prop := fun x lo hi H Q => ∃ a xs, x = .ref a ∧ SqT K H a xs ∧ ∀ u H', Same H H' → SqT K H' u (cutV xs lo hi) → Q (.ref u) H'
theorem sl_tupU {X : Cx} : SlR X (rSlU X.K) := by
  intro pins s σ H x v vl vu lo hi sl Q I rx hs pl pu h
  obtain ⟨a, xs, rfl, ha, q⟩ := h
  refine sl_tupA pins s σ H _ v vl vu lo hi sl Q I rx hs pl pu ⟨a, xs, rfl, ha, fun e => ?_, fun _ p hp => ?_⟩
  · refine q _ _ (Same.refl H) ?_
    rw [cutV_whole e]
    exact ha
  · exact q _ _ (same_new hp) (.inl (.inl upd_same))
end Kb
namespace Kb
open PySem PySem.Spec PyProof.Rows L2
/-! ### t[::-1] of a tuple -/
section
variable {prog : Program} {w : World} {A : Around} {E : Value → Shared → Prop} {s : Shared}
theorem applied_rev {sl : Addr} {vl vu vs : Value} {n : Nat} {Q : Int × Int × Nat → Shared → Prop} (hs : s.heap.IsSliceOf sl vl vu vs) (pl : IsPart vl none) (pu : IsPart vu none) (ps : IsPart vs (some (-1)))
    (h : Q ((n : Int) - 1, -1, n) s) : wpAny (model prog w) A (Builtin.Slice.sliceApplied (.ref sl) (pure (n : Int))) Q E s := by
  obtain ⟨os, hos, hcs, hds⟩ := id hs
  unfold Builtin.Slice.sliceApplied Builtin.Slice.sliceFields
  have pn : Builtin.Slice.slicePlaces ((n : Int) - 1) (-1) (-1) = n := by
    unfold Builtin.Slice.slicePlaces
    rw [if_neg (by decide)]
    by_cases c : n = 0
    · subst c
      decide
    · rw [if_pos (by omega)]
      have : ((n : Int) - 1 - -1 - 1) / (- -1) = (n : Int) - 1 := by
        rw [Int.neg_neg, Int.ediv_one]
        omega
      rw [this]
      omega
  apply wpAny_bind
  apply wpAny_bind
  refine wpAny_field hos hds (x := vl) rfl ?_
  apply wpAny_bind
  refine wpAny_field hos hds (x := vu) rfl ?_
  apply wpAny_bind
  refine wpAny_field hos hds (x := vs) rfl (wpAny_pure ?_)
  apply wpAny_bind
  refine HT.slicePart_ ps ?_
  show wpAny _ _ (if ((-1 : Int) == 0) = true then _ else _) _ _ s
  rw [if_neg (by decide)]
  apply wpAny_bind
  refine HT.slicePart_ pl ?_
  apply wpAny_bind
  refine HT.slicePart_ pu ?_
  apply wpAny_bind
  refine wpAny_pure ?_
  show wpAny _ _ (pure ((n : Int) - 1, (-1 : Int), Builtin.Slice.slicePlaces ((n : Int) - 1) (-1) (-1))) _ _ s
  rw [pn]
  exact wpAny_pure h
theorem fm_congr {α β : Type} {f g : α → Option β} : ∀ {l : List α}, (∀ x ∈ l, f x = g x) → l.filterMap f = l.filterMap g
  | [], _ => rfl
  | x :: l, h => by
    rw [List.filterMap_cons, List.filterMap_cons, h x List.mem_cons_self, fm_congr (fun y hy => h y (List.mem_cons_of_mem _ hy))]
theorem pick_rev (xs : Array Value) : ((List.range xs.size).filterMap fun (m : Nat) => xs[(((xs.size : Int) - 1) + (m : Int) * (-1)).toNat]?) = xs.toList.reverse := by
  have e : (List.range xs.size).filterMap (fun (m : Nat) => xs[(((xs.size : Int) - 1) + (m : Int) * (-1)).toNat]?) = (List.range xs.size).filterMap (fun m => xs.toList.reverse[m]?) := by
    refine fm_congr (fun m hm => ?_)
    have hm := List.mem_range.mp hm
    have hi : (((xs.size : Int) - 1) + (m : Int) * (-1)).toNat = xs.size - 1 - m := by omega
    rw [hi, List.getElem?_reverse (by rw [Array.length_toList]; exact hm), Array.length_toList, Array.getElem?_toList]
  rw [e]
  have len : xs.size = xs.toList.reverse.length := by rw [List.length_reverse, Array.length_toList]
  rw [len]
  generalize xs.toList.reverse = l
  apply List.ext_getElem?
  intro i
  clear e len
  induction l generalizing i with
  | nil => rfl
  | cons x r ih =>
    rw [List.length_cons, List.range_succ_eq_map, List.filterMap_cons]
    show (x :: ((List.range r.length).map Nat.succ).filterMap fun m => (x :: r)[m]?)[i]? = (x :: r)[i]?
    rw [List.filterMap_map]
    cases i with
    | zero => rfl
    | succ i => exact ih i
theorem getItem_tuple_rev {t sl : Addr} {items : Array Value} {vl vu vs : Value} {Q : Value → Shared → Prop} (ht : IsTup s.heap t items) (hs : s.heap.IsSliceOf sl vl vu vs) (pl : IsPart vl none) (pu : IsPart vu none) (ps : IsPart vs (some (-1)))
    (h : Q (.ref s.heap.objs.size) { s with heap := s.heap.push { cls := .type "tuple", data := .seq items.toList.reverse.toArray } })
    (hsz : items.size ≤ sizeLine) : wpAny (model prog w) A (getItem (.ref t) (.ref sl)) Q E s := by
  have fits : sizeOk (.seq items.toList.reverse.toArray) := by
    show items.toList.reverse.toArray.size ≤ sizeLine
    rw [List.size_toArray, List.length_reverse, Array.length_toList]
    exact hsz
  obtain ⟨os, hos, hcs, hds⟩ := id hs
  have hTs : s.TypeIs (.ref sl) "slice" := ⟨os, hos, hcs⟩
  unfold getItem
  try with_reducible refine wpAny_holding ?_
  first | refine wpAny_bind (wpAny_pure ?_) | skip
  apply wpAny_bind
  refine wpAny_sequenceKey ht.typeIs (by decide) ?_
  apply wpAny_bind
  refine wpAny_callSpecial?_slot (name := Str.ofString "__getitem__") ht.typeIs PyProof.Rows.slot_tuple_getitem ?_
  refine wpAny_call_entry PyProof.Rows.slot_tuple_getitem ht.typeIs entry_tuple_getitem ?_ (args_tuple_getitem _ _)
  show wpAny _ _ (Builtin.Tuple.tupleItemsOf (.ref t) >>= _) _ _ s
  apply wpAny_bind
  refine tupleItemsOf_ ht ?_
  apply wpAny_bind
  refine wpAny_typeOf hTs ?_
  rw [if_pos (by decide)]
  apply wpAny_bind
  refine applied_rev hs pl pu ps ?_
  have hno : ¬ ((((items.size : Int) - 1) == 0 && (-1 : Int) == 1 && items.size == items.size) = true) := by
    rw [show ((-1 : Int) == 1) = false from by decide, Bool.and_false, Bool.false_and]
    exact Bool.false_ne_true
  show wpAny _ _ (if (((items.size : Int) - 1) == 0 && (-1 : Int) == 1 && items.size == items.size) = true then _ else _) _ _ s
  rw [if_neg hno, pick_rev]
  first
    | exact wpAny_bind (m := Builtin.Tuple.tupleExact _) (wpAny_newObj_type (wpAny_pure ⟨_, rfl, wpAny_pure h⟩) fits)
    | exact wpAny_bind (m := Builtin.Tuple.tupleExact _) (wpAny_newObj_type (wpAny_bind (wpAny_pure (wpAny_pure ⟨_, rfl, wpAny_pure h⟩))) fits)
    | exact wpAny_bind (wpAny_bind (m := Builtin.Tuple.tupleExact _) (wpAny_newObj_type (wpAny_pure (wpAny_pure ⟨_, rfl, wpAny_pure h⟩)) fits))
    | exact wpAny_bind (wpAny_bind (m := Builtin.Tuple.tupleExact _) (wpAny_newObj_type (wpAny_pure ⟨_, rfl, wpAny_pure h⟩) fits))
end
def tRevT (K : PySem.W.Frag) (te : TE) : TE := fun σ H Q => te σ H fun x H1 => ∃ a xs, x = .ref a ∧ SqT K H1 a xs ∧
  ∀ (p : Addr) (o : Obj), H1 p = none → o.cls = .type "tuple" → o.dict = none → Q (.ref p) (upd H1 p (.frz o (.tup xs.reverse)))
theorem pe_revT {X : Cx} {e : Expr} {te : TE} {k : Nat} {p1 p2 p3 pos : Pos} (he : PE X e te) :
    PE X (.Subscript e (.Slice none none (some (.UnaryOp .USub (.Constant (.int 1) k p1) p2)) p3) pos) (tRevT X.K te) := by
  constructor
  intro pins s σ H Q I h
  refine Subscript_ (thn (he.run pins s σ H _ I h) ?_)
  rintro v s1 ⟨x, H1, I1, r1, a, xs, rfl, hx, q⟩
  cases r1
  have minus : PO X (some (.UnaryOp .USub (.Constant (.int 1) k p1) p2)) (tPart (tUn (rU fun i => .int (-i)) (tC (.int 1)))) := po_some (pe_un un_neg pe_int)
  refine wpAny_Slice (thn (po_none.run pins s1 σ H1 (fun o H2 => o = none ∧ H2 = H1) I1 ⟨rfl, rfl⟩) ?_)
  rintro vl s2 ⟨l, H2, I2, pl, rfl, rfl⟩
  refine thn (po_none.run pins s2 σ H2 (fun o H3 => o = none ∧ H3 = H2) I2 ⟨rfl, rfl⟩) ?_
  rintro vu s3 ⟨u, H3, I3, pu, rfl, rfl⟩
  refine thn (minus.run pins s3 σ H3 (fun o H4 => o = some (-1) ∧ H4 = H3) I3 ⟨1, rfl, -1, rfl, rfl, rfl⟩) ?_
  rintro vs s4 ⟨o, H4, I4, ps, rfl, rfl⟩
  have I5 : Inv X pins σ H4 { s4 with heap := s4.heap.push { cls := .type "slice", data := .fields #[vl, vu, vs] } } := I4.kept (t' := s4.toks) (fun b ob q => Heap.get?_push_of_some _ q)
  obtain ⟨its, r, ht, hz⟩ := I5.tuple hx
  have hlen := r.length
  show wpAny (model X.prog X.w) X.A (subscriptTail e (.Slice none none (some (.UnaryOp .USub (.Constant (.int 1) k p1) p2)) p3) (.ref a) (.ref s4.heap.objs.size)) (EP X pins σ Q) X.xe _
  refine tail_any (ops := [.ref a, .ref s4.heap.objs.size]) ht.typeIs (PyProof.Rows.slot_tuple_getitem.lookup) ?_ (by with_unfolding_all rfl)
  refine getItem_tuple_rev ht (Heap.IsSliceOf.new _ vl vu vs) pl pu ps ?_ (by rw [List.size_toArray]; omega)
  generalize hh : ({ s4 with heap := s4.heap.push { cls := .type "slice", data := .fields #[vl, vu, vs] } } : Shared) = s5 at I5
  rw [List.toList_toArray]
  have new : ObjOk X.prog X.w (upd H4 s5.heap.objs.size (.frz { cls := .type "tuple", data := .seq its.reverse.toArray } (.tup xs.reverse))) (s5.heap.push { cls := .type "tuple", data := .seq its.reverse.toArray }) s5.heap.objs.size
      (.frz { cls := .type "tuple", data := .seq its.reverse.toArray } (.tup xs.reverse)) := ⟨Heap.get?_push_size _ rfl, by rw [List.length_reverse]; exact hz, its.reverse, r.reverse, IsTup.new _ _⟩
  have I6 := I5.laid (t' := s5.toks) (fun b o e => Heap.get?_push_of_some _ e) (Nat.le_refl _) new
  exact ⟨.ref s5.heap.objs.size, _, I6, rfl, q _ _ (I5.hok.fresh (Nat.le_refl _)) rfl rfl⟩
/-! ### tuple(range(..)), its object told -/
def tTupRgF (te : L2.St → Hp → (Int → Int → Hp → Prop) → Prop) : TE := fun σ H Q => te σ H fun a b H1 => RgOk a b ∧
  ∀ (q : Addr) (o : Obj), H1 q = none → o.cls = .type "tuple" → o.dict = none → Q (.ref q) (upd H1 q (.frz o (.tup (rgV a b))))
theorem pe_tupRgF {X : Cx} {e : Expr} {te : L2.St → Hp → (Int → Int → Hp → Prop) → Prop} {p pos : Pos} (hc : X.calm = true) (hg : Gl X "tuple") (hm : X.mg "tuple" = none) (he : PRg X e te)
    (na : starEach [e] X.env = (false, eval e X.env) :: starEach [] X.env := by rfl) : PE X (.Call (.Name "tuple" p) [e] [] pos) (tTupRgF te) := by
  constructor
  intro pins s σ H Q I h
  have run := he pins s σ H _ I h
  refine Call_ (ld_blt I hg hm boot_tuple (PyProof.Rows.callWith_type1 (args_cons (thn run ?_) na) na))
  rintro x s1 ⟨r, a, b, t, u, v, H1, ex, hr, I1, ok, q⟩
  refine args_nil ?_
  subst ex
  obtain ⟨b1, b2, b3, b4, b5⟩ := ok
  refine call_tuple_range (n := (b - a).toNat) (I1.ok.hd hc) hr (small_one b1 b2 b3 b4) (rangeSize_nat a b) b5 (fun h' tk acc hk hi => ?_)
  have I2 : Inv X pins σ H1 { s1 with heap := h', toks := tk } := I1.kept hk
  have new : ObjOk X.prog X.w (upd H1 h'.objs.size (.frz { cls := .type "tuple", data := .seq acc } (.tup (rgV a b)))) (h'.push { cls := .type "tuple", data := .seq acc }) h'.objs.size
      (.frz { cls := .type "tuple", data := .seq acc } (.tup (rgV a b))) := by
    refine ⟨Heap.get?_push_size _ rfl, ?_, acc.toList, vals_rg hi, ?_⟩
    · rw [rgV_length, sizeLine_eq]
      omega
    · rw [Array.toArray_toList]
      exact IsTup.new _ _
  have I3 := I2.laid (t' := tk) (fun c o e => Heap.get?_push_of_some _ e) (Nat.le_refl _) new
  exact ⟨.ref h'.objs.size, _, I3, rfl, q _ _ (I2.hok.fresh (Nat.le_refl _)) rfl rfl⟩
theorem rgV_pl (n : Nat) : rgV 0 (n : Int) = plV (List.range n) := by
  unfold rgV plV
  rw [Int.sub_zero, Int.toNat_natCast]
  refine List.map_congr_left (fun i _ => ?_)
  rw [Int.zero_add]
theorem plV_rev (r : List Nat) : (plV r).reverse = plV r.reverse := by
  unfold plV
  rw [List.map_reverse]
end Kb
namespace Kp
open PySem PySem.Spec PyProof.Rows L2 Kb
def topS (i : Nat) : Stmt := PySem.Challenge.pw_tailranks_k09_fewest_letters_and_least_w.main.body.getD i (.Pass ⟨0, 0, 0, 0⟩)
abbrev sRank : Stmt := topS 1
abbrev sRanksOf : Stmt := topS 4
abbrev sSteps : Stmt := topS 5
abbrev sFewest : Stmt := topS 6
abbrev sLeast : Stmt := topS 7
abbrev sStream : Stmt := topS 9
abbrev sDraw : Stmt := topS 10
abbrev sPick : Stmt := topS 11
abbrev sDrawn : Stmt := topS 12
abbrev sTails : Stmt := topS 13
abbrev sByTails : Stmt := topS 14
abbrev sOrdered : Stmt := topS 15
abbrev sLSteps : Stmt := topS 16
abbrev sHas : Stmt := topS 17
abbrev sLaw : Stmt := topS 18
end Kp
namespace Kp
open PySem PySem.Spec PyProof.Rows L2 Kb
abbrev nStream : List Str := ["_law_script", "_law_cells", "_law_cell"]
theorem scStream : FnScope nStream ["_law_script"] (defScope sStream) := ⟨rfl, rfl, rfl, by decide +kernel, rfl, by decide +kernel, by decide +kernel⟩
section
variable {P : Program} {w : World} {K : PySem.W.Frag} {mg : Str → Option Value} {base : Heap}
def spStream (K : PySem.W.Frag) : Sp := fun vs H Q _ => ∃ (a : Addr) (ns : List Int), vs = [.ref a] ∧ SqL K H a (ns.map V.int) ∧ ns.length ≤ 63 ∧
  ∀ H' p b c, Same H H' → H p = none → H b = none → H c = none → Stm H' p b c 0 → Q (.ref p) H'
theorem ok_stream {f : Addr} {fd : FuncData} {k : Nat} (F : Fun K "_law_stream" "_law_stream" sStream f fd) (mAbs : mg "abs" = none) (mLen : mg "len" = none) :
    FnOk P w K mg base CX0 (k + 1) f fd ["_law_script"] (spStream K) := by
  refine F.ok scStream (fun vs H Q E h => ?_) (fun cdv A outer s H vs Q E hr h => ?_)
  · obtain ⟨a, ns, rfl, _⟩ := h
    rfl
  · obtain ⟨a, ns, rfl, hS, hlen, q⟩ := h
    refine ⟨_, pss_cons (ps_setLc (i := 1) (own := [("_law_cell", 2)]) (g := gName 2) (tt := tYes) rfl scStream.nd rfl rfl (sw_true rfl rfl rfl (by decide +kernel)) (pi_list (pv 0))
        (blkOk_by (N := nStream) (sc := defScope sStream) (by decide +kernel)) (fun _ _ _ _ _ => pg_name (i := 2) scStream.nd rfl (Or.inl rfl)) (fun _ _ _ _ _ => pts_nil)
        (fun _ _ _ _ _ => pe_callB call_abs (by rfl) mAbs (by decide +kernel) (pa_cons (pv 2) pa_nil)))
      (pss_one (ps_ret (pe_lst (pa_cons (pe_lc (own := [("_law_cell", 2)]) (g := gName 2) rfl scStream.nd (pi_list (pv 1)) (blkOk_by (N := nStream) (sc := defScope sStream) (by decide +kernel))
          (fun _ _ _ _ _ => pg_name (i := 2) scStream.nd rfl (Or.inl rfl)) (fun _ _ _ _ _ => pts_one (pt_cmpR op_ge (pv 2) (pe_op op_pow pe_int pe_int) (nomark _))) (fun _ _ _ _ _ => pv 2))
        (pa_cons (pe_op op_cat (pv 1) (pe_lst (pa_cons (pe_op op_add (pe_callB call_len_seq (by rfl) mLen PySem.boot_len (pa_cons (pv 1) pa_nil)) pe_int) pa_nil))) (pa_cons pe_int pa_nil)))))), ?_⟩
    refine ⟨.ref a, rfl, a, rfl, ⟨_, hS⟩, fun D hD => lc_list (K := K) (a := a) (xs := ns.map V.int)
      (fun i H' => ∃ l : List Int, Same H H' ∧ H' D = some (.lst (l.map V.int)) ∧ l.length = i) ⟨[], same_new hD, upd_same, rfl⟩ (fun i H' _ h => ?_) (fun i x H' hx h => ?_) (fun H1 h => ?_)⟩
    · obtain ⟨l, h1, _⟩ := h
      exact h1.seq hS
    · obtain ⟨l, h1, h2, h3⟩ := h
      rw [List.getElem?_map] at hx
      obtain ⟨z, hz, rfl⟩ := Option.map_eq_some_iff.mp hx
      refine ⟨rfl, .int z, rfl, z, rfl, l.map V.int, h2, ?_, ?_⟩
      · rw [List.length_map, h3]
        have := (List.getElem?_eq_some_iff.mp hz).1
        exact small1000 (by omega)
      · refine ⟨l ++ [_], fun b o e => ?_, by rw [upd_same, List.map_append]; rfl, by rw [List.length_append, h3]; rfl⟩
        have nb : b ≠ D := ne_of_none e hD
        rw [upd_ne nb]
        exact h1 _ _ e
    · obtain ⟨l, sm, eD, el⟩ := h
      rw [List.length_map] at el
      refine ⟨.ref D, rfl, D, rfl, ⟨_, .inl (.inl eD)⟩, fun B hB => lc_list (K := K) (a := D) (xs := l.map V.int)
        (fun i H' => ∃ r : List Int, Same H1 H' ∧ H' B = some (.lst (r.map V.int)) ∧ r.length ≤ i) ⟨[], same_new hB, upd_same, Nat.le_refl _⟩ (fun i H' _ h => ?_) (fun i x H' hx h => ?_) (fun H2 h => ?_)⟩
      · obtain ⟨r, h1, _⟩ := h
        exact h1.seq (.inl (.inl eD))
      · obtain ⟨r, h1, h2, h3⟩ := h
        rw [List.getElem?_map] at hx
        obtain ⟨z, hz, rfl⟩ := Option.map_eq_some_iff.mp hx
        have hi := (List.getElem?_eq_some_iff.mp hz).1
        refine ⟨rfl, .int z, rfl, 10, 18, rfl, rfl, ⟨by decide, by decide, by decide⟩, z, _, rfl, rfl, _, rfl, ite2 (fun _ => ?_) (fun _ => ?_)⟩
        · refine ⟨.int z, rfl, r.map V.int, h2, ?_, r ++ [z], fun b o e => ?_, by rw [upd_same, List.map_append]; rfl, by rw [List.length_append]; show r.length + 1 ≤ _; omega⟩
          · rw [List.length_map]
            exact small1000 (by omega)
          · have nb : b ≠ B := ne_of_none e hB
            rw [upd_ne nb]
            exact h1 _ _ e
        · exact ⟨r, h1, h2, by omega⟩
      · obtain ⟨r, sm2, eB, er⟩ := h
        rw [List.length_map] at er
        have eD2 := sm2 _ _ eD
        refine ⟨.ref D, rfl, .ref D, rfl, D, l.map V.int, rfl, .inl (.inl (.inl eD2)), _, 29, rfl, rfl, by show 1 ≤ sizeLine; decide, fun Z hZ => ?_⟩
        have sm3 := same_new (o := .lst [V.int (((l.map V.int).length : Int) + 29)]) hZ
        refine ⟨D, Z, l.map V.int, _, rfl, rfl, sm3 _ _ eD2, upd_same, ?_, fun C hC => ?_⟩
        · rw [List.length_map]
          exact Nat.le_of_lt (small1000 (by show l.length + 1 ≤ 1000; omega))
        · have sm4 := same_new (o := .lst (l.map V.int ++ [V.int (((l.map V.int).length : Int) + 29)])) hC
          refine ⟨by show 3 ≤ sizeLine; decide, fun p hp => ?_⟩
          have sm5 := same_new (o := .lst [.ref B, .ref C, .int 0]) hp
          have all : Same H _ := sm.trans (sm2.trans (sm3.trans (sm4.trans sm5)))
          have nB : H B = none := sm.free hB
          have nC : H C = none := sm.free (sm2.free (sm3.free hC))
          have np : H p = none := sm.free (sm2.free (sm3.free (sm4.free hp)))
          have eB4 := sm4 _ _ (sm3 _ _ eB)
          refine q _ p B C all np nB nC ⟨⟨0, r, l ++ [((l.map V.int).length : Int) + 29], upd_same, by decide, by decide, sm5 _ _ eB4, by omega, ?_, by rw [List.length_append]; show 0 < l.length + 1; omega, by rw [List.length_append]; show l.length + 1 ≤ 64; omega⟩, ?_⟩
          · rw [sm5 C _ upd_same, List.map_append]
            rfl
          · exact fun e => by
              have z := sm3 _ _ eB
              rw [e, hC] at z
              cases z
end
end Kp
namespace Kp
open PySem PySem.Spec PyProof.Rows L2 Kb
abbrev nDraw : List Str := ["_law_stream_here", "_law_many", "_law_rest", "_law_turn", "_law_cell", "_law_mixed"]
theorem scDraw : FnScope nDraw ["_law_stream_here", "_law_many"] (defScope sDraw) := ⟨rfl, rfl, rfl, by decide +kernel, rfl, by decide +kernel, by decide +kernel⟩
def bigLen (b : Addr) (H : Hp) : Nat := match H b with
  | some (.lst xs) => xs.length
  | _ => 0
theorem bigLen_of {b : Addr} {H : Hp} {xs : List V} (h : H b = some (.lst xs)) : bigLen b H = xs.length := by
  unfold bigLen
  rw [h]
section
variable {P : Program} {w : World} {K : PySem.W.Frag} {mg : Str → Option Value} {base : Heap}
def spDraw : Sp := fun vs H Q _ => ∃ (p b c : Addr) (t : Nat) (m : Int), vs = [.ref p, .int m] ∧ Stm H p b c t ∧ t ≤ 1000000 ∧ 0 < m ∧ m < 1000 ∧
  ∀ H' r, Kept p b H H' → Stm H' p b c (t + 1) → 0 ≤ r → r < m → Q (.int r) H'
theorem ok_draw {f : Addr} {fd : FuncData} {k : Nat} (F : Fun K "_law_draw" "_law_draw" sDraw f fd) (mLen : mg "len" = none) :
    FnOk P w K mg base CX0 (k + 1) f fd ["_law_stream_here", "_law_many"] spDraw := by
  refine F.ok scDraw (fun vs H Q E h => ?_) (fun cdv A outer s H vs Q E hr h => ?_)
  · obtain ⟨p, b, c, t, m, rfl, _⟩ := h
    rfl
  · obtain ⟨p, b, c, t, m, rfl, hS, ht, hm0, hm1, q⟩ := h
    refine ⟨_, pss_cons (ps_while PassesOwn.never (pt_cmpR (op_neD hr.units) (pe_ix ix_list (pv 0) pe_int (fun _ _ => rfl)) (pe_lst pa_nil) (nomark _))
        (pss_cons (ps_set (i := 2) scDraw.nd rfl (.inl rfl) (pe_ix ix_list (pe_ix ix_list (pv 0) pe_int (fun _ _ => rfl)) pe_int (fun _ _ => rfl)))
        (pss_cons (ps_if (pt_cmpR op_gt (pv 2) pe_int (nomark _))
          (pss_cons (ps_asg (pe_op op_fdiv (pv 2) (pv 1)) (pg_sub (pe_ix ix_list (pv 0) pe_int (fun _ _ => rfl)) pe_int set_list)) (pss_one (ps_ret (pe_op op_mod (pv 2) (pv 1))))) pss_nil)
        (pss_one (ps_expr (pe_bm PySem.F.plainAttrs_list PySem.F.slot_list_pop PySem.F.type_list_pop mt_popAt (pe_ix ix_list (pv 0) pe_int (fun _ _ => rfl)) (pa_cons pe_int pa_nil)))))))
      (pss_cons (ps_set (i := 3) scDraw.nd rfl (.inl rfl) (pe_op op_add (pe_ix ix_list (pv 0) pe_int (fun _ _ => rfl)) pe_int))
      (pss_cons (ps_asg (pv 3) (pg_sub (pv 0) pe_int set_list))
      (pss_cons (ps_set (i := 4) scDraw.nd rfl (.inl rfl) (pe_op op_mod (pe_ix ix_list (pe_ix ix_list (pv 0) pe_int (fun _ _ => rfl))
          (pe_op op_mod (pv 3) (pe_callB call_len_seq (by rfl) mLen PySem.boot_len (pa_cons (pe_ix ix_list (pv 0) pe_int (fun _ _ => rfl)) pa_nil))) (fun _ _ => rfl)) pe_int))
      (pss_cons (ps_set (i := 5) scDraw.nd rfl (.inl rfl) (pe_op op_mod (pe_op op_add (pe_op op_add (pe_op op_mul (pv 4) (pe_op op_add pe_int (pe_op op_mul pe_int (pv 3))))
          (pe_op op_mul (pe_op op_mul pe_int (pv 3)) (pv 3))) pe_int) pe_int))
      (pss_one (ps_ret (pe_op op_mod (pe_op op_fdiv (pe_op op_mod (pe_op op_mul (pv 5) (pv 5)) pe_int) pe_int) (pv 1)))))))), ?_⟩
    refine while_by (fun σ H' => ∃ y2, σ = [some (.ref p), some (.int m), y2, none, none, none] ∧ Kept p b H H' ∧ Stm H' p b c t) (fun _ H' => bigLen b H') ⟨none, rfl, Kept.refl H, hS⟩ (fun σ H1 h => ?_) (fun σ H1 Q Q' im h => ?_)
    · obtain ⟨y2, rfl, kp, S⟩ := h
      obtain ⟨⟨i, big, cells, e1, i0, i1, e2, l2, e3, c0, c1⟩, bc⟩ := id S
      refine ⟨.ref p, rfl, p, _, 0, .ref b, rfl, rfl, .inl (.inl e1), rfl, Nat.zero_le _, fun Z hZ => ?_⟩
      have sZ := same_new (o := .lst []) hZ
      have e1' := sZ _ _ e1
      have e2' := sZ _ _ e2
      have e3' := sZ _ _ e3
      refine ⟨.list (big.map PyData.int), .list [], .lst (.inl (.inl e2')) (dpAll_ints big), .lst (.inl (.inl upd_same)) .nil, shaped_ints big, by decide, _, rfl, ?_⟩
      rw [eqv_nil]
      cases big with
      | cons z rest =>
        refine ⟨.ref p, rfl, p, _, 0, .ref b, rfl, rfl, .inl (.inl e1'), rfl, b, _, 0, .int z, rfl, rfl, .inl (.inl e2'), at_of (j := 0) rfl rfl, ?_⟩
        have npb : p ≠ b := fun e => by
          rw [e, e2] at e1
          cases e1
        refine ⟨.int z, rfl, z, 0, rfl, rfl, _, rfl, ite2 (fun hz => ?_) (fun hz => ?_)⟩
        · -- the first great cell
          refine ⟨.int z, rfl, .int m, rfl, z, m, rfl, rfl, ⟨hm0, by omega⟩, .ref p, rfl, p, _, 0, .ref b, rfl, rfl, .inl (.inl e1'), rfl, b, _, 0, 0, rfl, rfl, e2', ix0 _, ?_⟩
          refine ⟨.int z, rfl, .int m, rfl, z, m, rfl, rfl, hm0, ?_⟩
          refine q _ _ (kp.trans ((Kept.same sZ).trans fun x o h1 h2 e => ?_)) ⟨⟨i, z / m :: rest, cells, ?_, i0, by omega, ?_, l2, ?_, c0, c1⟩, bc⟩ (Int.emod_nonneg _ (by omega)) (Int.emod_lt_of_pos _ hm0)
          · rw [upd_ne h2]
            exact e
          · rw [upd_ne npb]
            exact e1'
          · rw [upd_same]
            rfl
          · rw [upd_ne bc.symm]
            exact e3'
        · -- it is taken out
          refine ⟨.ref p, rfl, p, _, 0, .ref b, rfl, rfl, .inl (.inl e1'), rfl, .inl ⟨rfl, _, .inl (.inl e2')⟩, b, _, 0, 0, .int z, rfl, rfl, e2', by decide, by decide, sq0 _, rfl, ?_⟩
          refine ⟨⟨some (.int z), rfl, kp.trans ((Kept.same sZ).trans fun x o h1 h2 e => ?_), ⟨⟨i, rest, cells, ?_, i0, i1, ?_, ?_, ?_, c0, c1⟩, bc⟩⟩, ?_⟩
          · rw [upd_ne h2]
            exact e
          · rw [upd_ne npb]
            exact e1'
          · rw [upd_same]
            rfl
          · exact Nat.le_of_succ_le l2
          · rw [upd_ne bc.symm]
            exact e3'
          · rw [bigLen_of upd_same, bigLen_of e2]
            simp
      | nil =>
        have npc : p ≠ c := fun e => by
          rw [e, e3] at e1
          cases cells with
          | nil => cases c0
          | cons x r => cases e1
        have npb : b ≠ p := fun e => by
          rw [← e, e2] at e1
          cases e1
        -- turn = stream[2] + 1
        refine ⟨.ref p, rfl, p, _, 2, .int i, rfl, rfl, .inl (.inl e1'), rfl, i, 1, rfl, rfl, ?_⟩
        -- stream[2] = turn
        refine ⟨.int (i + 1), rfl, .ref p, rfl, p, _, 2, 2, rfl, rfl, e1', rfl, ?_⟩
        have e1u : (upd (upd H1 Z (.lst [])) p (.lst ([V.ref b, V.ref c, V.int i].set 2 (V.int (i + 1))))) p = some (.lst [.ref b, .ref c, .int (i + 1)]) := upd_same
        have e3u : (upd (upd H1 Z (.lst [])) p (.lst ([V.ref b, V.ref c, V.int i].set 2 (V.int (i + 1))))) c = some (.lst (cells.map V.int)) := by
          rw [upd_ne npc.symm]
          exact e3'
        have e2u : (upd (upd H1 Z (.lst [])) p (.lst ([V.ref b, V.ref c, V.int i].set 2 (V.int (i + 1))))) b = some (.lst (([] : List Int).map V.int)) := by
          rw [upd_ne npb]
          exact e2'
        -- cell
        have hlen : (0 : Int) < ((cells.map V.int).length : Int) := by
          rw [List.length_map]
          omega
        have j0 := Int.emod_nonneg (i + 1) (show ((cells.map V.int).length : Int) ≠ 0 by omega)
        have j1 := Int.emod_lt_of_pos (i + 1) hlen
        obtain ⟨j, hj⟩ := Int.eq_ofNat_of_zero_le j0
        have hjl : j < cells.length := by
          rw [List.length_map] at j1 hj
          omega
        refine ⟨.ref p, rfl, p, _, 0 + 1, .ref c, rfl, rfl, .inl (.inl e1u), rfl, .int (i + 1), rfl, .ref p, rfl, p, _, 1, .ref c, rfl, rfl, .inl (.inl e1u), rfl, c, _, rfl, .inl (.inl (.inl e3u)), i + 1, _, rfl, rfl, hlen, c, _, _, .int cells[j], rfl, rfl, .inl (.inl e3u), at_of hj (by rw [List.getElem?_map, List.getElem?_eq_getElem hjl]; rfl), cells[j], 2147483587, rfl, rfl, by show (0 : Int) < 2147483587; decide, ?_⟩
        have g0 := Int.emod_nonneg cells[j] (show (2147483587 : Int) ≠ 0 by decide)
        have g1 := Int.emod_lt_of_pos cells[j] (show (0 : Int) < 2147483587 by decide)
        obtain ⟨g, hg⟩ : ∃ g : Int, g = cells[j] % 2147483587 := ⟨_, rfl⟩
        rw [← hg] at g0 g1
        dsimp only
        rw [← hg]
        -- mixed
        refine ⟨.int g, rfl, .int (i + 1), rfl, 48271, i + 1, rfl, rfl, .inl ⟨by decide, by decide⟩, 39373, _, rfl, rfl, g, _, rfl, rfl, .inl ⟨by omega, by omega⟩, .int (i + 1), rfl, 69621, i + 1, rfl, rfl, .inl ⟨by decide, by decide⟩, .int (i + 1), rfl, _, i + 1, rfl, rfl, .inr ⟨by omega, by omega⟩, _, _, rfl, rfl, _, 41, rfl, rfl, _, 2147483647, rfl, rfl, by show (0 : Int) < 2147483647; decide, ?_⟩
        have m0 := Int.emod_nonneg (g * (39373 + 48271 * (i + 1)) + 69621 * (i + 1) * (i + 1) + 41) (show (2147483647 : Int) ≠ 0 by decide)
        have m1 := Int.emod_lt_of_pos (g * (39373 + 48271 * (i + 1)) + 69621 * (i + 1) * (i + 1) + 41) (show (0 : Int) < 2147483647 by decide)
        obtain ⟨x, hx⟩ : ∃ x : Int, x = (g * (39373 + 48271 * (i + 1)) + 69621 * (i + 1) * (i + 1) + 41) % 2147483647 := ⟨_, rfl⟩
        rw [← hx] at m0 m1
        dsimp only
        rw [← hx]
        refine ⟨.int x, rfl, .int x, rfl, x, x, rfl, rfl, .inl ⟨by omega, by omega⟩, _, 2147483629, rfl, rfl, by show (0 : Int) < 2147483629; decide, _, 16, rfl, rfl, ⟨by decide, by decide⟩, .int m, rfl, _, m, rfl, rfl, hm0, ?_⟩
        refine q _ _ (kp.trans ((Kept.same sZ).trans fun x o h1 h2 e => ?_)) ⟨⟨i + 1, [], cells, e1u, by omega, by omega, e2u, by decide, e3u, c0, c1⟩, bc⟩ (Int.emod_nonneg _ (by omega)) (Int.emod_lt_of_pos _ hm0)
        rw [upd_ne h1]
        exact e
    · obtain ⟨v, x1, p', xs, z, v2, x2, x3, x4, x5, x6, x7⟩ := h
      refine ⟨v, x1, p', xs, z, v2, x2, x3, x4, x5, x6, fun Z hZ => ?_⟩
      obtain ⟨d, e, y1, y2, y3, y4, kk, y5, y6⟩ := x7 Z hZ
      exact ⟨d, e, y1, y2, y3, y4, kk, y5, im _ _ y6⟩
end
end Kp
namespace Kp
open PySem PySem.Spec PyProof.Rows L2 Kb
abbrev nPick : List Str := ["_law_stream_here", "_law_items"]
theorem scPick : FnScope nPick ["_law_stream_here", "_law_items"] (defScope sPick) := ⟨rfl, rfl, rfl, by decide +kernel, rfl, by decide +kernel, by decide +kernel⟩
abbrev nDrawn : List Str := ["_law_stream_here", "_law_most", "_law_size", "_law_letters", "_law_found", "_law_many", "_law_k"]
theorem scDrawn : FnScope nDrawn ["_law_stream_here", "_law_most"] (defScope sDrawn) := ⟨rfl, rfl, rfl, by decide +kernel, rfl, by decide +kernel, by decide +kernel⟩
def chV (c : Nat) : V := .str ⟨#[c]⟩
/-- a small letter's code -/
def Low (c : Nat) : Prop := 97 ≤ c ∧ c ≤ 122
def Lows (z : Str) : Prop := ∀ c ∈ z.cps.toList, Low c
section
variable {P : Program} {w : World} {K : PySem.W.Frag} {mg : Str → Option Value} {base : Heap}
def spPickL (K : PySem.W.Frag) : Sp := fun vs H Q _ => ∃ (p b c l : Addr) (t : Nat) (xs : List V), vs = [.ref p, .ref l] ∧ Stm H p b c t ∧ t ≤ 1000000 ∧ H l = some (.lst xs) ∧ l ≠ p ∧ l ≠ b ∧
  0 < xs.length ∧ xs.length < 1000 ∧ ∀ H' v, Kept p b H H' → Stm H' p b c (t + 1) → v ∈ xs → Q v H'
def spPickS : Sp := fun vs H Q _ => ∃ (p b c : Addr) (t : Nat) (z : Str), vs = [.ref p, .str z] ∧ Stm H p b c t ∧ t ≤ 1000000 ∧
  0 < z.length ∧ z.length < 1000 ∧ ∀ H' x, Kept p b H H' → Stm H' p b c (t + 1) → x ∈ z.cps.toList → Q (chV x) H'
theorem ok_pickL {f fD : Addr} {fd fdD : FuncData} {k : Nat} (F : Fun K "_law_pick" "_law_pick" sPick f fd) (FD : Fun K "_law_draw" "_law_draw" sDraw fD fdD)
    (bD : Binds K fdD ["_law_stream_here", "_law_many"] []) (gD : mg "_law_draw" = some (.ref fD)) (mLen : mg "len" = none) :
    FnOk P w K mg base CX0 (k + 2) f fd ["_law_stream_here", "_law_items"] (spPickL K) := by
  have GD : FnOk P w K mg base CX0 (k + 1) fD fdD ["_law_stream_here", "_law_many"] spDraw := ok_draw FD mLen
  refine F.ok scPick (fun vs H Q E h => ?_) (fun cdv A outer s H vs Q E hr h => ?_)
  · obtain ⟨p, b, c, l, t, xs, rfl, _⟩ := h
    rfl
  · obtain ⟨p, b, c, l, t, xs, rfl, hS, ht, hl, n1, n2, x0, x1, q⟩ := h
    refine ⟨_, pss_one (ps_ret (pe_ix ix_list (pv 1) (pe_call GD hr (by rfl) gD FD.kp bD .nil pass0 (pa_cons (pv 0) (pa_cons (pe_callB call_len_seq (by rfl) mLen PySem.boot_len (pa_cons (pv 1) pa_nil)) pa_nil))) (fun _ _ => rfl))), ?_⟩
    refine ⟨.ref l, rfl, .ref p, rfl, .ref l, rfl, l, xs, rfl, .inl (.inl (.inl hl)), p, b, c, t, _, rfl, hS, ht, by omega, by omega, fun H' r kp S r0 r1 => ?_⟩
    obtain ⟨j, rfl⟩ := Int.eq_ofNat_of_zero_le r0
    have hj : j < xs.length := by omega
    refine ⟨l, xs, _, xs[j], rfl, rfl, .inl (.inl (kp _ _ n1 n2 hl)), at_of rfl (List.getElem?_eq_getElem hj), ?_⟩
    exact q _ _ kp S (List.getElem_mem hj)
theorem ok_pickS {f fD : Addr} {fd fdD : FuncData} {k : Nat} (F : Fun K "_law_pick" "_law_pick" sPick f fd) (FD : Fun K "_law_draw" "_law_draw" sDraw fD fdD)
    (bD : Binds K fdD ["_law_stream_here", "_law_many"] []) (gD : mg "_law_draw" = some (.ref fD)) (mLen : mg "len" = none) :
    FnOk P w K mg base CX0 (k + 2) f fd ["_law_stream_here", "_law_items"] spPickS := by
  have GD : FnOk P w K mg base CX0 (k + 1) fD fdD ["_law_stream_here", "_law_many"] spDraw := ok_draw FD mLen
  refine F.ok scPick (fun vs H Q E h => ?_) (fun cdv A outer s H vs Q E hr h => ?_)
  · obtain ⟨p, b, c, t, z, rfl, _⟩ := h
    rfl
  · obtain ⟨p, b, c, t, z, rfl, hS, ht, x0, x1, q⟩ := h
    refine ⟨_, pss_one (ps_ret (pe_ix ix_str (pv 1) (pe_call GD hr (by rfl) gD FD.kp bD .nil pass0 (pa_cons (pv 0) (pa_cons (pe_callB call_len_str (by rfl) mLen PySem.boot_len (pa_cons (pv 1) pa_nil)) pa_nil))) (fun _ _ => rfl))), ?_⟩
    have hz : z.length ≤ sizeLine := Nat.le_of_lt (small1000 (by omega))
    refine ⟨.str z, rfl, .ref p, rfl, .str z, rfl, z, rfl, hz, p, b, c, t, _, rfl, hS, ht, by omega, by omega, fun H' r kp S r0 r1 => ?_⟩
    obtain ⟨j, rfl⟩ := Int.eq_ofNat_of_zero_le r0
    have hj : j < z.cps.toList.length := by
      rw [Array.length_toList]
      show j < z.length
      omega
    refine ⟨z, _, z.cps.toList[j], rfl, rfl, hz, atI_nat (List.getElem?_eq_getElem hj), ?_⟩
    exact q _ _ kp S (List.getElem_mem hj)
/-- a text of the menu of letters -/
def Menu (v : V) : Prop := ∃ z : Str, v = .str z ∧ 0 < z.length ∧ z.length ≤ 26 ∧ Lows z
instance (z : Str) : Decidable (Lows z) := by
  unfold Lows Low
  infer_instance
theorem menu : ∀ v ∈ [V.str "a", V.str "ab", V.str "abc", V.str "az", V.str "aab", V.str "abcdefghijklmnopqrstuvwxyz"], Menu v := by
  intro v hv
  simp only [List.mem_cons, List.not_mem_nil, or_false] at hv
  rcases hv with rfl | rfl | rfl | rfl | rfl | rfl <;> exact ⟨_, rfl, by decide +kernel, by decide +kernel, by decide +kernel⟩
theorem abz : ∀ c ∈ (Str.ofString "abz").cps.toList, Low c := by
  show Lows "abz"
  decide +kernel
def spDrawn : Sp := fun vs H Q _ => ∃ (p b c : Addr) (t : Nat) (m : Int), vs = [.ref p, .int m] ∧ Stm H p b c t ∧ t ≤ 900000 ∧ 0 < m ∧ m ≤ 24 ∧
  ∀ H' z, Kept p b H H' → Stm H' p b c (t + 40) → 0 < z.length → (z.length : Int) ≤ m → Lows z → Q (.str z) H'
theorem ok_drawn {f fD fP : Addr} {fd fdD fdP : FuncData} {k : Nat} (F : Fun K "_law_drawn" "_law_drawn" sDrawn f fd) (FD : Fun K "_law_draw" "_law_draw" sDraw fD fdD) (FP : Fun K "_law_pick" "_law_pick" sPick fP fdP)
    (bD : Binds K fdD ["_law_stream_here", "_law_many"] []) (bP : Binds K fdP ["_law_stream_here", "_law_items"] []) (gD : mg "_law_draw" = some (.ref fD)) (gP : mg "_law_pick" = some (.ref fP))
    (mLen : mg "len" = none) (mRange : mg "range" = none) (mMin : mg "min" = none) :
    FnOk P w K mg base CX0 (k + 3) f fd ["_law_stream_here", "_law_most"] spDrawn := by
  have GD : FnOk P w K mg base CX0 (k + 2) fD fdD ["_law_stream_here", "_law_many"] spDraw := ok_draw FD mLen
  have GL : FnOk P w K mg base CX0 (k + 2) fP fdP ["_law_stream_here", "_law_items"] (spPickL K) := ok_pickL FP FD bD gD mLen
  have GS : FnOk P w K mg base CX0 (k + 2) fP fdP ["_law_stream_here", "_law_items"] spPickS := ok_pickS FP FD bD gD mLen
  refine F.ok scDrawn (fun vs H Q E h => ?_) (fun cdv A outer s H vs Q E hr h => ?_)
  · obtain ⟨p, b, c, t, m, rfl, _⟩ := h
    rfl
  · obtain ⟨p, b, c, t, m, rfl, hS, ht, m0, m1, q⟩ := h
    refine ⟨_, pss_cons (ps_set (i := 2) scDrawn.nd rfl (.inl rfl) (pe_op op_add pe_int (pe_call GD hr (by rfl) gD FD.kp bD .nil pass0 (pa_cons (pv 0) (pa_cons (pv 1) pa_nil)))))
      (pss_cons (ps_set (i := 3) scDrawn.nd rfl (.inr rfl) (pe_call GL hr (by rfl) gP FP.kp bP .nil pass0 (pa_cons (pv 0) (pa_cons (pe_lst (pa_cons pe_str (pa_cons pe_str (pa_cons pe_str (pa_cons pe_str (pa_cons pe_str (pa_cons pe_str pa_nil))))))) pa_nil))))
      (pss_cons (ps_set (i := 4) scDrawn.nd rfl (.inr rfl) (pe_lc (own := [("_law_k", 6)]) (g := gName 6) (tt := tYes) rfl scDrawn.nd (pi_range1 (by rfl) mRange (pa_cons (pv 2) pa_nil)) (blkOk_by (N := nDrawn) (sc := defScope sDrawn) (by decide +kernel))
          (fun _ _ _ _ _ => pg_name (i := 6) scDrawn.nd rfl (Or.inl rfl)) (fun _ _ _ _ _ => pts_nil) (fun _ _ _ _ _ => pe_call GS hr (by rfl) gP FP.kp bP .nil pass0 (pa_cons (pv 0) (pa_cons (pv 3) pa_nil)))))
      (pss_cons (ps_if (pt_cmpR op_eq (pe_call GD hr (by rfl) gD FD.kp bD .nil pass0 (pa_cons (pv 0) (pa_cons pe_int pa_nil))) pe_int (nomark _))
        (pss_cons (ps_set (i := 5) scDrawn.nd rfl (.inr rfl) (pe_op op_add pe_int (pe_call GD hr (by rfl) gD FD.kp bD .nil pass0 (pa_cons (pv 0) (pa_cons (pe_callB (call_min2 rfl) (by rfl) mMin (by decide +kernel) (pa_cons (pv 2) (pa_cons pe_int pa_nil))) pa_nil)))))
        (pss_cons (ps_set (i := 4) scDrawn.nd rfl (.inr rfl) (pe_lc (own := [("_law_k", 6)]) (g := gName 6) (tt := tYes) rfl scDrawn.nd (pi_range1 (by rfl) mRange (pa_cons (pv 2) pa_nil)) (blkOk_by (N := nDrawn) (sc := defScope sDrawn) (by decide +kernel))
          (fun _ _ _ _ _ => pg_name (i := 6) scDrawn.nd rfl (Or.inl rfl)) (fun _ _ _ _ _ => pts_nil) (fun _ _ _ _ _ => pe_ix (r := rIxL K) ix_list (pv 4) (pe_op op_mod (pv 6) (pv 5)) (fun _ _ => rfl))))
        (pss_one (ps_if (pt_cmpR op_eq (pe_call GD hr (by rfl) gD FD.kp bD .nil pass0 (pa_cons (pv 0) (pa_cons pe_int pa_nil))) pe_int (nomark _))
          (pss_one (ps_asg (pe_call GS hr (by rfl) gP FP.kp bP .nil pass0 (pa_cons (pv 0) (pa_cons pe_str pa_nil))) (pg_sub (pv 4) (pe_call GD hr (by rfl) gD FD.kp bD .nil pass0 (pa_cons (pv 0) (pa_cons (pv 2) pa_nil))) set_list))) pss_nil))))
        pss_nil)
      (pss_one (ps_ret (pe_join pe_str (pv 4))))))), ?_⟩
    -- size
    refine ⟨.ref p, rfl, .int m, rfl, p, b, c, t, m, rfl, hS, by omega, m0, by omega, fun H1 r k1 S1 r0 r1 => ⟨1, r, rfl, rfl, ?_⟩⟩
    obtain ⟨n0, rfl⟩ := Int.eq_ofNat_of_zero_le r0
    -- letters
    refine ⟨.ref p, rfl, by show 6 ≤ sizeLine; decide, fun L hL => ?_⟩
    have sL := same_new (o := .lst [V.str "a", V.str "ab", V.str "abc", V.str "az", V.str "aab", V.str "abcdefghijklmnopqrstuvwxyz"]) hL
    have nL := S1.ne_p hL
    refine ⟨p, b, c, L, t + 1, _, rfl, S1.same sL, by omega, upd_same, nL.1, nL.2.1, by decide, by decide, fun H2 v k2 S2 hv => ?_⟩
    obtain ⟨z, rfl, z0, z1, zl⟩ := menu v hv
    have k2' : Kept p b H H2 := k1.trans ((Kept.same sL).trans k2)
    -- found
    refine ⟨_, rfl, _, rfl, by omega, by omega, fun D hD => lc_range (lo := 0) (n := ((1 : Int) + (n0 : Int)).toNat)
      (fun i H' => ∃ cs : List Nat, Kept p b H2 H' ∧ Stm H' p b c (t + 1 + 1 + i) ∧ H' D = some (.lst (cs.map chV)) ∧ cs.length = i ∧ ∀ c ∈ cs, Low c)
      ⟨[], Kept.same (same_new hD), S2.same (same_new hD), upd_same, rfl, fun _ h => nomatch h⟩ (fun i H' hi h => ?_) (fun H3 h => ?_)⟩
    · obtain ⟨cs, k3, S3, eD, el, ea⟩ := h
      have nD := S2.ne_p hD
      refine ⟨rfl, .ref p, rfl, .str z, rfl, p, b, c, _, z, rfl, S3, by omega, z0, by omega, fun H4 x k4 S4 hx => ?_⟩
      have eD4 := k4 _ _ nD.1 nD.2.1 eD
      refine ⟨cs.map chV, eD4, ?_, cs ++ [x], (k3.trans k4).upd hD, S4.upd nD, ?_, ?_, ?_⟩
      · rw [List.length_map]
        exact small1000 (by omega)
      · rw [upd_same, List.map_append]
        rfl
      · rw [List.length_append, el]
        rfl
      · intro y hy
        rcases List.mem_append.mp hy with e | e
        · exact ea y e
        · rw [List.mem_singleton.mp e]
          exact zl x hx
    · obtain ⟨cs, k3, S3, eD, el, ea⟩ := h
      have nD := S2.ne_p hD
      have hn : cs.length = 1 + n0 := by omega
      have fin : ∀ (H' : Hp) (T : Addr) (ds : List Nat) (t' : Nat), Kept p b H H' → Stm H' p b c t' → t' ≤ t + 40 → H' T = some (.lst (ds.map chV)) → ds.length = 1 + n0 → (∀ c ∈ ds, Low c) →
          ∃ (a : Str) (pp : Addr) (ys : List Str), V.str "" = .str a ∧ [V.ref T] = [.ref pp] ∧ (SqL K H' pp (ys.map V.str) ∨ SqT K H' pp (ys.map V.str)) ∧ (ys.map (·.length)).sum + ys.length * a.length ≤ 16777216 ∧ Q (.str (Txt.join a ys)) H' := by
        intro H' T ds t' kk SS tt eT dl da
        have ej : Txt.join (Str.ofString "") (signs ⟨ds.toArray⟩) = ⟨ds.toArray⟩ := by
          unfold Txt.join
          rw [PySem.StrLaws.glued_eq_join]
          exact join_nil_signs _
        have es : (signs ⟨ds.toArray⟩).map V.str = ds.map chV := by
          simp [signs, List.map_map, Function.comp_def, chV]
        have e1 : ∀ l : List Nat, ((l.map fun c => (⟨#[c]⟩ : Str)).map (·.length)).sum = l.length := by
          intro l
          induction l with
          | nil => rfl
          | cons x r ih =>
            rw [List.map_cons, List.map_cons, List.sum_cons, ih, List.length_cons]
            show 1 + r.length = r.length + 1
            omega
        refine ⟨"", T, signs ⟨ds.toArray⟩, rfl, rfl, .inl (.inl (.inl (by rw [es]; exact eT))), ?_, ?_⟩
        · have e2 := e1 ds
          have e3 : signs (⟨ds.toArray⟩ : Str) = ds.map fun c => (⟨#[c]⟩ : Str) := by simp [signs]
          rw [e3, e2]
          show ds.length + _ * 0 ≤ _
          omega
        · rw [ej]
          refine q H' _ kk (SS.mono tt) ?_ ?_ ?_
          · show 0 < ds.toArray.size
            rw [List.size_toArray]
            omega
          · show ((ds.toArray.size : Nat) : Int) ≤ m
            rw [List.size_toArray]
            omega
          · intro y hy
            exact da y (by simpa using hy)
      -- if draw(stream, 3) == 0
      refine ⟨.ref p, rfl, p, b, c, _, 3, rfl, S3, by omega, by decide, by decide, fun H4 r k4 S4 _ _ => ⟨rfl, _, rfl, ite2 (fun _ => ?_) (fun _ => ?_)⟩⟩
      · have eD4 := k4 _ _ nD.1 nD.2.1 eD
        -- many
        refine ⟨.ref p, rfl, .int (1 + n0), rfl, 1 + n0, 5, rfl, p, b, c, _, _, rfl, S4, by omega, by split <;> omega, by split <;> omega, fun H5 r5 k5 S5 r50 r51 => ⟨1, r5, rfl, rfl, ?_⟩⟩
        have eD5 := k5 _ _ nD.1 nD.2.1 eD4
        have hmany : 1 + r5 ≤ (1 + n0 : Int) ∧ (0 : Int) < 1 + r5 := by
          split at r51 <;> omega
        refine ⟨_, rfl, _, rfl, by omega, by omega, fun D2 hD2 => lc_range (lo := 0) (n := ((1 : Int) + (n0 : Int)).toNat)
          (fun i H' => ∃ ds : List Nat, Same H5 H' ∧ H' D2 = some (.lst (ds.map chV)) ∧ ds.length = i ∧ ∀ c ∈ ds, Low c)
          ⟨[], same_new hD2, upd_same, rfl, fun _ h => nomatch h⟩ (fun i H' hi h => ?_) (fun H6 h => ?_)⟩
        · obtain ⟨ds, s6, e6, l6, a6⟩ := h
          have j0 := Int.emod_nonneg ((0 : Int) + (i : Int)) (show (1 + r5 : Int) ≠ 0 by omega)
          have j1 := Int.emod_lt_of_pos ((0 : Int) + (i : Int)) hmany.2
          obtain ⟨j, hj⟩ := Int.eq_ofNat_of_zero_le j0
          have hjl : j < cs.length := by omega
          refine ⟨rfl, .ref D, rfl, .int (0 + i), rfl, .int (1 + r5), rfl, _, _, rfl, rfl, hmany.2, D, cs.map chV, _, chV cs[j], rfl, rfl, .inl (.inl (s6 _ _ eD5)), at_of hj (by rw [List.getElem?_map, List.getElem?_eq_getElem hjl]; rfl), ds.map chV, e6, ?_, ds ++ [cs[j]], fun y o e => ?_, ?_, ?_, ?_⟩
          · rw [List.length_map]
            exact small1000 (by omega)
          · rw [upd_ne (ne_of_none e hD2)]
            exact s6 _ _ e
          · rw [upd_same, List.map_append]
            rfl
          · rw [List.length_append, l6]
            rfl
          · intro y hy
            rcases List.mem_append.mp hy with e | e
            · exact a6 y e
            · rw [List.mem_singleton.mp e]
              exact ea _ (List.getElem_mem hjl)
        · obtain ⟨ds, s6, e6, l6, a6⟩ := h
          have nD2 := S5.ne_p hD2
          have S6 := S5.same s6
          have kk : Kept p b H H6 := k2'.trans (k3.trans (k4.trans (k5.trans (Kept.same s6))))
          -- if draw(stream, 2) == 0
          refine ⟨.ref p, rfl, p, b, c, _, 2, rfl, S6, by omega, by decide, by decide, fun H7 r7 k7 S7 _ _ => ⟨rfl, _, rfl, ite2 (fun _ => ?_) (fun _ => ?_)⟩⟩
          · refine ⟨.ref p, rfl, p, b, c, _, "abz", rfl, S7, by omega, by decide +kernel, by decide +kernel, fun H8 x8 k8 S8 h8 => ?_⟩
            refine ⟨.ref D2, rfl, .ref p, rfl, .int (1 + n0), rfl, p, b, c, _, 1 + n0, rfl, S8, by omega, by omega, by omega, fun H9 r9 k9 S9 r90 r91 => ?_⟩
            obtain ⟨j9, rfl⟩ := Int.eq_ofNat_of_zero_le r90
            have e9 := k9 _ _ nD2.1 nD2.2.1 (k8 _ _ nD2.1 nD2.2.1 (k7 _ _ nD2.1 nD2.2.1 e6))
            refine ⟨D2, _, _, j9, rfl, rfl, e9, ixNat (by rw [List.length_map]; omega), ?_⟩
            refine ⟨⟨_, rfl⟩, .ref D2, rfl, fin _ D2 (ds.set j9 x8) (t + 1 + 1 + (1 + n0) + 1 + 1 + 1 + 1 + 1) ?_ ?_ (by omega) ?_ ?_ ?_⟩
            · refine Kept.upd (kk.trans (k7.trans (k8.trans k9))) ?_
              exact (k2'.trans (k3.trans (k4.trans k5))).free hD2 nD2.1 nD2.2.1
            · exact (S9.upd nD2).mono (by omega)
            · rw [upd_same, ← List.map_set]
            · rw [List.length_set]
              omega
            · intro y hy
              rcases List.mem_or_eq_of_mem_set hy with e | e
              · exact a6 y e
              · rw [e]
                exact abz x8 h8
          · exact ⟨⟨_, rfl⟩, .ref D2, rfl, fin _ D2 ds _ (kk.trans k7) S7 (by omega) (k7 _ _ nD2.1 nD2.2.1 e6) (by omega) a6⟩
      · exact ⟨⟨_, rfl⟩, .ref D, rfl, fin _ D cs _ (k2'.trans (k3.trans k4)) S4 (by omega) (k4 _ _ nD.1 nD.2.1 eD) hn ea⟩
end
end Kp
namespace Kb
open PySem PySem.Spec PyProof.Rows L2
/-- the tail of a text -/
def tlS (z : Str) (j : Nat) : Str := ⟨(z.cps.toList.drop j).toArray⟩
theorem tlS_list (z : Str) (j : Nat) : (tlS z j).cps.toList = z.cps.toList.drop j := rfl
theorem tlS_len (z : Str) (j : Nat) : (tlS z j).length = z.length - j := by
  show (tlS z j).cps.size = z.cps.size - j
  rw [← Array.length_toList, tlS_list, List.length_drop, Array.length_toList]
theorem cut_tl (z : Str) (j : Nat) (h : j ≤ z.length) : cutS z (some (j : Int)) none = tlS z j := by
  unfold cutS tlS
  rw [show HT.sIx z.length 0 (some (j : Int)) = min j z.length from HT.sIx_nat z.length 0 j, HT.sIx_none, Nat.min_eq_left h]
  congr 2
  apply List.take_of_length_le
  rw [List.length_drop, Array.length_toList]
  exact Nat.le_refl _
theorem rising_pw : ∀ (l : List Str) (p : Str), risingS p l = true → (p :: l).Pairwise (fun a b => ¬ b.cps.toList < a.cps.toList)
  | [], p, _ => by simp
  | x :: r, p, h => by
    unfold risingS at h
    rw [Bool.and_eq_true, Bool.not_eq_true', ltCps_eq, decide_eq_false_iff_not] at h
    have ih := rising_pw r x h.2
    rw [List.pairwise_cons]
    refine ⟨fun b hb => ?_, ih⟩
    rcases List.mem_cons.mp hb with e | e
    · rw [e]
      exact h.1
    · have h1 := (List.pairwise_cons.mp ih).1 b e
      exact List.not_lt.mpr (List.le_trans (List.not_lt.mp h.1) (List.not_lt.mp h1))
theorem sorted_pw : ∀ (l : List Str), sortedS l = true → l.Pairwise (fun a b => ¬ b.cps.toList < a.cps.toList)
  | [], _ => by simp
  | x :: r, h => rising_pw r x h
end Kb
namespace Km
/-- what rank_places makes of the first i places -/
def rk (r : List Nat) : Nat → List Nat
  | 0 => List.replicate r.length 0
  | i + 1 => (rk r i).set (r.getD i 0) i
theorem rk_len (r : List Nat) : ∀ i, (rk r i).length = r.length
  | 0 => List.length_replicate
  | i + 1 => by
    show ((rk r i).set (r.getD i 0) i).length = r.length
    rw [List.length_set, rk_len r i]
theorem rk_at {r : List Nat} (nd : r.Nodup) (lt : ∀ i ∈ r, i < r.length) : ∀ n, n ≤ r.length → ∀ (k : Nat) (h : k < r.length), k < n → (rk r n)[r[k]]? = some k
  | 0, _, k, _, hk => absurd hk (Nat.not_lt_zero _)
  | n + 1, hn, k, h, hk => by
    show ((rk r n).set (r.getD n 0) n)[r[k]]? = some k
    have hg : r.getD n 0 = r[n] := by
      rw [List.getD_eq_getElem?_getD, List.getElem?_eq_getElem (by omega)]
      rfl
    rw [hg]
    by_cases e : k = n
    · subst e
      rw [List.getElem?_set_self]
      rw [rk_len]
      exact lt _ (List.getElem_mem h)
    · rw [List.getElem?_set_ne]
      · exact rk_at nd lt n (by omega) k h (by omega)
      · intro z
        exact e ((List.getElem_inj nd).mp z).symm
/-- an order of places -/
def Ord (r : List Nat) : Prop := r.Perm (List.range r.length)
theorem Ord.nd {r : List Nat} (h : Ord r) : r.Nodup := h.nodup_iff.mpr List.nodup_range
theorem Ord.lt {r : List Nat} (h : Ord r) {i : Nat} (hi : i ∈ r) : i < r.length := List.mem_range.mp (h.mem_iff.mp hi)
theorem Ord.mem {r : List Nat} (h : Ord r) {i : Nat} (hi : i < r.length) : i ∈ r := h.mem_iff.mpr (List.mem_range.mpr hi)
theorem TailOrd.ord {L r : List Nat} (h : TailOrd L r) : Ord r := by
  unfold Ord
  rw [h.len]
  exact h.1
theorem Ord.rk_at {r : List Nat} (h : Ord r) (k : Nat) (hk : k < r.length) : (rk r r.length)[r[k]]? = some k :=
  Km.rk_at h.nd (fun _ hi => h.lt hi) r.length (Nat.le_refl _) k hk hk
theorem Ord.rk_idx {r : List Nat} (h : Ord r) {i : Nat} (hi : i < r.length) : (rk r r.length)[i]? = some (r.idxOf i) := by
  have hm := h.mem hi
  have hx : r.idxOf i < r.length := List.idxOf_lt_length_iff.mpr hm
  have e := h.rk_at (r.idxOf i) hx
  rw [List.getElem_idxOf hx] at e
  exact e
theorem TailOrd.rk_cnt {L r : List Nat} (h : TailOrd L r) : rk r r.length = (List.range L.length).map (cnt L) := by
  apply List.ext_getElem?
  intro i
  by_cases hi : i < r.length
  · obtain ⟨k, hk, rfl⟩ := List.getElem_of_mem (h.ord.mem hi)
    rw [h.ord.rk_at k hk, List.getElem?_map, List.getElem?_range (h.lt (List.getElem_mem hk))]
    show some k = some (cnt L r[k])
    rw [h.cnt_at k hk]
  · rw [List.getElem?_eq_none (by rw [rk_len]; omega), List.getElem?_eq_none (by rw [List.length_map, List.length_range, ← h.len]; omega)]
end Km
namespace Kp
open PySem PySem.Spec PyProof.Rows L2 Kb Km
abbrev nTails : List Str := ["_law_word", "_law_place"]
theorem scTails : FnScope nTails ["_law_word"] (defScope sTails) := ⟨rfl, rfl, rfl, by decide +kernel, rfl, by decide +kernel, by decide +kernel⟩
abbrev nByTails : List Str := ["_law_word", "_law_tail", "_law_place"]
theorem scByTails : FnScope nByTails ["_law_word"] (defScope sByTails) := ⟨rfl, rfl, rfl, by decide +kernel, rfl, by decide +kernel, by decide +kernel⟩
/-- the place in a row (tail, place) -/
def plc (H : Hp) (x : V) : Nat := match x with
  | .ref t => match H t with
    | some (.tup [_, .int i]) => i.toNat
    | _ => 0
  | _ => 0
def encR (H : Hp) (x : V) : PyData := match x with
  | .ref t => match H t with
    | some (.tup [.str y, .int i]) => .tuple [.str y, .int i]
    | _ => .tuple [.str "", .int 0]
  | _ => .tuple [.str "", .int 0]
theorem plc_of {H : Hp} {t : Addr} {y : V} {i : Nat} (h : H t = some (.tup [y, .int i])) : plc H (.ref t) = i := by
  unfold plc
  simp only [h]
  rfl
theorem encR_of {H : Hp} {t : Addr} {y : Str} {i : Int} (h : H t = some (.tup [.str y, .int i])) : encR H (.ref t) = .tuple [.str y, .int i] := by
  unfold encR
  simp only [h]
theorem encR_form (H : Hp) (x : V) : ∃ (y : Str) (i : Int), encR H x = .tuple [.str y, .int i] := by
  unfold encR
  split
  · split
    · exact ⟨_, _, rfl⟩
    · exact ⟨_, _, rfl⟩
  · exact ⟨_, _, rfl⟩
section
variable {P : Program} {w : World} {K : PySem.W.Frag} {mg : Str → Option Value} {base : Heap}
def spTails : Sp := fun vs H Q _ => ∃ z : Str, vs = [.str z] ∧ z.length < 64 ∧
  ∀ H' l ws, Same H H' → H l = none → H' l = some (.lst ws) → (ws.map (plc H')).Perm (List.range z.length) → (∀ x ∈ ws, ∃ (t : Addr) (y : V) (i : Nat), x = .ref t ∧ H' t = some (.tup [y, .int i])) → Q (.ref l) H'
theorem ok_tails {f : Addr} {fd : FuncData} {k : Nat} (F : Fun K "_law_tails" "_law_tails" sTails f fd) (mLen : mg "len" = none) (mRange : mg "range" = none) (mSorted : mg "sorted" = none) :
    FnOk P w K mg base CX0 (k + 1) f fd ["_law_word"] spTails := by
  refine F.ok scTails (fun vs H Q E h => ?_) (fun cdv A outer s H vs Q E hr h => ?_)
  · obtain ⟨z, rfl, _⟩ := h
    rfl
  · obtain ⟨z, rfl, hz, q⟩ := h
    have zs : z.length ≤ sizeLine := Nat.le_of_lt (small1000 (by omega))
    refine ⟨_, pss_one (ps_ret (pe_callB (cr_sortedD hr.units) (by rfl) mSorted (by decide +kernel) (pa_cons
        (pe_lc (own := [("_law_place", 1)]) (g := gName 1) (tt := tYes) rfl scTails.nd (pi_range1 (by rfl) mRange (pa_cons (pe_callB call_len_str (by rfl) mLen PySem.boot_len (pa_cons (pv 0) pa_nil)) pa_nil))
          (blkOk_by (N := nTails) (sc := defScope sTails) (by decide +kernel)) (fun _ _ _ _ _ => pg_name (i := 1) scTails.nd rfl (Or.inl rfl)) (fun _ _ _ _ _ => pts_nil)
          (fun _ _ _ _ _ => pe_tup (pa_cons (pe_slice sl_str (pv 0) (po_some (pv 1)) po_none) (pa_cons (pv 1) pa_nil)))) pa_nil))), ?_⟩
    refine ⟨.str z, rfl, z, rfl, zs, _, rfl, by omega, by omega, fun D hD => lc_range (lo := 0) (n := z.length)
      (fun i H' => ∃ ts : List Addr, ts.length = i ∧ Same H H' ∧ H' D = some (.lst (ts.map V.ref)) ∧ ∀ (j : Nat) (t : Addr), ts[j]? = some t → H' t = some (.tup [.str (tlS z j), .int j]))
      ⟨[], rfl, same_new hD, upd_same, fun j t h => by simp at h⟩ (fun i H' hi h => ?_) (fun H1 h => ?_)⟩
    · obtain ⟨ts, l1, s1, e1, a1⟩ := h
      refine ⟨rfl, .str z, rfl, .int (0 + i), rfl, _, rfl, z, rfl, zs, .int (0 + i), rfl, by show 2 ≤ sizeLine; decide, fun T hT => ?_⟩
      rw [Int.zero_add, cut_tl z i (by omega)]
      have sT := same_new (o := .tup [V.str (tlS z i), V.int i]) hT
      have eD := sT _ _ e1
      refine ⟨_, eD, ?_, ts ++ [T], by rw [List.length_append, l1]; rfl, fun b o e => ?_, ?_, fun j t hj => ?_⟩
      · rw [List.length_map]
        exact small1000 (by omega)
      · rw [upd_ne (ne_of_none e hD)]
        exact sT _ _ (s1 _ _ e)
      · rw [upd_same, List.map_append]
        rfl
      · have ht : (upd H' T (.tup [V.str (tlS z i), V.int i])) t = some (.tup [.str (tlS z j), .int j]) := by
          by_cases hjl : j < ts.length
          · rw [List.getElem?_append_left hjl] at hj
            exact sT _ _ (a1 j t hj)
          · have hj2 := (List.getElem?_eq_some_iff.mp hj).1
            rw [List.length_append] at hj2
            have hj3 : j < ts.length + 1 := hj2
            have ej : j = ts.length := by omega
            subst ej
            rw [List.getElem?_append_right (Nat.le_refl _), Nat.sub_self] at hj
            have : T = t := Option.some.inj hj
            rw [← this, upd_same, l1]
        have ne : t ≠ D := fun e => by
          rw [e, eD] at ht
          cases ht
        rw [upd_ne ne]
        exact ht
    · obtain ⟨ts, l1, s1, e1, a1⟩ := h
      have row : ∀ x ∈ ts.map V.ref, ∃ (t : Addr) (j : Nat), x = .ref t ∧ ts[j]? = some t ∧ H1 t = some (.tup [.str (tlS z j), .int j]) := by
        intro x hx
        obtain ⟨t, ht, rfl⟩ := List.mem_map.mp hx
        obtain ⟨j, hj, rfl⟩ := List.getElem_of_mem ht
        exact ⟨_, j, rfl, List.getElem?_eq_getElem hj, a1 j _ (List.getElem?_eq_getElem hj)⟩
      refine ⟨D, ts.map V.ref, encR H1, rfl, .inl (.inl e1), fun x hx => ?_, PySem.W.AllAlike.of (fun b b' => ?_), PySem.W.Sortable.tuples (fun b => ?_), fun x hx => ?_, fun p hp => ?_⟩
      · obtain ⟨t, j, rfl, _, ht⟩ := row x hx
        rw [encR_of ht]
        exact .tup (.inl (.inl ht)) (.cons (.str _) (.cons (.int _) .nil))
      · obtain ⟨y, i, e⟩ := encR_form H1 b
        obtain ⟨y', i', e'⟩ := encR_form H1 b'
        rw [e, e']
        simp [PySem.W.alike, PySem.W.alikeAll]
      · obtain ⟨y, i, e⟩ := encR_form H1 b
        exact ⟨_, _, e⟩
      · obtain ⟨y, i, e⟩ := encR_form H1 x
        rw [e]
        simp [PyData.depth, PyData.depthAll]
      · have sp := same_new (o := .lst ((ts.map V.ref).mergeSort (PySem.W.dataLe false (encR H1)))) hp
        have perm := List.mergeSort_perm (ts.map V.ref) (PySem.W.dataLe false (encR H1))
        refine q _ p _ (s1.trans sp) (s1.free hp) upd_same ?_ (fun x hx => ?_)
        · refine (perm.map _).trans ?_
          rw [List.map_map]
          have e : ts.map ((plc (upd H1 p (.lst ((ts.map V.ref).mergeSort (PySem.W.dataLe false (encR H1)))))) ∘ V.ref) = List.range z.length := by
            apply List.ext_getElem?
            intro j
            rw [List.getElem?_map]
            by_cases hj : j < ts.length
            · rw [List.getElem?_eq_getElem hj, List.getElem?_range (by omega)]
              show some (plc _ (V.ref ts[j])) = some j
              rw [plc_of (sp _ _ (a1 j _ (List.getElem?_eq_getElem hj)))]
            · rw [List.getElem?_eq_none (by omega), List.getElem?_eq_none (by rw [List.length_range]; omega)]
              rfl
          rw [e]
        · obtain ⟨t, j, rfl, _, ht⟩ := row x (perm.mem_iff.mp hx)
          exact ⟨t, _, j, rfl, sp _ _ ht⟩
def spByTails : Sp := fun vs H Q _ => ∃ z : Str, vs = [.str z] ∧ z.length < 64 ∧
  ∀ H' q r, Same H H' → H q = none → FT H' q (plV r) → Ord r → r.length = z.length → Q (.ref q) H'
theorem ok_byTails {f fT : Addr} {fd fdT : FuncData} {k : Nat} (F : Fun K "_law_by_tails" "_law_by_tails" sByTails f fd) (FT : Fun K "_law_tails" "_law_tails" sTails fT fdT) (bT : Binds K fdT ["_law_word"] []) (gT : mg "_law_tails" = some (.ref fT))
    (mLen : mg "len" = none) (mRange : mg "range" = none) (mSorted : mg "sorted" = none) (mTuple : mg "tuple" = none) :
    FnOk P w K mg base CX0 (k + 2) f fd ["_law_word"] spByTails := by
  have GT : FnOk P w K mg base CX0 (k + 1) fT fdT ["_law_word"] spTails := ok_tails FT mLen mRange mSorted
  refine F.ok scByTails (fun vs H Q E h => ?_) (fun cdv A outer s H vs Q E hr h => ?_)
  · obtain ⟨z, rfl, _⟩ := h
    rfl
  · obtain ⟨z, rfl, hz, q⟩ := h
    refine ⟨_, pss_one (ps_ret (pe_callTy call_tupF (by rfl) mTuple (by decide +kernel) (pa_cons
        (pe_lc (own := [("_law_tail", 1), ("_law_place", 2)]) (g := gTup K 2 (gCons (gName 1) (gCons (gName 2) gNil))) (tt := tYes) rfl scByTails.nd (pi_list (pe_call GT hr (by rfl) gT FT.kp bT .nil pass0 (pa_cons (pv 0) pa_nil)))
          (blkOk_by (N := nByTails) (sc := defScope sByTails) (by decide +kernel)) (fun _ _ _ _ _ => pg_tup rfl (pgs_cons (pg_name (i := 1) scByTails.nd rfl (.inl rfl)) (pgs_cons (pg_name (i := 2) scByTails.nd rfl (.inl rfl)) pgs_nil)))
          (fun _ _ _ _ _ => pts_nil) (fun _ _ _ _ _ => pv 2)) pa_nil))), ?_⟩
    refine ⟨.str z, rfl, z, rfl, hz, fun H1 l ws s1 nl el pm rows => ⟨l, rfl, ⟨_, .inl (.inl el)⟩, fun D hD => lc_list (K := K) (a := l) (xs := ws)
      (fun i H' => Same H1 H' ∧ H' D = some (.lst (plV ((ws.take i).map (plc H1))))) ⟨same_new hD, upd_same⟩ (fun i H' _ h => ?_) (fun i x H' hx h => ?_) (fun H2 h => ?_)⟩⟩
    · exact h.1.seq (.inl (.inl el))
    · obtain ⟨h1, h2⟩ := h
      obtain ⟨t, y, j, rfl, ht⟩ := rows x (List.mem_of_getElem? hx)
      have wl : ws.length = z.length := by
        have := pm.length_eq
        rw [List.length_map, List.length_range] at this
        exact this
      refine ⟨t, _, rfl, .inl (.inl (h1 _ _ ht)), rfl, _, _, rfl, _, _, rfl, rfl, rfl, .int j, rfl, _, h2, ?_, fun b o e => ?_, ?_⟩
      · unfold plV
        rw [List.length_map, List.length_map, List.length_take]
        exact small1000 (by omega)
      · rw [upd_ne (ne_of_none e hD)]
        exact h1 _ _ e
      · rw [upd_same, List.take_add_one, hx]
        unfold plV
        rw [List.map_append, List.map_append]
        show _ = some (HO.lst (_ ++ [V.int ((plc H1 (V.ref t) : Nat) : Int)]))
        rw [plc_of ht]
    · obtain ⟨s2, e2⟩ := h
      rw [List.take_length] at e2
      have rl : (ws.map (plc H1)).length = z.length := by rw [pm.length_eq, List.length_range]
      refine ⟨D, _, rfl, .inl (.inl e2), fun o ob ho c d => ?_⟩
      refine q _ o _ (s1.trans (s2.trans (same_new ho))) (s1.free (s2.free ho)) (Kb.FT.new c d) ?_ rl
      unfold Km.Ord
      rw [rl]
      exact pm
end
end Kp
namespace Kb
open PySem PySem.Spec PyProof.Rows L2
theorem cutV_take (xs : List V) (j : Nat) (h : j ≤ xs.length) : cutV xs none (some (j : Int)) = xs.take j := by
  unfold cutV
  rw [HT.sIx_none, show HT.sIx xs.length xs.length (some (j : Int)) = min j xs.length from HT.sIx_nat xs.length xs.length j, Nat.min_eq_left h]
  rfl
theorem cutV_drop (xs : List V) (j : Nat) (h : j ≤ xs.length) : cutV xs (some (j : Int)) none = xs.drop j := by
  unfold cutV
  rw [HT.sIx_none, show HT.sIx xs.length 0 (some (j : Int)) = min j xs.length from HT.sIx_nat xs.length 0 j, Nat.min_eq_left h]
  apply List.take_of_length_le
  rw [List.length_drop]
  exact Nat.le_refl _
theorem plV_len (r : List Nat) : (plV r).length = r.length := List.length_map ..
theorem plV_take (r : List Nat) (j : Nat) : (plV r).take j = plV (r.take j) := by
  unfold plV
  rw [List.map_take]
theorem plV_drop (r : List Nat) (j : Nat) : (plV r).drop j = plV (r.drop j) := by
  unfold plV
  rw [List.map_drop]
theorem plV_app (r s : List Nat) : plV r ++ plV s = plV (r ++ s) := by
  unfold plV
  rw [List.map_append]
theorem plV_get {r : List Nat} {i : Nat} {x : V} (h : (plV r)[i]? = some x) : ∃ p : Nat, r[i]? = some p ∧ x = .int p := by
  unfold plV at h
  rw [List.getElem?_map] at h
  obtain ⟨p, hp, rfl⟩ := Option.map_eq_some_iff.mp h
  exact ⟨p, hp, rfl⟩
end Kb
namespace Km
/-- an order with one more place in front, at the index j -/
def grow (r : List Nat) (j : Nat) : List Nat := (r.take j).map (· + 1) ++ [0] ++ (r.drop j).map (· + 1)
theorem grow_len (r : List Nat) (j : Nat) : (grow r j).length = r.length + 1 := by
  unfold grow
  rw [List.length_append, List.length_append, List.length_map, List.length_map, List.length_take, List.length_drop]
  show min j r.length + 1 + (r.length - j) = r.length + 1
  omega
theorem grow_ord {r : List Nat} (h : Ord r) (j : Nat) : Ord (grow r j) := by
  unfold Ord
  rw [grow_len, List.range_succ_eq_map]
  unfold grow
  rw [List.append_assoc]
  show ((r.take j).map (· + 1) ++ 0 :: (r.drop j).map (· + 1)).Perm (0 :: (List.range r.length).map Nat.succ)
  refine List.perm_middle.trans (List.Perm.cons 0 ?_)
  rw [← List.map_append, List.take_append_drop]
  exact h.map _
end Km
namespace Kp
open PySem PySem.Spec PyProof.Rows L2 Kb Km
abbrev nOrdered : List Str := ["_law_stream_here", "_law_most", "_law_way", "_law_many", "_law_found", "_law_size", "_law_spot", "_law_place"]
theorem scOrdered : FnScope nOrdered ["_law_stream_here", "_law_most"] (defScope sOrdered) := ⟨rfl, rfl, rfl, by decide +kernel, rfl, by decide +kernel, by decide +kernel⟩
section
variable {P : Program} {w : World} {K : PySem.W.Frag} {mg : Str → Option Value} {base : Heap}
def spOrdered : Sp := fun vs H Q _ => ∃ (p b c : Addr) (t : Nat) (m : Int), vs = [.ref p, .int m] ∧ Stm H p b c t ∧ t ≤ 500000 ∧ 0 < m ∧ m ≤ 24 ∧
  ∀ H' q r, Kept p b H H' → Stm H' p b c (t + 200) → H q = none → FT H' q (plV r) → Ord r → 0 < r.length → (r.length : Int) ≤ m → Q (.ref q) H'
theorem ok_ordered {f fD fP fW fTL fBT : Addr} {fd fdD fdP fdW fdTL fdBT : FuncData} {k : Nat} (F : Fun K "_law_ordered" "_law_ordered" sOrdered f fd) (FD : Fun K "_law_draw" "_law_draw" sDraw fD fdD) (FP : Fun K "_law_pick" "_law_pick" sPick fP fdP)
    (FW : Fun K "_law_drawn" "_law_drawn" sDrawn fW fdW) (FTL : Fun K "_law_tails" "_law_tails" sTails fTL fdTL) (FBT : Fun K "_law_by_tails" "_law_by_tails" sByTails fBT fdBT)
    (bD : Binds K fdD ["_law_stream_here", "_law_many"] []) (bP : Binds K fdP ["_law_stream_here", "_law_items"] []) (bW : Binds K fdW ["_law_stream_here", "_law_most"] []) (bTL : Binds K fdTL ["_law_word"] []) (bBT : Binds K fdBT ["_law_word"] [])
    (gD : mg "_law_draw" = some (.ref fD)) (gP : mg "_law_pick" = some (.ref fP)) (gW : mg "_law_drawn" = some (.ref fW)) (gTL : mg "_law_tails" = some (.ref fTL)) (gBT : mg "_law_by_tails" = some (.ref fBT))
    (mLen : mg "len" = none) (mRange : mg "range" = none) (mMin : mg "min" = none) (mSorted : mg "sorted" = none) (mTuple : mg "tuple" = none) :
    FnOk P w K mg base CX0 (k + 4) f fd ["_law_stream_here", "_law_most"] spOrdered := by
  have GD : FnOk P w K mg base CX0 (k + 3) fD fdD ["_law_stream_here", "_law_many"] spDraw := ok_draw FD mLen
  have GW : FnOk P w K mg base CX0 (k + 3) fW fdW ["_law_stream_here", "_law_most"] spDrawn := ok_drawn FW FD FP bD bP gD gP mLen mRange mMin
  have GB : FnOk P w K mg base CX0 (k + 3) fBT fdBT ["_law_word"] spByTails := (ok_byTails (k := k + 1) FBT FTL bTL gTL mLen mRange mSorted mTuple)
  refine F.ok scOrdered (fun vs H Q E h => ?_) (fun cdv A outer s H vs Q E hr h => ?_)
  · obtain ⟨p, b, c, t, m, rfl, _⟩ := h
    rfl
  · obtain ⟨p, b, c, t, m, rfl, hS, ht, m0, m1, q⟩ := h
    refine ⟨_, pss_cons (ps_par (i := 2) (j := 3) (by rfl) scOrdered.nd rfl rfl (by decide) rfl rfl (pa_cons (pe_call GD hr (by rfl) gD FD.kp bD .nil pass0 (pa_cons (pv 0) (pa_cons pe_int pa_nil)))
        (pa_cons (pe_op op_add pe_int (pe_call GD hr (by rfl) gD FD.kp bD .nil pass0 (pa_cons (pv 0) (pa_cons (pv 1) pa_nil)))) pa_nil)) (by rfl))
      (pss_cons (ps_if (pt_cmpR op_eq (pv 2) pe_int (nomark _)) (pss_one (ps_ret (pe_call GB hr (by rfl) gBT FBT.kp bBT .nil pass0 (pa_cons (pe_call GW hr (by rfl) gW FW.kp bW .nil pass0 (pa_cons (pv 0) (pa_cons (pv 1) pa_nil))) pa_nil)))) pss_nil)
      (pss_cons (ps_set (i := 4) scOrdered.nd rfl (.inl rfl) (pe_lst pa_nil))
      (pss_cons (ps_for PassesOwn.never rfl (pi_range1 (by rfl) mRange (pa_cons (pv 3) pa_nil)) (pg_name (i := 5) scOrdered.nd rfl (.inl rfl))
        (pss_cons (ps_set (i := 6) scOrdered.nd rfl (.inl rfl) (pe_ix ix_list (pe_lst (pa_cons (pe_call GD hr (by rfl) gD FD.kp bD .nil pass0 (pa_cons (pv 0) (pa_cons (pe_op op_add (pv 5) pe_int) pa_nil)))
            (pa_cons pe_int (pa_cons (pv 5) (pa_cons (pe_callB (call_min2 rfl) (by rfl) mMin (by decide +kernel) (pa_cons (pv 5) (pa_cons (pe_call GD hr (by rfl) gD FD.kp bD .nil pass0 (pa_cons (pv 0) (pa_cons pe_int pa_nil))) pa_nil))) pa_nil)))))
            (pe_call GD hr (by rfl) gD FD.kp bD .nil pass0 (pa_cons (pv 0) (pa_cons pe_int pa_nil))) (fun _ _ => rfl)))
        (pss_one (ps_set (i := 4) scOrdered.nd rfl (.inl rfl) (pe_op op_cat (pe_op op_cat
          (pe_lc (own := [("_law_place", 7)]) (g := gName 7) (tt := tYes) rfl scOrdered.nd (pi_list (pe_slice sl_list (pv 4) po_none (po_some (pv 6)))) (blkOk_by (N := nOrdered) (sc := defScope sOrdered) (by decide +kernel))
            (fun _ _ _ _ _ => pg_name (i := 7) scOrdered.nd rfl (Or.inl rfl)) (fun _ _ _ _ _ => pts_nil) (fun _ _ _ _ _ => pe_op op_add (pv 7) pe_int))
          (pe_lst (pa_cons pe_int pa_nil)))
          (pe_lc (own := [("_law_place", 7)]) (g := gName 7) (tt := tYes) rfl scOrdered.nd (pi_list (pe_slice sl_list (pv 4) (po_some (pv 6)) po_none)) (blkOk_by (N := nOrdered) (sc := defScope sOrdered) (by decide +kernel))
            (fun _ _ _ _ _ => pg_name (i := 7) scOrdered.nd rfl (Or.inl rfl)) (fun _ _ _ _ _ => pts_nil) (fun _ _ _ _ _ => pe_op op_add (pv 7) pe_int)))))))
      (pss_one (ps_ret (pe_callTy call_tupF (by rfl) mTuple (by decide +kernel) (pa_cons (pv 4) pa_nil))))))), ?_⟩
    -- way, many
    refine ⟨.ref p, rfl, p, b, c, t, 4, rfl, hS, by omega, by decide, by decide, fun H1 r1 k1 S1 _ _ => ?_⟩
    refine ⟨.ref p, rfl, .int m, rfl, p, b, c, t + 1, m, rfl, S1, by omega, m0, by omega, fun H2 r2 k2 S2 r20 r21 => ⟨1, r2, rfl, rfl, _, _, rfl, ?_⟩⟩
    obtain ⟨n0, rfl⟩ := Int.eq_ofNat_of_zero_le r20
    have k12 := k1.trans k2
    refine ⟨.int r1, rfl, rfl, _, rfl, ite2 (fun _ => ?_) (fun _ => ?_)⟩
    · -- the order of a word
      refine ⟨.ref p, rfl, .int m, rfl, p, b, c, t + 1 + 1, m, rfl, S2, by omega, m0, m1, fun H3 z k3 S3 z0 z1 zl => ⟨z, rfl, by omega, fun H4 o r s4 no eo ho hl => ?_⟩⟩
      have nD := S3.ne_p no
      refine q H4 o r (k12.trans (k3.trans (Kept.same s4))) ((S3.same s4).mono (by omega)) ((k12.trans k3).free no nD.1 nD.2.1) eo ho (by omega) (by omega)
    · refine ⟨Nat.zero_le _, fun T0 hT0 => ?_⟩
      have sT0 := same_new (o := .lst []) hT0
      refine ⟨_, rfl, _, rfl, by omega, by omega, for_range (lo := 0) (n := ((1 : Int) + (n0 : Int)).toNat)
        (fun i σ H' => ∃ (T : Addr) (r : List Nat) (y5 y6 y7 : Option V), σ = [some (.ref p), some (.int m), some (.int r1), some (.int (1 + n0)), some (.ref T), y5, y6, y7] ∧ Kept p b H H' ∧ Stm H' p b c (t + 2 + 4 * i) ∧
          H' T = some (.lst (plV r)) ∧ T ≠ p ∧ T ≠ b ∧ Ord r ∧ r.length = i)
        ⟨T0, [], none, none, none, rfl, k12.trans (Kept.same sT0), S2.same sT0, upd_same, (S2.ne_p hT0).1, (S2.ne_p hT0).2.1, List.Perm.refl _, rfl⟩ (fun i σ H3 hi h => ?_) (fun σ H3 h => ?_)⟩
      · obtain ⟨T, r, y5, y6, y7, rfl, k3, S3, eT, n1, n2, ho, hl⟩ := h
        have hi24 : i < 24 := by omega
        -- spot
        refine ⟨.ref p, rfl, .int (0 + i), rfl, _, 1, rfl, rfl, p, b, c, _, _, rfl, S3, by omega, by omega, by omega, fun H4 d4 k4 S4 d40 d41 => ?_⟩
        refine ⟨.int (0 + i), rfl, .int (0 + i), rfl, .ref p, rfl, p, b, c, _, 3, rfl, S4, by omega, by decide, by decide, fun H5 d5 k5 S5 d50 d51 => ⟨_, d5, rfl, by show 4 ≤ sizeLine; decide, fun L hL => ?_⟩⟩
        have sL := same_new (o := .lst [V.int d4, V.int 0, V.int (0 + i), V.int (if d5 < 0 + (i : Int) then d5 else 0 + (i : Int))]) hL
        have nL := S5.ne_p hL
        refine ⟨.ref p, rfl, p, b, c, _, 4, rfl, S5.same sL, by omega, by decide, by decide, fun H6 d6 k6 S6 d60 d61 => ?_⟩
        have eL := k6 _ _ nL.1 nL.2.1 upd_same
        obtain ⟨x6, hx6, sp, hsp, rfl⟩ : ∃ x6, atI [V.int d4, V.int 0, V.int (0 + i), V.int (if d5 < 0 + (i : Int) then d5 else 0 + (i : Int))] d6 = some x6 ∧ ∃ sp : Nat, sp ≤ i ∧ x6 = V.int sp := by
          obtain ⟨j6, rfl⟩ := Int.eq_ofNat_of_zero_le d60
          have hj : j6 = 0 ∨ j6 = 1 ∨ j6 = 2 ∨ j6 = 3 := by omega
          obtain ⟨d4n, rfl⟩ := Int.eq_ofNat_of_zero_le d40
          obtain ⟨d5n, rfl⟩ := Int.eq_ofNat_of_zero_le d50
          rcases hj with rfl | rfl | rfl | rfl
          · exact ⟨_, atI_nat rfl, d4n, by omega, rfl⟩
          · exact ⟨_, atI_nat rfl, 0, by omega, rfl⟩
          · exact ⟨_, atI_nat rfl, i, Nat.le_refl _, by rw [Int.zero_add]⟩
          · refine ⟨_, atI_nat rfl, if d5n < i then d5n else i, by split <;> omega, ?_⟩
            rw [Int.zero_add]
            by_cases hc : d5n < i
            · rw [if_pos hc, if_pos (by omega)]
            · rw [if_neg hc, if_neg (by omega)]
        refine ⟨L, _, d6, _, rfl, rfl, .inl (.inl eL), hx6, ?_⟩
        have k36 : Kept p b H3 H6 := k4.trans (k5.trans ((Kept.same sL).trans k6))
        have eT6 := k36 _ _ n1 n2 eT
        -- the first part
        refine ⟨.ref T, rfl, .int sp, rfl, _, rfl, T, _, rfl, .inl (.inl eT6), fun A1 hA1 => ?_⟩
        have hsl : sp ≤ (plV r).length := by
          rw [plV_len]
          omega
        rw [cutV_take _ _ hsl, plV_take]
        have sA1 := same_new (o := .lst (plV (r.take sp))) hA1
        refine ⟨A1, rfl, ⟨_, .inl (.inl upd_same)⟩, fun B1 hB1 => lc_list (K := K) (a := A1) (xs := plV (r.take sp))
          (fun j H' => Same (upd H6 A1 (.lst (plV (r.take sp)))) H' ∧ H' B1 = some (.lst (plV (((r.take sp).take j).map (· + 1))))) ⟨same_new hB1, upd_same⟩ (fun j H' _ h => h.1.seq (.inl (.inl upd_same))) (fun j x H' hx h => ?_) (fun H7 h => ?_)⟩
        · obtain ⟨h1, h2⟩ := h
          obtain ⟨pp, hp, rfl⟩ := plV_get hx
          refine ⟨rfl, .int pp, rfl, pp, 1, rfl, rfl, _, h2, ?_, fun y o e => ?_, ?_⟩
          · rw [plV_len, List.length_map, List.length_take, List.length_take]
            exact small1000 (by omega)
          · rw [upd_ne (ne_of_none e hB1)]
            exact h1 _ _ e
          · rw [upd_same, List.take_add_one, hp, List.map_append, ← plV_app]
            rfl
        · obtain ⟨s7, e7⟩ := h
          rw [plV_len, List.take_length] at e7
          refine ⟨by show 1 ≤ sizeLine; decide, fun Z hZ => ?_⟩
          have sZ := same_new (o := .lst [V.int 0]) hZ
          refine ⟨B1, Z, _, _, rfl, rfl, sZ _ _ e7, upd_same, ?_, fun C1 hC1 => ?_⟩
          · rw [plV_len, List.length_map, List.length_take]
            show min sp r.length + 1 ≤ sizeLine
            exact Nat.le_of_lt (small1000 (by omega))
          have sC1 := same_new (o := .lst (plV ((r.take sp).map (· + 1)) ++ [V.int 0])) hC1
          have s67 : Same H6 _ := sA1.trans (s7.trans (sZ.trans sC1))
          have eT7 := s67 _ _ eT6
          -- the second part
          refine ⟨.ref T, rfl, .int sp, rfl, _, rfl, T, _, rfl, .inl (.inl eT7), fun A2 hA2 => ?_⟩
          rw [cutV_drop _ _ hsl, plV_drop]
          have sA2 := same_new (o := .lst (plV (r.drop sp))) hA2
          refine ⟨A2, rfl, ⟨_, .inl (.inl upd_same)⟩, fun B2 hB2 => lc_list (K := K) (a := A2) (xs := plV (r.drop sp))
            (fun j H' => Same (upd (upd (upd H7 Z (.lst [V.int 0])) C1 (.lst (plV ((r.take sp).map (· + 1)) ++ [V.int 0]))) A2 (.lst (plV (r.drop sp)))) H' ∧ H' B2 = some (.lst (plV (((r.drop sp).take j).map (· + 1))))) ⟨same_new hB2, upd_same⟩ (fun j H' _ h => h.1.seq (.inl (.inl upd_same))) (fun j x H' hx h => ?_) (fun H8 h => ?_)⟩
          · obtain ⟨h1, h2⟩ := h
            obtain ⟨pp, hp, rfl⟩ := plV_get hx
            refine ⟨rfl, .int pp, rfl, pp, 1, rfl, rfl, _, h2, ?_, fun y o e => ?_, ?_⟩
            · rw [plV_len, List.length_map, List.length_take, List.length_drop]
              exact small1000 (by omega)
            · rw [upd_ne (ne_of_none e hB2)]
              exact h1 _ _ e
            · rw [upd_same, List.take_add_one, hp, List.map_append, ← plV_app]
              rfl
          · obtain ⟨s8, e8⟩ := h
            rw [plV_len, List.take_length] at e8
            refine ⟨C1, B2, _, _, rfl, rfl, s8 _ _ (sA2 _ _ upd_same), e8, ?_, fun T2 hT2 => ?_⟩
            · rw [List.length_append, plV_len, plV_len, List.length_map, List.length_map, List.length_take, List.length_drop]
              show min sp r.length + 1 + (r.length - sp) ≤ sizeLine
              exact Nat.le_of_lt (small1000 (by omega))
            have s68 : Same H6 H8 := s67.trans (sA2.trans s8)
            have sT2 := same_new (o := .lst (plV ((r.take sp).map (· + 1)) ++ [V.int 0] ++ plV ((r.drop sp).map (· + 1)))) hT2
            have k38 : Kept p b H3 _ := k36.trans (Kept.same (s68.trans sT2))
            have S8 := (S6.same (s68.trans sT2))
            have nT2 := (S6.same s68).ne_p hT2
            refine ⟨T2, grow r sp, _, _, _, rfl, k3.trans k38, S8.mono (by omega), ?_, nT2.1, nT2.2.1, grow_ord ho sp, by rw [grow_len, hl]⟩
            rw [upd_same]
            unfold grow
            rw [← plV_app, ← plV_app]
            rfl
      · obtain ⟨T, r, y5, y6, y7, rfl, k3, S3, eT, n1, n2, ho, hl⟩ := h
        refine ⟨.ref T, rfl, T, _, rfl, .inl (.inl eT), fun o ob hO cO dO => ?_⟩
        have sO := same_new (o := .frz ob (.tup (plV r))) hO
        have nO := S3.ne_p hO
        exact q _ o r (k3.trans (Kept.same sO)) ((S3.same sO).mono (by omega)) (k3.free hO nO.1 nO.2.1) (FT.new cO dO) ho (by omega) (by omega)
end
end Kp
namespace Kp
open PySem PySem.Spec PyProof.Rows L2 Kb Km
abbrev nRank : List Str := ["order", "ranks", "rank", "place"]
theorem scRank : FnScope nRank ["order"] (defScope sRank) := ⟨rfl, rfl, rfl, by decide +kernel, rfl, by decide +kernel, by decide +kernel⟩
section
variable {P : Program} {w : World} {K : PySem.W.Frag} {mg : Str → Option Value} {base : Heap}
def spRank (K : PySem.W.Frag) : Sp := fun vs H Q _ => ∃ (q : Addr) (r : List Nat), vs = [.ref q] ∧ SqT K H q (plV r) ∧ r.length < 1000 ∧ (∀ i ∈ r, i < r.length) ∧
  ∀ H' l, Same H H' → H l = none → H' l = some (.tup (plV (rk r r.length))) → Q (.ref l) H'
theorem ok_rank {f : Addr} {fd : FuncData} {k : Nat} (F : Fun K "rank_places" "rank_places" sRank f fd) (mLen : mg "len" = none) (mTuple : mg "tuple" = none) (mEnum : mg "enumerate" = none) :
    FnOk P w K mg base CX0 (k + 1) f fd ["order"] (spRank K) := by
  refine F.ok scRank (fun vs H Q E h => ?_) (fun cdv A outer s H vs Q E hr h => ?_)
  · obtain ⟨q, r, rfl, _⟩ := h
    rfl
  · obtain ⟨o, r, rfl, ho, hr1, hlt, q⟩ := h
    have pl : (plV r).length = r.length := List.length_map ..
    refine ⟨_, pss_cons (ps_set (i := 1) scRank.nd rfl (.inl rfl) (pe_op op_rep (pe_lst (pa_cons pe_int pa_nil)) (pe_callB call_len_seq (by rfl) mLen PySem.boot_len (pa_cons (pv 0) pa_nil))))
      (pss_cons (ps_for PassesOwn.never rfl (pi_enumT (by rfl) mEnum (pa_cons (pv 0) pa_nil)) (pg_tup rfl (pgs_cons (pg_name (i := 2) scRank.nd rfl (.inl rfl)) (pgs_cons (pg_name (i := 3) scRank.nd rfl (.inl rfl)) pgs_nil)))
        (pss_one (ps_asg (pv 2) (pg_sub (pv 1) (pv 3) set_list))))
      (pss_one (ps_ret (pe_callTy call_tuple_of (by rfl) mTuple (by decide +kernel) (pa_cons (pv 1) pa_nil))))), ?_⟩
    refine ⟨by show 1 ≤ sizeLine; decide, fun Z hZ => ?_⟩
    have sZ := same_new (o := .lst [V.int 0]) hZ
    have ho1 : SqT K (upd H Z (.lst [V.int 0])) o (plV r) := sZ.tup ho
    refine ⟨.ref o, rfl, o, _, rfl, .inr ho1, Z, _, _, rfl, rfl, upd_same, by omega, by omega, by show 1 * (plV r).length ≤ sizeLine; rw [pl, Nat.one_mul]; exact Nat.le_of_lt (small1000 (by omega)), fun T hT => ?_⟩
    have eF : (List.replicate (((plV r).length : Int)).toNat [V.int 0]).flatten = plV (rk r 0) := by
      rw [Int.toNat_natCast, pl]
      show _ = plV (List.replicate r.length 0)
      unfold plV
      rw [List.map_replicate]
      simp [List.flatten_replicate_singleton]
    rw [eF]
    have nT : H T = none := sZ.free hT
    have sT := same_new (o := .lst (plV (rk r 0))) hT
    refine ⟨.ref o, rfl, o, _, rfl, sT.tup ho1, for_enT (K := K) (a := o) (xs := plV r)
      (fun i σ H' => ∃ y2 y3, σ = [some (.ref o), some (.ref T), y2, y3] ∧ Same H H' ∧ H' T = some (.lst (plV (rk r i))))
      ⟨none, none, rfl, sZ.trans sT, upd_same⟩ (fun i σ H' _ h => ?_) (fun i x σ H1 T1 hx h hT1 => ?_) (fun σ H1 h => ?_)⟩
    · obtain ⟨_, _, _, h1, _⟩ := h
      exact h1.tup ho
    · obtain ⟨y2, y3, rfl, s1, e1⟩ := h
      unfold plV at hx
      rw [List.getElem?_map] at hx
      obtain ⟨p, hp, rfl⟩ := Option.map_eq_some_iff.mp hx
      have hi := (List.getElem?_eq_some_iff.mp hp).1
      have nTT : T ≠ T1 := ne_of_none e1 hT1
      refine ⟨T1, _, rfl, .inl (.inl upd_same), rfl, _, _, rfl, _, _, rfl, rfl, ?_⟩
      have hpl := hlt p (List.mem_of_getElem? hp)
      refine ⟨.int i, rfl, .ref T, rfl, .int p, rfl, T, _, _, p, rfl, rfl, by rw [upd_ne nTT]; exact e1, ixNat (by unfold plV; rw [List.length_map, rk_len]; exact hpl), ?_⟩
      refine ⟨some (.int i), some (.int p), rfl, fun b u e => ?_, ?_⟩
      · rw [upd_ne (ne_of_none e nT), upd_ne (ne_of_none (s1 _ _ e) hT1)]
        exact s1 _ _ e
      · rw [upd_same]
        unfold plV
        rw [← List.map_set (f := fun i : Nat => V.int (i : Int))]
        show _ = some (HO.lst (List.map (fun i : Nat => V.int (i : Int)) ((rk r i).set (r.getD i 0) i)))
        rw [List.getD_eq_getElem?_getD, hp]
        rfl
    · obtain ⟨y2, y3, rfl, s1, e1⟩ := h
      rw [pl] at e1
      refine ⟨.ref T, rfl, T, _, rfl, .inl ⟨.inl (.inl e1), fun l hl => ?_⟩⟩
      exact q _ l (s1.trans (same_new hl)) (s1.free hl) upd_same
end
end Kp
namespace Km
/-- the rank of a place, that of the end being -1 -/
def rkI (r : List Nat) (i : Nat) : Int := if i < r.length then (r.idxOf i : Int) else -1
/-- whether the index is a strict step -/
def isStep (r : List Nat) (k : Nat) : Bool := decide (rkI r (r.getD k 0 + 1) < rkI r (r.getD (k - 1) 0 + 1))
def stepsTo (r : List Nat) (j : Nat) : List Nat := ((List.range j).map (· + 1)).filter (isStep r)
def steps (r : List Nat) : List Nat := stepsTo r (r.length - 1)
theorem stepsTo_succ (r : List Nat) (j : Nat) : stepsTo r (j + 1) = stepsTo r j ++ (if isStep r (j + 1) = true then [j + 1] else []) := by
  unfold stepsTo
  rw [List.range_succ, List.map_append, List.filter_append]
  congr 1
  by_cases c : isStep r (j + 1) = true
  · rw [if_pos c]
    exact List.filter_eq_self.mpr (fun x hx => by rw [List.mem_singleton.mp hx]; exact c)
  · rw [if_neg c]
    exact List.filter_eq_nil_iff.mpr (fun x hx => by rw [List.mem_singleton.mp hx]; exact c)
theorem stepsTo_le (r : List Nat) (j : Nat) : (stepsTo r j).length ≤ j := by
  unfold stepsTo
  refine Nat.le_trans (List.length_filter_le ..) ?_
  rw [List.length_map, List.length_range]
  exact Nat.le_refl _
theorem stepsTo_mem {r : List Nat} {j k : Nat} (h : k ∈ stepsTo r j) : 0 < k ∧ k ≤ j := by
  unfold stepsTo at h
  obtain ⟨i, hi, rfl⟩ := List.mem_map.mp (List.mem_filter.mp h).1
  have := List.mem_range.mp hi
  omega
end Km
namespace Kb
open PySem PySem.Spec PyProof.Rows L2 Km
/-- the ranks with -1 behind them, read at a place -/
theorem rk_at_I {r : List Nat} (h : Km.Ord r) {i : Nat} (hi : i ≤ r.length) : (plV (rk r r.length) ++ [V.int (-1)])[i]? = some (V.int (rkI r i)) := by
  have l : (plV (rk r r.length)).length = r.length := by rw [plV_len, rk_len]
  unfold rkI
  by_cases c : i < r.length
  · rw [if_pos c, List.getElem?_append_left (by omega)]
    unfold plV
    rw [List.getElem?_map, h.rk_idx c]
    rfl
  · have e : i = r.length := by omega
    rw [if_neg c, List.getElem?_append_right (by omega), l, e, Nat.sub_self]
    rfl
end Kb
namespace Kp
open PySem PySem.Spec PyProof.Rows L2 Kb Km
abbrev nRanksOf : List Str := ["order"]
theorem scRanksOf : FnScope nRanksOf ["order"] (defScope sRanksOf) := ⟨rfl, rfl, rfl, by decide +kernel, rfl, by decide +kernel, by decide +kernel⟩
abbrev nSteps : List Str := ["order", "ranks", "nexts", "place", "k"]
theorem scSteps : FnScope nSteps ["order"] (defScope sSteps) := ⟨rfl, rfl, rfl, by decide +kernel, rfl, by decide +kernel, by decide +kernel⟩
section
variable {P : Program} {w : World} {K : PySem.W.Frag} {mg : Str → Option Value} {base : Heap}
theorem ok_ranksOf {f fR : Addr} {fd fdR : FuncData} {k : Nat} (F : Fun K "ranks_of" "ranks_of" sRanksOf f fd) (FR : Fun K "rank_places" "rank_places" sRank fR fdR) (bR : Binds K fdR ["order"] []) (gR : mg "rank_places" = some (.ref fR))
    (mLen : mg "len" = none) (mTuple : mg "tuple" = none) (mEnum : mg "enumerate" = none) : FnOk P w K mg base CX0 (k + 2) f fd ["order"] (spRank K) := by
  have GR : FnOk P w K mg base CX0 (k + 1) fR fdR ["order"] (spRank K) := ok_rank FR mLen mTuple mEnum
  refine F.ok scRanksOf (fun vs H Q E h => ?_) (fun cdv A outer s H vs Q E hr h => ?_)
  · obtain ⟨q, r, rfl, _⟩ := h
    rfl
  · obtain ⟨o, r, rfl, h⟩ := h
    refine ⟨_, pss_one (ps_ret (pe_call GR hr (by rfl) gR FR.kp bR .nil pass0 (pa_cons (pv 0) pa_nil))), ?_⟩
    exact ⟨.ref o, rfl, o, r, rfl, h⟩
def spSteps (K : PySem.W.Frag) : Sp := fun vs H Q _ => ∃ (q : Addr) (r : List Nat), vs = [.ref q] ∧ SqT K H q (plV r) ∧ 0 < r.length ∧ r.length < 1000 ∧ Ord r ∧
  ∀ H' l, Same H H' → H l = none → H' l = some (.tup (plV (steps r))) → Q (.ref l) H'
theorem ok_steps {f fR fRO : Addr} {fd fdR fdRO : FuncData} {k : Nat} (F : Fun K "strict_steps" "strict_steps" sSteps f fd) (FR : Fun K "rank_places" "rank_places" sRank fR fdR) (FRO : Fun K "ranks_of" "ranks_of" sRanksOf fRO fdRO)
    (bR : Binds K fdR ["order"] []) (bRO : Binds K fdRO ["order"] []) (gR : mg "rank_places" = some (.ref fR)) (gRO : mg "ranks_of" = some (.ref fRO))
    (mLen : mg "len" = none) (mRange : mg "range" = none) (mTuple : mg "tuple" = none) (mEnum : mg "enumerate" = none) : FnOk P w K mg base CX0 (k + 3) f fd ["order"] (spSteps K) := by
  have GRO : FnOk P w K mg base CX0 (k + 2) fRO fdRO ["order"] (spRank K) := ok_ranksOf FRO FR bR gR mLen mTuple mEnum
  refine F.ok scSteps (fun vs H Q E h => ?_) (fun cdv A outer s H vs Q E hr h => ?_)
  · obtain ⟨q, r, rfl, _⟩ := h
    rfl
  · obtain ⟨o, r, rfl, ho, r0, r1, hO, q⟩ := h
    refine ⟨_, pss_cons (ps_set (i := 1) scSteps.nd rfl (.inr rfl) (pe_op op_catU (pe_call GRO hr (by rfl) gRO FRO.kp bRO .nil pass0 (pa_cons (pv 0) pa_nil)) (pe_tup (pa_cons (pe_un un_neg pe_int) pa_nil))))
      (pss_cons (ps_set (i := 2) scSteps.nd rfl (.inr rfl) (pe_lc (own := [("place", 3)]) (g := gName 3) (tt := tYes) rfl scSteps.nd (pi_tup (pv 0)) (blkOk_by (N := nSteps) (sc := defScope sSteps) (by decide +kernel))
          (fun _ _ _ _ _ => pg_name (i := 3) scSteps.nd rfl (Or.inl rfl)) (fun _ _ _ _ _ => pts_nil) (fun _ _ _ _ _ => pe_ix (r := rIxT K) ix_tup (pv 1) (pe_op op_add (pv 3) pe_int) (fun _ _ => rfl))))
      (pss_one (ps_ret (pe_callTy call_tuple_of (by rfl) mTuple (by decide +kernel) (pa_cons
        (pe_lc (own := [("k", 4)]) (g := gName 4) rfl scSteps.nd (pi_range2 (by rfl) mRange (pa_cons pe_int (pa_cons (pe_callB call_len_seq (by rfl) mLen PySem.boot_len (pa_cons (pv 0) pa_nil)) pa_nil)))
          (blkOk_by (N := nSteps) (sc := defScope sSteps) (by decide +kernel)) (fun _ _ _ _ _ => pg_name (i := 4) scSteps.nd rfl (Or.inl rfl))
          (fun _ _ _ _ _ => pts_one (pt_cmpR op_gt (pe_ix (r := rIxL K) ix_list (pv 2) (pe_op op_sub (pv 4) pe_int) (fun _ _ => rfl)) (pe_ix (r := rIxL K) ix_list (pv 2) (pv 4) (fun _ _ => rfl)) (nomark _))) (fun _ _ _ _ _ => pv 4)) pa_nil))))), ?_⟩
    -- ranks
    refine ⟨.ref o, rfl, o, r, rfl, ho, r1, fun i hi => hO.lt hi, fun H1 l s1 nl el => ?_⟩
    refine ⟨1, rfl, by show 1 ≤ sizeLine; decide, fun T hT => ?_⟩
    have sT := same_new (o := .tup [V.int (-1)]) hT
    refine ⟨l, T, _, _, rfl, rfl, .inl (.inl (sT _ _ el)), .inl (.inl upd_same), ?_, fun U H2 s2 eU => ?_⟩
    · rw [plV_len, rk_len]
      show r.length + 1 ≤ sizeLine
      exact Nat.le_of_lt (small1000 (by omega))
    have s02 := s1.trans (sT.trans s2)
    -- nexts
    refine ⟨.ref o, rfl, o, rfl, ⟨_, s02.tup ho⟩, fun D hD => lc_tup (K := K) (a := o) (xs := plV r)
      (fun i H' => Same H2 H' ∧ H' D = some (.lst ((r.take i).map fun p => V.int (rkI r (p + 1))))) ⟨same_new hD, upd_same⟩ (fun i H' _ h => h.1.tup (s02.tup ho)) (fun i x H' hx h => ?_) (fun H3 h => ?_)⟩
    · obtain ⟨h1, h2⟩ := h
      obtain ⟨p, hp, rfl⟩ := plV_get hx
      have hpl := hO.lt (List.mem_of_getElem? hp)
      refine ⟨rfl, .ref U, rfl, .int p, rfl, p, 1, rfl, rfl, U, _, _, _, rfl, rfl, h1.tup eU, at_of (j := p + 1) (by omega) (rk_at_I hO (by omega)), _, h2, ?_, fun b o' e => ?_, ?_⟩
      · rw [List.length_map, List.length_take]
        exact small1000 (by omega)
      · rw [upd_ne (ne_of_none e hD)]
        exact h1 _ _ e
      · rw [upd_same, List.take_add_one, hp, List.map_append]
        rfl
    · obtain ⟨s3, e3⟩ := h
      rw [plV_len, List.take_length] at e3
      have s03 := s02.trans s3
      have nx : ∀ (k : Nat), k < r.length → (r.map fun p => V.int (rkI r (p + 1)))[k]? = some (V.int (rkI r (r.getD k 0 + 1))) := fun k hk => by
        rw [List.getElem?_map, List.getD_eq_getElem?_getD, List.getElem?_eq_getElem hk]
        rfl
      refine ⟨.ref o, rfl, o, _, rfl, .inr (s03.tup ho), 1, _, rfl, ⟨by decide, by decide, by omega, ?_⟩, fun D2 hD2 => lc_range (lo := 1) (n := (((plV r).length : Int) - 1).toNat)
        (fun j H' => Same H3 H' ∧ H' D2 = some (.lst (plV (stepsTo r j)))) ⟨same_new hD2, upd_same⟩ (fun j H' hj h => ?_) (fun H4 h => ?_)⟩
      · rw [plV_len]
        omega
      · obtain ⟨h1, h2⟩ := h
        rw [plV_len] at hj
        have e3' := h1 _ _ e3
        refine ⟨rfl, .ref D, rfl, .int (1 + j), rfl, _, 1, rfl, rfl, D, _, _, _, rfl, rfl, .inl (.inl e3'), at_of (j := j) (by omega) (nx j (by omega)), .ref D, rfl, .int (1 + j), rfl, D, _, _, _, rfl, rfl, .inl (.inl e3'), at_of (j := j + 1) (by omega) (nx (j + 1) (by omega)), _, _, rfl, rfl, _, rfl, ?_⟩
        have st : isStep r (j + 1) = decide (rkI r (r.getD (j + 1) 0 + 1) < rkI r (r.getD j 0 + 1)) := rfl
        refine ite2 (fun c => ?_) (fun c => ?_)
        · have c : rkI r (r.getD (j + 1) 0 + 1) < rkI r (r.getD j 0 + 1) := of_decide_eq_true c
          refine ⟨.int (1 + j), rfl, _, h2, ?_, fun b o' e => ?_, ?_⟩
          · rw [plV_len]
            have := stepsTo_le r j
            exact small1000 (by omega)
          · rw [upd_ne (ne_of_none e hD2)]
            exact h1 _ _ e
          · rw [upd_same, stepsTo_succ, st, decide_eq_true c, if_pos rfl, ← plV_app]
            show some (HO.lst (_ ++ [V.int (1 + (j : Int))])) = some (HO.lst (_ ++ [V.int ((j + 1 : Nat) : Int)]))
            rw [show ((j + 1 : Nat) : Int) = 1 + (j : Int) by omega]
        · have c : ¬ rkI r (r.getD (j + 1) 0 + 1) < rkI r (r.getD j 0 + 1) := fun h => c (decide_eq_true h)
          refine ⟨h1, ?_⟩
          rw [h2, stepsTo_succ, st, decide_eq_false c, if_neg Bool.false_ne_true, List.append_nil]
      · obtain ⟨s4, e4⟩ := h
        have en : (((plV r).length : Int) - 1).toNat = r.length - 1 := by
          rw [plV_len]
          omega
        rw [en] at e4
        refine ⟨D2, _, rfl, .inl ⟨.inl (.inl e4), fun l2 hl2 => ?_⟩⟩
        have s04 := s03.trans s4
        exact q _ l2 (s04.trans (same_new hl2)) (s04.free hl2) upd_same
end
end Kp
namespace Km
theorem rkI_ge (r : List Nat) (i : Nat) : -1 ≤ rkI r i := by
  unfold rkI
  split <;> omega
theorem Ord.get_idx {r : List Nat} (h : Ord r) {i : Nat} (hi : i < r.length) : r.getD (r.idxOf i) 0 = i := by
  have hx : r.idxOf i < r.length := List.idxOf_lt_length_iff.mpr (h.mem hi)
  rw [List.getD_eq_getElem?_getD, List.getElem?_eq_getElem hx, List.getElem_idxOf hx]
  rfl
theorem Ord.idx_get {r : List Nat} (h : Ord r) {k : Nat} (hk : k < r.length) : r.idxOf (r.getD k 0) = k := by
  rw [List.getD_eq_getElem?_getD, List.getElem?_eq_getElem hk]
  exact h.nd.idxOf_getElem k hk
theorem Ord.getD_lt {r : List Nat} (h : Ord r) {k : Nat} (hk : k < r.length) : r.getD k 0 < r.length := by
  rw [List.getD_eq_getElem?_getD, List.getElem?_eq_getElem hk]
  exact h.lt (List.getElem_mem hk)
theorem rkI_inj {r : List Nat} (h : Ord r) {i j : Nat} (hi : i ≤ r.length) (hj : j ≤ r.length) (e : rkI r i = rkI r j) : i = j := by
  unfold rkI at e
  by_cases ci : i < r.length
  · by_cases cj : j < r.length
    · rw [if_pos ci, if_pos cj] at e
      have e2 : r.idxOf i = r.idxOf j := by omega
      rw [← h.get_idx ci, e2, h.get_idx cj]
    · rw [if_pos ci, if_neg cj] at e
      omega
  · by_cases cj : j < r.length
    · rw [if_neg ci, if_pos cj] at e
      omega
    · omega
/-- the letters never fall along the order and rise at its strict steps -/
def Fits (L r : List Nat) : Prop := ∀ k, 0 < k → k < r.length → L.getD (r.getD (k - 1) 0) 0 ≤ L.getD (r.getD k 0) 0 ∧ (isStep r k = true → L.getD (r.getD (k - 1) 0) 0 < L.getD (r.getD k 0) 0)
theorem drop_cons {L : List Nat} {a : Nat} (h : a < L.length) : L.drop a = L.getD a 0 :: L.drop (a + 1) := by
  rw [List.drop_eq_getElem_cons h, List.getD_eq_getElem?_getD, List.getElem?_eq_getElem h]
  rfl
theorem Fits.mono {L r : List Nat} (f : Fits L r) : ∀ (d i : Nat), i + d < r.length → L.getD (r.getD i 0) 0 ≤ L.getD (r.getD (i + d) 0) 0
  | 0, i, _ => Nat.le_refl _
  | d + 1, i, h => by
    have h1 := f.mono d i (by omega)
    have h2 := (f (i + d + 1) (by omega) (by omega)).1
    exact Nat.le_trans h1 h2
theorem Fits.level {L r : List Nat} (f : Fits L r) : ∀ (d i : Nat), i + d < r.length → L.getD (r.getD i 0) 0 = L.getD (r.getD (i + d) 0) 0 → rkI r (r.getD i 0 + 1) ≤ rkI r (r.getD (i + d) 0 + 1)
  | 0, i, _, _ => Int.le_refl _
  | d + 1, i, h, e => by
    have m1 := f.mono d i (by omega)
    have st := f (i + d + 1) (by omega) (by omega)
    have st1 : L.getD (r.getD (i + d) 0) 0 ≤ L.getD (r.getD (i + d + 1) 0) 0 := st.1
    have e2 : L.getD (r.getD i 0) 0 = L.getD (r.getD (i + d + 1) 0) 0 := e
    have h1 := f.level d i (by omega) (by omega)
    by_cases c : isStep r (i + d + 1) = true
    · have : L.getD (r.getD (i + d) 0) 0 < L.getD (r.getD (i + d + 1) 0) 0 := st.2 c
      omega
    · have c2 : ¬ rkI r (r.getD (i + d + 1) 0 + 1) < rkI r (r.getD (i + d) 0 + 1) := fun z => c (decide_eq_true z)
      have : rkI r (r.getD (i + d) 0 + 1) ≤ rkI r (r.getD (i + d + 1) 0 + 1) := by omega
      exact Int.le_trans h1 this
theorem Fits.less {L r : List Nat} (h : Ord r) (hl : L.length = r.length) (f : Fits L r) : ∀ (m a b : Nat), r.length - a = m → a < r.length → b < r.length → r.idxOf a < r.idxOf b → L.drop a < L.drop b := by
  intro m
  induction m with
  | zero =>
    intro a b e ha
    omega
  | succ m ih =>
    intro a b e ha hb hab
    rw [drop_cons (show a < L.length by omega), drop_cons (show b < L.length by omega)]
    have hx : r.idxOf b < r.length := List.idxOf_lt_length_iff.mpr (h.mem hb)
    have mo := f.mono (r.idxOf b - r.idxOf a) (r.idxOf a) (by omega)
    have lv := f.level (r.idxOf b - r.idxOf a) (r.idxOf a) (by omega)
    rw [show r.idxOf a + (r.idxOf b - r.idxOf a) = r.idxOf b by omega, h.get_idx ha, h.get_idx hb] at mo lv
    rw [List.cons_lt_cons_iff]
    rcases Nat.lt_or_eq_of_le mo with c | c
    · exact .inl c
    · refine .inr ⟨c, ?_⟩
      have lv := lv c
      have ne : rkI r (a + 1) ≠ rkI r (b + 1) := fun z => by
        have := rkI_inj h (by omega) (by omega) z
        have e2 : a = b := by omega
        rw [e2] at hab
        omega
      have lt : rkI r (a + 1) < rkI r (b + 1) := by omega
      have hb1 : b + 1 < r.length := by
        have g := rkI_ge r (a + 1)
        by_cases z : b + 1 < r.length
        · exact z
        · unfold rkI at lt
          rw [if_neg z] at lt
          split at lt <;> omega
      by_cases ca : a + 1 < r.length
      · refine ih (a + 1) (b + 1) (by omega) ca hb1 ?_
        unfold rkI at lt
        rw [if_pos ca, if_pos hb1] at lt
        omega
      · have ea : L.drop (a + 1) = [] := List.drop_of_length_le (by omega)
        rw [ea, drop_cons (show b + 1 < L.length by omega)]
        exact List.nil_lt_cons _ _
theorem Fits.tail {L r : List Nat} (h : Ord r) (hl : L.length = r.length) (f : Fits L r) : TailOrd L r := by
  refine ⟨by rw [hl]; exact h, ?_⟩
  rw [List.pairwise_iff_getElem]
  intro i j hi hj hij
  refine f.less h hl _ _ _ rfl (h.lt (List.getElem_mem hi)) (h.lt (List.getElem_mem hj)) ?_
  rw [h.nd.idxOf_getElem i hi, h.nd.idxOf_getElem j hj]
  exact hij
/-- tails and ranks go together -/
theorem TailOrd.less {L r : List Nat} (t : TailOrd L r) {a b : Nat} (ha : a < L.length) (hb : b < L.length) (h : L.drop a < L.drop b) : r.idxOf a < r.idxOf b := by
  have o := t.ord
  have rl := t.len
  have xa : r.idxOf a < r.length := List.idxOf_lt_length_iff.mpr (o.mem (by omega))
  have xb : r.idxOf b < r.length := List.idxOf_lt_length_iff.mpr (o.mem (by omega))
  rcases Nat.lt_trichotomy (r.idxOf a) (r.idxOf b) with c | c | c
  · exact c
  · have e : a = b := by rw [← o.get_idx (show a < r.length by omega), c, o.get_idx (show b < r.length by omega)]
    rw [e] at h
    exact absurd h (List.lt_irrefl _)
  · have p := List.pairwise_iff_getElem.mp t.2 _ _ xb xa c
    rw [List.getElem_idxOf xb, List.getElem_idxOf xa] at p
    exact absurd h (List.lt_asymm p)
theorem TailOrd.rk_less {L r : List Nat} (t : TailOrd L r) {a b : Nat} (ha : a ≤ L.length) (hb : b ≤ L.length) (h : L.drop a < L.drop b) : rkI r a < rkI r b := by
  have rl := t.len
  have cb : b < L.length := by
    by_cases z : b < L.length
    · exact z
    · rw [List.drop_of_length_le (show L.length ≤ b by omega)] at h
      exact absurd h (List.not_lt_nil _)
  by_cases ca : a < L.length
  · have := t.less ca cb h
    unfold rkI
    rw [if_pos (by omega), if_pos (by omega)]
    omega
  · unfold rkI
    rw [if_neg (by omega), if_pos (by omega)]
    omega
theorem TailOrd.fits {L r : List Nat} (t : TailOrd L r) : Fits L r := by
  have o := t.ord
  have rl := t.len
  intro k k0 kl
  have p := List.pairwise_iff_getElem.mp t.2 (k - 1) k (by omega) kl (by omega)
  have g1 : r[k - 1] = r.getD (k - 1) 0 := by
    rw [List.getD_eq_getElem?_getD, List.getElem?_eq_getElem (by omega)]
    rfl
  have g2 : r[k] = r.getD k 0 := by
    rw [List.getD_eq_getElem?_getD, List.getElem?_eq_getElem kl]
    rfl
  rw [g1, g2] at p
  have b1 := o.getD_lt (show k - 1 < r.length by omega)
  have b2 := o.getD_lt kl
  have st : isStep r k = true → rkI r (r.getD k 0 + 1) < rkI r (r.getD (k - 1) 0 + 1) := fun c => of_decide_eq_true c
  generalize r.getD (k - 1) 0 = x at *
  generalize r.getD k 0 = y at *
  rw [drop_cons (show x < L.length by omega), drop_cons (show y < L.length by omega), List.cons_lt_cons_iff] at p
  rcases p with c | ⟨c, d⟩
  · exact ⟨Nat.le_of_lt c, fun _ => c⟩
  · refine ⟨Nat.le_of_eq c, fun s => ?_⟩
    have := t.rk_less (show x + 1 ≤ L.length by omega) (show y + 1 ≤ L.length by omega) d
    have := st s
    omega
/-- neighbours in the order of their tails: then all are -/
theorem tail_of_next {L r : List Nat} (h : Ord r) (hl : L.length = r.length) (n : ∀ k, 0 < k → k < r.length → L.drop (r.getD (k - 1) 0) < L.drop (r.getD k 0)) : TailOrd L r := by
  refine ⟨by rw [hl]; exact h, ?_⟩
  have all : ∀ d i, i + (d + 1) < r.length → L.drop (r.getD i 0) < L.drop (r.getD (i + (d + 1)) 0) := by
    intro d
    induction d with
    | zero =>
      intro i hi
      exact n (i + 1) (by omega) hi
    | succ d ih =>
      intro i hi
      exact List.lt_trans (ih i (by omega)) (n (i + (d + 1) + 1) (by omega) hi)
  rw [List.pairwise_iff_getElem]
  intro i j hi hj hij
  have := all (j - i - 1) i (by omega)
  rw [show i + (j - i - 1 + 1) = j by omega] at this
  rw [List.getD_eq_getElem?_getD, List.getD_eq_getElem?_getD, List.getElem?_eq_getElem hi, List.getElem?_eq_getElem hj] at this
  exact this
end Km
namespace Kb
open PySem PySem.Spec PyProof.Rows L2 Km
theorem SqT_kept {K : PySem.W.Frag} {H H' : Hp} {o p b c : Addr} {xs : List V} {t : Nat} (h : SqT K H o xs) (S : Stm H p b c t) (k : Kept p b H H') : SqT K H' o xs := by
  obtain ⟨⟨i, big, cells, h1, _, _, h4, _⟩, _⟩ := S
  have go : ∀ u, H o = some u → (∀ l, u ≠ .lst l) → H' o = some u := fun u e n => by
    refine k o u (fun z => ?_) (fun z => ?_) e
    · rw [z, h1] at e
      cases e
      exact n _ rfl
    · rw [z, h4] at e
      cases e
      exact n _ rfl
  rcases h with (h | ⟨ob, h⟩) | h
  · exact .inl (.inl (go _ h (fun _ z => nomatch z)))
  · exact .inl (.inr ⟨ob, go _ h (fun _ z => nomatch z)⟩)
  · exact .inr h
end Kb
namespace Km
def bads (L r : List Nat) (j : Nat) : List Nat := ((List.range j).map (· + 1)).filter fun k => !decide (L.drop (r.getD (k - 1) 0) < L.drop (r.getD k 0))
theorem bads_succ (L r : List Nat) (j : Nat) : bads L r (j + 1) = bads L r j ++ (if L.drop (r.getD j 0) < L.drop (r.getD (j + 1) 0) then [] else [j + 1]) := by
  unfold bads
  rw [List.range_succ, List.map_append, List.filter_append]
  congr 1
  by_cases c : L.drop (r.getD j 0) < L.drop (r.getD (j + 1) 0)
  · rw [if_pos c]
    refine List.filter_eq_nil_iff.mpr (fun x hx => ?_)
    rw [List.mem_singleton.mp hx]
    show ¬ (!decide (L.drop (r.getD j 0) < L.drop (r.getD (j + 1) 0))) = true
    rw [decide_eq_true c]
    exact Bool.false_ne_true
  · rw [if_neg c]
    refine List.filter_eq_self.mpr (fun x hx => ?_)
    rw [List.mem_singleton.mp hx]
    show (!decide (L.drop (r.getD j 0) < L.drop (r.getD (j + 1) 0))) = true
    rw [decide_eq_false c]
    rfl
theorem bads_nil {L r : List Nat} (h : Ord r) (hl : L.length = r.length) : bads L r (r.length - 1) = [] ↔ TailOrd L r := by
  unfold bads
  rw [List.filter_eq_nil_iff]
  constructor
  · intro n
    refine tail_of_next h hl (fun k k0 kl => ?_)
    have := n k (List.mem_map.mpr ⟨k - 1, List.mem_range.mpr (by omega), by omega⟩)
    simpa using this
  · intro t k hk
    obtain ⟨i, hi, rfl⟩ := List.mem_map.mp hk
    have hi := List.mem_range.mp hi
    have p := List.pairwise_iff_getElem.mp t.2 i (i + 1) (by omega) (by omega) (by omega)
    have g : ∀ j (hj : j < r.length), r[j] = r.getD j 0 := fun j hj => by
      rw [List.getD_eq_getElem?_getD, List.getElem?_eq_getElem hj]
      rfl
    rw [g, g] at p
    show ¬ (!decide (L.drop (r.getD i 0) < L.drop (r.getD (i + 1) 0))) = true
    rw [decide_eq_true p]
    exact Bool.false_ne_true
end Km
namespace Kp
open PySem PySem.Spec PyProof.Rows L2 Kb Km
abbrev nHas : List Str := ["_law_word", "_law_order", "_law_k"]
theorem scHas : FnScope nHas ["_law_word", "_law_order"] (defScope sHas) := ⟨rfl, rfl, rfl, by decide +kernel, rfl, by decide +kernel, by decide +kernel⟩
section
variable {P : Program} {w : World} {K : PySem.W.Frag} {mg : Str → Option Value} {base : Heap}
def spHas (K : PySem.W.Frag) : Sp := fun vs H Q _ => ∃ (z : Str) (o : Addr) (r : List Nat), vs = [.str z, .ref o] ∧ SqT K H o (plV r) ∧ Ord r ∧ 0 < r.length ∧ r.length = z.length ∧ z.length < 1000 ∧
  ∀ H' b, Same H H' → (b = true ↔ TailOrd z.cps.toList r) → Q (.bl b) H'
theorem ok_has {f : Addr} {fd : FuncData} {k : Nat} (F : Fun K "_law_has" "_law_has" sHas f fd) (mLen : mg "len" = none) (mRange : mg "range" = none) : FnOk P w K mg base CX0 (k + 1) f fd ["_law_word", "_law_order"] (spHas K) := by
  refine F.ok scHas (fun vs H Q E h => ?_) (fun cdv A outer s H vs Q E hr h => ?_)
  · obtain ⟨z, o, r, rfl, _⟩ := h
    rfl
  · obtain ⟨z, o, r, rfl, ho, hO, r0, rl, zl, q⟩ := h
    have zs : z.length ≤ sizeLine := Nat.le_of_lt (small1000 (by omega))
    have zL : z.cps.toList.length = z.length := Array.length_toList
    have pl : (plV r).length = r.length := plV_len r
    refine ⟨_, pss_one (ps_ret (pe_cmpR (op_eqD hr.units) (pe_lc (own := [("_law_k", 2)]) (g := gName 2) rfl scHas.nd (pi_range2 (by rfl) mRange (pa_cons pe_int (pa_cons (pe_callB call_len_seq (by rfl) mLen PySem.boot_len (pa_cons (pv 1) pa_nil)) pa_nil)))
          (blkOk_by (N := nHas) (sc := defScope sHas) (by decide +kernel)) (fun _ _ _ _ _ => pg_name (i := 2) scHas.nd rfl (Or.inl rfl))
          (fun _ _ _ _ _ => pts_one (pt_cmpR op_ge_str (pe_slice sl_str (pv 0) (po_some (pe_ix (r := rIxT K) ix_tup (pv 1) (pe_op op_sub (pv 2) pe_int) (fun _ _ => rfl))) po_none) (pe_slice sl_str (pv 0) (po_some (pe_ix (r := rIxT K) ix_tup (pv 1) (pv 2) (fun _ _ => rfl))) po_none) (nomark _)))
          (fun _ _ _ _ _ => pe_int)) (pe_lst pa_nil) (nomark _))), ?_⟩
    have at' : ∀ k, k < r.length → (plV r)[k]? = some (V.int (r.getD k 0 : Nat)) := fun k hk => by
      unfold plV
      rw [List.getElem?_map, List.getD_eq_getElem?_getD, List.getElem?_eq_getElem hk]
      rfl
    refine ⟨.ref o, rfl, o, _, rfl, .inr ho, 1, _, rfl, ⟨by decide, by decide, by omega, ?_⟩, fun D hD => lc_range (lo := 1) (n := (((plV r).length : Int) - 1).toNat)
      (fun j H' => Same H H' ∧ H' D = some (.lst ((List.replicate (bads z.cps.toList r j).length 1).map V.int))) ⟨same_new hD, upd_same⟩ (fun j H' hj h => ?_) (fun H1 h => ?_)⟩
    · rw [pl]
      omega
    · obtain ⟨h1, h2⟩ := h
      rw [pl] at hj
      have ho' := h1.tup ho
      have b0 := hO.getD_lt (show j < r.length by omega)
      have b1 := hO.getD_lt (show j + 1 < r.length by omega)
      refine ⟨rfl, .str z, rfl, .ref o, rfl, .int (1 + j), rfl, _, 1, rfl, rfl, o, _, _, _, rfl, rfl, ho', at_of (j := j) (by omega) (at' j (by omega)), _, rfl, z, rfl, zs, .str z, rfl, .ref o, rfl, .int (1 + j), rfl, o, _, _, _, rfl, rfl, ho', at_of (j := j + 1) (by omega) (at' (j + 1) (by omega)), _, rfl, z, rfl, zs, _, _, rfl, rfl, _, rfl, ?_⟩
      rw [cut_tl z _ (by omega), cut_tl z _ (by omega), tlS_list, tlS_list]
      have ln : (bads z.cps.toList r j).length ≤ j := by
        unfold bads
        refine Nat.le_trans (List.length_filter_le ..) ?_
        rw [List.length_map, List.length_range]
        exact Nat.le_refl _
      by_cases c : z.cps.toList.drop (r.getD j 0) < z.cps.toList.drop (r.getD (j + 1) 0)
      · rw [decide_eq_true c]
        refine ⟨h1, ?_⟩
        rw [h2, bads_succ, if_pos c, List.append_nil]
      · rw [decide_eq_false c]
        refine ⟨_, h2, ?_, fun b' o' e => ?_, ?_⟩
        · rw [List.length_map, List.length_replicate]
          exact small1000 (by omega)
        · rw [upd_ne (ne_of_none e hD)]
          exact h1 _ _ e
        · rw [upd_same, bads_succ, if_neg c, List.length_append]
          show some (HO.lst (_ ++ [V.int 1])) = some (HO.lst ((List.replicate (_ + 1) (1 : Int)).map V.int))
          rw [List.replicate_succ', List.map_append]
          rfl
    · obtain ⟨s1, e1⟩ := h
      have en : (((plV r).length : Int) - 1).toNat = r.length - 1 := by
        rw [pl]
        omega
      rw [en] at e1
      refine ⟨Nat.zero_le _, fun Z hZ => ?_⟩
      have sZ := same_new (o := .lst []) hZ
      refine ⟨.list ((List.replicate (bads z.cps.toList r (r.length - 1)).length 1).map PyData.int), .list [], .lst (.inl (.inl (sZ _ _ e1))) (dpAll_ints _), .lst (.inl (.inl upd_same)) .nil, shaped_ints _, by decide, ?_⟩
      rw [eqv_nil]
      refine q _ _ (s1.trans sZ) ?_
      rw [← bads_nil hO (by omega)]
      cases bads z.cps.toList r (r.length - 1) with
      | nil => simp
      | cons x y => simp [List.replicate_succ]
end
end Kp
namespace Kb
open PySem PySem.Spec PyProof.Rows L2 Km
theorem flat_pl (r : List Nat) : (plV r).all flatV = true := by
  rw [List.all_eq_true]
  intro x hx
  obtain ⟨i, _, rfl⟩ := List.mem_map.mp hx
  rfl
theorem in_pl (k : Nat) (r : List Nat) : inV (.int k) (plV r) = decide (k ∈ r) := by
  induction r with
  | nil => rfl
  | cons x r ih =>
    show (eqV (.int (x : Int)) (.int (k : Int)) || inV (.int k) (plV r)) = _
    rw [ih]
    by_cases c : k = x
    · subst c
      have : eqV (.int (k : Int)) (.int (k : Int)) = true := by
        show ((k : Int) == (k : Int)) = true
        exact beq_self_eq_true _
      rw [this]
      simp
    · have : eqV (.int (x : Int)) (.int (k : Int)) = false := by
        show ((x : Int) == (k : Int)) = false
        exact beq_eq_false_iff_ne.mpr (by omega)
      rw [this, Bool.false_or]
      simp [c]
end Kb
namespace Km
theorem one_lt {x y : Nat} : [x] < [y] ↔ x < y := by
  constructor
  · intro h
    rcases List.cons_lt_cons_iff.mp h with c | ⟨_, d⟩
    · exact c
    · exact absurd d (List.lt_irrefl _)
  · intro h
    exact List.cons_lt_cons_iff.mpr (.inl h)
theorem steps_mem {r : List Nat} {k : Nat} (k0 : 0 < k) (kl : k < r.length) : k ∈ steps r ↔ isStep r k = true := by
  unfold steps stepsTo
  rw [List.mem_filter]
  constructor
  · exact fun h => h.2
  · intro h
    exact ⟨List.mem_map.mpr ⟨k - 1, List.mem_range.mpr (by omega), by omega⟩, h⟩
end Km
namespace Km
/-- the number of strict steps among the first j indexes -/
def nm (r : List Nat) : Nat → Nat
  | 0 => 0
  | j + 1 => nm r j + (if j ∈ steps r then 1 else 0)
theorem zero_step (r : List Nat) : ¬ 0 ∈ steps r := fun h => by
  have := stepsTo_mem h
  omega
theorem nm_steps {r : List Nat} : ∀ j, j < r.length → nm r (j + 1) = (stepsTo r j).length
  | 0, _ => by
    show nm r 0 + (if 0 ∈ steps r then 1 else 0) = 0
    rw [if_neg (zero_step r)]
    rfl
  | j + 1, h => by
    show nm r (j + 1) + (if j + 1 ∈ steps r then 1 else 0) = (stepsTo r (j + 1)).length
    rw [nm_steps j (by omega), stepsTo_succ, List.length_append]
    have m := steps_mem (r := r) (k := j + 1) (by omega) h
    by_cases c : isStep r (j + 1) = true
    · rw [if_pos (m.mpr c), if_pos c]
      rfl
    · rw [if_neg (fun z => c (m.mp z)), if_neg c]
      rfl
theorem nm_all {r : List Nat} (h : 0 < r.length) : nm r r.length = (steps r).length := by
  have := nm_steps (r := r) (r.length - 1) (by omega)
  rw [show r.length - 1 + 1 = r.length by omega] at this
  exact this
theorem nm_le {r : List Nat} {j : Nat} (h : j < r.length) : nm r (j + 1) ≤ j := by
  rw [nm_steps j h]
  exact stepsTo_le r j
/-- the codes of the least word -/
def leastL (r : List Nat) : List Nat := (List.range r.length).map fun p => 97 + nm r (r.idxOf p + 1)
theorem leastL_len (r : List Nat) : (leastL r).length = r.length := by
  unfold leastL
  rw [List.length_map, List.length_range]
theorem leastL_at {r : List Nat} (h : Ord r) {k : Nat} (hk : k < r.length) : (leastL r).getD (r.getD k 0) 0 = 97 + nm r (k + 1) := by
  unfold leastL
  rw [List.getD_eq_getElem?_getD, List.getElem?_map, List.getElem?_range (h.getD_lt hk)]
  show 97 + nm r (r.idxOf (r.getD k 0) + 1) = _
  rw [h.idx_get hk]
theorem least_fits {r : List Nat} (h : Ord r) : Fits (leastL r) r := by
  intro k k0 kl
  rw [leastL_at h kl, leastL_at h (show k - 1 < r.length by omega), show k - 1 + 1 = k by omega]
  have e : nm r (k + 1) = nm r k + (if k ∈ steps r then 1 else 0) := rfl
  rw [e]
  refine ⟨by omega, fun s => ?_⟩
  rw [if_pos ((steps_mem k0 kl).mpr s)]
  omega
theorem least_tail {r : List Nat} (h : Ord r) : TailOrd (leastL r) r := (least_fits h).tail h (leastL_len r)
end Km
namespace Kb
open PySem PySem.Spec PyProof.Rows L2 Km
/-- the least word -/
def leastS (r : List Nat) : Str := ⟨(leastL r).toArray⟩
theorem leastS_list (r : List Nat) : (leastS r).cps.toList = leastL r := rfl
theorem leastS_len (r : List Nat) : (leastS r).length = r.length := by
  show (leastL r).toArray.size = r.length
  rw [List.size_toArray, leastL_len]
abbrev abc : Str := "abcdefghijklmnopqrstuvwxyz"
theorem abc_len : abc.length = 26 := by decide +kernel
theorem abc_at : ∀ j, j < 26 → abc.cps.toList[j]? = some (97 + j) := by decide +kernel
theorem join_chars (cs : List Nat) : Txt.join (Str.ofString "") (cs.map fun c => (⟨#[c]⟩ : Str)) = ⟨cs.toArray⟩ := by
  have e : (cs.map fun c => (⟨#[c]⟩ : Str)) = signs ⟨cs.toArray⟩ := by simp [signs]
  rw [e]
  unfold Txt.join
  rw [PySem.StrLaws.glued_eq_join]
  exact join_nil_signs _
theorem chars_sum (l : List Nat) : ((l.map fun c => (⟨#[c]⟩ : Str)).map (·.length)).sum = l.length := by
  induction l with
  | nil => rfl
  | cons x r ih =>
    rw [List.map_cons, List.map_cons, List.sum_cons, ih, List.length_cons]
    show 1 + r.length = r.length + 1
    omega
theorem Sm.str {z : Str} (h : ∀ c ∈ z.cps.toList, c < 16 ^ 8) : Sm (.str z) (10 * z.length + 2) 1 := by
  refine ⟨by simp [PyData.showable], by simp [PyData.hasDict], by simp [PyData.depth], ?_⟩
  simp only [PyData.shown]
  exact StrLaws.reprText_len z h
/-- the letters of the word so far, by places -/
def partW (r : List Nat) (i : Nat) : List Str := (List.range r.length).map fun p => if r.idxOf p < i then (⟨#[97 + nm r (r.idxOf p + 1)]⟩ : Str) else ""
theorem partW_len (r : List Nat) (i : Nat) : (partW r i).length = r.length := by
  unfold partW
  rw [List.length_map, List.length_range]
theorem partW_zero (r : List Nat) : partW r 0 = List.replicate r.length (Str.ofString "") := by
  unfold partW
  apply List.ext_getElem?
  intro p
  rw [List.getElem?_map, List.getElem?_replicate]
  by_cases hp : p < r.length
  · rw [List.getElem?_range hp, if_pos hp]
    rfl
  · rw [List.getElem?_eq_none (by rw [List.length_range]; omega), if_neg hp]
    rfl
theorem partW_set {r : List Nat} (h : Km.Ord r) {i : Nat} (hi : i < r.length) : (partW r i).set (r.getD i 0) ⟨#[97 + nm r (i + 1)]⟩ = partW r (i + 1) := by
  have hx := h.idx_get hi
  have hlt := h.getD_lt hi
  apply List.ext_getElem?
  intro p
  by_cases e : r.getD i 0 = p
  · subst e
    rw [List.getElem?_set_self (by rw [partW_len]; exact hlt)]
    unfold partW
    rw [List.getElem?_map, List.getElem?_range hlt]
    show _ = some (if r.idxOf (r.getD i 0) < i + 1 then _ else _)
    rw [hx, if_pos (by omega)]
  · rw [List.getElem?_set_ne e]
    unfold partW
    rw [List.getElem?_map, List.getElem?_map]
    by_cases hp : p < r.length
    · rw [List.getElem?_range hp]
      show some (if r.idxOf p < i then _ else _) = some (if r.idxOf p < i + 1 then _ else _)
      have ne : r.idxOf p ≠ i := fun z => e (by rw [← z]; exact h.get_idx hp)
      by_cases c : r.idxOf p < i
      · rw [if_pos c, if_pos (by omega)]
      · rw [if_neg c, if_neg (by omega)]
    · rw [List.getElem?_eq_none (by rw [List.length_range]; omega)]
      rfl
theorem partW_all {r : List Nat} (h : Km.Ord r) : partW r r.length = (leastL r).map fun c => (⟨#[c]⟩ : Str) := by
  unfold partW leastL
  rw [List.map_map]
  refine List.map_congr_left (fun p hp => ?_)
  have hp := List.mem_range.mp hp
  have : r.idxOf p < r.length := List.idxOf_lt_length_iff.mpr (h.mem hp)
  rw [if_pos this]
  rfl
end Kb
namespace Kp
open PySem PySem.Spec PyProof.Rows L2 Kb Km
abbrev nFewest : List Str := ["order"]
theorem scFewest : FnScope nFewest ["order"] (defScope sFewest) := ⟨rfl, rfl, rfl, by decide +kernel, rfl, by decide +kernel, by decide +kernel⟩
abbrev nLeast : List Str := ["order", "steps", "letters", "rises", "k", "place"]
theorem scLeast : FnScope nLeast ["order"] (defScope sLeast) := ⟨rfl, rfl, rfl, by decide +kernel, rfl, by decide +kernel, by decide +kernel⟩
section
variable {P : Program} {w : World} {K : PySem.W.Frag} {mg : Str → Option Value} {base : Heap}
def spFewest (K : PySem.W.Frag) : Sp := fun vs H Q _ => ∃ (q : Addr) (r : List Nat), vs = [.ref q] ∧ SqT K H q (plV r) ∧ 0 < r.length ∧ r.length < 1000 ∧ Ord r ∧
  ∀ H', Same H H' → Q (.int ((steps r).length + 1 : Nat)) H'
theorem ok_fewest {f fR fRO fST : Addr} {fd fdR fdRO fdST : FuncData} {k : Nat} (F : Fun K "fewest_letters" "fewest_letters" sFewest f fd) (FR : Fun K "rank_places" "rank_places" sRank fR fdR) (FRO : Fun K "ranks_of" "ranks_of" sRanksOf fRO fdRO) (FST : Fun K "strict_steps" "strict_steps" sSteps fST fdST)
    (bR : Binds K fdR ["order"] []) (bRO : Binds K fdRO ["order"] []) (bST : Binds K fdST ["order"] []) (gR : mg "rank_places" = some (.ref fR)) (gRO : mg "ranks_of" = some (.ref fRO)) (gST : mg "strict_steps" = some (.ref fST))
    (mLen : mg "len" = none) (mRange : mg "range" = none) (mTuple : mg "tuple" = none) (mEnum : mg "enumerate" = none) : FnOk P w K mg base CX0 (k + 4) f fd ["order"] (spFewest K) := by
  have GST : FnOk P w K mg base CX0 (k + 3) fST fdST ["order"] (spSteps K) := ok_steps FST FR FRO bR bRO gR gRO mLen mRange mTuple mEnum
  refine F.ok scFewest (fun vs H Q E h => ?_) (fun cdv A outer s H vs Q E hr h => ?_)
  · obtain ⟨q, r, rfl, _⟩ := h
    rfl
  · obtain ⟨o, r, rfl, ho, r0, r1, hO, q⟩ := h
    refine ⟨_, pss_one (ps_ret (pe_op op_add (pe_callB call_len_seq (by rfl) mLen PySem.boot_len (pa_cons (pe_call GST hr (by rfl) gST FST.kp bST .nil pass0 (pa_cons (pv 0) pa_nil)) pa_nil)) pe_int)), ?_⟩
    refine ⟨.ref o, rfl, o, r, rfl, ho, r0, r1, hO, fun H1 u s1 nu eu => ⟨u, _, rfl, .inr (.inl (.inl eu)), _, 1, rfl, rfl, ?_⟩⟩
    rw [plV_len]
    exact q _ s1
def spLeast (K : PySem.W.Frag) : Sp := fun vs H Q _ => ∃ (q : Addr) (r : List Nat), vs = [.ref q] ∧ SqT K H q (plV r) ∧ 0 < r.length ∧ r.length ≤ 26 ∧ Ord r ∧
  ∀ H', Same H H' → Q (.str (leastS r)) H'
theorem ok_least {f fR fRO fST : Addr} {fd fdR fdRO fdST : FuncData} {k : Nat} {tL : Tok} (F : Fun K "least_word" "least_word" sLeast f fd) (FR : Fun K "rank_places" "rank_places" sRank fR fdR) (FRO : Fun K "ranks_of" "ranks_of" sRanksOf fRO fdRO) (FST : Fun K "strict_steps" "strict_steps" sSteps fST fdST)
    (bR : Binds K fdR ["order"] []) (bRO : Binds K fdRO ["order"] []) (bST : Binds K fdST ["order"] []) (gR : mg "rank_places" = some (.ref fR)) (gRO : mg "ranks_of" = some (.ref fRO)) (gST : mg "strict_steps" = some (.ref fST))
    (mL : mg "LETTERS" = some (.str abc tL)) (mLen : mg "len" = none) (mRange : mg "range" = none) (mTuple : mg "tuple" = none) (mEnum : mg "enumerate" = none) : FnOk P w K mg base CX0 (k + 4) f fd ["order"] (spLeast K) := by
  have GST : FnOk P w K mg base CX0 (k + 3) fST fdST ["order"] (spSteps K) := ok_steps FST FR FRO bR bRO gR gRO mLen mRange mTuple mEnum
  refine F.ok scLeast (fun vs H Q E h => ?_) (fun cdv A outer s H vs Q E hr h => ?_)
  · obtain ⟨q, r, rfl, _⟩ := h
    rfl
  · obtain ⟨o, r, rfl, ho, r0, r1, hO, q⟩ := h
    have pl : (plV r).length = r.length := plV_len r
    refine ⟨_, pss_cons (ps_set (i := 1) scLeast.nd rfl (.inl rfl) (pe_call GST hr (by rfl) gST FST.kp bST .nil pass0 (pa_cons (pv 0) pa_nil)))
      (pss_cons (ps_set (i := 2) scLeast.nd rfl (.inl rfl) (pe_op op_rep (pe_lst (pa_cons pe_str pa_nil)) (pe_callB call_len_seq (by rfl) mLen PySem.boot_len (pa_cons (pv 0) pa_nil))))
      (pss_cons (ps_set (i := 3) scLeast.nd rfl (.inl rfl) pe_int)
      (pss_cons (ps_for PassesOwn.never rfl (pi_enumT (by rfl) mEnum (pa_cons (pv 0) pa_nil)) (pg_tup rfl (pgs_cons (pg_name (i := 4) scLeast.nd rfl (.inl rfl)) (pgs_cons (pg_name (i := 5) scLeast.nd rfl (.inl rfl)) pgs_nil)))
        (C8.pss_cut (ps_if (pt_cmpR op_in_seq (pv 4) (pv 1) (by rfl)) (pss_one (ps_aug (i := 3) scLeast.nd rfl (.inl rfl) pe_int ip_add)) pss_nil)
        (pss_one (ps_asg (pe_ix ix_str (pe_glob (v := .str abc) (by rfl) mL ⟨_, rfl⟩) (pv 3) (fun _ _ => rfl)) (pg_sub (pv 2) (pv 5) set_list)))))
      (pss_one (ps_ret (pe_join pe_str (pv 2))))))), ?_⟩
    refine ⟨.ref o, rfl, o, r, rfl, ho, r0, by omega, hO, fun H1 u s1 nu eu => ?_⟩
    refine ⟨by show 1 ≤ sizeLine; decide, fun Z hZ => ?_⟩
    have sZ := same_new (o := .lst [V.str ""]) hZ
    have ho1 := (s1.trans sZ).tup ho
    refine ⟨.ref o, rfl, o, _, rfl, .inr ho1, Z, _, _, rfl, rfl, upd_same, by omega, by omega, by show 1 * (plV r).length ≤ sizeLine; rw [pl, Nat.one_mul]; exact Nat.le_of_lt (small1000 (by omega)), fun T hT => ?_⟩
    have eF : (List.replicate (((plV r).length : Int)).toNat [V.str ""]).flatten = (partW r 0).map V.str := by
      rw [Int.toNat_natCast, pl, partW_zero, List.map_replicate]
      simp [List.flatten_replicate_singleton]
    rw [eF]
    have sT := same_new (o := .lst ((partW r 0).map V.str)) hT
    have s03 := s1.trans (sZ.trans sT)
    have nT : H T = none := s1.free (sZ.free hT)
    have eu3 := sT _ _ (sZ _ _ eu)
    refine ⟨.ref o, rfl, o, _, rfl, s03.tup ho, for_enT (K := K) (a := o) (xs := plV r)
      (fun i σ H' => ∃ y4 y5, σ = [some (.ref o), some (.ref u), some (.ref T), some (.int (nm r i : Nat)), y4, y5] ∧ Same H H' ∧ H' u = some (.tup (plV (steps r))) ∧ H' T = some (.lst ((partW r i).map V.str)))
      ⟨none, none, rfl, s03, eu3, upd_same⟩ (fun i σ H' _ h => ?_) (fun i x σ H2 T1 hx h hT1 => ?_) (fun σ H2 h => ?_)⟩
    · obtain ⟨_, _, _, h1, _⟩ := h
      exact h1.tup ho
    · obtain ⟨y4, y5, rfl, s2, eu2, eT2⟩ := h
      obtain ⟨p, hp, rfl⟩ := plV_get hx
      have hi := (List.getElem?_eq_some_iff.mp hp).1
      have ep : r.getD i 0 = p := by
        rw [List.getD_eq_getElem?_getD, hp]
        rfl
      have nTT : T ≠ T1 := ne_of_none eT2 hT1
      have sT1 := same_new (o := .tup [V.int (i : Nat), V.int (p : Nat)]) hT1
      refine ⟨T1, _, rfl, .inl (.inl upd_same), rfl, _, _, rfl, _, _, rfl, rfl, ?_⟩
      refine ⟨fun σ' H' => σ' = [some (.ref o), some (.ref u), some (.ref T), some (.int (nm r (i + 1) : Nat)), some (.int i), some (.int p)] ∧ H' = upd H2 T1 (.tup [V.int (i : Nat), V.int (p : Nat)]), ?_, fun σ' H' h => ?_⟩
      · refine ⟨.int i, rfl, .ref u, rfl, u, _, rfl, .inr (.inl (.inl (sT1 _ _ eu2))), rfl, flat_pl _, _, rfl, ?_⟩
        show if inV (V.int (i : Nat)) (plV (steps r)) = true then _ else _
        rw [in_pl]
        refine ite2 (fun m => ?_) (fun m => ?_)
        · have m := of_decide_eq_true m
          refine ⟨_, rfl, _, 1, rfl, rfl, ?_, rfl⟩
          show _ = [some (V.ref o), some (V.ref u), some (V.ref T), some (V.int ((nm r i + (if i ∈ steps r then 1 else 0) : Nat) : Int)), some (V.int i), some (V.int p)]
          rw [if_pos m]
          rfl
        · have m : ¬ i ∈ steps r := fun z => m (decide_eq_true z)
          refine ⟨?_, rfl⟩
          show _ = [some (V.ref o), some (V.ref u), some (V.ref T), some (V.int ((nm r i + (if i ∈ steps r then 1 else 0) : Nat) : Int)), some (V.int i), some (V.int p)]
          rw [if_neg m]
          rfl
      · obtain ⟨rfl, rfl⟩ := h
        have hle := nm_le (r := r) hi
        have hpl := hO.lt (List.mem_of_getElem? hp)
        refine ⟨.int (nm r (i + 1) : Nat), rfl, abc, _, _, rfl, rfl, by rw [abc_len]; exact Nat.le_of_lt (small1000 (by decide)), atI_nat (abc_at _ (by omega)), .ref T, rfl, .int p, rfl, T, _, _, p, rfl, rfl, sT1 _ _ eT2, ixNat (by rw [List.length_map, partW_len]; exact hpl), ?_⟩
        refine ⟨_, _, rfl, fun b' u' e => ?_, ?_, ?_⟩
        · rw [upd_ne (ne_of_none e nT)]
          exact sT1 _ _ (s2 _ _ e)
        · have ne : u ≠ T := fun z => by
            rw [z, eT2] at eu2
            cases eu2
          rw [upd_ne ne]
          exact sT1 _ _ eu2
        · rw [upd_same, ← partW_set hO hi, ep, List.map_set]
    · obtain ⟨y4, y5, rfl, s2, eu2, eT2⟩ := h
      rw [pl, partW_all hO] at eT2
      refine ⟨⟨_, rfl⟩, .ref T, rfl, "", T, (leastL r).map fun c => (⟨#[c]⟩ : Str), rfl, rfl, .inl (.inl (.inl eT2)), ?_, ?_⟩
      · rw [chars_sum, leastL_len]
        show r.length + _ * 0 ≤ _
        omega
      · rw [join_chars]
        exact q _ s2
end
end Kp
namespace Kb
open PySem PySem.Spec PyProof.Rows L2 Km
theorem putK_le (kvs : List (Key × V)) (k : Key) (v : V) : (putK kvs k v).length ≤ kvs.length + 1 := by
  unfold putK
  split
  · rw [List.length_map]
    omega
  · rw [List.length_append]
    exact Nat.le_refl _
end Kb
namespace Kp
open PySem PySem.Spec PyProof.Rows L2 Kb Km
abbrev nLSteps : List Str := ["_law_order", "_law_rank", "_law_found", "_law_index"]
theorem scLSteps : FnScope nLSteps ["_law_order"] (defScope sLSteps) := ⟨rfl, rfl, rfl, by decide +kernel, rfl, by decide +kernel, by decide +kernel⟩
section
variable {P : Program} {w : World} {K : PySem.W.Frag} {mg : Str → Option Value} {base : Heap}
/-- the ranks so far -/
def RkD (r : List Nat) (j : Nat) (kvs : List (Key × V)) : Prop := kvs.length ≤ j + 1 ∧ valV kvs (.inl (r.length : Int)) = some (.int (-1)) ∧ ∀ i : Nat, i < r.length → r.idxOf i < j → valV kvs (.inl (i : Int)) = some (.int (r.idxOf i : Nat))
theorem RkD.put {r : List Nat} {j : Nat} {kvs : List (Key × V)} (h : RkD r j kvs) (hO : Ord r) (hj : j < r.length) : RkD r (j + 1) (putK kvs (.inl ((r.getD j 0 : Nat) : Int)) (.int j)) := by
  obtain ⟨h1, h2, h3⟩ := h
  have lt := hO.getD_lt hj
  refine ⟨Nat.le_trans (putK_le ..) (by omega), ?_, fun i hi hx => ?_⟩
  · rw [valV_put, if_neg (fun e => by injection e with e; omega)]
    exact h2
  · rw [valV_put]
    by_cases e : i = r.getD j 0
    · rw [if_pos (by rw [e]), e, hO.idx_get hj]
    · rw [if_neg (fun z => e (by injection z with z; omega))]
      refine h3 i hi ?_
      have : r.idxOf i ≠ j := fun z => e (by rw [← z]; exact (hO.get_idx hi).symm)
      omega
theorem RkD.all {r : List Nat} {kvs : List (Key × V)} (h : RkD r r.length kvs) (hO : Ord r) {i : Nat} (hi : i ≤ r.length) : valV kvs (.inl (i : Int)) = some (.int (rkI r i)) := by
  unfold rkI
  by_cases c : i < r.length
  · rw [if_pos c]
    exact h.2.2 i c (List.idxOf_lt_length_iff.mpr (hO.mem c))
  · rw [if_neg c, show i = r.length by omega]
    exact h.2.1
def spLSteps (K : PySem.W.Frag) : Sp := fun vs H Q _ => ∃ (q : Addr) (r : List Nat), vs = [.ref q] ∧ SqT K H q (plV r) ∧ 0 < r.length ∧ r.length < 1000 ∧ Ord r ∧
  ∀ H' l, Same H H' → H l = none → H' l = some (.lst (plV (steps r))) → Q (.ref l) H'
theorem ok_lsteps {f : Addr} {fd : FuncData} {k : Nat} (F : Fun K "_law_steps" "_law_steps" sLSteps f fd) (mLen : mg "len" = none) (mRange : mg "range" = none) : FnOk P w K mg base CX0 (k + 1) f fd ["_law_order"] (spLSteps K) := by
  refine F.ok scLSteps (fun vs H Q E h => ?_) (fun cdv A outer s H vs Q E hr h => ?_)
  · obtain ⟨q, r, rfl, _⟩ := h
    rfl
  · obtain ⟨o, r, rfl, ho, r0, r1, hO, q⟩ := h
    have pl : (plV r).length = r.length := plV_len r
    have hu := hu_of hr
    have at' : ∀ k, k < r.length → (plV r)[k]? = some (V.int (r.getD k 0 : Nat)) := fun k hk => by
      unfold plV
      rw [List.getElem?_map, List.getD_eq_getElem?_getD, List.getElem?_eq_getElem hk]
      rfl
    refine ⟨_, pss_cons (ps_par (i := 1) (j := 2) (by rfl) scLSteps.nd rfl rfl (by decide) rfl rfl (pa_cons (pe_disp (pps_cons (pe_callB call_len_seq (by rfl) mLen PySem.boot_len (pa_cons (pv 0) pa_nil)) (pe_un un_neg pe_int) pps_nil) (by rfl) (by rfl) (fun z => by cases z) (by decide))
          (pa_cons (pe_lst pa_nil) pa_nil)) (by rfl))
      (pss_cons (ps_for PassesOwn.never rfl (pi_range1 (by rfl) mRange (pa_cons (pe_callB call_len_seq (by rfl) mLen PySem.boot_len (pa_cons (pv 0) pa_nil)) pa_nil)) (pg_name (i := 3) scLSteps.nd rfl (Or.inl rfl))
        (pss_one (ps_dput hu (pv 1) (pe_ix ix_tup (pv 0) (pv 3) (fun _ _ => rfl)) (pv 3) rfl)))
      (pss_cons (ps_for PassesOwn.never rfl (pi_range2 (by rfl) mRange (pa_cons pe_int (pa_cons (pe_callB call_len_seq (by rfl) mLen PySem.boot_len (pa_cons (pv 0) pa_nil)) pa_nil))) (pg_name (i := 3) scLSteps.nd rfl (Or.inl rfl))
        (pss_one (ps_if (pt_cmpR op_gt (pe_dget hu (pv 1) (pe_op op_add (pe_ix ix_tup (pv 0) (pe_op op_sub (pv 3) pe_int) (fun _ _ => rfl)) pe_int) (fun _ _ => rfl)) (pe_dget hu (pv 1) (pe_op op_add (pe_ix ix_tup (pv 0) (pv 3) (fun _ _ => rfl)) pe_int) (fun _ _ => rfl)) (nomark _))
          (pss_one (ps_expr (pe_bm PySem.F.plainAttrs_list PySem.F.slot_list_append PySem.F.type_list_append mt_append (pv 2) (pa_cons (pv 3) pa_nil)))) pss_nil)))
      (pss_one (ps_ret (pv 2))))), ?_⟩
    -- the dict with the end
    refine fun d hd => ⟨.ref o, rfl, o, _, rfl, .inr ((same_new hd).tup ho), 1, rfl, upd_same, [(.inl (((plV r).length : Nat) : Int), .int (-1))], rfl, by show 1 ≤ 15; decide, ?_⟩
    have ed : upd (upd H d (.dK [])) d (.dK (mergeK [] [(Sum.inl (((plV r).length : Nat) : Int), V.int (-1))])) = upd H d (.dK [(Sum.inl (((plV r).length : Nat) : Int), V.int (-1))]) := by
      funext x
      by_cases e : x = d
      · rw [e, upd_same, upd_same]
        rfl
      · rw [upd_ne e, upd_ne e, upd_ne e]
    rw [ed]
    have sd := same_new (o := .dK [(Sum.inl (((plV r).length : Nat) : Int), V.int (-1))]) hd
    refine ⟨Nat.zero_le _, fun T hT => ⟨_, _, rfl, ?_⟩⟩
    have sT := same_new (o := .lst []) hT
    have rd0 : RkD r 0 [(Sum.inl (((plV r).length : Nat) : Int), V.int (-1))] := by
      refine ⟨Nat.le_refl _, ?_, fun i _ h => absurd h (Nat.not_lt_zero _)⟩
      rw [pl]
      exact valV_pos rfl
    have nTd : T ≠ d := fun e => by
      rw [e, upd_same] at hT
      cases hT
    -- the ranks
    refine ⟨.ref o, rfl, o, _, rfl, .inr ((sd.trans sT).tup ho), _, rfl, by omega, by rw [pl]; omega, for_range (lo := 0) (n := (((plV r).length : Nat) : Int).toNat)
      (fun j σ H' => ∃ y3 kvs, σ = [some (.ref o), some (.ref d), some (.ref T), y3] ∧ Same H H' ∧ H' d = some (.dK kvs) ∧ RkD r j kvs ∧ H' T = some (.lst []))
      ⟨none, _, rfl, sd.trans sT, sT _ _ upd_same, rd0, upd_same⟩ (fun j σ H1 hj h => ?_) (fun σ H1 h => ?_)⟩
    · obtain ⟨y3, kvs, rfl, s1, e1, rd, eT⟩ := h
      rw [Int.toNat_natCast, pl] at hj
      refine ⟨.int (0 + j), rfl, .ref d, rfl, .ref o, rfl, .int (0 + j), rfl, o, _, _, _, rfl, rfl, s1.tup ho, at_of (j := j) (by omega) (at' j hj), d, _, rfl, DPut.k (k := Sum.inl ((r.getD j 0 : Nat) : Int)) e1 (small1000 (by have := rd.1; omega)), ?_⟩
      refine ⟨_, _, rfl, fun b u e => ?_, upd_same, ?_, by rw [upd_ne nTd]; exact eT⟩
      · rw [upd_ne (ne_of_none e hd)]
        exact s1 _ _ e
      · rw [Int.zero_add]
        exact rd.put hO hj
    · obtain ⟨y3, kvs, rfl, s1, e1, rd, eT⟩ := h
      rw [Int.toNat_natCast, pl] at rd
      -- the steps
      refine ⟨.ref o, rfl, o, _, rfl, .inr (s1.tup ho), 1, _, rfl, ⟨by decide, by decide, by omega, by rw [pl]; omega⟩, for_range (lo := 1) (n := (((plV r).length : Int) - 1).toNat)
        (fun j σ H' => ∃ y3, σ = [some (.ref o), some (.ref d), some (.ref T), y3] ∧ Same H H' ∧ H' d = some (.dK kvs) ∧ H' T = some (.lst (plV (stepsTo r j))))
        ⟨_, rfl, s1, e1, eT⟩ (fun j σ H2 hj h => ?_) (fun σ H2 h => ?_)⟩
      · obtain ⟨y3, rfl, s2, e2, eT2⟩ := h
        rw [pl] at hj
        have b0 := hO.getD_lt (show j < r.length by omega)
        have b1 := hO.getD_lt (show j + 1 < r.length by omega)
        have g0 := rd.all hO (i := r.getD j 0 + 1) (by omega)
        have g1 := rd.all hO (i := r.getD (j + 1) 0 + 1) (by omega)
        have st : isStep r (j + 1) = decide (rkI r (r.getD (j + 1) 0 + 1) < rkI r (r.getD j 0 + 1)) := rfl
        have d0 : DGet H2 d (.int ((r.getD j 0 : Nat) + 1 : Int)) (some (.int (rkI r (r.getD j 0 + 1)))) := by
          rw [← g0, show ((r.getD j 0 : Nat) : Int) + 1 = ((r.getD j 0 + 1 : Nat) : Int) by omega]
          exact DGet.k (k := Sum.inl ((r.getD j 0 + 1 : Nat) : Int)) e2
        have d1 : DGet H2 d (.int ((r.getD (j + 1) 0 : Nat) + 1 : Int)) (some (.int (rkI r (r.getD (j + 1) 0 + 1)))) := by
          rw [← g1, show ((r.getD (j + 1) 0 : Nat) : Int) + 1 = ((r.getD (j + 1) 0 + 1 : Nat) : Int) by omega]
          exact DGet.k (k := Sum.inl ((r.getD (j + 1) 0 + 1 : Nat) : Int)) e2
        refine ⟨.ref d, rfl, .ref o, rfl, .int (1 + j), rfl, _, 1, rfl, rfl, o, _, _, _, rfl, rfl, s2.tup ho, at_of (j := j) (by omega) (at' j (by omega)), _, 1, rfl, rfl, d, _, rfl, d0, .ref d, rfl, .ref o, rfl, .int (1 + j), rfl, o, _, _, _, rfl, rfl, s2.tup ho, at_of (j := j + 1) (by omega) (at' (j + 1) (by omega)), _, 1, rfl, rfl, d, _, rfl, d1, _, _, rfl, rfl, _, rfl, ?_⟩
        refine ite2 (fun c => ?_) (fun c => ?_)
        · have c : rkI r (r.getD (j + 1) 0 + 1) < rkI r (r.getD j 0 + 1) := of_decide_eq_true c
          refine ⟨.ref T, rfl, .inl ⟨rfl, _, .inl (.inl eT2)⟩, .int (1 + j), rfl, T, _, _, rfl, rfl, eT2, ?_, ?_⟩
          · rw [plV_len]
            have := stepsTo_le r j
            exact small1000 (by omega)
          · refine ⟨_, rfl, fun b u e => ?_, by rw [upd_ne nTd.symm]; exact e2, ?_⟩
            · rw [upd_ne (ne_of_none e (sd.free hT))]
              exact s2 _ _ e
            · rw [upd_same, stepsTo_succ, st, decide_eq_true c, if_pos rfl, ← plV_app]
              show some (HO.lst (_ ++ [V.int (1 + (j : Int))])) = some (HO.lst (_ ++ [V.int ((j + 1 : Nat) : Int)]))
              rw [show ((j + 1 : Nat) : Int) = 1 + (j : Int) by omega]
        · have c : ¬ rkI r (r.getD (j + 1) 0 + 1) < rkI r (r.getD j 0 + 1) := fun h => c (decide_eq_true h)
          refine ⟨_, rfl, s2, e2, ?_⟩
          rw [eT2, stepsTo_succ, st, decide_eq_false c, if_neg Bool.false_ne_true, List.append_nil]
      · obtain ⟨y3, rfl, s2, e2, eT2⟩ := h
        rw [show (((plV r).length : Int) - 1).toNat = r.length - 1 by rw [pl]; omega] at eT2
        exact ⟨.ref T, rfl, q _ T s2 (sd.free hT) eT2⟩
end
end Kp
namespace Km
theorem Ord.range (n : Nat) : Ord (List.range n) := by
  unfold Ord
  rw [List.length_range]
theorem Ord.rev {r : List Nat} (h : Ord r) : Ord r.reverse := by
  unfold Ord
  rw [List.length_reverse]
  exact (List.reverse_perm r).trans h
end Km
namespace Kp
open PySem PySem.Spec PyProof.Rows L2 Kb Km
/-- a tuple of the law that is an order -/
def OrdAt (H : Hp) (x : V) : Prop := ∃ (o : Addr) (r : List Nat), x = .ref o ∧ FT H o (plV r) ∧ Ord r ∧ 0 < r.length ∧ r.length ≤ 24
theorem OrdAt.same {H H' : Hp} {x : V} (h : OrdAt H x) (s : Same H H') : OrdAt H' x := by
  obtain ⟨o, r, rfl, h1, h2⟩ := h
  exact ⟨o, r, rfl, h1.same s, h2⟩
theorem FT_ne {H : Hp} {o p b c : Addr} {xs : List V} {t : Nat} (h : FT H o xs) (S : Stm H p b c t) : o ≠ p ∧ o ≠ b := by
  obtain ⟨ob, h, _⟩ := h.ex
  obtain ⟨⟨i, big, cells, h1, _, _, h4, _⟩, _⟩ := S
  refine ⟨fun e => ?_, fun e => ?_⟩
  · rw [e, h1] at h
    cases h
  · rw [e, h4] at h
    cases h
theorem OrdAt.kept {H H' : Hp} {x : V} {p b c : Addr} {t : Nat} (h : OrdAt H x) (S : Stm H p b c t) (k : Kept p b H H') : OrdAt H' x := by
  obtain ⟨o, r, rfl, h1, h2⟩ := h
  have n := FT_ne h1 S
  exact ⟨o, r, rfl, h1.kept k n.1 n.2, h2⟩
theorem OrdAt.list {H : Hp} {x : V} {D : Addr} {xs ys : List V} (h : OrdAt H x) (e : H D = some (.lst xs)) : OrdAt (upd H D (.lst ys)) x := by
  obtain ⟨o, r, rfl, h1, h2⟩ := h
  obtain ⟨ob, h, q⟩ := h1.ex
  have n : o ≠ D := fun z => by
    rw [z, e] at h
    cases h
  exact ⟨o, r, rfl, ⟨ob, by rw [upd_ne n]; exact h, q⟩, h2⟩
end Kp
namespace Kp
open PySem PySem.Spec PyProof.Rows L2 Kb Km
section
variable {P : Program} {w : World} {K : PySem.W.Frag} {mg : Str → Option Value} {base : Heap}
abbrev nLaw : List Str := ["_law_script", "_law_stream_here", "_law_order", "_law_steps_here", "_law_letters", "_law_number", "_law_index", "_law_due", "_law_turn", "_law_place"]
theorem scLaw : FnScope nLaw ["_law_script"] (defScope sLaw) := ⟨rfl, rfl, rfl, by decide +kernel, rfl, by decide +kernel, by decide +kernel⟩
/-- the letters so far, by places -/
def LtD (r : List Nat) (j : Nat) (kvs : List (Key × V)) : Prop := kvs.length ≤ j ∧ ∀ i : Nat, i < r.length → r.idxOf i < j → valV kvs (.inl (i : Int)) = some (chV (97 + nm r (r.idxOf i + 1)))
theorem LtD.put {r : List Nat} {j : Nat} {kvs : List (Key × V)} (h : LtD r j kvs) (hO : Ord r) (hj : j < r.length) : LtD r (j + 1) (putK kvs (.inl ((r.getD j 0 : Nat) : Int)) (chV (97 + nm r (j + 1)))) := by
  obtain ⟨h1, h3⟩ := h
  refine ⟨Nat.le_trans (putK_le ..) (by omega), fun i hi hx => ?_⟩
  rw [valV_put]
  by_cases e : i = r.getD j 0
  · rw [if_pos (by rw [e]), e, hO.idx_get hj]
  · rw [if_neg (fun z => e (by injection z with z; omega))]
    refine h3 i hi ?_
    have : r.idxOf i ≠ j := fun z => e (by rw [← z]; exact (hO.get_idx hi).symm)
    omega
theorem law_body {f fR fRO fST fFE fLW fS fD fP fW fTL fBT fOR fLS fHS : Addr} {fdR fdRO fdST fdFE fdLW fdS fdD fdP fdW fdTL fdBT fdOR fdLS fdHS : FuncData} {cdv : Value} {s : Shared} {H : Hp} {a : Addr} {ns : List Int} {tL : Tok}
    (FR : Fun K "rank_places" "rank_places" sRank fR fdR) (FRO : Fun K "ranks_of" "ranks_of" sRanksOf fRO fdRO) (FST : Fun K "strict_steps" "strict_steps" sSteps fST fdST) (FFE : Fun K "fewest_letters" "fewest_letters" sFewest fFE fdFE) (FLW : Fun K "least_word" "least_word" sLeast fLW fdLW)
    (FS : Fun K "_law_stream" "_law_stream" sStream fS fdS) (FD : Fun K "_law_draw" "_law_draw" sDraw fD fdD) (FP : Fun K "_law_pick" "_law_pick" sPick fP fdP) (FW : Fun K "_law_drawn" "_law_drawn" sDrawn fW fdW)
    (FTL : Fun K "_law_tails" "_law_tails" sTails fTL fdTL) (FBT : Fun K "_law_by_tails" "_law_by_tails" sByTails fBT fdBT) (FOR : Fun K "_law_ordered" "_law_ordered" sOrdered fOR fdOR)
    (FLS : Fun K "_law_steps" "_law_steps" sLSteps fLS fdLS) (FHS : Fun K "_law_has" "_law_has" sHas fHS fdHS)
    (bR : Binds K fdR ["order"] []) (bRO : Binds K fdRO ["order"] []) (bST : Binds K fdST ["order"] []) (bFE : Binds K fdFE ["order"] []) (bLW : Binds K fdLW ["order"] []) (bS : Binds K fdS ["_law_script"] []) (bD : Binds K fdD ["_law_stream_here", "_law_many"] []) (bP : Binds K fdP ["_law_stream_here", "_law_items"] [])
    (bW : Binds K fdW ["_law_stream_here", "_law_most"] []) (bTL : Binds K fdTL ["_law_word"] []) (bBT : Binds K fdBT ["_law_word"] []) (bOR : Binds K fdOR ["_law_stream_here", "_law_most"] []) (bLS : Binds K fdLS ["_law_order"] []) (bHS : Binds K fdHS ["_law_word", "_law_order"] [])
    (gR : mg "rank_places" = some (.ref fR)) (gRO : mg "ranks_of" = some (.ref fRO)) (gST : mg "strict_steps" = some (.ref fST)) (gFE : mg "fewest_letters" = some (.ref fFE)) (gLW : mg "least_word" = some (.ref fLW)) (gS : mg "_law_stream" = some (.ref fS)) (gD : mg "_law_draw" = some (.ref fD)) (gP : mg "_law_pick" = some (.ref fP)) (gW : mg "_law_drawn" = some (.ref fW))
    (gTL : mg "_law_tails" = some (.ref fTL)) (gBT : mg "_law_by_tails" = some (.ref fBT)) (gOR : mg "_law_ordered" = some (.ref fOR)) (gLS : mg "_law_steps" = some (.ref fLS)) (gHS : mg "_law_has" = some (.ref fHS))
    (mLen : mg "len" = none) (mRange : mg "range" = none) (mMin : mg "min" = none) (mAbs : mg "abs" = none) (mSorted : mg "sorted" = none) (mTuple : mg "tuple" = none) (mRepr : mg "repr" = none) (mEnum : mg "enumerate" = none) (mInt : mg "int" = none)
    (mL : mg "LETTERS" = some (.str abc tL)) (hS : SqL K H a (ns.map V.int)) (hn : ns.length ≤ 63) :
    ∃ t, PSs (cxOf CX0 P w K mg base nLaw "law" (defScope sLaw) f cdv callerA [] s H E0).nox (defBody sLaw) t ∧
      t { nx := fun _ H' => (fun v (_ : Hp) => v = V.bl true) .non H', rt := fun v _ => v = .bl true } (start nLaw [.ref a]) H := by
  have GFE : FnOk P w K mg base CX0 4 fFE fdFE ["order"] (spFewest K) := ok_fewest FFE FR FRO FST bR bRO bST gR gRO gST mLen mRange mTuple mEnum
  have GLW : FnOk P w K mg base CX0 4 fLW fdLW ["order"] (spLeast K) := ok_least FLW FR FRO FST bR bRO bST gR gRO gST mL mLen mRange mTuple mEnum
  have GS : FnOk P w K mg base CX0 4 fS fdS ["_law_script"] (spStream K) := ok_stream FS mAbs mLen
  have GOR : FnOk P w K mg base CX0 4 fOR fdOR ["_law_stream_here", "_law_most"] spOrdered := ok_ordered FOR FD FP FW FTL FBT bD bP bW bTL bBT gD gP gW gTL gBT mLen mRange mMin mSorted mTuple
  have GLS : FnOk P w K mg base CX0 4 fLS fdLS ["_law_order"] (spLSteps K) := ok_lsteps FLS mLen mRange
  have GHS : FnOk P w K mg base CX0 4 fHS fdHS ["_law_word", "_law_order"] (spHas K) := ok_has FHS mLen mRange
  have hr : Room 4 (callerA.deeper (envOfC "law" (defScope sLaw) s.heap.objs.size f cdv)) := Room.deeper (k := 4) ⟨rfl, by decide, by decide⟩ _
  have hu := hu_of hr
  refine ⟨_, pss_cons (ps_set (i := 1) scLaw.nd rfl (.inr rfl) (pe_call GS hr (by rfl) gS FS.kp bS .nil pass0 (pa_cons (pv 0) pa_nil)))
    (pss_cons (ps_for PassesOwn.never rfl (pi_list (pe_op op_cat (pe_lst (pa_cons (pe_tupRgF rfl (by rfl) mTuple (prg_1 (by rfl) mRange pe_int)) (pa_cons (pe_revT (pe_tupRgF rfl (by rfl) mTuple (prg_1 (by rfl) mRange pe_int))) pa_nil)))
        (pe_lc (own := [("_law_turn", 8)]) (g := gName 8) (tt := tYes) rfl scLaw.nd (pi_range1 (by rfl) mRange (pa_cons pe_int pa_nil)) (blkOk_by (N := nLaw) (sc := defScope sLaw) (by decide +kernel))
          (fun _ _ _ _ _ => pg_name (i := 8) scLaw.nd rfl (Or.inl rfl)) (fun _ _ _ _ _ => pts_nil) (fun _ _ _ _ _ => pe_call GOR hr (by rfl) gOR FOR.kp bOR .nil pass0 (pa_cons (pv 1) (pa_cons pe_int pa_nil))))))
        (pg_name (i := 2) scLaw.nd rfl (Or.inl rfl))
      (pss_cons (ps_asg (pe_tup (pa_cons (pe_call GLS hr (by rfl) gLS FLS.kp bLS .nil pass0 (pa_cons (pv 2) pa_nil)) (pa_cons pe_dnewK (pa_cons pe_int pa_nil))))
          (pg_tup rfl (pgs_cons (pg_name (i := 3) scLaw.nd rfl (.inl rfl)) (pgs_cons (pg_name (i := 4) scLaw.nd rfl (.inr rfl)) (pgs_cons (pg_name (i := 5) scLaw.nd rfl (.inl rfl)) pgs_nil)))))
      (pss_cons (ps_for PassesOwn.never rfl (pi_range1 (by rfl) mRange (pa_cons (pe_callB call_len_seq (by rfl) mLen PySem.boot_len (pa_cons (pv 2) pa_nil)) pa_nil)) (pg_name (i := 6) scLaw.nd rfl (Or.inl rfl))
        (pss_cons (ps_set (i := 5) scLaw.nd rfl (.inl rfl) (pe_op op_add (pv 5) (pe_callTy call_int1 (by rfl) mInt (by decide +kernel) (pa_cons (pe_cmpR op_in_seq (pv 6) (pv 3) (by rfl)) pa_nil))))
        (pss_one (ps_dput hu (pv 4) (pe_ix ix_tup (pv 2) (pv 6) (fun _ _ => rfl)) (pe_ix ix_str pe_str (pv 5) (fun _ _ => rfl)) rfl))))
      (pss_cons (ps_set (i := 7) scLaw.nd rfl (.inl rfl) (pe_join pe_str
          (pe_lc (own := [("_law_place", 9)]) (g := gName 9) (tt := tYes) rfl scLaw.nd (pi_range1 (by rfl) mRange (pa_cons (pe_callB call_len_seq (by rfl) mLen PySem.boot_len (pa_cons (pv 2) pa_nil)) pa_nil)) (blkOk_by (N := nLaw) (sc := defScope sLaw) (by decide +kernel))
            (fun _ _ _ _ _ => pg_name (i := 9) scLaw.nd rfl (Or.inl rfl)) (fun _ _ _ _ _ => pts_nil) (fun _ _ _ _ _ => pe_dget hu (pv 4) (pv 9) (fun _ _ => rfl)))))
      (pss_cons (ps_if (PW.pt (pw_or (pt_cmpR op_ne (pe_callB (call_repr rfl hr.units) (by rfl) mRepr (by decide +kernel) (pa_cons (pe_lst (pa_cons (pe_call GLW hr (by rfl) gLW FLW.kp bLW .nil pass0 (pa_cons (pv 2) pa_nil)) (pa_cons (pe_call GLW hr (by rfl) gLW FLW.kp bLW .nil pass0 (pa_cons (pv 2) pa_nil)) pa_nil))) pa_nil))
              (pe_callB (call_repr rfl hr.units) (by rfl) mRepr (by decide +kernel) (pa_cons (pe_lst (pa_cons (pv 7) (pa_cons (pv 7) pa_nil))) pa_nil)) (nomark _))
            (pw_or1 (pt_not (pt_val (pe_call GHS hr (by rfl) gHS FHS.kp bHS .nil pass0 (pa_cons (pv 7) (pa_cons (pv 2) pa_nil))))))))
          (pss_one (ps_ret pe_bl)) pss_nil)
      (pss_one (ps_if (pt_cmpR op_ne (pe_callB (call_repr rfl hr.units) (by rfl) mRepr (by decide +kernel) (pa_cons (pe_lst (pa_cons (pe_call GFE hr (by rfl) gFE FFE.kp bFE .nil pass0 (pa_cons (pv 2) pa_nil)) (pa_cons (pe_call GFE hr (by rfl) gFE FFE.kp bFE .nil pass0 (pa_cons (pv 2) pa_nil)) pa_nil))) pa_nil))
            (pe_callB (call_repr rfl hr.units) (by rfl) mRepr (by decide +kernel) (pa_cons (pe_op op_rep (pe_lst (pa_cons (pe_op op_add (pv 5) pe_int) pa_nil)) pe_int) pa_nil)) (nomark _))
          (pss_one (ps_ret pe_bl)) pss_nil)))))))
    (pss_one (ps_ret pe_bl))), ?_⟩
  -- the stream
  refine ⟨.ref a, rfl, a, ns, rfl, hS, hn, fun H1 p b c s1 np nb nc S1 => ?_⟩
  -- two orders
  refine ⟨24, rfl, ⟨by decide, by decide, by decide, by decide, by decide⟩, fun q1 ob1 hq1 cq1 dq1 => ?_⟩
  have sq1 := same_new (o := .frz ob1 (.tup (rgV 0 24))) hq1
  refine ⟨24, rfl, ⟨by decide, by decide, by decide, by decide, by decide⟩, fun q2 ob2 hq2 cq2 dq2 => ⟨q2, _, rfl, .inl (.inr ⟨_, upd_same⟩), fun q3 ob3 hq3 cq3 dq3 => ⟨by show 2 ≤ sizeLine; decide, fun L hL => ?_⟩⟩⟩
  have sq2 := same_new (o := .frz ob2 (.tup (rgV 0 24))) hq2
  have sq3 := same_new (o := .frz ob3 (.tup (rgV 0 24).reverse)) hq3
  have sL := same_new (o := .lst [V.ref q1, V.ref q3]) hL
  have e24 : rgV 0 24 = plV (List.range 24) := rgV_pl 24
  have o1 : OrdAt _ (V.ref q1) := ⟨q1, List.range 24, rfl, (Kb.FT.new (H := H1) (q := q1) (xs := plV (List.range 24)) cq1 dq1), Ord.range 24, by decide, by decide⟩
  rw [← e24] at o1
  have o3 : OrdAt (upd (upd (upd H1 q1 (.frz ob1 (.tup (rgV 0 24)))) q2 (.frz ob2 (.tup (rgV 0 24)))) q3 (.frz ob3 (.tup (rgV 0 24).reverse))) (V.ref q3) := by
    refine ⟨q3, (List.range 24).reverse, rfl, ?_, (Ord.range 24).rev, by decide, by decide⟩
    rw [← plV_rev, ← e24]
    exact Kb.FT.new cq3 dq3
  have o1' := ((o1.same sq2).same sq3).same sL
  have o3' := o3.same sL
  have S1' := (((S1.same sq1).same sq2).same sq3).same sL
  have nL := ((((S1.same sq1).same sq2).same sq3)).ne_p hL
  have eL : (upd (upd (upd (upd H1 q1 (.frz ob1 (.tup (rgV 0 24)))) q2 (.frz ob2 (.tup (rgV 0 24)))) q3 (.frz ob3 (.tup (rgV 0 24).reverse))) L (.lst [V.ref q1, V.ref q3])) L = some (.lst [V.ref q1, V.ref q3]) := upd_same
  generalize upd (upd (upd (upd H1 q1 (.frz ob1 (.tup (rgV 0 24)))) q2 (.frz ob2 (.tup (rgV 0 24)))) q3 (.frz ob3 (.tup (rgV 0 24).reverse))) L (.lst [V.ref q1, V.ref q3]) = HL at o1' o3' S1' eL
  -- the others
  refine ⟨_, rfl, by decide, by decide, fun D hD => lc_range (lo := 0) (n := 14)
    (fun i H' => ∃ xs : List V, Kept p b HL H' ∧ Stm H' p b c (i * 200) ∧ H' D = some (.lst xs) ∧ xs.length = i ∧ ∀ x ∈ xs, OrdAt H' x)
    ⟨[], Kept.same (same_new hD), S1'.same (same_new hD), upd_same, rfl, fun _ h => nomatch h⟩ (fun i H' hi h => ?_) (fun H2 h => ?_)⟩
  · obtain ⟨xs, k2, S2, e2, l2, a2⟩ := h
    have nD := S1'.ne_p hD
    refine ⟨rfl, .ref p, rfl, p, b, c, _, 24, rfl, S2, by omega, by decide, by decide, fun H3 o r k3 S3 no fo ho r0 r1 => ?_⟩
    have e3 := k3 _ _ nD.1 nD.2.1 e2
    refine ⟨_, e3, small1000 (by omega), xs ++ [.ref o], (k2.trans k3).upd hD, (S3.upd nD).mono (by omega), upd_same, by rw [List.length_append, l2]; rfl, ?_⟩
    intro x hx
    rcases List.mem_append.mp hx with e | e
    · exact ((a2 x e).kept S2 k3).list e3
    · rw [List.mem_singleton.mp e]
      exact OrdAt.list ⟨o, r, rfl, fo, ho, r0, by omega⟩ e3
  · obtain ⟨xs, k2, S2, e2, l2, a2⟩ := h
    have eL2 := k2 _ _ nL.1 nL.2.1 eL
    refine ⟨L, D, _, _, rfl, rfl, eL2, e2, ?_, fun M hM => ⟨M, rfl, ⟨_, .inl (.inl upd_same)⟩, ?_⟩⟩
    · rw [l2]
      show 2 + 14 ≤ sizeLine
      decide
    have sM := same_new (o := .lst ([V.ref q1, V.ref q3] ++ xs)) hM
    have ords : ∀ x ∈ [V.ref q1, V.ref q3] ++ xs, OrdAt (upd H2 M (.lst ([V.ref q1, V.ref q3] ++ xs))) x := by
      intro x hx
      rcases List.mem_append.mp hx with e | e
      · simp only [List.mem_cons, List.not_mem_nil, or_false] at e
        rcases e with rfl | rfl
        · exact (o1'.kept S1' k2).same sM
        · exact (o3'.kept S1' k2).same sM
      · exact (a2 x e).same sM
    have eM : (upd H2 M (.lst ([V.ref q1, V.ref q3] ++ xs))) M = some (.lst ([V.ref q1, V.ref q3] ++ xs)) := upd_same
    generalize [V.ref q1, V.ref q3] ++ xs = all at ords eM
    generalize upd H2 M (.lst all) = HM at ords eM
    refine for_list (K := K) (a := M) (xs := all)
      (fun i σ H' => ∃ y2 y3 y4 y5 y6 y7 y8 y9, σ = [some (.ref a), some (.ref p), y2, y3, y4, y5, y6, y7, y8, y9] ∧ Same HM H')
      ⟨_, _, _, _, _, _, _, _, rfl, Same.refl _⟩ (fun i σ H' _ h => ?_) (fun i x σ H3 hx h => ?_) (fun σ H3 h => rfl)
    · obtain ⟨_, _, _, _, _, _, _, _, _, h⟩ := h
      exact .inl (.inl (h _ _ eM))
    · obtain ⟨y2, y3, y4, y5, y6, y7, y8, y9, rfl, s3⟩ := h
      obtain ⟨o, r, rfl, fo, ho, r0, r1⟩ := (ords x (List.mem_of_getElem? hx)).same s3
      have qo : SqT K H3 o (plV r) := fo.sq
      have pl : (plV r).length = r.length := plV_len r
      have at' : ∀ k, k < r.length → (plV r)[k]? = some (V.int (r.getD k 0 : Nat)) := fun k hk => by
        unfold plV
        rw [List.getElem?_map, List.getD_eq_getElem?_getD, List.getElem?_eq_getElem hk]
        rfl
      -- steps, letters, number
      refine ⟨.ref o, rfl, o, r, rfl, qo, r0, by omega, ho, fun H4 u s4 nu eu d hd => ⟨by show 3 ≤ sizeLine; decide, fun T hT => ?_⟩⟩
      have sd := same_new (o := .dK []) hd
      have sT := same_new (o := .tup [V.ref u, V.ref d, V.int 0]) hT
      refine ⟨T, _, rfl, .inl (.inl upd_same), rfl, _, _, rfl, _, _, rfl, _, _, rfl, rfl, ?_⟩
      have s35 := s4.trans (sd.trans sT)
      have ed5 := sT _ _ (show (upd H4 d (.dK [])) d = some (.dK []) from upd_same)
      have eu5 := sT _ _ (sd _ _ eu)
      have hmd : ∀ q w, H3 q = some w → q ≠ d := fun q w e z => by
        have := s4 _ _ e
        rw [z, hd] at this
        cases this
      have nud : u ≠ d := ne_of_none eu hd
      generalize upd (upd H4 d (.dK [])) T (.tup [V.ref u, V.ref d, V.int 0]) = H5 at s35 ed5 eu5
      -- the letters
      refine ⟨.ref o, rfl, o, _, rfl, .inr (s35.tup qo), _, rfl, by omega, by rw [pl]; omega, for_range (lo := 0) (n := (((plV r).length : Nat) : Int).toNat)
        (fun j σ H' => ∃ y6 y7 y8 y9 kvs, σ = [some (.ref a), some (.ref p), some (.ref o), some (.ref u), some (.ref d), some (.int (nm r j : Nat)), y6, y7, y8, y9] ∧ Same H3 H' ∧ H' u = some (.lst (plV (steps r))) ∧ H' d = some (.dK kvs) ∧ LtD r j kvs)
        ⟨_, _, _, _, _, rfl, s35, eu5, ed5, Nat.le_refl _, fun i _ h => absurd h (Nat.not_lt_zero _)⟩ (fun j σ H6 hj h => ?_) (fun σ H6 h => ?_)⟩
      · obtain ⟨y6, y7, y8, y9, kvs, rfl, s6, eu6, ed6, lt6⟩ := h
        rw [Int.toNat_natCast, pl] at hj
        refine ⟨.int (nm r j : Nat), rfl, .int (0 + j), rfl, .ref u, rfl, u, _, rfl, .inl (.inl (.inl eu6)), rfl, flat_pl _, .inr ⟨_, rfl, ((nm r j : Nat) : Int), ((if j ∈ steps r then 1 else 0 : Nat) : Int), rfl, ?_, ?_⟩⟩
        · show V.int (if inV (V.int (0 + (j : Int))) (plV (steps r)) = true then 1 else 0) = _
          rw [Int.zero_add, in_pl]
          by_cases m : j ∈ steps r
          · rw [decide_eq_true m, if_pos rfl, if_pos m]
            rfl
          · rw [decide_eq_false m, if_neg Bool.false_ne_true, if_neg m]
            rfl
        have hle := nm_le (r := r) hj
        refine ⟨.int (nm r (j + 1) : Nat), rfl, abc, _, _, rfl, rfl, by rw [abc_len]; exact Nat.le_of_lt (small1000 (by decide)), atI_nat (abc_at _ (by omega)), .ref d, rfl, .ref o, rfl, .int (0 + j), rfl, o, _, _, _, rfl, rfl, s6.tup qo, at_of (j := j) (by omega) (at' j hj), d, _, rfl, DPut.k (k := Sum.inl ((r.getD j 0 : Nat) : Int)) ed6 (small1000 (by have := lt6.1; omega)), ?_⟩
        refine ⟨_, _, _, _, _, rfl, fun q w e => ?_, by rw [upd_ne nud]; exact eu6, upd_same, lt6.put ho hj⟩
        rw [upd_ne (hmd q w e)]
        exact s6 _ _ e
      · obtain ⟨y6, y7, y8, y9, kvs, rfl, s6, eu6, ed6, lt6⟩ := h
        rw [Int.toNat_natCast, pl] at lt6
        -- due
        refine ⟨⟨_, rfl⟩, .ref o, rfl, o, _, rfl, .inr (s6.tup qo), _, rfl, by omega, by rw [pl]; omega, fun D2 hD2 => lc_range (lo := 0) (n := (((plV r).length : Nat) : Int).toNat)
          (fun j H' => Same H6 H' ∧ H' D2 = some (.lst (((leastL r).take j).map chV))) ⟨same_new hD2, upd_same⟩ (fun j H' hj h => ?_) (fun H7 h => ?_)⟩
        · obtain ⟨h1, h2⟩ := h
          rw [Int.toNat_natCast, pl] at hj
          have hix : r.idxOf j < r.length := List.idxOf_lt_length_iff.mpr (ho.mem hj)
          have g := lt6.2 j hj hix
          have dg : DGet H' d (.int (0 + (j : Int))) (some (chV (97 + nm r (r.idxOf j + 1)))) := by
            rw [← g, Int.zero_add]
            exact DGet.k (k := Sum.inl ((j : Nat) : Int)) (h1 _ _ ed6)
          refine ⟨rfl, .ref d, rfl, .int (0 + j), rfl, d, _, rfl, dg, _, h2, ?_, fun b' o' e => ?_, ?_⟩
          · rw [List.length_map, List.length_take, leastL_len]
            exact small1000 (by omega)
          · rw [upd_ne (ne_of_none e hD2)]
            exact h1 _ _ e
          · have gl : (leastL r)[j]? = some (97 + nm r (r.idxOf j + 1)) := by
              unfold leastL
              rw [List.getElem?_map, List.getElem?_range hj]
              rfl
            rw [upd_same, List.take_add_one, gl, List.map_append]
            rfl
        · obtain ⟨s7, e7⟩ := h
          rw [Int.toNat_natCast, pl, List.take_of_length_le (by rw [leastL_len]; exact Nat.le_refl _)] at e7
          have e7' : H7 D2 = some (.lst (((leastL r).map fun c => (⟨#[c]⟩ : Str)).map V.str)) := by
            rw [e7, List.map_map]
            rfl
          refine ⟨"", D2, (leastL r).map fun c => (⟨#[c]⟩ : Str), rfl, rfl, .inl (.inl (.inl e7')), ?_, ?_⟩
          · rw [chars_sum, leastL_len]
            show r.length + _ * 0 ≤ _
            omega
          rw [join_chars]
          have s37 := s6.trans s7
          have lw : (⟨(leastL r).toArray⟩ : Str) = leastS r := rfl
          rw [lw]
          have smS : Sm (.list [.str (leastS r), .str (leastS r)]) ((10 * (leastS r).length + 2 + 2) * 2 + 2) 2 := Sm.list (ds := [.str (leastS r), .str (leastS r)]) fun d hd => by
            simp only [List.mem_cons, List.not_mem_nil, or_false, or_self] at hd
            rw [hd]
            refine Sm.str (fun c hc => ?_)
            rw [leastS_list] at hc
            unfold leastL at hc
            obtain ⟨q, hq, rfl⟩ := List.mem_map.mp hc
            have hq := List.mem_range.mp hq
            have := nm_le (r := r) (List.idxOf_lt_length_iff.mpr (ho.mem hq))
            have : r.idxOf q < r.length := List.idxOf_lt_length_iff.mpr (ho.mem hq)
            omega
          have sl := leastS_len r
          -- two calls
          refine ⟨.ref o, rfl, o, r, rfl, s37.tup qo, r0, by omega, ho, fun H8 s8 => ⟨.ref o, rfl, o, r, rfl, (s37.trans s8).tup qo, r0, by omega, ho, fun H9 s9 => ⟨by show 2 ≤ sizeLine; decide, fun R hR => ?_⟩⟩⟩
          have sR := same_new (o := .lst [V.str (leastS r), V.str (leastS r)]) hR
          refine ⟨R, _, rfl, .lst (.inl (.inl upd_same)) (.cons (.str _) (.cons (.str _) .nil)), smS.sh, smS.nd, smS.flat (by decide), smS.fits (by omega), ?_⟩
          refine ⟨.str (leastS r), rfl, .str (leastS r), rfl, by show 2 ≤ sizeLine; decide, fun W hW => ?_⟩
          have sW := same_new (o := .lst [V.str (leastS r), V.str (leastS r)]) hW
          refine ⟨W, _, rfl, .lst (.inl (.inl upd_same)) (.cons (.str _) (.cons (.str _) .nil)), smS.sh, smS.nd, smS.flat (by decide), smS.fits (by omega), ?_⟩
          have s3b := s37.trans (s8.trans (s9.trans (sR.trans sW)))
          refine ⟨rfl, _, rfl, iteNS rfl ⟨.str (leastS r), rfl, .ref o, rfl, leastS r, o, r, rfl, s3b.tup qo, ho, r0, sl.symm, by omega, fun H10 b1 s10 hb1 => ⟨_, rfl, ?_⟩⟩⟩
          have hb : b1 = true := hb1.mpr (by rw [leastS_list]; exact least_tail ho)
          subst hb
          have s3c := s3b.trans s10
          -- the fewest letters
          refine ⟨.ref o, rfl, o, r, rfl, s3c.tup qo, r0, by omega, ho, fun H11 s11 => ⟨.ref o, rfl, o, r, rfl, (s3c.trans s11).tup qo, r0, by omega, ho, fun H12 s12 => ⟨by show 2 ≤ sizeLine; decide, fun R2 hR2 => ?_⟩⟩⟩
          have sR2 := same_new (o := .lst [V.int ((steps r).length + 1 : Nat), V.int ((steps r).length + 1 : Nat)]) hR2
          have stl : (steps r).length ≤ 24 := Nat.le_trans (stepsTo_le r _) (by omega)
          have smI : Sm (.list [.int ((steps r).length + 1 : Nat), .int ((steps r).length + 1 : Nat)]) ((4 + 2) * 2 + 2) 2 := Sm.list (ds := [.int ((steps r).length + 1 : Nat), .int ((steps r).length + 1 : Nat)]) fun d hd => by
            simp only [List.mem_cons, List.not_mem_nil, or_false, or_self] at hd
            rw [hd]
            exact Sm.int (k := 3) (by decide) (by omega) (by decide)
          refine ⟨R2, _, rfl, .lst (.inl (.inl upd_same)) (.cons (.int _) (.cons (.int _) .nil)), smI.sh, smI.nd, smI.flat (by decide), smI.fits (by omega), ?_⟩
          refine ⟨.int (nm r r.length : Nat), ?_, _, 1, rfl, rfl, by show 1 ≤ sizeLine; decide, fun Z hZ => ?_⟩
          · show some (some (V.int ((nm r (((plV r).length : Nat) : Int).toNat : Nat) : Int))) = _
            rw [Int.toNat_natCast, pl]
          refine ⟨Z, 2, _, rfl, rfl, upd_same, by decide, by decide, by show 1 * 2 ≤ sizeLine; decide, fun Y hY => ?_⟩
          have eY : (List.replicate (2 : Int).toNat [V.int ((nm r r.length : Nat) + 1 : Int)]).flatten = [V.int ((steps r).length + 1 : Nat), V.int ((steps r).length + 1 : Nat)] := by
            rw [nm_all r0]
            rfl
          rw [eY]
          have sZ := same_new (o := .lst [V.int ((nm r r.length : Nat) + 1 : Int)]) hZ
          have sY := same_new (o := .lst [V.int ((steps r).length + 1 : Nat), V.int ((steps r).length + 1 : Nat)]) hY
          refine ⟨Y, _, rfl, .lst (.inl (.inl upd_same)) (.cons (.int _) (.cons (.int _) .nil)), smI.sh, smI.nd, smI.flat (by decide), smI.fits (by omega), ?_⟩
          refine ⟨rfl, _, rfl, iteNS rfl ?_⟩
          exact ⟨_, _, _, _, _, _, _, _, rfl, s3.trans (s3c.trans (s11.trans (s12.trans (sR2.trans (sZ.trans sY)))))⟩
end
end Kp
namespace Kp
open PySem PySem.Spec PyProof.Rows L2 Kb Km
theorem all_mk {l : PySem.W.OpenLaw} {w : World} {K : PySem.W.Frag} {h : Heap} {mg : Str → Option Value} {fa fR fRO fST fFE fLW fS fD fP fW fTL fBT fOR fLS fHS fL : Addr} (X : K.In h) (G : h.Ns mainGlobals mg) (hfa : mg "law" = some (.ref fa))
    {odR anR : Option Addr} {slR : Array (Option Value)} {ocR kVR dcR pmR cdR ctR : Value}
    (aR : PySem.W.nsIn K mainGlobals "rank_places" = some (some (.ref fR)))
    (lR : K.lookup fR = some ⟨ocR, odR, .func (PySem.W.fnOf "rank_places" "rank_places" (defArgs sRank) (defBody sRank) (defScope sRank) .none kVR dcR pmR anR cdR ctR), slR⟩)
    (cR : PySem.W.codeIn K cdR "rank_places" = true) (kR : PySem.W.keepIn K (.ref fR) = true)
    {odRO anRO : Option Addr} {slRO : Array (Option Value)} {ocRO kVRO dcRO pmRO cdRO ctRO : Value}
    (aRO : PySem.W.nsIn K mainGlobals "ranks_of" = some (some (.ref fRO)))
    (lRO : K.lookup fRO = some ⟨ocRO, odRO, .func (PySem.W.fnOf "ranks_of" "ranks_of" (defArgs sRanksOf) (defBody sRanksOf) (defScope sRanksOf) .none kVRO dcRO pmRO anRO cdRO ctRO), slRO⟩)
    (cRO : PySem.W.codeIn K cdRO "ranks_of" = true) (kRO : PySem.W.keepIn K (.ref fRO) = true)
    {odST anST : Option Addr} {slST : Array (Option Value)} {ocST kVST dcST pmST cdST ctST : Value}
    (aST : PySem.W.nsIn K mainGlobals "strict_steps" = some (some (.ref fST)))
    (lST : K.lookup fST = some ⟨ocST, odST, .func (PySem.W.fnOf "strict_steps" "strict_steps" (defArgs sSteps) (defBody sSteps) (defScope sSteps) .none kVST dcST pmST anST cdST ctST), slST⟩)
    (cST : PySem.W.codeIn K cdST "strict_steps" = true) (kST : PySem.W.keepIn K (.ref fST) = true)
    {odFE anFE : Option Addr} {slFE : Array (Option Value)} {ocFE kVFE dcFE pmFE cdFE ctFE : Value}
    (aFE : PySem.W.nsIn K mainGlobals "fewest_letters" = some (some (.ref fFE)))
    (lFE : K.lookup fFE = some ⟨ocFE, odFE, .func (PySem.W.fnOf "fewest_letters" "fewest_letters" (defArgs sFewest) (defBody sFewest) (defScope sFewest) .none kVFE dcFE pmFE anFE cdFE ctFE), slFE⟩)
    (cFE : PySem.W.codeIn K cdFE "fewest_letters" = true) (kFE : PySem.W.keepIn K (.ref fFE) = true)
    {odLW anLW : Option Addr} {slLW : Array (Option Value)} {ocLW kVLW dcLW pmLW cdLW ctLW : Value}
    (aLW : PySem.W.nsIn K mainGlobals "least_word" = some (some (.ref fLW)))
    (lLW : K.lookup fLW = some ⟨ocLW, odLW, .func (PySem.W.fnOf "least_word" "least_word" (defArgs sLeast) (defBody sLeast) (defScope sLeast) .none kVLW dcLW pmLW anLW cdLW ctLW), slLW⟩)
    (cLW : PySem.W.codeIn K cdLW "least_word" = true) (kLW : PySem.W.keepIn K (.ref fLW) = true)
    {odS anS : Option Addr} {slS : Array (Option Value)} {ocS kVS dcS pmS cdS ctS : Value}
    (aS : PySem.W.nsIn K mainGlobals "_law_stream" = some (some (.ref fS)))
    (lS : K.lookup fS = some ⟨ocS, odS, .func (PySem.W.fnOf "_law_stream" "_law_stream" (defArgs sStream) (defBody sStream) (defScope sStream) .none kVS dcS pmS anS cdS ctS), slS⟩)
    (cS : PySem.W.codeIn K cdS "_law_stream" = true) (kS : PySem.W.keepIn K (.ref fS) = true)
    {odD anD : Option Addr} {slD : Array (Option Value)} {ocD kVD dcD pmD cdD ctD : Value}
    (aD : PySem.W.nsIn K mainGlobals "_law_draw" = some (some (.ref fD)))
    (lD : K.lookup fD = some ⟨ocD, odD, .func (PySem.W.fnOf "_law_draw" "_law_draw" (defArgs sDraw) (defBody sDraw) (defScope sDraw) .none kVD dcD pmD anD cdD ctD), slD⟩)
    (cD : PySem.W.codeIn K cdD "_law_draw" = true) (kD : PySem.W.keepIn K (.ref fD) = true)
    {odP anP : Option Addr} {slP : Array (Option Value)} {ocP kVP dcP pmP cdP ctP : Value}
    (aP : PySem.W.nsIn K mainGlobals "_law_pick" = some (some (.ref fP)))
    (lP : K.lookup fP = some ⟨ocP, odP, .func (PySem.W.fnOf "_law_pick" "_law_pick" (defArgs sPick) (defBody sPick) (defScope sPick) .none kVP dcP pmP anP cdP ctP), slP⟩)
    (cP : PySem.W.codeIn K cdP "_law_pick" = true) (kP : PySem.W.keepIn K (.ref fP) = true)
    {odW anW : Option Addr} {slW : Array (Option Value)} {ocW kVW dcW pmW cdW ctW : Value}
    (aW : PySem.W.nsIn K mainGlobals "_law_drawn" = some (some (.ref fW)))
    (lW : K.lookup fW = some ⟨ocW, odW, .func (PySem.W.fnOf "_law_drawn" "_law_drawn" (defArgs sDrawn) (defBody sDrawn) (defScope sDrawn) .none kVW dcW pmW anW cdW ctW), slW⟩)
    (cW : PySem.W.codeIn K cdW "_law_drawn" = true) (kW : PySem.W.keepIn K (.ref fW) = true)
    {odTL anTL : Option Addr} {slTL : Array (Option Value)} {ocTL kVTL dcTL pmTL cdTL ctTL : Value}
    (aTL : PySem.W.nsIn K mainGlobals "_law_tails" = some (some (.ref fTL)))
    (lTL : K.lookup fTL = some ⟨ocTL, odTL, .func (PySem.W.fnOf "_law_tails" "_law_tails" (defArgs sTails) (defBody sTails) (defScope sTails) .none kVTL dcTL pmTL anTL cdTL ctTL), slTL⟩)
    (cTL : PySem.W.codeIn K cdTL "_law_tails" = true) (kTL : PySem.W.keepIn K (.ref fTL) = true)
    {odBT anBT : Option Addr} {slBT : Array (Option Value)} {ocBT kVBT dcBT pmBT cdBT ctBT : Value}
    (aBT : PySem.W.nsIn K mainGlobals "_law_by_tails" = some (some (.ref fBT)))
    (lBT : K.lookup fBT = some ⟨ocBT, odBT, .func (PySem.W.fnOf "_law_by_tails" "_law_by_tails" (defArgs sByTails) (defBody sByTails) (defScope sByTails) .none kVBT dcBT pmBT anBT cdBT ctBT), slBT⟩)
    (cBT : PySem.W.codeIn K cdBT "_law_by_tails" = true) (kBT : PySem.W.keepIn K (.ref fBT) = true)
    {odOR anOR : Option Addr} {slOR : Array (Option Value)} {ocOR kVOR dcOR pmOR cdOR ctOR : Value}
    (aOR : PySem.W.nsIn K mainGlobals "_law_ordered" = some (some (.ref fOR)))
    (lOR : K.lookup fOR = some ⟨ocOR, odOR, .func (PySem.W.fnOf "_law_ordered" "_law_ordered" (defArgs sOrdered) (defBody sOrdered) (defScope sOrdered) .none kVOR dcOR pmOR anOR cdOR ctOR), slOR⟩)
    (cOR : PySem.W.codeIn K cdOR "_law_ordered" = true) (kOR : PySem.W.keepIn K (.ref fOR) = true)
    {odLS anLS : Option Addr} {slLS : Array (Option Value)} {ocLS kVLS dcLS pmLS cdLS ctLS : Value}
    (aLS : PySem.W.nsIn K mainGlobals "_law_steps" = some (some (.ref fLS)))
    (lLS : K.lookup fLS = some ⟨ocLS, odLS, .func (PySem.W.fnOf "_law_steps" "_law_steps" (defArgs sLSteps) (defBody sLSteps) (defScope sLSteps) .none kVLS dcLS pmLS anLS cdLS ctLS), slLS⟩)
    (cLS : PySem.W.codeIn K cdLS "_law_steps" = true) (kLS : PySem.W.keepIn K (.ref fLS) = true)
    {odHS anHS : Option Addr} {slHS : Array (Option Value)} {ocHS kVHS dcHS pmHS cdHS ctHS : Value}
    (aHS : PySem.W.nsIn K mainGlobals "_law_has" = some (some (.ref fHS)))
    (lHS : K.lookup fHS = some ⟨ocHS, odHS, .func (PySem.W.fnOf "_law_has" "_law_has" (defArgs sHas) (defBody sHas) (defScope sHas) .none kVHS dcHS pmHS anHS cdHS ctHS), slHS⟩)
    (cHS : PySem.W.codeIn K cdHS "_law_has" = true) (kHS : PySem.W.keepIn K (.ref fHS) = true)
    {odL anL : Option Addr} {slL : Array (Option Value)} {ocL kVL dcL pmL cdL ctL : Value}
    (aL : PySem.W.nsIn K mainGlobals "law" = some (some (.ref fL)))
    (lL : K.lookup fL = some ⟨ocL, odL, .func (PySem.W.fnOf "law" "law" (defArgs sLaw) (defBody sLaw) (defScope sLaw) .none kVL dcL pmL anL cdL ctL), slL⟩)
    (cL : PySem.W.codeIn K cdL "law" = true) (kL : PySem.W.keepIn K (.ref fL) = true)
    (z_len : PySem.W.nsIn K mainGlobals "len" = some none)
    (z_range : PySem.W.nsIn K mainGlobals "range" = some none)
    (z_min : PySem.W.nsIn K mainGlobals "min" = some none)
    (z_abs : PySem.W.nsIn K mainGlobals "abs" = some none)
    (z_sorted : PySem.W.nsIn K mainGlobals "sorted" = some none)
    (z_tuple : PySem.W.nsIn K mainGlobals "tuple" = some none)
    (z_repr : PySem.W.nsIn K mainGlobals "repr" = some none)
    (z_enumerate : PySem.W.nsIn K mainGlobals "enumerate" = some none)
    (z_int : PySem.W.nsIn K mainGlobals "int" = some none)
    {tAB : Tok} (vAB : PySem.W.nsIn K mainGlobals "LETTERS" = some (some (.str "abcdefghijklmnopqrstuvwxyz" tAB)))
    (base : Heap) (s : Shared) (H : Hp) (a : Addr) (ns : List Int) (hn : ns.length ≤ 63) (KB : K.In base) (GB : base.Ns mainGlobals mg)
    (e0 : Env0 l.prog w K mg base callerA [] s H) (hS : SqL K H a (ns.map V.int)) :
    codeAny (model l.prog w) callerA (.call (.ref fa) ⟨[.ref a], []⟩) (CR CX0 [] l.prog w H s (fun v _ => v = .bl true) E0) s := by
  have e := hfa.symm.trans (PySem.W.mg_of X G aL)
  cases e
  have FR := fun_mk (st := sRank) lR cR kR
  have bR := FR.binds (ps := ["order"]) fun _ _ _ _ _ _ us hl => match us, hl with | [_], _ => rfl
  have FRO := fun_mk (st := sRanksOf) lRO cRO kRO
  have bRO := FRO.binds (ps := ["order"]) fun _ _ _ _ _ _ us hl => match us, hl with | [_], _ => rfl
  have FST := fun_mk (st := sSteps) lST cST kST
  have bST := FST.binds (ps := ["order"]) fun _ _ _ _ _ _ us hl => match us, hl with | [_], _ => rfl
  have FFE := fun_mk (st := sFewest) lFE cFE kFE
  have bFE := FFE.binds (ps := ["order"]) fun _ _ _ _ _ _ us hl => match us, hl with | [_], _ => rfl
  have FLW := fun_mk (st := sLeast) lLW cLW kLW
  have bLW := FLW.binds (ps := ["order"]) fun _ _ _ _ _ _ us hl => match us, hl with | [_], _ => rfl
  have FS := fun_mk (st := sStream) lS cS kS
  have bS := FS.binds (ps := ["_law_script"]) fun _ _ _ _ _ _ us hl => match us, hl with | [_], _ => rfl
  have FD := fun_mk (st := sDraw) lD cD kD
  have bD := FD.binds (ps := ["_law_stream_here", "_law_many"]) fun _ _ _ _ _ _ us hl => match us, hl with | [_, _], _ => rfl
  have FP := fun_mk (st := sPick) lP cP kP
  have bP := FP.binds (ps := ["_law_stream_here", "_law_items"]) fun _ _ _ _ _ _ us hl => match us, hl with | [_, _], _ => rfl
  have FW := fun_mk (st := sDrawn) lW cW kW
  have bW := FW.binds (ps := ["_law_stream_here", "_law_most"]) fun _ _ _ _ _ _ us hl => match us, hl with | [_, _], _ => rfl
  have FTL := fun_mk (st := sTails) lTL cTL kTL
  have bTL := FTL.binds (ps := ["_law_word"]) fun _ _ _ _ _ _ us hl => match us, hl with | [_], _ => rfl
  have FBT := fun_mk (st := sByTails) lBT cBT kBT
  have bBT := FBT.binds (ps := ["_law_word"]) fun _ _ _ _ _ _ us hl => match us, hl with | [_], _ => rfl
  have FOR := fun_mk (st := sOrdered) lOR cOR kOR
  have bOR := FOR.binds (ps := ["_law_stream_here", "_law_most"]) fun _ _ _ _ _ _ us hl => match us, hl with | [_, _], _ => rfl
  have FLS := fun_mk (st := sLSteps) lLS cLS kLS
  have bLS := FLS.binds (ps := ["_law_order"]) fun _ _ _ _ _ _ us hl => match us, hl with | [_], _ => rfl
  have FHS := fun_mk (st := sHas) lHS cHS kHS
  have bHS := FHS.binds (ps := ["_law_word", "_law_order"]) fun _ _ _ _ _ _ us hl => match us, hl with | [_, _], _ => rfl
  obtain ⟨t, ht, hq⟩ := law_body (P := l.prog) (w := w) (base := base) (f := fa) (cdv := cdL) (s := s) FR FRO FST FFE FLW FS FD FP FW FTL FBT FOR FLS FHS bR bRO bST bFE bLW bS bD bP bW bTL bBT bOR bLS bHS (PySem.W.mg_of X G aR) (PySem.W.mg_of X G aRO) (PySem.W.mg_of X G aST) (PySem.W.mg_of X G aFE) (PySem.W.mg_of X G aLW) (PySem.W.mg_of X G aS) (PySem.W.mg_of X G aD) (PySem.W.mg_of X G aP) (PySem.W.mg_of X G aW) (PySem.W.mg_of X G aTL) (PySem.W.mg_of X G aBT) (PySem.W.mg_of X G aOR) (PySem.W.mg_of X G aLS) (PySem.W.mg_of X G aHS) (PySem.W.mg_none_of X G z_len) (PySem.W.mg_none_of X G z_range) (PySem.W.mg_none_of X G z_min) (PySem.W.mg_none_of X G z_abs) (PySem.W.mg_none_of X G z_sorted) (PySem.W.mg_none_of X G z_tuple) (PySem.W.mg_none_of X G z_repr) (PySem.W.mg_none_of X G z_enumerate) (PySem.W.mg_none_of X G z_int) (PySem.W.mg_of X G vAB) hS hn
  exact runAt (k := 8) (vs := [.ref a]) (us := [.ref a]) (Q := fun v _ => v = .bl true) lL cL scLaw rfl ⟨rfl, by decide, by decide⟩ e0 (.of_eq rfl) (.cons rfl .nil) ht.nox hq
end Kp
open PySem PySem.W PyProof.Rows
set_option maxHeartbeats 0 in
theorem PySem.Challenge.cw_tailranks_k09_fewest_letters_and_least_w_holds : PySem.Challenge.rw_tailranks_k09_fewest_letters_and_least_w.Holds := by
  w_on; o_law; k_head; (case hw => w_witness2)
  k_fill
  refine Kb.walkAt (l := PySem.Challenge.rw_tailranks_k09_fewest_letters_and_least_w) (n := 63) rfl (by decide) rfl (fun w h Y => PySem.W.kIn_of Y) ?F
  case F =>
    intro w mg fa h KX G hmg
    refine' Kp.all_mk KX G hmg ?aR ?lR ?cR ?kR ?aRO ?lRO ?cRO ?kRO ?aST ?lST ?cST ?kST ?aFE ?lFE ?cFE ?kFE ?aLW ?lLW ?cLW ?kLW ?aS ?lS ?cS ?kS ?aD ?lD ?cD ?kD ?aP ?lP ?cP ?kP ?aW ?lW ?cW ?kW ?aTL ?lTL ?cTL ?kTL ?aBT ?lBT ?cBT ?kBT ?aOR ?lOR ?cOR ?kOR ?aLS ?lLS ?cLS ?kLS ?aHS ?lHS ?cHS ?kHS ?aL ?lL ?cL ?kL ?z_len ?z_range ?z_min ?z_abs ?z_sorted ?z_tuple ?z_repr ?z_enumerate ?z_int ?vAB
    (case aR => k_is); (case lR => k_is); (case cR => k_is); (case kR => k_is); (case aRO => k_is); (case lRO => k_is); (case cRO => k_is); (case kRO => k_is); (case aST => k_is); (case lST => k_is); (case cST => k_is); (case kST => k_is); (case aFE => k_is); (case lFE => k_is); (case cFE => k_is); (case kFE => k_is); (case aLW => k_is); (case lLW => k_is); (case cLW => k_is); (case kLW => k_is); (case aS => k_is); (case lS => k_is); (case cS => k_is); (case kS => k_is); (case aD => k_is); (case lD => k_is); (case cD => k_is); (case kD => k_is); (case aP => k_is); (case lP => k_is); (case cP => k_is); (case kP => k_is); (case aW => k_is); (case lW => k_is); (case cW => k_is); (case kW => k_is); (case aTL => k_is); (case lTL => k_is); (case cTL => k_is); (case kTL => k_is); (case aBT => k_is); (case lBT => k_is); (case cBT => k_is); (case kBT => k_is); (case aOR => k_is); (case lOR => k_is); (case cOR => k_is); (case kOR => k_is); (case aLS => k_is); (case lLS => k_is); (case cLS => k_is); (case kLS => k_is); (case aHS => k_is); (case lHS => k_is); (case cHS => k_is); (case kHS => k_is); (case aL => k_is); (case lL => k_is); (case cL => k_is); (case kL => k_is); (case z_len => k_is); (case z_range => k_is); (case z_min => k_is); (case z_abs => k_is); (case z_sorted => k_is); (case z_tuple => k_is); (case z_repr => k_is); (case z_enumerate => k_is); (case z_int => k_is); (case vAB => k_is)
