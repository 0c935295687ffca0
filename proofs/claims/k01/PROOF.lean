import PyProof.Rows.All
import Wide.All
import OpenK.AllK
import Wide.FinOn
import HandS.Base
import HandS.Call
import HandS.Iter
import KE.GoesNew
import HandS.List
import HandS.Comp
import HandS.Text
import HandS.Words
import HandS.Replace
import KE.LtData
import HandS.IsInst
import HandS.Wide
import HandS.StrMore
import HandS.More
import HandS.Deep
import KE.SortData
import HandS.Ends
import HandS.TupLe
import PySem.Challenge.RW_foreaft_k01_words
set_option Elab.async false
set_option linter.all false
set_option maxRecDepth 100000
set_option maxHeartbeats 4000000
namespace Fo
open PySem PySem.Spec PyProof.Rows L2

/-- n turns; turn i hands out a new tuple of f i -/
def ItP (n : Nat) (f : Nat → List V) : It :=
  ⟨fun i _ => i < n, fun i H v H' => ∃ T, v = .ref T ∧ H T = none ∧ H' = upd H T (.tup (f i)), fun i _ => n ≤ i⟩

theorem turn_pairs {P : Program} {w : World} {K : PySem.W.Frag} {elts : List Expr} {kk : Nat} {tpos : Pos} {I0 : Addr} {fp wr : List Addr} {n : Nat} {f : Nat → List V} {Tn : Nat → Heap → Prop}
    (W : ∀ A : Around, A.handled = none → GoesN P w A (.Tuple elts kk tpos) I0 fp wr n (fun i h₀ v h => ∃ T vals, v = .ref T ∧ h₀.objs.size ≤ T ∧ Vals (f i) vals ∧ h.IsTuple T vals.toArray) Tn)
    (hI : I0 ∈ fp) (hs : ∀ i, (f i).length ≤ sizeLine) (hself : ∀ i (A : Around) (s : Shared) (Q E : Value → Shared → Prop), Tn i s.heap → Q (.ref I0) s → wpAny (model P w) A (pyIter (.ref I0)) Q E s)
    (obj : ∀ i h, Tn i h → ∀ b ∈ fp, ∃ o, h.get? b = some o ∧ ∀ v, o.data ≠ .cell v) :
    Turn P w K (.Tuple elts kk tpos) (ItP n f) fp I0 (fun i h => i ≤ n ∧ Tn i h) where
  mem := hI
  obj := fun i h st b hb => obj i h st.2 b hb
  keep := fun i h h' st k => ⟨st.1, (W { frames := some [], handled := none } rfl).frame i h h' st.2 k⟩
  item := by
    intro X eP ew eK hc i pins s σ H E I hf st hg
    subst eP ew eK
    have G := W X.A (I.ok.hd hc)
    have sub : ∀ b ∈ wr, FpOk X pins H b := fun b hb => hf b (G.sub b hb)
    refine wpAny_mono (G.goes i s (fun u s2 => ∃ x H', Inv X pins σ H' s2 ∧ RelV x u ∧ (ItP n f).yld i H x H' ∧ (i + 1 ≤ n ∧ Tn (i + 1) s2.heap) ∧ ∀ b ∈ fp, H' b = none) E hg st.2 ?_) (fun r s1 h1 => h1) fun _ _ z => z
    intro v h' tk hY st' hk htk
    obtain ⟨T, vals, ev, hT, rv, ht⟩ := hY
    subst ev
    have new : ObjOk X.prog X.w (upd H T (.tup (f i))) h' T (.tup (f i)) := ⟨hs i, vals, rv, ht⟩
    refine ⟨.ref T, _, I.turnedNew hk sub hT new, rfl, ⟨T, rfl, I.hok.fresh hT, rfl⟩, ⟨hg, st'⟩, fun b hb => ?_⟩
    obtain ⟨o, e, _⟩ := obj i _ st.2 b hb
    rw [upd_ne (Nat.ne_of_lt (Nat.lt_of_lt_of_le (Heap.lt_size e) hT))]
    exact (hf b hb).1
  done := by
    intro X eP ew eK hc i pins s σ H E I hf st hg
    subst eP ew eK
    have G := W X.A (I.ok.hd hc)
    have e : i = n := Nat.le_antisymm st.1 hg
    subst e
    exact G.stops s _ E st.2 fun h' tk hk _ => I.turnedL hk fun b hb => hf b (G.sub b hb)
  self := fun A i s Q E st h => hself i A s Q E st.2 h
end Fo
namespace Fo
open PySem PySem.Spec PyProof.Rows L2

/-- a text's i-th sign, as a text -/
def sg (x : Str) (i : Nat) : V := .str ⟨#[x.cps.getD i 0]⟩
theorem sg_rel {x : Str} {i : Nat} {v : Value} (h : ∃ c u, x.cps[i]? = some c ∧ v = .str ⟨#[c]⟩ u) : RelV (sg x i) v := by
  obtain ⟨c, u, e, rfl⟩ := h
  refine ⟨u, ?_⟩
  rw [Array.getD_eq_getD_getElem?, e]
  rfl

/-- enumerate of a text -/
def iEnumS (ta : TA) : TI := fun σ H R => ta σ H fun vs H1 => ∃ x : Str, vs = [.str x] ∧ R (ItP x.cps.size fun i => [.int (i : Nat), sg x i]) H1
theorem pi_enumS {X : Cx} {e : Expr} {ta : TA} {p pos tpos : Pos} {elts : List Expr} {kk : Nat} (hg : Gl X "enumerate") (hm : X.mg "enumerate" = none) (ha : PA X [e] ta)
    (hs : starEach [e] X.env = [(false, eval e X.env)] := by rfl) : PI X (.Tuple elts kk tpos) (.Call (.Name "enumerate" p) [e] [] pos) (iEnumS ta) := by
  constructor
  intro pins s σ H R I h
  refine Call_ (ld_blt I hg hm boot_enumerate (callWith_type1 (thn (ha.run pos pins s σ H _ I h) ?_) hs rfl))
  rintro us s1 ⟨vs, H1, I1, r1, x, ex, q⟩
  subst ex
  obtain _ | ⟨r, rr⟩ := r1
  cases rr
  obtain ⟨t, rfl⟩ := r
  refine call_enumerate_str fun h' he hit hsz hk => wpAny_pyIter_enum he ?_
  have I2 := I1.kept (t' := s1.toks) hk
  have nz : s1.heap.objs.size + 1 ≠ s1.heap.objs.size := Nat.succ_ne_self _
  refine ⟨s1.heap.objs.size + 1, [s1.heap.objs.size + 1, s1.heap.objs.size], _, _, H1, rfl, I2, turn_pairs (wr := [s1.heap.objs.size + 1, s1.heap.objs.size]) (Tn := fun i h => (∃ old, IsEnum h (s1.heap.objs.size + 1) s1.heap.objs.size (0 + (i : Int)) old) ∧ h.IsStrIter s1.heap.objs.size (strIterType x) x t i)
    (fun A hh => ?_) (by simp) (fun i => by show 2 ≤ sizeLine; decide) (fun i A s Q E st h => wpAny_pyIter_enum st.1.choose_spec h) ?_, ⟨Nat.zero_le _, ⟨.none, by rw [show (0 : Int) + ((0 : Nat) : Int) = 0 from rfl]; exact he⟩, hit⟩, ?_, q⟩
  · refine (GoesN.enumFrom 0 (Draws.text (A := A.in1) hh s1.heap.objs.size x t) (s1.heap.objs.size + 1) nz (by simp) (by simp)).mono ?_
    rintro i h₀ v h _ ⟨T, u, z, rfl, hn, hz, ht⟩
    refine ⟨T, [.int (0 + (i : Int)) u, z], rfl, hn, .cons ⟨u, ?_⟩ (.cons (sg_rel hz) .nil), ht⟩
    rw [Int.zero_add]
  · rintro i h ⟨⟨old, he⟩, o, ho, hc, hd⟩ b hb
    rcases List.mem_cons.mp hb with rfl | hb
    · exact ⟨_, he, fun v z => nomatch z⟩
    · rw [List.mem_singleton.mp hb]
      exact ⟨o, ho, fun v z => by rw [hd] at z; cases z⟩
  · intro b hb
    have hle : s1.heap.objs.size ≤ b := by
      rcases List.mem_cons.mp hb with rfl | hb
      · exact Nat.le_succ _
      · exact Nat.le_of_eq (List.mem_singleton.mp hb).symm
    exact I1.fpOk hle (I1.hok.fresh hle)

/-- zip of two texts -/
def iZipS (ta : TA) : TI := fun σ H R => ta σ H fun vs H1 => ∃ x y : Str, vs = [.str x, .str y] ∧ R (ItP (min x.cps.size y.cps.size) fun i => [sg x i, sg y i]) H1
theorem pi_zipS {X : Cx} {e e2 : Expr} {ta : TA} {p pos tpos : Pos} {elts : List Expr} {kk : Nat} (hg : Gl X "zip") (hm : X.mg "zip" = none) (ha : PA X [e, e2] ta)
    (hs : starEach [e, e2] X.env = (false, eval e X.env) :: starEach [e2] X.env := by rfl) (hp : (backTo pos (starEach [e2] X.env)).any (·.1) = false := by rfl) :
    PI X (.Tuple elts kk tpos) (.Call (.Name "zip" p) [e, e2] [] pos) (iZipS ta) := by
  constructor
  intro pins s σ H R I h
  refine Call_ (ld_blt I hg hm PyProof.Rows.boot_zip (callWith_type1 (thn (ha.run pos pins s σ H _ I h) ?_) hs hp))
  rintro us s1 ⟨vs, H1, I1, r1, x, y, ex, q⟩
  subst ex
  obtain _ | ⟨r, rr⟩ := r1
  obtain _ | ⟨r', rr⟩ := rr
  cases rr
  obtain ⟨t, rfl⟩ := r
  obtain ⟨t', rfl⟩ := r'
  generalize hN : s1.heap.objs.size = N
  refine zip_begins2 (begins_text x t) (begins_text y t') trivial trivial fun h' hz hT hO g1 g2 hsz hk => ?_
  rw [hN] at hz hT hO g1 g2 hsz ⊢
  refine wpAny_pyIter_zip hz ?_
  have I2 := I1.kept (t' := s1.toks) hk
  refine ⟨N + 4, (N + 4) :: (N + 2) :: (N + 3) :: ([N] ++ [N + 1]), _, _, H1, rfl, I2, turn_pairs (wr := [N + 4, N + 3, N, N + 1]) (Tn := fun i h => IsZip h (N + 4) (N + 2) (N + 3) .none ∧ IsTupOf2 h (N + 2) (.ref N) (.ref (N + 1)) ∧ (∃ a1 a2, IsTupOf2 h (N + 3) a1 a2) ∧
      h.IsStrIter N (strIterType x) x t i ∧ h.IsStrIter (N + 1) (strIterType y) y t' i)
    (fun A hh => ?_) (by simp) (fun i => by show 2 ≤ sizeLine; decide) (fun i A s Q E st h => wpAny_pyIter_zip st.1 h) ?_, ⟨Nat.zero_le _, hz, hT, ⟨_, _, hO⟩, ⟨_, g1, rfl, rfl⟩, ⟨_, g2, rfl, rfl⟩⟩, ?_, q⟩
  · refine (GoesN.zip2 (zip_sep2 (N := N) (fp1 := []) (fp2 := []) (by simp) (by simp)) (Draws.text (A := A.in1) hh N x t) (Draws.text (A := A.in1) hh (N + 1) y t')).mono ?_
    rintro i h₀ v h _ ⟨T, a, b, rfl, hn, ha, hb, ht⟩
    exact ⟨T, [a, b], rfl, hn, .cons (sg_rel ha) (.cons (sg_rel hb) .nil), ht⟩
  · rintro i h ⟨e1, e2, ⟨_, _, e3⟩, ⟨o, ho, hc, hd⟩, ⟨o', ho', hc', hd'⟩⟩ b hb
    have e : b = N + 4 ∨ b = N + 2 ∨ b = N + 3 ∨ b = N ∨ b = N + 1 := by simpa using hb
    rcases e with rfl | rfl | rfl | rfl | rfl
    · exact ⟨_, e1, fun v z => nomatch z⟩
    · exact ⟨_, e2, fun v z => nomatch z⟩
    · exact ⟨_, e3, fun v z => nomatch z⟩
    · exact ⟨o, ho, fun v z => by rw [hd] at z; cases z⟩
    · exact ⟨o', ho', fun v z => by rw [hd'] at z; cases z⟩
  · intro b hb
    have e : b = N + 4 ∨ b = N + 2 ∨ b = N + 3 ∨ b = N ∨ b = N + 1 := by simpa using hb
    have hle : s1.heap.objs.size ≤ b := by
      rw [hN]
      rcases e with rfl | rfl | rfl | rfl | rfl
      · exact Nat.le_add_right _ _
      · exact Nat.le_add_right _ _
      · exact Nat.le_add_right _ _
      · exact Nat.le_refl _
      · exact Nat.le_add_right _ _
    exact I1.fpOk hle (I1.hok.fresh hle)
end Fo
namespace Fo
open PySem PySem.Spec PyProof.Rows L2

theorem hu64 {k : Nat} {A : Around} (hr : Room k A) : A.units + 64 < cLine := hr.units
theorem hu65 {k : Nat} {A : Around} (hr : Room k A) : A.units + 65 < cLine := by have := hr.un; omega
theorem rel_of_reads {A : Around} {d e : PyData} (h1 : d.depth ≤ 64) (hu : A.units + 64 < cLine) : A.units + min d.depth e.depth < cLine := by
  have h2 : min d.depth e.depth ≤ d.depth := Nat.min_le_left _ _
  omega
/-- x < y of data that are alike -/
def rLtD (K : PySem.W.Frag) : R2 := fun x y H Q => ∃ d e, Dp K H x d ∧ Dp K H y e ∧ PySem.W.alike d e = true ∧ d ≠ .none ∧ d.depth ≤ 64 ∧ Q (.bl (PySem.W.dataLt d e)) H
theorem op_ltD {X : Cx} (hu : X.A.units + 64 < cLine) : OpR X (compareOp .Lt) (rLtD X.K) := by
  intro pins s σ H x y v u Q I rx ry ⟨d, e, hd, he, ha, hn, sd, q⟩
  obtain ⟨as, r1⟩ := Dp.reads I d x v hd rx
  obtain ⟨bs, r2⟩ := Dp.reads I e y u he ry
  exact PySem.W.rcLt_alike d e X.A s v u as bs r1 r2 ha hn (rel_of_reads sd hu) _ _ _ _ ⟨.bl _, H, I, rfl, q⟩

/-! ### data stay data -/
theorem same_seqT {K : PySem.W.Frag} {H H' : Hp} {a : Addr} {xs : List V} (e : Same H H') (h : SqT K H a xs) : SqT K H' a xs := by
  rcases h with (h | ⟨o, h⟩) | h
  · exact .inl (.inl (e _ _ h))
  · exact .inl (.inr ⟨o, e _ _ h⟩)
  · exact .inr h
mutual
theorem dp_mono {K : PySem.W.Frag} {H H' : Hp} (e : Same H H') : ∀ {v : V} {d : PyData}, Dp K H v d → Dp K H' v d
  | _, _, .non => .non
  | _, _, .bl b => .bl b
  | _, _, .int i => .int i
  | _, _, .str x => .str x
  | _, _, .lst s a => .lst (e.seq s) (dps_mono e a)
  | _, _, .tup s a => .tup (same_seqT e s) (dps_mono e a)
theorem dps_mono {K : PySem.W.Frag} {H H' : Hp} (e : Same H H') : ∀ {vs : List V} {ds : List PyData}, DpAll K H vs ds → DpAll K H' vs ds
  | _, _, .nil => .nil
  | _, _, .cons h t => .cons (dp_mono e h) (dps_mono e t)
end
theorem dps_get {K : PySem.W.Frag} {H : Hp} : ∀ {vs : List V} {ds : List PyData}, DpAll K H vs ds → ∀ {i : Nat} {d : PyData}, ds[i]? = some d → ∃ v, vs[i]? = some v ∧ Dp K H v d
  | _, _, .nil, _, _, e => by simp at e
  | _, _, .cons h t, 0, _, e => ⟨_, rfl, (Option.some.inj e) ▸ h⟩
  | _, _, .cons h t, i + 1, _, e => by
    obtain ⟨v, h1, h2⟩ := dps_get t (i := i) (by simpa using e)
    exact ⟨v, by simpa using h1, h2⟩
theorem dps_len {K : PySem.W.Frag} {H : Hp} : ∀ {vs : List V} {ds : List PyData}, DpAll K H vs ds → vs.length = ds.length
  | _, _, .nil => rfl
  | _, _, .cons _ t => by rw [List.length_cons, List.length_cons, dps_len t]
theorem dps_append {K : PySem.W.Frag} {H : Hp} : ∀ {vs ws : List V} {ds es : List PyData}, DpAll K H vs ds → DpAll K H ws es → DpAll K H (vs ++ ws) (ds ++ es)
  | _, _, _, _, .nil, h => h
  | _, _, _, _, .cons a t, h => .cons a (dps_append t h)
theorem dps_ints {K : PySem.W.Frag} {H : Hp} : ∀ ns : List Int, DpAll K H (ns.map V.int) (ns.map PyData.int)
  | [] => .nil
  | n :: ns => .cons (.int n) (dps_ints ns)
theorem dps_strs {K : PySem.W.Frag} {H : Hp} : ∀ ns : List Str, DpAll K H (ns.map V.str) (ns.map PyData.str)
  | [] => .nil
  | n :: ns => .cons (.str n) (dps_strs ns)

/-! ### new objects -/
theorem same_new {H : Hp} {p : Addr} {o : HO} (h : H p = none) : Same H (upd H p o) := fun b u e => by
  rw [upd_ne (ne_of_none e h)]
  exact e

/-! ### loops over pairs -/
theorem for_pairs {n : Nat} {f : Nat → List V} {g : TG} {tb : TS} {D : Ends} {σ : L2.St} {H : Hp} (Pv : Nat → L2.St → Hp → Prop) (h0 : Pv 0 σ H)
    (hs : ∀ i σ H T, i < n → Pv i σ H → H T = none → g (.ref T) σ (upd H T (.tup (f i))) fun σ2 H2 => tb { D with nx := Pv (i + 1), ct := Pv (i + 1), bk := D.nx } σ2 H2) (hd : ∀ σ H, Pv n σ H → D.nx σ H) :
    ∃ W : Nat → Nat → L2.St → Hp → Prop, (∃ m, W 0 m σ H) ∧ ∀ i m σ H, W i m σ H →
      ((ItP n f).stop i H ∧ D.nx σ H) ∨ ((ItP n f).go i H ∧ ∃ N : L2.St → Hp → Prop, (∀ σ' H', N σ' H' → ∃ m', m' < m ∧ W (i + 1) m' σ' H') ∧ ∀ x H', (ItP n f).yld i H x H' → g x σ H' fun σ2 H2 => tb { D with nx := N, ct := N, bk := D.nx } σ2 H2) := by
  refine ⟨fun i m σ H => m = n - i ∧ i ≤ n ∧ Pv i σ H, ⟨n, rfl, Nat.zero_le _, h0⟩, ?_⟩
  rintro i m σ H ⟨rfl, hi, p⟩
  by_cases hlt : i < n
  · refine .inr ⟨hlt, Pv (i + 1), fun σ' H' p' => ⟨n - (i + 1), by omega, rfl, hlt, p'⟩, ?_⟩
    rintro x H' ⟨T, rfl, hT, rfl⟩
    exact hs i σ H T hlt p hT
  · obtain rfl : i = n := by omega
    exact .inl ⟨Nat.le_refl _, hd σ H p⟩
/-- over the signs of a text -/
theorem lc_str {z : Str} {g : TG} {tt : TT} {te : TE} {vs : List Nat} {σ : L2.St} {H1 : Hp} {D : Addr} {Qd : Hp → Prop} (Pv : Nat → Hp → Prop) (h0 : Pv 0 (upd H1 D (.lst [])))
    (hs : ∀ i H, i < z.cps.size → Pv i H → g (sg z i) (wipe σ vs) H fun σ2 H2 => wipe σ2 vs = wipe σ vs ∧ tt σ2 H2 fun b H3 =>
      if b = true then te σ2 H3 fun y H4 => ∃ acc, H4 D = some (.lst acc) ∧ acc.length < sizeLine ∧ Pv (i + 1) (upd H4 D (.lst (acc ++ [y]))) else Pv (i + 1) H3) (hd : ∀ H, Pv z.cps.size H → Qd H) :
    ∃ W : Nat → Nat → Hp → Prop, (∃ m, W 0 m (upd H1 D (.lst []))) ∧ ∀ i m H, W i m H →
      ((Its z).stop i H ∧ Qd H) ∨ ((Its z).go i H ∧ ∃ Nx : Hp → Prop, (∀ H', Nx H' → ∃ m', m' < m ∧ W (i + 1) m' H') ∧ ∀ x H', (Its z).yld i H x H' → g x (wipe σ vs) H' fun σ2 H2 => wipe σ2 vs = wipe σ vs ∧ tt σ2 H2 fun b H3 =>
        if b = true then te σ2 H3 fun y H4 => ∃ acc, H4 D = some (.lst acc) ∧ acc.length < sizeLine ∧ Nx (upd H4 D (.lst (acc ++ [y]))) else Nx H3) := by
  refine ⟨fun i m H => m = z.cps.size - i ∧ i ≤ z.cps.size ∧ Pv i H, ⟨z.cps.size, rfl, Nat.zero_le _, h0⟩, ?_⟩
  rintro i m H ⟨rfl, hi, p⟩
  by_cases hlt : i < z.cps.size
  · refine .inr ⟨hlt, Pv (i + 1), fun H' p' => ⟨z.cps.size - (i + 1), by omega, rfl, hlt, p'⟩, ?_⟩
    intro x H' hy
    obtain ⟨rfl, c, e, rfl⟩ := hy
    have ec : sg z i = .str ⟨#[c]⟩ := by
      unfold sg
      rw [Array.getD_eq_getD_getElem?, e]
      rfl
    rw [← ec]
    exact hs i _ hlt p
  · obtain rfl : i = z.cps.size := by omega
    exact .inl ⟨Nat.le_refl _, hd H p⟩
end Fo
namespace Fo
open PySem PySem.Spec PyProof.Rows L2 TL

/-! ### texts as lists of signs -/
abbrev S (l : List Nat) : Str := ⟨l.toArray⟩
theorem tlS (l : List Nat) : tl (S l) = l := rfl
theorem S_tl (x : Str) : S (tl x) = x := mk_tl x
theorem len_S (l : List Nat) : (S l).length = l.length := by rw [len_tl]
theorem size_tl (x : Str) : x.cps.size = (tl x).length := len_tl x
theorem sg_eq (x : Str) (i : Nat) : sg x i = .str (S [(tl x).getD i 0]) := by
  unfold sg
  congr 2
  simp [tl, Array.getD_eq_getD_getElem?, List.getD_eq_getElem?_getD]
theorem sg_S (l : List Nat) (i : Nat) : sg (S l) i = .str (S [l.getD i 0]) := sg_eq (S l) i
theorem getD_mem {l : List Nat} {i : Nat} (h : i < l.length) : l.getD i 0 ∈ l := by
  rw [List.getD_eq_getElem?_getD, List.getElem?_eq_getElem h]
  exact List.getElem_mem h
theorem getD_at {l : List Nat} {i : Nat} (h : i < l.length) : l[i]? = some (l.getD i 0) := by
  rw [List.getD_eq_getElem?_getD, List.getElem?_eq_getElem h]
  rfl
theorem idxOf_first {l : List Nat} {c i : Nat} (h : l[i]? = some c) (hn : ∀ k, k < i → l[k]? ≠ some c) : l.idxOf c = i := by
  induction l generalizing i with
  | nil => simp at h
  | cons a r ih =>
    cases i with
    | zero =>
      obtain rfl : a = c := Option.some.inj h
      exact List.idxOf_cons_self
    | succ i =>
      have ha : a ≠ c := fun e => hn 0 (Nat.succ_pos _) (by rw [e]; rfl)
      have e := ih (i := i) (by simpa using h) fun k hk => by
        have := hn (k + 1) (Nat.succ_lt_succ hk)
        simpa using this
      rw [List.idxOf_cons, e, beq_eq_false_iff_ne.mpr ha]
      rfl
theorem occ_ix (a : Str) (c : Nat) (h : c ∈ tl a) : ∃ r, Builtin.Str.occurrences a (S [c]) 0 a.length 1 = (tl a).idxOf c :: r := by
  rcases StrLaws.occ_head a (S [c]) 1 (Nat.le_refl 1) with ⟨_, hn⟩ | ⟨i, r, h0, hi, hn⟩
  · obtain ⟨i, hi⟩ := (mem_iff_at a c).mp h
    exact absurd hi (hn i)
  · refine ⟨r, ?_⟩
    rw [h0, idxOf_first (i := i) ((StrLaws.subAt_one a c i).mp hi) fun k hk e => hn k hk ((StrLaws.subAt_one a c k).mpr e)]
theorem tl_join0 : ∀ ys : List Str, tl (Txt.join (Str.ofString "") ys) = (ys.map tl).flatten := by
  have e0 : tl (Str.ofString "") = [] := by decide +kernel
  have key : ∀ ls : List (List Nat), joinL [] ls = ls.flatten := by
    intro ls
    induction ls with
    | nil => rfl
    | cons p r ih =>
      cases r with
      | nil => simp [joinL]
      | cons q r => rw [show joinL [] (p :: q :: r) = p ++ ([] ++ joinL [] (q :: r)) from rfl, ih]; simp
  intro ys
  have := tl_join (Str.ofString "") ys
  rw [e0, key] at this
  rw [eq_of_beq (join_plain_closes (Str.ofString "") ys)]
  exact this
theorem join_signs (l : List Nat) : Txt.join (Str.ofString "") (l.map fun c => S [c]) = S l := by
  refine ext_tl ?_
  rw [tl_join0, tlS, List.map_map]
  induction l with
  | nil => rfl
  | cons c r ih => rw [List.map_cons, List.flatten_cons, ih]; rfl
/-- z[:k] -/
theorem cut_to (z : Str) (k : Nat) : cutS z none (some (k : Int)) = S ((tl z).take k) := by
  unfold cutS
  refine ext_tl ?_
  rw [tlS, HT.sIx_none, HT.sIx_nat]
  show ((tl z).drop 0).take (min k z.length - 0) = _
  rw [List.drop_zero, Nat.sub_zero, len_tl]
  rcases Nat.le_total k (tl z).length with h | h
  · rw [Nat.min_eq_left h]
  · rw [Nat.min_eq_right h, List.take_of_length_le (Nat.le_refl _), List.take_of_length_le h]
/-- z[k:] -/
theorem cut_from (z : Str) (k : Nat) : cutS z (some (k : Int)) none = S ((tl z).drop k) := by
  unfold cutS
  refine ext_tl ?_
  rw [tlS, HT.sIx_none, HT.sIx_nat]
  rcases Nat.le_total k (tl z).length with h | h
  · rw [len_tl, Nat.min_eq_left h]
    exact List.take_of_length_le (by rw [List.length_drop]; exact Nat.le_refl _)
  · rw [len_tl, Nat.min_eq_right h, List.drop_of_length_le h, List.drop_of_length_le (Nat.le_refl _), List.take_nil]
theorem at_nat {α : Type} {xs : List α} {i : Nat} {v : α} (h : xs[i]? = some v) : atI xs (i : Int) = some v := atI_nat h

theorem at_int {α : Type} {xs : List α} {k : Int} {v : α} (h0 : 0 ≤ k) (h : xs[k.toNat]? = some v) : atI xs k = some v := by
  have e : ((k.toNat : Nat) : Int) = k := Int.toNat_of_nonneg h0
  rw [← e]
  exact atI_nat h
theorem map_at {α β : Type} {f : α → β} {xs : List α} {i : Nat} (h : i < xs.length) : (xs.map f)[i]? = some (f xs[i]) := by
  rw [List.getElem?_map, List.getElem?_eq_getElem h]
  rfl

/-! ### tests over places -/
def allN (n : Nat) (p : Nat → Bool) : Bool := (List.range n).all p
theorem allN_true {n : Nat} {p : Nat → Bool} (h : ∀ i, i < n → p i = true) : allN n p = true := List.all_eq_true.mpr fun i hi => h i (List.mem_range.mp hi)
theorem allN_false {n i : Nat} {p : Nat → Bool} (hi : i < n) (h : p i = false) : allN n p = false := by
  cases e : allN n p with
  | false => rfl
  | true => rw [List.all_eq_true.mp e i (List.mem_range.mpr hi)] at h; cases h
end Fo
namespace Fo
open PySem PySem.Spec PyProof.Rows L2 TL
/-! ### the rules that speak of the written part, with that part named -/
section
variable {X : Cx} {K : PySem.W.Frag}
theorem kBM {e : Expr} {T : String} {r : V → List V → Hp → VK → Prop} {to : TE} {t : TA} (hK : X.K = K) (h : PE X e (tBM X.K T r to t)) : PE X e (tBM K T r to t) := hK ▸ h
theorem kLi {tg e : Expr} {t : TE} (hK : X.K = K) (h : PI X tg e (iList X.K t)) : PI X tg e (iList K t) := hK ▸ h
theorem kTi {tg e : Expr} {t : TE} (hK : X.K = K) (h : PI X tg e (iTup X.K t)) : PI X tg e (iTup K t) := hK ▸ h
theorem kTg {e : Expr} {n : Nat} {t : TGs} (hK : X.K = K) (h : PG X e (gTup X.K n t)) : PG X e (gTup K n t) := hK ▸ h
theorem kIxL (hK : X.K = K) : IxR X (rIxL K) := hK ▸ ix_list
theorem kIxT (hK : X.K = K) : IxR X (rIxT K) := hK ▸ ix_tup
theorem kSlL (hK : X.K = K) : SlR X (rSlL K) := hK ▸ sl_list
def rLn (K : PySem.W.Frag) : List V → Hp → VK → Prop := fun xs H Q => ∃ p ys, xs = [.ref p] ∧ (SqL K H p ys ∨ SqT K H p ys) ∧ Q (.int ys.length) H
theorem kLen (hK : X.K = K) : CallR X (.builtin "len") (rLn K) := hK ▸ call_len_seq
def rLs (K : PySem.W.Frag) : List V → Hp → VK → Prop := fun xs H Q => ∃ p ys, xs = [.ref p] ∧ (SqL K H p ys ∨ SqT K H p ys) ∧ ∀ l, H l = none → Q (.ref l) (upd H l (.lst ys))
theorem kLst (hK : X.K = K) : CallR X (.type "list") (rLs K) := hK ▸ call_list_of
def rTp (K : PySem.W.Frag) : List V → Hp → VK → Prop := fun xs H Q => ∃ p ys, xs = [.ref p] ∧ ((SqL K H p ys ∧ ∀ l, H l = none → Q (.ref l) (upd H l (.tup ys))) ∨ (SqT K H p ys ∧ Q (.ref p) H))
theorem kTup (hK : X.K = K) : CallR X (.type "tuple") (rTp K) := hK ▸ call_tuple_of
theorem kTyp (hK : X.K = K) : CallR X (.type "type") (rTyp K) := hK ▸ call_type1
theorem kAll (hK : X.K = K) (hc : X.calm = true) : CallR X (.builtin "all") (rAll K) := hK ▸ cr_all hc
def rJn (K : PySem.W.Frag) : V → List V → Hp → VK → Prop := fun x xs H Q => ∃ a p, ∃ ys : List Str, x = .str a ∧ xs = [.ref p] ∧ (SqL K H p (ys.map V.str) ∨ SqT K H p (ys.map V.str)) ∧
  (ys.map (·.length)).sum + ys.length * a.length ≤ 16777216 ∧ Q (.str (Txt.join a ys)) H
theorem kJn (hK : X.K = K) : MtR X "str.join" (rJn K) := hK ▸ mt_join
theorem kIn (hK : X.K = K) : OpR X (compareOp .In) (rIn K false) := hK ▸ op_in_seq
theorem kNin (hK : X.K = K) : OpR X (compareOp .NotIn) (rIn K true) := hK ▸ op_notIn_seq
theorem kEqD (hK : X.K = K) (hu : X.A.units + 64 < cLine) : OpR X (compareOp .Eq) (rEqD K) := hK ▸ op_eqD hu
theorem kNeD (hK : X.K = K) (hu : X.A.units + 64 < cLine) : OpR X (compareOp .NotEq) (rNeD K) := hK ▸ op_neD hu
theorem kLtD (hK : X.K = K) (hu : X.A.units + 64 < cLine) : OpR X (compareOp .Lt) (rLtD K) := hK ▸ op_ltD hu
end
end Fo
namespace Fo
open PySem PySem.Spec PyProof.Rows L2 TL
def topS (i : Nat) : Stmt := PySem.Challenge.pw_foreaft_k01_words.main.body.getD i (.Pass ⟨0, 0, 0, 0⟩)
abbrev s_is_alphabet : Stmt := topS 3
abbrev s_is_word : Stmt := topS 4
abbrev s_comes_before : Stmt := topS 5
abbrev s_law_cell : Stmt := topS 7
abbrev s_law_row : Stmt := topS 8
abbrev s_law_draw : Stmt := topS 9
abbrev s_law_words : Stmt := topS 10
abbrev s_law_word : Stmt := topS 11
abbrev s_law_key : Stmt := topS 12
abbrev s_law_good : Stmt := topS 13
abbrev s_law_is : Stmt := topS 14
abbrev s_law : Stmt := topS 15
theorem sc_is_alphabet : FnScope ["thing", "place", "letter"] ["thing"] (defScope s_is_alphabet) := ⟨rfl, rfl, rfl, by decide +kernel, rfl, by decide +kernel, by decide +kernel⟩
theorem sc_is_word : FnScope ["alphabet", "thing", "letter"] ["alphabet", "thing"] (defScope s_is_word) := ⟨rfl, rfl, rfl, by decide +kernel, rfl, by decide +kernel, by decide +kernel⟩
theorem sc_comes_before : FnScope ["alphabet", "one", "two", "first", "second"] ["alphabet", "one", "two"] (defScope s_comes_before) := ⟨rfl, rfl, rfl, by decide +kernel, rfl, by decide +kernel, by decide +kernel⟩
theorem sc_law_cell : FnScope ["script", "k"] ["script", "k"] (defScope s_law_cell) := ⟨rfl, rfl, rfl, by decide +kernel, rfl, by decide +kernel, by decide +kernel⟩
theorem sc_law_row : FnScope ["script", "first", "last", "row", "k", "cell", "turn"] ["script", "first", "last"] (defScope s_law_row) := ⟨rfl, rfl, rfl, by decide +kernel, rfl, by decide +kernel, by decide +kernel⟩
theorem sc_law_draw : FnScope ["box", "many", "at"] ["box", "many"] (defScope s_law_draw) := ⟨rfl, rfl, rfl, by decide +kernel, rfl, by decide +kernel, by decide +kernel⟩
theorem sc_law_words : FnScope ["alphabet", "most", "out", "last", "n", "longer", "word", "letter"] ["alphabet", "most"] (defScope s_law_words) := ⟨rfl, rfl, rfl, by decide +kernel, rfl, by decide +kernel, by decide +kernel⟩
theorem sc_law_word : FnScope ["box", "alphabet", "most", "k"] ["box", "alphabet", "most"] (defScope s_law_word) := ⟨rfl, rfl, rfl, by decide +kernel, rfl, by decide +kernel, by decide +kernel⟩
theorem sc_law_key : FnScope ["alphabet", "word", "letter"] ["alphabet", "word"] (defScope s_law_key) := ⟨rfl, rfl, rfl, by decide +kernel, rfl, by decide +kernel, by decide +kernel⟩
theorem sc_law_good : FnScope ["thing", "k"] ["thing"] (defScope s_law_good) := ⟨rfl, rfl, rfl, by decide +kernel, rfl, by decide +kernel, by decide +kernel⟩
theorem sc_law_is : FnScope ["told", "due"] ["told", "due"] (defScope s_law_is) := ⟨rfl, rfl, rfl, by decide +kernel, rfl, by decide +kernel, by decide +kernel⟩
theorem sc_law : FnScope ["script", "box", "things", "turn", "thing", "alphabet", "words", "one", "two", "k"] ["script"] (defScope s_law) := ⟨rfl, rfl, rfl, by decide +kernel, rfl, by decide +kernel, by decide +kernel⟩
abbrev v_LETTERS : V := .str "abcdefghijklmnopqrstuvwxyz"
abbrev v_MOST_LETTERS : V := .int 5
structure Df (K : PySem.W.Frag) (mg : Str → Option Value) (x : Str) (st : Stmt) (ps : List Str) (f : Addr) (fd : FuncData) : Prop where
  F : Fun K x x st f fd
  g : mg x = some (.ref f)
  b : Binds K fd ps []
/-- what the top has written -/
structure Tx (K : PySem.W.Frag) (mg : Str → Option Value) where
  a_is_alphabet : Addr
  e_is_alphabet : FuncData
  d_is_alphabet : Df K mg "is_alphabet" s_is_alphabet ["thing"] a_is_alphabet e_is_alphabet
  a_is_word : Addr
  e_is_word : FuncData
  d_is_word : Df K mg "is_word" s_is_word ["alphabet", "thing"] a_is_word e_is_word
  a_comes_before : Addr
  e_comes_before : FuncData
  d_comes_before : Df K mg "comes_before" s_comes_before ["alphabet", "one", "two"] a_comes_before e_comes_before
  a_law_cell : Addr
  e_law_cell : FuncData
  d_law_cell : Df K mg "_law_cell" s_law_cell ["script", "k"] a_law_cell e_law_cell
  a_law_row : Addr
  e_law_row : FuncData
  d_law_row : Df K mg "_law_row" s_law_row ["script", "first", "last"] a_law_row e_law_row
  a_law_draw : Addr
  e_law_draw : FuncData
  d_law_draw : Df K mg "_law_draw" s_law_draw ["box", "many"] a_law_draw e_law_draw
  a_law_words : Addr
  e_law_words : FuncData
  d_law_words : Df K mg "_law_words" s_law_words ["alphabet", "most"] a_law_words e_law_words
  a_law_word : Addr
  e_law_word : FuncData
  d_law_word : Df K mg "_law_word" s_law_word ["box", "alphabet", "most"] a_law_word e_law_word
  a_law_key : Addr
  e_law_key : FuncData
  d_law_key : Df K mg "_law_key" s_law_key ["alphabet", "word"] a_law_key e_law_key
  a_law_good : Addr
  e_law_good : FuncData
  d_law_good : Df K mg "_law_good" s_law_good ["thing"] a_law_good e_law_good
  a_law_is : Addr
  e_law_is : FuncData
  d_law_is : Df K mg "_law_is" s_law_is ["told", "due"] a_law_is e_law_is
  a_law : Addr
  e_law : FuncData
  d_law : Df K mg "law" s_law ["script"] a_law e_law
  n_abs : mg "abs" = none
  n_all : mg "all" = none
  n_bool : mg "bool" = none
  n_enumerate : mg "enumerate" = none
  n_int : mg "int" = none
  n_isinstance : mg "isinstance" = none
  n_len : mg "len" = none
  n_range : mg "range" = none
  n_str : mg "str" = none
  n_type : mg "type" = none
  n_zip : mg "zip" = none
  t_LETTERS : Tok
  c_LETTERS : mg "LETTERS" = some (Value.str "abcdefghijklmnopqrstuvwxyz" t_LETTERS)
  t_MOST_LETTERS : Tok
  c_MOST_LETTERS : mg "MOST_LETTERS" = some (Value.int 5 t_MOST_LETTERS)
end Fo
namespace Fo
open PySem PySem.Spec PyProof.Rows L2 TL
section
variable {P : Program} {w : World} {K : PySem.W.Frag} {mg : Str → Option Value} {base : Heap}
/-! ### the law's draws -/
def sp_law_cell (K : PySem.W.Frag) : Sp := fun vs H Q _ => ∃ (a : Addr) (ns : List Int) (k : Int), vs = [.ref a, .int k] ∧ SqL K H a (ns.map V.int) ∧ 0 ≤ k ∧ ∀ z : Int, Q (.int z) H
theorem ok_law_cell (T : Tx K mg) : FnOk P w K mg base CX0 1 T.a_law_cell T.e_law_cell ["script", "k"] (sp_law_cell K) := by
  refine T.d_law_cell.F.ok sc_law_cell (fun vs H Q E h => ?_) (fun cdv A outer s H vs Q E hr h => ?_)
  · obtain ⟨a, ns, k, rfl, _⟩ := h
    rfl
  · obtain ⟨a, ns, k, rfl, hS, h0, q⟩ := h
    refine ⟨_, (pss_cons (ps_if (pt_cmpR op_lt (pv 1) (pe_callB (kLen (K := K) rfl) (by rfl) T.n_len PySem.boot_len (pa_cons (pv 0) pa_nil)) (nomark _))
  (pss_one (ps_ret (pe_ix (kIxL (K := K) rfl) (pv 0) (pv 1) (fun _ _ => rfl))))
  pss_nil)
  (pss_one (ps_ret pe_int))), ?_⟩
    refine ⟨_, rfl, .ref a, rfl, a, _, rfl, .inl hS, _, _, rfl, rfl, _, rfl, ite2 (fun h => ?_) (fun _ => q 0)⟩
    have hk := of_decide_eq_true h
    rw [List.length_map] at hk
    have hn : k.toNat < ns.length := by omega
    refine ⟨.ref a, rfl, .int k, rfl, a, _, k, .int ns[k.toNat], rfl, rfl, hS, ?_, q _⟩
    exact at_int h0 (map_at hn)
def sp_law_row (K : PySem.W.Frag) : Sp := fun vs H Q _ => ∃ (a : Addr) (ns : List Int) (f l : Int), vs = [.ref a, .int f, .int l] ∧ SqL K H a (ns.map V.int) ∧ 0 ≤ f ∧ f ≤ l ∧ l ≤ 100 ∧
  ∀ (r : Addr) (zs : List Int) (H' : Hp), Same H H' → H r = none → H' r = some (.lst (zs.map V.int)) → zs.length ≤ 6000 → Q (.ref r) H'
theorem lim6000 {n : Nat} (h : n ≤ 6060) : n < sizeLine := Nat.lt_of_le_of_lt h (by decide)
theorem ok_law_row (T : Tx K mg) : FnOk P w K mg base CX0 2 T.a_law_row T.e_law_row ["script", "first", "last"] (sp_law_row K) := by
  refine T.d_law_row.F.ok sc_law_row (fun vs H Q E h => ?_) (fun cdv A outer s H vs Q E hr h => ?_)
  · obtain ⟨a, ns, f, l, rfl, _⟩ := h
    rfl
  · obtain ⟨a, ns, f, l, rfl, hS, h0, hfl, hl, q⟩ := h
    refine ⟨_, (pss_cons (ps_set (i := 3) sc_law_row.nd rfl (.inl rfl) (pe_lst pa_nil))
  (pss_cons (ps_for PassesOwn.never rfl (pi_range2 (by rfl) T.n_range (pa_cons (pv 1) (pa_cons (pv 2) pa_nil))) (pg_name (i := 4) sc_law_row.nd rfl (.inl rfl))
  (pss_cons (ps_set (i := 5) sc_law_row.nd rfl (.inl rfl) (pe_call (ok_law_cell T) (hr.mono (by decide)) (by rfl) T.d_law_cell.g T.d_law_cell.F.kp T.d_law_cell.b .nil pass0 (pa_cons (pv 0) (pa_cons (pv 4) pa_nil))))
  (pss_cons (ps_set (i := 5) sc_law_row.nd rfl (.inl rfl) (pe_op op_add (pe_callB call_abs (by rfl) T.n_abs (by decide +kernel) (pa_cons (pe_op op_mul pe_int (pv 5)) pa_nil)) (pe_callTy call_int1 (by rfl) T.n_int (by decide +kernel) (pa_cons (pe_cmpR op_lt (pv 5) pe_int (nomark _)) pa_nil))))
  (pss_one (ps_if (pt_cmpR op_gt (pv 5) (pe_op op_pow pe_int pe_int) (nomark _))
  (pss_one (ps_for PassesOwn.never rfl (pi_range1 (by rfl) T.n_range (pa_cons pe_int pa_nil)) (pg_name (i := 6) sc_law_row.nd rfl (.inl rfl))
  (pss_one (ps_if (pt_cmpR op_gt (pv 5) pe_int (nomark _))
  (pss_cons (ps_expr (kBM (K := K) rfl (pe_bm PySem.F.plainAttrs_list PySem.F.slot_list_append PySem.F.type_list_append mt_append (pv 3) (pa_cons (pe_op op_mod (pe_callTy call_int1 (by rfl) T.n_int (by decide +kernel) (pa_cons (pv 5) pa_nil)) pe_int) pa_nil))))
  (pss_one (ps_set (i := 5) sc_law_row.nd rfl (.inl rfl) (pe_op op_fdiv (pv 5) pe_int))))
  pss_nil))))
  (pss_one (ps_for PassesOwn.never rfl (pi_range1 (by rfl) T.n_range (pa_cons pe_int pa_nil)) (pg_name (i := 6) sc_law_row.nd rfl (.inl rfl))
  (pss_cons (ps_set (i := 5) sc_law_row.nd rfl (.inl rfl) (pe_op op_mod (pe_callTy call_int1 (by rfl) T.n_int (by decide +kernel) (pa_cons (pe_op op_add (pe_op op_add (pe_op op_mul (pv 5) pe_int) (pe_op op_mul pe_int (pe_op op_add (pv 4) (pv 6)))) pe_int) pa_nil)) pe_int))
  (pss_one (ps_expr (kBM (K := K) rfl (pe_bm PySem.F.plainAttrs_list PySem.F.slot_list_append PySem.F.type_list_append mt_append (pv 3) (pa_cons (pe_op op_mod (pe_callTy call_int1 (by rfl) T.n_int (by decide +kernel) (pa_cons (pe_op op_fdiv (pv 5) pe_int) pa_nil)) pe_int) pa_nil)))))))))))))
  (pss_one (ps_ret (pv 3))))), ?_⟩
    -- row = []
    refine ⟨Nat.zero_le _, fun r nr => ?_⟩
    -- for k in range(first, last)
    refine ⟨_, rfl, _, rfl, f, l, rfl, ⟨by omega, by omega, by omega, by omega⟩, for_range (lo := f) (n := (l - f).toNat) (fun i σ H2 => ∃ (zs : List Int) (y4 y5 y6 : Option V),
      σ = [some (.ref a), some (.int f), some (.int l), some (.ref r), y4, y5, y6] ∧ Same H H2 ∧ H2 r = some (.lst (zs.map V.int)) ∧ zs.length ≤ 60 * i) ⟨[], none, none, none, rfl, same_new nr, upd_same, Nat.zero_le _⟩ ?_ ?_⟩
    · rintro i σ H2 hi ⟨zs, y4, y5, y6, rfl, sm, hr2, hz⟩
      have hi100 : i < 100 := by omega
      -- cell = _law_cell(script, k)
      refine ⟨.ref a, rfl, _, rfl, a, ns, _, rfl, sm.seq hS, by omega, fun z => ?_⟩
      -- cell = abs(2 * cell) + int(cell < 0)
      refine ⟨_, rfl, 2, _, rfl, rfl, .inl ⟨by decide, by decide⟩, _, rfl, _, rfl, _, _, rfl, rfl, .inr ⟨_, rfl, _, _, rfl, rfl, ?_⟩⟩
      refine ⟨_, rfl, 10, 18, rfl, rfl, ⟨by decide, by decide, by decide⟩, _, _, rfl, rfl, _, rfl, ite2 (fun _ => ?_) (fun _ => ?_)⟩
      · refine ⟨60, rfl, by decide, by decide, for_range (lo := 0) (n := 60) (fun j σ H3 => ∃ (ws : List Int) (c' : Int) (y6 : Option V),
          σ = [some (.ref a), some (.int f), some (.int l), some (.ref r), some (.int (f + i)), some (.int c'), y6] ∧ Same H H3 ∧ H3 r = some (.lst (ws.map V.int)) ∧ ws.length ≤ 60 * i + j) ⟨zs, _, y6, rfl, sm, hr2, by omega⟩ ?_ ?_⟩
        · rintro j σ H3 hj ⟨ws, c', y6, rfl, sm3, hr3, hw⟩
          refine ⟨_, rfl, _, _, rfl, rfl, _, rfl, ite2 (fun _ => ?_) (fun _ => ?_)⟩
          · refine ⟨.ref r, rfl, .inl ⟨rfl, _, .inl (.inl hr3)⟩, _, rfl, .inl ⟨_, rfl, _, 840, rfl, rfl, (by show (0 : Int) < 840; decide), r, _, _, rfl, rfl, hr3, ?_, ?_⟩⟩
            · rw [List.length_map]
              exact lim6000 (by omega)
            refine ⟨_, rfl, _, _, rfl, rfl, ⟨by decide, by decide⟩, ws ++ [c' % 840], c' / 840, some (.int (0 + j)), rfl, ?_, ?_, ?_⟩
            · intro b o e
              rw [upd_ne (ne_of_none e nr)]
              exact sm3 b o e
            · rw [upd_same, List.map_append]
              rfl
            · rw [List.length_append]
              show ws.length + 1 ≤ _
              omega
          · exact ⟨ws, c', _, rfl, sm3, hr3, by omega⟩
        · rintro σ H3 ⟨ws, c', y6, rfl, sm3, hr3, hw⟩
          exact ⟨ws, _, _, _, rfl, sm3, hr3, by omega⟩
      · refine ⟨10, rfl, by decide, by decide, for_range (lo := 0) (n := 10) (fun j σ H3 => ∃ (ws : List Int) (c' : Int) (y6 : Option V),
          σ = [some (.ref a), some (.int f), some (.int l), some (.ref r), some (.int (f + i)), some (.int c'), y6] ∧ Same H H3 ∧ H3 r = some (.lst (ws.map V.int)) ∧ ws.length ≤ 60 * i + j) ⟨zs, _, y6, rfl, sm, hr2, by omega⟩ ?_ ?_⟩
        · rintro j σ H3 hj ⟨ws, c', y6, rfl, sm3, hr3, hw⟩
          refine ⟨_, rfl, _, 69069, rfl, rfl, .inr ⟨by decide, by decide⟩, _, rfl, _, rfl, _, _, rfl, rfl, 104729, _, rfl, rfl, .inl ⟨by decide, by decide⟩, _, _, rfl, rfl, _, 1, rfl, rfl, .inl ⟨_, rfl, _, 4294967291, rfl, rfl, (by show (0 : Int) < 4294967291; decide), ?_⟩⟩
          refine ⟨.ref r, rfl, .inl ⟨rfl, _, .inl (.inl hr3)⟩, _, rfl, _, 5003, rfl, rfl, ⟨by decide, by decide⟩, .inl ⟨_, rfl, _, 840, rfl, rfl, (by show (0 : Int) < 840; decide), r, _, _, rfl, rfl, hr3, ?_, ?_⟩⟩
          · rw [List.length_map]
            exact lim6000 (by omega)
          refine ⟨ws ++ [(c' * 69069 + 104729 * (f + i + (0 + j)) + 1) % 4294967291 / 5003 % 840], _, some (.int (0 + j)), rfl, ?_, ?_, ?_⟩
          · intro b o e
            rw [upd_ne (ne_of_none e nr)]
            exact sm3 b o e
          · rw [upd_same, List.map_append]
            rfl
          · rw [List.length_append]
            show ws.length + 1 ≤ _
            omega
        · rintro σ H3 ⟨ws, c', y6, rfl, sm3, hr3, hw⟩
          exact ⟨ws, _, _, _, rfl, sm3, hr3, by omega⟩
    · rintro σ H2 ⟨zs, y4, y5, y6, rfl, sm, hr2, hz⟩
      exact ⟨_, rfl, q r zs H2 sm nr hr2 (by omega)⟩
end
end Fo
namespace Fo
open PySem PySem.Spec PyProof.Rows L2 TL
/-- the law's box at b: a row of ints that stands still, and a place in it -/
structure Bx (K : PySem.W.Frag) (b : Addr) (F H : Hp) : Prop where
  sub : Same F H
  nf : F b = none
  at' : ∃ (r : Addr) (ns : List Int) (n : Int), H b = some (.lst [.ref r, .int n]) ∧ SqL K F r (ns.map V.int) ∧ 0 ≤ n
def Keep (b : Addr) (H H' : Hp) : Prop := ∀ p o, p ≠ b → H p = some o → H' p = some o
theorem Keep.refl {b : Addr} {H : Hp} : Keep b H H := fun _ _ _ e => e
theorem Keep.trans {b : Addr} {H H1 H2 : Hp} (h : Keep b H H1) (h' : Keep b H1 H2) : Keep b H H2 := fun p o n e => h' p o n (h p o n e)
theorem Keep.of {b : Addr} {H H' : Hp} (h : Same H H') : Keep b H H' := fun p o _ e => h p o e
theorem Bx.live {K : PySem.W.Frag} {b : Addr} {F H : Hp} (B : Bx K b F H) : ∃ o, H b = some o := by
  obtain ⟨r, ns, n, e, _⟩ := B.at'
  exact ⟨_, e⟩
theorem Bx.same {K : PySem.W.Frag} {b : Addr} {F H H' : Hp} (B : Bx K b F H) (h : Same H H') : Bx K b F H' := by
  obtain ⟨r, ns, n, e, q⟩ := B.at'
  exact ⟨B.sub.trans h, B.nf, r, ns, n, h _ _ e, q⟩
/-- another object that is not frozen changes -/
theorem Bx.off {K : PySem.W.Frag} {b D : Addr} {F H : Hp} {o : HO} (B : Bx K b F H) (hF : F D = none) (hb : b ≠ D) : Bx K b F (upd H D o) := by
  obtain ⟨r, ns, n, e, q⟩ := B.at'
  refine ⟨fun p u h => ?_, B.nf, r, ns, n, by rw [upd_ne hb]; exact e, q⟩
  rw [upd_ne (ne_of_none h hF)]
  exact B.sub p u h
theorem Bx.free {K : PySem.W.Frag} {b D : Addr} {F H : Hp} (B : Bx K b F H) (h : H D = none) : F D = none ∧ b ≠ D := by
  obtain ⟨o, e⟩ := B.live
  exact ⟨B.sub.free h, ne_of_none e h⟩
section
variable {P : Program} {w : World} {K : PySem.W.Frag} {mg : Str → Option Value} {base : Heap}
def sp_law_draw (K : PySem.W.Frag) : Sp := fun vs H Q _ => ∃ (b : Addr) (F : Hp) (m : Int), vs = [.ref b, .int m] ∧ Bx K b F H ∧ 0 < m ∧
  ∀ (z : Int) (H' : Hp), 0 ≤ z → z < m → Bx K b F H' → Keep b H H' → Q (.int z) H'
theorem ok_law_draw (T : Tx K mg) : FnOk P w K mg base CX0 1 T.a_law_draw T.e_law_draw ["box", "many"] (sp_law_draw K) := by
  refine T.d_law_draw.F.ok sc_law_draw (fun vs H Q E h => ?_) (fun cdv A outer s H vs Q E hr h => ?_)
  · obtain ⟨b, F, m, rfl, _⟩ := h
    rfl
  · obtain ⟨b, F, m, rfl, B, hm, q⟩ := h
    obtain ⟨r, ns, n, hb, hr', hn⟩ := B.at'
    refine ⟨_, (pss_cons (ps_set (i := 2) sc_law_draw.nd rfl (.inl rfl) (pe_ix (kIxL (K := K) rfl) (pv 0) pe_int (fun _ _ => rfl)))
  (pss_cons (ps_asg (pe_op op_add (pv 2) pe_int) (pg_sub (pv 0) pe_int set_list))
  (pss_cons (ps_if (pt_cmpR op_lt (pv 2) (pe_callB (kLen (K := K) rfl) (by rfl) T.n_len PySem.boot_len (pa_cons (pe_ix (kIxL (K := K) rfl) (pv 0) pe_int (fun _ _ => rfl)) pa_nil)) (nomark _))
  (pss_one (ps_ret (pe_op op_mod (pe_callTy call_int1 (by rfl) T.n_int (by decide +kernel) (pa_cons (pe_ix (kIxL (K := K) rfl) (pe_ix (kIxL (K := K) rfl) (pv 0) pe_int (fun _ _ => rfl)) (pv 2) (fun _ _ => rfl)) pa_nil)) (pv 1))))
  pss_nil)
  (pss_one (ps_ret (pe_op op_mod (pe_callTy call_int1 (by rfl) T.n_int (by decide +kernel) (pa_cons (pe_op op_add (pe_op op_mul (pv 2) pe_int) pe_int) pa_nil)) (pv 1))))))), ?_⟩
    refine ⟨.ref b, rfl, b, _, 1, _, rfl, rfl, SqL.of hb, at_nat (i := 1) rfl, ?_⟩
    refine ⟨.int n, rfl, _, _, rfl, rfl, .ref b, rfl, b, _, 1, 1, rfl, rfl, hb, rfl, ?_⟩
    generalize e2 : upd H b (.lst ([V.ref r, .int n].set 1 (.int (n + 1)))) = H2
    have B2 : Bx K b F H2 := by
      rw [← e2]
      refine ⟨fun p o e => ?_, B.nf, r, ns, n + 1, upd_same, hr', by omega⟩
      rw [upd_ne (ne_of_none e B.nf)]
      exact B.sub p o e
    have k2 : Keep b H H2 := fun p o hp e => by rw [← e2, upd_ne hp]; exact e
    have h2 : H2 b = some (.lst [.ref r, .int (n + 1)]) := by rw [← e2]; exact upd_same
    have hS := B2.sub.seq hr'
    refine ⟨.int n, rfl, .ref b, rfl, b, _, 0, _, rfl, rfl, SqL.of h2, at_nat (i := 0) rfl, r, _, rfl, .inl hS, _, _, rfl, rfl, _, rfl, ite2 (fun h => ?_) (fun h => ?_)⟩
    · have hk := of_decide_eq_true h
      rw [List.length_map] at hk
      refine ⟨.ref b, rfl, b, _, 0, _, rfl, rfl, SqL.of h2, at_nat (i := 0) rfl, .int n, rfl, r, _, n, _, rfl, rfl, hS, at_int hn (map_at (show n.toNat < ns.length by omega)), .inl ⟨_, rfl, .int m, rfl, _, _, rfl, rfl, hm, ?_⟩⟩
      exact q _ _ (Int.emod_nonneg _ (by omega)) (Int.emod_lt_of_pos _ hm) B2 k2
    · refine ⟨.int n, rfl, _, 5, rfl, rfl, .inr ⟨by decide, by decide⟩, _, 1, rfl, rfl, .inl ⟨_, rfl, .int m, rfl, _, _, rfl, rfl, hm, ?_⟩⟩
      exact q _ _ (Int.emod_nonneg _ (by omega)) (Int.emod_lt_of_pos _ hm) B2 k2

/-! ### a text joined of signs -/
abbrev ones (w : List Nat) : List V := (w.map fun c => S [c]).map V.str
theorem ones_add (w : List Nat) (c : Nat) : ones w ++ [.str (S [c])] = ones (w ++ [c]) := by
  unfold ones
  rw [List.map_append, List.map_append]
  rfl
theorem ones_len (w : List Nat) : (ones w).length = w.length := by unfold ones; rw [List.length_map, List.length_map]
theorem ones_sum (w : List Nat) : ((w.map fun c => S [c]).map (·.length)).sum = w.length := by
  induction w with
  | nil => rfl
  | cons c r ih => rw [List.map_cons, List.map_cons, List.sum_cons, ih, List.length_cons]; show 1 + _ = _; omega
theorem lim5 {n : Nat} (h : n ≤ 100000) : n < sizeLine := Nat.lt_of_le_of_lt h (by decide)
theorem lim5' {n : Nat} (h : n ≤ 100000) : n ≤ sizeLine := Nat.le_of_lt (lim5 h)
theorem join_r {X : Cx} {H : Hp} {D : Addr} {w : List Nat} {Q : VK} (hD : H D = some (.lst (ones w))) (hw : w.length ≤ 100000) (q : Q (.str (S w)) H) :
    ∃ a p, ∃ ys : List Str, V.str (Str.ofString "") = .str a ∧ [V.ref D] = [.ref p] ∧ (SqL X.K H p (ys.map V.str) ∨ SqT X.K H p (ys.map V.str)) ∧ (ys.map (·.length)).sum + ys.length * a.length ≤ 16777216 ∧ Q (.str (Txt.join a ys)) H := by
  refine ⟨_, D, w.map fun c => S [c], rfl, rfl, .inl (SqL.of hD), ?_, ?_⟩
  · rw [ones_sum, show (Str.ofString "").length = 0 by decide +kernel]
    omega
  · rw [join_signs]
    exact q

def sp_law_word (K : PySem.W.Frag) : Sp := fun vs H Q _ => ∃ (b : Addr) (F : Hp) (al : List Nat) (m : Int), vs = [.ref b, .str (S al), .int m] ∧ Bx K b F H ∧ al ≠ [] ∧ al.length ≤ 1000 ∧ 0 ≤ m ∧ m ≤ 1000 ∧
  ∀ (wd : List Nat) (H' : Hp), (∀ c ∈ wd, c ∈ al) → wd.length ≤ m.toNat → Bx K b F H' → Keep b H H' → Q (.str (S wd)) H'
theorem ok_law_word (T : Tx K mg) : FnOk P w K mg base CX0 2 T.a_law_word T.e_law_word ["box", "alphabet", "most"] (sp_law_word K) := by
  refine T.d_law_word.F.ok sc_law_word (fun vs H Q E h => ?_) (fun cdv A outer s H vs Q E hr h => ?_)
  · obtain ⟨b, F, al, m, rfl, _⟩ := h
    rfl
  · obtain ⟨b, F, al, m, rfl, B, hne, hal, h0, h1, q⟩ := h
    refine ⟨_, (pss_one (ps_ret (kBM (K := K) rfl (pe_bm PySem.F.plainAttrs_str PySem.F.slot_str_join PySem.F.type_str_join (kJn (K := K) rfl) pe_str (pa_cons (pe_lc (own := [("k", 3)]) (g := gName 3) (tt := tYes) rfl sc_law_word.nd (pi_range1 (by rfl) T.n_range (pa_cons (pe_call (ok_law_draw T) (hr.mono (by decide)) (by rfl) T.d_law_draw.g T.d_law_draw.F.kp T.d_law_draw.b .nil pass0 (pa_cons (pv 0) (pa_cons (pe_op op_add (pv 2) pe_int) pa_nil))) pa_nil)) (blkOk_by (N := ["box", "alphabet", "most", "k"]) (sc := defScope s_law_word) (by decide +kernel)) (fun _ _ _ _ _ => (pg_name (i := 3) sc_law_word.nd rfl (Or.inl rfl))) (fun _ _ _ _ _ => pts_nil) (fun _ _ _ _ _ => (by exact (pe_ix ix_str (pv 1) (pe_call (ok_law_draw T) (hr.mono (by decide)) (by rfl) T.d_law_draw.g T.d_law_draw.F.kp T.d_law_draw.b .nil pass0 (pa_cons (pv 0) (pa_cons (pe_callB call_len_str (by rfl) T.n_len PySem.boot_len (pa_cons (pv 1) pa_nil)) pa_nil))) (fun _ _ => rfl))))) pa_nil))))), ?_⟩
    have hpos : 0 < al.length := List.length_pos_iff.mpr hne
    refine ⟨rfl, .ref b, rfl, _, rfl, _, _, rfl, rfl, b, F, m + 1, rfl, B, by omega, fun z H1 z0 z1 B1 k1 => ?_⟩
    refine ⟨z, rfl, by omega, by omega, fun D nD => ?_⟩
    obtain ⟨fD, bD⟩ := B1.free nD
    refine lc_range (lo := 0) (n := z.toNat) (fun i H2 => ∃ wd : List Nat, Bx K b F H2 ∧ Keep b H H2 ∧ H2 D = some (.lst (ones wd)) ∧ (∀ c ∈ wd, c ∈ al) ∧ wd.length = i)
      ⟨[], B1.off fD bD, k1.trans (.of (same_new nD)), upd_same, by simp, rfl⟩ ?_ ?_
    · rintro i H2 hi ⟨wd, B2, k2, hD, hc, hl⟩
      refine ⟨rfl, .str (S al), rfl, .ref b, rfl, .str (S al), rfl, S al, rfl, by rw [len_S]; exact lim5' (by omega), b, F, _, rfl, B2, by rw [len_S]; omega, fun y H3 y0 y1 B3 k3 => ?_⟩
      rw [len_S] at y1
      have hy : y.toNat < al.length := by omega
      refine ⟨S al, y, al.getD y.toNat 0, rfl, rfl, by rw [len_S]; exact lim5' (by omega), at_int y0 (getD_at hy), ones wd, ?_, ?_, ?_⟩
      · exact k3 D _ bD.symm hD
      · rw [ones_len]
        exact lim5 (by omega)
      · refine ⟨wd ++ [al.getD y.toNat 0], B3.off fD bD, fun p o hp e => ?_, ?_, ?_, ?_⟩
        · rw [upd_ne (ne_of_none (k1 p o hp e) nD)]
          exact k3 p o hp (k2 p o hp e)
        · rw [upd_same, ← ones_add]
        · intro c hm
          rcases List.mem_append.mp hm with hm | hm
          · exact hc c hm
          · rw [List.mem_singleton.mp hm]
            exact getD_mem hy
        · rw [List.length_append, hl]
          rfl
    · rintro H2 ⟨wd, B2, k2, hD, hc, hl⟩
      exact join_r (X := (cxOf CX0 P w K mg base [] "" (defScope s_law_word) 0 cdv A outer s H E)) hD (by omega) (q wd H2 hc (by omega) B2 k2)
end
end Fo
namespace Fo
open PySem PySem.Spec PyProof.Rows L2 TL
/-! ### what a thing's type is -/
def tyn : PyData → String
  | .none => "NoneType"
  | .bool _ => "bool"
  | .int _ => "int"
  | .str _ => "str"
  | .list _ => "list"
  | .tuple _ => "tuple"
  | .dict _ => "dict"
theorem dp_tyb {K : PySem.W.Frag} {H : Hp} {v : V} {d : PyData} (h : Dp K H v d) : TyB K H v (tyn d) := by
  cases h with
  | non => exact .non
  | bl b => exact .bl b
  | int i => exact .int i
  | str x => exact .str x
  | lst s _ => exact .lst s
  | tup s _ => exact .tup s
theorem dp_tyx {K : PySem.W.Frag} {H : Hp} {v : V} {d : PyData} (h : Dp K H v d) : TyX K H v (.type (tyn d)) := by
  cases h with
  | non => exact .base .non
  | bl b => exact .base (.bl b)
  | int i => exact .base (.int i)
  | str x => exact .base (.str x)
  | lst s _ =>
    rcases s with (s | ⟨o, s⟩) | ⟨o, its, n, hk, hc, _⟩
    · exact .base (.lst s)
    · exact .base (.frz s)
    · exact .kList hk hc
  | tup s _ =>
    rcases s with (s | ⟨o, s⟩) | ⟨o, its, n, hk, hc, _⟩
    · exact .base (.tup s)
    · exact .fTuple s
    · exact .kTuple hk hc
theorem kit_str {K : PySem.W.Frag} {H : Hp} {v : V} {d : PyData} (h : Dp K H v d) : PySem.W.kitOne K (.type (tyn d)) (.type "str") = some (decide (tyn d = "str")) := by
  cases h with
  | non => exact kit_ty (by show kitB "NoneType" "str" = some false; decide +kernel)
  | bl b => exact kit_ty (by show kitB "bool" "str" = some false; decide +kernel)
  | int i => exact kit_ty (by show kitB "int" "str" = some false; decide +kernel)
  | str x => exact kit_ty (by show kitB "str" "str" = some true; decide +kernel)
  | lst _ _ => exact kit_ty (by show kitB "list" "str" = some false; decide +kernel)
  | tup _ _ => exact kit_ty (by show kitB "tuple" "str" = some false; decide +kernel)
theorem kit_bool {K : PySem.W.Frag} : PySem.W.kitOne K (.type "bool") (.type "bool") = some true := kit_ty (by decide +kernel)

/-! ### alphabets -/
abbrev abc : List Nat := tl (Str.ofString "abcdefghijklmnopqrstuvwxyz")
def okAt (l : List Nat) (i : Nat) : Bool := decide (l.getD i 0 ∈ abc) && !decide (l.getD i 0 ∈ l.take i)
def alphaB (l : List Nat) : Bool := decide (1 ≤ l.length) && decide (l.length ≤ 5) && allN l.length (okAt l)
def alphaD : PyData → Bool
  | .str s => alphaB (tl s)
  | _ => false
theorem alphaD_not {d : PyData} (h : tyn d ≠ "str") : alphaD d = false := by
  cases d with
  | str s => exact absurd rfl h
  | _ => rfl
theorem is_str {d : PyData} (h : tyn d = "str") : ∃ s, d = .str s := by
  cases d with
  | str s => exact ⟨s, rfl⟩
  | _ => simp [tyn] at h
theorem getD_tl (s : Str) (i : Nat) : s.cps.getD i 0 = (tl s).getD i 0 := by simp [tl, Array.getD_eq_getD_getElem?, List.getD_eq_getElem?_getD]
def SmallD (d : PyData) : Prop := ∀ s, d = .str s → s.length ≤ 100000
section
variable {P : Program} {w : World} {K : PySem.W.Frag} {mg : Str → Option Value} {base : Heap}
def sp_is_alphabet (K : PySem.W.Frag) : Sp := fun vs H Q _ => ∃ (v : V) (d : PyData), vs = [v] ∧ Dp K H v d ∧ SmallD d ∧ ∀ H', Same H H' → Q (.bl (alphaD d)) H'
theorem ok_is_alphabet (T : Tx K mg) : FnOk P w K mg base CX0 1 T.a_is_alphabet T.e_is_alphabet ["thing"] (sp_is_alphabet K) := by
  refine T.d_is_alphabet.F.ok sc_is_alphabet (fun vs H Q E h => ?_) (fun cdv A outer s H vs Q E hr h => ?_)
  · obtain ⟨v, d, rfl, _⟩ := h
    rfl
  · obtain ⟨v, d, rfl, hd, hz, q⟩ := h
    refine ⟨_, (pss_cons (ps_if (PW.pt (pw_or (pt_cmpR op_isNotTy (pe_callTy (kTyp (K := K) rfl) (by rfl) T.n_type (by decide +kernel) (pa_cons (pv 0) pa_nil)) (pe_bltn (v := .ty "str") (by rfl) T.n_str (by decide +kernel) rfl) (nomark _)) (pw_or1 (pt_not (pt_chain op_le op_le pe_int (pe_callB call_len_str (by rfl) T.n_len PySem.boot_len (pa_cons (pv 0) pa_nil)) (pe_glob (v := v_MOST_LETTERS) rfl T.c_MOST_LETTERS ⟨_, rfl⟩))))))
  (pss_one (ps_ret pe_bl))
  pss_nil)
  (pss_cons (ps_for PassesOwn.never rfl (pi_enumS (by rfl) T.n_enumerate (pa_cons (pv 0) pa_nil)) (kTg (K := K) rfl (pg_tup rfl (pgs_cons (pg_name (i := 1) sc_is_alphabet.nd rfl (.inl rfl)) (pgs_cons (pg_name (i := 2) sc_is_alphabet.nd rfl (.inl rfl)) pgs_nil))))
  (pss_one (ps_if (PW.pt (pw_or (pt_cmpR op_notIn_sign (pv 2) (pe_glob (v := v_LETTERS) rfl T.c_LETTERS ⟨_, rfl⟩) rfl) (pw_or1 (pt_cmpR op_in_sign (pv 2) (pe_slice sl_str (pv 0) po_none (po_some (pv 1))) rfl))))
  (pss_one (ps_ret pe_bl))
  pss_nil)))
  (pss_one (ps_ret pe_bl)))), ?_⟩
    refine ⟨v, rfl, v, _, rfl, dp_tyb hd, _, _, rfl, rfl, _, rfl, ite2 (fun h => ?_) (fun h => ?_)⟩
    · have e : alphaD d = false := alphaD_not fun e => by rw [e] at h; exact absurd h (by decide)
      rw [e] at q
      exact q H (Same.refl H)
    · have e : tyn d = "str" := by
        cases e : decide (tyn d = "str") with
        | true => exact of_decide_eq_true e
        | false => rw [e] at h; exact absurd rfl h
      obtain ⟨z, rfl⟩ := is_str e
      cases hd
      have hl := hz z rfl
      have no : alphaB (tl z) = false → ∀ H', Same H H' → Q (.bl false) H' := fun e => by
        have q := q
        rw [show alphaD (.str z) = false from e] at q
        exact q
      refine ⟨.str z, rfl, z, rfl, lim5' hl, _, _, rfl, rfl, _, rfl, ite2 (fun h1 => ?_) (fun h1 => ?_)⟩
      · refine ⟨_, _, rfl, rfl, _, rfl, ite2 (fun h2 => ?_) (fun h2 => ?_)⟩
        · refine no ?_ H (Same.refl H)
          have h3 : ¬ (tl z).length ≤ 5 := fun h => by
            rw [← len_tl] at h
            rw [decide_eq_true (show (z.length : Int) ≤ 5 by omega)] at h2
            exact absurd h2 (by decide)
          unfold alphaB
          rw [decide_eq_false h3, Bool.and_false, Bool.false_and]
        · have h3 : z.length ≤ 5 := by
            cases e5 : decide ((z.length : Int) ≤ 5) with
            | true => have := of_decide_eq_true e5; omega
            | false => rw [e5] at h2; exact absurd rfl h2
          have h4 : 1 ≤ z.length := by have := of_decide_eq_true h1; omega
          -- the loop
          refine ⟨.str z, rfl, z, rfl, for_pairs (fun i σ H2 => ∃ y1 y2 : Option V, σ = [some (.str z), y1, y2] ∧ Same H H2 ∧ ∀ j, j < i → okAt (tl z) j = true) ⟨none, none, rfl, Same.refl H, fun j h => absurd h (Nat.not_lt_zero j)⟩ ?_ ?_⟩
          · rintro i σ H2 p hi ⟨y1, y2, rfl, sm, ok⟩ np
            refine ⟨p, _, rfl, SqT.of upd_same, rfl, _, _, rfl, _, _, rfl, rfl, ?_⟩
            have bad : okAt (tl z) i = false → ∀ H', Same H H' → Q (.bl false) H' := fun e => by
              refine no ?_
              unfold alphaB
              rw [allN_false (by rw [← size_tl]; exact hi) e, Bool.and_false]
            have sm2 := sm.trans (same_new (o := .tup [V.int (i : Nat), sg z i]) np)
            refine ⟨_, rfl, _, _, rfl, rfl, _, rfl, ite2 (fun h5 => ?_) (fun h5 => ?_)⟩
            · refine bad ?_ _ sm2
              unfold okAt
              rw [← getD_tl]
              cases e5 : decide (z.cps.getD i 0 ∈ abc) with
              | true => rw [show decide (z.cps.getD i 0 ∈ (Str.ofString "abcdefghijklmnopqrstuvwxyz").cps.toList) = true from e5] at h5; exact absurd h5 (by decide)
              | false => rfl
            · refine ⟨_, rfl, .str z, rfl, .int (i : Nat), rfl, (i : Int), rfl, z, rfl, lim5' hl, _, _, rfl, rfl, _, rfl, ite2 (fun h6 => ?_) (fun h6 => ?_)⟩
              · refine bad ?_ _ sm2
                rw [cut_to] at h6
                unfold okAt
                rw [← getD_tl, h6, Bool.not_true, Bool.and_false]
              · refine ⟨_, _, rfl, sm2, fun j hj => ?_⟩
                rcases Nat.lt_succ_iff_lt_or_eq.mp hj with hj | rfl
                · exact ok j hj
                · rw [cut_to] at h6
                  unfold okAt
                  rw [← getD_tl]
                  cases e5 : decide (z.cps.getD j 0 ∈ abc) with
                  | false => rw [show decide (z.cps.getD j 0 ∈ (Str.ofString "abcdefghijklmnopqrstuvwxyz").cps.toList) = false from e5] at h5; exact absurd rfl h5
                  | true =>
                    cases e6 : decide (z.cps.getD j 0 ∈ (tl z).take j) with
                    | true => exact absurd e6 h6
                    | false => rfl
          · rintro σ H2 ⟨y1, y2, rfl, sm, ok⟩
            have e : alphaB (tl z) = true := by
              unfold alphaB
              rw [← len_tl, decide_eq_true h3, decide_eq_true h4, allN_true (n := z.length) fun i hi => ok i hi]
              rfl
            have q := q
            rw [show alphaD (.str z) = true from e] at q
            exact q H2 sm
      · refine ⟨_, rfl, ?_⟩
        have e : alphaB (tl z) = false := by
          unfold alphaB
          have : ¬ 1 ≤ (tl z).length := fun h => h1 (decide_eq_true (by rw [← len_tl] at h; omega))
          rw [decide_eq_false this, Bool.false_and, Bool.false_and]
        exact no e H (Same.refl H)
end
end Fo
namespace Fo
open PySem PySem.Spec PyProof.Rows L2 TL
theorem bnot_of {c : Bool} (h : ¬ (!c) = true) : c = true := by
  cases c with
  | true => rfl
  | false => exact absurd rfl h
theorem bnot_if {c : Bool} (h : (!c) = true) : c = false := by
  cases c with
  | true => exact absurd h Bool.false_ne_true
  | false => rfl
theorem b_of {c : Bool} (h : ¬ c = true) : c = false := by
  cases c with
  | true => exact absurd rfl h
  | false => rfl
section
variable {P : Program} {w : World} {K : PySem.W.Frag} {mg : Str → Option Value} {base : Heap}
def sp_law_good (K : PySem.W.Frag) : Sp := fun vs H Q _ => ∃ (v : V) (d : PyData), vs = [v] ∧ Dp K H v d ∧ SmallD d ∧ Q (.bl (alphaD d)) H
theorem ok_law_good (T : Tx K mg) : FnOk P w K mg base CX0 1 T.a_law_good T.e_law_good ["thing"] (sp_law_good K) := by
  refine T.d_law_good.F.ok sc_law_good (fun vs H Q E h => ?_) (fun cdv A outer s H vs Q E hr h => ?_)
  · obtain ⟨v, d, rfl, _⟩ := h
    rfl
  · obtain ⟨v, d, rfl, hd, hz, q⟩ := h
    refine ⟨_, (pss_cons (ps_if (PW.pt (pw_or (pt_not (pt_val (pe_callB call_isi (by rfl) T.n_isinstance (by decide +kernel) (pa_cons (pv 0) (pa_cons (pe_bltn (v := .ty "str") (by rfl) T.n_str (by decide +kernel) rfl) pa_nil))))) (pw_or (pt_cmpR op_lt (pe_callB call_len_str (by rfl) T.n_len PySem.boot_len (pa_cons (pv 0) pa_nil)) pe_int (nomark _)) (pw_or1 (pt_cmpR op_gt (pe_callB call_len_str (by rfl) T.n_len PySem.boot_len (pa_cons (pv 0) pa_nil)) pe_int (nomark _))))))
  (pss_one (ps_ret pe_bl))
  pss_nil)
  (pss_cons (ps_for PassesOwn.never rfl (pi_range1 (by rfl) T.n_range (pa_cons (pe_callB call_len_str (by rfl) T.n_len PySem.boot_len (pa_cons (pv 0) pa_nil)) pa_nil)) (pg_name (i := 1) sc_law_good.nd rfl (.inl rfl))
  (pss_one (ps_if (PW.pt (pw_or (pt_cmpR op_notIn_sign (pe_ix ix_str (pv 0) (pv 1) (fun _ _ => rfl)) pe_str rfl) (pw_or1 (pt_cmpR op_in_sign (pe_ix ix_str (pv 0) (pv 1) (fun _ _ => rfl)) (pe_slice sl_str (pv 0) po_none (po_some (pv 1))) rfl))))
  (pss_one (ps_ret pe_bl))
  pss_nil)))
  (pss_one (ps_ret pe_bl)))), ?_⟩
    refine ⟨v, rfl, v, .ty "str", _, _, _, rfl, .ty "str", dp_tyx hd, kit_str hd, _, rfl, ite2 (fun h => ?_) (fun h => ?_)⟩
    · have e : alphaD d = false := alphaD_not fun e => by rw [decide_eq_true e] at h; exact absurd h (by decide)
      rw [e] at q
      exact q
    · have e : tyn d = "str" := of_decide_eq_true (bnot_of h)
      obtain ⟨z, rfl⟩ := is_str e
      cases hd
      have hl := hz z rfl
      have q : Q (.bl (alphaB (tl z))) H := q
      have hsz : z.length = (tl z).length := len_tl z
      refine ⟨.str z, rfl, z, rfl, lim5' hl, _, _, rfl, rfl, _, rfl, ite2 (fun h1 => ?_) (fun h1 => ?_)⟩
      · have h2 := of_decide_eq_true h1
        have e : alphaB (tl z) = false := by
          unfold alphaB
          rw [decide_eq_false (show ¬ 1 ≤ (tl z).length by omega), Bool.false_and, Bool.false_and]
        rw [e] at q
        exact q
      · have h2 : 1 ≤ z.length := by
          have := of_decide_eq_false (b_of h1)
          omega
        refine ⟨.str z, rfl, z, rfl, lim5' hl, _, _, rfl, rfl, _, rfl, ite2 (fun h3 => ?_) (fun h3 => ?_)⟩
        · have h4 := of_decide_eq_true h3
          have e : alphaB (tl z) = false := by
            unfold alphaB
            rw [decide_eq_false (show ¬ (tl z).length ≤ 5 by omega), Bool.and_false, Bool.false_and]
          rw [e] at q
          exact q
        · have h4 : z.length ≤ 5 := by
            have := of_decide_eq_false (b_of h3)
            omega
          have bad : ∀ i, i < z.length → okAt (tl z) i = false → Q (.bl false) H := fun i hi e => by
            rw [show alphaB (tl z) = false by
              unfold alphaB
              rw [allN_false (by rw [← len_tl]; exact hi) e, Bool.and_false]] at q
            exact q
          refine ⟨.str z, rfl, z, rfl, lim5' hl, (z.length : Int), rfl, by omega, by omega, for_range (lo := 0) (n := (z.length : Int).toNat) (fun i σ H2 => ∃ y1 : Option V, σ = [some (.str z), y1] ∧ H2 = H ∧ ∀ j, j < i → okAt (tl z) j = true)
            ⟨none, rfl, rfl, fun j h => absurd h (Nat.not_lt_zero j)⟩ ?_ ?_⟩
          · rintro i σ H2 hi ⟨y1, rfl, rfl, ok⟩
            have hi : i < z.length := by omega
            have e0 : (0 : Int) + (i : Int) = (i : Int) := Int.zero_add _
            rw [e0]
            have ha : atI z.cps.toList (i : Int) = some ((tl z).getD i 0) := at_nat (getD_at (by rw [← len_tl]; exact hi))
            refine ⟨.str z, rfl, .int i, rfl, z, i, _, rfl, rfl, lim5' hl, ha, _, _, rfl, rfl, _, rfl, ite2 (fun h5 => ?_) (fun h5 => ?_)⟩
            · refine bad i hi ?_
              unfold okAt
              have h6 : decide ((tl z).getD i 0 ∈ abc) = false := bnot_if h5
              rw [h6, Bool.false_and]
            · refine ⟨.str z, rfl, .int i, rfl, z, i, _, rfl, rfl, lim5' hl, ha, .str z, rfl, .int i, rfl, (i : Int), rfl, z, rfl, lim5' hl, _, _, rfl, rfl, _, rfl, ite2 (fun h6 => ?_) (fun h6 => ?_)⟩
              · refine bad i hi ?_
                rw [cut_to] at h6
                unfold okAt
                rw [h6, Bool.not_true, Bool.and_false]
              · refine ⟨_, rfl, rfl, fun j hj => ?_⟩
                rcases Nat.lt_succ_iff_lt_or_eq.mp hj with hj | rfl
                · exact ok j hj
                · rw [cut_to] at h6
                  unfold okAt
                  have h7 : decide ((tl z).getD j 0 ∈ abc) = true := bnot_of h5
                  rw [h7, b_of h6]
                  rfl
          · rintro σ H2 ⟨y1, rfl, rfl, ok⟩
            have e : alphaB (tl z) = true := by
              unfold alphaB
              rw [← len_tl, decide_eq_true h4, decide_eq_true h2, allN_true (n := z.length) fun i hi => ok i (by omega)]
              rfl
            rw [e] at q
            exact q
def sp_law_is (K : PySem.W.Frag) : Sp := fun vs H Q _ => ∃ a b : Bool, vs = [.bl a, .bl b] ∧ Q (.bl (decide (a = b))) H
theorem bl_eq (a b : Bool) : decide (V.bl a = V.bl b) = decide (a = b) := by cases a <;> cases b <;> rfl
theorem ok_law_is (T : Tx K mg) : FnOk P w K mg base CX0 1 T.a_law_is T.e_law_is ["told", "due"] (sp_law_is K) := by
  refine T.d_law_is.F.ok sc_law_is (fun vs H Q E h => ?_) (fun cdv A outer s H vs Q E hr h => ?_)
  · obtain ⟨a, b, rfl, _⟩ := h
    rfl
  · obtain ⟨a, b, rfl, q⟩ := h
    refine ⟨_, (pss_one (ps_ret (pe_and (pe_callB call_isi (by rfl) T.n_isinstance (by decide +kernel) (pa_cons (pv 0) (pa_cons (pe_bltn (v := .ty "bool") (by rfl) T.n_bool (by decide +kernel) rfl) pa_nil))) (pe_one (pe_cmpR op_eq (pv 0) (pv 1) (nomark _)))))), ?_⟩
    refine ⟨.bl a, rfl, .bl a, .ty "bool", _, _, true, rfl, .ty "bool", .base (.bl a), kit_bool, true, rfl, ?_⟩
    refine iteT ⟨.bl a, rfl, .bl b, rfl, rfl, ?_⟩
    rw [bl_eq]
    exact q
end
end Fo
namespace Fo
open PySem PySem.Spec PyProof.Rows L2 TL
/-! ### words -/
def wordB (al l : List Nat) : Bool := allN l.length fun i => decide (l.getD i 0 ∈ al)
def wordD (al : List Nat) : PyData → Bool
  | .str s => wordB al (tl s)
  | _ => false
theorem wordB_true {al l : List Nat} (h : ∀ c ∈ l, c ∈ al) : wordB al l = true := allN_true fun i hi => decide_eq_true (h _ (getD_mem hi))
theorem wordB_false {al l : List Nat} {c : Nat} (h : c ∈ l) (h' : c ∉ al) : wordB al l = false := by
  obtain ⟨i, hi, e⟩ := List.mem_iff_getElem.mp h
  refine allN_false hi (decide_eq_false ?_)
  rw [List.getD_eq_getElem?_getD, List.getElem?_eq_getElem hi]
  exact e ▸ h'
theorem wordD_not {al : List Nat} {d : PyData} (h : tyn d ≠ "str") : wordD al d = false := by
  cases d with
  | str s => exact absurd rfl h
  | _ => rfl
/-! ### the order of words -/
def lt1 (al : List Nat) : List Nat → List Nat → Bool
  | x :: xs, y :: ys => if x = y then lt1 al xs ys else decide (al.idxOf x < al.idxOf y)
  | _, _ => false
def cbL (al u v : List Nat) : Bool := if u.length = v.length then lt1 al u v else decide (u.length < v.length)
theorem lt1_self (al : List Nat) : ∀ u : List Nat, lt1 al u u = false
  | [] => rfl
  | x :: xs => by
    show (if x = x then lt1 al xs xs else _) = false
    rw [if_pos rfl, lt1_self al xs]
theorem lt1_at {al : List Nat} : ∀ {u v : List Nat} {i : Nat}, i < u.length → i < v.length → (∀ j, j < i → u.getD j 0 = v.getD j 0) → u.getD i 0 ≠ v.getD i 0 →
    lt1 al u v = decide (al.idxOf (u.getD i 0) < al.idxOf (v.getD i 0))
  | [], _, _, h, _, _, _ => absurd h (Nat.not_lt_zero _)
  | _ :: _, [], _, _, h, _, _ => absurd h (Nat.not_lt_zero _)
  | x :: xs, y :: ys, 0, _, _, _, hn => by
    show (if x = y then lt1 al xs ys else decide (al.idxOf x < al.idxOf y)) = _
    rw [if_neg (show ¬ x = y from hn)]
    rfl
  | x :: xs, y :: ys, i + 1, h1, h2, he, hn => by
    show (if x = y then lt1 al xs ys else decide (al.idxOf x < al.idxOf y)) = _
    rw [if_pos (show x = y from he 0 (Nat.succ_pos _))]
    exact lt1_at (Nat.lt_of_succ_lt_succ h1) (Nat.lt_of_succ_lt_succ h2) (fun j hj => he (j + 1) (Nat.succ_lt_succ hj)) hn
theorem idx_inj {al : List Nat} {x y : Nat} (hx : x ∈ al) (e : al.idxOf x = al.idxOf y) (hy : y ∈ al) : x = y := by
  have h1 := List.getElem_idxOf (List.idxOf_lt_length_of_mem hx)
  have h2 := List.getElem_idxOf (List.idxOf_lt_length_of_mem hy)
  rw [← h1, ← h2]
  congr 1
def ixD (al : List Nat) (u : List Nat) : List PyData := (u.map fun c => ((al.idxOf c : Nat) : Int)).map PyData.int
def keyD (al u : List Nat) : PyData := .tuple [.int (u.length : Int), .list (ixD al u)]
theorem row_lt1 {al : List Nat} : ∀ {u v : List Nat}, u.length = v.length → (∀ c ∈ u, c ∈ al) → (∀ c ∈ v, c ∈ al) →
    PyProof.Rows.lexLt itemOrd (PySem.W.keyToksAll (ixD al u)) (PySem.W.keyToksAll (ixD al v)) = lt1 al u v
  | [], [], _, _, _ => by
    show PyProof.Rows.lexLt itemOrd (PySem.W.keyToksAll []) (PySem.W.keyToksAll []) = false
    decide +kernel
  | [], _ :: _, h, _, _ => by cases h
  | _ :: _, [], h, _, _ => by cases h
  | x :: xs, y :: ys, h, hu, hv => by
    have ih := row_lt1 (al := al) (u := xs) (v := ys) (Nat.succ.inj h) (fun c hc => hu c (List.mem_cons_of_mem _ hc)) (fun c hc => hv c (List.mem_cons_of_mem _ hc))
    show PyProof.Rows.lexLt itemOrd (PySem.W.keyToksAll (.int (al.idxOf x : Nat) :: ixD al xs)) (PySem.W.keyToksAll (.int (al.idxOf y : Nat) :: ixD al ys)) = (if x = y then lt1 al xs ys else decide (al.idxOf x < al.idxOf y))
    rw [PySem.W.dataLt_cons (by rfl), ih, PySem.W.dataLt_int]
    have hx := hu x List.mem_cons_self
    have hy := hv y List.mem_cons_self
    by_cases e : x = y
    · subst e
      rw [if_pos rfl, if_pos (by show ((al.idxOf x : Nat) : Int) == ((al.idxOf x : Nat) : Int); simp)]
    · have ne : ¬ al.idxOf x = al.idxOf y := fun z => e (idx_inj hx z hy)
      rw [if_neg e, if_neg (by show ¬ (((al.idxOf x : Nat) : Int) == ((al.idxOf y : Nat) : Int)) = true; simp; omega)]
      simp
theorem key_lt {al u v : List Nat} (hu : ∀ c ∈ u, c ∈ al) (hv : ∀ c ∈ v, c ∈ al) : PySem.W.dataLt (keyD al u) (keyD al v) = cbL al u v := by
  unfold keyD cbL
  rw [PySem.W.dataLt_tuple, PySem.W.dataLt_cons (by rfl), PySem.W.dataLt_int]
  by_cases e : u.length = v.length
  · rw [if_pos e, if_pos (by show (((u.length : Nat) : Int) == ((v.length : Nat) : Int)) = true; simp [e])]
    have al1 : PySem.W.alike (.list (ixD al u)) (.list (ixD al v)) = true := by
      rw [PySem.W.alike]
      have : ∀ a b : List Int, PySem.W.alikeAll (a.map PyData.int) (b.map PyData.int) = true := by
        intro a
        induction a with
        | nil => intro b; rw [List.map_nil, PySem.W.alikeAll]
        | cons x r ih =>
          intro b
          cases b with
          | nil => rw [List.map_nil, List.map_cons, PySem.W.alikeAll]
          | cons y t => rw [List.map_cons, List.map_cons, PySem.W.alikeAll, ih t, PySem.W.alike]; rfl
      exact this _ _
    rw [PySem.W.dataLt_cons al1, PySem.W.dataLt_list, row_lt1 e hu hv]
    by_cases q : PyData.eqv (.list (ixD al u)) (.list (ixD al v)) = true
    · rw [if_pos q]
      have : u = v := by
        have key : ∀ a b : List Nat, (∀ c ∈ a, c ∈ al) → (∀ c ∈ b, c ∈ al) → PyData.eqvAll (ixD al a) (ixD al b) = true → a = b := by
          intro a
          induction a with
          | nil =>
            intro b _ _ h
            cases b with
            | nil => rfl
            | cons y t => rw [show PyData.eqvAll (ixD al []) (ixD al (y :: t)) = false by unfold ixD; rw [List.map_nil, List.map_nil, List.map_cons, List.map_cons, PyData.eqvAll]] at h; cases h
          | cons x r ih =>
            intro b ha hb h
            cases b with
            | nil => rw [show PyData.eqvAll (ixD al (x :: r)) (ixD al []) = false by unfold ixD; rw [List.map_nil, List.map_nil, List.map_cons, List.map_cons, PyData.eqvAll]] at h; cases h
            | cons y t =>
              have h2 : (PyData.eqv (.int (al.idxOf x : Nat)) (.int (al.idxOf y : Nat)) && PyData.eqvAll (ixD al r) (ixD al t)) = true := by
                unfold ixD at h ⊢
                rw [List.map_cons, List.map_cons, List.map_cons, List.map_cons, PyData.eqvAll] at h
                exact h
              rw [Bool.and_eq_true] at h2
              have e1 : al.idxOf x = al.idxOf y := by
                have := h2.1
                rw [PyData.eqv] at this
                have := eq_of_beq this
                omega
              rw [idx_inj (ha x List.mem_cons_self) e1 (hb y List.mem_cons_self), ih t (fun c hc => ha c (List.mem_cons_of_mem _ hc)) (fun c hc => hb c (List.mem_cons_of_mem _ hc)) h2.2]
        rw [PyData.eqv] at q
        exact key u v hu hv q
      subst this
      rw [lt1_self]
      decide +kernel
    · rw [if_neg q]
  · rw [if_neg e, if_neg (by show ¬ (((u.length : Nat) : Int) == ((v.length : Nat) : Int)) = true; simp; omega)]
    simp
theorem sg_ne (u v : List Nat) (i : Nat) : decide (sg (S u) i = sg (S v) i) = decide (u.getD i 0 = v.getD i 0) := by
  rw [sg_S, sg_S]
  by_cases e : u.getD i 0 = v.getD i 0
  · rw [e, decide_eq_true rfl, decide_eq_true rfl]
  · rw [decide_eq_false e]
    refine decide_eq_false fun z => e ?_
    have h1 := congrArg tl (V.str.inj z)
    rw [tlS, tlS] at h1
    exact List.head_eq_of_cons_eq h1
section
variable {P : Program} {w : World} {K : PySem.W.Frag} {mg : Str → Option Value} {base : Heap}
def sp_comes_before (K : PySem.W.Frag) : Sp := fun vs H Q _ => ∃ al u v : List Nat, vs = [.str (S al), .str (S u), .str (S v)] ∧ (∀ c ∈ u, c ∈ al) ∧ (∀ c ∈ v, c ∈ al) ∧ u.length ≤ 100000 ∧ v.length ≤ 100000 ∧
  ∀ H', Same H H' → Q (.bl (cbL al u v)) H'
theorem ok_comes_before (T : Tx K mg) : FnOk P w K mg base CX0 1 T.a_comes_before T.e_comes_before ["alphabet", "one", "two"] (sp_comes_before K) := by
  refine T.d_comes_before.F.ok sc_comes_before (fun vs H Q E h => ?_) (fun cdv A outer s H vs Q E hr h => ?_)
  · obtain ⟨al, u, v, rfl, _⟩ := h
    rfl
  · obtain ⟨al, u, v, rfl, hu, hv, lu, lv, q⟩ := h
    refine ⟨_, (pss_cons (ps_if (pt_cmpR op_ne (pe_callB call_len_str (by rfl) T.n_len PySem.boot_len (pa_cons (pv 1) pa_nil)) (pe_callB call_len_str (by rfl) T.n_len PySem.boot_len (pa_cons (pv 2) pa_nil)) (nomark _))
  (pss_one (ps_ret (pe_cmpR op_lt (pe_callB call_len_str (by rfl) T.n_len PySem.boot_len (pa_cons (pv 1) pa_nil)) (pe_callB call_len_str (by rfl) T.n_len PySem.boot_len (pa_cons (pv 2) pa_nil)) (nomark _))))
  pss_nil)
  (pss_cons (ps_for PassesOwn.never rfl (pi_zipS (by rfl) T.n_zip (pa_cons (pv 1) (pa_cons (pv 2) pa_nil))) (kTg (K := K) rfl (pg_tup rfl (pgs_cons (pg_name (i := 3) sc_comes_before.nd rfl (.inl rfl)) (pgs_cons (pg_name (i := 4) sc_comes_before.nd rfl (.inl rfl)) pgs_nil))))
  (pss_one (ps_if (pt_cmpR op_ne (pv 3) (pv 4) (nomark _))
  (pss_one (ps_ret (pe_cmpR op_lt (kBM (K := K) rfl (pe_bm PySem.F.plainAttrs_str PySem.F.slot_str_index PySem.F.type_str_index mt_sindex (pv 0) (pa_cons (pv 3) pa_nil))) (kBM (K := K) rfl (pe_bm PySem.F.plainAttrs_str PySem.F.slot_str_index PySem.F.type_str_index mt_sindex (pv 0) (pa_cons (pv 4) pa_nil))) (nomark _))))
  pss_nil)))
  (pss_one (ps_ret pe_bl)))), ?_⟩
    have zu : (S u).length ≤ sizeLine := by rw [len_S]; exact lim5' lu
    have zv : (S v).length ≤ sizeLine := by rw [len_S]; exact lim5' lv
    refine ⟨.str (S u), rfl, S u, rfl, zu, .str (S v), rfl, S v, rfl, zv, rfl, _, rfl, ite2 (fun h => ?_) (fun h => ?_)⟩
    · refine ⟨.str (S u), rfl, S u, rfl, zu, .str (S v), rfl, S v, rfl, zv, _, _, rfl, rfl, ?_⟩
      rw [len_S, len_S] at h
      rw [len_S, len_S]
      have ne : ¬ u.length = v.length := fun e => by rw [e, decide_eq_true rfl] at h; exact absurd h (by decide)
      have e : decide ((u.length : Int) < (v.length : Int)) = cbL al u v := by
        unfold cbL
        rw [if_neg ne]
        simp
      rw [← e] at q
      exact q H (Same.refl H)
    · rw [len_S, len_S] at h
      have e : u.length = v.length := by
        have := V.int.inj (of_decide_eq_true (bnot_of h))
        omega
      have ec : cbL al u v = lt1 al u v := by unfold cbL; rw [if_pos e]
      rw [ec] at q
      refine ⟨.str (S u), rfl, .str (S v), rfl, S u, S v, rfl, for_pairs (fun i σ H2 => ∃ y1 y2 : Option V, σ = [some (.str (S al)), some (.str (S u)), some (.str (S v)), y1, y2] ∧ Same H H2 ∧ ∀ j, j < i → u.getD j 0 = v.getD j 0)
        ⟨none, none, rfl, Same.refl H, fun j h => absurd h (Nat.not_lt_zero j)⟩ ?_ ?_⟩
      · rintro i σ H2 p hi ⟨y1, y2, rfl, sm, eq⟩ np
        have hi1 : i < u.length ∧ i < v.length := by
          have h1 : (S u).cps.size = u.length := len_S u
          have h2 : (S v).cps.size = v.length := len_S v
          rw [h1, h2] at hi
          omega
        have sm2 := sm.trans (same_new (o := .tup [sg (S u) i, sg (S v) i]) np)
        refine ⟨p, _, rfl, SqT.of upd_same, rfl, _, _, rfl, _, _, rfl, rfl, _, rfl, _, rfl, rfl, _, rfl, ite2 (fun h1 => ?_) (fun h1 => ?_)⟩
        · rw [sg_ne] at h1
          have ne := of_decide_eq_false (bnot_if h1)
          obtain ⟨r1, o1⟩ := occ_ix (S al) (u.getD i 0) (hu _ (getD_mem hi1.1))
          obtain ⟨r2, o2⟩ := occ_ix (S al) (v.getD i 0) (hv _ (getD_mem hi1.2))
          refine ⟨.str (S al), rfl, rfl, _, rfl, S al, S [u.getD i 0], _, _, rfl, by rw [sg_S], o1, .str (S al), rfl, rfl, _, rfl, S al, S [v.getD i 0], _, _, rfl, by rw [sg_S], o2, _, _, rfl, rfl, ?_⟩
          have el : decide ((((tl (S al)).idxOf (u.getD i 0) : Nat) : Int) < (((tl (S al)).idxOf (v.getD i 0) : Nat) : Int)) = lt1 al u v := by
            rw [lt1_at hi1.1 hi1.2 eq ne, tlS]
            simp
          rw [← el] at q
          exact q _ sm2
        · rw [sg_ne] at h1
          have e1 := of_decide_eq_true (bnot_of h1)
          refine ⟨_, _, rfl, sm2, fun j hj => ?_⟩
          rcases Nat.lt_succ_iff_lt_or_eq.mp hj with hj | rfl
          · exact eq j hj
          · exact e1
      · rintro σ H2 ⟨y1, y2, rfl, sm, eq⟩
        have h1 : (S u).cps.size = u.length := len_S u
        have h2 : (S v).cps.size = v.length := len_S v
        have euv : u = v := by
          refine List.ext_getElem e fun j hj hj' => ?_
          have := eq j (by rw [h1, h2]; omega)
          rw [List.getD_eq_getElem?_getD, List.getD_eq_getElem?_getD, List.getElem?_eq_getElem hj, List.getElem?_eq_getElem hj'] at this
          exact this
        rw [euv, lt1_self] at q
        exact q H2 sm
def sp_law_key (K : PySem.W.Frag) : Sp := fun vs H Q _ => ∃ al u : List Nat, vs = [.str (S al), .str (S u)] ∧ (∀ c ∈ u, c ∈ al) ∧ u.length ≤ 100000 ∧ ∀ p H', Same H H' → Dp K H' (.ref p) (keyD al u) → Q (.ref p) H'
theorem ok_law_key (T : Tx K mg) : FnOk P w K mg base CX0 1 T.a_law_key T.e_law_key ["alphabet", "word"] (sp_law_key K) := by
  refine T.d_law_key.F.ok sc_law_key (fun vs H Q E h => ?_) (fun cdv A outer s H vs Q E hr h => ?_)
  · obtain ⟨al, u, rfl, _⟩ := h
    rfl
  · obtain ⟨al, u, rfl, hu, lu, q⟩ := h
    refine ⟨_, (pss_one (ps_ret (pe_tup (pa_cons (pe_callB call_len_str (by rfl) T.n_len PySem.boot_len (pa_cons (pv 1) pa_nil)) (pa_cons (pe_lc (own := [("letter", 2)]) (g := gName 2) (tt := tYes) rfl sc_law_key.nd (pi_str (pv 1)) (blkOk_by (N := ["alphabet", "word", "letter"]) (sc := defScope s_law_key) (by decide +kernel)) (fun _ _ _ _ _ => (pg_name (i := 2) sc_law_key.nd rfl (Or.inl rfl))) (fun _ _ _ _ _ => pts_nil) (fun _ _ _ _ _ => (by exact (kBM (K := K) rfl (pe_bm PySem.F.plainAttrs_str PySem.F.slot_str_index PySem.F.type_str_index mt_sindex (pv 0) (pa_cons (pv 2) pa_nil)))))) pa_nil))))), ?_⟩
    have zu : (S u).length ≤ sizeLine := by rw [len_S]; exact lim5' lu
    have h1 : (S u).cps.size = u.length := len_S u
    refine ⟨.str (S u), rfl, S u, rfl, zu, .str (S u), rfl, S u, rfl, fun D nD => ?_⟩
    refine lc_str (fun i H2 => Same H H2 ∧ H2 D = some (.lst (((u.take i).map fun c => ((al.idxOf c : Nat) : Int)).map V.int))) ⟨same_new nD, upd_same⟩ ?_ ?_
    · rintro i H2 hi ⟨sm, hD⟩
      rw [h1] at hi
      obtain ⟨r1, o1⟩ := occ_ix (S al) (u.getD i 0) (hu _ (getD_mem hi))
      refine ⟨rfl, .str (S al), rfl, rfl, _, rfl, S al, S [u.getD i 0], _, _, rfl, by rw [sg_S], o1, _, hD, ?_, ?_, ?_⟩
      · rw [List.length_map, List.length_map]
        exact lim5 (Nat.le_trans (List.length_take_le' ..) lu)
      · exact fun b o e => by rw [upd_ne (ne_of_none e nD)]; exact sm b o e
      · rw [upd_same, List.take_add_one, getD_at hi, List.map_append, List.map_append]
        rfl
    · rintro H2 ⟨sm, hD⟩
      rw [h1, List.take_length] at hD
      refine ⟨by show 2 ≤ sizeLine; decide, fun p np => ?_⟩
      refine q p _ (sm.trans (same_new np)) ?_
      have hD2 := same_new (o := .tup [V.int ((S u).length : Nat), .ref D]) np D _ hD
      rw [len_S] at hD2 ⊢
      exact .tup (SqT.of upd_same) (.cons (.int _) (.cons (.lst (SqL.of hD2) (dps_ints _)) .nil))
def sp_is_word (K : PySem.W.Frag) : Sp := fun vs H Q _ => ∃ (al : List Nat) (v : V) (d : PyData), vs = [.str (S al), v] ∧ al.length ≤ 100000 ∧ Dp K H v d ∧ SmallD d ∧ ∀ H', Same H H' → Q (.bl (alphaB al && wordD al d)) H'
theorem ok_is_word (T : Tx K mg) : FnOk P w K mg base CX0 2 T.a_is_word T.e_is_word ["alphabet", "thing"] (sp_is_word K) := by
  refine T.d_is_word.F.ok sc_is_word (fun vs H Q E h => ?_) (fun cdv A outer s H vs Q E hr h => ?_)
  · obtain ⟨al, v, d, rfl, _⟩ := h
    rfl
  · obtain ⟨al, v, d, rfl, la, hd, hz, q⟩ := h
    refine ⟨_, (pss_cons (ps_if (PW.pt (pw_or (pt_not (pt_val (pe_call (ok_is_alphabet T) (hr.mono (by decide)) (by rfl) T.d_is_alphabet.g T.d_is_alphabet.F.kp T.d_is_alphabet.b .nil pass0 (pa_cons (pv 0) pa_nil)))) (pw_or1 (pt_cmpR op_isNotTy (pe_callTy (kTyp (K := K) rfl) (by rfl) T.n_type (by decide +kernel) (pa_cons (pv 1) pa_nil)) (pe_bltn (v := .ty "str") (by rfl) T.n_str (by decide +kernel) rfl) (nomark _)))))
  (pss_one (ps_ret pe_bl))
  pss_nil)
  (pss_one (ps_ret (pe_callB (kAll (K := K) rfl rfl) (by rfl) T.n_all (by decide +kernel) (pa_cons (pe_lc (own := [("letter", 2)]) (g := gName 2) (tt := tYes) rfl sc_is_word.nd (pi_str (pv 1)) (blkOk_by (N := ["alphabet", "thing", "letter"]) (sc := defScope s_is_word) (by decide +kernel)) (fun _ _ _ _ _ => (pg_name (i := 2) sc_is_word.nd rfl (Or.inl rfl))) (fun _ _ _ _ _ => pts_nil) (fun _ _ _ _ _ => (by exact (pe_cmpR op_in_sign (pv 2) (pv 0) rfl)))) pa_nil))))), ?_⟩
    refine ⟨_, rfl, .str (S al), .str (S al), rfl, .str _, fun z e => by cases e; rw [len_S]; exact la, fun H1 s1 => ⟨_, rfl, ite2 (fun h => ?_) (fun h => ?_)⟩⟩
    · have e : alphaB al = false := bnot_if h
      rw [e, Bool.false_and] at q
      exact q H1 s1
    · have e : alphaB al = true := bnot_of h
      rw [e, Bool.true_and] at q
      refine ⟨v, rfl, v, _, rfl, dp_tyb (dp_mono s1 hd), _, _, rfl, rfl, _, rfl, ite2 (fun h => ?_) (fun h => ?_)⟩
      · rw [wordD_not (al := al) (d := d) (of_decide_eq_false (bnot_if h))] at q
        exact q H1 s1
      · obtain ⟨z, rfl⟩ := is_str (of_decide_eq_true (bnot_of h))
        cases hd
        have hl := hz z rfl
        have h1 : z.cps.size = (tl z).length := len_tl z
        refine ⟨.str z, rfl, z, rfl, fun D nD => ?_⟩
        refine lc_str (fun i H2 => Same H1 H2 ∧ H2 D = some (.lst (((List.range i).map fun j => decide ((tl z).getD j 0 ∈ al)).map V.bl))) ⟨same_new nD, upd_same⟩ ?_ ?_
        · rintro i H2 hi ⟨sm, hD⟩
          refine ⟨rfl, sg z i, rfl, .str (S al), rfl, (tl z).getD i 0, S al, sg_eq z i, rfl, _, hD, ?_, ?_, ?_⟩
          · rw [List.length_map, List.length_map, List.length_range]
            exact lim5 (Nat.le_trans (Nat.le_of_lt hi) hl)
          · exact fun b o e => by rw [upd_ne (ne_of_none e nD)]; exact sm b o e
          · rw [upd_same, List.range_succ, List.map_append, List.map_append]
            rfl
        · rintro H2 ⟨sm, hD⟩
          refine ⟨D, _, rfl, SqL.of hD, ?_⟩
          have e2 : ((List.range z.cps.size).map fun j => decide ((tl z).getD j 0 ∈ al)).all id = wordD al (.str z) := by
            rw [List.all_map, h1]
            rfl
          rw [e2]
          exact q H2 (s1.trans sm)
end
end Fo
namespace Fo
open PySem PySem.Spec PyProof.Rows L2 TL
theorem Bx.grow {K : PySem.W.Frag} {b D : Addr} {F H : Hp} {o : HO} (B : Bx K b F H) (hD : H D = some o) (hb : b ≠ D) : Bx K b (upd F D o) H := by
  obtain ⟨r, ns, n, e, q, h0⟩ := B.at'
  have s1 : Same F (upd F D o) := fun p u h => by
    by_cases z : p = D
    · subst z
      rw [upd_same, ← hD]
      exact B.sub _ _ h
    · rw [upd_ne z]
      exact h
  refine ⟨fun p u h => ?_, by rw [upd_ne hb]; exact B.nf, r, ns, n, e, s1.seq q, h0⟩
  by_cases z : p = D
  · subst z
    rw [upd_same] at h
    rw [hD]
    exact h
  · rw [upd_ne z] at h
    exact B.sub _ _ h
theorem join_sz {w : List Nat} (hw : w.length ≤ 100000) : ((w.map fun c => S [c]).map (·.length)).sum + (w.map fun c => S [c]).length * (Str.ofString "").length ≤ 16777216 := by
  rw [ones_sum, show (Str.ofString "").length = 0 by decide +kernel]
  omega
/-- a thing that may be asked -/
def Th (K : PySem.W.Frag) (F : Hp) (v : V) : Prop := ∃ d, Dp K F v d ∧ SmallD d
theorem th_str {K : PySem.W.Frag} {F : Hp} (s : Str) (h : s.length ≤ 100000) : Th K F (.str s) := ⟨.str s, .str s, fun z e => by cases e; exact h⟩
theorem no_false {c : Bool} (h : (!decide (c = c)) = true) : False := by rw [decide_eq_true rfl] at h; exact absurd h (by decide)
theorem alph4 (n : Nat) (h : n < 4) : ∃ al : List Nat, ([V.str (Str.ofString "ba"), .str (Str.ofString "cab"), .str (Str.ofString "z"), .str (Str.ofString "dacbe")] : List V)[n]? = some (.str (S al)) ∧ alphaB al = true ∧ al ≠ [] ∧ al.length ≤ 5 ∧ 113 ∉ al :=
  match n, h with
  | 0, _ => ⟨tl (Str.ofString "ba"), by rw [S_tl]; rfl, by decide +kernel, by decide +kernel, by decide +kernel, by decide +kernel⟩
  | 1, _ => ⟨tl (Str.ofString "cab"), by rw [S_tl]; rfl, by decide +kernel, by decide +kernel, by decide +kernel, by decide +kernel⟩
  | 2, _ => ⟨tl (Str.ofString "z"), by rw [S_tl]; rfl, by decide +kernel, by decide +kernel, by decide +kernel, by decide +kernel⟩
  | 3, _ => ⟨tl (Str.ofString "dacbe"), by rw [S_tl]; rfl, by decide +kernel, by decide +kernel, by decide +kernel, by decide +kernel⟩
theorem alike_ints : ∀ a b : List Int, PySem.W.alikeAll (a.map PyData.int) (b.map PyData.int) = true
  | [], b => by rw [List.map_nil, PySem.W.alikeAll]
  | x :: r, [] => by rw [List.map_nil, List.map_cons, PySem.W.alikeAll]
  | x :: r, y :: t => by rw [List.map_cons, List.map_cons, PySem.W.alikeAll, alike_ints r t, PySem.W.alike]; rfl
theorem key_alike (al u v : List Nat) : PySem.W.alike (keyD al u) (keyD al v) = true := by
  unfold keyD
  rw [PySem.W.alike, PySem.W.alikeAll, PySem.W.alikeAll, PySem.W.alikeAll, PySem.W.alike, PySem.W.alike]
  unfold ixD
  rw [alike_ints]
  rfl
theorem depth_ints : ∀ a : List Int, PyData.depthAll (a.map PyData.int) = 0
  | [] => by rw [List.map_nil, PyData.depthAll]
  | x :: r => by rw [List.map_cons, PyData.depthAll, depth_ints r, PyData.depth]; rfl
theorem key_depth (al u : List Nat) : (keyD al u).depth ≤ 64 := by
  unfold keyD
  rw [PyData.depth, PyData.depthAll, PyData.depthAll, PyData.depthAll, PyData.depth, PyData.depth]
  unfold ixD
  rw [depth_ints]
  decide
theorem w_at {ws : List (List Nat)} {i : Nat} {x : V} (h : (ws.map fun u => V.str (S u))[i]? = some x) : ∃ u, u ∈ ws ∧ x = .str (S u) := by
  rw [List.getElem?_map] at h
  cases e : ws[i]? with
  | none => rw [e] at h; cases h
  | some u =>
    rw [e] at h
    exact ⟨u, List.mem_of_getElem? e, (Option.some.inj h).symm⟩
theorem small_S {u : List Nat} (h : u.length ≤ 100000) : SmallD (.str (S u)) := fun z e => by cases e; rw [len_S]; exact h
theorem word_q {al : List Nat} (u : List Nat) (h : 113 ∉ al) : wordD al (.str (S u ++ Str.ofString "q")) = false := by
  refine wordB_false (c := 113) ?_ h
  rw [tl_append]
  exact List.mem_append_right _ (by decide +kernel)
section
variable {P : Program} {w : World} {K : PySem.W.Frag} {mg : Str → Option Value} {base : Heap}
def sp_law (K : PySem.W.Frag) : Sp := fun vs H Q _ => ∃ (a : Addr) (ns : List Int), vs = [.ref a] ∧ SqL K H a (ns.map V.int) ∧ ns.length ≤ 63 ∧ ∀ H', Q (.bl true) H'
theorem ok_law (T : Tx K mg) : FnOk P w K mg base CX0 3 T.a_law T.e_law ["script"] (sp_law K) := by
  refine T.d_law.F.ok sc_law (fun vs H Q E h => ?_) (fun cdv A outer s H vs Q E hr h => ?_)
  · obtain ⟨a, ns, rfl, _⟩ := h
    rfl
  · obtain ⟨a, ns, rfl, hS, hlen, q⟩ := h
    refine ⟨_, (pss_cons (ps_set (i := 1) sc_law.nd rfl (.inr rfl) (pe_lst (pa_cons (pe_call (ok_law_row T) (hr.mono (by decide)) (by rfl) T.d_law_row.g T.d_law_row.F.kp T.d_law_row.b .nil pass0 (pa_cons (pv 0) (pa_cons pe_int (pa_cons pe_int pa_nil)))) (pa_cons pe_int pa_nil))))
  (pss_cons (ps_set (i := 2) sc_law.nd rfl (.inl rfl) (pe_lst (pa_cons pe_str (pa_cons pe_str (pa_cons pe_str (pa_cons pe_str (pa_cons pe_str (pa_cons pe_str (pa_cons pe_str (pa_cons pe_str (pa_cons pe_int (pa_cons pe_non (pa_cons (pe_lst (pa_cons pe_str pa_nil)) (pa_cons pe_str pa_nil))))))))))))))
  (pss_cons (ps_for PassesOwn.never rfl (pi_range1 (by rfl) T.n_range (pa_cons pe_int pa_nil)) (pg_name (i := 3) sc_law.nd rfl (.inl rfl))
  (pss_one (ps_expr (kBM (K := K) rfl (pe_bm PySem.F.plainAttrs_list PySem.F.slot_list_append PySem.F.type_list_append mt_append (pv 2) (pa_cons (kBM (K := K) rfl (pe_bm PySem.F.plainAttrs_str PySem.F.slot_str_join PySem.F.type_str_join (kJn (K := K) rfl) pe_str (pa_cons (pe_lc (own := [("k", 9)]) (g := gName 9) (tt := tYes) rfl sc_law.nd (pi_range1 (by rfl) T.n_range (pa_cons (pe_op op_add pe_int (pe_call (ok_law_draw T) (hr.mono (by decide)) (by rfl) T.d_law_draw.g T.d_law_draw.F.kp T.d_law_draw.b .nil pass0 (pa_cons (pv 1) (pa_cons pe_int pa_nil)))) pa_nil)) (blkOk_by (N := ["script", "box", "things", "turn", "thing", "alphabet", "words", "one", "two", "k"]) (sc := defScope s_law) (by decide +kernel)) (fun _ _ _ _ _ => (pg_name (i := 9) sc_law.nd rfl (Or.inl rfl))) (fun _ _ _ _ _ => pts_nil) (fun _ _ _ _ _ => (by exact (pe_ix ix_str pe_str (pe_call (ok_law_draw T) (hr.mono (by decide)) (by rfl) T.d_law_draw.g T.d_law_draw.F.kp T.d_law_draw.b .nil pass0 (pa_cons (pv 1) (pa_cons pe_int pa_nil))) (fun _ _ => rfl))))) pa_nil))) pa_nil))))))
  (pss_cons (ps_for PassesOwn.never rfl (kLi (K := K) rfl (pi_list (pv 2))) (pg_name (i := 4) sc_law.nd rfl (.inl rfl))
  (pss_one (ps_if (pt_not (pt_val (pe_call (ok_law_is T) (hr.mono (by decide)) (by rfl) T.d_law_is.g T.d_law_is.F.kp T.d_law_is.b .nil pass0 (pa_cons (pe_call (ok_is_alphabet T) (hr.mono (by decide)) (by rfl) T.d_is_alphabet.g T.d_is_alphabet.F.kp T.d_is_alphabet.b .nil pass0 (pa_cons (pv 4) pa_nil)) (pa_cons (pe_call (ok_law_good T) (hr.mono (by decide)) (by rfl) T.d_law_good.g T.d_law_good.F.kp T.d_law_good.b .nil pass0 (pa_cons (pv 4) pa_nil)) pa_nil)))))
  (pss_one (ps_ret pe_bl))
  pss_nil)))
  (pss_cons (ps_set (i := 5) sc_law.nd rfl (.inr rfl) (pe_ix (kIxL (K := K) rfl) (pe_lst (pa_cons pe_str (pa_cons pe_str (pa_cons pe_str (pa_cons pe_str pa_nil))))) (pe_call (ok_law_draw T) (hr.mono (by decide)) (by rfl) T.d_law_draw.g T.d_law_draw.F.kp T.d_law_draw.b .nil pass0 (pa_cons (pv 1) (pa_cons pe_int pa_nil))) (fun _ _ => rfl)))
  (pss_cons (ps_setLc (i := 6) (own := [("k", 9)]) (g := gName 9) (tt := tYes) rfl sc_law.nd rfl rfl (sw_true rfl rfl rfl (by decide +kernel)) (pi_range1 (by rfl) T.n_range (pa_cons pe_int pa_nil)) (blkOk_by (N := ["script", "box", "things", "turn", "thing", "alphabet", "words", "one", "two", "k"]) (sc := defScope s_law) (by decide +kernel)) (fun _ _ _ _ _ => (pg_name (i := 9) sc_law.nd rfl (Or.inl rfl))) (fun _ _ _ _ _ => pts_nil) (fun _ _ _ _ _ => (by exact (pe_call (ok_law_word T) (hr.mono (by decide)) (by rfl) T.d_law_word.g T.d_law_word.F.kp T.d_law_word.b .nil pass0 (pa_cons (pv 1) (pa_cons (pv 5) (pa_cons pe_int pa_nil)))))))
  (pss_cons (ps_for PassesOwn.never rfl (kLi (K := K) rfl (pi_list (pv 6))) (pg_name (i := 7) sc_law.nd rfl (.inl rfl))
  (pss_cons (ps_if (PW.pt (pw_or (pt_not (pt_val (pe_call (ok_law_is T) (hr.mono (by decide)) (by rfl) T.d_law_is.g T.d_law_is.F.kp T.d_law_is.b .nil pass0 (pa_cons (pe_call (ok_is_word T) (hr.mono (by decide)) (by rfl) T.d_is_word.g T.d_is_word.F.kp T.d_is_word.b .nil pass0 (pa_cons (pv 5) (pa_cons (pv 7) pa_nil))) (pa_cons pe_bl pa_nil))))) (pw_or1 (pt_not (pt_val (pe_call (ok_law_is T) (hr.mono (by decide)) (by rfl) T.d_law_is.g T.d_law_is.F.kp T.d_law_is.b .nil pass0 (pa_cons (pe_call (ok_is_word T) (hr.mono (by decide)) (by rfl) T.d_is_word.g T.d_is_word.F.kp T.d_is_word.b .nil pass0 (pa_cons (pv 5) (pa_cons (pe_op op_add_str (pv 7) pe_str) pa_nil))) (pa_cons pe_bl pa_nil))))))))
  (pss_one (ps_ret pe_bl))
  pss_nil)
  (pss_one (ps_for PassesOwn.never rfl (kLi (K := K) rfl (pi_list (pv 6))) (pg_name (i := 8) sc_law.nd rfl (.inl rfl))
  (pss_one (ps_if (pt_not (pt_val (pe_call (ok_law_is T) (hr.mono (by decide)) (by rfl) T.d_law_is.g T.d_law_is.F.kp T.d_law_is.b .nil pass0 (pa_cons (pe_call (ok_comes_before T) (hr.mono (by decide)) (by rfl) T.d_comes_before.g T.d_comes_before.F.kp T.d_comes_before.b .nil pass0 (pa_cons (pv 5) (pa_cons (pv 7) (pa_cons (pv 8) pa_nil)))) (pa_cons (pe_cmpR (kLtD (K := K) rfl (hu64 hr)) (pe_call (ok_law_key T) (hr.mono (by decide)) (by rfl) T.d_law_key.g T.d_law_key.F.kp T.d_law_key.b .nil pass0 (pa_cons (pv 5) (pa_cons (pv 7) pa_nil))) (pe_call (ok_law_key T) (hr.mono (by decide)) (by rfl) T.d_law_key.g T.d_law_key.F.kp T.d_law_key.b .nil pass0 (pa_cons (pv 5) (pa_cons (pv 8) pa_nil))) (nomark _)) pa_nil)))))
  (pss_one (ps_ret pe_bl))
  pss_nil))))))
  (pss_one (ps_ret (pe_and (pe_cmpR op_is_bl (pe_call (ok_is_word T) (hr.mono (by decide)) (by rfl) T.d_is_word.g T.d_is_word.F.kp T.d_is_word.b .nil pass0 (pa_cons (pv 5) (pa_cons pe_int pa_nil))) pe_bl (nomark _)) (pe_one (pe_cmpR op_is_bl (pe_call (ok_is_word T) (hr.mono (by decide)) (by rfl) T.d_is_word.g T.d_is_word.F.kp T.d_is_word.b .nil pass0 (pa_cons (pv 5) (pa_cons (pe_lst (pa_cons (pv 5) pa_nil)) pa_nil))) pe_bl (nomark _))))))))))))), ?_⟩
    -- box
    refine ⟨.ref a, rfl, a, ns, 0, 12, rfl, hS, by decide, by decide, by decide, fun r zs H1 s1 nr hr1 hz => ⟨by show 2 ≤ sizeLine; decide, fun b nb => ?_⟩⟩
    have B0 : Bx K b H1 (upd H1 b (.lst [.ref r, .int 0])) := ⟨same_new nb, nb, r, zs, 0, upd_same, SqL.of hr1, Int.le_refl 0⟩
    generalize upd H1 b (.lst [.ref r, .int 0]) = H2 at B0
    -- things
    refine ⟨by show 1 ≤ sizeLine; decide, fun p np => ⟨by show 12 ≤ sizeLine; decide, fun t nt => ?_⟩⟩
    obtain ⟨fp, bp⟩ := B0.free np
    have B1 := (B0.same (same_new (o := .lst [V.str (Str.ofString "a")]) np)).grow upd_same bp
    generalize hF : upd H1 p (.lst [V.str (Str.ofString "a")]) = F at B1
    have dp : Th K F (.ref p) := ⟨.list [.str (Str.ofString "a")], .lst (SqL.of (by rw [← hF]; exact upd_same)) (.cons (.str _) .nil), fun z e => nomatch e⟩
    generalize upd H2 p (.lst [V.str (Str.ofString "a")]) = H3 at B1 nt
    obtain ⟨ft, bt⟩ := B1.free nt
    have B2 := B1.same (same_new (o := .lst [V.str (Str.ofString ""), .str (Str.ofString "a"), .str (Str.ofString "abcde"), .str (Str.ofString "abcdef"), .str (Str.ofString "aba"), .str (Str.ofString "aB"), .str (Str.ofString "a1"), .str (Str.ofString "zyxwv"), .int 5, .non, .ref p, .str (Str.ofString "a b")]) nt)
    refine ⟨8, rfl, by decide, by decide, for_range (lo := 0) (n := 8) (fun i σ H4 => ∃ (y3 : Option V) (vs : List V), σ = [some (.ref a), some (.ref b), some (.ref t), y3, none, none, none, none, none, none] ∧ Bx K b F H4 ∧ H4 t = some (.lst vs) ∧ (∀ v ∈ vs, Th K F v) ∧ vs.length = 12 + i)
      ⟨none, _, rfl, B2, upd_same, ?_, rfl⟩ ?_ ?_⟩
    · intro v hv
      have h5 : Th K F (.int 5) := ⟨.int 5, .int 5, fun z e => nomatch e⟩
      have h6 : Th K F .non := ⟨.none, .non, fun z e => nomatch e⟩
      simp only [List.mem_cons, List.not_mem_nil, or_false] at hv
      rcases hv with rfl | rfl | rfl | rfl | rfl | rfl | rfl | rfl | rfl | rfl | rfl | rfl
      · exact th_str _ (by decide +kernel)
      · exact th_str _ (by decide +kernel)
      · exact th_str _ (by decide +kernel)
      · exact th_str _ (by decide +kernel)
      · exact th_str _ (by decide +kernel)
      · exact th_str _ (by decide +kernel)
      · exact th_str _ (by decide +kernel)
      · exact th_str _ (by decide +kernel)
      · exact h5
      · exact h6
      · exact dp
      · exact th_str _ (by decide +kernel)
    · rintro i σ H4 hi ⟨y3, vs, rfl, B4, ht, hv, hl⟩
      refine ⟨.ref t, rfl, .inl ⟨rfl, _, SqL.of ht⟩, rfl, .ref b, rfl, b, F, 6, rfl, B4, by decide, fun z H5 z0 z1 B5 k5 => ⟨_, _, rfl, rfl, _, rfl, by omega, by omega, fun D nD => ?_⟩⟩
      obtain ⟨fD, bD⟩ := B5.free nD
      refine lc_range (lo := 0) (n := (1 + z).toNat) (fun j H6 => ∃ wd : List Nat, Bx K b F H6 ∧ Keep b H5 H6 ∧ H6 D = some (.lst (ones wd)) ∧ wd.length = j)
        ⟨[], B5.off fD bD, .of (same_new nD), upd_same, rfl⟩ ?_ ?_
      · rintro j H6 hj ⟨wd, B6, k6, hD, hw⟩
        refine ⟨rfl, .ref b, rfl, b, F, 6, rfl, B6, by decide, fun y H7 y0 y1 B7 k7 => ?_⟩
        have hy : y.toNat < (tl (Str.ofString "abcdzA")).length := by
          rw [show (tl (Str.ofString "abcdzA")).length = 6 by decide +kernel]
          omega
        refine ⟨Str.ofString "abcdzA", y, (tl (Str.ofString "abcdzA")).getD y.toNat 0, rfl, rfl, by decide +kernel, at_int y0 (getD_at hy), ones wd, k7 D _ bD.symm hD, ?_, ?_⟩
        · rw [ones_len]
          exact lim5 (by omega)
        · refine ⟨wd ++ [_], B7.off fD bD, fun c o hc e => ?_, by rw [upd_same, ← ones_add], by rw [List.length_append, hw]; rfl⟩
          rw [upd_ne (ne_of_none e nD)]
          exact k7 c o hc (k6 c o hc e)
      · rintro H6 ⟨wd, B6, k6, hD, hw⟩
        have ht6 := k6 t _ bt.symm (k5 t _ bt.symm ht)
        refine ⟨_, D, wd.map fun c => S [c], rfl, rfl, .inl (SqL.of hD), join_sz (by omega), ?_⟩
        rw [join_signs]
        refine ⟨t, vs, .str (S wd), rfl, rfl, ht6, lim5 (by omega), _, vs ++ [.str (S wd)], rfl, B6.off ft bt, upd_same, fun v hm => ?_, by rw [List.length_append, hl]; rfl⟩
        rcases List.mem_append.mp hm with hm | hm
        · exact hv v hm
        · rw [List.mem_singleton.mp hm]
          exact th_str _ (by rw [len_S]; omega)
    · rintro σ H4 ⟨y3, vs, rfl, B4, ht, hv, hl⟩
      -- for thing in things
      refine ⟨.ref t, rfl, t, rfl, ⟨_, SqL.of ht⟩, for_list (K := K) (a := t) (xs := vs) (fun i σ H5 => ∃ y4 : Option V, σ = [some (.ref a), some (.ref b), some (.ref t), y3, y4, none, none, none, none, none] ∧ Bx K b F H5 ∧ H5 t = some (.lst vs))
        ⟨none, rfl, B4, ht⟩ (fun i σ H5 _ ⟨_, _, _, h⟩ => SqL.of h) ?_ ?_⟩
      · rintro i x σ H5 hx ⟨y4, rfl, B5, ht5⟩
        obtain ⟨d, hd, hz⟩ := hv x (List.mem_of_getElem? hx)
        refine ⟨x, rfl, x, d, rfl, dp_mono B5.sub hd, hz, fun H6 s6 => ⟨x, rfl, x, d, rfl, dp_mono (B5.sub.trans s6) hd, hz, _, _, rfl, _, rfl, ite2 (fun h => (no_false h).elim) (fun _ => ?_)⟩⟩
        exact ⟨_, rfl, B5.same s6, s6 _ _ ht5⟩
      · rintro σ H5 ⟨y4, rfl, B5, ht5⟩
        -- alphabet
        refine ⟨by show 4 ≤ sizeLine; decide, fun p2 np2 => ⟨.ref b, rfl, b, F, 4, rfl, B5.same (same_new np2), by decide, fun y H6 y0 y1 B6 k6 => ?_⟩⟩
        obtain ⟨f2, b2⟩ := B5.free np2
        obtain ⟨al, ea, ga, na, la, qa⟩ := alph4 y.toNat (by omega)
        refine ⟨p2, _, y, .str (S al), rfl, rfl, SqL.of (k6 p2 _ b2.symm upd_same), at_int y0 ea, ?_⟩
        -- words
        refine ⟨10, rfl, by decide, by decide, fun D nD => ?_⟩
        obtain ⟨fD, bD⟩ := B6.free nD
        refine lc_range (lo := 0) (n := 10) (fun j H7 => ∃ ws : List (List Nat), Bx K b F H7 ∧ H7 D = some (.lst (ws.map fun u => V.str (S u))) ∧ (∀ u ∈ ws, (∀ c ∈ u, c ∈ al) ∧ u.length ≤ 6) ∧ ws.length = j)
          ⟨[], B6.off fD bD, upd_same, by simp, rfl⟩ ?_ ?_
        · rintro j H7 hj ⟨ws, B7, hD, hw, hl⟩
          refine ⟨rfl, .ref b, rfl, .str (S al), rfl, b, F, al, 6, rfl, B7, na, by omega, by decide, by decide, fun wd H8 hc hl8 B8 k8 => ⟨_, k8 D _ bD.symm hD, ?_, ws ++ [wd], B8.off fD bD, ?_, ?_, ?_⟩⟩
          · rw [List.length_map]
            exact lim5 (by omega)
          · rw [upd_same, List.map_append]
            rfl
          · intro u hu
            rcases List.mem_append.mp hu with hu | hu
            · exact hw u hu
            · rw [List.mem_singleton.mp hu]
              exact ⟨hc, by omega⟩
          · rw [List.length_append, hl]
            rfl
        · rintro H7 ⟨ws, B7, hD, hw, hl⟩
          -- for one in words
          refine ⟨.ref D, rfl, D, rfl, ⟨_, SqL.of hD⟩, for_list (K := K) (a := D) (xs := ws.map fun u => V.str (S u)) (fun i σ H8 => ∃ (y7 y8 : Option V), σ = [some (.ref a), some (.ref b), some (.ref t), y3, y4, some (.str (S al)), some (.ref D), y7, y8, none] ∧ H8 D = some (.lst (ws.map fun u => V.str (S u))))
            ⟨none, none, rfl, hD⟩ (fun i σ H8 _ ⟨_, _, _, h⟩ => SqL.of h) ?_ ?_⟩
          · rintro i x σ H8 hx ⟨y7, y8, rfl, hD8⟩
            obtain ⟨u, hu, rfl⟩ := w_at hx
            obtain ⟨hc, hl6⟩ := hw u hu
            refine ⟨.str (S al), rfl, .str (S u), rfl, al, .str (S u), .str (S u), rfl, by omega, .str _, small_S (by omega), fun H9 s9 => ⟨_, true, rfl, _, rfl, ite2 (fun h => ?_) (fun _ => ?_)⟩⟩
            · rw [ga, show wordD al (.str (S u)) = true from wordB_true hc] at h
              exact absurd h (by decide)
            refine ⟨.str (S al), rfl, .str (S u), rfl, _, _, rfl, rfl, ?_, al, .str (S u ++ Str.ofString "q"), .str (S u ++ Str.ofString "q"), rfl, by omega, .str _, ?_, fun H10 s10 => ⟨_, false, rfl, _, rfl, ite2 (fun h => ?_) (fun _ => ?_)⟩⟩
            · rw [len_S, show (Str.ofString "q").length = 1 by decide +kernel]
              exact lim5' (by omega)
            · intro z e
              cases e
              rw [len_tl, tl_append, List.length_append, tlS, show (tl (Str.ofString "q")).length = 1 by decide +kernel]
              omega
            · rw [word_q u qa, Bool.and_false] at h
              exact absurd h (by decide)
            have hD10 := s10 _ _ (s9 _ _ hD8)
            -- for two in words
            refine ⟨.ref D, rfl, D, rfl, ⟨_, SqL.of hD10⟩, for_list (K := K) (a := D) (xs := ws.map fun u => V.str (S u)) (fun i σ H8 => ∃ (y8 : Option V), σ = [some (.ref a), some (.ref b), some (.ref t), y3, y4, some (.str (S al)), some (.ref D), some (.str (S u)), y8, none] ∧ H8 D = some (.lst (ws.map fun u => V.str (S u))))
              ⟨y8, rfl, hD10⟩ (fun i σ H8 _ ⟨_, _, h⟩ => SqL.of h) ?_ ?_⟩
            · rintro i x σ H11 hx ⟨y8, rfl, hD11⟩
              obtain ⟨v, hv', rfl⟩ := w_at hx
              obtain ⟨hcv, hlv⟩ := hw v hv'
              refine ⟨.str (S al), rfl, .str (S u), rfl, .str (S v), rfl, al, u, v, rfl, hc, hcv, by omega, by omega, fun H12 s12 => ?_⟩
              refine ⟨.str (S al), rfl, .str (S u), rfl, al, u, rfl, hc, by omega, fun p3 H13 s13 d3 => ⟨.str (S al), rfl, .str (S v), rfl, al, v, rfl, hcv, by omega, fun p4 H14 s14 d4 => ?_⟩⟩
              refine ⟨keyD al u, keyD al v, dp_mono s14 d3, d4, key_alike al u v, (fun z => nomatch z), key_depth al u, _, _, rfl, _, rfl, ite2 (fun h => ?_) (fun _ => ?_)⟩
              · rw [key_lt hc hcv] at h
                exact (no_false h).elim
              · exact ⟨_, rfl, s14 _ _ (s13 _ _ (s12 _ _ hD11))⟩
            · rintro σ H11 ⟨y8, rfl, hD11⟩
              exact ⟨_, _, rfl, hD11⟩
          · rintro σ H8 ⟨y7, y8, rfl, hD8⟩
            refine ⟨.str (S al), rfl, al, .int 5, .int 5, rfl, by omega, .int 5, (fun z e => nomatch e), fun H9 s9 => ⟨_, false, rfl, rfl, _, rfl, ?_⟩⟩
            refine ite2 (fun _ => ?_) (fun h => ?_)
            · refine ⟨.str (S al), rfl, .str (S al), rfl, by show 1 ≤ sizeLine; decide, fun p5 np5 => ⟨al, .ref p5, .list [.str (S al)], rfl, by omega, .lst (SqL.of upd_same) (.cons (.str _) .nil), (fun z e => nomatch e), fun H10 s10 => ⟨_, false, rfl, rfl, ?_⟩⟩⟩
              have e : decide ((alphaB al && wordD al (.list [.str (S al)])) = false) = true := by
                rw [show wordD al (.list [.str (S al)]) = false from rfl, Bool.and_false]
                rfl
              have q := q H10
              rw [← e] at q
              exact q
            · refine absurd (decide_eq_true ?_) h
              rw [show wordD al (.int 5) = false from rfl, Bool.and_false]
end
theorem all_mk {l : PySem.W.OpenLaw} {w : World} {K : PySem.W.Frag} {h : Heap} {mg : Str → Option Value} {fa : Addr} (X : K.In h) (G : h.Ns mainGlobals mg) (hfa : mg "law" = some (.ref fa))
    {f0 : Addr} {od0 an0 : Option Addr} {sl0 : Array (Option Value)} {oc0 kV0 dc0 pm0 cd0 ct0 : Value}
    (a0 : PySem.W.nsIn K mainGlobals "is_alphabet" = some (some (.ref f0))) (l0 : K.lookup f0 = some ⟨oc0, od0, .func (PySem.W.fnOf "is_alphabet" "is_alphabet" (defArgs s_is_alphabet) (defBody s_is_alphabet) (defScope s_is_alphabet) .none kV0 dc0 pm0 an0 cd0 ct0), sl0⟩) (c0 : PySem.W.codeIn K cd0 "is_alphabet" = true) (k0 : PySem.W.keepIn K (.ref f0) = true)
    {f1 : Addr} {od1 an1 : Option Addr} {sl1 : Array (Option Value)} {oc1 kV1 dc1 pm1 cd1 ct1 : Value}
    (a1 : PySem.W.nsIn K mainGlobals "is_word" = some (some (.ref f1))) (l1 : K.lookup f1 = some ⟨oc1, od1, .func (PySem.W.fnOf "is_word" "is_word" (defArgs s_is_word) (defBody s_is_word) (defScope s_is_word) .none kV1 dc1 pm1 an1 cd1 ct1), sl1⟩) (c1 : PySem.W.codeIn K cd1 "is_word" = true) (k1 : PySem.W.keepIn K (.ref f1) = true)
    {f2 : Addr} {od2 an2 : Option Addr} {sl2 : Array (Option Value)} {oc2 kV2 dc2 pm2 cd2 ct2 : Value}
    (a2 : PySem.W.nsIn K mainGlobals "comes_before" = some (some (.ref f2))) (l2 : K.lookup f2 = some ⟨oc2, od2, .func (PySem.W.fnOf "comes_before" "comes_before" (defArgs s_comes_before) (defBody s_comes_before) (defScope s_comes_before) .none kV2 dc2 pm2 an2 cd2 ct2), sl2⟩) (c2 : PySem.W.codeIn K cd2 "comes_before" = true) (k2 : PySem.W.keepIn K (.ref f2) = true)
    {f3 : Addr} {od3 an3 : Option Addr} {sl3 : Array (Option Value)} {oc3 kV3 dc3 pm3 cd3 ct3 : Value}
    (a3 : PySem.W.nsIn K mainGlobals "_law_cell" = some (some (.ref f3))) (l3 : K.lookup f3 = some ⟨oc3, od3, .func (PySem.W.fnOf "_law_cell" "_law_cell" (defArgs s_law_cell) (defBody s_law_cell) (defScope s_law_cell) .none kV3 dc3 pm3 an3 cd3 ct3), sl3⟩) (c3 : PySem.W.codeIn K cd3 "_law_cell" = true) (k3 : PySem.W.keepIn K (.ref f3) = true)
    {f4 : Addr} {od4 an4 : Option Addr} {sl4 : Array (Option Value)} {oc4 kV4 dc4 pm4 cd4 ct4 : Value}
    (a4 : PySem.W.nsIn K mainGlobals "_law_row" = some (some (.ref f4))) (l4 : K.lookup f4 = some ⟨oc4, od4, .func (PySem.W.fnOf "_law_row" "_law_row" (defArgs s_law_row) (defBody s_law_row) (defScope s_law_row) .none kV4 dc4 pm4 an4 cd4 ct4), sl4⟩) (c4 : PySem.W.codeIn K cd4 "_law_row" = true) (k4 : PySem.W.keepIn K (.ref f4) = true)
    {f5 : Addr} {od5 an5 : Option Addr} {sl5 : Array (Option Value)} {oc5 kV5 dc5 pm5 cd5 ct5 : Value}
    (a5 : PySem.W.nsIn K mainGlobals "_law_draw" = some (some (.ref f5))) (l5 : K.lookup f5 = some ⟨oc5, od5, .func (PySem.W.fnOf "_law_draw" "_law_draw" (defArgs s_law_draw) (defBody s_law_draw) (defScope s_law_draw) .none kV5 dc5 pm5 an5 cd5 ct5), sl5⟩) (c5 : PySem.W.codeIn K cd5 "_law_draw" = true) (k5 : PySem.W.keepIn K (.ref f5) = true)
    {f6 : Addr} {od6 an6 : Option Addr} {sl6 : Array (Option Value)} {oc6 kV6 dc6 pm6 cd6 ct6 : Value}
    (a6 : PySem.W.nsIn K mainGlobals "_law_words" = some (some (.ref f6))) (l6 : K.lookup f6 = some ⟨oc6, od6, .func (PySem.W.fnOf "_law_words" "_law_words" (defArgs s_law_words) (defBody s_law_words) (defScope s_law_words) .none kV6 dc6 pm6 an6 cd6 ct6), sl6⟩) (c6 : PySem.W.codeIn K cd6 "_law_words" = true) (k6 : PySem.W.keepIn K (.ref f6) = true)
    {f7 : Addr} {od7 an7 : Option Addr} {sl7 : Array (Option Value)} {oc7 kV7 dc7 pm7 cd7 ct7 : Value}
    (a7 : PySem.W.nsIn K mainGlobals "_law_word" = some (some (.ref f7))) (l7 : K.lookup f7 = some ⟨oc7, od7, .func (PySem.W.fnOf "_law_word" "_law_word" (defArgs s_law_word) (defBody s_law_word) (defScope s_law_word) .none kV7 dc7 pm7 an7 cd7 ct7), sl7⟩) (c7 : PySem.W.codeIn K cd7 "_law_word" = true) (k7 : PySem.W.keepIn K (.ref f7) = true)
    {f8 : Addr} {od8 an8 : Option Addr} {sl8 : Array (Option Value)} {oc8 kV8 dc8 pm8 cd8 ct8 : Value}
    (a8 : PySem.W.nsIn K mainGlobals "_law_key" = some (some (.ref f8))) (l8 : K.lookup f8 = some ⟨oc8, od8, .func (PySem.W.fnOf "_law_key" "_law_key" (defArgs s_law_key) (defBody s_law_key) (defScope s_law_key) .none kV8 dc8 pm8 an8 cd8 ct8), sl8⟩) (c8 : PySem.W.codeIn K cd8 "_law_key" = true) (k8 : PySem.W.keepIn K (.ref f8) = true)
    {f9 : Addr} {od9 an9 : Option Addr} {sl9 : Array (Option Value)} {oc9 kV9 dc9 pm9 cd9 ct9 : Value}
    (a9 : PySem.W.nsIn K mainGlobals "_law_good" = some (some (.ref f9))) (l9 : K.lookup f9 = some ⟨oc9, od9, .func (PySem.W.fnOf "_law_good" "_law_good" (defArgs s_law_good) (defBody s_law_good) (defScope s_law_good) .none kV9 dc9 pm9 an9 cd9 ct9), sl9⟩) (c9 : PySem.W.codeIn K cd9 "_law_good" = true) (k9 : PySem.W.keepIn K (.ref f9) = true)
    {f10 : Addr} {od10 an10 : Option Addr} {sl10 : Array (Option Value)} {oc10 kV10 dc10 pm10 cd10 ct10 : Value}
    (a10 : PySem.W.nsIn K mainGlobals "_law_is" = some (some (.ref f10))) (l10 : K.lookup f10 = some ⟨oc10, od10, .func (PySem.W.fnOf "_law_is" "_law_is" (defArgs s_law_is) (defBody s_law_is) (defScope s_law_is) .none kV10 dc10 pm10 an10 cd10 ct10), sl10⟩) (c10 : PySem.W.codeIn K cd10 "_law_is" = true) (k10 : PySem.W.keepIn K (.ref f10) = true)
    {f11 : Addr} {od11 an11 : Option Addr} {sl11 : Array (Option Value)} {oc11 kV11 dc11 pm11 cd11 ct11 : Value}
    (a11 : PySem.W.nsIn K mainGlobals "law" = some (some (.ref f11))) (l11 : K.lookup f11 = some ⟨oc11, od11, .func (PySem.W.fnOf "law" "law" (defArgs s_law) (defBody s_law) (defScope s_law) .none kV11 dc11 pm11 an11 cd11 ct11), sl11⟩) (c11 : PySem.W.codeIn K cd11 "law" = true) (k11 : PySem.W.keepIn K (.ref f11) = true)
    (z_abs : PySem.W.nsIn K mainGlobals "abs" = some none)
    (z_all : PySem.W.nsIn K mainGlobals "all" = some none)
    (z_bool : PySem.W.nsIn K mainGlobals "bool" = some none)
    (z_enumerate : PySem.W.nsIn K mainGlobals "enumerate" = some none)
    (z_int : PySem.W.nsIn K mainGlobals "int" = some none)
    (z_isinstance : PySem.W.nsIn K mainGlobals "isinstance" = some none)
    (z_len : PySem.W.nsIn K mainGlobals "len" = some none)
    (z_range : PySem.W.nsIn K mainGlobals "range" = some none)
    (z_str : PySem.W.nsIn K mainGlobals "str" = some none)
    (z_type : PySem.W.nsIn K mainGlobals "type" = some none)
    (z_zip : PySem.W.nsIn K mainGlobals "zip" = some none)
    {t_LETTERS : Tok} (g_LETTERS : PySem.W.nsIn K mainGlobals "LETTERS" = some (some (Value.str "abcdefghijklmnopqrstuvwxyz" t_LETTERS)))
    {t_MOST_LETTERS : Tok} (g_MOST_LETTERS : PySem.W.nsIn K mainGlobals "MOST_LETTERS" = some (some (Value.int 5 t_MOST_LETTERS))) :
    ∃ fd : FuncData, (∀ (s : Shared) (v : Value), BindsTo s fd ⟨[v], []⟩ [("script", v)]) ∧ ∀ base : Heap, K.In base → base.Ns mainGlobals mg → FnOk l.prog w K mg base CX0 3 fa fd ["script"] (sp_law K) := by
  have e := hfa.symm.trans (PySem.W.mg_of X G a11)
  cases e
  have F0 := fun_mk (st := s_is_alphabet) l0 c0 k0
  have b0 := F0.binds (ps := ["thing"]) fun _ _ _ _ _ _ us hl => match us, hl with | [_], _ => rfl
  have F1 := fun_mk (st := s_is_word) l1 c1 k1
  have b1 := F1.binds (ps := ["alphabet", "thing"]) fun _ _ _ _ _ _ us hl => match us, hl with | [_, _], _ => rfl
  have F2 := fun_mk (st := s_comes_before) l2 c2 k2
  have b2 := F2.binds (ps := ["alphabet", "one", "two"]) fun _ _ _ _ _ _ us hl => match us, hl with | [_, _, _], _ => rfl
  have F3 := fun_mk (st := s_law_cell) l3 c3 k3
  have b3 := F3.binds (ps := ["script", "k"]) fun _ _ _ _ _ _ us hl => match us, hl with | [_, _], _ => rfl
  have F4 := fun_mk (st := s_law_row) l4 c4 k4
  have b4 := F4.binds (ps := ["script", "first", "last"]) fun _ _ _ _ _ _ us hl => match us, hl with | [_, _, _], _ => rfl
  have F5 := fun_mk (st := s_law_draw) l5 c5 k5
  have b5 := F5.binds (ps := ["box", "many"]) fun _ _ _ _ _ _ us hl => match us, hl with | [_, _], _ => rfl
  have F6 := fun_mk (st := s_law_words) l6 c6 k6
  have b6 := F6.binds (ps := ["alphabet", "most"]) fun _ _ _ _ _ _ us hl => match us, hl with | [_, _], _ => rfl
  have F7 := fun_mk (st := s_law_word) l7 c7 k7
  have b7 := F7.binds (ps := ["box", "alphabet", "most"]) fun _ _ _ _ _ _ us hl => match us, hl with | [_, _, _], _ => rfl
  have F8 := fun_mk (st := s_law_key) l8 c8 k8
  have b8 := F8.binds (ps := ["alphabet", "word"]) fun _ _ _ _ _ _ us hl => match us, hl with | [_, _], _ => rfl
  have F9 := fun_mk (st := s_law_good) l9 c9 k9
  have b9 := F9.binds (ps := ["thing"]) fun _ _ _ _ _ _ us hl => match us, hl with | [_], _ => rfl
  have F10 := fun_mk (st := s_law_is) l10 c10 k10
  have b10 := F10.binds (ps := ["told", "due"]) fun _ _ _ _ _ _ us hl => match us, hl with | [_, _], _ => rfl
  have F11 := fun_mk (st := s_law) l11 c11 k11
  have b11 := F11.binds (ps := ["script"]) fun _ _ _ _ _ _ us hl => match us, hl with | [_], _ => rfl
  let T : Tx K mg := ⟨f0, _, ⟨F0, PySem.W.mg_of X G a0, b0⟩, f1, _, ⟨F1, PySem.W.mg_of X G a1, b1⟩, f2, _, ⟨F2, PySem.W.mg_of X G a2, b2⟩, f3, _, ⟨F3, PySem.W.mg_of X G a3, b3⟩, f4, _, ⟨F4, PySem.W.mg_of X G a4, b4⟩, f5, _, ⟨F5, PySem.W.mg_of X G a5, b5⟩, f6, _, ⟨F6, PySem.W.mg_of X G a6, b6⟩, f7, _, ⟨F7, PySem.W.mg_of X G a7, b7⟩, f8, _, ⟨F8, PySem.W.mg_of X G a8, b8⟩, f9, _, ⟨F9, PySem.W.mg_of X G a9, b9⟩, f10, _, ⟨F10, PySem.W.mg_of X G a10, b10⟩, fa, _, ⟨F11, PySem.W.mg_of X G a11, b11⟩, PySem.W.mg_none_of X G z_abs, PySem.W.mg_none_of X G z_all, PySem.W.mg_none_of X G z_bool, PySem.W.mg_none_of X G z_enumerate, PySem.W.mg_none_of X G z_int, PySem.W.mg_none_of X G z_isinstance, PySem.W.mg_none_of X G z_len, PySem.W.mg_none_of X G z_range, PySem.W.mg_none_of X G z_str, PySem.W.mg_none_of X G z_type, PySem.W.mg_none_of X G z_zip, t_LETTERS, PySem.W.mg_of X G g_LETTERS, t_MOST_LETTERS, PySem.W.mg_of X G g_MOST_LETTERS⟩
  exact ⟨PySem.W.fnOf "law" "law" (defArgs s_law) (defBody s_law) (defScope s_law) .none kV11 dc11 pm11 an11 cd11 ct11, fun s v => .of_eq rfl, fun base _ _ => ok_law T⟩
end Fo
open PySem PySem.W PyProof.Rows
set_option maxHeartbeats 0 in
theorem PySem.Challenge.cw_foreaft_k01_words_holds : PySem.Challenge.rw_foreaft_k01_words.Holds := by
  w_on; o_law; k_head; (case hw => w_witness2)
  k_fill
  refine L2.walk_of (l := PySem.Challenge.rw_foreaft_k01_words) (n := 63) (k := 3) (x := "script") (CX := fun _ => L2.CX0) (sp := fun w => Fo.sp_law _) rfl (by decide) rfl ⟨rfl, by decide, by decide⟩ (fun w h Y => PySem.W.kIn_of Y) ?F (fun _ _ a ns hl _ hS => ⟨a, ns, rfl, hS, hl, fun _ => rfl⟩) (fun _ _ _ _ _ h => h)
  case F =>
    intro w mg fa h KX G hmg
    refine' Fo.all_mk KX G hmg ?a0 ?l0 ?c0 ?k0 ?a1 ?l1 ?c1 ?k1 ?a2 ?l2 ?c2 ?k2 ?a3 ?l3 ?c3 ?k3 ?a4 ?l4 ?c4 ?k4 ?a5 ?l5 ?c5 ?k5 ?a6 ?l6 ?c6 ?k6 ?a7 ?l7 ?c7 ?k7 ?a8 ?l8 ?c8 ?k8 ?a9 ?l9 ?c9 ?k9 ?a10 ?l10 ?c10 ?k10 ?a11 ?l11 ?c11 ?k11 ?z_abs ?z_all ?z_bool ?z_enumerate ?z_int ?z_isinstance ?z_len ?z_range ?z_str ?z_type ?z_zip ?g_LETTERS ?g_MOST_LETTERS
    (case a0 => k_is); (case l0 => k_is); (case c0 => k_is); (case k0 => k_is); (case a1 => k_is); (case l1 => k_is); (case c1 => k_is); (case k1 => k_is); (case a2 => k_is); (case l2 => k_is); (case c2 => k_is); (case k2 => k_is); (case a3 => k_is); (case l3 => k_is); (case c3 => k_is); (case k3 => k_is); (case a4 => k_is); (case l4 => k_is); (case c4 => k_is); (case k4 => k_is); (case a5 => k_is); (case l5 => k_is); (case c5 => k_is); (case k5 => k_is); (case a6 => k_is); (case l6 => k_is); (case c6 => k_is); (case k6 => k_is); (case a7 => k_is); (case l7 => k_is); (case c7 => k_is); (case k7 => k_is); (case a8 => k_is); (case l8 => k_is); (case c8 => k_is); (case k8 => k_is); (case a9 => k_is); (case l9 => k_is); (case c9 => k_is); (case k9 => k_is); (case a10 => k_is); (case l10 => k_is); (case c10 => k_is); (case k10 => k_is); (case a11 => k_is); (case l11 => k_is); (case c11 => k_is); (case k11 => k_is); (case z_abs => k_is); (case z_all => k_is); (case z_bool => k_is); (case z_enumerate => k_is); (case z_int => k_is); (case z_isinstance => k_is); (case z_len => k_is); (case z_range => k_is); (case z_str => k_is); (case z_type => k_is); (case z_zip => k_is); (case g_LETTERS => k_is); (case g_MOST_LETTERS => k_is)
