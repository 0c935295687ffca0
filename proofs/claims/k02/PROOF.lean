import PyProof.Rows.All
import Wide.All
import OpenK.AllK
import Wide.FinOn
import HandS.Base
import HandS.Call
import HandS.Iter
import KE.GoesNew
import HandS.List
import HandS.Comp
import HandS.Text
import HandS.Words
import HandS.Replace
import KE.LtData
import HandS.IsInst
import HandS.Wide
import HandS.StrMore
import HandS.More
import HandS.Deep
import KE.SortData
import HandS.Ends
import HandS.TupLe
import HandS.Style
import KE.KRevSl
import HandS.Zip
import KE.KDictZip
import HandS.ListItems
import HandS.TupMul
import KE.KExcSuper
import HandS.ExcSuper
import HandS.ExcInit
import HandS.ExcIs
import HandS.WordsExc
import HandS.ExcOwn
import HandS.Exc
import KE.RegKSuper
import KE.KExcIs
import PySem.Challenge.RW_foreaft_k02_machines_are_checked
set_option Elab.async false
set_option linter.all false
set_option maxRecDepth 100000
set_option maxHeartbeats 4000000
namespace Fo
open PySem PySem.Spec PyProof.Rows L2

/-- n turns; turn i hands out a new tuple of f i -/
def ItP (n : Nat) (f : Nat → List V) : It :=
  ⟨fun i _ => i < n, fun i H v H' => ∃ T, v = .ref T ∧ H T = none ∧ H' = upd H T (.tup (f i)), fun i _ => n ≤ i⟩

theorem turn_pairs {P : Program} {w : World} {K : PySem.W.Frag} {elts : List Expr} {kk : Nat} {tpos : Pos} {I0 : Addr} {fp wr : List Addr} {n : Nat} {f : Nat → List V} {Tn : Nat → Heap → Prop}
    (W : ∀ A : Around, A.handled = none → GoesN P w A (.Tuple elts kk tpos) I0 fp wr n (fun i h₀ v h => ∃ T vals, v = .ref T ∧ h₀.objs.size ≤ T ∧ Vals (f i) vals ∧ h.IsTuple T vals.toArray) Tn)
    (hI : I0 ∈ fp) (hs : ∀ i, (f i).length ≤ sizeLine) (hself : ∀ i (A : Around) (s : Shared) (Q E : Value → Shared → Prop), Tn i s.heap → Q (.ref I0) s → wpAny (model P w) A (pyIter (.ref I0)) Q E s)
    (obj : ∀ i h, Tn i h → ∀ b ∈ fp, ∃ o, h.get? b = some o ∧ ∀ v, o.data ≠ .cell v) :
    Turn P w K (.Tuple elts kk tpos) (ItP n f) fp I0 (fun i h => i ≤ n ∧ Tn i h) where
  mem := hI
  obj := fun i h st b hb => obj i h st.2 b hb
  keep := fun i h h' st k => ⟨st.1, (W { frames := some [], handled := none } rfl).frame i h h' st.2 k⟩
  item := by
    intro X eP ew eK hc i pins s σ H E I hf st hg
    subst eP ew eK
    have G := W X.A (I.ok.hd hc)
    have sub : ∀ b ∈ wr, FpOk X pins H b := fun b hb => hf b (G.sub b hb)
    refine wpAny_mono (G.goes i s (fun u s2 => ∃ x H', Inv X pins σ H' s2 ∧ RelV x u ∧ (ItP n f).yld i H x H' ∧ (i + 1 ≤ n ∧ Tn (i + 1) s2.heap) ∧ ∀ b ∈ fp, H' b = none) E hg st.2 ?_) (fun r s1 h1 => h1) fun _ _ z => z
    intro v h' tk hY st' hk htk
    obtain ⟨T, vals, ev, hT, rv, ht⟩ := hY
    subst ev
    have new : ObjOk X.prog X.w (upd H T (.tup (f i))) h' T (.tup (f i)) := ⟨hs i, vals, rv, ht⟩
    refine ⟨.ref T, _, I.turnedNew hk sub hT new, rfl, ⟨T, rfl, I.hok.fresh hT, rfl⟩, ⟨hg, st'⟩, fun b hb => ?_⟩
    obtain ⟨o, e, _⟩ := obj i _ st.2 b hb
    rw [upd_ne (Nat.ne_of_lt (Nat.lt_of_lt_of_le (Heap.lt_size e) hT))]
    exact (hf b hb).1
  done := by
    intro X eP ew eK hc i pins s σ H E I hf st hg
    subst eP ew eK
    have G := W X.A (I.ok.hd hc)
    have e : i = n := Nat.le_antisymm st.1 hg
    subst e
    exact G.stops s _ E st.2 fun h' tk hk _ => I.turnedL hk fun b hb => hf b (G.sub b hb)
  self := fun A i s Q E st h => hself i A s Q E st.2 h
end Fo
namespace Fo
open PySem PySem.Spec PyProof.Rows L2

/-- a text's i-th sign, as a text -/
def sg (x : Str) (i : Nat) : V := .str ⟨#[x.cps.getD i 0]⟩
theorem sg_rel {x : Str} {i : Nat} {v : Value} (h : ∃ c u, x.cps[i]? = some c ∧ v = .str ⟨#[c]⟩ u) : RelV (sg x i) v := by
  obtain ⟨c, u, e, rfl⟩ := h
  refine ⟨u, ?_⟩
  rw [Array.getD_eq_getD_getElem?, e]
  rfl

/-- enumerate of a text -/
def iEnumS (ta : TA) : TI := fun σ H R => ta σ H fun vs H1 => ∃ x : Str, vs = [.str x] ∧ R (ItP x.cps.size fun i => [.int (i : Nat), sg x i]) H1
theorem pi_enumS {X : Cx} {e : Expr} {ta : TA} {p pos tpos : Pos} {elts : List Expr} {kk : Nat} (hg : Gl X "enumerate") (hm : X.mg "enumerate" = none) (ha : PA X [e] ta)
    (hs : starEach [e] X.env = [(false, eval e X.env)] := by rfl) : PI X (.Tuple elts kk tpos) (.Call (.Name "enumerate" p) [e] [] pos) (iEnumS ta) := by
  constructor
  intro pins s σ H R I h
  refine Call_ (ld_blt I hg hm boot_enumerate (callWith_type1 (thn (ha.run pos pins s σ H _ I h) ?_) hs rfl))
  rintro us s1 ⟨vs, H1, I1, r1, x, ex, q⟩
  subst ex
  obtain _ | ⟨r, rr⟩ := r1
  cases rr
  obtain ⟨t, rfl⟩ := r
  refine call_enumerate_str fun h' he hit hsz hk => wpAny_pyIter_enum he ?_
  have I2 := I1.kept (t' := s1.toks) hk
  have nz : s1.heap.objs.size + 1 ≠ s1.heap.objs.size := Nat.succ_ne_self _
  refine ⟨s1.heap.objs.size + 1, [s1.heap.objs.size + 1, s1.heap.objs.size], _, _, H1, rfl, I2, turn_pairs (wr := [s1.heap.objs.size + 1, s1.heap.objs.size]) (Tn := fun i h => (∃ old, IsEnum h (s1.heap.objs.size + 1) s1.heap.objs.size (0 + (i : Int)) old) ∧ h.IsStrIter s1.heap.objs.size (strIterType x) x t i)
    (fun A hh => ?_) (by simp) (fun i => by show 2 ≤ sizeLine; decide) (fun i A s Q E st h => wpAny_pyIter_enum st.1.choose_spec h) ?_, ⟨Nat.zero_le _, ⟨.none, by rw [show (0 : Int) + ((0 : Nat) : Int) = 0 from rfl]; exact he⟩, hit⟩, ?_, q⟩
  · refine (GoesN.enumFrom 0 (Draws.text (A := A.in1) hh s1.heap.objs.size x t) (s1.heap.objs.size + 1) nz (by simp) (by simp)).mono ?_
    rintro i h₀ v h _ ⟨T, u, z, rfl, hn, hz, ht⟩
    refine ⟨T, [.int (0 + (i : Int)) u, z], rfl, hn, .cons ⟨u, ?_⟩ (.cons (sg_rel hz) .nil), ht⟩
    rw [Int.zero_add]
  · rintro i h ⟨⟨old, he⟩, o, ho, hc, hd⟩ b hb
    rcases List.mem_cons.mp hb with rfl | hb
    · exact ⟨_, he, fun v z => nomatch z⟩
    · rw [List.mem_singleton.mp hb]
      exact ⟨o, ho, fun v z => by rw [hd] at z; cases z⟩
  · intro b hb
    have hle : s1.heap.objs.size ≤ b := by
      rcases List.mem_cons.mp hb with rfl | hb
      · exact Nat.le_succ _
      · exact Nat.le_of_eq (List.mem_singleton.mp hb).symm
    exact I1.fpOk hle (I1.hok.fresh hle)

/-- zip of two texts -/
def iZipS (ta : TA) : TI := fun σ H R => ta σ H fun vs H1 => ∃ x y : Str, vs = [.str x, .str y] ∧ R (ItP (min x.cps.size y.cps.size) fun i => [sg x i, sg y i]) H1
theorem pi_zipS {X : Cx} {e e2 : Expr} {ta : TA} {p pos tpos : Pos} {elts : List Expr} {kk : Nat} (hg : Gl X "zip") (hm : X.mg "zip" = none) (ha : PA X [e, e2] ta)
    (hs : starEach [e, e2] X.env = (false, eval e X.env) :: starEach [e2] X.env := by rfl) (hp : (backTo pos (starEach [e2] X.env)).any (·.1) = false := by rfl) :
    PI X (.Tuple elts kk tpos) (.Call (.Name "zip" p) [e, e2] [] pos) (iZipS ta) := by
  constructor
  intro pins s σ H R I h
  refine Call_ (ld_blt I hg hm PyProof.Rows.boot_zip (callWith_type1 (thn (ha.run pos pins s σ H _ I h) ?_) hs hp))
  rintro us s1 ⟨vs, H1, I1, r1, x, y, ex, q⟩
  subst ex
  obtain _ | ⟨r, rr⟩ := r1
  obtain _ | ⟨r', rr⟩ := rr
  cases rr
  obtain ⟨t, rfl⟩ := r
  obtain ⟨t', rfl⟩ := r'
  generalize hN : s1.heap.objs.size = N
  refine zip_begins2 (begins_text x t) (begins_text y t') trivial trivial fun h' hz hT hO g1 g2 hsz hk => ?_
  rw [hN] at hz hT hO g1 g2 hsz ⊢
  refine wpAny_pyIter_zip hz ?_
  have I2 := I1.kept (t' := s1.toks) hk
  refine ⟨N + 4, (N + 4) :: (N + 2) :: (N + 3) :: ([N] ++ [N + 1]), _, _, H1, rfl, I2, turn_pairs (wr := [N + 4, N + 3, N, N + 1]) (Tn := fun i h => IsZip h (N + 4) (N + 2) (N + 3) .none ∧ IsTupOf2 h (N + 2) (.ref N) (.ref (N + 1)) ∧ (∃ a1 a2, IsTupOf2 h (N + 3) a1 a2) ∧
      h.IsStrIter N (strIterType x) x t i ∧ h.IsStrIter (N + 1) (strIterType y) y t' i)
    (fun A hh => ?_) (by simp) (fun i => by show 2 ≤ sizeLine; decide) (fun i A s Q E st h => wpAny_pyIter_zip st.1 h) ?_, ⟨Nat.zero_le _, hz, hT, ⟨_, _, hO⟩, ⟨_, g1, rfl, rfl⟩, ⟨_, g2, rfl, rfl⟩⟩, ?_, q⟩
  · refine (GoesN.zip2 (zip_sep2 (N := N) (fp1 := []) (fp2 := []) (by simp) (by simp)) (Draws.text (A := A.in1) hh N x t) (Draws.text (A := A.in1) hh (N + 1) y t')).mono ?_
    rintro i h₀ v h _ ⟨T, a, b, rfl, hn, ha, hb, ht⟩
    exact ⟨T, [a, b], rfl, hn, .cons (sg_rel ha) (.cons (sg_rel hb) .nil), ht⟩
  · rintro i h ⟨e1, e2, ⟨_, _, e3⟩, ⟨o, ho, hc, hd⟩, ⟨o', ho', hc', hd'⟩⟩ b hb
    have e : b = N + 4 ∨ b = N + 2 ∨ b = N + 3 ∨ b = N ∨ b = N + 1 := by simpa using hb
    rcases e with rfl | rfl | rfl | rfl | rfl
    · exact ⟨_, e1, fun v z => nomatch z⟩
    · exact ⟨_, e2, fun v z => nomatch z⟩
    · exact ⟨_, e3, fun v z => nomatch z⟩
    · exact ⟨o, ho, fun v z => by rw [hd] at z; cases z⟩
    · exact ⟨o', ho', fun v z => by rw [hd'] at z; cases z⟩
  · intro b hb
    have e : b = N + 4 ∨ b = N + 2 ∨ b = N + 3 ∨ b = N ∨ b = N + 1 := by simpa using hb
    have hle : s1.heap.objs.size ≤ b := by
      rw [hN]
      rcases e with rfl | rfl | rfl | rfl | rfl
      · exact Nat.le_add_right _ _
      · exact Nat.le_add_right _ _
      · exact Nat.le_add_right _ _
      · exact Nat.le_refl _
      · exact Nat.le_add_right _ _
    exact I1.fpOk hle (I1.hok.fresh hle)
end Fo
namespace Fo
open PySem PySem.Spec PyProof.Rows L2

theorem hu64 {k : Nat} {A : Around} (hr : Room k A) : A.units + 64 < cLine := hr.units
theorem hu65 {k : Nat} {A : Around} (hr : Room k A) : A.units + 65 < cLine := by have := hr.un; omega
theorem rel_of_reads {A : Around} {d e : PyData} (h1 : d.depth ≤ 64) (hu : A.units + 64 < cLine) : A.units + min d.depth e.depth < cLine := by
  have h2 : min d.depth e.depth ≤ d.depth := Nat.min_le_left _ _
  omega
/-- x < y of data that are alike -/
def rLtD (K : PySem.W.Frag) : R2 := fun x y H Q => ∃ d e, Dp K H x d ∧ Dp K H y e ∧ PySem.W.alike d e = true ∧ d ≠ .none ∧ d.depth ≤ 64 ∧ Q (.bl (PySem.W.dataLt d e)) H
theorem op_ltD {X : Cx} (hu : X.A.units + 64 < cLine) : OpR X (compareOp .Lt) (rLtD X.K) := by
  intro pins s σ H x y v u Q I rx ry ⟨d, e, hd, he, ha, hn, sd, q⟩
  obtain ⟨as, r1⟩ := Dp.reads I d x v hd rx
  obtain ⟨bs, r2⟩ := Dp.reads I e y u he ry
  exact PySem.W.rcLt_alike d e X.A s v u as bs r1 r2 ha hn (rel_of_reads sd hu) _ _ _ _ ⟨.bl _, H, I, rfl, q⟩

/-! ### data stay data -/
theorem same_seqT {K : PySem.W.Frag} {H H' : Hp} {a : Addr} {xs : List V} (e : Same H H') (h : SqT K H a xs) : SqT K H' a xs := by
  rcases h with (h | ⟨o, h⟩) | h
  · exact .inl (.inl (e _ _ h))
  · exact .inl (.inr ⟨o, e _ _ h⟩)
  · exact .inr h
mutual
theorem dp_mono {K : PySem.W.Frag} {H H' : Hp} (e : Same H H') : ∀ {v : V} {d : PyData}, Dp K H v d → Dp K H' v d
  | _, _, .non => .non
  | _, _, .bl b => .bl b
  | _, _, .int i => .int i
  | _, _, .str x => .str x
  | _, _, .lst s a => .lst (e.seq s) (dps_mono e a)
  | _, _, .tup s a => .tup (same_seqT e s) (dps_mono e a)
theorem dps_mono {K : PySem.W.Frag} {H H' : Hp} (e : Same H H') : ∀ {vs : List V} {ds : List PyData}, DpAll K H vs ds → DpAll K H' vs ds
  | _, _, .nil => .nil
  | _, _, .cons h t => .cons (dp_mono e h) (dps_mono e t)
end
theorem dps_get {K : PySem.W.Frag} {H : Hp} : ∀ {vs : List V} {ds : List PyData}, DpAll K H vs ds → ∀ {i : Nat} {d : PyData}, ds[i]? = some d → ∃ v, vs[i]? = some v ∧ Dp K H v d
  | _, _, .nil, _, _, e => by simp at e
  | _, _, .cons h t, 0, _, e => ⟨_, rfl, (Option.some.inj e) ▸ h⟩
  | _, _, .cons h t, i + 1, _, e => by
    obtain ⟨v, h1, h2⟩ := dps_get t (i := i) (by simpa using e)
    exact ⟨v, by simpa using h1, h2⟩
theorem dps_len {K : PySem.W.Frag} {H : Hp} : ∀ {vs : List V} {ds : List PyData}, DpAll K H vs ds → vs.length = ds.length
  | _, _, .nil => rfl
  | _, _, .cons _ t => by rw [List.length_cons, List.length_cons, dps_len t]
theorem dps_append {K : PySem.W.Frag} {H : Hp} : ∀ {vs ws : List V} {ds es : List PyData}, DpAll K H vs ds → DpAll K H ws es → DpAll K H (vs ++ ws) (ds ++ es)
  | _, _, _, _, .nil, h => h
  | _, _, _, _, .cons a t, h => .cons a (dps_append t h)
theorem dps_ints {K : PySem.W.Frag} {H : Hp} : ∀ ns : List Int, DpAll K H (ns.map V.int) (ns.map PyData.int)
  | [] => .nil
  | n :: ns => .cons (.int n) (dps_ints ns)
theorem dps_strs {K : PySem.W.Frag} {H : Hp} : ∀ ns : List Str, DpAll K H (ns.map V.str) (ns.map PyData.str)
  | [] => .nil
  | n :: ns => .cons (.str n) (dps_strs ns)

/-! ### new objects -/
theorem same_new {H : Hp} {p : Addr} {o : HO} (h : H p = none) : Same H (upd H p o) := fun b u e => by
  rw [upd_ne (ne_of_none e h)]
  exact e

/-! ### loops over pairs -/
theorem for_pairs {n : Nat} {f : Nat → List V} {g : TG} {tb : TS} {D : Ends} {σ : L2.St} {H : Hp} (Pv : Nat → L2.St → Hp → Prop) (h0 : Pv 0 σ H)
    (hs : ∀ i σ H T, i < n → Pv i σ H → H T = none → g (.ref T) σ (upd H T (.tup (f i))) fun σ2 H2 => tb { D with nx := Pv (i + 1), ct := Pv (i + 1), bk := D.nx } σ2 H2) (hd : ∀ σ H, Pv n σ H → D.nx σ H) :
    ∃ W : Nat → Nat → L2.St → Hp → Prop, (∃ m, W 0 m σ H) ∧ ∀ i m σ H, W i m σ H →
      ((ItP n f).stop i H ∧ D.nx σ H) ∨ ((ItP n f).go i H ∧ ∃ N : L2.St → Hp → Prop, (∀ σ' H', N σ' H' → ∃ m', m' < m ∧ W (i + 1) m' σ' H') ∧ ∀ x H', (ItP n f).yld i H x H' → g x σ H' fun σ2 H2 => tb { D with nx := N, ct := N, bk := D.nx } σ2 H2) := by
  refine ⟨fun i m σ H => m = n - i ∧ i ≤ n ∧ Pv i σ H, ⟨n, rfl, Nat.zero_le _, h0⟩, ?_⟩
  rintro i m σ H ⟨rfl, hi, p⟩
  by_cases hlt : i < n
  · refine .inr ⟨hlt, Pv (i + 1), fun σ' H' p' => ⟨n - (i + 1), by omega, rfl, hlt, p'⟩, ?_⟩
    rintro x H' ⟨T, rfl, hT, rfl⟩
    exact hs i σ H T hlt p hT
  · obtain rfl : i = n := by omega
    exact .inl ⟨Nat.le_refl _, hd σ H p⟩
/-- over the signs of a text -/
theorem lc_str {z : Str} {g : TG} {tt : TT} {te : TE} {vs : List Nat} {σ : L2.St} {H1 : Hp} {D : Addr} {Qd : Hp → Prop} (Pv : Nat → Hp → Prop) (h0 : Pv 0 (upd H1 D (.lst [])))
    (hs : ∀ i H, i < z.cps.size → Pv i H → g (sg z i) (wipe σ vs) H fun σ2 H2 => wipe σ2 vs = wipe σ vs ∧ tt σ2 H2 fun b H3 =>
      if b = true then te σ2 H3 fun y H4 => ∃ acc, H4 D = some (.lst acc) ∧ acc.length < sizeLine ∧ Pv (i + 1) (upd H4 D (.lst (acc ++ [y]))) else Pv (i + 1) H3) (hd : ∀ H, Pv z.cps.size H → Qd H) :
    ∃ W : Nat → Nat → Hp → Prop, (∃ m, W 0 m (upd H1 D (.lst []))) ∧ ∀ i m H, W i m H →
      ((Its z).stop i H ∧ Qd H) ∨ ((Its z).go i H ∧ ∃ Nx : Hp → Prop, (∀ H', Nx H' → ∃ m', m' < m ∧ W (i + 1) m' H') ∧ ∀ x H', (Its z).yld i H x H' → g x (wipe σ vs) H' fun σ2 H2 => wipe σ2 vs = wipe σ vs ∧ tt σ2 H2 fun b H3 =>
        if b = true then te σ2 H3 fun y H4 => ∃ acc, H4 D = some (.lst acc) ∧ acc.length < sizeLine ∧ Nx (upd H4 D (.lst (acc ++ [y]))) else Nx H3) := by
  refine ⟨fun i m H => m = z.cps.size - i ∧ i ≤ z.cps.size ∧ Pv i H, ⟨z.cps.size, rfl, Nat.zero_le _, h0⟩, ?_⟩
  rintro i m H ⟨rfl, hi, p⟩
  by_cases hlt : i < z.cps.size
  · refine .inr ⟨hlt, Pv (i + 1), fun H' p' => ⟨z.cps.size - (i + 1), by omega, rfl, hlt, p'⟩, ?_⟩
    intro x H' hy
    obtain ⟨rfl, c, e, rfl⟩ := hy
    have ec : sg z i = .str ⟨#[c]⟩ := by
      unfold sg
      rw [Array.getD_eq_getD_getElem?, e]
      rfl
    rw [← ec]
    exact hs i _ hlt p
  · obtain rfl : i = z.cps.size := by omega
    exact .inl ⟨Nat.le_refl _, hd H p⟩
end Fo
namespace Fo
open PySem PySem.Spec PyProof.Rows L2 TL

/-! ### texts as lists of signs -/
abbrev S (l : List Nat) : Str := ⟨l.toArray⟩
theorem tlS (l : List Nat) : tl (S l) = l := rfl
theorem S_tl (x : Str) : S (tl x) = x := mk_tl x
theorem len_S (l : List Nat) : (S l).length = l.length := by rw [len_tl]
theorem size_tl (x : Str) : x.cps.size = (tl x).length := len_tl x
theorem sg_eq (x : Str) (i : Nat) : sg x i = .str (S [(tl x).getD i 0]) := by
  unfold sg
  congr 2
  simp [tl, Array.getD_eq_getD_getElem?, List.getD_eq_getElem?_getD]
theorem sg_S (l : List Nat) (i : Nat) : sg (S l) i = .str (S [l.getD i 0]) := sg_eq (S l) i
theorem getD_mem {l : List Nat} {i : Nat} (h : i < l.length) : l.getD i 0 ∈ l := by
  rw [List.getD_eq_getElem?_getD, List.getElem?_eq_getElem h]
  exact List.getElem_mem h
theorem getD_at {l : List Nat} {i : Nat} (h : i < l.length) : l[i]? = some (l.getD i 0) := by
  rw [List.getD_eq_getElem?_getD, List.getElem?_eq_getElem h]
  rfl
theorem idxOf_first {l : List Nat} {c i : Nat} (h : l[i]? = some c) (hn : ∀ k, k < i → l[k]? ≠ some c) : l.idxOf c = i := by
  induction l generalizing i with
  | nil => simp at h
  | cons a r ih =>
    cases i with
    | zero =>
      obtain rfl : a = c := Option.some.inj h
      exact List.idxOf_cons_self
    | succ i =>
      have ha : a ≠ c := fun e => hn 0 (Nat.succ_pos _) (by rw [e]; rfl)
      have e := ih (i := i) (by simpa using h) fun k hk => by
        have := hn (k + 1) (Nat.succ_lt_succ hk)
        simpa using this
      rw [List.idxOf_cons, e, beq_eq_false_iff_ne.mpr ha]
      rfl
theorem occ_ix (a : Str) (c : Nat) (h : c ∈ tl a) : ∃ r, Builtin.Str.occurrences a (S [c]) 0 a.length 1 = (tl a).idxOf c :: r := by
  rcases StrLaws.occ_head a (S [c]) 1 (Nat.le_refl 1) with ⟨_, hn⟩ | ⟨i, r, h0, hi, hn⟩
  · obtain ⟨i, hi⟩ := (mem_iff_at a c).mp h
    exact absurd hi (hn i)
  · refine ⟨r, ?_⟩
    rw [h0, idxOf_first (i := i) ((StrLaws.subAt_one a c i).mp hi) fun k hk e => hn k hk ((StrLaws.subAt_one a c k).mpr e)]
theorem tl_join0 : ∀ ys : List Str, tl (Txt.join (Str.ofString "") ys) = (ys.map tl).flatten := by
  have e0 : tl (Str.ofString "") = [] := by decide +kernel
  have key : ∀ ls : List (List Nat), joinL [] ls = ls.flatten := by
    intro ls
    induction ls with
    | nil => rfl
    | cons p r ih =>
      cases r with
      | nil => simp [joinL]
      | cons q r => rw [show joinL [] (p :: q :: r) = p ++ ([] ++ joinL [] (q :: r)) from rfl, ih]; simp
  intro ys
  have := tl_join (Str.ofString "") ys
  rw [e0, key] at this
  rw [eq_of_beq (join_plain_closes (Str.ofString "") ys)]
  exact this
theorem join_signs (l : List Nat) : Txt.join (Str.ofString "") (l.map fun c => S [c]) = S l := by
  refine ext_tl ?_
  rw [tl_join0, tlS, List.map_map]
  induction l with
  | nil => rfl
  | cons c r ih => rw [List.map_cons, List.flatten_cons, ih]; rfl
/-- z[:k] -/
theorem cut_to (z : Str) (k : Nat) : cutS z none (some (k : Int)) = S ((tl z).take k) := by
  unfold cutS
  refine ext_tl ?_
  rw [tlS, HT.sIx_none, HT.sIx_nat]
  show ((tl z).drop 0).take (min k z.length - 0) = _
  rw [List.drop_zero, Nat.sub_zero, len_tl]
  rcases Nat.le_total k (tl z).length with h | h
  · rw [Nat.min_eq_left h]
  · rw [Nat.min_eq_right h, List.take_of_length_le (Nat.le_refl _), List.take_of_length_le h]
/-- z[k:] -/
theorem cut_from (z : Str) (k : Nat) : cutS z (some (k : Int)) none = S ((tl z).drop k) := by
  unfold cutS
  refine ext_tl ?_
  rw [tlS, HT.sIx_none, HT.sIx_nat]
  rcases Nat.le_total k (tl z).length with h | h
  · rw [len_tl, Nat.min_eq_left h]
    exact List.take_of_length_le (by rw [List.length_drop]; exact Nat.le_refl _)
  · rw [len_tl, Nat.min_eq_right h, List.drop_of_length_le h, List.drop_of_length_le (Nat.le_refl _), List.take_nil]
theorem at_nat {α : Type} {xs : List α} {i : Nat} {v : α} (h : xs[i]? = some v) : atI xs (i : Int) = some v := atI_nat h

theorem at_int {α : Type} {xs : List α} {k : Int} {v : α} (h0 : 0 ≤ k) (h : xs[k.toNat]? = some v) : atI xs k = some v := by
  have e : ((k.toNat : Nat) : Int) = k := Int.toNat_of_nonneg h0
  rw [← e]
  exact atI_nat h
theorem map_at {α β : Type} {f : α → β} {xs : List α} {i : Nat} (h : i < xs.length) : (xs.map f)[i]? = some (f xs[i]) := by
  rw [List.getElem?_map, List.getElem?_eq_getElem h]
  rfl

/-! ### tests over places -/
def allN (n : Nat) (p : Nat → Bool) : Bool := (List.range n).all p
theorem allN_true {n : Nat} {p : Nat → Bool} (h : ∀ i, i < n → p i = true) : allN n p = true := List.all_eq_true.mpr fun i hi => h i (List.mem_range.mp hi)
theorem allN_false {n i : Nat} {p : Nat → Bool} (hi : i < n) (h : p i = false) : allN n p = false := by
  cases e : allN n p with
  | false => rfl
  | true => rw [List.all_eq_true.mp e i (List.mem_range.mpr hi)] at h; cases h
end Fo
namespace Fo
open PySem PySem.Spec PyProof.Rows L2 TL
/-! ### the rules that speak of the written part, with that part named -/
section
variable {X : Cx} {K : PySem.W.Frag}
theorem kBM {e : Expr} {T : String} {r : V → List V → Hp → VK → Prop} {to : TE} {t : TA} (hK : X.K = K) (h : PE X e (tBM X.K T r to t)) : PE X e (tBM K T r to t) := hK ▸ h
theorem kLi {tg e : Expr} {t : TE} (hK : X.K = K) (h : PI X tg e (iList X.K t)) : PI X tg e (iList K t) := hK ▸ h
theorem kTi {tg e : Expr} {t : TE} (hK : X.K = K) (h : PI X tg e (iTup X.K t)) : PI X tg e (iTup K t) := hK ▸ h
theorem kTg {e : Expr} {n : Nat} {t : TGs} (hK : X.K = K) (h : PG X e (gTup X.K n t)) : PG X e (gTup K n t) := hK ▸ h
theorem kIxL (hK : X.K = K) : IxR X (rIxL K) := hK ▸ ix_list
theorem kIxT (hK : X.K = K) : IxR X (rIxT K) := hK ▸ ix_tup
theorem kSlL (hK : X.K = K) : SlR X (rSlL K) := hK ▸ sl_list
def rLn (K : PySem.W.Frag) : List V → Hp → VK → Prop := fun xs H Q => ∃ p ys, xs = [.ref p] ∧ (SqL K H p ys ∨ SqT K H p ys) ∧ Q (.int ys.length) H
theorem kLen (hK : X.K = K) : CallR X (.builtin "len") (rLn K) := hK ▸ call_len_seq
def rLs (K : PySem.W.Frag) : List V → Hp → VK → Prop := fun xs H Q => ∃ p ys, xs = [.ref p] ∧ (SqL K H p ys ∨ SqT K H p ys) ∧ ∀ l, H l = none → Q (.ref l) (upd H l (.lst ys))
theorem kLst (hK : X.K = K) : CallR X (.type "list") (rLs K) := hK ▸ call_list_of
def rTp (K : PySem.W.Frag) : List V → Hp → VK → Prop := fun xs H Q => ∃ p ys, xs = [.ref p] ∧ ((SqL K H p ys ∧ ∀ l, H l = none → Q (.ref l) (upd H l (.tup ys))) ∨ (SqT K H p ys ∧ Q (.ref p) H))
theorem kTup (hK : X.K = K) : CallR X (.type "tuple") (rTp K) := hK ▸ call_tuple_of
theorem kTyp (hK : X.K = K) : CallR X (.type "type") (rTyp K) := hK ▸ call_type1
theorem kAll (hK : X.K = K) (hc : X.calm = true) : CallR X (.builtin "all") (rAll K) := hK ▸ cr_all hc
def rJn (K : PySem.W.Frag) : V → List V → Hp → VK → Prop := fun x xs H Q => ∃ a p, ∃ ys : List Str, x = .str a ∧ xs = [.ref p] ∧ (SqL K H p (ys.map V.str) ∨ SqT K H p (ys.map V.str)) ∧
  (ys.map (·.length)).sum + ys.length * a.length ≤ 16777216 ∧ Q (.str (Txt.join a ys)) H
theorem kJn (hK : X.K = K) : MtR X "str.join" (rJn K) := hK ▸ mt_join
theorem kIn (hK : X.K = K) : OpR X (compareOp .In) (rIn K false) := hK ▸ op_in_seq
theorem kNin (hK : X.K = K) : OpR X (compareOp .NotIn) (rIn K true) := hK ▸ op_notIn_seq
theorem kEqD (hK : X.K = K) (hu : X.A.units + 64 < cLine) : OpR X (compareOp .Eq) (rEqD K) := hK ▸ op_eqD hu
theorem kNeD (hK : X.K = K) (hu : X.A.units + 64 < cLine) : OpR X (compareOp .NotEq) (rNeD K) := hK ▸ op_neD hu
theorem kLtD (hK : X.K = K) (hu : X.A.units + 64 < cLine) : OpR X (compareOp .Lt) (rLtD K) := hK ▸ op_ltD hu
end
end Fo
namespace Fo
open PySem PySem.Spec PyProof.Rows L2 TL
/-! ### the law's draws -/
theorem lim6000 {n : Nat} (h : n ≤ 6060) : n < sizeLine := Nat.lt_of_le_of_lt h (by decide)
/-- the law's box at b: a row of ints that stands still, and a place in it -/
structure Bx (K : PySem.W.Frag) (b : Addr) (F H : Hp) : Prop where
  sub : Same F H
  nf : F b = none
  at' : ∃ (r : Addr) (ns : List Int) (n : Int), H b = some (.lst [.ref r, .int n]) ∧ SqL K F r (ns.map V.int) ∧ 0 ≤ n
def Keep (b : Addr) (H H' : Hp) : Prop := ∀ p o, p ≠ b → H p = some o → H' p = some o
theorem Keep.refl {b : Addr} {H : Hp} : Keep b H H := fun _ _ _ e => e
theorem Keep.trans {b : Addr} {H H1 H2 : Hp} (h : Keep b H H1) (h' : Keep b H1 H2) : Keep b H H2 := fun p o n e => h' p o n (h p o n e)
theorem Keep.of {b : Addr} {H H' : Hp} (h : Same H H') : Keep b H H' := fun p o _ e => h p o e
theorem Bx.live {K : PySem.W.Frag} {b : Addr} {F H : Hp} (B : Bx K b F H) : ∃ o, H b = some o := by
  obtain ⟨r, ns, n, e, _⟩ := B.at'
  exact ⟨_, e⟩
theorem Bx.same {K : PySem.W.Frag} {b : Addr} {F H H' : Hp} (B : Bx K b F H) (h : Same H H') : Bx K b F H' := by
  obtain ⟨r, ns, n, e, q⟩ := B.at'
  exact ⟨B.sub.trans h, B.nf, r, ns, n, h _ _ e, q⟩
/-- another object that is not frozen changes -/
theorem Bx.off {K : PySem.W.Frag} {b D : Addr} {F H : Hp} {o : HO} (B : Bx K b F H) (hF : F D = none) (hb : b ≠ D) : Bx K b F (upd H D o) := by
  obtain ⟨r, ns, n, e, q⟩ := B.at'
  refine ⟨fun p u h => ?_, B.nf, r, ns, n, by rw [upd_ne hb]; exact e, q⟩
  rw [upd_ne (ne_of_none h hF)]
  exact B.sub p u h
theorem Bx.free {K : PySem.W.Frag} {b D : Addr} {F H : Hp} (B : Bx K b F H) (h : H D = none) : F D = none ∧ b ≠ D := by
  obtain ⟨o, e⟩ := B.live
  exact ⟨B.sub.free h, ne_of_none e h⟩
/-! ### a text joined of signs -/
abbrev ones (w : List Nat) : List V := (w.map fun c => S [c]).map V.str
theorem ones_add (w : List Nat) (c : Nat) : ones w ++ [.str (S [c])] = ones (w ++ [c]) := by
  unfold ones
  rw [List.map_append, List.map_append]
  rfl
theorem ones_len (w : List Nat) : (ones w).length = w.length := by unfold ones; rw [List.length_map, List.length_map]
theorem ones_sum (w : List Nat) : ((w.map fun c => S [c]).map (·.length)).sum = w.length := by
  induction w with
  | nil => rfl
  | cons c r ih => rw [List.map_cons, List.map_cons, List.sum_cons, ih, List.length_cons]; show 1 + _ = _; omega
theorem lim5 {n : Nat} (h : n ≤ 100000) : n < sizeLine := Nat.lt_of_le_of_lt h (by decide)
theorem lim5' {n : Nat} (h : n ≤ 100000) : n ≤ sizeLine := Nat.le_of_lt (lim5 h)
theorem join_r {X : Cx} {H : Hp} {D : Addr} {w : List Nat} {Q : VK} (hD : H D = some (.lst (ones w))) (hw : w.length ≤ 100000) (q : Q (.str (S w)) H) :
    ∃ a p, ∃ ys : List Str, V.str (Str.ofString "") = .str a ∧ [V.ref D] = [.ref p] ∧ (SqL X.K H p (ys.map V.str) ∨ SqT X.K H p (ys.map V.str)) ∧ (ys.map (·.length)).sum + ys.length * a.length ≤ 16777216 ∧ Q (.str (Txt.join a ys)) H := by
  refine ⟨_, D, w.map fun c => S [c], rfl, rfl, .inl (SqL.of hD), ?_, ?_⟩
  · rw [ones_sum, show (Str.ofString "").length = 0 by decide +kernel]
    omega
  · rw [join_signs]
    exact q

/-! ### what a thing's type is -/
def tyn : PyData → String
  | .none => "NoneType"
  | .bool _ => "bool"
  | .int _ => "int"
  | .str _ => "str"
  | .list _ => "list"
  | .tuple _ => "tuple"
  | .dict _ => "dict"
theorem dp_tyb {K : PySem.W.Frag} {H : Hp} {v : V} {d : PyData} (h : Dp K H v d) : TyB K H v (tyn d) := by
  cases h with
  | non => exact .non
  | bl b => exact .bl b
  | int i => exact .int i
  | str x => exact .str x
  | lst s _ => exact .lst s
  | tup s _ => exact .tup s
theorem dp_tyx {K : PySem.W.Frag} {H : Hp} {v : V} {d : PyData} (h : Dp K H v d) : TyX K H v (.type (tyn d)) := by
  cases h with
  | non => exact .base .non
  | bl b => exact .base (.bl b)
  | int i => exact .base (.int i)
  | str x => exact .base (.str x)
  | lst s _ =>
    rcases s with (s | ⟨o, s⟩) | ⟨o, its, n, hk, hc, _⟩
    · exact .base (.lst s)
    · exact .base (.frz s)
    · exact .kList hk hc
  | tup s _ =>
    rcases s with (s | ⟨o, s⟩) | ⟨o, its, n, hk, hc, _⟩
    · exact .base (.tup s)
    · exact .fTuple s
    · exact .kTuple hk hc
theorem kit_str {K : PySem.W.Frag} {H : Hp} {v : V} {d : PyData} (h : Dp K H v d) : PySem.W.kitOne K (.type (tyn d)) (.type "str") = some (decide (tyn d = "str")) := by
  cases h with
  | non => exact kit_ty (by show kitB "NoneType" "str" = some false; decide +kernel)
  | bl b => exact kit_ty (by show kitB "bool" "str" = some false; decide +kernel)
  | int i => exact kit_ty (by show kitB "int" "str" = some false; decide +kernel)
  | str x => exact kit_ty (by show kitB "str" "str" = some true; decide +kernel)
  | lst _ _ => exact kit_ty (by show kitB "list" "str" = some false; decide +kernel)
  | tup _ _ => exact kit_ty (by show kitB "tuple" "str" = some false; decide +kernel)
theorem kit_bool {K : PySem.W.Frag} : PySem.W.kitOne K (.type "bool") (.type "bool") = some true := kit_ty (by decide +kernel)

/-! ### alphabets -/
abbrev abc : List Nat := tl (Str.ofString "abcdefghijklmnopqrstuvwxyz")
def okAt (l : List Nat) (i : Nat) : Bool := decide (l.getD i 0 ∈ abc) && !decide (l.getD i 0 ∈ l.take i)
def alphaB (l : List Nat) : Bool := decide (1 ≤ l.length) && decide (l.length ≤ 5) && allN l.length (okAt l)
def alphaD : PyData → Bool
  | .str s => alphaB (tl s)
  | _ => false
theorem alphaD_not {d : PyData} (h : tyn d ≠ "str") : alphaD d = false := by
  cases d with
  | str s => exact absurd rfl h
  | _ => rfl
theorem is_str {d : PyData} (h : tyn d = "str") : ∃ s, d = .str s := by
  cases d with
  | str s => exact ⟨s, rfl⟩
  | _ => simp [tyn] at h
theorem getD_tl (s : Str) (i : Nat) : s.cps.getD i 0 = (tl s).getD i 0 := by simp [tl, Array.getD_eq_getD_getElem?, List.getD_eq_getElem?_getD]
def SmallD (d : PyData) : Prop := ∀ s, d = .str s → s.length ≤ 100000
theorem bnot_of {c : Bool} (h : ¬ (!c) = true) : c = true := by
  cases c with
  | true => rfl
  | false => exact absurd rfl h
theorem bnot_if {c : Bool} (h : (!c) = true) : c = false := by
  cases c with
  | true => exact absurd h Bool.false_ne_true
  | false => rfl
theorem b_of {c : Bool} (h : ¬ c = true) : c = false := by
  cases c with
  | true => exact absurd rfl h
  | false => rfl
theorem bl_eq (a b : Bool) : decide (V.bl a = V.bl b) = decide (a = b) := by cases a <;> cases b <;> rfl
/-! ### words -/
def wordB (al l : List Nat) : Bool := allN l.length fun i => decide (l.getD i 0 ∈ al)
def wordD (al : List Nat) : PyData → Bool
  | .str s => wordB al (tl s)
  | _ => false
theorem wordB_true {al l : List Nat} (h : ∀ c ∈ l, c ∈ al) : wordB al l = true := allN_true fun i hi => decide_eq_true (h _ (getD_mem hi))
theorem wordB_false {al l : List Nat} {c : Nat} (h : c ∈ l) (h' : c ∉ al) : wordB al l = false := by
  obtain ⟨i, hi, e⟩ := List.mem_iff_getElem.mp h
  refine allN_false hi (decide_eq_false ?_)
  rw [List.getD_eq_getElem?_getD, List.getElem?_eq_getElem hi]
  exact e ▸ h'
theorem wordD_not {al : List Nat} {d : PyData} (h : tyn d ≠ "str") : wordD al d = false := by
  cases d with
  | str s => exact absurd rfl h
  | _ => rfl
/-! ### the order of words -/
def lt1 (al : List Nat) : List Nat → List Nat → Bool
  | x :: xs, y :: ys => if x = y then lt1 al xs ys else decide (al.idxOf x < al.idxOf y)
  | _, _ => false
def cbL (al u v : List Nat) : Bool := if u.length = v.length then lt1 al u v else decide (u.length < v.length)
theorem lt1_self (al : List Nat) : ∀ u : List Nat, lt1 al u u = false
  | [] => rfl
  | x :: xs => by
    show (if x = x then lt1 al xs xs else _) = false
    rw [if_pos rfl, lt1_self al xs]
theorem lt1_at {al : List Nat} : ∀ {u v : List Nat} {i : Nat}, i < u.length → i < v.length → (∀ j, j < i → u.getD j 0 = v.getD j 0) → u.getD i 0 ≠ v.getD i 0 →
    lt1 al u v = decide (al.idxOf (u.getD i 0) < al.idxOf (v.getD i 0))
  | [], _, _, h, _, _, _ => absurd h (Nat.not_lt_zero _)
  | _ :: _, [], _, _, h, _, _ => absurd h (Nat.not_lt_zero _)
  | x :: xs, y :: ys, 0, _, _, _, hn => by
    show (if x = y then lt1 al xs ys else decide (al.idxOf x < al.idxOf y)) = _
    rw [if_neg (show ¬ x = y from hn)]
    rfl
  | x :: xs, y :: ys, i + 1, h1, h2, he, hn => by
    show (if x = y then lt1 al xs ys else decide (al.idxOf x < al.idxOf y)) = _
    rw [if_pos (show x = y from he 0 (Nat.succ_pos _))]
    exact lt1_at (Nat.lt_of_succ_lt_succ h1) (Nat.lt_of_succ_lt_succ h2) (fun j hj => he (j + 1) (Nat.succ_lt_succ hj)) hn
theorem idx_inj {al : List Nat} {x y : Nat} (hx : x ∈ al) (e : al.idxOf x = al.idxOf y) (hy : y ∈ al) : x = y := by
  have h1 := List.getElem_idxOf (List.idxOf_lt_length_of_mem hx)
  have h2 := List.getElem_idxOf (List.idxOf_lt_length_of_mem hy)
  rw [← h1, ← h2]
  congr 1
def ixD (al : List Nat) (u : List Nat) : List PyData := (u.map fun c => ((al.idxOf c : Nat) : Int)).map PyData.int
def keyD (al u : List Nat) : PyData := .tuple [.int (u.length : Int), .list (ixD al u)]
theorem row_lt1 {al : List Nat} : ∀ {u v : List Nat}, u.length = v.length → (∀ c ∈ u, c ∈ al) → (∀ c ∈ v, c ∈ al) →
    PyProof.Rows.lexLt itemOrd (PySem.W.keyToksAll (ixD al u)) (PySem.W.keyToksAll (ixD al v)) = lt1 al u v
  | [], [], _, _, _ => by
    show PyProof.Rows.lexLt itemOrd (PySem.W.keyToksAll []) (PySem.W.keyToksAll []) = false
    decide +kernel
  | [], _ :: _, h, _, _ => by cases h
  | _ :: _, [], h, _, _ => by cases h
  | x :: xs, y :: ys, h, hu, hv => by
    have ih := row_lt1 (al := al) (u := xs) (v := ys) (Nat.succ.inj h) (fun c hc => hu c (List.mem_cons_of_mem _ hc)) (fun c hc => hv c (List.mem_cons_of_mem _ hc))
    show PyProof.Rows.lexLt itemOrd (PySem.W.keyToksAll (.int (al.idxOf x : Nat) :: ixD al xs)) (PySem.W.keyToksAll (.int (al.idxOf y : Nat) :: ixD al ys)) = (if x = y then lt1 al xs ys else decide (al.idxOf x < al.idxOf y))
    rw [PySem.W.dataLt_cons (by rfl), ih, PySem.W.dataLt_int]
    have hx := hu x List.mem_cons_self
    have hy := hv y List.mem_cons_self
    by_cases e : x = y
    · subst e
      rw [if_pos rfl, if_pos (by show ((al.idxOf x : Nat) : Int) == ((al.idxOf x : Nat) : Int); simp)]
    · have ne : ¬ al.idxOf x = al.idxOf y := fun z => e (idx_inj hx z hy)
      rw [if_neg e, if_neg (by show ¬ (((al.idxOf x : Nat) : Int) == ((al.idxOf y : Nat) : Int)) = true; simp; omega)]
      simp
theorem key_lt {al u v : List Nat} (hu : ∀ c ∈ u, c ∈ al) (hv : ∀ c ∈ v, c ∈ al) : PySem.W.dataLt (keyD al u) (keyD al v) = cbL al u v := by
  unfold keyD cbL
  rw [PySem.W.dataLt_tuple, PySem.W.dataLt_cons (by rfl), PySem.W.dataLt_int]
  by_cases e : u.length = v.length
  · rw [if_pos e, if_pos (by show (((u.length : Nat) : Int) == ((v.length : Nat) : Int)) = true; simp [e])]
    have al1 : PySem.W.alike (.list (ixD al u)) (.list (ixD al v)) = true := by
      rw [PySem.W.alike]
      have : ∀ a b : List Int, PySem.W.alikeAll (a.map PyData.int) (b.map PyData.int) = true := by
        intro a
        induction a with
        | nil => intro b; rw [List.map_nil, PySem.W.alikeAll]
        | cons x r ih =>
          intro b
          cases b with
          | nil => rw [List.map_nil, List.map_cons, PySem.W.alikeAll]
          | cons y t => rw [List.map_cons, List.map_cons, PySem.W.alikeAll, ih t, PySem.W.alike]; rfl
      exact this _ _
    rw [PySem.W.dataLt_cons al1, PySem.W.dataLt_list, row_lt1 e hu hv]
    by_cases q : PyData.eqv (.list (ixD al u)) (.list (ixD al v)) = true
    · rw [if_pos q]
      have : u = v := by
        have key : ∀ a b : List Nat, (∀ c ∈ a, c ∈ al) → (∀ c ∈ b, c ∈ al) → PyData.eqvAll (ixD al a) (ixD al b) = true → a = b := by
          intro a
          induction a with
          | nil =>
            intro b _ _ h
            cases b with
            | nil => rfl
            | cons y t => rw [show PyData.eqvAll (ixD al []) (ixD al (y :: t)) = false by unfold ixD; rw [List.map_nil, List.map_nil, List.map_cons, List.map_cons, PyData.eqvAll]] at h; cases h
          | cons x r ih =>
            intro b ha hb h
            cases b with
            | nil => rw [show PyData.eqvAll (ixD al (x :: r)) (ixD al []) = false by unfold ixD; rw [List.map_nil, List.map_nil, List.map_cons, List.map_cons, PyData.eqvAll]] at h; cases h
            | cons y t =>
              have h2 : (PyData.eqv (.int (al.idxOf x : Nat)) (.int (al.idxOf y : Nat)) && PyData.eqvAll (ixD al r) (ixD al t)) = true := by
                unfold ixD at h ⊢
                rw [List.map_cons, List.map_cons, List.map_cons, List.map_cons, PyData.eqvAll] at h
                exact h
              rw [Bool.and_eq_true] at h2
              have e1 : al.idxOf x = al.idxOf y := by
                have := h2.1
                rw [PyData.eqv] at this
                have := eq_of_beq this
                omega
              rw [idx_inj (ha x List.mem_cons_self) e1 (hb y List.mem_cons_self), ih t (fun c hc => ha c (List.mem_cons_of_mem _ hc)) (fun c hc => hb c (List.mem_cons_of_mem _ hc)) h2.2]
        rw [PyData.eqv] at q
        exact key u v hu hv q
      subst this
      rw [lt1_self]
      decide +kernel
    · rw [if_neg q]
  · rw [if_neg e, if_neg (by show ¬ (((u.length : Nat) : Int) == ((v.length : Nat) : Int)) = true; simp; omega)]
    simp
theorem sg_ne (u v : List Nat) (i : Nat) : decide (sg (S u) i = sg (S v) i) = decide (u.getD i 0 = v.getD i 0) := by
  rw [sg_S, sg_S]
  by_cases e : u.getD i 0 = v.getD i 0
  · rw [e, decide_eq_true rfl, decide_eq_true rfl]
  · rw [decide_eq_false e]
    refine decide_eq_false fun z => e ?_
    have h1 := congrArg tl (V.str.inj z)
    rw [tlS, tlS] at h1
    exact List.head_eq_of_cons_eq h1
theorem Bx.grow {K : PySem.W.Frag} {b D : Addr} {F H : Hp} {o : HO} (B : Bx K b F H) (hD : H D = some o) (hb : b ≠ D) : Bx K b (upd F D o) H := by
  obtain ⟨r, ns, n, e, q, h0⟩ := B.at'
  have s1 : Same F (upd F D o) := fun p u h => by
    by_cases z : p = D
    · subst z
      rw [upd_same, ← hD]
      exact B.sub _ _ h
    · rw [upd_ne z]
      exact h
  refine ⟨fun p u h => ?_, by rw [upd_ne hb]; exact B.nf, r, ns, n, e, s1.seq q, h0⟩
  by_cases z : p = D
  · subst z
    rw [upd_same] at h
    rw [hD]
    exact h
  · rw [upd_ne z] at h
    exact B.sub _ _ h
theorem join_sz {w : List Nat} (hw : w.length ≤ 100000) : ((w.map fun c => S [c]).map (·.length)).sum + (w.map fun c => S [c]).length * (Str.ofString "").length ≤ 16777216 := by
  rw [ones_sum, show (Str.ofString "").length = 0 by decide +kernel]
  omega
/-- a thing that may be asked -/
def Th (K : PySem.W.Frag) (F : Hp) (v : V) : Prop := ∃ d, Dp K F v d ∧ SmallD d
theorem th_str {K : PySem.W.Frag} {F : Hp} (s : Str) (h : s.length ≤ 100000) : Th K F (.str s) := ⟨.str s, .str s, fun z e => by cases e; exact h⟩
theorem no_false {c : Bool} (h : (!decide (c = c)) = true) : False := by rw [decide_eq_true rfl] at h; exact absurd h (by decide)
theorem alph4 (n : Nat) (h : n < 4) : ∃ al : List Nat, ([V.str (Str.ofString "ba"), .str (Str.ofString "cab"), .str (Str.ofString "z"), .str (Str.ofString "dacbe")] : List V)[n]? = some (.str (S al)) ∧ alphaB al = true ∧ al ≠ [] ∧ al.length ≤ 5 ∧ 113 ∉ al :=
  match n, h with
  | 0, _ => ⟨tl (Str.ofString "ba"), by rw [S_tl]; rfl, by decide +kernel, by decide +kernel, by decide +kernel, by decide +kernel⟩
  | 1, _ => ⟨tl (Str.ofString "cab"), by rw [S_tl]; rfl, by decide +kernel, by decide +kernel, by decide +kernel, by decide +kernel⟩
  | 2, _ => ⟨tl (Str.ofString "z"), by rw [S_tl]; rfl, by decide +kernel, by decide +kernel, by decide +kernel, by decide +kernel⟩
  | 3, _ => ⟨tl (Str.ofString "dacbe"), by rw [S_tl]; rfl, by decide +kernel, by decide +kernel, by decide +kernel, by decide +kernel⟩
theorem alike_ints : ∀ a b : List Int, PySem.W.alikeAll (a.map PyData.int) (b.map PyData.int) = true
  | [], b => by rw [List.map_nil, PySem.W.alikeAll]
  | x :: r, [] => by rw [List.map_nil, List.map_cons, PySem.W.alikeAll]
  | x :: r, y :: t => by rw [List.map_cons, List.map_cons, PySem.W.alikeAll, alike_ints r t, PySem.W.alike]; rfl
theorem key_alike (al u v : List Nat) : PySem.W.alike (keyD al u) (keyD al v) = true := by
  unfold keyD
  rw [PySem.W.alike, PySem.W.alikeAll, PySem.W.alikeAll, PySem.W.alikeAll, PySem.W.alike, PySem.W.alike]
  unfold ixD
  rw [alike_ints]
  rfl
theorem depth_ints : ∀ a : List Int, PyData.depthAll (a.map PyData.int) = 0
  | [] => by rw [List.map_nil, PyData.depthAll]
  | x :: r => by rw [List.map_cons, PyData.depthAll, depth_ints r, PyData.depth]; rfl
theorem key_depth (al u : List Nat) : (keyD al u).depth ≤ 64 := by
  unfold keyD
  rw [PyData.depth, PyData.depthAll, PyData.depthAll, PyData.depthAll, PyData.depth, PyData.depth]
  unfold ixD
  rw [depth_ints]
  decide
theorem w_at {ws : List (List Nat)} {i : Nat} {x : V} (h : (ws.map fun u => V.str (S u))[i]? = some x) : ∃ u, u ∈ ws ∧ x = .str (S u) := by
  rw [List.getElem?_map] at h
  cases e : ws[i]? with
  | none => rw [e] at h; cases h
  | some u =>
    rw [e] at h
    exact ⟨u, List.mem_of_getElem? e, (Option.some.inj h).symm⟩
theorem small_S {u : List Nat} (h : u.length ≤ 100000) : SmallD (.str (S u)) := fun z e => by cases e; rw [len_S]; exact h
theorem word_q {al : List Nat} (u : List Nat) (h : 113 ∉ al) : wordD al (.str (S u ++ Str.ofString "q")) = false := by
  refine wordB_false (c := 113) ?_ h
  rw [tl_append]
  exact List.mem_append_right _ (by decide +kernel)
end Fo
namespace Fo
open PySem PySem.Spec PyProof.Rows L2 TL
/-! ### a text read backwards -/
def tRevS (te : TE) : TE := fun σ H Q => te σ H fun x H1 => ∃ z : Str, x = .str z ∧ z.length ≤ sizeLine ∧ Q (.str (S (tl z).reverse)) H1
theorem rev_ix (z : Str) : (Builtin.Str.strSliceIndices none none (-1) z.length).filterMap (z.cps[·]?) = (tl z).reverse := by
  show (sliceRange ((z.length : Int) - 1) (-1) (-1)).filterMap (z.cps[·]?) = _
  rw [PySem.W.krv_sliceRange, PySem.W.krv_range, List.filterMap_reverse]
  exact congrArg List.reverse (PySem.W.krv_all z.cps)
theorem pe_revS {X : Cx} {e : Expr} {te : TE} {k : Nat} {p1 p2 p3 pos : Pos} (he : PE X e te) : PE X (.Subscript e (.Slice none none (some (.UnaryOp .USub (.Constant (.int 1) k p1) p2)) p3) pos) (tRevS te) := by
  constructor
  intro pins s σ H Q I h
  refine Subscript_ (thn (he.run pins s σ H _ I h) ?_)
  rintro v s1 ⟨x, H1, I1, r1, z, ex, hz, q⟩
  subst ex
  obtain ⟨t, rfl⟩ := r1
  have hst : PO X (some (.UnaryOp .USub (.Constant (.int 1) k p1) p2)) (tPart (tUn (rU fun i => .int (-i)) (tC (.int 1)))) := po_some (pe_un un_neg pe_int)
  refine wpAny_Slice (thn (po_none.run pins s1 σ H1 (fun o H2 => o = none ∧ H2 = H1) I1 ⟨rfl, rfl⟩) ?_)
  rintro vl s2 ⟨l, H2, I2, pl, rfl, rfl⟩
  refine thn (po_none.run pins s2 σ H2 (fun o H3 => o = none ∧ H3 = H2) I2 ⟨rfl, rfl⟩) ?_
  rintro vu s3 ⟨u, H3, I3, pu, rfl, rfl⟩
  refine thn (hst.run pins s3 σ H3 (fun o H4 => o = some (-1) ∧ H4 = H3) I3 ⟨1, rfl, -1, rfl, rfl, rfl⟩) ?_
  rintro vs s4 ⟨o, H4, I4, ps, rfl, rfl⟩
  have I5 : L2.Inv X pins σ H4 { s4 with heap := s4.heap.push { cls := .type "slice", data := .fields #[vl, vu, vs] } } := I4.kept (t' := s4.toks) fun b ob w => Heap.get?_push_of_some _ w
  obtain ⟨l, rfl, el⟩ := IsPart.raw pl
  obtain ⟨u, rfl, eu⟩ := IsPart.raw pu
  obtain ⟨c, rfl, ec⟩ := IsPart.raw ps
  show wpAny (model X.prog X.w) X.A (subscriptTail e (.Slice none none (some (.UnaryOp .USub (.Constant (.int 1) k p1) p2)) p3) (.str z t) (.ref s4.heap.objs.size)) (EP X pins σ Q) X.xe _
  refine tail_any (ops := [.str z t, .ref s4.heap.objs.size]) (typeIs_str _ _ _) PySem.F.slot_str_getitem.lookup ?_ (by with_unfolding_all rfl)
  refine wpAny_getItem_str_slice (l := l) (u := u) (st := c) ⟨_, Heap.get?_push_size _ rfl, rfl, rfl⟩ (by rw [ec]; rfl) ?_
  unfold sliceMade slicePicked
  rw [el, eu, ec]
  show Made.post (if ((-1 : Int) == 1 && (Builtin.Str.strSliceIndices none none (-1) z.length).length == z.length) = true then Made.val (.str z t)
    else Made.str ⟨((Builtin.Str.strSliceIndices none none (-1) z.length).filterMap (z.cps[·]?)).toArray⟩) (EP X pins σ Q) _
  rw [if_neg (by rw [show ((-1 : Int) == 1) = false by decide, Bool.false_and]; exact Bool.false_ne_true), rev_ix]
  refine ⟨?_, .str (S (tl z).reverse), H4, I5.tok _, ⟨_, rfl⟩, q⟩
  show (S (tl z).reverse).length ≤ sizeLine
  rw [len_S, List.length_reverse, ← len_tl]
  exact hz
end Fo
namespace Fo
open PySem PySem.Spec PyProof.Rows L2 TL
/-! ### list(zip(xs, ys)) of two lists -/
theorem zl_no_len : typeLookup (.type "zip") "__len__" = pure none := am_miss_of_fast (by decide +kernel)
theorem zl_no_hint : typeLookup (.type "zip") "__length_hint__" = pure none := am_miss_of_fast (by decide +kernel)
def ZlSt (z TI TO i1 i2 l1 l2 S : Addr) (xs ys : Array Value) (i : Nat) (h : Heap) : Prop :=
  IsPair h TI (.ref i1) (.ref i2) ∧ h.IsListIter i1 l1 i ∧ h.IsListIter i2 l2 i ∧ h.IsList l1 xs ∧ h.IsList l2 ys ∧
  ((IsZip h z TI TO .none ∧ ∃ a b, IsPair h TO a b) ∨ ∃ T f oT, IsZipHeld h z TI TO T f ∧ h.get? T = some oT ∧ T ≠ z ∧ T ≠ i1 ∧ T ≠ i2 ∧ T ≠ S)
section
variable {prog : Program} {w : World} {A : Around} {E : Value → Shared → Prop} {s : Shared} {z TI TO i1 i2 l1 l2 S : Addr} {xs ys : Array Value}
theorem ZlSt.frame {i : Nat} {h h' : Heap} (st : ZlSt z TI TO i1 i2 l1 l2 S xs ys i h) (off : ∀ c ∈ [z, TI, TO, i1, i2, l1, l2], c ≠ S) (hk : ∀ b o, b ≠ S → h.get? b = some o → h'.get? b = some o) : ZlSt z TI TO i1 i2 l1 l2 S xs ys i h' := by
  obtain ⟨hTI, h1, h2, hl1, hl2, hz⟩ := st
  have dz := off z (by simp)
  have dTI := off TI (by simp)
  have dTO := off TO (by simp)
  have di1 := off i1 (by simp)
  have di2 := off i2 (by simp)
  have dl1 := off l1 (by simp)
  have dl2 := off l2 (by simp)
  refine ⟨hk _ _ dTI hTI, h1.at fun o e => hk _ o di1 e, h2.at fun o e => hk _ o di2 e, hl1.at fun o e => hk _ o dl1 e, hl2.at fun o e => hk _ o dl2 e, ?_⟩
  rcases hz with ⟨hz, a, b, hTO⟩ | ⟨T, f, oT, hz, hT, r1, r2, r3, r4⟩
  · exact .inl ⟨hk _ _ dz hz, a, b, hk _ _ dTO hTO⟩
  · exact .inr ⟨T, f, oT, hk _ _ dz hz, hk _ _ r4 hT, r1, r2, r3, r4⟩
theorem zl_item {i : Nat} {Q : Option Value → Shared → Prop} (D : ZipApart z TI TO i1 i2 l1 l2) (hi : i < min xs.size ys.size) (st : ZlSt z TI TO i1 i2 l1 l2 S xs ys i s.heap) (hds : S < s.heap.objs.size)
    (hQ : ∀ x y h', xs[i]? = some x → ys[i]? = some y → IsPair h' s.heap.objs.size x y → ZlSt z TI TO i1 i2 l1 l2 S xs ys (i + 1) h' → (∀ b o, b ∉ [z, TO, i1, i2] → s.heap.get? b = some o → h'.get? b = some o) → Q (some (.ref s.heap.objs.size)) { s with heap := h' }) :
    wpAny (model prog w) A (pyNext (.ref z)) Q E s := by
  obtain ⟨hTI, h1, h2, hl1, hl2, hz⟩ := st
  have hix : i < xs.size := Nat.lt_of_lt_of_le hi (Nat.min_le_left ..)
  have hiy : i < ys.size := Nat.lt_of_lt_of_le hi (Nat.min_le_right ..)
  have ex := Array.getElem?_eq_getElem hix
  have ey := Array.getElem?_eq_getElem hiy
  have lt : ∀ {c o}, s.heap.get? c = some o → s.heap.objs.size ≠ c := fun e => Nat.ne_of_gt (Heap.lt_size e)
  have n1 : s.heap.objs.size ≠ i1 := let ⟨_, e, _⟩ := h1; lt e
  have n2 : s.heap.objs.size ≠ i2 := let ⟨_, e, _⟩ := h2; lt e
  rcases hz with ⟨hz, a, b, hTO⟩ | ⟨T, f, oT, hz, hT, r1, r2, r3, r4⟩
  · refine wpAny_pyNext_zip_item D hz hTI hTO h1 h2 hl1 hl2 ex ey fun h' a1 a2 a3 a4 a5 a6 hk => ?_
    exact hQ _ _ h' ex ey a5
      ⟨hk _ _ D.TIz D.TITO D.TIi1 D.TIi2 hTI, a3, a4, hl1.at fun o e => hk _ o D.l1z D.l1TO D.l1i1 D.l1i2 e, hl2.at fun o e => hk _ o D.l2z D.l2TO D.l2i1 D.l2i2 e,
        .inr ⟨s.heap.objs.size, false, _, a1, a5, lt hz, n1, n2, Nat.ne_of_gt hds⟩⟩
      fun c o hc e => hk c o (fun x => hc (by simp [x])) (fun x => hc (by simp [x])) (fun x => hc (by simp [x])) (fun x => hc (by simp [x])) e
  · refine wpAny_pyNext_zip_item_held D hz hT hTI h1 h2 hl1 hl2 ex ey fun h' a1 a3 a4 a5 a6 hk => ?_
    exact hQ _ _ h' ex ey a5
      ⟨hk _ _ D.TIz D.TIi1 D.TIi2 hTI, a3, a4, hl1.at fun o e => hk _ o D.l1z D.l1i1 D.l1i2 e, hl2.at fun o e => hk _ o D.l2z D.l2i1 D.l2i2 e,
        .inr ⟨T, true, oT, a1, hk _ _ r1 r2 r3 hT, r1, r2, r3, r4⟩⟩
      fun c o hc e => hk c o (fun x => hc (by simp [x])) (fun x => hc (by simp [x])) (fun x => hc (by simp [x])) e
theorem zl_done {Q : Option Value → Shared → Prop} (hA : A.handled = none) (D : ZipApart z TI TO i1 i2 l1 l2) (st : ZlSt z TI TO i1 i2 l1 l2 S xs ys (min xs.size ys.size) s.heap)
    (hQ : ∀ h', (∀ b o, b ∉ [z, TO, i1, i2] → s.heap.get? b = some o → h'.get? b = some o) → Q none { s with heap := h' }) : wpAny (model prog w) A (pyNext (.ref z)) Q E s := by
  obtain ⟨hTI, h1, h2, hl1, hl2, hz⟩ := st
  have hend : xs[min xs.size ys.size]? = none ∨ ys[min xs.size ys.size]? = none := by
    rcases Nat.le_total xs.size ys.size with h | h
    · exact .inl (Array.getElem?_eq_none (by rw [Nat.min_eq_left h]; exact Nat.le_refl _))
    · exact .inr (Array.getElem?_eq_none (by rw [Nat.min_eq_right h]; exact Nat.le_refl _))
  rcases hz with ⟨hz, a, b, hTO⟩ | ⟨T, f, oT, hz, hT, r1, r2, r3, r4⟩
  · exact wpAny_pyNext_zip_end hA D hz hTI hTO h1 h2 hl1 hl2 hend fun h' hk => hQ h' fun c o hc e => hk c o (fun x => hc (by simp [x])) (fun x => hc (by simp [x])) (fun x => hc (by simp [x])) (fun x => hc (by simp [x])) e
  · exact wpAny_pyNext_zip_end_held hA D hz hT hTI h1 h2 hl1 hl2 hend fun h' hk => hQ h' fun c o hc e => hk c o (fun x => hc (by simp [x])) (fun x => hc (by simp [x])) (fun x => hc (by simp [x])) e

structure ZlG (xs ys : Array Value) (lo : Addr) (h : Heap) (as : List Addr) : Prop where
  rise : as.Pairwise (· < ·)
  above : ∀ a ∈ as, lo < a
  pairs : ∀ (j : Nat) (a : Addr), as[j]? = some a → ∃ x y, xs[j]? = some x ∧ ys[j]? = some y ∧ IsPair h a x y
theorem ZlG.there {lo : Addr} {h : Heap} {as : List Addr} (g : ZlG xs ys lo h as) {a : Addr} (ha : a ∈ as) : a < h.objs.size := by
  obtain ⟨j, hj⟩ := List.mem_iff_getElem?.mp ha
  obtain ⟨_, _, _, _, e⟩ := g.pairs j a hj
  exact Heap.lt_size e
end
section
variable {prog : Program} {w : World} {A : Around} {s : Shared} {R : Result → Shared → Prop} {z TI TO i1 i2 l1 l2 S : Addr} {xs ys : Array Value}
theorem zl_loop (hh : A.handled = none) (D : ZipApart z TI TO i1 i2 l1 l2) (off : ∀ c ∈ [z, TI, TO, i1, i2, l1, l2], c < S) (hn : min xs.size ys.size ≤ sizeLine) (res : Value) {h₁ : Heap}
    (hR : ∀ h' acc c as, (∀ b o, b ≠ S → b ∉ [z, TO, i1, i2] → h₁.get? b = some o → h'.get? b = some o) → h'.get? S = some { cls := .type "list", dict := none, data := .seq acc c, slots := #[] } → as.length = min xs.size ys.size → ZlG xs ys S h' as →
      acc.toList = as.map Value.ref → R (.ok (.ret res)) { s with heap := h' }) :
    ∀ (k i : Nat) (h : Heap) (c : Nat) (acc : Array Value) (as : List Addr), min xs.size ys.size - i = k → i ≤ min xs.size ys.size → ZlSt z TI TO i1 i2 l1 l2 S xs ys i h → (∀ b o, b ≠ S → b ∉ [z, TO, i1, i2] → h₁.get? b = some o → h.get? b = some o) →
      h.get? S = some { cls := .type "list", dict := none, data := .seq acc c, slots := #[] } → acc.toList = as.map Value.ref → as.length = i → ZlG xs ys S h as →
      codeAny (model prog w) A (.builtin "list.extend.loop" ⟨[.ref S, .ref z, res], []⟩) R { s with heap := h } := by
  have offn : ∀ c ∈ [z, TI, TO, i1, i2, l1, l2], c ≠ S := fun c hc => Nat.ne_of_lt (off c hc)
  have sub : ∀ c ∈ [z, TO, i1, i2], c ∈ [z, TI, TO, i1, i2, l1, l2] := fun c hc => by
    simp only [List.mem_cons, List.not_mem_nil, or_false] at hc ⊢
    rcases hc with e | e | e | e <;> simp [e]
  have hSn : S ∉ [z, TO, i1, i2] := fun hm => Nat.lt_irrefl _ (off S (sub S hm))
  have above_n : ∀ a, S < a → a ∉ [z, TO, i1, i2] := fun a ha hm => Nat.lt_asymm ha (off a (sub a hm))
  intro k
  induction k with
  | zero =>
    intro i h c acc as hk hi hst hkeep hS hacc hal hG
    have hin : i = min xs.size ys.size := by omega
    refine codeAny_builtin PySem.F.entry_extend_loop ?_
    rw [Around.under_plainId PySem.F.plain_extend_loop _]
    show wpAny _ A.in1 (pyNext (.ref z) >>= _) _ _ _
    refine wpAny_bind (zl_done (s := { s with heap := h }) (A := A.in1) hh D (hin ▸ hst) fun h' he => ?_)
    refine wpAny_pure (hR h' acc c as (fun b o h1 h2 e => he b o h2 (hkeep b o h1 h2 e)) (he S _ hSn hS) (by omega) ⟨hG.rise, hG.above, fun j a hj => ?_⟩ hacc)
    obtain ⟨x, y, e1, e2, e3⟩ := hG.pairs j a hj
    exact ⟨x, y, e1, e2, he a _ (above_n a (hG.above a (List.mem_of_getElem? hj))) e3⟩
  | succ k ih =>
    intro i h c acc as hk hi hst hkeep hS hacc hal hG
    have hlt : i < min xs.size ys.size := by omega
    have hsz : acc.size = i := by rw [← Array.length_toList, hacc, List.length_map, hal]
    refine codeAny_builtin PySem.F.entry_extend_loop ?_
    rw [Around.under_plainId PySem.F.plain_extend_loop _]
    show wpAny _ A.in1 (pyNext (.ref z) >>= _) _ _ _
    have hSl : S < h.objs.size := Heap.lt_size hS
    refine wpAny_bind (zl_item (s := { s with heap := h }) (S := S) D hlt hst hSl fun x y h' hx hy ht hst' hkp => ?_)
    dsimp only at ht hkp ⊢
    have hS' := hkp S _ hSn hS
    have up : ∀ b o, b ≠ S → h'.get? b = some o → (h'.update S (Obj.mapSeq (·.push (Value.ref h.objs.size)))).get? b = some o := fun b o hb e => (Heap.get?_update_other _ _ (Ne.symm hb)).trans e
    show wpAny _ A.in1 (updateSeq S (·.push (Value.ref h.objs.size)) >>= _) _ _ _
    refine wpAny_bind ?_
    refine wpAny_updateSeq hS' rfl (wpAny_pure ⟨plainId_quiet PySem.F.plain_extend_loop _, ih (i + 1) _ _ (acc.push (Value.ref h.objs.size)) (as ++ [h.objs.size]) (by omega) hlt (hst'.frame offn up)
      (fun b o h1 h2 e => up b o h1 (hkp b o h2 (hkeep b o h1 h2 e))) (Heap.get?_update_self _ hS' rfl) (by rw [Array.toList_push, hacc, List.map_append]; rfl) (by rw [List.length_append, hal]; rfl) ⟨?_, ?_, ?_⟩⟩) (by rw [hsz]; omega) (by show (acc.push (Value.ref h.objs.size)).size ≤ sizeLine + 1; rw [Array.size_push, hsz]; omega)
    · refine List.pairwise_append.mpr ⟨hG.rise, List.pairwise_singleton _ _, fun a ha b hb => ?_⟩
      rw [List.mem_singleton.mp hb]
      exact hG.there ha
    · intro a ha
      rcases List.mem_append.mp ha with ha | ha
      · exact hG.above a ha
      · rw [List.mem_singleton.mp ha]; exact hSl
    · intro j b hj
      rcases Nat.lt_trichotomy j as.length with h1 | h1 | h1
      · rw [List.getElem?_append_left h1] at hj
        obtain ⟨x', y', e1, e2, e3⟩ := hG.pairs j b hj
        have hb := hG.above b (List.mem_of_getElem? hj)
        exact ⟨x', y', e1, e2, up b _ (Nat.ne_of_gt hb) (hkp b _ (above_n b hb) e3)⟩
      · subst h1
        have hb : h.objs.size = b := by simpa using hj
        subst hb
        exact ⟨x, y, by rw [hal]; exact hx, by rw [hal]; exact hy, up _ _ (Nat.ne_of_gt hSl) ht⟩
      · have hnone : (as ++ [h.objs.size])[j]? = none := List.getElem?_eq_none (by rw [List.length_append, List.length_singleton]; omega)
        rw [hnone] at hj; cases hj
theorem zl_hint {E : Value → Shared → Prop} (hT : s.TypeIs (.ref z) "zip") {Q : Bool → Shared → Prop} (h : Q true s) : wpAny (model prog w) A (Builtin.List.listLengthHint (.ref z)) Q E s := by
  unfold Builtin.List.listLengthHint
  refine wpAny_bind (wpAny_specialOf hT zl_no_len ?_)
  show wpAny _ A (specialOf (Value.ref z) (Str.ofString "__length_hint__") >>= _) _ _ _
  refine wpAny_bind (wpAny_specialOf hT zl_no_hint ?_)
  exact wpAny_pure h
theorem zl_call {E : Value → Shared → Prop} {Q : Value → Shared → Prop} (hh : A.handled = none) (D : ZipApart z TI TO i1 i2 l1 l2) (hz : IsZip s.heap z TI TO .none) (hTI : IsPair s.heap TI (.ref i1) (.ref i2)) (hTO : ∃ a b, IsPair s.heap TO a b)
    (g1 : s.heap.IsListIter i1 l1 0) (g2 : s.heap.IsListIter i2 l2 0) (hl1 : s.heap.IsList l1 xs) (hl2 : s.heap.IsList l2 ys) (hn : min xs.size ys.size ≤ sizeLine)
    (hQ : ∀ h' acc c as, (∀ b o, b ∉ [z, TO, i1, i2] → s.heap.get? b = some o → h'.get? b = some o) → h'.get? s.heap.objs.size = some { cls := .type "list", dict := none, data := .seq acc c, slots := #[] } → as.length = min xs.size ys.size →
      ZlG xs ys s.heap.objs.size h' as → acc.toList = as.map Value.ref → Q (.ref s.heap.objs.size) { s with heap := h' }) :
    wpAny (model prog w) A (call (.type "list") [.ref z]) Q E s := by
  have off : ∀ c ∈ [z, TI, TO, i1, i2, l1, l2], c < s.heap.objs.size := fun c hc => by
    obtain ⟨a, b, hTO⟩ := hTO
    obtain ⟨o1, e1, _⟩ := g1
    obtain ⟨o2, e2, _⟩ := g2
    obtain ⟨o3, e3, _⟩ := hl1
    obtain ⟨o4, e4, _⟩ := hl2
    simp only [List.mem_cons, List.not_mem_nil, or_false] at hc
    rcases hc with rfl | rfl | rfl | rfl | rfl | rfl | rfl
    · exact Heap.lt_size hz
    · exact Heap.lt_size hTI
    · exact Heap.lt_size hTO
    · exact Heap.lt_size e1
    · exact Heap.lt_size e2
    · exact Heap.lt_size e3
    · exact Heap.lt_size e4
  have offn : ∀ c ∈ [z, TI, TO, i1, i2, l1, l2], c ≠ s.heap.objs.size := fun c hc => Nat.ne_of_lt (off c hc)
  have hzS : z ≠ s.heap.objs.size := offn z (by simp)
  have st0 : ZlSt z TI TO i1 i2 l1 l2 s.heap.objs.size xs ys 0 s.heap := ⟨hTI, g1, g2, hl1, hl2, .inl ⟨hz, hTO⟩⟩
  refine callType_codes (Q₁ := fun obj s₁ => obj = .ref s.heap.objs.size ∧ s₁ = { s with heap := s.heap.push { cls := .type "list", data := .seq #[] } }) PySem.F.called_list (PySem.F.typeCall_list_1 _) PySem.F.entry_list_init
    (code_list_new _ ⟨rfl, rfl⟩) fun obj s₁ h₁ => ?_
  obtain ⟨rfl, rfl⟩ := h₁
  have hS : (s.heap.push { cls := .type "list", data := .seq #[] }).get? s.heap.objs.size = some { cls := .type "list", data := .seq #[] } := Heap.get?_push_size _ rfl
  refine ⟨⟨_, hS, rfl⟩, PySem.F.args_list_init_2 _ _, ?_⟩
  have fin : ∀ (h : Heap) (c₁ : Nat), (∀ b o, b ≠ s.heap.objs.size → s.heap.get? b = some o → h.get? b = some o) → h.get? s.heap.objs.size = some { cls := .type "list", data := .seq #[] c₁ } →
      codeAny (model prog w) A.in1 (.builtin "list.extend.loop" ⟨[.ref s.heap.objs.size, .ref z, .none], []⟩) (wants (fun r s₂ => r = .none ∧ Q (.ref s.heap.objs.size) s₂) E) { s with heap := h } := by
    intro h c₁ hk hS₁
    refine zl_loop (s := s) (h₁ := s.heap) (A := A.in1) hh D off hn .none (fun h' acc c as hk' hS' hl hG hacc => ⟨rfl, hQ h' acc c as (fun b o hb e => hk' b o (Nat.ne_of_lt (Heap.lt_size e)) hb e) hS' hl hG hacc⟩)
      _ 0 h c₁ #[] [] (Nat.sub_zero _) (Nat.zero_le _) (st0.frame offn hk) (fun b o hb _ e => hk b o hb e) hS₁ rfl rfl ⟨List.Pairwise.nil, (fun _ ha => nomatch ha), (fun j a hj => by simp at hj)⟩
  show wpAny _ _ (do let old ← Builtin.List.listItems (.ref s.heap.objs.size); Builtin.List.listUpdate (.ref s.heap.objs.size) (fun _ => #[]); letGo old.toList.reverse; Builtin.List.listExtendWith (.ref s.heap.objs.size) (.ref z) .none) _ _ _
  refine wpAny_bind ?_
  unfold Builtin.List.listItems
  refine wpAny_bind (wpAny_seqItems hS rfl (wpAny_pure ?_))
  show wpAny _ _ (updateSeq s.heap.objs.size (fun _ => #[]) >>= fun _ => letGo (#[] : Array Value).toList.reverse >>= fun _ => Builtin.List.listExtendWith (.ref s.heap.objs.size) (.ref z) .none) _ _ _
  refine wpAny_bind (wpAny_updateSeq hS rfl ?_)
  have hS₂ := Heap.get?_update_self (Obj.mapSeq (fun _ => (#[] : Array Value))) hS rfl
  have oth : ∀ b o, b ≠ s.heap.objs.size → s.heap.get? b = some o → ((s.heap.push { cls := .type "list", data := .seq #[] }).update s.heap.objs.size (Obj.mapSeq (fun _ => (#[] : Array Value)))).get? b = some o :=
    fun b o hb e => (Heap.get?_update_other _ _ (Ne.symm hb)).trans (Heap.get?_push_of_some _ e)
  refine wpAny_bind (wpAny_letGo ?_)
  have hz₂ := oth _ _ hzS hz
  have hT₂ : Shared.TypeIs { s with heap := (s.heap.push { cls := .type "list", data := .seq #[] }).update s.heap.objs.size (Obj.mapSeq (fun _ => (#[] : Array Value))) } (.ref z) "zip" := ⟨_, hz₂, rfl⟩
  unfold Builtin.List.listExtendWith
  refine wpAny_bind (wpAny_typeOf (T := "zip") hT₂ ?_)
  have h1 : Builtin.List.listSameRef (.ref s.heap.objs.size) (.ref z) = false := by simp [Builtin.List.listSameRef, hzS.symm]
  have h2 : (Value.type "zip" == Value.type "list") = false := by decide
  have h3 : (Value.type "zip" == Value.type "tuple") = false := by decide
  simp only [h1, h2, h3, Bool.or_false, Bool.false_eq_true, if_false]
  refine wpAny_bind (wpAny_pyIter_zip hz₂ ?_)
  refine wpAny_bind (wpAny_holding (zl_hint hT₂ ?_))
  refine wpAny_ite_split (fun _ => ?_) (fun _ => wpAny_pure ⟨plainId_quiet PySem.F.plain_extend_loop _, fin _ _ oth hS₂⟩)
  refine wpAny_bind (wpAny_rule ?_)
  refine wpAny_bind ?_
  show wpAny _ _ (updateSeq s.heap.objs.size (·.push .none) >>= fun _ => updateSeq s.heap.objs.size (·.pop)) _ _ _
  refine wpAny_bind (wpAny_updateSeq hS₂ rfl ?_)
  have hS₃ := Heap.get?_update_self (Obj.mapSeq (·.push Value.none)) hS₂ rfl
  refine wpAny_updateSeq (hz := by seq_fits) hS₃ rfl ?_
  have hS₄ := Heap.get?_update_self (Obj.mapSeq (·.pop)) hS₃ rfl
  refine wpAny_pure ⟨plainId_quiet PySem.F.plain_extend_loop _, fin _ _ (fun b o hb e => ?_) hS₄⟩
  exact (Heap.get?_update_other _ _ (Ne.symm hb)).trans ((Heap.get?_update_other _ _ (Ne.symm hb)).trans (oth b o hb e))
end
/-! ### its reading -/
def putL : Hp → List Addr → List (List V) → Hp
  | H, a :: as, p :: ps => putL (upd H a (.tup p)) as ps
  | H, _, _ => H
theorem putL_off {b : Addr} : ∀ (as : List Addr) (ps : List (List V)) (H : Hp), b ∉ as → putL H as ps b = H b
  | [], _, _, _ => rfl
  | _ :: _, [], _, _ => rfl
  | a :: as, p :: ps, H, h => by
    show putL (upd H a (.tup p)) as ps b = H b
    rw [putL_off as ps _ (fun z => h (List.mem_cons_of_mem _ z)), upd_ne (fun z => h (by rw [z]; exact List.mem_cons_self))]
theorem putL_at : ∀ (as : List Addr) (ps : List (List V)) (H : Hp), as.length = ps.length → as.Nodup → ∀ (j : Nat) (t : Addr), as[j]? = some t → ∃ p, ps[j]? = some p ∧ putL H as ps t = some (.tup p)
  | [], _, _, _, _, j, t, e => by simp at e
  | _ :: _, [], _, h, _, _, _, _ => by cases h
  | a :: as, p :: ps, H, h, hn, 0, t, e => by
    have hn' := List.nodup_cons.mp hn
    obtain rfl : a = t := by simpa using e
    refine ⟨p, rfl, ?_⟩
    show putL (upd H a (.tup p)) as ps a = some (.tup p)
    rw [putL_off as ps _ hn'.1, upd_same]
  | a :: as, p :: ps, H, h, hn, j + 1, t, e => by
    obtain ⟨q, e1, e2⟩ := putL_at as ps (upd H a (.tup p)) (Nat.succ.inj h) (List.nodup_cons.mp hn).2 j t (by simpa using e)
    exact ⟨q, by simpa using e1, e2⟩
def rLZ (K : PySem.W.Frag) : List V → Hp → VK → Prop := fun vs H Q => ∃ a b xs ys, vs = [.ref a, .ref b] ∧ SqL K H a xs ∧ SqL K H b ys ∧ min xs.length ys.length ≤ sizeLine ∧
  ∀ (H' : Hp) (p : Addr) (ts : List Addr), Same H H' → H p = none → (∀ t ∈ ts, H t = none) → p ∉ ts → H' p = some (.lst (ts.map V.ref)) → ts.length = min xs.length ys.length →
    (∀ (j : Nat) (t : Addr), ts[j]? = some t → ∃ x y, xs[j]? = some x ∧ ys[j]? = some y ∧ H' t = some (.tup [x, y])) → Q (.ref p) H'
def tLZ (K : PySem.W.Frag) (ta : TA) : TE := fun σ H Q => ta σ H fun vs H1 => rLZ K vs H1 Q
theorem pe_listZip {X : Cx} {K : PySem.W.Frag} {e e2 : Expr} {ta : TA} {p q cpos pos : Pos} (hK : X.K = K) (hc : X.calm = true) (hg : Gl X "list") (hm : X.mg "list" = none) (hg2 : Gl X "zip") (hm2 : X.mg "zip" = none) (ha : PA X [e, e2] ta)
    (hv : bootBuiltins "list" = some (.type "list") := by decide +kernel)
    (hs2 : starEach [e, e2] X.env = (false, eval e X.env) :: starEach [e2] X.env := by rfl) (hpl2 : (backTo cpos (starEach [e2] X.env)).any (·.1) = false := by rfl)
    (hs : starEach [.Call (.Name "zip" q) [e, e2] [] cpos] X.env = (false, eval (.Call (.Name "zip" q) [e, e2] [] cpos) X.env) :: starEach [] X.env := by rfl) :
    PE X (.Call (.Name "list" p) [.Call (.Name "zip" q) [e, e2] [] cpos] [] pos) (tLZ K ta) := by
  subst hK
  refine ⟨fun pins s σ H Q I h => ?_⟩
  refine wpAny_Call_Name_kw (ld_blt I hg hm hv ?_)
  refine PyProof.Rows.callWith_type1 ?_ hs rfl
  rw [hs]
  show wpAny _ _ (spliced ((false, eval (.Call (.Name "zip" q) [e, e2] [] cpos) X.env) :: backTo pos (starEach [] X.env))) _ _ s
  refine Calls.spliced_cons ?_
  refine Call_ (ld_blt I hg2 hm2 PyProof.Rows.boot_zip (PyProof.Rows.callWith_type1 (thn (ha.run cpos pins s σ H _ I h) fun us s1 ⟨vs, H1, I1, r1, q1⟩ => ?_) hs2 hpl2))
  obtain ⟨a, b, xs, ys, ex, hqx, hqy, hmn, q1⟩ := q1
  subst ex
  obtain _ | ⟨r, rr⟩ := r1
  obtain _ | ⟨r', rr⟩ := rr
  cases rr
  cases r
  cases r'
  obtain ⟨its, rv, p1, _⟩ := I1.list hqx
  obtain ⟨its2, rv2, p2, _⟩ := I1.list hqy
  have lx := rv.length
  have ly := rv2.length
  refine call_zip_2 p1.isList p2.isList fun h' hz hTI hTO h1 h2 hsz hk => ?_
  refine Calls.spliced_nil ?_
  refine zl_call (s := { s1 with heap := h' }) (I1.ok.hd hc) (PySem.W.ktu_apart s1.heap.objs.size a b p1.lt p2.lt) hz hTI ⟨_, _, hTO⟩ h1 h2 (p1.isList.at fun o e => hk _ o e) (p2.isList.at fun o e => hk _ o e)
    (by rw [List.size_toArray, List.size_toArray, ← lx, ← ly]; exact hmn) fun h'' acc c as hk2 hS hl hG hacc => ?_
  dsimp only at hk2 hS hG ⊢
  generalize hN : s1.heap.objs.size = N at hsz hk2
  have old : ∀ b o, s1.heap.get? b = some o → h''.get? b = some o := fun b o e => by
    have hb := Heap.lt_size e
    rw [hN] at hb
    refine hk2 b o (fun hm => ?_) (hk b o e)
    simp only [List.mem_cons, List.not_mem_nil, or_false] at hm
    have hb : Nat.lt b N := hb
    rcases hm with z | z | z | z
    · have z : @Eq Nat b (N + 4) := z; have hb : (b : Nat) < N := hb; exact absurd hb (by rw [z]; exact Nat.not_lt.mpr (Nat.le_add_right _ _))
    · have z : @Eq Nat b (N + 3) := z; have hb : (b : Nat) < N := hb; exact absurd hb (by rw [z]; exact Nat.not_lt.mpr (Nat.le_add_right _ _))
    · have z : @Eq Nat b N := z; have hb : (b : Nat) < N := hb; exact absurd hb (by rw [z]; exact Nat.lt_irrefl _)
    · have z : @Eq Nat b (N + 1) := z; have hb : (b : Nat) < N := hb; exact absurd hb (by rw [z]; exact Nat.not_lt.mpr (Nat.le_add_right _ _))
  generalize hM : h'.objs.size = M at hS hG
  rw [List.size_toArray, List.size_toArray, ← lx, ← ly] at hl
  have new : ∀ t, N ≤ t → H1 t = none := fun t ht => I1.hok.fresh (by omega)
  have hNM : N ≤ M := by omega
  have hSn : M ∉ as := fun z => Nat.lt_irrefl _ (hG.above _ z)
  have nd : as.Nodup := List.Pairwise.imp (fun {a b} (h : a < b) => Nat.ne_of_lt h) hG.rise
  have newA : ∀ t ∈ as, H1 t = none := fun t ht => new t (Nat.le_of_lt (Nat.lt_of_le_of_lt hNM (hG.above t ht)))
  have newS : H1 M = none := new M hNM
  let ps : List (List V) := (xs.zip ys).map fun p => [p.1, p.2]
  have lps : as.length = ps.length := by
    show _ = (List.map _ _).length
    rw [List.length_map, List.length_zip]
    exact hl
  have off : ∀ b, b ∉ as → b ≠ M → putL (upd H1 M (.lst (as.map V.ref))) as ps b = H1 b := fun b h1 h2 => by rw [putL_off as ps _ h1, upd_ne h2]
  have kp : Same H1 (putL (upd H1 M (.lst (as.map V.ref))) as ps) := fun b u e => by
    rw [off b (fun z => by rw [newA b z] at e; cases e) (fun z => by rw [z, newS] at e; cases e)]
    exact e
  have eS : putL (upd H1 M (.lst (as.map V.ref))) as ps M = some (.lst (as.map V.ref)) := by rw [putL_off as ps _ hSn, upd_same]
  have atP : ∀ j t, as[j]? = some t → ∃ x y u v, xs[j]? = some x ∧ ys[j]? = some y ∧ putL (upd H1 M (.lst (as.map V.ref))) as ps t = some (.tup [x, y]) ∧ RelV x u ∧ RelV y v ∧ IsPair h'' t u v := fun j t e => by
    obtain ⟨pr, e1, e2⟩ := putL_at as ps (upd H1 M (.lst (as.map V.ref))) lps nd j t e
    obtain ⟨u, v, f1, f2, f3⟩ := hG.pairs j t e
    have e1 : ((xs.zip ys).map fun p => [p.1, p.2])[j]? = some pr := e1
    rw [List.getElem?_map] at e1
    have hj : j < min xs.length ys.length := by
      have := (List.getElem?_eq_some_iff.mp e).1
      omega
    have hx : xs[j]? = some xs[j] := List.getElem?_eq_getElem (by omega)
    have hy : ys[j]? = some ys[j] := List.getElem?_eq_getElem (by omega)
    have ez : (xs.zip ys)[j]? = some (xs[j], ys[j]) := by
      rw [List.getElem?_zip_eq_some]
      exact ⟨hx, hy⟩
    rw [ez] at e1
    obtain rfl := Option.some.inj e1
    obtain ⟨u', g1, g2⟩ := rv.get hx
    obtain ⟨v', g3, g4⟩ := rv2.get hy
    rw [List.getElem?_toArray] at f1 f2
    rw [g1] at f1
    rw [g3] at f2
    obtain rfl := Option.some.inj f1
    obtain rfl := Option.some.inj f2
    exact ⟨_, _, u', v', hx, hy, e2, g2, g4, f3⟩
  have J : L2.Inv X pins σ (putL (upd H1 M (.lst (as.map V.ref))) as ps) { s1 with heap := h'' } := by
    refine I1.call' (ch := []) rfl ⟨fun b o q _ _ _ => old b o q, fun b o q _ _ _ => ⟨o.slots, old b o q⟩, fun b o q n _ => ?_, fun b o q _ => ⟨o, old b o q⟩, fun b xs q => kp b _ q, fun b o u q => kp b _ q, fun b ps q => ⟨#[], by rw [kp b _ q]; simp⟩⟩ (fun b u q => ?_) I1.bare fun b z => by simp at z
    · have hb := Heap.lt_size q
      rw [hN] at hb
      have hbM : b < M := Nat.lt_of_lt_of_le hb hNM
      rw [off b (fun z => Nat.lt_asymm (hG.above b z) hbM) (Nat.ne_of_lt hbM)]
      exact n
    · by_cases hb : b ∈ as
      · obtain ⟨j, hj⟩ := List.mem_iff_getElem?.mp hb
        obtain ⟨x, y, u', v', _, _, e3, g2, g4, f3⟩ := atP j b hj
        rw [e3] at q
        cases q
        exact ⟨by show 2 ≤ sizeLine; decide, [u', v'], .cons g2 (.cons g4 .nil), ⟨_, f3, rfl, _, rfl⟩⟩
      · by_cases hb2 : b = M
        · subst hb2
          rw [eS] at q
          cases q
          refine ⟨by rw [List.length_map, hl]; exact hmn, acc.toList, c, by rw [hacc]; exact LiI.vals_refs as, ?_⟩
          rw [Array.toArray_toList]
          exact hS
        · rw [off b hb hb2] at q
          exact (I1.hok b u q).stay (fun d v _ y => old d v y) (fun d y => kp d _ y) fun d xs y => kp d _ y
  refine ⟨.ref M, _, J, rfl, q1 _ M as kp newS newA hSn eS hl fun j t e => ?_⟩
  obtain ⟨x, y, _, _, e1, e2, e3, _⟩ := atP j t e
  exact ⟨x, y, e1, e2, e3⟩
end Fo
namespace Fo
open PySem PySem.Spec PyProof.Rows L2 TL
section
variable {X : Cx} {K : PySem.W.Frag}
theorem kFl {e : Expr} {f : Str} {t : TE} (hK : X.K = K) (h : PE X e (tFld X.K t f)) : PE X e (tFld K t f) := hK ▸ h
theorem kRv {e : Expr} {t : TE} (hK : X.K = K) (h : PE X e (tRevL X.K t)) : PE X e (tRevL K t) := hK ▸ h
theorem kSf {st : Stmt} {f : Str} {t u : TE} (hK : X.K = K) (h : PS X st (sFld X.K t u f)) : PS X st (sFld K t u f) := hK ▸ h
end
/-! ### what is frozen grows -/
structure Gw (F H F' : Hp) : Prop where
  same : Same F F'
  off : ∀ a, H a ≠ none → F a = none → F' a = none
theorem Gw.refl {F H : Hp} : Gw F H F := ⟨Same.refl F, fun _ _ e => e⟩
theorem Gw.trans {F F1 F2 H H1 : Hp} (g : Gw F H F1) (k : ∀ a, H a ≠ none → H1 a ≠ none) (g' : Gw F1 H1 F2) : Gw F H F2 := ⟨g.same.trans g'.same, fun a h e => g'.off a (k a h) (g.off a h e)⟩
theorem Gw.put {F H F1 : Hp} {D : Addr} {o : HO} (g : Gw F H F1) (hD : H D = none) (hF : F1 D = none) : Gw F H (upd F1 D o) :=
  ⟨fun b u e => by
    have e1 := g.same b u e
    rw [upd_ne (ne_of_none e1 hF)]
    exact e1, fun a h e => by
    have : a ≠ D := fun z => h (z ▸ hD)
    rw [upd_ne this]
    exact g.off a h e⟩
theorem live_some {H : Hp} {a : Addr} (h : H a ≠ none) : ∃ o, H a = some o := by
  cases e : H a with
  | none => exact absurd e h
  | some o => exact ⟨o, rfl⟩
theorem Same.live {H H' : Hp} (s : Same H H') (a : Addr) (h : H a ≠ none) : H' a ≠ none := by
  obtain ⟨o, e⟩ := live_some h
  rw [s a o e]
  exact fun z => nomatch z
theorem Keep.live {b : Addr} {H H' : Hp} (k : Keep b H H') (hb : H' b ≠ none) (a : Addr) (h : H a ≠ none) : H' a ≠ none := by
  by_cases e : a = b
  · rw [e]; exact hb
  · obtain ⟨o, e1⟩ := live_some h
    rw [k a o e e1]
    exact fun z => nomatch z
theorem some_ne {H : Hp} {a : Addr} {o : HO} (e : H a = some o) : H a ≠ none := fun z => by rw [z] at e; cases e
theorem Bx.liv {K : PySem.W.Frag} {b : Addr} {F H : Hp} (B : Bx K b F H) : H b ≠ none := by
  obtain ⟨o, e⟩ := B.live
  exact some_ne e
theorem same_put {H H' : Hp} {D : Addr} {o : HO} (s : Same H H') (h : H D = none) : Same H (upd H' D o) := fun b u e => by
  rw [upd_ne (ne_of_none e h)]
  exact s b u e
theorem keep_put {b D : Addr} {H H' : Hp} {o : HO} (k : Keep b H H') (h : H D = none) : Keep b H (upd H' D o) := fun p u hp e => by
  rw [upd_ne (ne_of_none e h)]
  exact k p u hp e

/-! ### data of a machine -/
abbrev intsV (r : List Nat) : List V := (r.map fun n => ((n : Nat) : Int)).map V.int
def natsD (r : List Nat) : PyData := .list ((r.map fun n => ((n : Nat) : Int)).map PyData.int)
def matI (rows : List (List Nat)) : PyData := .list (rows.map natsD)
def rowS (r : List (List Nat)) : PyData := .list ((r.map S).map PyData.str)
def matS (rows : List (List (List Nat))) : PyData := .list (rows.map rowS)
structure Mch where
  ins : List Nat
  outs : List Nat
  left : List (List Nat)
  right : List (List Nat)
  table : List (List (List Nat))
def lmD (m : Mch) : PyData := .list [.str (S m.ins), .str (S m.outs), matI m.left, matI m.right, matS m.table]
/-! ### what Machine asks of data -/
def stateD (n : Nat) : PyData → Bool
  | .int i => decide (0 ≤ i) && decide (i < (n : Int))
  | _ => false
def lenD : PyData → Nat
  | .list es => es.length
  | _ => 0
def sizeD : PyData → Nat
  | .str s => (tl s).length
  | _ => 0
def signsD : PyData → List Nat
  | .str s => tl s
  | _ => []
def stateRowD (letters n : Nat) : PyData → Bool
  | .list es => decide (es.length = letters) && es.all (stateD n)
  | _ => false
def transD (letters : Nat) : PyData → Bool
  | .list rs => decide (1 ≤ rs.length) && decide (rs.length ≤ 40) && rs.all (stateRowD letters rs.length)
  | _ => false
def writtenD (letters : Nat) (outs : List Nat) (d : PyData) : Bool := (alphaB outs && wordD outs d) && decide (sizeD d = letters)
def tableRowD (states letters : Nat) (outs : List Nat) : PyData → Bool
  | .list es => decide (es.length = states) && es.all (writtenD letters outs)
  | _ => false
def tableD (lefts rights letters : Nat) (outs : List Nat) : PyData → Bool
  | .list rs => decide (rs.length = lefts) && rs.all (tableRowD rights letters outs)
  | _ => false
def machD (r w l g t : PyData) : Bool := alphaD r && alphaD w && transD (sizeD r) l && transD (sizeD r) g && tableD (lenD l) (lenD g) (sizeD r) (signsD w) t
theorem is_list' {d : PyData} (h : tyn d = "list") : ∃ es, d = .list es := by
  cases d with
  | list es => exact ⟨es, rfl⟩
  | _ => simp [tyn] at h
theorem is_int {d : PyData} (h : tyn d = "int") : ∃ i, d = .int i := by
  cases d with
  | int i => exact ⟨i, rfl⟩
  | _ => simp [tyn] at h
theorem stateD_not {n : Nat} {d : PyData} (h : tyn d ≠ "int") : stateD n d = false := by
  cases d with
  | int i => exact absurd rfl h
  | _ => rfl
theorem stateRowD_not {k n : Nat} {d : PyData} (h : tyn d ≠ "list") : stateRowD k n d = false := by
  cases d with
  | list i => exact absurd rfl h
  | _ => rfl
theorem transD_not {k : Nat} {d : PyData} (h : tyn d ≠ "list") : transD k d = false := by
  cases d with
  | list i => exact absurd rfl h
  | _ => rfl
theorem tableRowD_not {k n : Nat} {o : List Nat} {d : PyData} (h : tyn d ≠ "list") : tableRowD k n o d = false := by
  cases d with
  | list i => exact absurd rfl h
  | _ => rfl
theorem tableD_not {k n j : Nat} {o : List Nat} {d : PyData} (h : tyn d ≠ "list") : tableD k n j o d = false := by
  cases d with
  | list i => exact absurd rfl h
  | _ => rfl
/-- the texts in it are not too long -/
def SmallRow : PyData → Prop
  | .list es => ∀ e ∈ es, SmallD e
  | _ => True
def SmallTab : PyData → Prop
  | .list es => ∀ e ∈ es, SmallRow e
  | _ => True
theorem dps_at {K : PySem.W.Frag} {H : Hp} : ∀ {vs : List V} {ds : List PyData}, DpAll K H vs ds → ∀ {i : Nat} {v : V}, vs[i]? = some v → ∃ d, ds[i]? = some d ∧ Dp K H v d
  | _, _, .nil, _, _, e => by simp at e
  | _, _, .cons h t, 0, _, e => ⟨_, rfl, (Option.some.inj e) ▸ h⟩
  | _, _, .cons h t, i + 1, _, e => by
    obtain ⟨v, h1, h2⟩ := dps_at t (i := i) (by simpa using e)
    exact ⟨v, by simpa using h1, h2⟩
theorem dp_list {K : PySem.W.Frag} {H : Hp} {v : V} {es : List PyData} (h : Dp K H v (.list es)) : ∃ a xs, v = .ref a ∧ SqL K H a xs ∧ DpAll K H xs es := by
  cases h with
  | lst s a => exact ⟨_, _, rfl, s, a⟩
theorem dp_int {K : PySem.W.Frag} {H : Hp} {v : V} {i : Int} (h : Dp K H v (.int i)) : v = .int i := by
  cases h; rfl
theorem dp_str {K : PySem.W.Frag} {H : Hp} {v : V} {x : Str} (h : Dp K H v (.str x)) : v = .str x := by
  cases h; rfl
theorem SqL.mono {K : PySem.W.Frag} {H H' : Hp} {a : Addr} {xs : List V} (s : Same H H') (h : SqL K H a xs) : SqL K H' a xs := s.seq h
theorem take_snoc {α : Type} {es : List α} {i : Nat} {d : α} (h : es[i]? = some d) : es.take (i + 1) = es.take i ++ [d] := by
  rw [List.take_add_one, h]
  rfl
theorem getElem?_lt {α : Type} {es : List α} {i : Nat} {d : α} (h : es[i]? = some d) : i < es.length := (List.getElem?_eq_some_iff.mp h).1
theorem all_bl (es : List PyData) (f : PyData → Bool) : ((es.take es.length).map f).all id = es.all f := by
  rw [List.take_length, List.all_map]
  rfl
theorem int_eq {a b : Nat} : decide (V.int (a : Int) = V.int (b : Int)) = decide (a = b) := by
  by_cases e : a = b
  · rw [e, decide_eq_true rfl, decide_eq_true rfl]
  · rw [decide_eq_false e]
    refine decide_eq_false fun z => e ?_
    have := V.int.inj z
    omega
end Fo
namespace Fo
open PySem PySem.Spec PyProof.Rows L2 TL
/-! ### new lists of the same data -/
/-- the list at D holds new lists of the first i of the data es; F is frozen, H0 the heap before D -/
def Cp (K : PySem.W.Frag) (F H0 : Hp) (D : Addr) (es : List PyData) (i : Nat) (H2 : Hp) : Prop :=
  ∃ (F2 : Hp) (ws : List V), Gw F H0 F2 ∧ Same F2 H2 ∧ Same H0 H2 ∧ F2 D = none ∧ H2 D = some (.lst ws) ∧ DpAll K F2 ws (es.take i)
theorem Cp.start {K : PySem.W.Frag} {F H0 : Hp} {D : Addr} {es : List PyData} (s : Same F H0) (h : H0 D = none) : Cp K F H0 D es 0 (upd H0 D (.lst [])) :=
  ⟨F, [], .refl, s.trans (same_new h), same_new h, s.free h, upd_same, .nil⟩
theorem Cp.step {K : PySem.W.Frag} {F H0 H2 : Hp} {D l : Addr} {es ds : List PyData} {i : Nat} {ys : List V} {o : HO} (c : Cp K F H0 D es i H2) (hD : H0 D = none) (hz : es.length ≤ 100000) (he : es[i]? = some (.list ds)) (hy : DpAll K F ys ds) (hl : H2 l = none) (ho : o = .lst ys) :
    ∃ acc, upd H2 l o D = some (.lst acc) ∧ acc.length < sizeLine ∧ Cp K F H0 D es (i + 1) (upd (upd H2 l o) D (.lst (acc ++ [.ref l]))) := by
  subst ho
  obtain ⟨F2, ws, g, s2, s0, fD, eD, dw⟩ := c
  have lD : l ≠ D := fun z => by rw [z, eD] at hl; cases hl
  have l0 : H0 l = none := s0.free hl
  have f2 : F2 l = none := s2.free hl
  refine ⟨ws, by rw [upd_ne lD.symm]; exact eD, ?_, upd F2 l (.lst ys), ws ++ [.ref l], g.put l0 f2, ?_, same_put (same_put s0 l0) hD, ?_, upd_same, ?_⟩
  · rw [dps_len dw]
    exact lim5 (Nat.le_trans (List.length_take_le' ..) hz)
  · intro b u e
    by_cases z : b = l
    · subst z
      rw [upd_same] at e
      rw [upd_ne lD, upd_same]
      exact e
    · rw [upd_ne z] at e
      have : b ≠ D := fun w => by rw [w, fD] at e; cases e
      rw [upd_ne this, upd_ne z]
      exact s2 b u e
  · rw [upd_ne lD.symm]
    exact fD
  · rw [take_snoc he]
    have s3 : Same F2 (upd F2 l (.lst ys)) := same_new f2
    exact dps_append (dps_mono s3 dw) (.cons (.lst (SqL.of upd_same) (dps_mono (g.same.trans s3) hy)) .nil)
theorem Cp.done {K : PySem.W.Frag} {F H0 H2 : Hp} {D : Addr} {es : List PyData} (c : Cp K F H0 D es es.length H2) (hD : H0 D = none) : ∃ F2, Gw F H0 F2 ∧ Same F2 H2 ∧ Same H0 H2 ∧ Dp K F2 (.ref D) (.list es) := by
  obtain ⟨F2, ws, g, s2, s0, fD, eD, dw⟩ := c
  rw [List.take_length] at dw
  refine ⟨upd F2 D (.lst ws), g.put hD fD, fun b u e => ?_, s0, .lst (SqL.of upd_same) (dps_mono (same_new fD) dw)⟩
  by_cases z : b = D
  · subst z
    rw [upd_same] at e
    rw [eD]
    exact e
  · rw [upd_ne z] at e
    exact s2 b u e
/-! ### a machine's object -/
structure MC (K : PySem.W.Frag) (C : Addr) : Prop where
  cl : Cls K C
  n1 : NoAttr K C "reads"
  n2 : NoAttr K C "writes"
  n3 : NoAttr K C "left"
  n4 : NoAttr K C "right"
  n5 : NoAttr K C "table"
structure MObj (K : PySem.W.Frag) (F : Hp) (x : Addr) (d1 d2 d3 d4 d5 : PyData) : Prop where
  ex : ∃ C dx fs v1 v2 v3 v4 v5, F x = some (.ins C dx fs) ∧ MC K C ∧ fs.lookup ("reads" : Str) = some v1 ∧ fs.lookup ("writes" : Str) = some v2 ∧ fs.lookup ("left" : Str) = some v3 ∧ fs.lookup ("right" : Str) = some v4 ∧ fs.lookup ("table" : Str) = some v5 ∧
    Dp K F v1 d1 ∧ Dp K F v2 d2 ∧ Dp K F v3 d3 ∧ Dp K F v4 d4 ∧ Dp K F v5 d5
theorem MObj.mono {K : PySem.W.Frag} {F F' : Hp} {x : Addr} {d1 d2 d3 d4 d5 : PyData} (m : MObj K F x d1 d2 d3 d4 d5) (s : Same F F') : MObj K F' x d1 d2 d3 d4 d5 := by
  obtain ⟨C, dx, fs, v1, v2, v3, v4, v5, e, c, l1, l2, l3, l4, l5, p1, p2, p3, p4, p5⟩ := m.ex
  exact ⟨C, dx, fs, v1, v2, v3, v4, v5, s _ _ e, c, l1, l2, l3, l4, l5, dp_mono s p1, dp_mono s p2, dp_mono s p3, dp_mono s p4, dp_mono s p5⟩
theorem all_at {es : List PyData} {f : PyData → Bool} {i : Nat} {d : PyData} (h : es.all f = true) (e : es[i]? = some d) : f d = true := List.all_eq_true.mp h d (List.mem_of_getElem? e)
theorem stateRow_list {k n : Nat} {d : PyData} (h : stateRowD k n d = true) : ∃ es, d = .list es := by
  cases d with
  | list es => exact ⟨es, rfl⟩
  | _ => cases h
theorem tableRow_list {k n : Nat} {o : List Nat} {d : PyData} (h : tableRowD k n o d = true) : ∃ es, d = .list es := by
  cases d with
  | list es => exact ⟨es, rfl⟩
  | _ => cases h
theorem table_list {k n j : Nat} {o : List Nat} {d : PyData} (h : tableD k n j o d = true) : ∃ es, d = .list es := by
  cases d with
  | list es => exact ⟨es, rfl⟩
  | _ => cases h
/-- what a right machine's data are -/
theorem machD_parts {d1 d2 d3 d4 d5 : PyData} (h : machD d1 d2 d3 d4 d5 = true) : ∃ r o ls rs ts, d1 = .str r ∧ d2 = .str o ∧ d3 = .list ls ∧ d4 = .list rs ∧ d5 = .list ts ∧ alphaB (tl r) = true ∧ alphaB (tl o) = true ∧
    1 ≤ ls.length ∧ ls.length ≤ 40 ∧ ls.all (stateRowD (tl r).length ls.length) = true ∧ 1 ≤ rs.length ∧ rs.length ≤ 40 ∧ rs.all (stateRowD (tl r).length rs.length) = true ∧ ts.length = ls.length ∧ ts.all (tableRowD rs.length (tl r).length (tl o)) = true := by
  have h : (alphaD d1 && alphaD d2 && transD (sizeD d1) d3 && transD (sizeD d1) d4 && tableD (lenD d3) (lenD d4) (sizeD d1) (signsD d2) d5) = true := h
  rw [Bool.and_eq_true, Bool.and_eq_true, Bool.and_eq_true, Bool.and_eq_true] at h
  obtain ⟨⟨⟨⟨h1, h2⟩, h3⟩, h4⟩, h5⟩ := h
  cases d1 with
  | str r =>
    cases d2 with
    | str o =>
      cases d3 with
      | list ls =>
        cases d4 with
        | list rs =>
          cases d5 with
          | list ts =>
            have h3 : (decide (1 ≤ ls.length) && decide (ls.length ≤ 40) && ls.all (stateRowD (tl r).length ls.length)) = true := h3
            have h4 : (decide (1 ≤ rs.length) && decide (rs.length ≤ 40) && rs.all (stateRowD (tl r).length rs.length)) = true := h4
            have h5 : (decide (ts.length = ls.length) && ts.all (tableRowD rs.length (tl r).length (tl o))) = true := h5
            rw [Bool.and_eq_true, Bool.and_eq_true] at h3 h4
            rw [Bool.and_eq_true] at h5
            exact ⟨r, o, ls, rs, ts, rfl, rfl, rfl, rfl, rfl, h1, h2, of_decide_eq_true h3.1.1, of_decide_eq_true h3.1.2, h3.2, of_decide_eq_true h4.1.1, of_decide_eq_true h4.1.2, h4.2, of_decide_eq_true h5.1, h5.2⟩
          | _ => cases h5
        | _ => cases h4
      | _ => cases h3
    | _ => cases h2
  | _ => cases h1
theorem Gw.up {F H F1 H1 F2 : Hp} (g : Gw F H F1) (k : ∀ a, H a ≠ none → H1 a ≠ none) (g' : Gw F1 H1 F2) : Gw F H F2 := g.trans k g'
end Fo
namespace Fo
open PySem PySem.Spec PyProof.Rows L2 TL
/-! ### from (F0, H0) to (F, H), the law's box at b -/
structure Bd (K : PySem.W.Frag) (b : Addr) (F0 H0 F H : Hp) : Prop where
  gw : Gw F0 H0 F
  bx : Bx K b F H
  kp : Keep b H0 H
theorem Bd.refl {K : PySem.W.Frag} {b : Addr} {F H : Hp} (B : Bx K b F H) : Bd K b F H F H := ⟨.refl, B, .refl⟩
theorem Bd.live {K : PySem.W.Frag} {b : Addr} {F0 H0 F H : Hp} (d : Bd K b F0 H0 F H) (a : Addr) (h : H0 a ≠ none) : H a ≠ none := Keep.live d.kp d.bx.liv a h
theorem Bd.trans {K : PySem.W.Frag} {b : Addr} {F0 H0 F1 H1 F2 H2 : Hp} (d : Bd K b F0 H0 F1 H1) (e : Bd K b F1 H1 F2 H2) : Bd K b F0 H0 F2 H2 := ⟨d.gw.trans d.live e.gw, e.bx, d.kp.trans e.kp⟩
/-- a draw -/
theorem Bd.draw {K : PySem.W.Frag} {b : Addr} {F0 H0 F H H' : Hp} (d : Bd K b F0 H0 F H) (B : Bx K b F H') (k : Keep b H H') : Bd K b F0 H0 F H' := ⟨d.gw, B, d.kp.trans k⟩
/-- a new object that is not frozen -/
theorem Bd.put {K : PySem.W.Frag} {b D : Addr} {F0 H0 F H : Hp} {o : HO} (d : Bd K b F0 H0 F H) (h0 : H0 D = none) (hF : F D = none) (hb : b ≠ D) : Bd K b F0 H0 F (upd H D o) :=
  ⟨d.gw, d.bx.off hF hb, keep_put d.kp h0⟩
/-- .. is frozen -/
theorem Bd.frz {K : PySem.W.Frag} {b D : Addr} {F0 H0 F H : Hp} {o : HO} (d : Bd K b F0 H0 F H) (hD : H D = some o) (h0 : H0 D = none) (hF : F D = none) (hb : b ≠ D) : Bd K b F0 H0 (upd F D o) H :=
  ⟨d.gw.put h0 hF, d.bx.grow hD hb, d.kp⟩
theorem Bx.pure {K : PySem.W.Frag} {b : Addr} {F H F' H' : Hp} (B : Bx K b F H) (s : Same H H') (g : Gw F H F') (f : Same F' H') : Bx K b F' H' := by
  obtain ⟨r, ns, n, e, q, h0⟩ := B.at'
  exact ⟨f, g.off b B.liv B.nf, r, ns, n, s _ _ e, g.same.seq q, h0⟩
theorem Bd.pure {K : PySem.W.Frag} {b : Addr} {F0 H0 F H F' H' : Hp} (d : Bd K b F0 H0 F H) (s : Same H H') (g : Gw F H F') (f : Same F' H') : Bd K b F0 H0 F' H' :=
  ⟨d.gw.trans d.live g, d.bx.pure s g f, d.kp.trans (.of s)⟩
theorem Bd.same {K : PySem.W.Frag} {b : Addr} {F0 H0 F H H' : Hp} (d : Bd K b F0 H0 F H) (s : Same H H') : Bd K b F0 H0 F H' := ⟨d.gw, d.bx.same s, d.kp.trans (.of s)⟩
/-- a new place at H -/
theorem Bd.new {K : PySem.W.Frag} {b D : Addr} {F0 H0 F H : Hp} (d : Bd K b F0 H0 F H) (h : H D = none) : H0 D = none ∧ F D = none ∧ b ≠ D := by
  obtain ⟨f, e⟩ := d.bx.free h
  refine ⟨?_, f, e⟩
  cases z : H0 D with
  | none => rfl
  | some o => exact absurd h (d.live D (some_ne z))

/-! ### what a machine does -/
def stp (rows : List (List Nat)) (s k : Nat) : Nat := (rows.getD s []).getD k 0
def fin (rows : List (List Nat)) (s : Nat) (ks : List Nat) : Nat := ks.foldl (stp rows) s
def pathL (rows : List (List Nat)) (s : Nat) (ks : List Nat) : List Nat := (List.range (ks.length + 1)).map fun t => fin rows s (ks.take t)
def ixs (al u : List Nat) : List Nat := u.map fun c => al.idxOf c
/-- rows of states over k letters -/
structure Rws (rows : List (List Nat)) (k : Nat) : Prop where
  pos : 1 ≤ rows.length
  most : rows.length ≤ 40
  row : ∀ r ∈ rows, r.length = k ∧ ∀ s ∈ r, s < rows.length
structure Wf (m : Mch) : Prop where
  ins : alphaB m.ins = true
  outs : alphaB m.outs = true
  left : Rws m.left m.ins.length
  right : Rws m.right m.ins.length
  tab : m.table.length = m.left.length
  row : ∀ r ∈ m.table, r.length = m.right.length ∧ ∀ w ∈ r, w.length = m.ins.length ∧ ∀ c ∈ w, c ∈ m.outs
theorem alpha_pos {al : List Nat} (h : alphaB al = true) : 1 ≤ al.length ∧ al.length ≤ 5 := by
  have h : (decide (1 ≤ al.length) && decide (al.length ≤ 5) && allN al.length (okAt al)) = true := h
  rw [Bool.and_eq_true, Bool.and_eq_true] at h
  exact ⟨of_decide_eq_true h.1.1, of_decide_eq_true h.1.2⟩
theorem alpha_ne {al : List Nat} (h : alphaB al = true) : al ≠ [] := fun e => by
  have := (alpha_pos h).1
  rw [e] at this
  exact absurd this (by decide)
theorem getD_of {α : Type} {l : List α} {i : Nat} {x d : α} (h : l[i]? = some x) : l.getD i d = x := by
  rw [List.getD_eq_getElem?_getD, h]
  rfl
theorem stp_at {rows : List (List Nat)} {k s j : Nat} (R : Rws rows k) (hs : s < rows.length) (hj : j < k) : ∃ r, rows[s]? = some r ∧ r[j]? = some (stp rows s j) ∧ stp rows s j < rows.length := by
  have h1 : rows[s]? = some rows[s] := List.getElem?_eq_getElem hs
  obtain ⟨hl, hr⟩ := R.row _ (List.getElem_mem hs)
  have hj' : j < rows[s].length := by omega
  have e : stp rows s j = rows[s][j] := by
    unfold stp
    rw [getD_of h1]
    exact getD_of (List.getElem?_eq_getElem hj')
  exact ⟨rows[s], h1, by rw [e]; exact List.getElem?_eq_getElem hj', by rw [e]; exact hr _ (List.getElem_mem hj')⟩
theorem fin_lt {rows : List (List Nat)} {k : Nat} (R : Rws rows k) : ∀ {ks : List Nat} {s : Nat}, s < rows.length → (∀ j ∈ ks, j < k) → fin rows s ks < rows.length
  | [], s, hs, _ => hs
  | j :: ks, s, hs, hj => by
    obtain ⟨_, _, _, h⟩ := stp_at R hs (hj j List.mem_cons_self)
    exact fin_lt R (ks := ks) h fun i hi => hj i (List.mem_cons_of_mem _ hi)
theorem fin_snoc (rows : List (List Nat)) (s : Nat) (ks : List Nat) (k : Nat) : fin rows s (ks ++ [k]) = stp rows (fin rows s ks) k := by
  unfold fin
  rw [List.foldl_append]
  rfl
theorem pathL_len (rows : List (List Nat)) (s : Nat) (ks : List Nat) : (pathL rows s ks).length = ks.length + 1 := by
  unfold pathL
  rw [List.length_map, List.length_range]
theorem pathL_at {rows : List (List Nat)} {s : Nat} {ks : List Nat} {t : Nat} (h : t < ks.length + 1) : (pathL rows s ks)[t]? = some (fin rows s (ks.take t)) := by
  unfold pathL
  rw [List.getElem?_map, List.getElem?_range h]
  rfl
theorem pathL_snoc (rows : List (List Nat)) (s : Nat) (ks : List Nat) (k : Nat) : pathL rows s (ks ++ [k]) = pathL rows s ks ++ [stp rows (fin rows s ks) k] := by
  have e1 : (ks ++ [k]).length + 1 = (ks.length + 1) + 1 := by rw [List.length_append]; rfl
  unfold pathL
  rw [e1, List.range_succ, List.map_append]
  congr 1
  · refine List.map_congr_left fun t ht => ?_
    have := List.mem_range.mp ht
    rw [List.take_append_of_le_length (by omega)]
  · show [fin rows s ((ks ++ [k]).take (ks.length + 1))] = _
    rw [List.take_of_length_le (by rw [List.length_append]; exact Nat.le_refl _), fin_snoc]
theorem pathL_last (rows : List (List Nat)) (s : Nat) (ks : List Nat) : ∃ r, pathL rows s ks = r ++ [fin rows s ks] := by
  refine ⟨(List.range ks.length).map fun t => fin rows s (ks.take t), ?_⟩
  unfold pathL
  rw [List.range_succ, List.map_append]
  congr 1
  show [fin rows s (ks.take ks.length)] = _
  rw [List.take_length]
def outAt (m : Mch) (i j : Nat) (ks : List Nat) (t : Nat) : Nat :=
  ((m.table.getD (fin m.left i (ks.take t)) []).getD (fin m.right j (ks.reverse.take (ks.length - 1 - t))) []).getD (ks.getD t 0) 0
def outL (m : Mch) (i j : Nat) (ks : List Nat) : List Nat := (List.range ks.length).map (outAt m i j ks)
def prsL (m : Mch) (i j : Nat) (ks : List Nat) : List (Nat × Nat) := (List.range ks.length).map fun t => (fin m.left i (ks.take t), fin m.right j (ks.reverse.take (ks.length - 1 - t)))
def prD (p : Nat × Nat) : PyData := .tuple [.int (p.1 : Nat), .int (p.2 : Nat)]
def prsD (ps : List (Nat × Nat)) : PyData := .list (ps.map prD)
theorem ixs_lt {al u : List Nat} (h : ∀ c ∈ u, c ∈ al) : ∀ k ∈ ixs al u, k < al.length := fun k hk => by
  obtain ⟨c, hc, rfl⟩ := List.mem_map.mp hk
  exact List.idxOf_lt_length_of_mem (h c hc)
theorem ixs_len (al u : List Nat) : (ixs al u).length = u.length := List.length_map ..
theorem ixs_rev (al u : List Nat) : (ixs al u).reverse = ixs al u.reverse := by unfold ixs; rw [List.map_reverse]
theorem ixs_take (al u : List Nat) (t : Nat) : (ixs al u).take t = ixs al (u.take t) := by unfold ixs; rw [List.map_take]
theorem ixs_at {al u : List Nat} {t : Nat} (h : t < u.length) : (ixs al u)[t]? = some (al.idxOf (u.getD t 0)) := by
  unfold ixs
  rw [List.getElem?_map, getD_at h]
  rfl
theorem tab_at {m : Mch} (W : Wf m) {i j : Nat} (hi : i < m.left.length) (hj : j < m.right.length) : ∃ r w, m.table[i]? = some r ∧ r[j]? = some w ∧ (m.table.getD i []).getD j [] = w ∧ w.length = m.ins.length ∧ ∀ c ∈ w, c ∈ m.outs := by
  have hi' : i < m.table.length := by rw [W.tab]; exact hi
  have h1 : m.table[i]? = some m.table[i] := List.getElem?_eq_getElem hi'
  obtain ⟨hl, hr⟩ := W.row _ (List.getElem_mem hi')
  have hj' : j < m.table[i].length := by omega
  have h2 : m.table[i][j]? = some m.table[i][j] := List.getElem?_eq_getElem hj'
  obtain ⟨h3, h4⟩ := hr _ (List.getElem_mem hj')
  refine ⟨_, _, h1, h2, ?_, h3, h4⟩
  rw [getD_of h1]
  exact getD_of h2

/-! ### data of rows, by places -/
theorem matI_at {K : PySem.W.Frag} {H : Hp} {v : V} {rows : List (List Nat)} (h : Dp K H v (matI rows)) : ∃ a xs, v = .ref a ∧ SqL K H a xs ∧ xs.length = rows.length ∧ ∀ {i : Nat} {r : List Nat}, rows[i]? = some r → ∃ b, xs[i]? = some (.ref b) ∧ SqL K H b (intsV r) := by
  obtain ⟨a, xs, rfl, q, A⟩ := dp_list h
  refine ⟨a, xs, rfl, q, by rw [dps_len A, List.length_map], fun {i r} e => ?_⟩
  obtain ⟨v, e1, e2⟩ := dps_get A (i := i) (d := natsD r) (by rw [List.getElem?_map, e]; rfl)
  obtain ⟨b, ys, rfl, qb, B⟩ := dp_list e2
  refine ⟨b, e1, ?_⟩
  have : ys = intsV r := by
    have key : ∀ (ys : List V) (ns : List Int), DpAll K H ys (ns.map PyData.int) → ys = ns.map V.int := by
      intro ys ns
      induction ns generalizing ys with
      | nil => intro B; cases B; rfl
      | cons n ns ih =>
        intro B
        cases B with
        | cons h t =>
          rw [dp_int h, ih _ t]
          rfl
    exact key ys _ B
  rw [← this]
  exact qb
theorem ints_of {K : PySem.W.Frag} {H : Hp} (ns : List Nat) : DpAll K H (intsV ns) ((ns.map fun n => ((n : Nat) : Int)).map PyData.int) := dps_ints _
theorem strs_eq {K : PySem.W.Frag} {H : Hp} : ∀ (ys : List V) (ns : List Str), DpAll K H ys (ns.map PyData.str) → ys = ns.map V.str
  | _, [], B => by cases B; rfl
  | _, n :: ns, B => by
    cases B with
    | cons h t =>
      rw [dp_str h, strs_eq _ ns t]
      rfl
theorem matS_at {K : PySem.W.Frag} {H : Hp} {v : V} {rows : List (List (List Nat))} (h : Dp K H v (matS rows)) : ∃ a xs, v = .ref a ∧ SqL K H a xs ∧ xs.length = rows.length ∧ ∀ {i : Nat} {r : List (List Nat)}, rows[i]? = some r → ∃ b, xs[i]? = some (.ref b) ∧ SqL K H b ((r.map S).map V.str) := by
  obtain ⟨a, xs, rfl, q, A⟩ := dp_list h
  refine ⟨a, xs, rfl, q, by rw [dps_len A, List.length_map], fun {i r} e => ?_⟩
  obtain ⟨v, e1, e2⟩ := dps_get A (i := i) (d := rowS r) (by rw [List.getElem?_map, e]; rfl)
  obtain ⟨b, ys, rfl, qb, B⟩ := dp_list e2
  refine ⟨b, e1, ?_⟩
  rw [← strs_eq ys _ B]
  exact qb
theorem ints_at {r : List Nat} {j n : Nat} (h : r[j]? = some n) : atI (intsV r) ((j : Nat) : Int) = some (.int (n : Nat)) := by
  refine atI_nat ?_
  rw [List.getElem?_map, List.getElem?_map, h]
  rfl
theorem strs_at {r : List (List Nat)} {j : Nat} {w : List Nat} (h : r[j]? = some w) : atI ((r.map S).map V.str) ((j : Nat) : Int) = some (.str (S w)) := by
  refine atI_nat ?_
  rw [List.getElem?_map, List.getElem?_map, h]
  rfl
theorem intsV_len (r : List Nat) : (intsV r).length = r.length := by unfold intsV; rw [List.length_map, List.length_map]
theorem intsV_add (r : List Nat) (n : Nat) : intsV r ++ [.int (n : Nat)] = intsV (r ++ [n]) := by
  unfold intsV
  rw [List.map_append, List.map_append]
  rfl
theorem intsV_rev (r : List Nat) : (intsV r).reverse = intsV r.reverse := by unfold intsV; rw [List.map_reverse, List.map_reverse]
/-- xs[:-1] -/
theorem cut_last (xs : List V) : cutV xs none (some (-1)) = xs.take (xs.length - 1) := by
  unfold cutV
  rw [HT.sIx_none]
  have e : HT.sIx xs.length xs.length (some (-1)) = xs.length - 1 := by
    show (if (-1 : Int) < 0 then ((-1 : Int) + (xs.length : Int)).toNat else min (-1 : Int).toNat xs.length) = xs.length - 1
    rw [if_pos (by decide)]
    omega
  rw [e, List.drop_zero, Nat.sub_zero]
/-- over zip of two lists -/
theorem lc_zip {K : PySem.W.Frag} {a b : Addr} {xs ys : List V} {g : TG} {tt : TT} {te : TE} {vs : List Nat} {σ : L2.St} {H1 : Hp} {D : Addr} {Qd : Hp → Prop} (hl : xs.length = ys.length) (Pv : Nat → Hp → Prop) (h0 : Pv 0 (upd H1 D (.lst []))) (hq : ∀ i H, Pv i H → SqL K H a xs ∧ SqL K H b ys)
    (hs : ∀ (i : Nat) (x y : V) (T : Addr) (H : Hp), xs[i]? = some x → ys[i]? = some y → Pv i H → H T = none → g (.ref T) (wipe σ vs) (upd H T (.tup [x, y])) fun σ2 H2 => wipe σ2 vs = wipe σ vs ∧ tt σ2 H2 fun b H3 =>
      if b = true then te σ2 H3 fun y H4 => ∃ acc, H4 D = some (.lst acc) ∧ acc.length < sizeLine ∧ Pv (i + 1) (upd H4 D (.lst (acc ++ [y]))) else Pv (i + 1) H3) (hd : ∀ H, Pv xs.length H → Qd H) :
    ∃ W : Nat → Nat → Hp → Prop, (∃ m, W 0 m (upd H1 D (.lst []))) ∧ ∀ i m H, W i m H →
      ((Itz K a b).stop i H ∧ Qd H) ∨ ((Itz K a b).go i H ∧ ∃ Nx : Hp → Prop, (∀ H', Nx H' → ∃ m', m' < m ∧ W (i + 1) m' H') ∧ ∀ x H', (Itz K a b).yld i H x H' → g x (wipe σ vs) H' fun σ2 H2 => wipe σ2 vs = wipe σ vs ∧ tt σ2 H2 fun b H3 =>
        if b = true then te σ2 H3 fun y H4 => ∃ acc, H4 D = some (.lst acc) ∧ acc.length < sizeLine ∧ Nx (upd H4 D (.lst (acc ++ [y]))) else Nx H3) := by
  refine ⟨fun i m H => m = xs.length - i ∧ i ≤ xs.length ∧ Pv i H, ⟨xs.length, rfl, Nat.zero_le _, h0⟩, ?_⟩
  rintro i m H ⟨rfl, hi, p⟩
  obtain ⟨qx, qy⟩ := hq i H p
  by_cases hlt : i < xs.length
  · have hx : xs[i]? = some xs[i] := List.getElem?_eq_getElem hlt
    have hlt2 : i < ys.length := by omega
    have hy : ys[i]? = some ys[i] := List.getElem?_eq_getElem hlt2
    refine .inr ⟨⟨xs, ys, _, _, qx, qy, hx, hy⟩, Pv (i + 1), fun H' p' => ⟨xs.length - (i + 1), by omega, rfl, hlt, p'⟩, fun v H' y => ?_⟩
    obtain ⟨T, x', y', rfl, hT, rfl, f1, f2⟩ := y
    exact hs i x' y' T H (f1 xs qx) (f2 ys qy) p hT
  · have e : i = xs.length := by omega
    subst e
    exact .inl ⟨⟨xs, ys, qx, qy, Or.inl (Nat.le_refl _)⟩, hd H p⟩
/-! ### a right machine is taken -/
theorem small_ab {al : List Nat} (h : alphaB al = true) : SmallD (.str (S al)) := small_S (by have := (alpha_pos h).2; omega)
theorem rws_trans {rows : List (List Nat)} {k : Nat} (R : Rws rows k) : transD k (matI rows) = true := by
  show (decide (1 ≤ (rows.map natsD).length) && decide ((rows.map natsD).length ≤ 40) && (rows.map natsD).all (stateRowD k (rows.map natsD).length)) = true
  rw [List.length_map, decide_eq_true R.pos, decide_eq_true R.most, Bool.true_and, Bool.true_and, List.all_map]
  refine List.all_eq_true.mpr fun r hr => ?_
  obtain ⟨h1, h2⟩ := R.row r hr
  show (decide (((r.map fun n => ((n : Nat) : Int)).map PyData.int).length = k) && ((r.map fun n => ((n : Nat) : Int)).map PyData.int).all (stateD rows.length)) = true
  rw [List.length_map, List.length_map, decide_eq_true h1, Bool.true_and, List.all_map, List.all_map]
  refine List.all_eq_true.mpr fun n hn => ?_
  show (decide ((0 : Int) ≤ (n : Nat)) && decide (((n : Nat) : Int) < (rows.length : Nat))) = true
  rw [decide_eq_true (Int.natCast_nonneg n), decide_eq_true (by have := h2 n hn; omega)]
  rfl
theorem wf_mach {m : Mch} (W : Wf m) : machD (.str (S m.ins)) (.str (S m.outs)) (matI m.left) (matI m.right) (matS m.table) = true := by
  show (alphaB m.ins && alphaB m.outs && transD m.ins.length (matI m.left) && transD m.ins.length (matI m.right) && tableD (m.left.map natsD).length (m.right.map natsD).length m.ins.length m.outs (matS m.table)) = true
  rw [W.ins, W.outs, rws_trans W.left, rws_trans W.right, Bool.true_and, Bool.true_and, Bool.true_and, List.length_map, List.length_map]
  show (decide ((m.table.map rowS).length = m.left.length) && (m.table.map rowS).all (tableRowD m.right.length m.ins.length m.outs)) = true
  rw [List.length_map, decide_eq_true W.tab, Bool.true_and, List.all_map]
  refine List.all_eq_true.mpr fun r hr => ?_
  obtain ⟨h1, h2⟩ := W.row r hr
  show (decide (((r.map S).map PyData.str).length = m.right.length) && ((r.map S).map PyData.str).all (writtenD m.ins.length m.outs)) = true
  rw [List.length_map, List.length_map, decide_eq_true h1, Bool.true_and, List.all_map, List.all_map]
  refine List.all_eq_true.mpr fun w hw => ?_
  obtain ⟨h3, h4⟩ := h2 w hw
  show ((alphaB m.outs && wordB m.outs w) && decide (w.length = m.ins.length)) = true
  rw [W.outs, wordB_true h4, decide_eq_true h3]
  rfl
theorem wf_small {m : Mch} (W : Wf m) : SmallTab (matS m.table) := by
  show ∀ e ∈ m.table.map rowS, SmallRow e
  intro e he
  obtain ⟨r, hr, rfl⟩ := List.mem_map.mp he
  show ∀ e ∈ (r.map S).map PyData.str, SmallD e
  intro e he
  obtain ⟨x, hx, rfl⟩ := List.mem_map.mp he
  obtain ⟨w, hw, rfl⟩ := List.mem_map.mp hx
  have h1 := ((W.row r hr).2 w hw).1
  have h2 := (alpha_pos W.ins).2
  exact small_S (by omega)
abbrev MAt (K : PySem.W.Frag) (F : Hp) (x : Addr) (m : Mch) : Prop := MObj K F x (.str (S m.ins)) (.str (S m.outs)) (matI m.left) (matI m.right) (matS m.table)
end Fo
namespace Fo
open PySem PySem.Spec PyProof.Rows L2 TL
/-- a loop over the signs of a text -/
theorem for_str {z : Str} {g : TG} {tb : TS} {D : Ends} {σ : L2.St} {H : Hp} (Pv : Nat → L2.St → Hp → Prop) (h0 : Pv 0 σ H)
    (hs : ∀ i σ H, i < z.cps.size → Pv i σ H → g (sg z i) σ H fun σ2 H2 => tb { D with nx := Pv (i + 1), ct := Pv (i + 1), bk := D.nx } σ2 H2) (hd : ∀ σ H, Pv z.cps.size σ H → D.nx σ H) :
    ∃ W : Nat → Nat → L2.St → Hp → Prop, (∃ m, W 0 m σ H) ∧ ∀ i m σ H, W i m σ H →
      ((Its z).stop i H ∧ D.nx σ H) ∨ ((Its z).go i H ∧ ∃ N : L2.St → Hp → Prop, (∀ σ' H', N σ' H' → ∃ m', m' < m ∧ W (i + 1) m' σ' H') ∧ ∀ x H', (Its z).yld i H x H' → g x σ H' fun σ2 H2 => tb { D with nx := N, ct := N, bk := D.nx } σ2 H2) := by
  refine ⟨fun i m σ H => m = z.cps.size - i ∧ i ≤ z.cps.size ∧ Pv i σ H, ⟨z.cps.size, rfl, Nat.zero_le _, h0⟩, ?_⟩
  rintro i m σ H ⟨rfl, hi, p⟩
  by_cases hlt : i < z.cps.size
  · refine .inr ⟨hlt, Pv (i + 1), fun σ' H' p' => ⟨z.cps.size - (i + 1), by omega, rfl, hlt, p'⟩, ?_⟩
    intro x H' hy
    obtain ⟨rfl, c, e, rfl⟩ := hy
    have ec : sg z i = .str ⟨#[c]⟩ := by
      unfold sg
      rw [Array.getD_eq_getD_getElem?, e]
      rfl
    rw [← ec]
    exact hs i σ _ hlt p
  · obtain rfl : i = z.cps.size := by omega
    exact .inl ⟨Nat.le_refl _, hd σ H p⟩
theorem dps_ix {K : PySem.W.Frag} {H : Hp} : ∀ {xs : List V} {es : List PyData}, xs.length = es.length → (∀ (j : Nat) (x : V) (e : PyData), xs[j]? = some x → es[j]? = some e → Dp K H x e) → DpAll K H xs es
  | [], [], _, _ => .nil
  | [], _ :: _, h, _ => by cases h
  | _ :: _, [], h, _ => by cases h
  | x :: xs, e :: es, h, f => .cons (f 0 x e rfl rfl) (dps_ix (Nat.succ.inj h) fun j x e h1 h2 => f (j + 1) x e (by simpa using h1) (by simpa using h2))
theorem last_at {r : List Nat} {n : Nat} {l : List Nat} (h : l = r ++ [n]) : atI (intsV l) (-1) = some (.int (n : Nat)) := by
  rw [h, ← intsV_add]
  exact atI_last _ _
theorem intsV_get {r : List Nat} {j n : Nat} (h : r[j]? = some n) : (intsV r)[j]? = some (.int (n : Nat)) := by
  rw [List.getElem?_map, List.getElem?_map, h]
  rfl
theorem intsV_take (r : List Nat) (n : Nat) : (intsV r).take n = intsV (r.take n) := by unfold intsV; rw [List.map_take, List.map_take]
/-- the fields of a machine's object at H -/
structure Fld (K : PySem.W.Frag) (H : Hp) (x : Addr) (m : Mch) (C dx : Addr) (fs : List (Str × V)) (v3 v4 v5 : V) : Prop where
  at' : H x = some (.ins C dx fs)
  c : MC K C
  l1 : fs.lookup ("reads" : Str) = some (.str (S m.ins))
  l2 : fs.lookup ("writes" : Str) = some (.str (S m.outs))
  l3 : fs.lookup ("left" : Str) = some v3
  l4 : fs.lookup ("right" : Str) = some v4
  l5 : fs.lookup ("table" : Str) = some v5
  p3 : Dp K H v3 (matI m.left)
  p4 : Dp K H v4 (matI m.right)
  p5 : Dp K H v5 (matS m.table)
theorem mat_fld {K : PySem.W.Frag} {H : Hp} {x : Addr} {m : Mch} (M : MAt K H x m) : ∃ C dx fs v3 v4 v5, Fld K H x m C dx fs v3 v4 v5 := by
  obtain ⟨C, dx, fs, v1, v2, v3, v4, v5, e, c, l1, l2, l3, l4, l5, p1, p2, p3, p4, p5⟩ := M.ex
  rw [dp_str p1] at l1
  rw [dp_str p2] at l2
  exact ⟨C, dx, fs, v3, v4, v5, e, c, l1, l2, l3, l4, l5, p3, p4, p5⟩
theorem Fld.mono {K : PySem.W.Frag} {H H' : Hp} {x : Addr} {m : Mch} {C dx : Addr} {fs : List (Str × V)} {v3 v4 v5 : V} (f : Fld K H x m C dx fs v3 v4 v5) (s : Same H H') : Fld K H' x m C dx fs v3 v4 v5 :=
  ⟨s _ _ f.at', f.c, f.l1, f.l2, f.l3, f.l4, f.l5, dp_mono s f.p3, dp_mono s f.p4, dp_mono s f.p5⟩
theorem one_at {w : List Nat} {k c : Nat} (h : w[k]? = some c) : w.getD k 0 = c := getD_of h
theorem out_at {m : Mch} (W : Wf m) {i j t : Nat} {ks : List Nat} (hi : i < m.left.length) (hj : j < m.right.length) (hk : ∀ k ∈ ks, k < m.ins.length) (ht : t < ks.length) :
    ∃ r w, m.table[fin m.left i (ks.take t)]? = some r ∧ r[fin m.right j (ks.reverse.take (ks.length - 1 - t))]? = some w ∧ w.length = m.ins.length ∧ w[ks[t]]? = some (outAt m i j ks t) ∧ outAt m i j ks t ∈ m.outs := by
  have h1 := fin_lt W.left (s := i) (ks := ks.take t) hi fun k h => hk k (List.mem_of_mem_take h)
  have h2 := fin_lt W.right (s := j) (ks := ks.reverse.take (ks.length - 1 - t)) hj fun k h => hk k (List.mem_reverse.mp (List.mem_of_mem_take h))
  obtain ⟨r, w, e1, e2, e3, e4, e5⟩ := tab_at W h1 h2
  have h3 := hk _ (List.getElem_mem ht)
  have h4 : w[ks[t]]? = some (w.getD ks[t] 0) := getD_at (by omega)
  have e : outAt m i j ks t = w.getD ks[t] 0 := by
    unfold outAt
    rw [e3, getD_of (l := ks) (List.getElem?_eq_getElem ht)]
  refine ⟨r, w, e1, e2, e4, by rw [e]; exact h4, ?_⟩
  rw [e]
  exact e5 _ (getD_mem (by omega))
theorem outL_take (m : Mch) (i j t : Nat) (ks : List Nat) (ht : t < ks.length) : (outL m i j ks).take (t + 1) = (outL m i j ks).take t ++ [outAt m i j ks t] := by
  refine take_snoc ?_
  unfold outL
  rw [List.getElem?_map, List.getElem?_range ht]
  rfl
theorem outL_len (m : Mch) (i j : Nat) (ks : List Nat) : (outL m i j ks).length = ks.length := by
  unfold outL
  rw [List.length_map, List.length_range]
theorem dps_nth {K : PySem.W.Frag} {H : Hp} {ts : List Addr} {m : Mch} {i j t : Nat} {ks : List Nat} {x : V} (h : DpAll K H (ts.map V.ref) ((prsL m i j ks).map prD)) (hx : (ts.map V.ref)[t]? = some x) :
    ∃ a, t < ks.length ∧ x = .ref a ∧ SqT K H a [.int (fin m.left i (ks.take t) : Nat), .int (fin m.right j (ks.reverse.take (ks.length - 1 - t)) : Nat)] := by
  obtain ⟨d, e, p⟩ := dps_at h hx
  have ht : t < ks.length := by
    have := getElem?_lt e
    unfold prsL at this
    rw [List.length_map, List.length_map, List.length_range] at this
    exact this
  unfold prsL at e
  rw [List.getElem?_map, List.getElem?_map, List.getElem?_range ht] at e
  obtain rfl := Option.some.inj e
  cases p with
  | tup q A =>
    cases A with
    | cons h1 A =>
      cases A with
      | cons h2 A =>
        cases A
        rw [dp_int h1, dp_int h2] at q
        exact ⟨_, ht, rfl, q⟩
theorem b_no {c : Bool} (h : (!decide (c = c)) = true) : False := no_false h
theorem v_no {v : V} (h : (!decide (v = v)) = true) : False := by rw [decide_eq_true rfl] at h; exact absurd h (by decide)
theorem rev_tail (u : List Nat) (t : Nat) : (u.drop (t + 1)).reverse = u.reverse.take (u.length - 1 - t) := by
  rw [List.reverse_drop]
  congr 1
  omega
/-- the law's box, and its drawn machine made -/
theorem box_nat {z : Int} (h : 0 ≤ z) : ∃ n : Nat, z = n := ⟨z.toNat, by omega⟩
theorem ixs_snoc {al u : List Nat} {t : Nat} (h : t < u.length) : ixs al (u.take (t + 1)) = ixs al (u.take t) ++ [al.idxOf (u.getD t 0)] := by
  rw [take_snoc (getD_at h)]
  unfold ixs
  rw [List.map_append]
  rfl
theorem S_add (l r : List Nat) : S l ++ S r = S (l ++ r) := ext_tl (by rw [tl_append, tlS, tlS, tlS])
theorem lay_all : ∀ {es : List PyData}, (∀ e ∈ es, e.canLay0 = true) → PyData.canLayAll0 es = true
  | [], _ => by rw [PyData.canLayAll0]
  | e :: es, h => by rw [PyData.canLayAll0, h e List.mem_cons_self, lay_all fun x hx => h x (List.mem_cons_of_mem _ hx)]; rfl
theorem dep_all {n : Nat} : ∀ {es : List PyData}, (∀ e ∈ es, e.depth ≤ n) → PyData.depthAll es ≤ n
  | [], _ => by rw [PyData.depthAll]; omega
  | e :: es, h => by
    rw [PyData.depthAll]
    have h1 := h e List.mem_cons_self
    have h2 := dep_all (n := n) (es := es) fun x hx => h x (List.mem_cons_of_mem _ hx)
    omega
theorem lay_int (i : Int) : (PyData.int i).canLay0 = true := by rw [PyData.canLay0]
theorem dep_int (i : Int) : (PyData.int i).depth = 0 := by rw [PyData.depth]
theorem lay_tup {es : List PyData} (h : ∀ e ∈ es, e.canLay0 = true) : (PyData.tuple es).canLay0 = true := by rw [PyData.canLay0]; exact lay_all h
theorem lay_lst {es : List PyData} (h : ∀ e ∈ es, e.canLay0 = true) : (PyData.list es).canLay0 = true := by rw [PyData.canLay0]; exact lay_all h
theorem dep_tup {n : Nat} {es : List PyData} (h : ∀ e ∈ es, e.depth ≤ n) : (PyData.tuple es).depth ≤ n + 1 := by
  rw [PyData.depth]
  have := dep_all h
  omega
theorem dep_lst {n : Nat} {es : List PyData} (h : ∀ e ∈ es, e.depth ≤ n) : (PyData.list es).depth ≤ n + 1 := by
  rw [PyData.depth]
  have := dep_all h
  omega
theorem prD_lay (p : Nat × Nat) : (prD p).canLay0 = true := lay_tup fun e he => by
  simp only [List.mem_cons, List.not_mem_nil, or_false] at he
  rcases he with rfl | rfl <;> exact lay_int _
theorem prD_dep (p : Nat × Nat) : (prD p).depth ≤ 1 := dep_tup (n := 0) fun e he => by
  simp only [List.mem_cons, List.not_mem_nil, or_false] at he
  rcases he with rfl | rfl <;> exact Nat.le_of_eq (dep_int _)
theorem prs_lay (ps : List (Nat × Nat)) : (prsD ps).canLay0 = true := lay_lst fun e he => by
  obtain ⟨p, _, rfl⟩ := List.mem_map.mp he
  exact prD_lay p
theorem prs_shaped (ps : List (Nat × Nat)) : SeqAt.shaped (prsD ps) = true := by
  unfold SeqAt.shaped
  have h2 : (prsD ps).depth ≤ 2 := dep_lst (n := 1) fun e he => by
    obtain ⟨p, _, rfl⟩ := List.mem_map.mp he
    exact prD_dep p
  rw [prs_lay, decide_eq_true (show (prsD ps).depth ≤ 64 by omega)]
  rfl
theorem prs_eqv (ps : List (Nat × Nat)) : PyData.eqv (prsD ps) (prsD ps) = true := PySem.SeqAt.eqv_refl _ (prs_lay ps)
theorem lm_dp {K : PySem.W.Frag} {H : Hp} {v : V} {m : Mch} (h : Dp K H v (lmD m)) : ∃ a v3 v4 v5, v = .ref a ∧ SqL K H a [.str (S m.ins), .str (S m.outs), v3, v4, v5] ∧ Dp K H v3 (matI m.left) ∧ Dp K H v4 (matI m.right) ∧ Dp K H v5 (matS m.table) := by
  obtain ⟨a, xs, rfl, q, A⟩ := dp_list h
  cases A with
  | cons h1 A =>
    cases A with
    | cons h2 A =>
      cases A with
      | cons h3 A =>
        cases A with
        | cons h4 A =>
          cases A with
          | cons h5 A =>
            cases A
            rw [dp_str h1, dp_str h2] at q
            exact ⟨a, _, _, _, rfl, q, h3, h4, h5⟩
end Fo
namespace Fo
open PySem PySem.Spec PyProof.Rows L2 TL
theorem tuple_mul1 (l : Addr) (items : Array Value) (n : Nat) (dd : Option Addr) (sl : Array (Option Value)) (u : Tok) :
    Meets (Builtin.«tuple.__mul__» ⟨[.ref l, .int 1 u], []⟩) (fun _ R s => s.heap.get? l = some { cls := .type "tuple", dict := dd, data := .seq items n, slots := sl } ∧ R (.ok (.ret (Value.ref l))) s) :=
  .of_wp fun prog w A R s h => by
    obtain ⟨hp, g, d, tk, os⟩ := s
    obtain ⟨hl, h⟩ := h
    have f1 := AutoSeq1.idx_int
    wp_walk using wpAny_loadPart' hl
    exact ⟨_, rfl, h⟩
def rRepA (K : PySem.W.Frag) : R2 := fun x y H Q => rRepT K x y H Q ∨ ∃ l xs, x = .ref l ∧ y = .int 1 ∧ SqT K H l xs ∧ Q (.ref l) H
theorem op_repA {X : Cx} {K : PySem.W.Frag} (hK : X.K = K) : OpR X (binaryOp .Mult) (rRepA K) := by
  subst hK
  intro pins s σ H x y v u Q I rx ry h
  rcases h with h | h
  · exact op_repT pins s σ H x y v u Q I rx ry h
  obtain ⟨l, xs, rfl, rfl, hT, q⟩ := h
  cases rx
  obtain ⟨t, rfl⟩ := ry
  obtain ⟨its, r, ⟨⟨cls, dd, data, sl⟩, ho, hc, n, hd⟩, hs⟩ := I.tuple hT
  simp only at hc hd
  subst hc hd
  refine wpAny_binaryOp_repeat_ref (T := "tuple") (U := "int") (by decide) ⟨_, ho, rfl⟩ (fun s' => typeIs_int s' 1 t) noFill_tuple_mul F.fills_int_mul F.slot_int_rmul repeat_tuple F.slot_int_index.lookup
    (call_meets F.slot_int_rmul (typeIs_int s 1 t) F.entry_int_rmul (F.args_int_rmul_2 _ _) (int_rmul_tuple 1 t l its.toArray n dd sl)
      ⟨ho, rfl, ⟨_, ho, rfl⟩, call_meets F.slot_tuple_mul ⟨_, ho, rfl⟩ F.entry_tuple_mul (F.args_tuple_mul_2 _ _) (tuple_mul1 l its.toArray n dd sl t) ⟨ho, ?_⟩⟩)
  exact ⟨.ref l, H, I, rfl, q⟩
end Fo
namespace Fo
open PySem PySem.Spec PyProof.Rows L2 TL
/-- one more thing for the list at D: y, whatever has been frozen for it -/
theorem Cp.more {K : PySem.W.Frag} {F H0 H2 H3 : Hp} {D : Addr} {es : List PyData} {i : Nat} {e : PyData} {y : V} (c : Cp K F H0 D es i H2) (hD : H0 D = none) (hz : es.length ≤ 100000) (he : es[i]? = some e) (s : Same H2 H3)
    (h : ∀ F2, Gw F H0 F2 → Same F2 H2 → F2 D = none → ∃ F3, Gw F2 H2 F3 ∧ Same F3 H3 ∧ Dp K F3 y e) :
    ∃ acc, H3 D = some (.lst acc) ∧ acc.length < sizeLine ∧ Cp K F H0 D es (i + 1) (upd H3 D (.lst (acc ++ [y]))) := by
  obtain ⟨F2, ws, g, s2, s0, fD, eD, dw⟩ := c
  obtain ⟨F3, g3, f3, d3⟩ := h F2 g s2 fD
  have fD3 : F3 D = none := g3.off D (some_ne eD) fD
  refine ⟨ws, s D _ eD, ?_, F3, ws ++ [y], g.trans (fun a ha => Fo.Same.live s0 a ha) g3, ?_, same_put (s0.trans s) hD, fD3, upd_same, ?_⟩
  · rw [dps_len dw]
    exact lim5 (Nat.le_trans (List.length_take_le' ..) hz)
  · intro b u e1
    have : b ≠ D := fun z => by rw [z, fD3] at e1; cases e1
    rw [upd_ne this]
    exact f3 b u e1
  · rw [take_snoc he]
    exact dps_append (dps_mono g3.same dw) (.cons d3 .nil)
/-- .. a new tuple of known data -/
theorem Cp.tup {K : PySem.W.Frag} {F H0 H2 : Hp} {D l : Addr} {es ds : List PyData} {i : Nat} {ys : List V} (c : Cp K F H0 D es i H2) (hD : H0 D = none) (hz : es.length ≤ 100000) (he : es[i]? = some (.tuple ds)) (hy : DpAll K F ys ds) (hl : H2 l = none) :
    ∃ acc, upd H2 l (.tup ys) D = some (.lst acc) ∧ acc.length < sizeLine ∧ Cp K F H0 D es (i + 1) (upd (upd H2 l (.tup ys)) D (.lst (acc ++ [.ref l]))) :=
  c.more hD hz he (same_new hl) fun F2 g s2 _ => ⟨upd F2 l (.tup ys), Gw.refl.put hl (s2.free hl), fun b u e => by
    by_cases z : b = l
    · subst z
      rw [upd_same] at e
      rw [upd_same]
      exact e
    · rw [upd_ne z] at e
      rw [upd_ne z]
      exact s2 b u e, .tup (SqT.of upd_same) (dps_mono (g.same.trans (same_new (s2.free hl))) hy)⟩
/-! ### forms -/
def tupI (r : List Nat) : PyData := .tuple ((r.map fun n => ((n : Nat) : Int)).map PyData.int)
def tupW (r : List (List Nat)) : PyData := .tuple ((r.map S).map PyData.str)
def fmI (rows : List (List Nat)) : PyData := .tuple (rows.map tupI)
def fmS (rows : List (List (List Nat))) : PyData := .tuple (rows.map tupW)
def formD (m : Mch) : PyData := .tuple [.str (S m.ins), .str (S m.outs), fmI m.left, fmI m.right, fmS m.table]
theorem abc_small : ∀ c ∈ abc, c < 0x110000 := by decide +kernel
theorem alpha_small {al : List Nat} (h : alphaB al = true) : ∀ c ∈ al, c < 0x110000 := fun c hc => by
  have h : (decide (1 ≤ al.length) && decide (al.length ≤ 5) && allN al.length (okAt al)) = true := h
  rw [Bool.and_eq_true] at h
  obtain ⟨i, hi, e⟩ := List.mem_iff_getElem.mp hc
  have h2 := List.all_eq_true.mp h.2 i (List.mem_range.mpr hi)
  have h2 : (decide (al.getD i 0 ∈ abc) && !decide (al.getD i 0 ∈ al.take i)) = true := h2
  rw [Bool.and_eq_true] at h2
  have h3 := of_decide_eq_true h2.1
  rw [getD_of (List.getElem?_eq_getElem hi), e] at h3
  exact abc_small c h3
theorem lay_S {l : List Nat} (h : ∀ c ∈ l, c < 0x110000) : (PyData.str (S l)).canLay0 = true := by
  rw [PyData.canLay0]
  show (S l).cps.all (· < 0x110000) = true
  rw [Array.all_eq_true']
  intro c hc
  exact decide_eq_true (h c (by simpa using hc))
theorem dep_S (l : Str) : (PyData.str l).depth = 0 := by rw [PyData.depth]
theorem dep_tupI (r : List Nat) : (tupI r).depth ≤ 1 := dep_tup (n := 0) fun e he => by
  obtain ⟨x, _, rfl⟩ := List.mem_map.mp he
  exact Nat.le_of_eq (dep_int _)
theorem lay_tupI (r : List Nat) : (tupI r).canLay0 = true := lay_tup fun e he => by
  obtain ⟨x, _, rfl⟩ := List.mem_map.mp he
  exact lay_int _
theorem dep_tupW (r : List (List Nat)) : (tupW r).depth ≤ 1 := dep_tup (n := 0) fun e he => by
  obtain ⟨x, _, rfl⟩ := List.mem_map.mp he
  exact Nat.le_of_eq (dep_S _)
theorem form_shaped {m : Mch} (W : Wf m) : (formD m).canLay0 = true ∧ SeqAt.shaped (formD m) = true := by
  have l1 : (formD m).canLay0 = true := lay_tup fun e he => by
    simp only [List.mem_cons, List.not_mem_nil, or_false] at he
    rcases he with rfl | rfl | rfl | rfl | rfl
    · exact lay_S (alpha_small W.ins)
    · exact lay_S (alpha_small W.outs)
    · exact lay_tup fun e he => by
        obtain ⟨r, _, rfl⟩ := List.mem_map.mp he
        exact lay_tupI r
    · exact lay_tup fun e he => by
        obtain ⟨r, _, rfl⟩ := List.mem_map.mp he
        exact lay_tupI r
    · exact lay_tup fun e he => by
        obtain ⟨r, hr, rfl⟩ := List.mem_map.mp he
        exact lay_tup fun e he => by
          obtain ⟨x, hx, rfl⟩ := List.mem_map.mp he
          obtain ⟨w, hw, rfl⟩ := List.mem_map.mp hx
          exact lay_S fun c hc => alpha_small W.outs c (((W.row r hr).2 w hw).2 c hc)
  refine ⟨l1, ?_⟩
  have h3 : (formD m).depth ≤ 3 := dep_tup (n := 2) fun e he => by
    simp only [List.mem_cons, List.not_mem_nil, or_false] at he
    rcases he with rfl | rfl | rfl | rfl | rfl
    · rw [dep_S]; omega
    · rw [dep_S]; omega
    · exact dep_tup (n := 1) fun e he => by
        obtain ⟨r, _, rfl⟩ := List.mem_map.mp he
        exact dep_tupI r
    · exact dep_tup (n := 1) fun e he => by
        obtain ⟨r, _, rfl⟩ := List.mem_map.mp he
        exact dep_tupI r
    · exact dep_tup (n := 1) fun e he => by
        obtain ⟨r, _, rfl⟩ := List.mem_map.mp he
        exact dep_tupW r
  unfold SeqAt.shaped
  rw [l1, decide_eq_true (show (formD m).depth ≤ 64 by omega)]
  rfl
theorem form_eqv {m : Mch} (W : Wf m) : PyData.eqv (formD m) (formD m) = true := PySem.SeqAt.eqv_refl _ (form_shaped W).1
theorem tupled {K : PySem.W.Frag} {F H : Hp} {D : Addr} {es : List PyData} (d : Dp K F (.ref D) (.list es)) (s : Same F H) : ∃ xs, SqL K H D xs ∧ ∀ p, H p = none → Dp K (upd H p (.tup xs)) (.ref p) (.tuple es) := by
  obtain ⟨a, xs, e, q, A⟩ := dp_list d
  cases e
  exact ⟨xs, s.seq q, fun p np => .tup (SqT.of upd_same) (dps_mono (s.trans (same_new np)) A)⟩
theorem map_get {α β : Type} {f : α → β} {l : List α} {i : Nat} {e : β} (h : (l.map f)[i]? = some e) : ∃ r, l[i]? = some r ∧ e = f r := by
  rw [List.getElem?_map] at h
  cases q : l[i]? with
  | none => rw [q] at h; cases h
  | some r =>
    rw [q] at h
    exact ⟨r, rfl, (Option.some.inj h).symm⟩
theorem map_at' {α β : Type} {f : α → β} {l : List α} {i : Nat} {r : α} (h : l[i]? = some r) : (l.map f)[i]? = some (f r) := by
  rw [List.getElem?_map, h]
  rfl
/-! ### recoded and identical machines -/
def recL (outs letters : List Nat) (c : Nat) : Nat := letters.getD (outs.idxOf c) 0
def recT (outs letters : List Nat) (t : List (List (List Nat))) : List (List (List Nat)) := t.map fun r => r.map fun w => w.map (recL outs letters)
def recM (m : Mch) (other letters : List Nat) : Mch := ⟨m.ins, other, m.left, m.right, recT m.outs letters m.table⟩
theorem recL_mem {outs letters : List Nat} {c : Nat} (h : letters.length = outs.length) (hc : c ∈ outs) : recL outs letters c ∈ letters := getD_mem (by rw [h]; exact List.idxOf_lt_length_of_mem hc)
theorem rec_wf {m : Mch} (W : Wf m) {other letters : List Nat} (ho : alphaB other = true) (hl : letters.length = m.outs.length) (hs : ∀ c ∈ letters, c ∈ other) : Wf (recM m other letters) :=
  ⟨W.ins, ho, W.left, W.right, by show (List.map _ _).length = _; rw [List.length_map]; exact W.tab, fun r hr => by
    obtain ⟨r0, hr0, rfl⟩ := List.mem_map.mp hr
    obtain ⟨h1, h2⟩ := W.row r0 hr0
    refine ⟨by rw [List.length_map]; exact h1, fun w hw => ?_⟩
    obtain ⟨w0, hw0, rfl⟩ := List.mem_map.mp hw
    obtain ⟨h3, h4⟩ := h2 w0 hw0
    refine ⟨by rw [List.length_map]; exact h3, fun c hc => ?_⟩
    obtain ⟨c0, hc0, rfl⟩ := List.mem_map.mp hc
    exact hs _ (recL_mem hl (h4 c0 hc0))⟩
theorem out_rec {m : Mch} (W : Wf m) {other letters : List Nat} {i j : Nat} {ks : List Nat} (hi : i < m.left.length) (hj : j < m.right.length) (hk : ∀ k ∈ ks, k < m.ins.length) (W' : Wf (recM m other letters)) :
    outL (recM m other letters) i j ks = (outL m i j ks).map (recL m.outs letters) := by
  unfold outL
  rw [List.map_map]
  refine List.map_congr_left fun t ht => ?_
  have ht := List.mem_range.mp ht
  obtain ⟨r, w, e1, e2, e3, e4, e5⟩ := out_at W hi hj hk ht
  obtain ⟨r', w', e1', e2', e3', e4', e5'⟩ := out_at (m := recM m other letters) W' hi hj hk ht
  have e1' : (m.table.map fun r => r.map fun w => w.map (recL m.outs letters))[fin m.left i (ks.take t)]? = some r' := e1'
  rw [map_at' e1] at e1'
  obtain rfl := Option.some.inj e1'
  have e2' : (r.map fun w => w.map (recL m.outs letters))[fin m.right j (ks.reverse.take (ks.length - 1 - t))]? = some w' := e2'
  rw [map_at' e2] at e2'
  obtain rfl := Option.some.inj e2'
  rw [map_at' e4] at e4'
  exact (Option.some.inj e4').symm
def idM (al : List Nat) : Mch := ⟨al, al, [List.replicate al.length 0], [List.replicate al.length 0], [[al]]⟩
theorem id_rows (n : Nat) : Rws [List.replicate n 0] n :=
  ⟨by show 1 ≤ 1; decide, by show 1 ≤ 40; decide, fun r hr => by
    rw [List.mem_singleton.mp hr]
    exact ⟨List.length_replicate, fun s hs => by rw [List.eq_of_mem_replicate hs]; show 0 < 1; decide⟩⟩
theorem id_wf {al : List Nat} (h : alphaB al = true) : Wf (idM al) :=
  ⟨h, h, id_rows _, id_rows _, rfl, fun r hr => by
    rw [List.mem_singleton.mp hr]
    exact ⟨rfl, fun w hw => by
      rw [List.mem_singleton.mp hw]
      exact ⟨rfl, fun c hc => hc⟩⟩⟩
theorem idx_get {al : List Nat} {c : Nat} (h : c ∈ al) : al.getD (al.idxOf c) 0 = c := by
  have := List.getElem_idxOf (List.idxOf_lt_length_of_mem h)
  rw [getD_of (List.getElem?_eq_getElem (List.idxOf_lt_length_of_mem h))]
  exact this
theorem out_id {al u : List Nat} (h : alphaB al = true) (hu : ∀ c ∈ u, c ∈ al) : outL (idM al) 0 0 (ixs al u) = u := by
  refine List.ext_getElem? fun t => ?_
  by_cases ht : t < u.length
  · have htk : t < (ixs al u).length := by rw [ixs_len]; exact ht
    have hk := ixs_lt hu
    have z1 : fin (idM al).left 0 ((ixs al u).take t) = 0 := by
      have := fin_lt (id_rows al.length) (s := 0) (ks := (ixs al u).take t) (by show 0 < 1; decide) fun k h => hk k (List.mem_of_mem_take h)
      have : fin (idM al).left 0 ((ixs al u).take t) < 1 := this
      omega
    have z2 : fin (idM al).right 0 ((ixs al u).reverse.take ((ixs al u).length - 1 - t)) = 0 := by
      have := fin_lt (id_rows al.length) (s := 0) (ks := (ixs al u).reverse.take ((ixs al u).length - 1 - t)) (by show 0 < 1; decide) fun k h => hk k (List.mem_reverse.mp (List.mem_of_mem_take h))
      have : fin (idM al).right 0 ((ixs al u).reverse.take ((ixs al u).length - 1 - t)) < 1 := this
      omega
    unfold outL
    rw [List.getElem?_map, List.getElem?_range htk]
    show some (outAt (idM al) 0 0 (ixs al u) t) = _
    unfold outAt
    rw [z1, z2, getD_of (ixs_at ht)]
    show some (al.getD (al.idxOf (u.getD t 0)) 0) = _
    rw [idx_get (hu _ (getD_mem ht)), getD_at ht]
  · rw [List.getElem?_eq_none (by rw [outL_len, ixs_len]; omega), List.getElem?_eq_none (by omega)]
end Fo
namespace Fo
open PySem PySem.Spec PyProof.Rows L2 TL
/-! ### lists of rows that change -/
def atomV : PyData → V
  | .int i => .int i
  | .str s => .str s
  | _ => .non
def Atom : PyData → Prop
  | .int _ => True
  | .str _ => True
  | _ => False
theorem atom_dp {K : PySem.W.Frag} {H : Hp} {d : PyData} (h : Atom d) : Dp K H (atomV d) d := by
  cases d with
  | int i => exact .int i
  | str s => exact .str s
  | _ => exact h.elim
theorem atom_eq {K : PySem.W.Frag} {H : Hp} {v : V} {d : PyData} (a : Atom d) (h : Dp K H v d) : v = atomV d := by
  cases d with
  | int i => exact dp_int h
  | str s => exact dp_str h
  | _ => exact a.elim
theorem atoms_eq {K : PySem.W.Frag} {H : Hp} : ∀ {ys : List V} {ds : List PyData}, (∀ d ∈ ds, Atom d) → DpAll K H ys ds → ys = ds.map atomV
  | _, _, _, .nil => rfl
  | _, _, a, .cons h t => by
    rw [List.map_cons, atom_eq (a _ List.mem_cons_self) h, atoms_eq (fun d hd => a d (List.mem_cons_of_mem _ hd)) t]
theorem atoms_dp {K : PySem.W.Frag} {H : Hp} : ∀ {ds : List PyData}, (∀ d ∈ ds, Atom d) → DpAll K H (ds.map atomV) ds
  | [], _ => .nil
  | d :: ds, a => .cons (atom_dp (a d List.mem_cons_self)) (atoms_dp fun d hd => a d (List.mem_cons_of_mem _ hd))
/-- the list at D holds the rows at bs, all new since H0 -/
structure Grid (H0 H : Hp) (D : Addr) (bs : List Addr) (yss : List (List PyData)) : Prop where
  at' : H D = some (.lst (bs.map V.ref))
  len : bs.length = yss.length
  row : ∀ {i : Nat} {b : Addr}, bs[i]? = some b → ∃ ds, yss[i]? = some ds ∧ H b = some (.lst (ds.map atomV))
  nd : (D :: bs).Nodup
  new : ∀ a ∈ D :: bs, H0 a = none
  atom : ∀ ds ∈ yss, ∀ d ∈ ds, Atom d
theorem Grid.live {H0 H : Hp} {D : Addr} {bs : List Addr} {yss : List (List PyData)} (g : Grid H0 H D bs yss) (a : Addr) (h : a ∈ D :: bs) : H a ≠ none := by
  rcases List.mem_cons.mp h with rfl | h
  · exact some_ne g.at'
  · obtain ⟨i, hi, e⟩ := List.mem_iff_getElem.mp h
    obtain ⟨ds, _, e2⟩ := g.row (i := i) (b := a) (by rw [List.getElem?_eq_getElem hi, e])
    exact some_ne e2
theorem Grid.keep {H0 H H' : Hp} {D : Addr} {bs : List Addr} {yss : List (List PyData)} (g : Grid H0 H D bs yss) (k : ∀ a ∈ D :: bs, H' a = H a) : Grid H0 H' D bs yss :=
  ⟨by rw [k D List.mem_cons_self]; exact g.at', g.len, fun {i b} e => by
    obtain ⟨ds, e1, e2⟩ := g.row e
    exact ⟨ds, e1, by rw [k b (List.mem_cons_of_mem _ (List.mem_of_getElem? e))]; exact e2⟩, g.nd, g.new, g.atom⟩
theorem Grid.off {H0 H : Hp} {D b : Addr} {bs : List Addr} {yss : List (List PyData)} {o : HO} (g : Grid H0 H D bs yss) (h : ¬ b ∈ D :: bs) : Grid H0 (upd H b o) D bs yss :=
  g.keep fun a ha => upd_ne fun e => h (e ▸ ha)
theorem Grid.same {H0 H H' : Hp} {D : Addr} {bs : List Addr} {yss : List (List PyData)} (g : Grid H0 H D bs yss) (s : Same H H') : Grid H0 H' D bs yss :=
  g.keep fun a ha => by
    obtain ⟨o, e⟩ := live_some (g.live a ha)
    rw [e, s a o e]
theorem Grid.drew {H0 H H' : Hp} {D b : Addr} {bs : List Addr} {yss : List (List PyData)} (g : Grid H0 H D bs yss) (k : Keep b H H') (hb : H0 b ≠ none) : Grid H0 H' D bs yss :=
  g.keep fun a ha => by
    obtain ⟨o, e⟩ := live_some (g.live a ha)
    rw [e, k a o (fun z => hb (z ▸ g.new a ha)) e]
theorem Grid.since {H0 H1 H : Hp} {D : Addr} {bs : List Addr} {yss : List (List PyData)} (g : Grid H1 H D bs yss) (s : Same H0 H1) : Grid H0 H D bs yss :=
  ⟨g.at', g.len, g.row, g.nd, fun a ha => s.free (g.new a ha), g.atom⟩
theorem Grid.not {H0 H : Hp} {D b : Addr} {bs : List Addr} {yss : List (List PyData)} (g : Grid H0 H D bs yss) (h : H b = none) : ¬ b ∈ D :: bs := fun m => g.live b m h
/-- .. as data -/
theorem Grid.dp {K : PySem.W.Frag} {H0 H : Hp} {D : Addr} {bs : List Addr} {yss : List (List PyData)} (g : Grid H0 H D bs yss) : Dp K H (.ref D) (.list (yss.map PyData.list)) := by
  refine .lst (SqL.of g.at') (dps_ix (by rw [List.length_map, List.length_map]; exact g.len) fun j x e h1 h2 => ?_)
  obtain ⟨b, hb, rfl⟩ := map_get h1
  obtain ⟨ds, hd, rfl⟩ := map_get h2
  obtain ⟨ds', e1, e2⟩ := g.row hb
  rw [hd] at e1
  obtain rfl := Option.some.inj e1
  exact .lst (SqL.of e2) (atoms_dp (g.atom ds (List.mem_of_getElem? hd)))
theorem Grid.get {H0 H : Hp} {D : Addr} {bs : List Addr} {yss : List (List PyData)} (g : Grid H0 H D bs yss) {i : Nat} {ds : List PyData} (h : yss[i]? = some ds) : ∃ b, bs[i]? = some b ∧ (bs.map V.ref)[i]? = some (.ref b) ∧ H b = some (.lst (ds.map atomV)) ∧ b ≠ D := by
  have hi : i < bs.length := by rw [g.len]; exact getElem?_lt h
  have e : bs[i]? = some bs[i] := List.getElem?_eq_getElem hi
  obtain ⟨ds', e1, e2⟩ := g.row e
  rw [h] at e1
  obtain rfl := Option.some.inj e1
  exact ⟨_, e, map_at' e, e2, fun z => (List.nodup_cons.mp g.nd).1 (z ▸ List.getElem_mem hi)⟩
theorem nodup_at {bs : List Addr} (h : bs.Nodup) {i j : Nat} {b : Addr} (e1 : bs[i]? = some b) (e2 : bs[j]? = some b) : i = j := by
  obtain ⟨h1, g1⟩ := List.getElem?_eq_some_iff.mp e1
  obtain ⟨h2, g2⟩ := List.getElem?_eq_some_iff.mp e2
  have hp := List.pairwise_iff_getElem.mp h
  rcases Nat.lt_trichotomy i j with q | q | q
  · exact absurd (g1.trans g2.symm) (hp i j h1 h2 q)
  · exact q
  · exact absurd (g2.trans g1.symm) (hp j i h2 h1 q)
theorem get_set {α : Type} {l : List α} {i j : Nat} {x y : α} (h : (l.set i x)[j]? = some y) : (i = j ∧ y = x ∧ i < l.length) ∨ (i ≠ j ∧ l[j]? = some y) := by
  rw [List.getElem?_set] at h
  by_cases e : i = j
  · rw [if_pos e] at h
    by_cases q : i < l.length
    · rw [if_pos q] at h
      exact .inl ⟨e, (Option.some.inj h).symm, q⟩
    · rw [if_neg q] at h
      cases h
  · rw [if_neg e] at h
    exact .inr ⟨e, h⟩
/-- a row changes -/
theorem Grid.put {H0 H : Hp} {D b : Addr} {bs : List Addr} {yss : List (List PyData)} {i : Nat} {ds : List PyData} (g : Grid H0 H D bs yss) (e : bs[i]? = some b) (ha : ∀ d ∈ ds, Atom d) : Grid H0 (upd H b (.lst (ds.map atomV))) D bs (yss.set i ds) := by
  have hb : b ≠ D := fun z => (List.nodup_cons.mp g.nd).1 (z ▸ List.mem_of_getElem? e)
  have hi := getElem?_lt e
  refine ⟨by rw [upd_ne hb.symm]; exact g.at', by rw [List.length_set]; exact g.len, fun {j c} ec => ?_, g.nd, g.new, fun ds' h => ?_⟩
  · by_cases q : c = b
    · subst q
      obtain rfl := nodup_at (List.nodup_cons.mp g.nd).2 ec e
      exact ⟨ds, by rw [List.getElem?_set, if_pos rfl, if_pos (by rw [← g.len]; exact hi)], upd_same⟩
    · obtain ⟨ds', e1, e2⟩ := g.row ec
      refine ⟨ds', ?_, by rw [upd_ne q]; exact e2⟩
      rw [List.getElem?_set, if_neg (fun z => q (by rw [← z, e] at ec; exact (Option.some.inj ec).symm))]
      exact e1
  · rcases List.mem_or_eq_of_mem_set h with h | rfl
    · exact g.atom ds' h
    · exact ha
/-- a place of the list gets a new row -/
theorem Grid.rep {H0 H : Hp} {D l : Addr} {bs : List Addr} {yss : List (List PyData)} {i : Nat} {ds : List PyData} (g : Grid H0 H D bs yss) (hi : i < bs.length) (hl : H l = some (.lst (ds.map atomV))) (hn : ¬ l ∈ D :: bs) (h0 : H0 l = none) (ha : ∀ d ∈ ds, Atom d) :
    Grid H0 (upd H D (.lst ((bs.map V.ref).set i (.ref l)))) D (bs.set i l) (yss.set i ds) := by
  have lD : l ≠ D := fun z => hn (z ▸ List.mem_cons_self)
  have hnb : ¬ l ∈ bs := fun z => hn (List.mem_cons_of_mem _ z)
  obtain ⟨n1, n2⟩ := List.nodup_cons.mp g.nd
  refine ⟨by rw [upd_same, List.map_set], by rw [List.length_set, List.length_set]; exact g.len, fun {j c} ec => ?_, List.nodup_cons.mpr ⟨fun z => ?_, ?_⟩, fun a hm => ?_, fun ds' h => ?_⟩
  · rcases get_set ec with ⟨rfl, rfl, _⟩ | ⟨ne, ec⟩
    · exact ⟨ds, by rw [List.getElem?_set, if_pos rfl, if_pos (by rw [← g.len]; exact hi)], by rw [upd_ne lD]; exact hl⟩
    · obtain ⟨ds', e1, e2⟩ := g.row ec
      refine ⟨ds', by rw [List.getElem?_set, if_neg ne]; exact e1, ?_⟩
      rw [upd_ne (fun z => n1 (by rw [← z]; exact List.mem_of_getElem? ec))]
      exact e2
  · rcases List.mem_or_eq_of_mem_set z with z | z
    · exact n1 z
    · exact lD z.symm
  · refine List.pairwise_iff_getElem.mpr fun j k hj hk hjk e => ?_
    have ek : (bs.set i l)[k]? = some ((bs.set i l)[k]) := List.getElem?_eq_getElem _
    have e : (bs.set i l)[j]? = some ((bs.set i l)[k]) := by rw [← e]; exact List.getElem?_eq_getElem _
    rcases get_set e with ⟨rfl, e1, _⟩ | ⟨ne1, e1⟩
    · rcases get_set ek with ⟨z, _, _⟩ | ⟨_, e2⟩
      · omega
      · rw [e1] at e2
        exact hnb (List.mem_of_getElem? e2)
    · rcases get_set ek with ⟨_, e2, _⟩ | ⟨_, e2⟩
      · rw [e2] at e1
        exact hnb (List.mem_of_getElem? e1)
      · have := nodup_at n2 e1 e2
        omega
  · rcases List.mem_cons.mp hm with rfl | hm
    · exact g.new _ List.mem_cons_self
    · rcases List.mem_or_eq_of_mem_set hm with hm | rfl
      · exact g.new _ (List.mem_cons_of_mem _ hm)
      · exact h0
  · rcases List.mem_or_eq_of_mem_set h with h | rfl
    · exact g.atom ds' h
    · exact ha
/-- new lists of the same rows, in a comprehension: the first i at H2 -/
def Gr (H0 H1 : Hp) (D : Addr) (es : List (List PyData)) (i : Nat) (H2 : Hp) : Prop := ∃ bs, Grid H0 H2 D bs (es.take i) ∧ Same H1 H2
theorem Gr.start {H0 H1 : Hp} {D : Addr} {es : List (List PyData)} (h : H1 D = none) (h0 : H0 D = none) : Gr H0 H1 D es 0 (upd H1 D (.lst [])) :=
  ⟨[], ⟨upd_same, rfl, fun {i b} e => by simp at e, by simp, fun a ha => by rw [List.mem_singleton.mp ha]; exact h0, fun ds hd => by simp at hd⟩, same_new h⟩
theorem Gr.step {K : PySem.W.Frag} {F H0 H1 H2 : Hp} {D l : Addr} {es : List (List PyData)} {ds : List PyData} {i : Nat} {ys : List V} {o : HO} (c : Gr H0 H1 D es i H2) (hD : H1 D = none) (hz : es.length ≤ 100000) (he : es[i]? = some ds) (ha : ∀ d ∈ ds, Atom d) (hy : DpAll K F ys ds) (hl : H2 l = none) (h0 : H0 l = none) (ho : o = .lst ys) :
    ∃ acc, upd H2 l o D = some (.lst acc) ∧ acc.length < sizeLine ∧ Gr H0 H1 D es (i + 1) (upd (upd H2 l o) D (.lst (acc ++ [.ref l]))) := by
  subst ho
  obtain ⟨bs, g, s⟩ := c
  have hn := g.not hl
  have lD : l ≠ D := fun z => hn (z ▸ List.mem_cons_self)
  have hi := getElem?_lt he
  have lb : bs.length = i := by rw [g.len, List.length_take]; omega
  obtain ⟨n1, n2⟩ := List.nodup_cons.mp g.nd
  refine ⟨bs.map V.ref, by rw [upd_ne lD.symm]; exact g.at', by rw [List.length_map, lb]; exact lim5 (by omega), bs ++ [l], ⟨by rw [upd_same, List.map_append]; rfl, by rw [List.length_append, lb, List.length_take, List.length_singleton]; omega, fun {j c} ec => ?_, List.nodup_cons.mpr ⟨fun z => ?_, ?_⟩, fun a hm => ?_, fun ds' h => ?_⟩, ?_⟩
  · rw [take_snoc he]
    by_cases hj : j < bs.length
    · rw [List.getElem?_append_left hj] at ec
      obtain ⟨ds', e1, e2⟩ := g.row ec
      have hc : c ∈ bs := List.mem_of_getElem? ec
      refine ⟨ds', by rw [List.getElem?_append_left (by rw [← g.len]; exact hj)]; exact e1, ?_⟩
      rw [upd_ne (fun z => n1 (by rw [← z]; exact hc)), upd_ne (fun z => hn (by rw [← z]; exact List.mem_cons_of_mem _ hc))]
      exact e2
    · rw [List.getElem?_append_right (by omega)] at ec
      have ej : j - bs.length = 0 := by
        have := getElem?_lt ec
        rw [List.length_singleton] at this
        omega
      rw [ej] at ec
      obtain rfl : l = c := Option.some.inj ec
      refine ⟨ds, ?_, by rw [upd_ne lD, upd_same, atoms_eq ha hy]⟩
      rw [List.getElem?_append_right (by rw [← g.len]; omega), ← g.len, ej]
      rfl
  · rcases List.mem_append.mp z with z | z
    · exact n1 z
    · exact lD (List.mem_singleton.mp z).symm
  · rw [List.nodup_append]
    refine ⟨n2, by simp, fun a ha b hb => ?_⟩
    rw [List.mem_singleton.mp hb]
    exact fun z => hn (z ▸ List.mem_cons_of_mem _ ha)
  · rcases List.mem_cons.mp hm with rfl | hm
    · exact g.new _ List.mem_cons_self
    · rcases List.mem_append.mp hm with hm | hm
      · exact g.new _ (List.mem_cons_of_mem _ hm)
      · rw [List.mem_singleton.mp hm]
        exact h0
  · rw [take_snoc he] at h
    rcases List.mem_append.mp h with h | h
    · exact g.atom ds' h
    · rw [List.mem_singleton.mp h]
      exact ha
  · refine same_put (same_put s ?_) hD
    cases e : H1 l with
    | none => rfl
    | some o => rw [s l o e] at hl; cases hl
theorem Gr.done {H0 H1 H2 : Hp} {D : Addr} {es : List (List PyData)} (c : Gr H0 H1 D es es.length H2) : ∃ bs, Grid H0 H2 D bs es ∧ Same H1 H2 := by
  obtain ⟨bs, g, s⟩ := c
  rw [List.take_length] at g
  exact ⟨bs, g, s⟩
/-! ### the rows of a machine -/
def intsD (r : List Nat) : List PyData := (r.map fun n => ((n : Nat) : Int)).map PyData.int
def strsD (r : List (List Nat)) : List PyData := (r.map S).map PyData.str
def rowsI (rows : List (List Nat)) : List (List PyData) := rows.map intsD
def rowsS (rows : List (List (List Nat))) : List (List PyData) := rows.map strsD
theorem rowsI_mat (rows : List (List Nat)) : matI rows = .list ((rowsI rows).map PyData.list) := by
  unfold matI rowsI
  rw [List.map_map]
  rfl
theorem rowsS_mat (rows : List (List (List Nat))) : matS rows = .list ((rowsS rows).map PyData.list) := by
  unfold matS rowsS
  rw [List.map_map]
  rfl
theorem intsD_atom (r : List Nat) : ∀ d ∈ intsD r, Atom d := fun d hd => by
  obtain ⟨i, _, rfl⟩ := List.mem_map.mp hd
  trivial
theorem strsD_atom (r : List (List Nat)) : ∀ d ∈ strsD r, Atom d := fun d hd => by
  obtain ⟨i, _, rfl⟩ := List.mem_map.mp hd
  trivial
theorem rowsI_atom {rows : List (List Nat)} {ds : List PyData} (h : ds ∈ rowsI rows) : ∀ d ∈ ds, Atom d := by
  obtain ⟨r, _, rfl⟩ := List.mem_map.mp h
  exact intsD_atom r
theorem rowsS_atom {rows : List (List (List Nat))} {ds : List PyData} (h : ds ∈ rowsS rows) : ∀ d ∈ ds, Atom d := by
  obtain ⟨r, _, rfl⟩ := List.mem_map.mp h
  exact strsD_atom r
theorem intsD_V (r : List Nat) : (intsD r).map atomV = intsV r := by
  unfold intsD intsV
  rw [List.map_map]
  rfl
theorem strsD_V (r : List (List Nat)) : (strsD r).map atomV = (r.map S).map V.str := by
  unfold strsD
  rw [List.map_map]
  rfl
/-! ### spoiled machines are refused -/
theorem all_bad {es : List PyData} {f : PyData → Bool} {e : PyData} (h : e ∈ es) (hf : f e = false) : es.all f = false := by
  rw [List.all_eq_false]
  exact ⟨e, h, by rw [hf]; exact Bool.false_ne_true⟩
theorem row_bad {k n : Nat} {es : List PyData} {e : PyData} (h : e ∈ es) (he : stateD n e = false) : stateRowD k n (.list es) = false := by
  show (decide (es.length = k) && es.all (stateD n)) = false
  rw [all_bad h he, Bool.and_false]
theorem row_len {k n : Nat} {es : List PyData} (h : es.length ≠ k) : stateRowD k n (.list es) = false := by
  show (decide (es.length = k) && es.all (stateD n)) = false
  rw [decide_eq_false h, Bool.false_and]
theorem trans_bad {k : Nat} {yss : List (List PyData)} {r : List PyData} (h : r ∈ yss) (hr : stateRowD k yss.length (.list r) = false) : transD k (.list (yss.map PyData.list)) = false := by
  show (decide (1 ≤ (yss.map PyData.list).length) && decide ((yss.map PyData.list).length ≤ 40) && (yss.map PyData.list).all (stateRowD k (yss.map PyData.list).length)) = false
  rw [List.length_map, all_bad (List.mem_map_of_mem h) hr, Bool.and_false]
theorem trans_len {k : Nat} {yss : List (List PyData)} (h : yss.length = 0 ∨ 40 < yss.length) : transD k (.list (yss.map PyData.list)) = false := by
  show (decide (1 ≤ (yss.map PyData.list).length) && decide ((yss.map PyData.list).length ≤ 40) && (yss.map PyData.list).all (stateRowD k (yss.map PyData.list).length)) = false
  rw [List.length_map]
  rcases h with h | h
  · rw [h]; rfl
  · rw [decide_eq_false (show ¬ yss.length ≤ 40 by omega), Bool.and_false, Bool.false_and]
theorem trow_bad {k n : Nat} {o : List Nat} {es : List PyData} {e : PyData} (h : e ∈ es) (he : writtenD k o e = false) : tableRowD n k o (.list es) = false := by
  show (decide (es.length = n) && es.all (writtenD k o)) = false
  rw [all_bad h he, Bool.and_false]
theorem trow_len {k n : Nat} {o : List Nat} {es : List PyData} (h : es.length ≠ n) : tableRowD n k o (.list es) = false := by
  show (decide (es.length = n) && es.all (writtenD k o)) = false
  rw [decide_eq_false h, Bool.false_and]
theorem table_bad {l g k : Nat} {o : List Nat} {yss : List (List PyData)} {r : List PyData} (h : r ∈ yss) (hr : tableRowD g k o (.list r) = false) : tableD l g k o (.list (yss.map PyData.list)) = false := by
  show (decide ((yss.map PyData.list).length = l) && (yss.map PyData.list).all (tableRowD g k o)) = false
  rw [all_bad (List.mem_map_of_mem h) hr, Bool.and_false]
theorem table_len {l g k : Nat} {o : List Nat} {yss : List (List PyData)} (h : yss.length ≠ l) : tableD l g k o (.list (yss.map PyData.list)) = false := by
  show (decide ((yss.map PyData.list).length = l) && (yss.map PyData.list).all (tableRowD g k o)) = false
  rw [List.length_map, decide_eq_false h, Bool.false_and]
theorem mach_l {r w l g t : PyData} (h : transD (sizeD r) l = false) : machD r w l g t = false := by
  show (alphaD r && alphaD w && transD (sizeD r) l && transD (sizeD r) g && tableD (lenD l) (lenD g) (sizeD r) (signsD w) t) = false
  rw [h, Bool.and_false, Bool.false_and, Bool.false_and]
theorem mach_g {r w l g t : PyData} (h : transD (sizeD r) g = false) : machD r w l g t = false := by
  show (alphaD r && alphaD w && transD (sizeD r) l && transD (sizeD r) g && tableD (lenD l) (lenD g) (sizeD r) (signsD w) t) = false
  rw [h, Bool.and_false, Bool.false_and]
theorem mach_t {r w l g t : PyData} (h : tableD (lenD l) (lenD g) (sizeD r) (signsD w) t = false) : machD r w l g t = false := by
  show (alphaD r && alphaD w && transD (sizeD r) l && transD (sizeD r) g && tableD (lenD l) (lenD g) (sizeD r) (signsD w) t) = false
  rw [h, Bool.and_false]
theorem mach_r {r w l g t : PyData} (h : alphaD r = false) : machD r w l g t = false := by
  show (alphaD r && alphaD w && transD (sizeD r) l && transD (sizeD r) g && tableD (lenD l) (lenD g) (sizeD r) (signsD w) t) = false
  rw [h]; rfl
theorem mach_w {r w l g t : PyData} (h : alphaD w = false) : machD r w l g t = false := by
  show (alphaD r && alphaD w && transD (sizeD r) l && transD (sizeD r) g && tableD (lenD l) (lenD g) (sizeD r) (signsD w) t) = false
  rw [h, Bool.and_false]; rfl
theorem written_len {k : Nat} {o : List Nat} {s : Str} (h : (tl s).length ≠ k) : writtenD k o (.str s) = false := by
  show ((alphaB o && wordD o (.str s)) && decide ((tl s).length = k)) = false
  rw [decide_eq_false h, Bool.and_false]
theorem written_out {k : Nat} {o : List Nat} {s : Str} {c : Nat} (h : c ∈ tl s) (h' : c ∉ o) : writtenD k o (.str s) = false := by
  show ((alphaB o && wordB o (tl s)) && decide ((tl s).length = k)) = false
  rw [wordB_false h h', Bool.and_false, Bool.false_and]
theorem ixN_n {n j : Nat} (hj : j < n) : ixN n (j : Int) = some j := by
  unfold ixN
  rw [if_pos (by omega), if_pos (by omega)]
  simp
/-! ### slices -/
theorem sIx_k (n d k : Nat) : HT.sIx n d (some ((k : Nat) : Int)) = min k n := HT.sIx_nat n d k
theorem cutV_take (xs : List V) (i : Nat) : cutV xs none (some ((i : Nat) : Int)) = xs.take i := by
  unfold cutV
  rw [HT.sIx_none, sIx_k, List.drop_zero, Nat.sub_zero]
  by_cases h : i ≤ xs.length
  · rw [Nat.min_eq_left h]
  · rw [Nat.min_eq_right (by omega), List.take_of_length_le (Nat.le_refl _), List.take_of_length_le (by omega)]
theorem cutV_drop (xs : List V) (i : Nat) : cutV xs (some ((i : Nat) : Int)) none = xs.drop i := by
  unfold cutV
  rw [HT.sIx_none, sIx_k]
  by_cases h : i ≤ xs.length
  · rw [Nat.min_eq_left h, List.take_of_length_le (by rw [List.length_drop]; exact Nat.le_refl _)]
  · rw [Nat.min_eq_right (by omega), List.drop_of_length_le (Nat.le_refl _), List.drop_of_length_le (by omega), List.take_nil]
theorem tl_cutS (z : Str) (lo hi : Option Int) : tl (cutS z lo hi) = ((tl z).drop (HT.sIx z.length 0 lo)).take (HT.sIx z.length z.length hi - HT.sIx z.length 0 lo) := by
  unfold cutS tl
  simp
theorem tl_cut_take (z : Str) (i : Nat) : tl (cutS z none (some ((i : Nat) : Int))) = (tl z).take i := by
  rw [tl_cutS, HT.sIx_none, sIx_k, List.drop_zero, Nat.sub_zero]
  have e : z.length = (tl z).length := len_tl z
  by_cases h : i ≤ z.length
  · rw [Nat.min_eq_left h]
  · rw [Nat.min_eq_right (by omega), List.take_of_length_le (by omega), List.take_of_length_le (by omega)]
theorem tl_cut_drop (z : Str) (i : Nat) : tl (cutS z (some ((i : Nat) : Int)) none) = (tl z).drop i := by
  rw [tl_cutS, HT.sIx_none, sIx_k]
  have e : z.length = (tl z).length := len_tl z
  by_cases h : i ≤ z.length
  · rw [Nat.min_eq_left h, List.take_of_length_le (by rw [List.length_drop]; omega)]
  · rw [Nat.min_eq_right (by omega), List.drop_of_length_le (by omega), List.drop_of_length_le (by omega), List.take_nil]
theorem cut_take (u : List Nat) (i : Nat) : cutS (S u) none (some ((i : Nat) : Int)) = S (u.take i) := ext_tl (by rw [tl_cut_take, tlS, tlS])
theorem cut_drop (u : List Nat) (i : Nat) : cutS (S u) (some ((i : Nat) : Int)) none = S (u.drop i) := ext_tl (by rw [tl_cut_drop, tlS, tlS])
theorem dps_take {K : PySem.W.Frag} {H : Hp} : ∀ {xs : List V} {es : List PyData}, DpAll K H xs es → ∀ n, DpAll K H (xs.take n) (es.take n)
  | _, _, .nil, n => by rw [List.take_nil, List.take_nil]; exact .nil
  | _, _, .cons h t, 0 => .nil
  | _, _, .cons h t, n + 1 => .cons h (dps_take t n)
theorem dps_drop {K : PySem.W.Frag} {H : Hp} : ∀ {xs : List V} {es : List PyData}, DpAll K H xs es → ∀ n, DpAll K H (xs.drop n) (es.drop n)
  | _, _, .nil, n => by rw [List.drop_nil, List.drop_nil]; exact .nil
  | _, _, .cons h t, 0 => .cons h t
  | _, _, .cons h t, n + 1 => dps_drop t n
theorem Grid.all {K : PySem.W.Frag} {H0 H : Hp} {D : Addr} {bs : List Addr} {yss : List (List PyData)} (g : Grid H0 H D bs yss) : DpAll K H (bs.map V.ref) (yss.map PyData.list) := by
  refine dps_ix (by rw [List.length_map, List.length_map]; exact g.len) fun j x e h1 h2 => ?_
  obtain ⟨b, hb, rfl⟩ := map_get h1
  obtain ⟨ds, hd, rfl⟩ := map_get h2
  obtain ⟨ds', e1, e2⟩ := g.row hb
  rw [hd] at e1
  obtain rfl := Option.some.inj e1
  exact .lst (SqL.of e2) (atoms_dp (g.atom ds (List.mem_of_getElem? hd)))
/-- what is new since H0 -/
theorem new_since {K : PySem.W.Frag} {b a : Addr} {F H0 H : Hp} (k : Keep b H0 H) (B : Bx K b F H) (h : H a = none) : H0 a = none := by
  cases e : H0 a with
  | none => rfl
  | some o => exact absurd h (Keep.live k B.liv a (some_ne e))
theorem Bx.put {K : PySem.W.Frag} {b a : Addr} {F H0 H : Hp} {o : HO} (B : Bx K b F H) (B0 : Bx K b F H0) (k : Keep b H0 H) (h : H0 a = none) : Bx K b F (upd H a o) ∧ Keep b H0 (upd H a o) :=
  ⟨B.off (B0.sub.free h) (fun e => B0.liv (e ▸ h)), keep_put k h⟩
end Fo
namespace Fo
open PySem PySem.Spec PyProof.Rows L2 TL
/-! ### the parts of a machine, copied to be spoiled -/
/-- data of a machine's shape: two texts and three lists of lists -/
def partsD (r o : Str) (ls rs ts : List (List PyData)) : PyData := .list [.str r, .str o, .list (ls.map .list), .list (rs.map .list), .list (ts.map .list)]
theorem parts_dp {K : PySem.W.Frag} {H : Hp} {v : V} {r o : Str} {ls rs ts : List (List PyData)} (h : Dp K H v (partsD r o ls rs ts)) : ∃ a v3 v4 v5, v = .ref a ∧ SqL K H a [.str r, .str o, v3, v4, v5] ∧ Dp K H v3 (.list (ls.map .list)) ∧ Dp K H v4 (.list (rs.map .list)) ∧ Dp K H v5 (.list (ts.map .list)) := by
  obtain ⟨a, xs, rfl, q, A⟩ := dp_list h
  cases A with
  | cons h1 A =>
    cases A with
    | cons h2 A =>
      cases A with
      | cons h3 A =>
        cases A with
        | cons h4 A =>
          cases A with
          | cons h5 A =>
            cases A
            rw [dp_str h1, dp_str h2] at q
            exact ⟨a, _, _, _, rfl, q, h3, h4, h5⟩
theorem map_get0 {α β : Type} {f : α → β} {l : List α} {i : Nat} {e : β} (h : (l.map f)[i]? = some e) : ∃ r, e = f r := by
  obtain ⟨r, _, e⟩ := List.mem_map.mp (List.mem_of_getElem? h)
  exact ⟨r, e.symm⟩
theorem tab_small {m : Mch} (W : Wf m) : ∀ t ∈ rowsS m.table, ∀ e ∈ t, SmallD e := by
  intro t ht e he
  obtain ⟨r, hr, rfl⟩ := List.mem_map.mp ht
  obtain ⟨x, hx, rfl⟩ := List.mem_map.mp he
  obtain ⟨w, hw, rfl⟩ := List.mem_map.mp hx
  have := ((W.row r hr).2 w hw).1
  have := (alpha_pos W.ins).2
  exact small_S (by omega)
theorem rowsI_len (rows : List (List Nat)) : (rowsI rows).length = rows.length := List.length_map ..
theorem rowsS_len (rows : List (List (List Nat))) : (rowsS rows).length = rows.length := List.length_map ..
/-- the copied parts: left, right and table, apart -/
structure Pt (H0 H : Hp) (p : Addr) (m : Mch) (D3 : Addr) (b3 : List Addr) (D4 : Addr) (b4 : List Addr) (D5 : Addr) (b5 : List Addr) : Prop where
  top : H p = some (.lst [.str (S m.ins), .str (S m.outs), .ref D3, .ref D4, .ref D5])
  g3 : Grid H0 H D3 b3 (rowsI m.left)
  g4 : Grid H0 H D4 b4 (rowsI m.right)
  g5 : Grid H0 H D5 b5 (rowsS m.table)
  n34 : ∀ a ∈ D3 :: b3, ¬ a ∈ D4 :: b4
  n35 : ∀ a ∈ D3 :: b3, ¬ a ∈ D5 :: b5
  n45 : ∀ a ∈ D4 :: b4, ¬ a ∈ D5 :: b5
  p3 : ¬ p ∈ D3 :: b3
  p4 : ¬ p ∈ D4 :: b4
  p5 : ¬ p ∈ D5 :: b5
  p0 : H0 p = none
theorem Pt.drew {H0 H H' : Hp} {p b : Addr} {m : Mch} {D3 D4 D5 : Addr} {b3 b4 b5 : List Addr} (t : Pt H0 H p m D3 b3 D4 b4 D5 b5) (k : Keep b H H') (hb : H0 b ≠ none) : Pt H0 H' p m D3 b3 D4 b4 D5 b5 :=
  ⟨k p _ (fun z => hb (z ▸ t.p0)) t.top, t.g3.drew k hb, t.g4.drew k hb, t.g5.drew k hb, t.n34, t.n35, t.n45, t.p3, t.p4, t.p5, t.p0⟩
theorem Pt.same {H0 H H' : Hp} {p : Addr} {m : Mch} {D3 D4 D5 : Addr} {b3 b4 b5 : List Addr} (t : Pt H0 H p m D3 b3 D4 b4 D5 b5) (s : Same H H') : Pt H0 H' p m D3 b3 D4 b4 D5 b5 :=
  ⟨s _ _ t.top, t.g3.same s, t.g4.same s, t.g5.same s, t.n34, t.n35, t.n45, t.p3, t.p4, t.p5, t.p0⟩
theorem parts_of {K : PySem.W.Frag} {H : Hp} {p x y z : Addr} {r o : Str} {l g t : List (List PyData)} (e : H p = some (.lst [.str r, .str o, .ref x, .ref y, .ref z])) (h3 : Dp K H (.ref x) (.list (l.map PyData.list))) (h4 : Dp K H (.ref y) (.list (g.map PyData.list))) (h5 : Dp K H (.ref z) (.list (t.map PyData.list))) : Dp K H (.ref p) (partsD r o l g t) :=
  .lst (SqL.of e) (.cons (.str _) (.cons (.str _) (.cons h3 (.cons h4 (.cons h5 .nil)))))
/-- one side of them -/
structure Side (K : PySem.W.Frag) (H0 H : Hp) (p : Addr) (m : Mch) (D3 D4 D5 : Addr) (b5 : List Addr) (sd : Nat) (DA : Addr) (bA : List Addr) (rA : List (List Nat)) (DB : Addr) (bB : List Addr) (rB : List (List Nat)) : Prop where
  gA : Grid H0 H DA bA (rowsI rA)
  gB : Grid H0 H DB bB (rowsI rB)
  rws : Rws rA m.ins.length
  at' : ([V.str (S m.ins), .str (S m.outs), .ref D3, .ref D4, .ref D5] : List V)[2 + sd]? = some (.ref DA)
  nAB : ∀ a ∈ DA :: bA, ¬ a ∈ DB :: bB
  nA5 : ∀ a ∈ DA :: bA, ¬ a ∈ D5 :: b5
  pA : ¬ p ∈ DA :: bA
  dp : ∀ (H' : Hp) (yA t : List (List PyData)), H' p = some (.lst [.str (S m.ins), .str (S m.outs), .ref D3, .ref D4, .ref D5]) → Dp K H' (.ref DA) (.list (yA.map PyData.list)) → Dp K H' (.ref DB) (.list ((rowsI rB).map PyData.list)) → Dp K H' (.ref D5) (.list (t.map PyData.list)) →
    transD m.ins.length (.list (yA.map PyData.list)) = false → yA.length ≤ 1000 → ∃ l g, Dp K H' (.ref p) (partsD (S m.ins) (S m.outs) l g t) ∧ machD (.str (S m.ins)) (.str (S m.outs)) (.list (l.map PyData.list)) (.list (g.map PyData.list)) (.list (t.map PyData.list)) = false ∧ l.length ≤ 1000 ∧ g.length ≤ 1000
theorem Side.drew {K : PySem.W.Frag} {H0 H H' : Hp} {p b : Addr} {m : Mch} {D3 D4 D5 : Addr} {b5 : List Addr} {sd : Nat} {DA DB : Addr} {bA bB : List Addr} {rA rB : List (List Nat)} (S : Side K H0 H p m D3 D4 D5 b5 sd DA bA rA DB bB rB) (k : Keep b H H') (hb : H0 b ≠ none) : Side K H0 H' p m D3 D4 D5 b5 sd DA bA rA DB bB rB :=
  ⟨S.gA.drew k hb, S.gB.drew k hb, S.rws, S.at', S.nAB, S.nA5, S.pA, S.dp⟩
theorem Side.same {K : PySem.W.Frag} {H0 H H' : Hp} {p : Addr} {m : Mch} {D3 D4 D5 : Addr} {b5 : List Addr} {sd : Nat} {DA DB : Addr} {bA bB : List Addr} {rA rB : List (List Nat)} (S : Side K H0 H p m D3 D4 D5 b5 sd DA bA rA DB bB rB) (s : Same H H') : Side K H0 H' p m D3 D4 D5 b5 sd DA bA rA DB bB rB :=
  ⟨S.gA.same s, S.gB.same s, S.rws, S.at', S.nAB, S.nA5, S.pA, S.dp⟩
theorem Pt.side {K : PySem.W.Frag} {H0 H : Hp} {p : Addr} {m : Mch} {D3 D4 D5 : Addr} {b3 b4 b5 : List Addr} (t : Pt H0 H p m D3 b3 D4 b4 D5 b5) (W : Wf m) {sd : Nat} (h : sd < 2) : ∃ DA bA rA DB bB rB, Side K H0 H p m D3 D4 D5 b5 sd DA bA rA DB bB rB := by
  have e : sizeD (.str (S m.ins)) = m.ins.length := by show (tl (S m.ins)).length = _; rw [tlS]
  have l1 := W.left.most
  have l2 := W.right.most
  match sd, h with
  | 0, _ => exact ⟨D3, b3, m.left, D4, b4, m.right, t.g3, t.g4, W.left, rfl, t.n34, t.n35, t.p3, fun H' yA tt e1 h3 h4 h5 hb hl => ⟨yA, rowsI m.right, parts_of e1 h3 h4 h5, mach_l (by rw [e]; exact hb), hl, by rw [rowsI_len]; omega⟩⟩
  | 1, _ => exact ⟨D4, b4, m.right, D3, b3, m.left, t.g4, t.g3, W.right, rfl, fun a ha hb => t.n34 a hb ha, t.n45, t.p4, fun H' yA tt e1 h3 h4 h5 hb hl => ⟨rowsI m.left, yA, parts_of e1 h4 h3 h5, mach_g (by rw [e]; exact hb), by rw [rowsI_len]; omega, hl⟩⟩
theorem mem_set {α : Type} {l : List α} {i : Nat} {x : α} (h : i < l.length) : x ∈ l.set i x := List.mem_set h x
theorem get_rowsI {rows : List (List Nat)} {i : Nat} {r : List Nat} (h : rows[i]? = some r) : (rowsI rows)[i]? = some (intsD r) := map_at' h
theorem get_rowsS {rows : List (List (List Nat))} {i : Nat} {r : List (List Nat)} (h : rows[i]? = some r) : (rowsS rows)[i]? = some (strsD r) := map_at' h
theorem intsD_len (r : List Nat) : (intsD r).length = r.length := by unfold intsD; rw [List.length_map, List.length_map]
theorem strsD_len (r : List (List Nat)) : (strsD r).length = r.length := by unfold strsD; rw [List.length_map, List.length_map]
theorem get_lt {α : Type} {l : List α} {i : Nat} (h : i < l.length) : ∃ x, l[i]? = some x := ⟨l[i], List.getElem?_eq_getElem h⟩
theorem at_neg {xs : List V} {x : V} (h : xs[xs.length - 1]? = some x) : atI xs (-1) = some x := by
  have h1 := getElem?_lt h
  unfold atI ixN
  rw [if_neg (by decide), if_pos (by omega)]
  show xs[((-1 : Int) + (xs.length : Int)).toNat]? = some x
  rw [show ((-1 : Int) + (xs.length : Int)).toNat = xs.length - 1 by omega]
  exact h
theorem ixN_neg {n : Nat} (h : 1 ≤ n) : ixN n (-1) = some (n - 1) := by
  unfold ixN
  rw [if_neg (by decide), if_pos (by omega)]
  congr 1
  omega
/-- how a spoiled machine's parts are taken -/
def Spl (K : PySem.W.Frag) (b : Addr) (F H : Hp) (Q : VK) : Prop := ∀ (p : Addr) (H' : Hp) (r o : Str) (l g t : List (List PyData)), Bx K b F H' → Keep b H H' → Dp K H' (.ref p) (partsD r o l g t) → machD (.str r) (.str o) (.list (l.map PyData.list)) (.list (g.map PyData.list)) (.list (t.map PyData.list)) = false →
    l.length ≤ 1000 → g.length ≤ 1000 → t.length ≤ 1000 → r.length ≤ 100000 → o.length ≤ 100000 → (∀ x ∈ t, ∀ e ∈ x, SmallD e) → Q (.ref p) H'
section
variable {K : PySem.W.Frag} {b p : Addr} {F H : Hp} {Q : VK} {m : Mch} {D3 D4 D5 : Addr} {b3 b4 b5 : List Addr}
theorem ins_small {m : Mch} (W : Wf m) : (S m.ins).length ≤ 100000 ∧ (S m.outs).length ≤ 100000 := by
  have := (alpha_pos W.ins).2
  have := (alpha_pos W.outs).2
  rw [len_S, len_S]
  omega
/-- another table -/
theorem Spl.table (q : Spl K b F H Q) (W : Wf m) {H' : Hp} {t : List (List PyData)} {D' : Addr} (BB : Bx K b F H') (kk : Keep b H H') (tp : H' p = some (.lst [.str (S m.ins), .str (S m.outs), .ref D3, .ref D4, .ref D'])) (G3 : Grid H H' D3 b3 (rowsI m.left)) (G4 : Grid H H' D4 b4 (rowsI m.right)) (d5 : Dp K H' (.ref D') (.list (t.map PyData.list)))
    (bad : tableD m.left.length m.right.length m.ins.length m.outs (.list (t.map PyData.list)) = false) (ll : t.length ≤ 1000) (ss : ∀ x ∈ t, ∀ e ∈ x, SmallD e) : Q (.ref p) H' := by
  have w1 := W.left.most
  have w2 := W.right.most
  obtain ⟨lin, lout⟩ := ins_small W
  refine q p H' (S m.ins) (S m.outs) (rowsI m.left) (rowsI m.right) t BB kk (parts_of tp G3.dp G4.dp d5) (mach_t ?_) (by rw [rowsI_len]; omega) (by rw [rowsI_len]; omega) ll lin lout ss
  show tableD ((rowsI m.left).map PyData.list).length ((rowsI m.right).map PyData.list).length (tl (S m.ins)).length (tl (S m.outs)) _ = false
  rw [List.length_map, List.length_map, rowsI_len, rowsI_len, tlS, tlS]
  exact bad
theorem set_small {m : Mch} (W : Wf m) {x : List PyData} {i : Nat} (hx : ∀ e ∈ x, SmallD e) : ∀ y ∈ (rowsS m.table).set i x, ∀ e ∈ y, SmallD e := fun y hy => by
  rcases List.mem_or_eq_of_mem_set hy with hy | rfl
  · exact tab_small W y hy
  · exact hx
/-- another text in the table -/
theorem Spl.text (q : Spl K b F H Q) (W : Wf m) (B : Bx K b F H) {H' : Hp} {z : Str} {i j : Nat} {tr : List (List Nat)} {rb : Addr} (BB : Bx K b F H') (kk : Keep b H H') (PP : Pt H H' p m D3 b3 D4 b4 D5 b5) (et : m.table[i]? = some tr) (hrb : b5[i]? = some rb) (hj : j < tr.length) (hz : z.length ≤ 100000) (hw : writtenD m.ins.length m.outs (.str z) = false) :
    Q (.ref p) (upd H' rb (.lst (((strsD tr).map atomV).set j (.str z)))) := by
  have ltab : (rowsS m.table).length ≤ 1000 := by rw [rowsS_len, W.tab]; have := W.left.most; omega
  have hm5 : rb ∈ D5 :: b5 := List.mem_cons_of_mem _ (List.mem_of_getElem? hrb)
  have n0 := PP.g5.new rb hm5
  obtain ⟨BX, KX⟩ := BB.put (o := .lst (((strsD tr).map atomV).set j (.str z))) B kk n0
  have e : ((strsD tr).map atomV).set j (.str z) = ((strsD tr).set j (.str z)).map atomV := by rw [List.map_set]; rfl
  rw [e] at BX KX ⊢
  have trsm : ∀ e ∈ strsD tr, SmallD e := tab_small W _ (List.mem_map_of_mem (List.mem_of_getElem? et))
  have G := PP.g5.put (ds := (strsD tr).set j (.str z)) hrb (fun d hd => by
    rcases List.mem_or_eq_of_mem_set hd with hd | rfl
    · exact strsD_atom tr d hd
    · trivial)
  refine q.table W (t := (rowsS m.table).set i ((strsD tr).set j (.str z))) (D' := D5) BX KX ?_ (PP.g3.off fun h => PP.n35 _ h hm5) (PP.g4.off fun h => PP.n45 _ h hm5) G.dp (table_bad (mem_set (by rw [rowsS_len]; exact getElem?_lt et)) (trow_bad (mem_set (by rw [strsD_len]; exact hj)) hw)) (by rw [List.length_set]; exact ltab) (set_small W fun e he => ?_)
  · rw [upd_ne (fun z => PP.p5 (by rw [z]; exact hm5))]
    exact PP.top
  · rcases List.mem_or_eq_of_mem_set he with he | rfl
    · exact trsm e he
    · exact fun s es => by cases es; exact hz
/-- another row of the table -/
theorem Spl.trow (q : Spl K b F H Q) (W : Wf m) (B : Bx K b F H) {H' : Hp} {i : Nat} {ds : List PyData} {y : Addr} (BB : Bx K b F H') (kk : Keep b H H') (PP : Pt H H' p m D3 b3 D4 b4 D5 b5) (hi : i < m.left.length) (hl : H' y = some (.lst (ds.map atomV))) (hn : H y = none) (hD : ¬ y ∈ D5 :: b5) (ha : ∀ d ∈ ds, Atom d) (hlen : ds.length ≠ m.right.length) (hsm : ∀ e ∈ ds, SmallD e) :
    Q (.ref p) (upd H' D5 (.lst ((b5.map V.ref).set i (.ref y)))) := by
  have ltab : (rowsS m.table).length ≤ 1000 := by rw [rowsS_len, W.tab]; have := W.left.most; omega
  have lb5 : b5.length = m.left.length := by rw [PP.g5.len, rowsS_len, W.tab]
  have n5 := PP.g5.new D5 List.mem_cons_self
  obtain ⟨BX, KX⟩ := BB.put (o := .lst ((b5.map V.ref).set i (.ref y))) B kk n5
  have G := PP.g5.rep (i := i) (by rw [lb5]; exact hi) hl hD hn ha
  refine q.table W (D' := D5) BX KX ?_ (PP.g3.off fun h => PP.n35 _ h List.mem_cons_self) (PP.g4.off fun h => PP.n45 _ h List.mem_cons_self) G.dp (table_bad (mem_set (by rw [rowsS_len, W.tab]; exact hi)) (trow_len hlen)) (by rw [List.length_set]; exact ltab) (set_small W hsm)
  rw [upd_ne (fun z => PP.p5 (by rw [z]; exact List.mem_cons_self))]
  exact PP.top
variable {sd : Nat} {DA DB : Addr} {bA bB : List Addr} {rA rB : List (List Nat)}
/-- another side -/
theorem Spl.side (q : Spl K b F H Q) (W : Wf m) {H0 H' : Hp} {bA' : List Addr} {y : List (List PyData)} (SS : Side K H H0 p m D3 D4 D5 b5 sd DA bA rA DB bB rB) (BB : Bx K b F H') (kk : Keep b H H') (tp : H' p = some (.lst [.str (S m.ins), .str (S m.outs), .ref D3, .ref D4, .ref D5])) (GA : Grid H H' DA bA' y) (GB : Grid H H' DB bB (rowsI rB)) (G5 : Grid H H' D5 b5 (rowsS m.table))
    (bad : transD m.ins.length (.list (y.map PyData.list)) = false) (ll : y.length ≤ 1000) : Q (.ref p) H' := by
  have ltab : (rowsS m.table).length ≤ 1000 := by rw [rowsS_len, W.tab]; have := W.left.most; omega
  obtain ⟨lin, lout⟩ := ins_small W
  obtain ⟨l, g, h1, h2, h3, h4⟩ := SS.dp H' y (rowsS m.table) tp GA.dp GB.dp G5.dp bad ll
  exact q p H' (S m.ins) (S m.outs) l g (rowsS m.table) BB kk h1 h2 h3 h4 ltab lin lout (tab_small W)
/-- another state in a row -/
theorem Spl.state (q : Spl K b F H Q) (W : Wf m) (B : Bx K b F H) {H' : Hp} {i k : Nat} {y : Int} {sr : List Nat} {sb : Addr} (BB : Bx K b F H') (kk : Keep b H H') (PP : Pt H H' p m D3 b3 D4 b4 D5 b5) (SS : Side K H H' p m D3 D4 D5 b5 sd DA bA rA DB bB rB) (hsr : rA[i]? = some sr) (hsb : bA[i]? = some sb) (hk : k < sr.length) (hbad : stateD rA.length (.int y) = false) :
    Q (.ref p) (upd H' sb (.lst (((intsD sr).map atomV).set k (.int y)))) := by
  have hsm : sb ∈ DA :: bA := List.mem_cons_of_mem _ (List.mem_of_getElem? hsb)
  have e : ((intsD sr).map atomV).set k (.int y) = ((intsD sr).set k (.int y)).map atomV := by rw [List.map_set]; rfl
  obtain ⟨BX, KX⟩ := BB.put (o := .lst (((intsD sr).map atomV).set k (.int y))) B kk (SS.gA.new sb hsm)
  rw [e] at BX KX ⊢
  have G := SS.gA.put (ds := (intsD sr).set k (.int y)) hsb (fun d hd => by
    rcases List.mem_or_eq_of_mem_set hd with hd | rfl
    · exact intsD_atom sr d hd
    · trivial)
  refine q.side W SS BX KX ?_ G (SS.gB.off fun h => SS.nAB _ hsm h) (PP.g5.off fun h => SS.nA5 _ hsm h) (trans_bad (mem_set (by rw [rowsI_len]; exact getElem?_lt hsr)) ?_) (by rw [List.length_set, rowsI_len]; have := SS.rws.most; omega)
  · rw [upd_ne (fun z => SS.pA (by rw [z]; exact hsm))]
    exact PP.top
  · rw [List.length_set, rowsI_len]
    exact row_bad (mem_set (by rw [intsD_len]; exact hk)) hbad
/-- another row of states -/
theorem Spl.srow (q : Spl K b F H Q) (W : Wf m) (B : Bx K b F H) {H' : Hp} {i : Nat} {ds : List PyData} {y : Addr} (BB : Bx K b F H') (kk : Keep b H H') (PP : Pt H H' p m D3 b3 D4 b4 D5 b5) (SS : Side K H H' p m D3 D4 D5 b5 sd DA bA rA DB bB rB) (hi : i < rA.length) (hl : H' y = some (.lst (ds.map atomV))) (hn : H y = none) (hD : ¬ y ∈ DA :: bA) (ha : ∀ d ∈ ds, Atom d) (hlen : ds.length ≠ m.ins.length) :
    Q (.ref p) (upd H' DA (.lst ((bA.map V.ref).set i (.ref y)))) := by
  have lA : bA.length = rA.length := by rw [SS.gA.len, rowsI_len]
  have n5 := SS.gA.new DA List.mem_cons_self
  obtain ⟨BX, KX⟩ := BB.put (o := .lst ((bA.map V.ref).set i (.ref y))) B kk n5
  have G := SS.gA.rep (i := i) (by rw [lA]; exact hi) hl hD hn ha
  refine q.side W SS BX KX ?_ G (SS.gB.off fun h => SS.nAB _ List.mem_cons_self h) (PP.g5.off fun h => SS.nA5 _ List.mem_cons_self h) (trans_bad (mem_set (by rw [rowsI_len]; exact hi)) (row_len hlen)) (by rw [List.length_set, rowsI_len]; have := SS.rws.most; omega)
  rw [upd_ne (fun z => SS.pA (by rw [z]; exact List.mem_cons_self))]
  exact PP.top
/-- a whole side -/
theorem Spl.all (q : Spl K b F H Q) (W : Wf m) (B : Bx K b F H) {H' : Hp} {y : List (List PyData)} {x : Addr} (hs : sd < 2) (BB : Bx K b F H') (kk : Keep b H H') (PP : Pt H H' p m D3 b3 D4 b4 D5 b5) (dx : Dp K H' (.ref x) (.list (y.map PyData.list))) (ox : ∀ o, Dp K (upd H' p o) (.ref x) (.list (y.map PyData.list))) (bad : transD m.ins.length (.list (y.map PyData.list)) = false) (ll : y.length ≤ 1000) :
    Q (.ref p) (upd H' p (.lst ([V.str (S m.ins), .str (S m.outs), .ref D3, .ref D4, .ref D5].set (2 + sd) (.ref x)))) := by
  have w1 := W.left.most
  have w2 := W.right.most
  have ltab : (rowsS m.table).length ≤ 1000 := by rw [rowsS_len, W.tab]; omega
  obtain ⟨lin, lout⟩ := ins_small W
  have e : sizeD (.str (S m.ins)) = m.ins.length := by show (tl (S m.ins)).length = _; rw [tlS]
  obtain ⟨BX, KX⟩ := BB.put (o := .lst ([V.str (S m.ins), .str (S m.outs), .ref D3, .ref D4, .ref D5].set (2 + sd) (.ref x))) B kk PP.p0
  have g3 := PP.g3.off (o := .lst ([V.str (S m.ins), .str (S m.outs), .ref D3, .ref D4, .ref D5].set (2 + sd) (.ref x))) PP.p3
  have g4 := PP.g4.off (o := .lst ([V.str (S m.ins), .str (S m.outs), .ref D3, .ref D4, .ref D5].set (2 + sd) (.ref x))) PP.p4
  have g5 := PP.g5.off (o := .lst ([V.str (S m.ins), .str (S m.outs), .ref D3, .ref D4, .ref D5].set (2 + sd) (.ref x))) PP.p5
  have dx := ox (.lst ([V.str (S m.ins), .str (S m.outs), .ref D3, .ref D4, .ref D5].set (2 + sd) (.ref x)))
  have top : upd H' p (.lst ([V.str (S m.ins), .str (S m.outs), .ref D3, .ref D4, .ref D5].set (2 + sd) (.ref x))) p = some (.lst ([V.str (S m.ins), .str (S m.outs), .ref D3, .ref D4, .ref D5].set (2 + sd) (.ref x))) := upd_same
  have hw : sd = 0 ∨ sd = 1 := by omega
  rcases hw with rfl | rfl
  · have top : upd H' p (.lst ([V.str (S m.ins), .str (S m.outs), .ref D3, .ref D4, .ref D5].set (2 + 0) (.ref x))) p = some (.lst [V.str (S m.ins), .str (S m.outs), .ref x, .ref D4, .ref D5]) := top
    generalize upd H' p (.lst ([V.str (S m.ins), .str (S m.outs), .ref D3, .ref D4, .ref D5].set (2 + 0) (.ref x))) = H2 at BX KX g4 g5 dx top ⊢
    exact q p H2 (S m.ins) (S m.outs) y (rowsI m.right) (rowsS m.table) BX KX (parts_of top dx g4.dp g5.dp) (mach_l (by rw [e]; exact bad)) ll (by rw [rowsI_len]; omega) ltab lin lout (tab_small W)
  · have top : upd H' p (.lst ([V.str (S m.ins), .str (S m.outs), .ref D3, .ref D4, .ref D5].set (2 + 1) (.ref x))) p = some (.lst [V.str (S m.ins), .str (S m.outs), .ref D3, .ref x, .ref D5]) := top
    generalize upd H' p (.lst ([V.str (S m.ins), .str (S m.outs), .ref D3, .ref D4, .ref D5].set (2 + 1) (.ref x))) = H2 at BX KX g3 g5 dx top ⊢
    exact q p H2 (S m.ins) (S m.outs) (rowsI m.left) y (rowsS m.table) BX KX (parts_of top g3.dp dx g5.dp) (mach_g (by rw [e]; exact bad)) (by rw [rowsI_len]; omega) ll ltab lin lout (tab_small W)
end
theorem lm_parts (m : Mch) : lmD m = partsD (S m.ins) (S m.outs) (rowsI m.left) (rowsI m.right) (rowsS m.table) := by
  unfold lmD partsD
  rw [rowsI_mat, rowsI_mat, rowsS_mat]
theorem wf_parts {m : Mch} (W : Wf m) : machD (.str (S m.ins)) (.str (S m.outs)) (.list ((rowsI m.left).map PyData.list)) (.list ((rowsI m.right).map PyData.list)) (.list ((rowsS m.table).map PyData.list)) = true := by
  rw [← rowsI_mat, ← rowsI_mat, ← rowsS_mat]
  exact wf_mach W
/-- the three fields as one list -/
def triD (m : Mch) : PyData := .list [matI m.left, matI m.right, matS m.table]
theorem tri_shaped {m : Mch} (W : Wf m) : (triD m).canLay0 = true ∧ SeqAt.shaped (triD m) = true := by
  have li : ∀ rows : List (List Nat), (matI rows).canLay0 = true ∧ (matI rows).depth ≤ 2 := fun rows => ⟨lay_lst fun e he => by
    obtain ⟨r, _, rfl⟩ := List.mem_map.mp he
    exact lay_lst fun e he => by
      obtain ⟨x, _, rfl⟩ := List.mem_map.mp he
      exact lay_int _, dep_lst (n := 1) fun e he => by
    obtain ⟨r, _, rfl⟩ := List.mem_map.mp he
    exact dep_lst (n := 0) fun e he => by
      obtain ⟨x, _, rfl⟩ := List.mem_map.mp he
      exact Nat.le_of_eq (dep_int _)⟩
  have ls : (matS m.table).canLay0 = true ∧ (matS m.table).depth ≤ 2 := ⟨lay_lst fun e he => by
    obtain ⟨r, hr, rfl⟩ := List.mem_map.mp he
    exact lay_lst fun e he => by
      obtain ⟨x, hx, rfl⟩ := List.mem_map.mp he
      obtain ⟨w, hw, rfl⟩ := List.mem_map.mp hx
      exact lay_S fun c hc => alpha_small W.outs c (((W.row r hr).2 w hw).2 c hc), dep_lst (n := 1) fun e he => by
    obtain ⟨r, hr, rfl⟩ := List.mem_map.mp he
    exact dep_lst (n := 0) fun e he => by
      obtain ⟨x, hx, rfl⟩ := List.mem_map.mp he
      exact Nat.le_of_eq (dep_S _)⟩
  have l1 : (triD m).canLay0 = true := lay_lst fun e he => by
    simp only [List.mem_cons, List.not_mem_nil, or_false] at he
    rcases he with rfl | rfl | rfl
    · exact (li _).1
    · exact (li _).1
    · exact ls.1
  refine ⟨l1, ?_⟩
  have h3 : (triD m).depth ≤ 3 := dep_lst (n := 2) fun e he => by
    simp only [List.mem_cons, List.not_mem_nil, or_false] at he
    rcases he with rfl | rfl | rfl
    · exact (li _).2
    · exact (li _).2
    · exact ls.2
  unfold SeqAt.shaped
  rw [l1, decide_eq_true (show (triD m).depth ≤ 64 by omega)]
  rfl
end Fo
namespace Fo
open PySem PySem.Spec PyProof.Rows L2 TL
/-! ### an own error: def __init__(self, reason): super().__init__(reason); self.reason = reason -/
/-- what the written part says of such a class and its __init__ -/
structure SupC (P : Program) (K : PySem.W.Frag) (mg : Str → Option Value) (C f cc cda : Addr) (qual : Str) (scope : Scope) : Prop where
  oex : OexC K C
  cell : ∃ cl cld csl, K.lookup cc = some ⟨cl, cld, .cell (some (.ref C)), csl⟩
  code : ∃ ccl cdd vs ccs file tf, K.lookup cda = some ⟨ccl, cdd, .fields vs, ccs⟩ ∧ vs[2]? = some (.str file tf) ∧ ((P.main.file : Str) == file) = true
  cdi : PySem.W.codeIn K (.ref cda) qual = true
  cls : ∃ cdD, PySem.W.clsIn K C = some cdD
  sub : PySem.W.mroIn K C (.ref C) = some true
  top : (P.main.scope.names.lookup ("super" : Str)).isSome = false
  sup : mg "super" = none
  hm : PySem.W.ks_superIn K C C "__init__" = some (some (.builtin "ValueError.__init__"))
  hB : PySem.W.subIn K (.ref C) (.type "ValueError") = some true
  ho : PySem.W.nsIn K cStatics "thirdparty.any" = some none
  no : PySem.W.findIn K (.ref C) "reason" = some none
def supBody (p0 p1 p2 p3 p4 p5 q1 q2 q3 q4 : Pos) : List Stmt :=
  [.Expr (.Call (.Attribute (.Call (.Name "super" p0) [] [] p1) "__init__" p2) [.Name "reason" p3] [] p4) p5, .Assign [.Attribute (.Name "self" q1) "reason" q2] (.Name "reason" q3) q4]
/-- the promise -/
def sp_sup (C : Addr) : Sp := fun vs H Q _ => ∃ (a : Addr) (y : V), vs = [.ref a, y] ∧ H a = some (exo a C none) ∧ ∀ d, H d = none → d ≠ a → Q .non (upd (upd H d (exd d [("reason", y)])) a (exo a C (some d)))
section
variable {prog : Program} {w : World} {A : Around} {E : Value → Shared → Prop} {h : Heap} {g : Array GenState} {d : Drawn} {t : Nat} {os : OsState}
theorem call_mw {u e t0 C N : Addr} {nm q : Str} {bs bm : List Value} {hdct : Bool} {sn : List Str} {sub : List Value} {ab : Bool} {col : Option Bool} {dd : Option Addr} {k0 k1 k2 k3 k5 : Option Value} {rest : List Value} {Q : Value → Shared → Prop}
    (hC : h.get? C = some (excClassObj nm q C N bs bm hdct sn sub ab col dd k0 k1 k2 k3 k5 "ValueError.__new__")) (he : h.get? e = some ({ cls := .ref C, dict := none, data := .fields #[.ref t0, .none, .none, .none, .bool false, .none] } : Obj)) (hu : PySem.W.KxsAt "ValueError.__init__" u e h) (hz : rest.length ≤ sizeLine)
    (hq : ∀ h' t1, (∀ b o, b ≠ e → h.get? b = some o → h'.get? b = some o) → h'.get? e = some ({ cls := .ref C, dict := none, data := .fields #[.ref t1, .none, .none, .none, .bool false, .none] } : Obj) → Q .none ⟨h', g, d, t, os⟩) :
    wpAny (model prog w) A (call (.ref u) rest) Q E ⟨h, g, d, t, os⟩ := by
  have hu : h.get? u = some (PySem.W.kxs_mw "ValueError.__init__" e) := hu
  refine wpAny_call (codeAny_of_tree ?_)
  show wpAny _ A.in1 (callAny (.ref u) ⟨rest, []⟩) _ _ _
  simp only [callAny]
  refine wpAny_bind (wpAny_load hu ?_)
  simp only [PySem.W.kxs_mw, show (Value.type "method-wrapper" == Value.type "method" || Value.type "method-wrapper" == Value.type "builtin_function_or_method" || Value.type "method-wrapper" == Value.type "method-wrapper") = true by decide, if_true]
  refine PySem.W.KFB.if_so (by decide) ?_
  refine wpAny_bind (PySem.W.check_bound_init F.excBase_ValueError.toExcCallFacts hC he rfl ?_)
  refine wpAny_bind (wpAny_pure (wpAny_pure ?_))
  refine ⟨plainId_quiet F.excBase_ValueError.init.plain _, codeAny_builtin F.excBase_ValueError.initEntry ?_⟩
  exact PySem.W.exc_init_tree (cls := .ref C) (t0 := t0) (dv := none) (c2 := .none) (c3 := .none) (b4 := .bool false) he hz fun h' k e' _ => hq h' _ k e'
end
theorem ok_sup {P : Program} {w : World} {K : PySem.W.Frag} {mg : Str → Option Value} {base : Heap} {C f cc cda : Addr} {oc dV kV doc pm ct : Value} {od an : Option Addr} {osl : Array (Option Value)} {qual : Str} {params : Arguments} {body : List Stmt} {scope : Scope} {ar : Arg} {p0 p1 p2 p3 p4 p5 q1 q2 q3 q4 : Pos}
    (lk : K.lookup f = some ⟨oc, od, .func (PySem.W.ksFn "__init__" qual params body scope dV kV doc pm an (.ref cda) ct cc), osl⟩) (S : SupC P K mg C f cc cda qual scope) (hbd : body = supBody p0 p1 p2 p3 p4 p5 q1 q2 q3 q4)
    (hp : (params.posonlyargs ++ params.args).head? = some ar) (har : ar.arg = "self") (hk : scope.kind = .function) (hco : scope.isCoroutine = false) (hgen : scope.isGenerator = false) (hcell : ∀ x ∈ scope.names, x.2 ≠ .cell)
    (hks : scope.names.lookup ("super" : Str) = some .globalImplicit) (hkc : scope.names.lookup ("__class__" : Str) = some .free) (hself : scope.names.lookup ("self" : Str) = some .local) (hrea : scope.names.lookup ("reason" : Str) = some .local)
    {pl : Sem Bool} (hi : ∀ L, interactive (PySem.W.ksEnv qual scope L f (.ref cda) cc) = false)
    (hev : ∀ L, eval (.Call (.Attribute (.Call (.Name "super" p0) [] [] p1) "__init__" p2) [.Name "reason" p3] [] p4) (PySem.W.ksEnv qual scope L f (.ref cda) cc) = (do
      let ov ← attributeBase (.Call (.Name "super" p0) [] [] p1) "__init__" (PySem.W.ksEnv qual scope L f (.ref cda) cc) (eval (.Call (.Name "super" p0) [] [] p1) (PySem.W.ksEnv qual scope L f (.ref cda) cc))
      standAt p2.atName
      let (f1, first) ← holding [ov] (getMethod ov "__init__" pl)
      callWith p4 f1 first (backTo p4 (starEach [.Name "reason" p3] (PySem.W.ksEnv qual scope L f (.ref cda) cc))) []))
    (hsw : ∀ L, swapsWith (.Name "reason" q3) (some (.Attribute (.Name "self" q1) "reason" q2)) q4.line (PySem.W.ksEnv qual scope L f (.ref cda) cc) = pure false) :
    FnOk P w K mg base CX0 1 f (PySem.W.ksFn "__init__" qual params body scope dV kV doc pm an (.ref cda) ct cc) ["self", "reason"] (sp_sup C) := by
  subst hbd
  refine ⟨fun vs H Q E h => ?_, fun A outer s H args us vs Q E hr e0 hb r hsp => ?_⟩
  · obtain ⟨a, y, rfl, _⟩ := h
    rfl
  obtain ⟨a, y, rfl, ea, q⟩ := hsp
  obtain _ | ⟨ra, rr⟩ := r
  obtain _ | ⟨ry, rr⟩ := rr
  cases rr
  cases ra
  rename_i u
  have KX : K.In s.heap := e0.mod.kin.keeps fun b o e => (e0.bs b o e).1
  have lim : s.heap.NoLimit := e0.mod.nolimit.keeps fun b o e => (e0.bs b o e).1
  obtain ⟨t1, hoa⟩ := exo_at e0.hok ea
  obtain ⟨nm, qn, N, bs, bm, sn, sub, ab, col, dd, k0, k1, k2, k3, k5, hC, hbm⟩ := S.oex.cls
  have hcl : PySem.W.clsIn K C = some { name := nm, bases := bs, mro := .ref C :: bm, ns := N, qualname := qn, hasDict := true, slotNames := sn, subclasses := sub, abstract := ab, collection := col, hasDel := false } := by unfold PySem.W.clsIn; rw [hC] <;> rfl
  obtain ⟨cl, cld, csl, hcel⟩ := S.cell
  obtain ⟨ccl, cdd, vs, ccs, file, tf, hcode, hvs, hfile⟩ := S.code
  refine PySem.ks_codeAny_call_defAt hr.depth (KX _ _ lk) rfl lim (PySem.W.codeRec_of KX S.cdi) rfl hb hcell (fun x hx => ?_) (fun h₀ hns hk₁ => ?_) hco hgen hk
  · simp only [List.zip_cons_cons, List.zip_nil_right, List.mem_cons, List.not_mem_nil, or_false] at hx
    rcases hx with rfl | rfl
    · exact hself
    · exact hrea
  generalize hL : s.heap.objs.size = L at hns
  have hns : h₀.Ns L (fun x => [(("reason" : Str), u), ("self", Value.ref a)].lookup x) := hns
  show _root_.PySem.wpAt (model P w) (A.deeper (PySem.W.ksEnv qual scope L f (.ref cda) cc)) (.func (supBody p0 p1 p2 p3 p4 p5 q1 q2 q3 q4) (PySem.W.ksEnv qual scope L f (.ref cda) cc)) (execs (supBody p0 p1 p2 p3 p4 p5 q1 q2 q3 q4) (PySem.W.ksEnv qual scope L f (.ref cda) cc)) _ _ _
  have X0 : K.In h₀ := KX.keeps hk₁
  have hG := e0.mod.glob.keeps fun b o e => hk₁ b o (e0.bs b o e).1
  obtain ⟨mb, hB1, hB2⟩ := e0.mod.blt
  have hBl := hB1.keeps fun b o e => hk₁ b o (e0.bs b o e).1
  obtain ⟨cdD, hcD⟩ := S.cls
  obtain ⟨oD, hD1, hD2⟩ : ∃ oD, h₀.get? C = some oD ∧ oD.data = .cls cdD := by
    unfold PySem.W.clsIn at hcD
    split at hcD
    · rename_i c d cd' sl ho
      cases hcD
      exact ⟨_, X0 _ _ ho, rfl⟩
    · cases hcD
  have ha0 := hk₁ _ _ hoa
  obtain ⟨hp0, g, d, t, os⟩ := s
  refine PySem.ks_wpAt_execs_cons (PySem.ks_wpAt_Expr_any (PySem.ks_wpAt_MethodCall ?_ (hev L)) (hi L))
  refine PySem.ks_wpAt_super_base (env := PySem.W.ksEnv qual scope L f (.ref cda) cc) hks hkc (by decide) rfl (X0 _ _ lk) rfl hp rfl (X0 _ _ hcode) rfl hvs hfile S.top ?_
  refine PySem.W.ks_loadName_global hk hks (PySem.Calls.loadGlobal_builtin (env := PySem.W.ksEnv qual scope L f (.ref cda) cc) (mg := mg) hG S.sup hBl ((hB2 _ (by decide)).trans PyProof.Rows.Boot.super) ⟨rfl, ?_⟩)
  refine wpAny_loadName_free hk hkc rfl ⟨_, X0 _ _ hcel, rfl⟩ ?_
  rw [har]
  refine wpAny_loadName_local hk hself hns (by rfl) ?_
  refine PySem.ks_wpAny_isType_cls hD1 hD2 ⟨rfl, ?_⟩
  refine PySem.ks_wpAny_call_super hD1 hD2 ha0 rfl (fun c z => by cases z) (PySem.W.looks_mroIn X0 S.sub) (fun h2 e2 k2 => ?_)
  have k02 : ∀ b o, hp0.get? b = some o → h2.get? b = some o := fun b o z => k2 b o (hk₁ b o z)
  have X2 : K.In h2 := X0.keeps k2
  have ha2 := k2 _ _ ha0
  have hm := S.hm
  unfold PySem.W.ks_superIn at hm
  rw [hcl] at hm
  have hI : PySem.W.Looks (model P w) h2 (isInstance (.ref a) (.type "ValueError")) true := (PySem.W.InstAt.type (C := C) (od := none) ⟨ha2, rfl, rfl, trivial⟩).andThen (PySem.W.looks_subIn X2 S.hB)
  refine PySem.W.kxs_getMethod PySem.W.kxs_ValueError e2 (PySem.W.looks_opaque X2 S.ho) (l₀ := .ref C :: bm) (fun A Q E s k q => wpAny_bind ((PySem.W.looks_clsIn X2 hcl) A _ E s k (wpAny_pure q))) rfl X2 hm hI (PySem.W.ks_ne X2 (C := C) (odx := none) ⟨ha2, rfl, rfl, trivial⟩ hcl) (by decide) ?_
  dsimp only
  refine PySem.W.kxs_callWith (i := "ValueError.__init__") (x := a) (by rfl) (PySem.Calls.evalArgs_plain ?_)
  have z2 : h2.objs.size ≠ a := Nat.ne_of_gt (Heap.lt_size ha2)
  have e3 : (h2.push (PySem.W.kxs_mw "ValueError.__init__" a)).get? h2.objs.size = some (PySem.W.kxs_mw "ValueError.__init__" a) := Heap.get?_push_size _ rfl
  have k3 : ∀ b o, h2.get? b = some o → (h2.push (PySem.W.kxs_mw "ValueError.__init__" a)).get? b = some o := fun b o z => Heap.get?_push_of_some _ z
  generalize h2.push (PySem.W.kxs_mw "ValueError.__init__" a) = h3 at e3 k3
  have hns3 := (hns.keeps k2).keeps k3
  refine PySem.Calls.spliced_cons (PySem.ESX.ldL hns3 (by rfl) (PySem.Calls.spliced_nil ⟨e3, ?_⟩) hk hrea)
  have X3 : K.In h3 := X2.keeps k3
  refine call_mw (X3 _ _ hC) (k3 _ _ ha2) e3 (by show 1 ≤ sizeLine; decide) fun h4 t4 k4 ha4 => ?_
  have hLa : L ≠ a := by
    rw [← hL]
    exact Nat.ne_of_gt (Heap.lt_size hoa)
  have hns4 : h4.Ns L (fun x => [(("reason" : Str), u), ("self", Value.ref a)].lookup x) := by
    obtain ⟨o, es, ep, z, rest⟩ := hns3
    exact ⟨o, es, ep, k4 L o hLa z, rest⟩
  have X4 : K.In h4 := fun b o z => by
    refine k4 b o (fun e => ?_) (X3 b o z)
    have := (e0.bs b o (e0.mod.kin b o z)).2
    rw [e, ea] at this
    cases this
  refine PySem.ks_wpAt_execs_cons (PySem.ks_wpAt_Assign_Attr (wpAt_of_wpAny (PySem.ESX.ldL hns4 (by rfl) ?_ hk hrea)) (hsw L))
  refine PySem.ESX.ldL hns4 (by rfl) ?_ hk hself
  refine PySem.W.set_plain X4 (ox := { cls := .ref C, dict := none, data := .fields #[.ref t4, .none, .none, .none, .bool false, .none] }) (od := none) ⟨ha4, rfl, rfl, trivial⟩ S.oex.sa ?_
  refine PySem.HandSPX.exc_osa X4 ha4 hcl (show PySem.HandSPX.refsVE (.ref C :: bm) = true from hbm) rfl S.no (fun h5 tk5 dx k5 dn dne hx5 hn5 => ?_)
  have k04 : ∀ b o, b ≠ a → hp0.get? b = some o → h4.get? b = some o := fun b o hb z => k4 b o hb (k3 b o (k02 b o z))
  have k05 : ∀ b o, b ≠ a → hp0.get? b = some o → h5.get? b = some o := fun b o hb z => k5 b o hb (k04 b o hb z)
  have dn0 : hp0.objs.size ≤ dx := by
    have h1 : L < h4.objs.size := let ⟨_, _, _, z, _⟩ := hns4; Heap.lt_size z
    rw [hL]
    exact Nat.le_of_lt (Nat.lt_of_lt_of_le h1 dn)
  have hnd : H dx = none := e0.hok.fresh dn0
  have na : ∀ {b : Addr}, H b = none → b ≠ a := fun {b} n z => by rw [z, ea] at n; cases n
  have nd : ∀ {b : Addr} {o : Obj}, hp0.get? b = some o → b ≠ dx := fun {b o} z => Nat.ne_of_lt (Nat.lt_of_lt_of_le (Heap.lt_size z) dn0)
  refine wpAt_of_wpAny (wpAny_pure ?_)
  refine ⟨.non, upd (upd H dx (exd dx [("reason", y)])) a (exo a C (some dx)), rfl, e0.bare, ⟨?_, ?_, ?_, ?_, ?_, ?_, ?_⟩, fun b o z => ?_, rfl, q dx hnd dne⟩
  · exact fun b o z n _ _ => k05 b o (na n) z
  · exact fun b o z n _ _ => ⟨o.slots, k05 b o (na n) z⟩
  · exact fun b o z n _ => by rw [upd_ne (na n), upd_ne (nd z)]; exact n
  · intro b o z _
    by_cases hb : b = a
    · exact ⟨_, by rw [hb]; exact hx5⟩
    · exact ⟨o, k05 b o hb z⟩
  · exact fun b xs z => by rw [upd_ne (at_ne ea z exo_tup), upd_ne (ne_of_none z hnd)]; exact z
  · exact fun b o v z => by rw [upd_ne (at_ne ea z exo_frz), upd_ne (ne_of_none z hnd)]; exact z
  · exact fun b ps z => ⟨#[], by rw [upd_ne (at_ne ea z exo_tbl), upd_ne (ne_of_none z hnd), z]; simp⟩
  · by_cases hba : b = a
    · subst hba
      rw [upd_same] at z
      cases z
      exact exo_ok hx5
    · rw [upd_ne hba] at z
      by_cases hbd : b = dx
      · subst hbd
        rw [upd_same] at z
        cases z
        exact exd_ok hn5 (relO_put (fs := []) ry fun g => True.intro)
      · rw [upd_ne hbd] at z
        exact (e0.hok b o z).stay (fun c v hc z' => k05 c v (by
            rcases hc with hc | hc
            · rw [hc]; exact hba
            · exact at_ne ea hc exo_own) z')
          (fun c hc => by rw [upd_ne (at_ne ea hc exo_own), upd_ne (ne_of_none hc hnd)]; exact hc) (fun c xs hc => by rw [upd_ne (at_ne ea hc exo_tup), upd_ne (ne_of_none hc hnd)]; exact hc)
end Fo
namespace Fo
open PySem PySem.Spec PyProof.Rows L2 TL
/-! ### raise C(e), C an own error as in A8 -/
theorem err_mkO {C : Addr} {v : V} {H1 : Hp} {Q : XK} (h : ∀ d, H1 d = none → Q (.ref C) (some d) (upd H1 d (.xd [(("reason" : Str), v)]))) :
    ([v] : List V).length ≤ 1000 ∧ ∀ a, H1 a = none → sp_sup C (.ref a :: ([v] ++ [])) (upd H1 a (exo a C none))
      (fun u H2 => u = .non ∧ ∃ (d : Addr) (fs : List (Str × V)), H2 a = some (exo a C (some d)) ∧ H2 d = some (exd d fs) ∧ H1 d = none ∧ Q (.ref C) (some d) (upd (L2.del H2 a) d (.xd fs))) (fun _ _ _ => False) := by
  refine ⟨by show 1 ≤ 1000; decide, fun a ha => ⟨a, v, rfl, upd_same, fun d hd hda => ⟨rfl, d, _, upd_same, by rw [upd_ne hda, upd_same], ?_, ?_⟩⟩⟩
  · rw [upd_ne hda] at hd
    exact hd
  · rw [upd_ne hda] at hd
    have e : upd (L2.del (upd (upd (upd H1 a (exo a C none)) d (exd d [(("reason" : Str), v)])) a (exo a C (some d))) a) d (.xd [(("reason" : Str), v)]) = upd H1 d (.xd [(("reason" : Str), v)]) := by
      funext b
      by_cases hb : b = d
      · rw [hb, upd_same, upd_same]
      · rw [upd_ne hb, upd_ne hb]
        by_cases hba : b = a
        · rw [hba, del_same, ha]
        · rw [del_ne hba, upd_ne hba, upd_ne hb, upd_ne hba]
    rw [e]
    exact h d hd
/-! ### C(..) in a try's body -/
def tMakeS (C : Addr) (sp : Sp) (E : L2.St → XK) (t : TA) : TE := fun σ H Q => t σ H fun vs H1 => ∀ x dx, H1 x = none → H1 dx = none → dx ≠ x →
  sp (.ref x :: vs) (upd (upd H1 dx (.own x)) x (.ins C dx [])) (fun v H2 => v = .non ∧ Q (.ref x) H2) (E σ)
section
variable {X : Cx} {CX : CXT} {k : Nat} {f C : Addr} {fd : FuncData} {ps : List Str} {sp : Sp} {E : L2.St → XK} {x : Str} {p pos : Pos} {e : Expr} {es : List Expr} {t : TA}
theorem pe_makeS (M : Mk X.K C f) (F : FnOk X.prog X.w X.K X.mg X.base CX k f fd ps sp) (hr : Room (k + 1) X.A) (hg : Gl X x) (hm : X.mg x = some (.ref C)) (hb : Binds X.K fd ps []) (hx : ∀ σ, PassesAt CX X σ (E σ))
    (ha : PA X (e :: es) t) (hdb : (x == ("__debug__" : Str)) = false := by decide) (he : starEach (e :: es) X.env = (false, eval e X.env) :: starEach es X.env := by rfl) (hpl : (backTo pos (starEach es X.env)).any (·.1) = false := by rfl) :
    PE X (.Call (.Name x p) (e :: es) [] pos) (tMakeS C sp E t) := by
  refine ⟨fun pins s σ H Q I h => ?_⟩
  refine wpAny_Call_Name_kw (ld_glob I hg hm ?_ hdb)
  refine PySem.W.callWith_K (h₀ := X.base) I.ok.mod.kin M.kp (thn (ha.run pos pins s σ H _ I h) fun us s1 ⟨vs, H1, I1, r, q⟩ => ⟨I1.kIn, ?_⟩) he hpl
  have hq := q (s1.heap.objs.size + 1) s1.heap.objs.size (I1.hok.fresh (Nat.le_succ _)) (I1.hok.fresh (Nat.le_refl _)) (Nat.ne_of_lt (Nat.lt_succ_self _))
  have I2 := Inv.made (C := C) I1
  have r2 : Vals (V.ref (s1.heap.objs.size + 1) :: vs) (Value.ref (s1.heap.objs.size + 1) :: us) := .cons rfl r
  have hl : (Value.ref (s1.heap.objs.size + 1) :: us).length = ps.length := by
    have e := r2.length
    rw [F.len _ _ _ _ hq] at e
    exact e.symm
  have hbb := hb { s1 with heap := (s1.heap.push PySem.W.emptyDict).push (PySem.W.instObj C s1.heap.objs.size) } (Value.ref (s1.heap.objs.size + 1) :: us) I2.kIn (by rw [List.append_nil]; exact hl)
  rw [List.append_nil] at hbb
  refine wpAny_call (make_map (f := f) I1.kIn M.makes M.init (beq_iff_eq.mp M.fn) (codeAny_mono (F.run _ X.stack _ _ ⟨Value.ref (s1.heap.objs.size + 1) :: us, []⟩ (Value.ref (s1.heap.objs.size + 1) :: us) _ _ (E σ) (hr.make C us [])
    (I2.env0.make C us []) hbb r2 hq) fun r s' hq' => ?_))
  cases r with
  | error er => exact hx σ pins _ _ er s' I2 hq'
  | ok fl =>
    cases fl with
    | ret u =>
      obtain ⟨v, H', I3, rv, ev, q3⟩ := I2.after hq'
      subst ev
      exact ⟨rv, ⟨V.ref (s1.heap.objs.size + 1), H', I3, rfl, q3⟩⟩
    | next => exact False.elim hq'
    | brk => exact False.elim hq'
    | cont => exact False.elim hq'
end
/-! ### e.reason, e what the suite holds -/
structure ErrT (K : PySem.W.Frag) (C : Addr) : Prop where
  ga : PySem.W.findIn K (.ref C) "__getattribute__" = some (some (.builtin "BaseException.__getattribute__"))
  gg : PySem.W.findIn K (.ref C) "__getattr__" = some none
  no : PySem.W.findIn K (.ref C) "reason" = some none
  ex : PySem.W.subIn K (.ref C) (.type "BaseException") = some true
  hd : PySem.W.hasDictIn K C = true
  te : PySem.W.exmOne K (.ref C) (.ref C) = some true
def tReason (C : Addr) (a : Addr) (cls : Value) (d : Option Addr) (te : TE) : TE := fun σ H Q => te σ H fun x H1 => x = .ref a ∧ cls = .ref C ∧ ∃ (dd : Addr) (v : V), d = some dd ∧ H1 dd = some (.xd [(("reason" : Str), v)]) ∧ Q v H1
theorem pe_reason {X : Cx} {C a : Addr} {oe : Obj} {cls : Value} {d : Option Addr} {pn : List (Addr × Obj)} {e : Expr} {te : TE} {pos : Pos} (T : ErrT X.K C) (hz : Zc cls d oe) (hf : ∃ vs, oe.data = .fields vs) (he : PE (X.suite a ((a, oe) :: pn)) e te)
    (hb : attributeBase e "reason" X.env (eval e X.env) = eval e X.env := by rfl) : PE (X.suite a ((a, oe) :: pn)) (.Attribute e "reason" pos) (tReason C a cls d te) := by
  constructor
  intro pins s σ H Q I h
  refine attr_of hb (thn (he.run pins s σ H _ I h) ?_)
  rintro u s1 ⟨x, H1, I1, rx, ex, ec, dd, v, ed, ea, q⟩
  subst ex ec ed
  cases rx
  obtain ⟨vs, hd⟩ := hf
  have ha := (I1.pin (a, oe) (List.mem_append_left _ List.mem_cons_self)).1
  obtain ⟨mA, hns, hr⟩ := (show ObjOk X.prog X.w H1 s1.heap dd (.xd [(("reason" : Str), v)]) from I1.hok dd _ ea)
  obtain ⟨od, ho, hl⟩ := lookIn_ns hns
  have l : List.lookup ("reason" : Str) [(("reason" : Str), v)] = some v := by simp [List.lookup]
  obtain ⟨u, hu, ru⟩ := RelO.some_of (v := v) (o := mA "reason") (by rw [← l]; exact hr "reason")
  have J : PySem.W.InstAt s1.heap a oe C (some od) := ⟨ha, hz.1, by unfold PySem.W.notCls; rw [hd] <;> rfl, by rw [hz.2]; exact ho⟩
  exact HandSPX.exc_get I1.kIn J T.ga T.gg T.ex (PySem.W.findObj_own T.hd T.no rfl (by rw [hl, hu])) (handed_of ru) ⟨v, H1, I1.tok _, ru, q⟩
/-! ### isinstance(x, C) of an instance of C itself -/
structure IsiC (K : PySem.W.Frag) (C : Addr) : Prop where
  ha : PySem.W.findIn K (.ref C) "__class__" = some (some (.builtin "object.__class__"))
  hn : PySem.W.specialIn K (.builtin "object.__class__") "__get__" = some (some (.builtin "getset_descriptor.__get__"))
  htk : PySem.W.takesIn K (.builtin "object.__class__") = some true
  hm : PySem.W.mroIn K C (.type "object") = some true
  kit : PySem.W.kitOne K (.ref C) (.ref C) = some true
theorem isi_own {K : PySem.W.Frag} {H : Hp} {x C dx : Addr} {fs : List (Str × V)} {Q : VK} (T : IsiC K C) (c : Cls K C) (e : H x = some (.ins C dx fs)) (q : Q (.bl true) H) : rIsi K [.ref x, .ref C] H Q :=
  ⟨.ref x, .ref C, .ref C, .ref C, true, rfl, .own C, .base (.ins e c T.ha T.hn T.htk T.hm), T.kit, q⟩
end Fo
namespace Fo
open PySem PySem.Spec PyProof.Rows L2 TL
/-! ### what the top leaves of an own error, gathered -/
theorem te_of {K : PySem.W.Frag} {S : Addr} (h1 : PySem.W.subIn K (.ref S) (.type "BaseException") = some true) (h2 : PySem.W.isClsIn K S = true) (h3 : PySem.W.typeIn K (.ref S) = some (.type "type")) (h4 : PySem.W.subIn K (.ref S) (.ref S) = some true) : PySem.W.exmOne K (.ref S) (.ref S) = some true := by
  have a : (PySem.W.subIn K (.ref S) (.type "BaseException") == some true) = true := by rw [h1]; decide +kernel
  have b : (PySem.W.typeIn K (.ref S) == some (.type "type")) = true := by rw [h3]; decide +kernel
  unfold PySem.W.isClsIn at h2
  unfold PySem.W.exmOne
  rw [if_pos a]
  unfold PySem.W.kitCls
  simp only [b, h2, h4, Bool.and_true, if_true, Bool.true_and]
theorem kit_self {K : PySem.W.Frag} {C : Addr} : PySem.W.kitOne K (.ref C) (.ref C) = some true := by
  unfold PySem.W.kitOne
  rw [if_pos (by simp)]
theorem sup_of {P : Program} {K : PySem.W.Frag} {mg : Str → Option Value} {C f cc cda : Addr} {qual : Str} {scope : Scope} {nm q : Str} {N : Addr} {bs bm : List Value} {sn : List Str} {sub : List Value} {ab : Bool} {col : Option Bool} {dd : Option Addr} {k0 k1 k2 k3 k5 : Option Value}
    (xL : K.lookup C = some (excClassObj nm q C N bs bm true sn sub ab col dd k0 k1 k2 k3 k5 "ValueError.__new__")) (oex : OexC K C) {cl ccl : Value} {cld cdd : Option Addr} {csl ccs : Array (Option Value)} {vs : Array Value} {file : Str} {tf : Tok}
    (ce : K.lookup cc = some ⟨cl, cld, .cell (some (.ref C)), csl⟩) (co : K.lookup cda = some ⟨ccl, cdd, .fields vs, ccs⟩) (hv : vs[2]? = some (.str file tf)) (hf : ((P.main.file : Str) == file) = true) (cdi : PySem.W.codeIn K (.ref cda) qual = true) (mr : PySem.W.mroIn K C (.ref C) = some true)
    (tp : (P.main.scope.names.lookup ("super" : Str)).isSome = false) (su : mg "super" = none) (hm : PySem.W.ks_superIn K C C "__init__" = some (some (.builtin "ValueError.__init__"))) (hB : PySem.W.subIn K (.ref C) (.type "ValueError") = some true)
    (ho : PySem.W.nsIn K cStatics "thirdparty.any" = some none) (no : PySem.W.findIn K (.ref C) "reason" = some none) : SupC P K mg C f cc cda qual scope :=
  ⟨oex, ⟨_, _, _, ce⟩, ⟨_, _, _, _, _, _, co, hv, hf⟩, cdi, ⟨_, by unfold PySem.W.clsIn; rw [xL] <;> rfl⟩, mr, tp, su, hm, hB, ho, no⟩
end Fo
namespace Fo
open PySem PySem.Spec PyProof.Rows L2 TL
/-! ### isinstance(e, c), e what the suite holds, an own error with fields -/
structure IsxC (K : PySem.W.Frag) (C : Addr) : Prop where
  cl : (PySem.W.clsIn K C).isSome = true
  ha : PySem.W.findIn K (.ref C) "__class__" = some (some (.builtin "object.__class__"))
  hn : PySem.W.specialIn K (.builtin "object.__class__") "__get__" = some (some (.builtin "getset_descriptor.__get__"))
  htk : PySem.W.takesIn K (.builtin "object.__class__") = some true
  hm : PySem.W.mroIn K C (.type "object") = some true
def rIsX (K : PySem.W.Frag) (C a : Addr) (cls : Value) (d : Option Addr) : List V → Hp → VK → Prop := fun xs H Q => ∃ (c : V) (cv : Value) (b : Bool) (dd : Addr) (fs : List (Str × V)), xs = [.ref a, c] ∧ cls = .ref C ∧ d = some dd ∧ H dd = some (.xd fs) ∧ (∀ u, RelV c u → u = cv) ∧ PySem.W.kitOne K (.ref C) cv = some b ∧ Q (.bl b) H
theorem call_isX {X : Cx} {C a : Addr} {oe : Obj} {cls : Value} {d : Option Addr} {pn : List (Addr × Obj)} (T : ErrT X.K C) (Y : IsxC X.K C) (hz : Zc cls d oe) (hf : ∃ vs, oe.data = .fields vs) : CallR (X.suite a ((a, oe) :: pn)) (.builtin "isinstance") (rIsX X.K C a cls d) := by
  intro pins s σ H xs us Q I r h
  obtain ⟨c, cv, b, dd, fs, rfl, rfl, rfl, ea, hcv, e, q⟩ := h
  cases r with
  | cons rx rr =>
    cases rr with
    | cons rt rr =>
      cases rr
      cases rx
      have ec := hcv _ rt
      subst ec
      obtain ⟨vs, hd⟩ := hf
      have ha := (I.pin (a, oe) (List.mem_append_left _ List.mem_cons_self)).1
      obtain ⟨mA, hns, hr⟩ := (show ObjOk X.prog X.w H s.heap dd (.xd fs) from I.hok dd _ ea)
      obtain ⟨od, ho, hl⟩ := lookIn_ns hns
      have J : PySem.W.InstAt s.heap a oe C (some od) := ⟨ha, hz.1, by unfold PySem.W.notCls; rw [hd] <;> rfl, by rw [hz.2]; exact ho⟩
      exact PySem.W.kia_one (PySem.W.kitx_exc Y.cl T.ga T.gg T.ex Y.ha Y.hn Y.htk Y.hm) I.kIn J e (fun z => nomatch z) fun tk => ⟨.bl b, H, I.kept (t' := tk) fun _ _ z => z, rfl, q⟩
theorem kit_ref {K : PySem.W.Frag} {t : Value} {C : Addr} {b : Bool} (h1 : PySem.W.isClsIn K C = true) (h2 : PySem.W.typeIn K (.ref C) = some (.type "type")) (h3 : PySem.W.subIn K t (.ref C) = some b) (h4 : (t == Value.ref C) = false) : PySem.W.kitOne K t (.ref C) = some b := by
  have e : (PySem.W.typeIn K (.ref C) == some (.type "type")) = true := by rw [h2]; decide +kernel
  unfold PySem.W.isClsIn at h1
  unfold PySem.W.kitOne
  rw [if_neg (by rw [h4]; exact Bool.false_ne_true)]
  unfold PySem.W.kitCls
  simp only [h1, e, h3, Bool.and_true, if_true, Bool.true_and]
theorem kit_vty {K : PySem.W.Frag} {C : Addr} {b : Bool} (h3 : PySem.W.subIn K (.ref C) (.type "ValueError") = some b) : PySem.W.kitOne K (.ref C) (.type "ValueError") = some b := by
  unfold PySem.W.kitOne
  rw [if_neg (by simp)]
  have e : PySem.W.kitMeta "ValueError" = true := by decide +kernel
  unfold PySem.W.kitCls
  show (if PySem.W.kitMeta "ValueError" = true then PySem.W.subIn K (.ref C) (.type "ValueError") else none) = some b
  rw [if_pos e]
  exact h3
end Fo
namespace Fo
open PySem PySem.Spec PyProof.Rows L2 TL
def topS (i : Nat) : Stmt := PySem.Challenge.pw_foreaft_k02_machines_are_checked.main.body.getD i (.Pass ⟨0, 0, 0, 0⟩)
abbrev s_law_cell : Stmt := topS 18
abbrev s_law_row : Stmt := topS 19
abbrev s_law_draw : Stmt := topS 20
abbrev s_law_alphabet : Stmt := topS 24
abbrev s_law_states : Stmt := topS 22
abbrev s_law_machine : Stmt := topS 23
abbrev s_is_alphabet : Stmt := topS 7
abbrev s_is_state_row : Stmt := topS 14
abbrev s_are_transitions : Stmt := topS 13
abbrev s_is_word : Stmt := topS 8
abbrev s_is_table_row : Stmt := topS 15
abbrev s_is_machine : Stmt := topS 12
abbrev s_Machine_init : Stmt := inClass (topS 11) 0
abbrev s_form : Stmt := topS 16
abbrev s_law_form : Stmt := topS 26
abbrev s_law_spoiled : Stmt := topS 27
abbrev s_law_told : Stmt := topS 28
abbrev s_law : Stmt := topS 29
abbrev si_MachineError : Stmt := inClass (topS 2) 0
theorem sc_law_cell : FnScope ["script", "k"] ["script", "k"] (defScope s_law_cell) := ⟨rfl, rfl, rfl, by decide +kernel, rfl, by decide +kernel, by decide +kernel⟩
theorem sc_law_row : FnScope ["script", "first", "last", "row", "k", "cell", "turn"] ["script", "first", "last"] (defScope s_law_row) := ⟨rfl, rfl, rfl, by decide +kernel, rfl, by decide +kernel, by decide +kernel⟩
theorem sc_law_draw : FnScope ["box", "many", "at"] ["box", "many"] (defScope s_law_draw) := ⟨rfl, rfl, rfl, by decide +kernel, rfl, by decide +kernel, by decide +kernel⟩
theorem sc_law_alphabet : FnScope ["box", "many", "letters", "at"] ["box", "many"] (defScope s_law_alphabet) := ⟨rfl, rfl, rfl, by decide +kernel, rfl, by decide +kernel, by decide +kernel⟩
theorem sc_law_states : FnScope ["box", "many", "letters", "i", "k"] ["box", "many", "letters"] (defScope s_law_states) := ⟨rfl, rfl, rfl, by decide +kernel, rfl, by decide +kernel, by decide +kernel⟩
theorem sc_law_machine : FnScope ["box", "ins", "outs", "most", "lefts", "rights", "left", "right", "bland", "table", "i", "line", "j", "text", "letter", "k"] ["box", "ins", "outs", "most"] (defScope s_law_machine) := ⟨rfl, rfl, rfl, by decide +kernel, rfl, by decide +kernel, by decide +kernel⟩
theorem sc_is_alphabet : FnScope ["thing", "place", "letter"] ["thing"] (defScope s_is_alphabet) := ⟨rfl, rfl, rfl, by decide +kernel, rfl, by decide +kernel, by decide +kernel⟩
theorem sc_is_state_row : FnScope ["row", "letters", "states", "state"] ["row", "letters", "states"] (defScope s_is_state_row) := ⟨rfl, rfl, rfl, by decide +kernel, rfl, by decide +kernel, by decide +kernel⟩
theorem sc_are_transitions : FnScope ["rows", "letters", "row"] ["rows", "letters"] (defScope s_are_transitions) := ⟨rfl, rfl, rfl, by decide +kernel, rfl, by decide +kernel, by decide +kernel⟩
theorem sc_is_word : FnScope ["alphabet", "thing", "letter"] ["alphabet", "thing"] (defScope s_is_word) := ⟨rfl, rfl, rfl, by decide +kernel, rfl, by decide +kernel, by decide +kernel⟩
theorem sc_is_table_row : FnScope ["row", "states", "letters", "writes", "written"] ["row", "states", "letters", "writes"] (defScope s_is_table_row) := ⟨rfl, rfl, rfl, by decide +kernel, rfl, by decide +kernel, by decide +kernel⟩
theorem sc_is_machine : FnScope ["reads", "writes", "left", "right", "table", "row"] ["reads", "writes", "left", "right", "table"] (defScope s_is_machine) := ⟨rfl, rfl, rfl, by decide +kernel, rfl, by decide +kernel, by decide +kernel⟩
theorem sc_Machine_init : FnScope ["self", "reads", "writes", "left", "right", "table", "row"] ["self", "reads", "writes", "left", "right", "table"] (defScope s_Machine_init) := ⟨rfl, rfl, rfl, by decide +kernel, rfl, by decide +kernel, by decide +kernel⟩
theorem sc_form : FnScope ["machine", "left", "right", "table", "row"] ["machine"] (defScope s_form) := ⟨rfl, rfl, rfl, by decide +kernel, rfl, by decide +kernel, by decide +kernel⟩
theorem sc_law_form : FnScope ["m", "left", "right", "row"] ["m"] (defScope s_law_form) := ⟨rfl, rfl, rfl, by decide +kernel, rfl, by decide +kernel, by decide +kernel⟩
theorem sc_law_spoiled : FnScope ["box", "m", "parts", "kind", "side", "at", "row", "letter"] ["box", "m"] (defScope s_law_spoiled) := ⟨rfl, rfl, rfl, by decide +kernel, rfl, by decide +kernel, by decide +kernel⟩
theorem sc_law_told : FnScope ["parts", "e"] ["parts"] (defScope s_law_told) := ⟨rfl, rfl, rfl, by decide +kernel, rfl, by decide +kernel, by decide +kernel⟩
theorem sc_law : FnScope ["script", "box", "turn", "m", "handed", "made", "row"] ["script"] (defScope s_law) := ⟨rfl, rfl, rfl, by decide +kernel, rfl, by decide +kernel, by decide +kernel⟩
abbrev v_LETTERS : V := .str "abcdefghijklmnopqrstuvwxyz"
abbrev v_MOST_LETTERS : V := .int 5
abbrev v_MOST_STATES : V := .int 40
structure Df (K : PySem.W.Frag) (mg : Str → Option Value) (x : Str) (st : Stmt) (ps : List Str) (f : Addr) (fd : FuncData) : Prop where
  F : Fun K x x st f fd
  g : mg x = some (.ref f)
  b : Binds K fd ps []
/-- what the top has written -/
structure Tx (P : Program) (K : PySem.W.Frag) (mg : Str → Option Value) where
  a_law_cell : Addr
  e_law_cell : FuncData
  d_law_cell : Df K mg "_law_cell" s_law_cell ["script", "k"] a_law_cell e_law_cell
  a_law_row : Addr
  e_law_row : FuncData
  d_law_row : Df K mg "_law_row" s_law_row ["script", "first", "last"] a_law_row e_law_row
  a_law_draw : Addr
  e_law_draw : FuncData
  d_law_draw : Df K mg "_law_draw" s_law_draw ["box", "many"] a_law_draw e_law_draw
  a_law_alphabet : Addr
  e_law_alphabet : FuncData
  d_law_alphabet : Df K mg "_law_alphabet" s_law_alphabet ["box", "many"] a_law_alphabet e_law_alphabet
  a_law_states : Addr
  e_law_states : FuncData
  d_law_states : Df K mg "_law_states" s_law_states ["box", "many", "letters"] a_law_states e_law_states
  a_law_machine : Addr
  e_law_machine : FuncData
  d_law_machine : Df K mg "_law_machine" s_law_machine ["box", "ins", "outs", "most"] a_law_machine e_law_machine
  a_is_alphabet : Addr
  e_is_alphabet : FuncData
  d_is_alphabet : Df K mg "is_alphabet" s_is_alphabet ["thing"] a_is_alphabet e_is_alphabet
  a_is_state_row : Addr
  e_is_state_row : FuncData
  d_is_state_row : Df K mg "_is_state_row" s_is_state_row ["row", "letters", "states"] a_is_state_row e_is_state_row
  a_are_transitions : Addr
  e_are_transitions : FuncData
  d_are_transitions : Df K mg "_are_transitions" s_are_transitions ["rows", "letters"] a_are_transitions e_are_transitions
  a_is_word : Addr
  e_is_word : FuncData
  d_is_word : Df K mg "is_word" s_is_word ["alphabet", "thing"] a_is_word e_is_word
  a_is_table_row : Addr
  e_is_table_row : FuncData
  d_is_table_row : Df K mg "_is_table_row" s_is_table_row ["row", "states", "letters", "writes"] a_is_table_row e_is_table_row
  a_is_machine : Addr
  e_is_machine : FuncData
  d_is_machine : Df K mg "_is_machine" s_is_machine ["reads", "writes", "left", "right", "table"] a_is_machine e_is_machine
  a_form : Addr
  e_form : FuncData
  d_form : Df K mg "form" s_form ["machine"] a_form e_form
  a_law_form : Addr
  e_law_form : FuncData
  d_law_form : Df K mg "_law_form" s_law_form ["m"] a_law_form e_law_form
  a_law_spoiled : Addr
  e_law_spoiled : FuncData
  d_law_spoiled : Df K mg "_law_spoiled" s_law_spoiled ["box", "m"] a_law_spoiled e_law_spoiled
  a_law_told : Addr
  e_law_told : FuncData
  d_law_told : Df K mg "_law_told" s_law_told ["parts"] a_law_told e_law_told
  a_law : Addr
  e_law : FuncData
  d_law : Df K mg "law" s_law ["script"] a_law e_law
  C_Machine : Addr
  g_Machine : mg "Machine" = some (.ref C_Machine)
  cl_Machine : Cls K C_Machine
  na_Machine_reads : NoAttr K C_Machine "reads"
  na_Machine_writes : NoAttr K C_Machine "writes"
  na_Machine_left : NoAttr K C_Machine "left"
  na_Machine_right : NoAttr K C_Machine "right"
  na_Machine_table : NoAttr K C_Machine "table"
  isi_Machine : IsiC K C_Machine
  a_Machine_init : Addr
  e_Machine_init : FuncData
  m_Machine : Mk K C_Machine a_Machine_init
  F_Machine_init : Fun K "__init__" "Machine.__init__" s_Machine_init a_Machine_init e_Machine_init
  b_Machine_init : Binds K e_Machine_init ["self", "reads", "writes", "left", "right", "table"] []
  C_MachineError : Addr
  g_MachineError : mg "MachineError" = some (.ref C_MachineError)
  oex_MachineError : OexC K C_MachineError
  a_MachineError_init : Addr
  e_MachineError_init : FuncData
  iC_MachineError : PySem.W.findIn K (.ref C_MachineError) "__init__" = some (some (.ref a_MachineError_init))
  tI_MachineError : PySem.W.typeIn K (.ref a_MachineError_init) = some (.type "function")
  b_MachineError_init : Binds K e_MachineError_init ["self", "reason"] []
  err_MachineError : ErrT K C_MachineError
  ok_MachineError : ∀ (w : World) (base : Heap), FnOk P w K mg base CX0 1 a_MachineError_init e_MachineError_init ["self", "reason"] (sp_sup C_MachineError)
  isx_MachineError : IsxC K C_MachineError
  C_ForeaftError : Addr
  g_ForeaftError : mg "ForeaftError" = some (.ref C_ForeaftError)
  C_BookError : Addr
  g_BookError : mg "BookError" = some (.ref C_BookError)
  k_MachineError_ForeaftError : PySem.W.kitOne K (.ref C_MachineError) (.ref C_ForeaftError) = some true
  k_MachineError_ValueError : PySem.W.kitOne K (.ref C_MachineError) (.type "ValueError") = some true
  k_MachineError_BookError : PySem.W.kitOne K (.ref C_MachineError) (.ref C_BookError) = some false
  n_ValueError : mg "ValueError" = none
  n_abs : mg "abs" = none
  n_all : mg "all" = none
  n_enumerate : mg "enumerate" = none
  n_int : mg "int" = none
  n_isinstance : mg "isinstance" = none
  n_len : mg "len" = none
  n_list : mg "list" = none
  n_range : mg "range" = none
  n_str : mg "str" = none
  n_tuple : mg "tuple" = none
  n_type : mg "type" = none
  t_LETTERS : Tok
  c_LETTERS : mg "LETTERS" = some (Value.str "abcdefghijklmnopqrstuvwxyz" t_LETTERS)
  t_MOST_LETTERS : Tok
  c_MOST_LETTERS : mg "MOST_LETTERS" = some (Value.int 5 t_MOST_LETTERS)
  t_MOST_STATES : Tok
  c_MOST_STATES : mg "MOST_STATES" = some (Value.int 40 t_MOST_STATES)
end Fo
namespace Fo
open PySem PySem.Spec PyProof.Rows L2 TL
section
variable {P : Program} {w : World} {K : PySem.W.Frag} {mg : Str → Option Value} {base : Heap}
def sp_law_cell (K : PySem.W.Frag) : Sp := fun vs H Q _ => ∃ (a : Addr) (ns : List Int) (k : Int), vs = [.ref a, .int k] ∧ SqL K H a (ns.map V.int) ∧ 0 ≤ k ∧ ∀ z : Int, Q (.int z) H
theorem ok_law_cell (T : Tx P K mg) : FnOk P w K mg base CX0 1 T.a_law_cell T.e_law_cell ["script", "k"] (sp_law_cell K) := by
  refine T.d_law_cell.F.ok sc_law_cell (fun vs H Q E h => ?_) (fun cdv A outer s H vs Q E hr h => ?_)
  · obtain ⟨a, ns, k, rfl, _⟩ := h
    rfl
  · obtain ⟨a, ns, k, rfl, hS, h0, q⟩ := h
    refine ⟨_, (pss_cons (ps_if (pt_cmpR op_lt (pv 1) (pe_callB (kLen (K := K) rfl) (by rfl) T.n_len PySem.boot_len (pa_cons (pv 0) pa_nil)) (nomark _))
  (pss_one (ps_ret (pe_ix (kIxL (K := K) rfl) (pv 0) (pv 1) (fun _ _ => rfl))))
  pss_nil)
  (pss_one (ps_ret pe_int))), ?_⟩
    refine ⟨_, rfl, .ref a, rfl, a, _, rfl, .inl hS, _, _, rfl, rfl, _, rfl, ite2 (fun h => ?_) (fun _ => q 0)⟩
    have hk := of_decide_eq_true h
    rw [List.length_map] at hk
    have hn : k.toNat < ns.length := by omega
    refine ⟨.ref a, rfl, .int k, rfl, a, _, k, .int ns[k.toNat], rfl, rfl, hS, ?_, q _⟩
    exact at_int h0 (map_at hn)
def sp_law_row (K : PySem.W.Frag) : Sp := fun vs H Q _ => ∃ (a : Addr) (ns : List Int) (f l : Int), vs = [.ref a, .int f, .int l] ∧ SqL K H a (ns.map V.int) ∧ 0 ≤ f ∧ f ≤ l ∧ l ≤ 100 ∧
  ∀ (r : Addr) (zs : List Int) (H' : Hp), Same H H' → H r = none → H' r = some (.lst (zs.map V.int)) → zs.length ≤ 6000 → Q (.ref r) H'
theorem ok_law_row (T : Tx P K mg) : FnOk P w K mg base CX0 2 T.a_law_row T.e_law_row ["script", "first", "last"] (sp_law_row K) := by
  refine T.d_law_row.F.ok sc_law_row (fun vs H Q E h => ?_) (fun cdv A outer s H vs Q E hr h => ?_)
  · obtain ⟨a, ns, f, l, rfl, _⟩ := h
    rfl
  · obtain ⟨a, ns, f, l, rfl, hS, h0, hfl, hl, q⟩ := h
    refine ⟨_, (pss_cons (ps_set (i := 3) sc_law_row.nd rfl (.inl rfl) (pe_lst pa_nil))
  (pss_cons (ps_for PassesOwn.never rfl (pi_range2 (by rfl) T.n_range (pa_cons (pv 1) (pa_cons (pv 2) pa_nil))) (pg_name (i := 4) sc_law_row.nd rfl (.inl rfl))
  (pss_cons (ps_set (i := 5) sc_law_row.nd rfl (.inl rfl) (pe_call (ok_law_cell T) (hr.mono (by decide)) (by rfl) T.d_law_cell.g T.d_law_cell.F.kp T.d_law_cell.b .nil pass0 (pa_cons (pv 0) (pa_cons (pv 4) pa_nil))))
  (pss_cons (ps_set (i := 5) sc_law_row.nd rfl (.inl rfl) (pe_op op_add (pe_callB call_abs (by rfl) T.n_abs (by decide +kernel) (pa_cons (pe_op op_mul pe_int (pv 5)) pa_nil)) (pe_callTy call_int1 (by rfl) T.n_int (by decide +kernel) (pa_cons (pe_cmpR op_lt (pv 5) pe_int (nomark _)) pa_nil))))
  (pss_one (ps_if (pt_cmpR op_gt (pv 5) (pe_op op_pow pe_int pe_int) (nomark _))
  (pss_one (ps_for PassesOwn.never rfl (pi_range1 (by rfl) T.n_range (pa_cons pe_int pa_nil)) (pg_name (i := 6) sc_law_row.nd rfl (.inl rfl))
  (pss_one (ps_if (pt_cmpR op_gt (pv 5) pe_int (nomark _))
  (pss_cons (ps_expr (kBM (K := K) rfl (pe_bm PySem.F.plainAttrs_list PySem.F.slot_list_append PySem.F.type_list_append mt_append (pv 3) (pa_cons (pe_op op_mod (pe_callTy call_int1 (by rfl) T.n_int (by decide +kernel) (pa_cons (pv 5) pa_nil)) pe_int) pa_nil))))
  (pss_one (ps_set (i := 5) sc_law_row.nd rfl (.inl rfl) (pe_op op_fdiv (pv 5) pe_int))))
  pss_nil))))
  (pss_one (ps_for PassesOwn.never rfl (pi_range1 (by rfl) T.n_range (pa_cons pe_int pa_nil)) (pg_name (i := 6) sc_law_row.nd rfl (.inl rfl))
  (pss_cons (ps_set (i := 5) sc_law_row.nd rfl (.inl rfl) (pe_op op_mod (pe_callTy call_int1 (by rfl) T.n_int (by decide +kernel) (pa_cons (pe_op op_add (pe_op op_add (pe_op op_mul (pv 5) pe_int) (pe_op op_mul pe_int (pe_op op_add (pv 4) (pv 6)))) pe_int) pa_nil)) pe_int))
  (pss_one (ps_expr (kBM (K := K) rfl (pe_bm PySem.F.plainAttrs_list PySem.F.slot_list_append PySem.F.type_list_append mt_append (pv 3) (pa_cons (pe_op op_mod (pe_callTy call_int1 (by rfl) T.n_int (by decide +kernel) (pa_cons (pe_op op_fdiv (pv 5) pe_int) pa_nil)) pe_int) pa_nil)))))))))))))
  (pss_one (ps_ret (pv 3))))), ?_⟩
    -- row = []
    refine ⟨Nat.zero_le _, fun r nr => ?_⟩
    -- for k in range(first, last)
    refine ⟨_, rfl, _, rfl, f, l, rfl, ⟨by omega, by omega, by omega, by omega⟩, for_range (lo := f) (n := (l - f).toNat) (fun i σ H2 => ∃ (zs : List Int) (y4 y5 y6 : Option V),
      σ = [some (.ref a), some (.int f), some (.int l), some (.ref r), y4, y5, y6] ∧ Same H H2 ∧ H2 r = some (.lst (zs.map V.int)) ∧ zs.length ≤ 60 * i) ⟨[], none, none, none, rfl, same_new nr, upd_same, Nat.zero_le _⟩ ?_ ?_⟩
    · rintro i σ H2 hi ⟨zs, y4, y5, y6, rfl, sm, hr2, hz⟩
      have hi100 : i < 100 := by omega
      -- cell = _law_cell(script, k)
      refine ⟨.ref a, rfl, _, rfl, a, ns, _, rfl, sm.seq hS, by omega, fun z => ?_⟩
      -- cell = abs(2 * cell) + int(cell < 0)
      refine ⟨_, rfl, 2, _, rfl, rfl, .inl ⟨by decide, by decide⟩, _, rfl, _, rfl, _, _, rfl, rfl, .inr ⟨_, rfl, _, _, rfl, rfl, ?_⟩⟩
      refine ⟨_, rfl, 10, 18, rfl, rfl, ⟨by decide, by decide, by decide⟩, _, _, rfl, rfl, _, rfl, ite2 (fun _ => ?_) (fun _ => ?_)⟩
      · refine ⟨60, rfl, by decide, by decide, for_range (lo := 0) (n := 60) (fun j σ H3 => ∃ (ws : List Int) (c' : Int) (y6 : Option V),
          σ = [some (.ref a), some (.int f), some (.int l), some (.ref r), some (.int (f + i)), some (.int c'), y6] ∧ Same H H3 ∧ H3 r = some (.lst (ws.map V.int)) ∧ ws.length ≤ 60 * i + j) ⟨zs, _, y6, rfl, sm, hr2, by omega⟩ ?_ ?_⟩
        · rintro j σ H3 hj ⟨ws, c', y6, rfl, sm3, hr3, hw⟩
          refine ⟨_, rfl, _, _, rfl, rfl, _, rfl, ite2 (fun _ => ?_) (fun _ => ?_)⟩
          · refine ⟨.ref r, rfl, .inl ⟨rfl, _, .inl (.inl hr3)⟩, _, rfl, .inl ⟨_, rfl, _, 840, rfl, rfl, (by show (0 : Int) < 840; decide), r, _, _, rfl, rfl, hr3, ?_, ?_⟩⟩
            · rw [List.length_map]
              exact lim6000 (by omega)
            refine ⟨_, rfl, _, _, rfl, rfl, ⟨by decide, by decide⟩, ws ++ [c' % 840], c' / 840, some (.int (0 + j)), rfl, ?_, ?_, ?_⟩
            · intro b o e
              rw [upd_ne (ne_of_none e nr)]
              exact sm3 b o e
            · rw [upd_same, List.map_append]
              rfl
            · rw [List.length_append]
              show ws.length + 1 ≤ _
              omega
          · exact ⟨ws, c', _, rfl, sm3, hr3, by omega⟩
        · rintro σ H3 ⟨ws, c', y6, rfl, sm3, hr3, hw⟩
          exact ⟨ws, _, _, _, rfl, sm3, hr3, by omega⟩
      · refine ⟨10, rfl, by decide, by decide, for_range (lo := 0) (n := 10) (fun j σ H3 => ∃ (ws : List Int) (c' : Int) (y6 : Option V),
          σ = [some (.ref a), some (.int f), some (.int l), some (.ref r), some (.int (f + i)), some (.int c'), y6] ∧ Same H H3 ∧ H3 r = some (.lst (ws.map V.int)) ∧ ws.length ≤ 60 * i + j) ⟨zs, _, y6, rfl, sm, hr2, by omega⟩ ?_ ?_⟩
        · rintro j σ H3 hj ⟨ws, c', y6, rfl, sm3, hr3, hw⟩
          refine ⟨_, rfl, _, 69069, rfl, rfl, .inr ⟨by decide, by decide⟩, _, rfl, _, rfl, _, _, rfl, rfl, 104729, _, rfl, rfl, .inl ⟨by decide, by decide⟩, _, _, rfl, rfl, _, 1, rfl, rfl, .inl ⟨_, rfl, _, 4294967291, rfl, rfl, (by show (0 : Int) < 4294967291; decide), ?_⟩⟩
          refine ⟨.ref r, rfl, .inl ⟨rfl, _, .inl (.inl hr3)⟩, _, rfl, _, 5003, rfl, rfl, ⟨by decide, by decide⟩, .inl ⟨_, rfl, _, 840, rfl, rfl, (by show (0 : Int) < 840; decide), r, _, _, rfl, rfl, hr3, ?_, ?_⟩⟩
          · rw [List.length_map]
            exact lim6000 (by omega)
          refine ⟨ws ++ [(c' * 69069 + 104729 * (f + i + (0 + j)) + 1) % 4294967291 / 5003 % 840], _, some (.int (0 + j)), rfl, ?_, ?_, ?_⟩
          · intro b o e
            rw [upd_ne (ne_of_none e nr)]
            exact sm3 b o e
          · rw [upd_same, List.map_append]
            rfl
          · rw [List.length_append]
            show ws.length + 1 ≤ _
            omega
        · rintro σ H3 ⟨ws, c', y6, rfl, sm3, hr3, hw⟩
          exact ⟨ws, _, _, _, rfl, sm3, hr3, by omega⟩
    · rintro σ H2 ⟨zs, y4, y5, y6, rfl, sm, hr2, hz⟩
      exact ⟨_, rfl, q r zs H2 sm nr hr2 (by omega)⟩
end
end Fo
namespace Fo
open PySem PySem.Spec PyProof.Rows L2 TL
section
variable {P : Program} {w : World} {K : PySem.W.Frag} {mg : Str → Option Value} {base : Heap}
def sp_law_draw (K : PySem.W.Frag) : Sp := fun vs H Q _ => ∃ (b : Addr) (F : Hp) (m : Int), vs = [.ref b, .int m] ∧ Bx K b F H ∧ 0 < m ∧
  ∀ (z : Int) (H' : Hp), 0 ≤ z → z < m → Bx K b F H' → Keep b H H' → Q (.int z) H'
theorem ok_law_draw (T : Tx P K mg) : FnOk P w K mg base CX0 1 T.a_law_draw T.e_law_draw ["box", "many"] (sp_law_draw K) := by
  refine T.d_law_draw.F.ok sc_law_draw (fun vs H Q E h => ?_) (fun cdv A outer s H vs Q E hr h => ?_)
  · obtain ⟨b, F, m, rfl, _⟩ := h
    rfl
  · obtain ⟨b, F, m, rfl, B, hm, q⟩ := h
    obtain ⟨r, ns, n, hb, hr', hn⟩ := B.at'
    refine ⟨_, (pss_cons (ps_set (i := 2) sc_law_draw.nd rfl (.inl rfl) (pe_ix (kIxL (K := K) rfl) (pv 0) pe_int (fun _ _ => rfl)))
  (pss_cons (ps_asg (pe_op op_add (pv 2) pe_int) (pg_sub (pv 0) pe_int set_list))
  (pss_cons (ps_if (pt_cmpR op_lt (pv 2) (pe_callB (kLen (K := K) rfl) (by rfl) T.n_len PySem.boot_len (pa_cons (pe_ix (kIxL (K := K) rfl) (pv 0) pe_int (fun _ _ => rfl)) pa_nil)) (nomark _))
  (pss_one (ps_ret (pe_op op_mod (pe_callTy call_int1 (by rfl) T.n_int (by decide +kernel) (pa_cons (pe_ix (kIxL (K := K) rfl) (pe_ix (kIxL (K := K) rfl) (pv 0) pe_int (fun _ _ => rfl)) (pv 2) (fun _ _ => rfl)) pa_nil)) (pv 1))))
  pss_nil)
  (pss_one (ps_ret (pe_op op_mod (pe_callTy call_int1 (by rfl) T.n_int (by decide +kernel) (pa_cons (pe_op op_add (pe_op op_mul (pv 2) pe_int) pe_int) pa_nil)) (pv 1))))))), ?_⟩
    refine ⟨.ref b, rfl, b, _, 1, _, rfl, rfl, SqL.of hb, at_nat (i := 1) rfl, ?_⟩
    refine ⟨.int n, rfl, _, _, rfl, rfl, .ref b, rfl, b, _, 1, 1, rfl, rfl, hb, rfl, ?_⟩
    generalize e2 : upd H b (.lst ([V.ref r, .int n].set 1 (.int (n + 1)))) = H2
    have B2 : Bx K b F H2 := by
      rw [← e2]
      refine ⟨fun p o e => ?_, B.nf, r, ns, n + 1, upd_same, hr', by omega⟩
      rw [upd_ne (ne_of_none e B.nf)]
      exact B.sub p o e
    have k2 : Keep b H H2 := fun p o hp e => by rw [← e2, upd_ne hp]; exact e
    have h2 : H2 b = some (.lst [.ref r, .int (n + 1)]) := by rw [← e2]; exact upd_same
    have hS := B2.sub.seq hr'
    refine ⟨.int n, rfl, .ref b, rfl, b, _, 0, _, rfl, rfl, SqL.of h2, at_nat (i := 0) rfl, r, _, rfl, .inl hS, _, _, rfl, rfl, _, rfl, ite2 (fun h => ?_) (fun h => ?_)⟩
    · have hk := of_decide_eq_true h
      rw [List.length_map] at hk
      refine ⟨.ref b, rfl, b, _, 0, _, rfl, rfl, SqL.of h2, at_nat (i := 0) rfl, .int n, rfl, r, _, n, _, rfl, rfl, hS, at_int hn (map_at (show n.toNat < ns.length by omega)), .inl ⟨_, rfl, .int m, rfl, _, _, rfl, rfl, hm, ?_⟩⟩
      exact q _ _ (Int.emod_nonneg _ (by omega)) (Int.emod_lt_of_pos _ hm) B2 k2
    · refine ⟨.int n, rfl, _, 5, rfl, rfl, .inr ⟨by decide, by decide⟩, _, 1, rfl, rfl, .inl ⟨_, rfl, .int m, rfl, _, _, rfl, rfl, hm, ?_⟩⟩
      exact q _ _ (Int.emod_nonneg _ (by omega)) (Int.emod_lt_of_pos _ hm) B2 k2
end
end Fo
namespace Fo
open PySem PySem.Spec PyProof.Rows L2 TL
section
variable {P : Program} {w : World} {K : PySem.W.Frag} {mg : Str → Option Value} {base : Heap}
def sp_is_alphabet (K : PySem.W.Frag) : Sp := fun vs H Q _ => ∃ (v : V) (d : PyData), vs = [v] ∧ Dp K H v d ∧ SmallD d ∧ ∀ H', Same H H' → Q (.bl (alphaD d)) H'
theorem ok_is_alphabet (T : Tx P K mg) : FnOk P w K mg base CX0 1 T.a_is_alphabet T.e_is_alphabet ["thing"] (sp_is_alphabet K) := by
  refine T.d_is_alphabet.F.ok sc_is_alphabet (fun vs H Q E h => ?_) (fun cdv A outer s H vs Q E hr h => ?_)
  · obtain ⟨v, d, rfl, _⟩ := h
    rfl
  · obtain ⟨v, d, rfl, hd, hz, q⟩ := h
    refine ⟨_, (pss_cons (ps_if (PW.pt (pw_or (pt_cmpR op_isNotTy (pe_callTy (kTyp (K := K) rfl) (by rfl) T.n_type (by decide +kernel) (pa_cons (pv 0) pa_nil)) (pe_bltn (v := .ty "str") (by rfl) T.n_str (by decide +kernel) rfl) (nomark _)) (pw_or1 (pt_not (pt_chain op_le op_le pe_int (pe_callB call_len_str (by rfl) T.n_len PySem.boot_len (pa_cons (pv 0) pa_nil)) (pe_glob (v := v_MOST_LETTERS) rfl T.c_MOST_LETTERS ⟨_, rfl⟩))))))
  (pss_one (ps_ret pe_bl))
  pss_nil)
  (pss_cons (ps_for PassesOwn.never rfl (pi_enumS (by rfl) T.n_enumerate (pa_cons (pv 0) pa_nil)) (kTg (K := K) rfl (pg_tup rfl (pgs_cons (pg_name (i := 1) sc_is_alphabet.nd rfl (.inl rfl)) (pgs_cons (pg_name (i := 2) sc_is_alphabet.nd rfl (.inl rfl)) pgs_nil))))
  (pss_one (ps_if (PW.pt (pw_or (pt_cmpR op_notIn_sign (pv 2) (pe_glob (v := v_LETTERS) rfl T.c_LETTERS ⟨_, rfl⟩) rfl) (pw_or1 (pt_cmpR op_in_sign (pv 2) (pe_slice sl_str (pv 0) po_none (po_some (pv 1))) rfl))))
  (pss_one (ps_ret pe_bl))
  pss_nil)))
  (pss_one (ps_ret pe_bl)))), ?_⟩
    refine ⟨v, rfl, v, _, rfl, dp_tyb hd, _, _, rfl, rfl, _, rfl, ite2 (fun h => ?_) (fun h => ?_)⟩
    · have e : alphaD d = false := alphaD_not fun e => by rw [e] at h; exact absurd h (by decide)
      rw [e] at q
      exact q H (Same.refl H)
    · have e : tyn d = "str" := by
        cases e : decide (tyn d = "str") with
        | true => exact of_decide_eq_true e
        | false => rw [e] at h; exact absurd rfl h
      obtain ⟨z, rfl⟩ := is_str e
      cases hd
      have hl := hz z rfl
      have no : alphaB (tl z) = false → ∀ H', Same H H' → Q (.bl false) H' := fun e => by
        have q := q
        rw [show alphaD (.str z) = false from e] at q
        exact q
      refine ⟨.str z, rfl, z, rfl, lim5' hl, _, _, rfl, rfl, _, rfl, ite2 (fun h1 => ?_) (fun h1 => ?_)⟩
      · refine ⟨_, _, rfl, rfl, _, rfl, ite2 (fun h2 => ?_) (fun h2 => ?_)⟩
        · refine no ?_ H (Same.refl H)
          have h3 : ¬ (tl z).length ≤ 5 := fun h => by
            rw [← len_tl] at h
            rw [decide_eq_true (show (z.length : Int) ≤ 5 by omega)] at h2
            exact absurd h2 (by decide)
          unfold alphaB
          rw [decide_eq_false h3, Bool.and_false, Bool.false_and]
        · have h3 : z.length ≤ 5 := by
            cases e5 : decide ((z.length : Int) ≤ 5) with
            | true => have := of_decide_eq_true e5; omega
            | false => rw [e5] at h2; exact absurd rfl h2
          have h4 : 1 ≤ z.length := by have := of_decide_eq_true h1; omega
          -- the loop
          refine ⟨.str z, rfl, z, rfl, for_pairs (fun i σ H2 => ∃ y1 y2 : Option V, σ = [some (.str z), y1, y2] ∧ Same H H2 ∧ ∀ j, j < i → okAt (tl z) j = true) ⟨none, none, rfl, Same.refl H, fun j h => absurd h (Nat.not_lt_zero j)⟩ ?_ ?_⟩
          · rintro i σ H2 p hi ⟨y1, y2, rfl, sm, ok⟩ np
            refine ⟨p, _, rfl, SqT.of upd_same, rfl, _, _, rfl, _, _, rfl, rfl, ?_⟩
            have bad : okAt (tl z) i = false → ∀ H', Same H H' → Q (.bl false) H' := fun e => by
              refine no ?_
              unfold alphaB
              rw [allN_false (by rw [← size_tl]; exact hi) e, Bool.and_false]
            have sm2 := sm.trans (same_new (o := .tup [V.int (i : Nat), sg z i]) np)
            refine ⟨_, rfl, _, _, rfl, rfl, _, rfl, ite2 (fun h5 => ?_) (fun h5 => ?_)⟩
            · refine bad ?_ _ sm2
              unfold okAt
              rw [← getD_tl]
              cases e5 : decide (z.cps.getD i 0 ∈ abc) with
              | true => rw [show decide (z.cps.getD i 0 ∈ (Str.ofString "abcdefghijklmnopqrstuvwxyz").cps.toList) = true from e5] at h5; exact absurd h5 (by decide)
              | false => rfl
            · refine ⟨_, rfl, .str z, rfl, .int (i : Nat), rfl, (i : Int), rfl, z, rfl, lim5' hl, _, _, rfl, rfl, _, rfl, ite2 (fun h6 => ?_) (fun h6 => ?_)⟩
              · refine bad ?_ _ sm2
                rw [cut_to] at h6
                unfold okAt
                rw [← getD_tl, h6, Bool.not_true, Bool.and_false]
              · refine ⟨_, _, rfl, sm2, fun j hj => ?_⟩
                rcases Nat.lt_succ_iff_lt_or_eq.mp hj with hj | rfl
                · exact ok j hj
                · rw [cut_to] at h6
                  unfold okAt
                  rw [← getD_tl]
                  cases e5 : decide (z.cps.getD j 0 ∈ abc) with
                  | false => rw [show decide (z.cps.getD j 0 ∈ (Str.ofString "abcdefghijklmnopqrstuvwxyz").cps.toList) = false from e5] at h5; exact absurd rfl h5
                  | true =>
                    cases e6 : decide (z.cps.getD j 0 ∈ (tl z).take j) with
                    | true => exact absurd e6 h6
                    | false => rfl
          · rintro σ H2 ⟨y1, y2, rfl, sm, ok⟩
            have e : alphaB (tl z) = true := by
              unfold alphaB
              rw [← len_tl, decide_eq_true h3, decide_eq_true h4, allN_true (n := z.length) fun i hi => ok i hi]
              rfl
            have q := q
            rw [show alphaD (.str z) = true from e] at q
            exact q H2 sm
      · refine ⟨_, rfl, ?_⟩
        have e : alphaB (tl z) = false := by
          unfold alphaB
          have : ¬ 1 ≤ (tl z).length := fun h => h1 (decide_eq_true (by rw [← len_tl] at h; omega))
          rw [decide_eq_false this, Bool.false_and, Bool.false_and]
        exact no e H (Same.refl H)
end
end Fo
namespace Fo
open PySem PySem.Spec PyProof.Rows L2 TL
section
variable {P : Program} {w : World} {K : PySem.W.Frag} {mg : Str → Option Value} {base : Heap}
def sp_is_word (K : PySem.W.Frag) : Sp := fun vs H Q _ => ∃ (al : List Nat) (v : V) (d : PyData), vs = [.str (S al), v] ∧ al.length ≤ 100000 ∧ Dp K H v d ∧ SmallD d ∧ ∀ H', Same H H' → Q (.bl (alphaB al && wordD al d)) H'
theorem ok_is_word (T : Tx P K mg) : FnOk P w K mg base CX0 2 T.a_is_word T.e_is_word ["alphabet", "thing"] (sp_is_word K) := by
  refine T.d_is_word.F.ok sc_is_word (fun vs H Q E h => ?_) (fun cdv A outer s H vs Q E hr h => ?_)
  · obtain ⟨al, v, d, rfl, _⟩ := h
    rfl
  · obtain ⟨al, v, d, rfl, la, hd, hz, q⟩ := h
    refine ⟨_, (pss_cons (ps_if (PW.pt (pw_or (pt_not (pt_val (pe_call (ok_is_alphabet T) (hr.mono (by decide)) (by rfl) T.d_is_alphabet.g T.d_is_alphabet.F.kp T.d_is_alphabet.b .nil pass0 (pa_cons (pv 0) pa_nil)))) (pw_or1 (pt_cmpR op_isNotTy (pe_callTy (kTyp (K := K) rfl) (by rfl) T.n_type (by decide +kernel) (pa_cons (pv 1) pa_nil)) (pe_bltn (v := .ty "str") (by rfl) T.n_str (by decide +kernel) rfl) (nomark _)))))
  (pss_one (ps_ret pe_bl))
  pss_nil)
  (pss_one (ps_ret (pe_callB (kAll (K := K) rfl rfl) (by rfl) T.n_all (by decide +kernel) (pa_cons (pe_lc (own := [("letter", 2)]) (g := gName 2) (tt := tYes) rfl sc_is_word.nd (pi_str (pv 1)) (blkOk_by (N := ["alphabet", "thing", "letter"]) (sc := defScope s_is_word) (by decide +kernel)) (fun _ _ _ _ _ => (pg_name (i := 2) sc_is_word.nd rfl (Or.inl rfl))) (fun _ _ _ _ _ => pts_nil) (fun _ _ _ _ _ => (by exact (pe_cmpR op_in_sign (pv 2) (pv 0) rfl)))) pa_nil))))), ?_⟩
    refine ⟨_, rfl, .str (S al), .str (S al), rfl, .str _, fun z e => by cases e; rw [len_S]; exact la, fun H1 s1 => ⟨_, rfl, ite2 (fun h => ?_) (fun h => ?_)⟩⟩
    · have e : alphaB al = false := bnot_if h
      rw [e, Bool.false_and] at q
      exact q H1 s1
    · have e : alphaB al = true := bnot_of h
      rw [e, Bool.true_and] at q
      refine ⟨v, rfl, v, _, rfl, dp_tyb (dp_mono s1 hd), _, _, rfl, rfl, _, rfl, ite2 (fun h => ?_) (fun h => ?_)⟩
      · rw [wordD_not (al := al) (d := d) (of_decide_eq_false (bnot_if h))] at q
        exact q H1 s1
      · obtain ⟨z, rfl⟩ := is_str (of_decide_eq_true (bnot_of h))
        cases hd
        have hl := hz z rfl
        have h1 : z.cps.size = (tl z).length := len_tl z
        refine ⟨.str z, rfl, z, rfl, fun D nD => ?_⟩
        refine lc_str (fun i H2 => Same H1 H2 ∧ H2 D = some (.lst (((List.range i).map fun j => decide ((tl z).getD j 0 ∈ al)).map V.bl))) ⟨same_new nD, upd_same⟩ ?_ ?_
        · rintro i H2 hi ⟨sm, hD⟩
          refine ⟨rfl, sg z i, rfl, .str (S al), rfl, (tl z).getD i 0, S al, sg_eq z i, rfl, _, hD, ?_, ?_, ?_⟩
          · rw [List.length_map, List.length_map, List.length_range]
            exact lim5 (Nat.le_trans (Nat.le_of_lt hi) hl)
          · exact fun b o e => by rw [upd_ne (ne_of_none e nD)]; exact sm b o e
          · rw [upd_same, List.range_succ, List.map_append, List.map_append]
            rfl
        · rintro H2 ⟨sm, hD⟩
          refine ⟨D, _, rfl, SqL.of hD, ?_⟩
          have e2 : ((List.range z.cps.size).map fun j => decide ((tl z).getD j 0 ∈ al)).all id = wordD al (.str z) := by
            rw [List.all_map, h1]
            rfl
          rw [e2]
          exact q H2 (s1.trans sm)
end
end Fo
namespace Fo
open PySem PySem.Spec PyProof.Rows L2 TL
section
variable {P : Program} {w : World} {K : PySem.W.Frag} {mg : Str → Option Value} {base : Heap}
/-- the list of a comprehension of tests, one longer -/
theorem all_step {H0 H2 : Hp} {D : Addr} {es : List PyData} {f : PyData → Bool} {i : Nat} {d : PyData} {b : Bool} (nD : H0 D = none) (hz : es.length ≤ 100000) (hd : es[i]? = some d) (sm : Same H0 H2) (hD : H2 D = some (.lst (((es.take i).map f).map V.bl))) (hb : b = f d) :
    ∃ acc, H2 D = some (.lst acc) ∧ acc.length < sizeLine ∧ (Same H0 (upd H2 D (.lst (acc ++ [V.bl b]))) ∧ upd H2 D (.lst (acc ++ [V.bl b])) D = some (.lst (((es.take (i + 1)).map f).map V.bl))) := by
  refine ⟨_, hD, ?_, same_put sm nD, ?_⟩
  · rw [List.length_map, List.length_map]
    exact lim5 (Nat.le_trans (List.length_take_le' ..) hz)
  · rw [upd_same, take_snoc hd, List.map_append, List.map_append, hb]
    rfl
def sp_is_state_row (K : PySem.W.Frag) : Sp := fun vs H Q _ => ∃ (v : V) (d : PyData) (k n : Nat), vs = [v, .int k, .int n] ∧ Dp K H v d ∧ k ≤ 100000 ∧ ∀ H', Same H H' → Q (.bl (stateRowD k n d)) H'
theorem ok_is_state_row (T : Tx P K mg) : FnOk P w K mg base CX0 1 T.a_is_state_row T.e_is_state_row ["row", "letters", "states"] (sp_is_state_row K) := by
  refine T.d_is_state_row.F.ok sc_is_state_row (fun vs H Q E h => ?_) (fun cdv A outer s H vs Q E hr h => ?_)
  · obtain ⟨v, d, k, n, rfl, _⟩ := h
    rfl
  · obtain ⟨v, d, k, n, rfl, hd, hk, q⟩ := h
    refine ⟨_, (pss_cons (ps_if (PW.pt (pw_or (pt_cmpR op_isNotTy (pe_callTy (kTyp (K := K) rfl) (by rfl) T.n_type (by decide +kernel) (pa_cons (pv 0) pa_nil)) (pe_bltn (v := .ty "list") (by rfl) T.n_list (by decide +kernel) rfl) (nomark _)) (pw_or1 (pt_cmpR op_ne (pe_callB (kLen (K := K) rfl) (by rfl) T.n_len PySem.boot_len (pa_cons (pv 0) pa_nil)) (pv 1) (nomark _)))))
  (pss_one (ps_ret pe_bl))
  pss_nil)
  (pss_one (ps_ret (pe_callB (kAll (K := K) rfl rfl) (by rfl) T.n_all (by decide +kernel) (pa_cons (pe_lc (own := [("state", 3)]) (g := gName 3) (tt := tYes) rfl sc_is_state_row.nd (kLi (K := K) rfl (pi_list (pv 0))) (blkOk_by (N := ["row", "letters", "states", "state"]) (sc := defScope s_is_state_row) (by decide +kernel)) (fun _ _ _ _ _ => (pg_name (i := 3) sc_is_state_row.nd rfl (Or.inl rfl))) (fun _ _ _ _ _ => pts_nil) (fun _ _ _ _ _ => (by exact (pe_and (pe_cmpR op_isTy (pe_callTy (kTyp (K := K) rfl) (by rfl) T.n_type (by decide +kernel) (pa_cons (pv 3) pa_nil)) (pe_bltn (v := .ty "int") (by rfl) T.n_int (by decide +kernel) rfl) (nomark _)) (pe_one (pe_chain op_le op_lt pe_int (pv 3) (pv 2))))))) pa_nil))))), ?_⟩
    refine ⟨v, rfl, v, _, rfl, dp_tyb hd, _, _, rfl, rfl, _, rfl, ite2 (fun h => ?_) (fun h => ?_)⟩
    · rw [stateRowD_not (of_decide_eq_false (bnot_if h))] at q
      exact q H (Same.refl H)
    · obtain ⟨es, rfl⟩ := is_list' (of_decide_eq_true (bnot_of h))
      obtain ⟨a, xs, rfl, hS, ha⟩ := dp_list hd
      have hl := dps_len ha
      have q : ∀ H', Same H H' → Q (.bl (decide (es.length = k) && es.all (stateD n))) H' := q
      refine ⟨.ref a, rfl, a, xs, rfl, .inl hS, .int k, rfl, rfl, _, rfl, ite2 (fun h1 => ?_) (fun h1 => ?_)⟩
      · rw [int_eq, hl] at h1
        rw [bnot_if h1, Bool.false_and] at q
        exact q H (Same.refl H)
      · rw [int_eq, hl] at h1
        have hlk := of_decide_eq_true (bnot_of h1)
        rw [bnot_of h1, Bool.true_and] at q
        refine ⟨.ref a, rfl, a, rfl, ⟨xs, hS⟩, fun D nD => ?_⟩
        refine lc_list (K := K) (a := a) (xs := xs) (fun i H2 => Same H H2 ∧ H2 D = some (.lst (((es.take i).map (stateD n)).map V.bl))) ⟨same_new nD, upd_same⟩ (fun i H2 _ ⟨sm, _⟩ => sm.seq hS) ?_ ?_
        · rintro i x H2 hx ⟨sm, hD⟩
          obtain ⟨d, hdi, hxd⟩ := dps_at ha hx
          refine ⟨rfl, x, rfl, x, _, rfl, dp_tyb (dp_mono sm hxd), _, _, rfl, rfl, _, rfl, ite2 (fun h2 => ?_) (fun h2 => ?_)⟩
          · obtain ⟨j, rfl⟩ := is_int (of_decide_eq_true h2)
            obtain rfl := dp_int hxd
            refine ⟨.int j, rfl, 0, j, rfl, rfl, _, rfl, ite2 (fun h3 => ?_) (fun h3 => ?_)⟩
            · refine ⟨.int n, rfl, j, n, rfl, rfl, ?_⟩
              refine all_step nD (by omega) hdi sm hD ?_
              show _ = (decide (0 ≤ j) && decide (j < (n : Int)))
              rw [h3, Bool.true_and]
            · refine all_step nD (by omega) hdi sm hD ?_
              show _ = (decide (0 ≤ j) && decide (j < (n : Int)))
              rw [b_of h3, Bool.false_and]
          · exact all_step nD (by omega) hdi sm hD (stateD_not (of_decide_eq_false (b_of h2))).symm
        · rintro H2 ⟨sm, hD⟩
          rw [hl] at hD
          refine ⟨D, _, rfl, SqL.of hD, ?_⟩
          rw [all_bl]
          exact q H2 sm
def sp_are_transitions (K : PySem.W.Frag) : Sp := fun vs H Q _ => ∃ (v : V) (d : PyData) (k : Nat), vs = [v, .int k] ∧ Dp K H v d ∧ k ≤ 100000 ∧ ∀ H', Same H H' → Q (.bl (transD k d)) H'
theorem ok_are_transitions (T : Tx P K mg) : FnOk P w K mg base CX0 2 T.a_are_transitions T.e_are_transitions ["rows", "letters"] (sp_are_transitions K) := by
  refine T.d_are_transitions.F.ok sc_are_transitions (fun vs H Q E h => ?_) (fun cdv A outer s H vs Q E hr h => ?_)
  · obtain ⟨v, d, k, rfl, _⟩ := h
    rfl
  · obtain ⟨v, d, k, rfl, hd, hk, q⟩ := h
    refine ⟨_, (pss_cons (ps_if (PW.pt (pw_or (pt_cmpR op_isNotTy (pe_callTy (kTyp (K := K) rfl) (by rfl) T.n_type (by decide +kernel) (pa_cons (pv 0) pa_nil)) (pe_bltn (v := .ty "list") (by rfl) T.n_list (by decide +kernel) rfl) (nomark _)) (pw_or1 (pt_not (pt_chain op_le op_le pe_int (pe_callB (kLen (K := K) rfl) (by rfl) T.n_len PySem.boot_len (pa_cons (pv 0) pa_nil)) (pe_glob (v := v_MOST_STATES) rfl T.c_MOST_STATES ⟨_, rfl⟩))))))
  (pss_one (ps_ret pe_bl))
  pss_nil)
  (pss_one (ps_ret (pe_callB (kAll (K := K) rfl rfl) (by rfl) T.n_all (by decide +kernel) (pa_cons (pe_lc (own := [("row", 2)]) (g := gName 2) (tt := tYes) rfl sc_are_transitions.nd (kLi (K := K) rfl (pi_list (pv 0))) (blkOk_by (N := ["rows", "letters", "row"]) (sc := defScope s_are_transitions) (by decide +kernel)) (fun _ _ _ _ _ => (pg_name (i := 2) sc_are_transitions.nd rfl (Or.inl rfl))) (fun _ _ _ _ _ => pts_nil) (fun _ _ _ _ _ => (by exact (pe_call (ok_is_state_row T) (hr.mono (by decide)) (by rfl) T.d_is_state_row.g T.d_is_state_row.F.kp T.d_is_state_row.b .nil pass0 (pa_cons (pv 2) (pa_cons (pv 1) (pa_cons (pe_callB (kLen (K := K) rfl) (by rfl) T.n_len PySem.boot_len (pa_cons (pv 0) pa_nil)) pa_nil))))))) pa_nil))))), ?_⟩
    refine ⟨v, rfl, v, _, rfl, dp_tyb hd, _, _, rfl, rfl, _, rfl, ite2 (fun h => ?_) (fun h => ?_)⟩
    · rw [transD_not (of_decide_eq_false (bnot_if h))] at q
      exact q H (Same.refl H)
    · obtain ⟨es, rfl⟩ := is_list' (of_decide_eq_true (bnot_of h))
      obtain ⟨a, xs, rfl, hS, ha⟩ := dp_list hd
      have hl := dps_len ha
      have q : ∀ H', Same H H' → Q (.bl (decide (1 ≤ es.length) && decide (es.length ≤ 40) && es.all (stateRowD k es.length))) H' := q
      refine ⟨.ref a, rfl, a, xs, rfl, .inl hS, _, _, rfl, rfl, _, rfl, ite2 (fun h1 => ?_) (fun h1 => ?_)⟩
      · have h1 := of_decide_eq_true h1
        rw [hl] at h1
        rw [decide_eq_true (show 1 ≤ es.length by omega), Bool.true_and] at q
        refine ⟨_, _, rfl, rfl, _, rfl, ite2 (fun h2 => ?_) (fun h2 => ?_)⟩
        · have h2 := of_decide_eq_false (bnot_if h2)
          rw [hl] at h2
          rw [decide_eq_false (show ¬ es.length ≤ 40 by omega), Bool.false_and] at q
          exact q H (Same.refl H)
        · have h2 := of_decide_eq_true (bnot_of h2)
          rw [hl] at h2
          rw [decide_eq_true (show es.length ≤ 40 by omega), Bool.true_and] at q
          refine ⟨.ref a, rfl, a, rfl, ⟨xs, hS⟩, fun D nD => ?_⟩
          refine lc_list (K := K) (a := a) (xs := xs) (fun i H2 => Same H H2 ∧ H2 D = some (.lst (((es.take i).map (stateRowD k es.length)).map V.bl))) ⟨same_new nD, upd_same⟩ (fun i H2 _ ⟨sm, _⟩ => sm.seq hS) ?_ ?_
          · rintro i x H2 hx ⟨sm, hD⟩
            obtain ⟨d, hdi, hxd⟩ := dps_at ha hx
            refine ⟨rfl, x, rfl, .int k, rfl, .ref a, rfl, a, xs, rfl, .inl (sm.seq hS), x, d, k, es.length, ?_, dp_mono sm hxd, hk, fun H3 s3 => ?_⟩
            · rw [← hl]
              rfl
            · exact all_step nD (by omega) hdi (sm.trans s3) (s3 _ _ hD) rfl
          · rintro H2 ⟨sm, hD⟩
            rw [hl] at hD
            refine ⟨D, _, rfl, SqL.of hD, ?_⟩
            rw [all_bl]
            exact q H2 sm
      · refine ⟨_, rfl, ?_⟩
        have h1 := of_decide_eq_false (b_of h1)
        rw [hl] at h1
        rw [decide_eq_false (show ¬ 1 ≤ es.length by omega), Bool.false_and, Bool.false_and] at q
        exact q H (Same.refl H)
end
end Fo
namespace Fo
open PySem PySem.Spec PyProof.Rows L2 TL
section
variable {P : Program} {w : World} {K : PySem.W.Frag} {mg : Str → Option Value} {base : Heap}
theorem writtenD_str {k : Nat} {al : List Nat} {z : Str} : writtenD k al (.str z) = ((alphaB al && wordD al (.str z)) && decide ((tl z).length = k)) := rfl
def sp_is_table_row (K : PySem.W.Frag) : Sp := fun vs H Q _ => ∃ (v : V) (d : PyData) (n k : Nat) (al : List Nat), vs = [v, .int n, .int k, .str (S al)] ∧ Dp K H v d ∧ n ≤ 100000 ∧ al.length ≤ 100000 ∧ SmallRow d ∧ ∀ H', Same H H' → Q (.bl (tableRowD n k al d)) H'
theorem ok_is_table_row (T : Tx P K mg) : FnOk P w K mg base CX0 3 T.a_is_table_row T.e_is_table_row ["row", "states", "letters", "writes"] (sp_is_table_row K) := by
  refine T.d_is_table_row.F.ok sc_is_table_row (fun vs H Q E h => ?_) (fun cdv A outer s H vs Q E hr h => ?_)
  · obtain ⟨v, d, n, k, al, rfl, _⟩ := h
    rfl
  · obtain ⟨v, d, n, k, al, rfl, hd, hn, hal, hz, q⟩ := h
    refine ⟨_, (pss_cons (ps_if (PW.pt (pw_or (pt_cmpR op_isNotTy (pe_callTy (kTyp (K := K) rfl) (by rfl) T.n_type (by decide +kernel) (pa_cons (pv 0) pa_nil)) (pe_bltn (v := .ty "list") (by rfl) T.n_list (by decide +kernel) rfl) (nomark _)) (pw_or1 (pt_cmpR op_ne (pe_callB (kLen (K := K) rfl) (by rfl) T.n_len PySem.boot_len (pa_cons (pv 0) pa_nil)) (pv 1) (nomark _)))))
  (pss_one (ps_ret pe_bl))
  pss_nil)
  (pss_one (ps_ret (pe_callB (kAll (K := K) rfl rfl) (by rfl) T.n_all (by decide +kernel) (pa_cons (pe_lc (own := [("written", 4)]) (g := gName 4) (tt := tYes) rfl sc_is_table_row.nd (kLi (K := K) rfl (pi_list (pv 0))) (blkOk_by (N := ["row", "states", "letters", "writes", "written"]) (sc := defScope s_is_table_row) (by decide +kernel)) (fun _ _ _ _ _ => (pg_name (i := 4) sc_is_table_row.nd rfl (Or.inl rfl))) (fun _ _ _ _ _ => pts_nil) (fun _ _ _ _ _ => (by exact (pe_and (pe_call (ok_is_word T) (hr.mono (by decide)) (by rfl) T.d_is_word.g T.d_is_word.F.kp T.d_is_word.b .nil pass0 (pa_cons (pv 3) (pa_cons (pv 4) pa_nil))) (pe_one (pe_cmpR op_eq (pe_callB call_len_str (by rfl) T.n_len PySem.boot_len (pa_cons (pv 4) pa_nil)) (pv 2) (nomark _))))))) pa_nil))))), ?_⟩
    refine ⟨v, rfl, v, _, rfl, dp_tyb hd, _, _, rfl, rfl, _, rfl, ite2 (fun h => ?_) (fun h => ?_)⟩
    · rw [tableRowD_not (of_decide_eq_false (bnot_if h))] at q
      exact q H (Same.refl H)
    · obtain ⟨es, rfl⟩ := is_list' (of_decide_eq_true (bnot_of h))
      obtain ⟨a, xs, rfl, hS, ha⟩ := dp_list hd
      have hl := dps_len ha
      have hz : ∀ e ∈ es, SmallD e := hz
      have q : ∀ H', Same H H' → Q (.bl (decide (es.length = n) && es.all (writtenD k al))) H' := q
      refine ⟨.ref a, rfl, a, xs, rfl, .inl hS, .int n, rfl, rfl, _, rfl, ite2 (fun h1 => ?_) (fun h1 => ?_)⟩
      · rw [int_eq, hl] at h1
        rw [bnot_if h1, Bool.false_and] at q
        exact q H (Same.refl H)
      · rw [int_eq, hl] at h1
        have hlk := of_decide_eq_true (bnot_of h1)
        rw [bnot_of h1, Bool.true_and] at q
        refine ⟨.ref a, rfl, a, rfl, ⟨xs, hS⟩, fun D nD => ?_⟩
        refine lc_list (K := K) (a := a) (xs := xs) (fun i H2 => Same H H2 ∧ H2 D = some (.lst (((es.take i).map (writtenD k al)).map V.bl))) ⟨same_new nD, upd_same⟩ (fun i H2 _ ⟨sm, _⟩ => sm.seq hS) ?_ ?_
        · rintro i x H2 hx ⟨sm, hD⟩
          obtain ⟨d, hdi, hxd⟩ := dps_at ha hx
          have hzd := hz d (List.mem_of_getElem? hdi)
          refine ⟨rfl, .str (S al), rfl, x, rfl, al, x, d, rfl, hal, dp_mono sm hxd, hzd, fun H3 s3 => ⟨_, rfl, ite2 (fun h2 => ?_) (fun h2 => ?_)⟩⟩
          · have hw : wordD al d = true := by
              rw [Bool.and_eq_true] at h2
              exact h2.2
            have e : tyn d = "str" := by
              cases e : decide (tyn d = "str") with
              | true => exact of_decide_eq_true e
              | false => rw [wordD_not (of_decide_eq_false e)] at hw; cases hw
            obtain ⟨z, rfl⟩ := is_str e
            obtain rfl := dp_str hxd
            refine ⟨.str z, rfl, z, rfl, lim5' (hzd z rfl), .int k, rfl, rfl, ?_⟩
            refine all_step nD (by omega) hdi (sm.trans s3) (s3 _ _ hD) ?_
            rw [writtenD_str, h2, Bool.true_and, int_eq, len_tl]
          · refine all_step nD (by omega) hdi (sm.trans s3) (s3 _ _ hD) ?_
            show false = ((alphaB al && wordD al d) && _)
            rw [b_of h2, Bool.false_and]
        · rintro H2 ⟨sm, hD⟩
          rw [hl] at hD
          refine ⟨D, _, rfl, SqL.of hD, ?_⟩
          rw [all_bl]
          exact q H2 sm
theorem alpha_str {d : PyData} (h : alphaD d = true) : ∃ z, d = .str z ∧ (tl z).length ≤ 5 := by
  have e : tyn d = "str" := by
    cases e : decide (tyn d = "str") with
    | true => exact of_decide_eq_true e
    | false => rw [alphaD_not (of_decide_eq_false e)] at h; cases h
  obtain ⟨z, rfl⟩ := is_str e
  refine ⟨z, rfl, ?_⟩
  have h : (decide (1 ≤ (tl z).length) && decide ((tl z).length ≤ 5) && allN (tl z).length (okAt (tl z))) = true := h
  rw [Bool.and_eq_true, Bool.and_eq_true] at h
  exact of_decide_eq_true h.1.2
theorem trans_list {k : Nat} {d : PyData} (h : transD k d = true) : ∃ es, d = .list es ∧ es.length ≤ 40 := by
  have e : tyn d = "list" := by
    cases e : decide (tyn d = "list") with
    | true => exact of_decide_eq_true e
    | false => rw [transD_not (of_decide_eq_false e)] at h; cases h
  obtain ⟨z, rfl⟩ := is_list' e
  refine ⟨z, rfl, ?_⟩
  have h : (decide (1 ≤ z.length) && decide (z.length ≤ 40) && z.all (stateRowD k z.length)) = true := h
  rw [Bool.and_eq_true, Bool.and_eq_true] at h
  exact of_decide_eq_true h.1.2
def sp_is_machine (K : PySem.W.Frag) : Sp := fun vs H Q _ => ∃ (v1 v2 v3 v4 v5 : V) (d1 d2 d3 d4 d5 : PyData), vs = [v1, v2, v3, v4, v5] ∧ Dp K H v1 d1 ∧ Dp K H v2 d2 ∧ Dp K H v3 d3 ∧ Dp K H v4 d4 ∧ Dp K H v5 d5 ∧ SmallD d1 ∧ SmallD d2 ∧ SmallTab d5 ∧
  ∀ H', Same H H' → Q (.bl (machD d1 d2 d3 d4 d5)) H'
theorem ok_is_machine (T : Tx P K mg) : FnOk P w K mg base CX0 4 T.a_is_machine T.e_is_machine ["reads", "writes", "left", "right", "table"] (sp_is_machine K) := by
  refine T.d_is_machine.F.ok sc_is_machine (fun vs H Q E h => ?_) (fun cdv A outer s H vs Q E hr h => ?_)
  · obtain ⟨v1, v2, v3, v4, v5, d1, d2, d3, d4, d5, rfl, _⟩ := h
    rfl
  · obtain ⟨v1, v2, v3, v4, v5, d1, d2, d3, d4, d5, rfl, p1, p2, p3, p4, p5, z1, z2, z5, q⟩ := h
    refine ⟨_, (pss_cons (ps_if (PW.pt (pw_or (pt_not (pt_val (pe_call (ok_is_alphabet T) (hr.mono (by decide)) (by rfl) T.d_is_alphabet.g T.d_is_alphabet.F.kp T.d_is_alphabet.b .nil pass0 (pa_cons (pv 0) pa_nil)))) (pw_or1 (pt_not (pt_val (pe_call (ok_is_alphabet T) (hr.mono (by decide)) (by rfl) T.d_is_alphabet.g T.d_is_alphabet.F.kp T.d_is_alphabet.b .nil pass0 (pa_cons (pv 1) pa_nil)))))))
  (pss_one (ps_ret pe_bl))
  pss_nil)
  (pss_cons (ps_if (PW.pt (pw_or (pt_not (pt_val (pe_call (ok_are_transitions T) (hr.mono (by decide)) (by rfl) T.d_are_transitions.g T.d_are_transitions.F.kp T.d_are_transitions.b .nil pass0 (pa_cons (pv 2) (pa_cons (pe_callB call_len_str (by rfl) T.n_len PySem.boot_len (pa_cons (pv 0) pa_nil)) pa_nil))))) (pw_or1 (pt_not (pt_val (pe_call (ok_are_transitions T) (hr.mono (by decide)) (by rfl) T.d_are_transitions.g T.d_are_transitions.F.kp T.d_are_transitions.b .nil pass0 (pa_cons (pv 3) (pa_cons (pe_callB call_len_str (by rfl) T.n_len PySem.boot_len (pa_cons (pv 0) pa_nil)) pa_nil))))))))
  (pss_one (ps_ret pe_bl))
  pss_nil)
  (pss_cons (ps_if (PW.pt (pw_or (pt_cmpR op_isNotTy (pe_callTy (kTyp (K := K) rfl) (by rfl) T.n_type (by decide +kernel) (pa_cons (pv 4) pa_nil)) (pe_bltn (v := .ty "list") (by rfl) T.n_list (by decide +kernel) rfl) (nomark _)) (pw_or1 (pt_cmpR op_ne (pe_callB (kLen (K := K) rfl) (by rfl) T.n_len PySem.boot_len (pa_cons (pv 4) pa_nil)) (pe_callB (kLen (K := K) rfl) (by rfl) T.n_len PySem.boot_len (pa_cons (pv 2) pa_nil)) (nomark _)))))
  (pss_one (ps_ret pe_bl))
  pss_nil)
  (pss_one (ps_ret (pe_callB (kAll (K := K) rfl rfl) (by rfl) T.n_all (by decide +kernel) (pa_cons (pe_lc (own := [("row", 5)]) (g := gName 5) (tt := tYes) rfl sc_is_machine.nd (kLi (K := K) rfl (pi_list (pv 4))) (blkOk_by (N := ["reads", "writes", "left", "right", "table", "row"]) (sc := defScope s_is_machine) (by decide +kernel)) (fun _ _ _ _ _ => (pg_name (i := 5) sc_is_machine.nd rfl (Or.inl rfl))) (fun _ _ _ _ _ => pts_nil) (fun _ _ _ _ _ => (by exact (pe_call (ok_is_table_row T) (hr.mono (by decide)) (by rfl) T.d_is_table_row.g T.d_is_table_row.F.kp T.d_is_table_row.b .nil pass0 (pa_cons (pv 5) (pa_cons (pe_callB (kLen (K := K) rfl) (by rfl) T.n_len PySem.boot_len (pa_cons (pv 3) pa_nil)) (pa_cons (pe_callB call_len_str (by rfl) T.n_len PySem.boot_len (pa_cons (pv 0) pa_nil)) (pa_cons (pv 1) pa_nil)))))))) pa_nil))))))), ?_⟩
    have q : ∀ H', Same H H' → Q (.bl (alphaD d1 && alphaD d2 && transD (sizeD d1) d3 && transD (sizeD d1) d4 && tableD (lenD d3) (lenD d4) (sizeD d1) (signsD d2) d5)) H' := q
    refine ⟨v1, rfl, v1, d1, rfl, p1, z1, fun H1 s1 => ⟨_, rfl, ite2 (fun h1 => ?_) (fun h1 => ?_)⟩⟩
    · rw [bnot_if h1] at q
      exact q H1 s1
    have a1 := bnot_of h1
    refine ⟨v2, rfl, v2, d2, rfl, dp_mono s1 p2, z2, fun H2 s2 => ⟨_, rfl, ite2 (fun h2 => ?_) (fun h2 => ?_)⟩⟩
    · rw [bnot_if h2, Bool.and_false] at q
      exact q H2 (s1.trans s2)
    have a2 := bnot_of h2
    have s2 := s1.trans s2
    obtain ⟨r, rfl, lr⟩ := alpha_str a1
    obtain ⟨o, rfl, lo⟩ := alpha_str a2
    rw [a1, a2, Bool.true_and, Bool.true_and] at q
    obtain rfl := dp_str p1
    obtain rfl := dp_str p2
    have er : ((r.length : Nat) : Int) = ((tl r).length : Nat) := by rw [len_tl]
    have lr' : r.length ≤ sizeLine := lim5' (z1 r rfl)
    refine ⟨v3, rfl, .str r, rfl, r, rfl, lr', v3, d3, (tl r).length, by rw [er]; rfl, dp_mono s2 p3, by omega, fun H3 s3 => ⟨_, rfl, ite2 (fun h3 => ?_) (fun h3 => ?_)⟩⟩
    · rw [show transD (sizeD (.str r)) d3 = false from bnot_if h3] at q
      exact q H3 (s2.trans s3)
    have a3 := bnot_of h3
    have s3 := s2.trans s3
    refine ⟨v4, rfl, .str r, rfl, r, rfl, lr', v4, d4, (tl r).length, by rw [er]; rfl, dp_mono s3 p4, by omega, fun H4 s4 => ⟨_, rfl, ite2 (fun h4 => ?_) (fun h4 => ?_)⟩⟩
    · rw [show transD (sizeD (.str r)) d4 = false from bnot_if h4, Bool.and_false] at q
      exact q H4 (s3.trans s4)
    have a4 := bnot_of h4
    have s4 := s3.trans s4
    rw [show transD (sizeD (.str r)) d3 = true from a3, show transD (sizeD (.str r)) d4 = true from a4, Bool.true_and, Bool.true_and] at q
    obtain ⟨ls, rfl, hls⟩ := trans_list a3
    obtain ⟨rs, rfl, hrs⟩ := trans_list a4
    obtain ⟨a, xs, rfl, S3, A3⟩ := dp_list (dp_mono s4 p3)
    obtain ⟨b, ys, rfl, S4, A4⟩ := dp_list (dp_mono s4 p4)
    have lx := dps_len A3
    have ly := dps_len A4
    refine ⟨v5, rfl, v5, _, rfl, dp_tyb (dp_mono s4 p5), _, _, rfl, rfl, _, rfl, ite2 (fun h5 => ?_) (fun h5 => ?_)⟩
    · rw [tableD_not (of_decide_eq_false (bnot_if h5))] at q
      exact q H4 s4
    obtain ⟨es, rfl⟩ := is_list' (of_decide_eq_true (bnot_of h5))
    obtain ⟨c, zs, rfl, S5, A5⟩ := dp_list (dp_mono s4 p5)
    have lz := dps_len A5
    have z5 : ∀ e ∈ es, SmallRow e := z5
    have q : ∀ H', Same H H' → Q (.bl (decide (es.length = ls.length) && es.all (tableRowD rs.length (tl r).length (tl o)))) H' := q
    refine ⟨.ref c, rfl, c, zs, rfl, .inl S5, .ref a, rfl, a, xs, rfl, .inl S3, rfl, _, rfl, ite2 (fun h6 => ?_) (fun h6 => ?_)⟩
    · rw [int_eq, lz, lx] at h6
      rw [bnot_if h6, Bool.false_and] at q
      exact q H4 s4
    rw [int_eq, lz, lx] at h6
    have hlk := of_decide_eq_true (bnot_of h6)
    rw [bnot_of h6, Bool.true_and] at q
    refine ⟨.ref c, rfl, c, rfl, ⟨zs, S5⟩, fun D nD => ?_⟩
    refine lc_list (K := K) (a := c) (xs := zs) (fun i H5 => Same H4 H5 ∧ H5 D = some (.lst (((es.take i).map (tableRowD rs.length (tl r).length (tl o))).map V.bl))) ⟨same_new nD, upd_same⟩ (fun i H5 _ ⟨sm, _⟩ => sm.seq S5) ?_ ?_
    · rintro i x H5 hx ⟨sm, hD⟩
      obtain ⟨d, hdi, hxd⟩ := dps_at A5 hx
      refine ⟨rfl, x, rfl, .ref b, rfl, b, ys, rfl, .inl (sm.seq S4), .str r, rfl, r, rfl, lr', .str o, rfl, x, d, rs.length, (tl r).length, tl o, ?_, dp_mono sm hxd, by omega, by omega, z5 d (List.mem_of_getElem? hdi), fun H6 s6 => ?_⟩
      · rw [er, ly, S_tl]
        rfl
      · exact all_step nD (by omega) hdi (sm.trans s6) (s6 _ _ hD) rfl
    · rintro H5 ⟨sm, hD⟩
      rw [lz] at hD
      refine ⟨D, _, rfl, SqL.of hD, ?_⟩
      rw [all_bl]
      exact q H5 (s4.trans sm)
end
end Fo
namespace Fo
open PySem PySem.Spec PyProof.Rows L2 TL
section
variable {P : Program} {w : World} {K : PySem.W.Frag} {mg : Str → Option Value} {base : Heap}
theorem stateRow_atoms {k n : Nat} {ds : List PyData} (h : stateRowD k n (.list ds) = true) : ∀ d ∈ ds, Atom d := fun d hd => by
  have h : (decide (ds.length = k) && ds.all (stateD n)) = true := h
  rw [Bool.and_eq_true] at h
  have := List.all_eq_true.mp h.2 d hd
  cases d with
  | int i => trivial
  | _ => cases this
theorem tableRow_atoms {k n : Nat} {o : List Nat} {ds : List PyData} (h : tableRowD k n o (.list ds) = true) : ∀ d ∈ ds, Atom d := fun d hd => by
  have h : (decide (ds.length = k) && ds.all (writtenD n o)) = true := h
  rw [Bool.and_eq_true] at h
  have h2 := List.all_eq_true.mp h.2 d hd
  have h2 : ((alphaB o && wordD o d) && decide (sizeD d = n)) = true := h2
  cases d with
  | str i => trivial
  | _ => rw [show wordD o _ = false from rfl, Bool.and_false, Bool.false_and] at h2; cases h2
/-- the same atoms, whatever the heap -/
theorem atoms_at {K : PySem.W.Frag} {F F' : Hp} {ys : List V} {ds : List PyData} (a : ∀ d ∈ ds, Atom d) (h : DpAll K F ys ds) : DpAll K F' ys ds := by
  rw [atoms_eq a h]
  exact atoms_dp a
def sp_Machine_init (K : PySem.W.Frag) (CE : Addr) : Sp := fun vs H Q E => ∃ (x dx C : Addr) (H1 F Fd : Hp) (v1 v2 v3 v4 v5 : V) (d1 d2 d3 d4 d5 : PyData), vs = [.ref x, v1, v2, v3, v4, v5] ∧ H = upd (upd H1 dx (.own x)) x (.ins C dx []) ∧ H1 x = none ∧ H1 dx = none ∧ dx ≠ x ∧ MC K C ∧ Same F H1 ∧ Same Fd H1 ∧
  Dp K Fd v1 d1 ∧ Dp K Fd v2 d2 ∧ Dp K Fd v3 d3 ∧ Dp K Fd v4 d4 ∧ Dp K Fd v5 d5 ∧ SmallD d1 ∧ SmallD d2 ∧ SmallTab d5 ∧
  (machD d1 d2 d3 d4 d5 = true → ∀ H' F', Same H1 H' → Gw F H1 F' → Same F' H' → MObj K F' x d1 d2 d3 d4 d5 → (∃ fs, H' x = some (.ins C dx fs)) → Q .non H') ∧
  (machD d1 d2 d3 d4 d5 = false → ∀ (d : Addr) (H' : Hp), Same H H' → H' d = none → E (.ref CE) (some d) (upd H' d (.xd [(("reason" : Str), .str (Str.ofString "not a machine"))])))
theorem ok_Machine_init (T : Tx P K mg) : FnOk P w K mg base (L2.CX P w) 5 T.a_Machine_init T.e_Machine_init ["self", "reads", "writes", "left", "right", "table"] (sp_Machine_init K T.C_MachineError) := by
  refine T.F_Machine_init.okX sc_Machine_init (fun vs H Q E h => ?_) (fun cdv A outer s H vs Q E hr h => ?_)
  · obtain ⟨x, dx, C, H1, F, Fd, v1, v2, v3, v4, v5, d1, d2, d3, d4, d5, rfl, _⟩ := h
    rfl
  · obtain ⟨x, dx, C, H1, F, Fd, v1, v2, v3, v4, v5, d1, d2, d3, d4, d5, rfl, eH, nx, ndx, nexd, c, sF, sD, p1, p2, p3, p4, p5, z1, z2, z5, q, qe⟩ := h
    refine ⟨_, (pss_cons (ps_if (pt_not (pt_val (pe_call (ok_is_machine T) (hr.mono (by decide)) (by rfl) T.d_is_machine.g T.d_is_machine.F.kp T.d_is_machine.b .nil pass0 (pa_cons (pv 1) (pa_cons (pv 2) (pa_cons (pv 3) (pa_cons (pv 4) (pa_cons (pv 5) pa_nil))))))))
  (pss_one (ps_raise rfl (takes_of rfl rfl rfl rfl) (pmk_oex T.oex_MachineError T.iC_MachineError T.tI_MachineError (T.ok_MachineError w base) (hr.mono (by decide)) T.b_MachineError_init .nil pass0 (by rfl) T.g_MachineError (pa_cons pe_str pa_nil))))
  pss_nil)
  (pss_cons (kSf (K := K) rfl (ps_fld (pv 0) (pv 1) rfl))
  (pss_cons (kSf (K := K) rfl (ps_fld (pv 0) (pv 2) rfl))
  (pss_cons (kSf (K := K) rfl (ps_fld (pv 0) (pe_lc (own := [("row", 6)]) (g := gName 6) (tt := tYes) rfl sc_Machine_init.nd (kLi (K := K) rfl (pi_list (pv 3))) (blkOk_by (N := ["self", "reads", "writes", "left", "right", "table", "row"]) (sc := defScope s_Machine_init) (by decide +kernel)) (fun _ _ _ _ _ => (pg_name (i := 6) sc_Machine_init.nd rfl (Or.inl rfl))) (fun _ _ _ _ _ => pts_nil) (fun _ _ _ _ _ => (by exact (pe_callTy (kLst (K := K) rfl) (by rfl) T.n_list (by decide +kernel) (pa_cons (pv 6) pa_nil))))) rfl))
  (pss_cons (kSf (K := K) rfl (ps_fld (pv 0) (pe_lc (own := [("row", 6)]) (g := gName 6) (tt := tYes) rfl sc_Machine_init.nd (kLi (K := K) rfl (pi_list (pv 4))) (blkOk_by (N := ["self", "reads", "writes", "left", "right", "table", "row"]) (sc := defScope s_Machine_init) (by decide +kernel)) (fun _ _ _ _ _ => (pg_name (i := 6) sc_Machine_init.nd rfl (Or.inl rfl))) (fun _ _ _ _ _ => pts_nil) (fun _ _ _ _ _ => (by exact (pe_callTy (kLst (K := K) rfl) (by rfl) T.n_list (by decide +kernel) (pa_cons (pv 6) pa_nil))))) rfl))
  (pss_one (kSf (K := K) rfl (ps_fld (pv 0) (pe_lc (own := [("row", 6)]) (g := gName 6) (tt := tYes) rfl sc_Machine_init.nd (kLi (K := K) rfl (pi_list (pv 5))) (blkOk_by (N := ["self", "reads", "writes", "left", "right", "table", "row"]) (sc := defScope s_Machine_init) (by decide +kernel)) (fun _ _ _ _ _ => (pg_name (i := 6) sc_Machine_init.nd rfl (Or.inl rfl))) (fun _ _ _ _ _ => pts_nil) (fun _ _ _ _ _ => (by exact (pe_callTy (kLst (K := K) rfl) (by rfl) T.n_list (by decide +kernel) (pa_cons (pv 6) pa_nil))))) rfl)))))))), ?_⟩
    have s1 : Same H1 H := by
      rw [eH]
      exact same_put (same_new ndx) nx
    have eHx : H x = some (.ins C dx []) := by rw [eH]; exact upd_same
    clear eH
    have sFH := sD.trans s1
    refine ⟨v1, rfl, v2, rfl, v3, rfl, v4, rfl, v5, rfl, v1, v2, v3, v4, v5, d1, d2, d3, d4, d5, rfl, dp_mono sFH p1, dp_mono sFH p2, dp_mono sFH p3, dp_mono sFH p4, dp_mono sFH p5, z1, z2, z5, fun H2 s2 => ⟨_, rfl, ite2 (fun h => ?_) (fun h => ?_)⟩⟩
    · have hm := bnot_if h
      refine err_mkO fun d hd => ?_
      exact qe hm d H2 s2 hd
    have hm := bnot_of h
    have q := q hm
    obtain ⟨r, o, ls, rs, ts, rfl, rfl, rfl, rfl, rfl, ar, ao, l1, l2, l3, r1, r2, r3, t1, t3⟩ := machD_parts hm
    have eHx := s2 _ _ eHx
    have s2 := s1.trans s2
    have fx : F x = none := sF.free nx
    -- self.reads, self.writes
    refine ⟨v1, rfl, .ref x, rfl, x, C, dx, [], rfl, eHx, c.cl, c.n1, by show 0 < 1000; decide, ?_⟩
    refine ⟨v2, rfl, .ref x, rfl, x, C, dx, _, rfl, upd_same, c.cl, c.n2, by show 1 < 1000; decide, ?_⟩
    rw [upd_upd]
    generalize e3 : upd H2 x (.ins C dx (putF "writes" v2 (putF "reads" v1 []))) = H3
    have x3 : H3 x = some (.ins C dx (putF "writes" v2 (putF "reads" v1 []))) := by rw [← e3]; exact upd_same
    have s3 : Same H1 H3 := by rw [← e3]; exact same_put s2 nx
    -- self.left
    obtain ⟨a3, xs3, rfl, q3, A3⟩ := dp_list p3
    refine ⟨.ref a3, rfl, a3, rfl, ⟨xs3, (sD.trans s3).seq q3⟩, fun D nD => ?_⟩
    refine lc_list (K := K) (a := a3) (xs := xs3) (fun i H4 => Cp K F H3 D ls i H4) (Cp.start (sF.trans s3) nD) (fun i H4 _ ⟨_, _, _, _, s0, _⟩ => ((sD.trans s3).trans s0).seq q3) ?_ ?_
    · intro i y H4 hy cp
      obtain ⟨e, hei, hye⟩ := dps_at A3 hy
      obtain ⟨ds, rfl⟩ := stateRow_list (all_at l3 hei)
      have hat := stateRow_atoms (all_at l3 hei)
      obtain ⟨b, ys, rfl, qy, Ay⟩ := dp_list hye
      have sq : SqL K H4 b ys := by
        obtain ⟨_, _, _, _, s0, _⟩ := cp
        exact ((sD.trans s3).trans s0).seq qy
      exact ⟨rfl, .ref b, rfl, b, ys, rfl, .inl sq, fun l hl => cp.step nD (by omega) hei (atoms_at hat Ay) hl rfl⟩
    intro H4 cp
    rw [dps_len A3] at cp
    obtain ⟨F4, g4, f4, s34, P3⟩ := cp.done nD
    have x4 := s34 _ _ x3
    have g4' : Gw F H1 F4 := Gw.up .refl (fun a h => Fo.Same.live s3 a h) g4
    have fx4 : F4 x = none := g4.off x (some_ne x3) fx
    refine ⟨.ref x, rfl, x, C, dx, _, rfl, x4, c.cl, c.n3, by show 2 < 1000; decide, ?_⟩
    generalize e5 : upd H4 x (.ins C dx (putF "left" (V.ref D) (putF "writes" v2 (putF "reads" v1 [])))) = H5
    have x5 : H5 x = some (.ins C dx (putF "left" (V.ref D) (putF "writes" v2 (putF "reads" v1 [])))) := by rw [← e5]; exact upd_same
    have s5 : Same H1 H5 := by rw [← e5]; exact same_put (s3.trans s34) nx
    have f5 : Same F4 H5 := by rw [← e5]; exact same_put f4 fx4
    -- self.right
    obtain ⟨a4, xs4, rfl, q4, A4⟩ := dp_list p4
    refine ⟨.ref a4, rfl, a4, rfl, ⟨xs4, (sD.trans s5).seq q4⟩, fun D2 nD2 => ?_⟩
    refine lc_list (K := K) (a := a4) (xs := xs4) (fun i H4 => Cp K F4 H5 D2 rs i H4) (Cp.start f5 nD2) (fun i H4 _ ⟨_, _, _, _, s0, _⟩ => ((sD.trans s5).trans s0).seq q4) ?_ ?_
    · intro i y H4 hy cp
      obtain ⟨e, hei, hye⟩ := dps_at A4 hy
      obtain ⟨ds, rfl⟩ := stateRow_list (all_at r3 hei)
      have hat := stateRow_atoms (all_at r3 hei)
      obtain ⟨b, ys, rfl, qy, Ay⟩ := dp_list hye
      have sq : SqL K H4 b ys := by
        obtain ⟨_, _, _, _, s0, _⟩ := cp
        exact ((sD.trans s5).trans s0).seq qy
      exact ⟨rfl, .ref b, rfl, b, ys, rfl, .inl sq, fun l hl => cp.step nD2 (by omega) hei (atoms_at hat Ay) hl rfl⟩
    intro H4 cp
    rw [dps_len A4] at cp
    obtain ⟨F6, g6, f6, s56, P4⟩ := cp.done nD2
    have x6 := s56 _ _ x5
    have g6' : Gw F H1 F6 := g4'.up (fun a h => Fo.Same.live s5 a h) g6
    have fx6 : F6 x = none := g6.off x (some_ne x5) fx4
    refine ⟨.ref x, rfl, x, C, dx, _, rfl, x6, c.cl, c.n4, by show 3 < 1000; decide, ?_⟩
    generalize e7 : upd H4 x (.ins C dx (putF "right" (V.ref D2) (putF "left" (V.ref D) (putF "writes" v2 (putF "reads" v1 []))))) = H7
    have x7 : H7 x = some (.ins C dx (putF "right" (V.ref D2) (putF "left" (V.ref D) (putF "writes" v2 (putF "reads" v1 []))))) := by rw [← e7]; exact upd_same
    have s7 : Same H1 H7 := by rw [← e7]; exact same_put (s5.trans s56) nx
    have f7 : Same F6 H7 := by rw [← e7]; exact same_put f6 fx6
    -- self.table
    obtain ⟨a5, xs5, rfl, q5, A5⟩ := dp_list p5
    refine ⟨.ref a5, rfl, a5, rfl, ⟨xs5, (sD.trans s7).seq q5⟩, fun D3 nD3 => ?_⟩
    refine lc_list (K := K) (a := a5) (xs := xs5) (fun i H4 => Cp K F6 H7 D3 ts i H4) (Cp.start f7 nD3) (fun i H4 _ ⟨_, _, _, _, s0, _⟩ => ((sD.trans s7).trans s0).seq q5) ?_ ?_
    · intro i y H4 hy cp
      obtain ⟨e, hei, hye⟩ := dps_at A5 hy
      obtain ⟨ds, rfl⟩ := tableRow_list (all_at t3 hei)
      have hat := tableRow_atoms (all_at t3 hei)
      obtain ⟨b, ys, rfl, qy, Ay⟩ := dp_list hye
      have sq : SqL K H4 b ys := by
        obtain ⟨_, _, _, _, s0, _⟩ := cp
        exact ((sD.trans s7).trans s0).seq qy
      exact ⟨rfl, .ref b, rfl, b, ys, rfl, .inl sq, fun l hl => cp.step nD3 (by omega) hei (atoms_at hat Ay) hl rfl⟩
    intro H4 cp
    rw [dps_len A5] at cp
    obtain ⟨F8, g8, f8, s78, P5⟩ := cp.done nD3
    have x8 := s78 _ _ x7
    have g8' : Gw F H1 F8 := g6'.up (fun a h => Fo.Same.live s7 a h) g8
    have fx8 : F8 x = none := g8.off x (some_ne x7) fx6
    refine ⟨.ref x, rfl, x, C, dx, _, rfl, x8, c.cl, c.n5, by show 4 < 1000; decide, ?_⟩
    have sl : Same F8 (upd F8 x (.ins C dx (putF "table" (V.ref D3) (putF "right" (V.ref D2) (putF "left" (V.ref D) (putF "writes" v2 (putF "reads" v1 []))))))) := same_new fx8
    refine q _ (upd F8 x (.ins C dx (putF "table" (V.ref D3) (putF "right" (V.ref D2) (putF "left" (V.ref D) (putF "writes" v2 (putF "reads" v1 []))))))) (same_put (s7.trans s78) nx) (g8'.put nx fx8) ?_
      ⟨C, dx, _, v1, v2, .ref D, .ref D2, .ref D3, upd_same, c, rfl, rfl, rfl, rfl, rfl, (by rw [dp_str p1]; exact .str _), (by rw [dp_str p2]; exact .str _), dp_mono (g6.same.trans (g8.same.trans sl)) P3, dp_mono (g8.same.trans sl) P4, dp_mono sl P5⟩ ⟨_, upd_same⟩
    intro b u e
    by_cases z : b = x
    · subst z
      rw [upd_same] at e
      rw [upd_same]
      exact e
    · rw [upd_ne z] at e
      rw [upd_ne z]
      exact f8 b u e
end
end Fo
namespace Fo
open PySem PySem.Spec PyProof.Rows L2 TL
section
variable {P : Program} {w : World} {K : PySem.W.Frag} {mg : Str → Option Value} {base : Heap}
def sp_form (K : PySem.W.Frag) : Sp := fun vs H Q _ => ∃ (x : Addr) (m : Mch), vs = [.ref x] ∧ MAt K H x m ∧ Wf m ∧ ∀ p H', Same H H' → Dp K H' (.ref p) (formD m) → Q (.ref p) H'
theorem ok_form (T : Tx P K mg) : FnOk P w K mg base CX0 1 T.a_form T.e_form ["machine"] (sp_form K) := by
  refine T.d_form.F.ok sc_form (fun vs H Q E h => ?_) (fun cdv A outer s H vs Q E hr h => ?_)
  · obtain ⟨x, m, rfl, _⟩ := h
    rfl
  · obtain ⟨x, m, rfl, M, W, q⟩ := h
    refine ⟨_, (pss_cons (ps_set (i := 1) sc_form.nd rfl (.inl rfl) (pe_callTy (kTup (K := K) rfl) (by rfl) T.n_tuple (by decide +kernel) (pa_cons (pe_lc (own := [("row", 4)]) (g := gName 4) (tt := tYes) rfl sc_form.nd (kLi (K := K) rfl (pi_list (kFl (K := K) rfl (pe_fld (pv 0) rfl)))) (blkOk_by (N := ["machine", "left", "right", "table", "row"]) (sc := defScope s_form) (by decide +kernel)) (fun _ _ _ _ _ => (pg_name (i := 4) sc_form.nd rfl (Or.inl rfl))) (fun _ _ _ _ _ => pts_nil) (fun _ _ _ _ _ => (by exact (pe_callTy (kTup (K := K) rfl) (by rfl) T.n_tuple (by decide +kernel) (pa_cons (pv 4) pa_nil))))) pa_nil)))
  (pss_cons (ps_set (i := 2) sc_form.nd rfl (.inl rfl) (pe_callTy (kTup (K := K) rfl) (by rfl) T.n_tuple (by decide +kernel) (pa_cons (pe_lc (own := [("row", 4)]) (g := gName 4) (tt := tYes) rfl sc_form.nd (kLi (K := K) rfl (pi_list (kFl (K := K) rfl (pe_fld (pv 0) rfl)))) (blkOk_by (N := ["machine", "left", "right", "table", "row"]) (sc := defScope s_form) (by decide +kernel)) (fun _ _ _ _ _ => (pg_name (i := 4) sc_form.nd rfl (Or.inl rfl))) (fun _ _ _ _ _ => pts_nil) (fun _ _ _ _ _ => (by exact (pe_callTy (kTup (K := K) rfl) (by rfl) T.n_tuple (by decide +kernel) (pa_cons (pv 4) pa_nil))))) pa_nil)))
  (pss_cons (ps_set (i := 3) sc_form.nd rfl (.inl rfl) (pe_callTy (kTup (K := K) rfl) (by rfl) T.n_tuple (by decide +kernel) (pa_cons (pe_lc (own := [("row", 4)]) (g := gName 4) (tt := tYes) rfl sc_form.nd (kLi (K := K) rfl (pi_list (kFl (K := K) rfl (pe_fld (pv 0) rfl)))) (blkOk_by (N := ["machine", "left", "right", "table", "row"]) (sc := defScope s_form) (by decide +kernel)) (fun _ _ _ _ _ => (pg_name (i := 4) sc_form.nd rfl (Or.inl rfl))) (fun _ _ _ _ _ => pts_nil) (fun _ _ _ _ _ => (by exact (pe_callTy (kTup (K := K) rfl) (by rfl) T.n_tuple (by decide +kernel) (pa_cons (pv 4) pa_nil))))) pa_nil)))
  (pss_one (ps_ret (pe_tup (pa_cons (kFl (K := K) rfl (pe_fld (pv 0) rfl)) (pa_cons (kFl (K := K) rfl (pe_fld (pv 0) rfl)) (pa_cons (pv 1) (pa_cons (pv 2) (pa_cons (pv 3) pa_nil))))))))))), ?_⟩
    obtain ⟨C, dx, fs, v3, v4, v5, f⟩ := mat_fld M
    have w1 := W.left.most
    have w2 := W.right.most
    have w3 := W.tab
    -- left
    obtain ⟨a3, xs3, rfl, q3, A3⟩ := dp_list f.p3
    refine ⟨.ref x, rfl, x, C, dx, fs, _, rfl, f.at', f.c.cl, f.c.n3, f.l3, a3, rfl, ⟨xs3, q3⟩, fun D nD => ?_⟩
    refine lc_list (K := K) (a := a3) (xs := xs3) (fun i H4 => Cp K H H D (m.left.map tupI) i H4) (Cp.start (Same.refl H) nD) (fun i H4 _ ⟨_, _, g, s4, _⟩ => (g.same.trans s4).seq q3) ?_ ?_
    · intro i y H4 hy cp
      obtain ⟨e, hei, hye⟩ := dps_at A3 hy
      obtain ⟨r, hr, rfl⟩ := map_get hei
      obtain ⟨b, ys, rfl, qy, Ay⟩ := dp_list hye
      have sq : SqL K H4 b ys := by
        obtain ⟨_, _, g, s4, _⟩ := cp
        exact (g.same.trans s4).seq qy
      exact ⟨rfl, .ref b, rfl, b, ys, rfl, .inl ⟨sq, fun l hl => cp.tup nD (by rw [List.length_map]; omega) (map_at' hr) Ay hl⟩⟩
    intro H4 cp
    rw [dps_len A3, List.length_map, ← List.length_map (f := tupI)] at cp
    obtain ⟨F4, g4, f4, s4, P3⟩ := cp.done nD
    obtain ⟨ts3, t3, u3⟩ := tupled P3 f4
    refine ⟨D, ts3, rfl, .inl ⟨t3, fun p3 np3 => ?_⟩⟩
    have d3 := u3 p3 np3
    have s5 : Same H (upd H4 p3 (.tup ts3)) := same_put s4 (s4.free np3)
    generalize upd H4 p3 (.tup ts3) = H5 at d3 s5
    have f5 := f.mono s5
    -- right
    obtain ⟨a4, xs4, e4, q4, A4⟩ := dp_list f.p4
    subst e4
    refine ⟨.ref x, rfl, x, C, dx, fs, _, rfl, f5.at', f5.c.cl, f5.c.n4, f5.l4, a4, rfl, ⟨xs4, s5.seq q4⟩, fun D2 nD2 => ?_⟩
    refine lc_list (K := K) (a := a4) (xs := xs4) (fun i H6 => Cp K H5 H5 D2 (m.right.map tupI) i H6) (Cp.start (Same.refl H5) nD2) (fun i H6 _ ⟨_, _, g, s6, _⟩ => (s5.trans (g.same.trans s6)).seq q4) ?_ ?_
    · intro i y H6 hy cp
      obtain ⟨e, hei, hye⟩ := dps_at A4 hy
      obtain ⟨r, hr, rfl⟩ := map_get hei
      obtain ⟨b, ys, rfl, qy, Ay⟩ := dp_list hye
      have sq : SqL K H6 b ys := by
        obtain ⟨_, _, g, s6, _⟩ := cp
        exact (s5.trans (g.same.trans s6)).seq qy
      exact ⟨rfl, .ref b, rfl, b, ys, rfl, .inl ⟨sq, fun l hl => cp.tup nD2 (by rw [List.length_map]; omega) (map_at' hr) (dps_mono s5 Ay) hl⟩⟩
    intro H6 cp
    rw [dps_len A4, List.length_map, ← List.length_map (f := tupI)] at cp
    obtain ⟨F6, g6, f6, s6, P4⟩ := cp.done nD2
    obtain ⟨ts4, t4, u4⟩ := tupled P4 f6
    refine ⟨D2, ts4, rfl, .inl ⟨t4, fun p4 np4 => ?_⟩⟩
    have d4 := u4 p4 np4
    have s7 : Same H5 (upd H6 p4 (.tup ts4)) := same_put s6 (s6.free np4)
    generalize upd H6 p4 (.tup ts4) = H7 at d4 s7
    have f7 := f5.mono s7
    have s57 := s5.trans s7
    -- table
    obtain ⟨a5, xs5, e5, q5, A5⟩ := dp_list f.p5
    subst e5
    refine ⟨.ref x, rfl, x, C, dx, fs, _, rfl, f7.at', f7.c.cl, f7.c.n5, f7.l5, a5, rfl, ⟨xs5, s57.seq q5⟩, fun D3 nD3 => ?_⟩
    refine lc_list (K := K) (a := a5) (xs := xs5) (fun i H8 => Cp K H7 H7 D3 (m.table.map tupW) i H8) (Cp.start (Same.refl H7) nD3) (fun i H8 _ ⟨_, _, g, s8, _⟩ => (s57.trans (g.same.trans s8)).seq q5) ?_ ?_
    · intro i y H8 hy cp
      obtain ⟨e, hei, hye⟩ := dps_at A5 hy
      obtain ⟨r, hr, rfl⟩ := map_get hei
      obtain ⟨b, ys, rfl, qy, Ay⟩ := dp_list hye
      have sq : SqL K H8 b ys := by
        obtain ⟨_, _, g, s8, _⟩ := cp
        exact (s57.trans (g.same.trans s8)).seq qy
      exact ⟨rfl, .ref b, rfl, b, ys, rfl, .inl ⟨sq, fun l hl => cp.tup nD3 (by rw [List.length_map]; omega) (map_at' hr) (dps_mono s57 Ay) hl⟩⟩
    intro H8 cp
    rw [dps_len A5, List.length_map, ← List.length_map (f := tupW)] at cp
    obtain ⟨F8, g8, f8, s8, P5⟩ := cp.done nD3
    obtain ⟨ts5, t5, u5⟩ := tupled P5 f8
    refine ⟨D3, ts5, rfl, .inl ⟨t5, fun p5 np5 => ?_⟩⟩
    have d5 := u5 p5 np5
    have s9 : Same H7 (upd H8 p5 (.tup ts5)) := same_put s8 (s8.free np5)
    generalize upd H8 p5 (.tup ts5) = H9 at d5 s9
    have f9 := f7.mono s9
    refine ⟨.ref x, rfl, x, C, dx, fs, _, rfl, f9.at', f9.c.cl, f9.c.n1, f9.l1, .ref x, rfl, x, C, dx, fs, _, rfl, f9.at', f9.c.cl, f9.c.n2, f9.l2, .ref p3, rfl, .ref p4, rfl, .ref p5, rfl, by show 5 ≤ sizeLine; decide, fun p np => ?_⟩
    have sp := same_new (o := .tup [.str (S m.ins), .str (S m.outs), .ref p3, .ref p4, .ref p5]) np
    exact q p _ (s57.trans (s9.trans sp)) (.tup (SqT.of upd_same) (.cons (.str _) (.cons (.str _) (.cons (dp_mono (s7.trans (s9.trans sp)) d3) (.cons (dp_mono (s9.trans sp) d4) (.cons (dp_mono sp d5) .nil))))))
def sp_law_form (K : PySem.W.Frag) : Sp := fun vs H Q _ => ∃ (v : V) (m : Mch), vs = [v] ∧ Dp K H v (lmD m) ∧ Wf m ∧ ∀ p H', Same H H' → Dp K H' (.ref p) (formD m) → Q (.ref p) H'
theorem ok_law_form (T : Tx P K mg) : FnOk P w K mg base CX0 1 T.a_law_form T.e_law_form ["m"] (sp_law_form K) := by
  refine T.d_law_form.F.ok sc_law_form (fun vs H Q E h => ?_) (fun cdv A outer s H vs Q E hr h => ?_)
  · obtain ⟨x, m, rfl, _⟩ := h
    rfl
  · obtain ⟨v, m, rfl, dm, W, q⟩ := h
    refine ⟨_, (pss_cons (ps_set (i := 1) sc_law_form.nd rfl (.inl rfl) (pe_callTy (kTup (K := K) rfl) (by rfl) T.n_tuple (by decide +kernel) (pa_cons (pe_lc (own := [("row", 3)]) (g := gName 3) (tt := tYes) rfl sc_law_form.nd (kLi (K := K) rfl (pi_list (pe_ix (kIxL (K := K) rfl) (pv 0) pe_int (fun _ _ => rfl)))) (blkOk_by (N := ["m", "left", "right", "row"]) (sc := defScope s_law_form) (by decide +kernel)) (fun _ _ _ _ _ => (pg_name (i := 3) sc_law_form.nd rfl (Or.inl rfl))) (fun _ _ _ _ _ => pts_nil) (fun _ _ _ _ _ => (by exact (pe_callTy (kTup (K := K) rfl) (by rfl) T.n_tuple (by decide +kernel) (pa_cons (pv 3) pa_nil))))) pa_nil)))
  (pss_cons (ps_set (i := 2) sc_law_form.nd rfl (.inl rfl) (pe_callTy (kTup (K := K) rfl) (by rfl) T.n_tuple (by decide +kernel) (pa_cons (pe_lc (own := [("row", 3)]) (g := gName 3) (tt := tYes) rfl sc_law_form.nd (kLi (K := K) rfl (pi_list (pe_ix (kIxL (K := K) rfl) (pv 0) pe_int (fun _ _ => rfl)))) (blkOk_by (N := ["m", "left", "right", "row"]) (sc := defScope s_law_form) (by decide +kernel)) (fun _ _ _ _ _ => (pg_name (i := 3) sc_law_form.nd rfl (Or.inl rfl))) (fun _ _ _ _ _ => pts_nil) (fun _ _ _ _ _ => (by exact (pe_callTy (kTup (K := K) rfl) (by rfl) T.n_tuple (by decide +kernel) (pa_cons (pv 3) pa_nil))))) pa_nil)))
  (pss_one (ps_ret (pe_tup (pa_cons (pe_ix (kIxL (K := K) rfl) (pv 0) pe_int (fun _ _ => rfl)) (pa_cons (pe_ix (kIxL (K := K) rfl) (pv 0) pe_int (fun _ _ => rfl)) (pa_cons (pv 1) (pa_cons (pv 2) (pa_cons (pe_callTy (kTup (K := K) rfl) (by rfl) T.n_tuple (by decide +kernel) (pa_cons (pe_lc (own := [("row", 3)]) (g := gName 3) (tt := tYes) rfl sc_law_form.nd (kLi (K := K) rfl (pi_list (pe_ix (kIxL (K := K) rfl) (pv 0) pe_int (fun _ _ => rfl)))) (blkOk_by (N := ["m", "left", "right", "row"]) (sc := defScope s_law_form) (by decide +kernel)) (fun _ _ _ _ _ => (pg_name (i := 3) sc_law_form.nd rfl (Or.inl rfl))) (fun _ _ _ _ _ => pts_nil) (fun _ _ _ _ _ => (by exact (pe_callTy (kTup (K := K) rfl) (by rfl) T.n_tuple (by decide +kernel) (pa_cons (pv 3) pa_nil))))) pa_nil)) pa_nil)))))))))), ?_⟩
    obtain ⟨a, v3, v4, v5, rfl, qa, p3, p4, p5⟩ := lm_dp dm
    have w1 := W.left.most
    have w2 := W.right.most
    have w3 := W.tab
    -- left
    obtain ⟨a3, xs3, rfl, q3, A3⟩ := dp_list p3
    refine ⟨.ref a, rfl, a, _, 2, _, rfl, rfl, qa, at_nat (i := 2) rfl, a3, rfl, ⟨xs3, q3⟩, fun D nD => ?_⟩
    refine lc_list (K := K) (a := a3) (xs := xs3) (fun i H4 => Cp K H H D (m.left.map tupI) i H4) (Cp.start (Same.refl H) nD) (fun i H4 _ ⟨_, _, g, s4, _⟩ => (g.same.trans s4).seq q3) ?_ ?_
    · intro i y H4 hy cp
      obtain ⟨e, hei, hye⟩ := dps_at A3 hy
      obtain ⟨r, hr, rfl⟩ := map_get hei
      obtain ⟨b, ys, rfl, qy, Ay⟩ := dp_list hye
      have sq : SqL K H4 b ys := by
        obtain ⟨_, _, g, s4, _⟩ := cp
        exact (g.same.trans s4).seq qy
      exact ⟨rfl, .ref b, rfl, b, ys, rfl, .inl ⟨sq, fun l hl => cp.tup nD (by rw [List.length_map]; omega) (map_at' hr) Ay hl⟩⟩
    intro H4 cp
    rw [dps_len A3, List.length_map, ← List.length_map (f := tupI)] at cp
    obtain ⟨F4, g4, f4, s4, P3⟩ := cp.done nD
    obtain ⟨ts3, t3, u3⟩ := tupled P3 f4
    refine ⟨D, ts3, rfl, .inl ⟨t3, fun p3 np3 => ?_⟩⟩
    have d3 := u3 p3 np3
    have s5 : Same H (upd H4 p3 (.tup ts3)) := same_put s4 (s4.free np3)
    generalize upd H4 p3 (.tup ts3) = H5 at d3 s5
    -- right
    obtain ⟨a4, xs4, rfl, q4, A4⟩ := dp_list p4
    refine ⟨.ref a, rfl, a, _, 3, _, rfl, rfl, s5.seq qa, at_nat (i := 3) rfl, a4, rfl, ⟨xs4, s5.seq q4⟩, fun D2 nD2 => ?_⟩
    refine lc_list (K := K) (a := a4) (xs := xs4) (fun i H6 => Cp K H5 H5 D2 (m.right.map tupI) i H6) (Cp.start (Same.refl H5) nD2) (fun i H6 _ ⟨_, _, g, s6, _⟩ => (s5.trans (g.same.trans s6)).seq q4) ?_ ?_
    · intro i y H6 hy cp
      obtain ⟨e, hei, hye⟩ := dps_at A4 hy
      obtain ⟨r, hr, rfl⟩ := map_get hei
      obtain ⟨b, ys, rfl, qy, Ay⟩ := dp_list hye
      have sq : SqL K H6 b ys := by
        obtain ⟨_, _, g, s6, _⟩ := cp
        exact (s5.trans (g.same.trans s6)).seq qy
      exact ⟨rfl, .ref b, rfl, b, ys, rfl, .inl ⟨sq, fun l hl => cp.tup nD2 (by rw [List.length_map]; omega) (map_at' hr) (dps_mono s5 Ay) hl⟩⟩
    intro H6 cp
    rw [dps_len A4, List.length_map, ← List.length_map (f := tupI)] at cp
    obtain ⟨F6, g6, f6, s6, P4⟩ := cp.done nD2
    obtain ⟨ts4, t4, u4⟩ := tupled P4 f6
    refine ⟨D2, ts4, rfl, .inl ⟨t4, fun p4 np4 => ?_⟩⟩
    have d4 := u4 p4 np4
    have s7 : Same H5 (upd H6 p4 (.tup ts4)) := same_put s6 (s6.free np4)
    generalize upd H6 p4 (.tup ts4) = H7 at d4 s7
    have s57 := s5.trans s7
    -- table
    obtain ⟨a5, xs5, rfl, q5, A5⟩ := dp_list p5
    refine ⟨.ref a, rfl, a, _, 0, _, rfl, rfl, s57.seq qa, at_nat (i := 0) rfl, .ref a, rfl, a, _, 1, _, rfl, rfl, s57.seq qa, at_nat (i := 1) rfl, .ref p3, rfl, .ref p4, rfl, .ref a, rfl, a, _, 4, _, rfl, rfl, s57.seq qa, at_nat (i := 4) rfl, a5, rfl, ⟨xs5, s57.seq q5⟩, fun D3 nD3 => ?_⟩
    refine lc_list (K := K) (a := a5) (xs := xs5) (fun i H8 => Cp K H7 H7 D3 (m.table.map tupW) i H8) (Cp.start (Same.refl H7) nD3) (fun i H8 _ ⟨_, _, g, s8, _⟩ => (s57.trans (g.same.trans s8)).seq q5) ?_ ?_
    · intro i y H8 hy cp
      obtain ⟨e, hei, hye⟩ := dps_at A5 hy
      obtain ⟨r, hr, rfl⟩ := map_get hei
      obtain ⟨b, ys, rfl, qy, Ay⟩ := dp_list hye
      have sq : SqL K H8 b ys := by
        obtain ⟨_, _, g, s8, _⟩ := cp
        exact (s57.trans (g.same.trans s8)).seq qy
      exact ⟨rfl, .ref b, rfl, b, ys, rfl, .inl ⟨sq, fun l hl => cp.tup nD3 (by rw [List.length_map]; omega) (map_at' hr) (dps_mono s57 Ay) hl⟩⟩
    intro H8 cp
    rw [dps_len A5, List.length_map, ← List.length_map (f := tupW)] at cp
    obtain ⟨F8, g8, f8, s8, P5⟩ := cp.done nD3
    obtain ⟨ts5, t5, u5⟩ := tupled P5 f8
    refine ⟨D3, ts5, rfl, .inl ⟨t5, fun p5 np5 => ?_⟩⟩
    have d5 := u5 p5 np5
    have s9 : Same H7 (upd H8 p5 (.tup ts5)) := same_put s8 (s8.free np5)
    generalize upd H8 p5 (.tup ts5) = H9 at d5 s9
    refine ⟨by show 5 ≤ sizeLine; decide, fun p np => ?_⟩
    have sp := same_new (o := .tup [.str (S m.ins), .str (S m.outs), .ref p3, .ref p4, .ref p5]) np
    exact q p _ (s57.trans (s9.trans sp)) (.tup (SqT.of upd_same) (.cons (.str _) (.cons (.str _) (.cons (dp_mono (s7.trans (s9.trans sp)) d3) (.cons (dp_mono (s9.trans sp) d4) (.cons (dp_mono sp d5) .nil))))))
end
end Fo
namespace Fo
open PySem PySem.Spec PyProof.Rows L2 TL
section
variable {P : Program} {w : World} {K : PySem.W.Frag} {mg : Str → Option Value} {base : Heap}
def sp_law_told (K : PySem.W.Frag) : Sp := fun vs H Q _ => ∃ (v : V) (r o : Str) (ls rs ts : List (List PyData)), vs = [v] ∧ Dp K H v (partsD r o ls rs ts) ∧ r.length ≤ 100000 ∧ o.length ≤ 100000 ∧ (∀ t ∈ ts, ∀ e ∈ t, SmallD e) ∧
  machD (.str r) (.str o) (.list (ls.map .list)) (.list (rs.map .list)) (.list (ts.map .list)) = false ∧ ∀ H', Same H H' → Q (.str (Str.ofString "not a machine")) H'
theorem ok_law_told (T : Tx P K mg) : FnOk P w K mg base CX0 7 T.a_law_told T.e_law_told ["parts"] (sp_law_told K) := by
  refine T.d_law_told.F.ok sc_law_told (fun vs H Q E h => ?_) (fun cdv A outer s H vs Q E hr h => ?_)
  · obtain ⟨v, r, o, ls, rs, ts, rfl, _⟩ := h
    rfl
  · obtain ⟨v, r, o, ls, rs, ts, rfl, dm, zr, zo, zt, hm, q⟩ := h
    refine ⟨_, (pss_cons (ps_try_as (i := 1) (tb := _) (ts := _) (Wout := fun _ _ _ _ => False) rfl rfl sc_law_told.nd rfl rfl ⟨rfl, by decide, .inl T.g_MachineError⟩ takes0
  (fun W pn xe tk _ => by exact (pss_one (ps_ret (pe_call (ok_form T) (hr.mono (by decide)) (by rfl) T.d_form.g T.d_form.F.kp T.d_form.b .nil pass0 (pa_cons (pe_makeS T.m_Machine (ok_Machine_init T) (hr.mono (by decide)) (by rfl) T.g_Machine T.b_Machine_init (fun σ => passAt tk σ) (pa_cons (pe_ix (kIxL (K := K) rfl) (pv 0) pe_int (fun _ _ => rfl)) (pa_cons (pe_ix (kIxL (K := K) rfl) (pv 0) pe_int (fun _ _ => rfl)) (pa_cons (pe_ix (kIxL (K := K) rfl) (pv 0) pe_int (fun _ _ => rfl)) (pa_cons (pe_ix (kIxL (K := K) rfl) (pv 0) pe_int (fun _ _ => rfl)) (pa_cons (pe_ix (kIxL (K := K) rfl) (pv 0) pe_int (fun _ _ => rfl)) pa_nil)))))) pa_nil)))))
  (fun a oe cls d pn hz hf => by exact (pss_one (ps_if (PW.pt (pw_and (pt_val (pe_callB (call_isX T.err_MachineError T.isx_MachineError hz hf) (by rfl) T.n_isinstance (by decide +kernel) (pa_cons (pv 1) (pa_cons (pe_glob (v := .ref T.C_ForeaftError) rfl T.g_ForeaftError rfl) pa_nil)))) (pw_and (pt_val (pe_callB (call_isX T.err_MachineError T.isx_MachineError hz hf) (by rfl) T.n_isinstance (by decide +kernel) (pa_cons (pv 1) (pa_cons (pe_bltn (v := .ty "ValueError") (by rfl) T.n_ValueError (by decide +kernel) rfl) pa_nil)))) (pw_and1 (pt_not (pt_val (pe_callB (call_isX T.err_MachineError T.isx_MachineError hz hf) (by rfl) T.n_isinstance (by decide +kernel) (pa_cons (pv 1) (pa_cons (pe_glob (v := .ref T.C_BookError) rfl T.g_BookError rfl) pa_nil)))))))))
  (pss_one (ps_ret (pe_reason T.err_MachineError hz hf (pv 1))))
  pss_nil))))
  (pss_one (ps_ret pe_non))), ?_⟩
    obtain ⟨a, v3, v4, v5, rfl, qa, p3, p4, p5⟩ := parts_dp dm
    have zt' : SmallTab (.list (ts.map .list)) := by
      show ∀ e ∈ ts.map PyData.list, SmallRow e
      intro e he
      obtain ⟨t, ht, rfl⟩ := List.mem_map.mp he
      exact zt t ht
    refine ⟨.ref a, rfl, a, _, 0, _, rfl, rfl, qa, at_nat (i := 0) rfl, .ref a, rfl, a, _, 1, _, rfl, rfl, qa, at_nat (i := 1) rfl, .ref a, rfl, a, _, 2, _, rfl, rfl, qa, at_nat (i := 2) rfl, .ref a, rfl, a, _, 3, _, rfl, rfl, qa, at_nat (i := 3) rfl, .ref a, rfl, a, _, 4, _, rfl, rfl, qa, at_nat (i := 4) rfl, ?_⟩
    intro x dx nx ndx hxd
    refine ⟨x, dx, T.C_Machine, H, H, H, .str r, .str o, v3, v4, v5, .str r, .str o, _, _, _, rfl, rfl, nx, ndx, hxd,
      ⟨T.cl_Machine, T.na_Machine_reads, T.na_Machine_writes, T.na_Machine_left, T.na_Machine_right, T.na_Machine_table⟩, Same.refl H, Same.refl H, .str _, .str _, p3, p4, p5, (fun z e => by cases e; exact zr), (fun z e => by cases e; exact zo), zt',
      fun hm' => absurd (hm'.symm.trans hm) (by decide), fun _ d H7 s7 nd => ?_⟩
    have s8 : Same H (upd (upd H dx (.own x)) x (.ins T.C_Machine dx [])) := same_put (same_new ndx) nx
    refine ⟨true, T.err_MachineError.te, fun _ e0 ne0 => ?_, fun z => Bool.noConfusion z⟩
    refine ⟨.ref e0, rfl, .ref T.C_ForeaftError, .ref T.C_ForeaftError, true, d, _, rfl, rfl, rfl, upd_same, fun u h => by cases h; rfl, T.k_MachineError_ForeaftError, true, rfl, ite2 (fun _ => ?_) (fun h => absurd rfl h)⟩
    refine ⟨.ref e0, rfl, .ty "ValueError", .type "ValueError", true, d, _, rfl, rfl, rfl, upd_same, fun u h => by cases h; rfl, T.k_MachineError_ValueError, true, rfl, ite2 (fun _ => ?_) (fun h => absurd rfl h)⟩
    refine ⟨.ref e0, rfl, .ref T.C_BookError, .ref T.C_BookError, false, d, _, rfl, rfl, rfl, upd_same, fun u h => by cases h; rfl, T.k_MachineError_BookError, false, rfl, ite2 (fun _ => ?_) (fun h => absurd rfl h)⟩
    refine ⟨.ref e0, rfl, rfl, rfl, d, _, rfl, upd_same, ?_⟩
    exact q _ (s8.trans (s7.trans (same_new nd)))
end
end Fo
namespace Fo
open PySem PySem.Spec PyProof.Rows L2 TL
section
variable {P : Program} {w : World} {K : PySem.W.Frag} {mg : Str → Option Value} {base : Heap}
def tenS : Str := Str.ofString "badcezyxwv"
theorem ten_cut : ∀ a, a < 5 → ∀ m, m < 5 → alphaB (tl (cutS tenS (some ((a : Nat) : Int)) (some (((a + (m + 1) : Nat)) : Int)))) = true ∧ (tl (cutS tenS (some ((a : Nat) : Int)) (some (((a + (m + 1) : Nat)) : Int)))).length = m + 1 ∧ 113 ∉ tl (cutS tenS (some ((a : Nat) : Int)) (some (((a + (m + 1) : Nat)) : Int))) := by decide +kernel
def sp_law_alphabet (K : PySem.W.Frag) : Sp := fun vs H Q _ => ∃ (b : Addr) (F : Hp) (m : Nat), vs = [.ref b, .int m] ∧ Bx K b F H ∧ 1 ≤ m ∧ m ≤ 5 ∧
  ∀ (al : List Nat) (H' : Hp), alphaB al = true → al.length = m → 113 ∉ al → Bx K b F H' → Keep b H H' → Q (.str (S al)) H'
theorem ok_law_alphabet (T : Tx P K mg) : FnOk P w K mg base CX0 2 T.a_law_alphabet T.e_law_alphabet ["box", "many"] (sp_law_alphabet K) := by
  refine T.d_law_alphabet.F.ok sc_law_alphabet (fun vs H Q E h => ?_) (fun cdv A outer s H vs Q E hr h => ?_)
  · obtain ⟨b, F, m, rfl, _⟩ := h
    rfl
  · obtain ⟨b, F, m, rfl, B, h1, h5, q⟩ := h
    refine ⟨_, (pss_cons (ps_set (i := 2) sc_law_alphabet.nd rfl (.inl rfl) pe_str)
  (pss_cons (ps_set (i := 3) sc_law_alphabet.nd rfl (.inl rfl) (pe_call (ok_law_draw T) (hr.mono (by decide)) (by rfl) T.d_law_draw.g T.d_law_draw.F.kp T.d_law_draw.b .nil pass0 (pa_cons (pv 0) (pa_cons pe_int pa_nil))))
  (pss_one (ps_ret (pe_slice sl_str (pv 2) (po_some (pv 3)) (po_some (pe_op op_add (pv 3) (pv 1)))))))), ?_⟩
    refine ⟨.ref b, rfl, b, F, 5, rfl, B, by decide, fun z H1 z0 z1 B1 k1 => ?_⟩
    obtain ⟨a, rfl⟩ : ∃ a : Nat, z = a := ⟨z.toNat, by omega⟩
    obtain ⟨n, rfl⟩ : ∃ n : Nat, m = n + 1 := ⟨m - 1, by omega⟩
    obtain ⟨c1, c2, c3⟩ := ten_cut a (by omega) n (by omega)
    refine ⟨_, rfl, .int a, rfl, (a : Int), rfl, _, rfl, _, rfl, _, _, rfl, rfl, (((a + (n + 1) : Nat)) : Int), by rw [Int.natCast_add, Int.natCast_add]; rfl, tenS, rfl, by decide +kernel, ?_⟩
    have e := q _ H1 c1 c2 c3 B1 k1
    rw [S_tl] at e
    exact e
def sp_law_states (K : PySem.W.Frag) : Sp := fun vs H Q _ => ∃ (b : Addr) (F : Hp) (n k : Nat), vs = [.ref b, .int n, .int k] ∧ Bx K b F H ∧ 1 ≤ n ∧ n ≤ 40 ∧ k ≤ 100 ∧
  ∀ (rows : List (List Nat)) (a : Addr) (F' H' : Hp), rows.length = n → Rws rows k → Bd K b F H F' H' → Dp K F' (.ref a) (matI rows) → Q (.ref a) H'
theorem ok_law_states (T : Tx P K mg) : FnOk P w K mg base CX0 2 T.a_law_states T.e_law_states ["box", "many", "letters"] (sp_law_states K) := by
  refine T.d_law_states.F.ok sc_law_states (fun vs H Q E h => ?_) (fun cdv A outer s H vs Q E hr h => ?_)
  · obtain ⟨b, F, n, k, rfl, _⟩ := h
    rfl
  · obtain ⟨b, F, n, k, rfl, B, hn1, hn, hk, q⟩ := h
    refine ⟨_, (pss_one (ps_ret (pe_lc (own := [("i", 3)]) (g := gName 3) (tt := tYes) rfl sc_law_states.nd (pi_range1 (by rfl) T.n_range (pa_cons (pv 1) pa_nil)) (blkOk_by (N := ["box", "many", "letters", "i", "k"]) (sc := defScope s_law_states) (by decide +kernel)) (fun _ _ _ _ _ => (pg_name (i := 3) sc_law_states.nd rfl (Or.inl rfl))) (fun _ _ _ _ _ => pts_nil) (fun _ _ _ _ _ => (by exact (pe_lc (own := [("k", 4)]) (g := gName 4) (tt := tYes) rfl sc_law_states.nd (pi_range1 (by rfl) T.n_range (pa_cons (pv 2) pa_nil)) (blkOk_by (by kernel_rfl)) (fun _ _ _ _ _ => (pg_name (i := 4) sc_law_states.nd rfl (Or.inl rfl))) (fun _ _ _ _ _ => pts_nil) (fun _ _ _ _ _ => (by exact (pe_call (ok_law_draw T) (hr.mono (by decide)) (by rfl) T.d_law_draw.g T.d_law_draw.F.kp T.d_law_draw.b .nil pass0 (pa_cons (pv 0) (pa_cons (pv 1) pa_nil))))))))))), ?_⟩
    refine ⟨.int n, rfl, (n : Int), rfl, by omega, by omega, fun D nD => ?_⟩
    obtain ⟨fD, bD⟩ := B.free nD
    refine lc_range (lo := 0) (n := (n : Int).toNat) (fun i H2 => ∃ (F2 : Hp) (rows : List (List Nat)) (ws : List V), Bd K b F H F2 H2 ∧ F2 D = none ∧ H2 D = some (.lst ws) ∧ DpAll K F2 ws (rows.map natsD) ∧ rows.length = i ∧ ∀ r ∈ rows, r.length = k ∧ ∀ s ∈ r, s < n)
      ⟨F, [], [], (Bd.refl B).put nD fD bD, fD, upd_same, .nil, rfl, by simp⟩ ?_ ?_
    · rintro i H2 hi ⟨F2, rows, ws, d2, f2, e2, dw, hl, hrw⟩
      refine ⟨rfl, .int k, rfl, (k : Int), rfl, by omega, by omega, fun D2 nD2 => ?_⟩
      obtain ⟨n0, fD2, bD2⟩ := d2.new nD2
      have hDD : D ≠ D2 := ne_of_none e2 nD2
      refine lc_range (lo := 0) (n := (k : Int).toNat) (fun j H3 => ∃ r : List Nat, Bd K b F2 H2 F2 H3 ∧ H3 D2 = some (.lst (intsV r)) ∧ r.length = j ∧ ∀ s ∈ r, s < n)
        ⟨[], (Bd.refl d2.bx).put nD2 fD2 bD2, upd_same, rfl, by simp⟩ ?_ ?_
      · rintro j H3 hj ⟨r, d3, e3, hr3, hs⟩
        refine ⟨rfl, .ref b, rfl, .int n, rfl, b, F2, (n : Int), rfl, d3.bx, by omega, fun z H4 z0 z1 B4 k4 => ?_⟩
        obtain ⟨y, rfl⟩ : ∃ y : Nat, z = y := ⟨z.toNat, by omega⟩
        refine ⟨_, k4 D2 _ bD2.symm e3, ?_, r ++ [y], (d3.draw B4 k4).put nD2 fD2 bD2, ?_, ?_, ?_⟩
        · rw [intsV_len]
          exact lim5 (by omega)
        · rw [upd_same, intsV_add]
        · rw [List.length_append, hr3]
          rfl
        · intro s hm
          rcases List.mem_append.mp hm with hm | hm
          · exact hs s hm
          · rw [List.mem_singleton.mp hm]
            omega
      · rintro H3 ⟨r, d3, e3, hr3, hs⟩
        have d4 := (d2.trans d3).frz e3 n0 fD2 bD2
        have e5 : H3 D = some (.lst ws) := d3.kp D _ bD.symm e2
        refine ⟨ws, e5, ?_, upd F2 D2 (.lst (intsV r)), rows ++ [r], ws ++ [.ref D2], d4.put nD ?_ bD, ?_, upd_same, ?_, ?_, ?_⟩
        · rw [dps_len dw, List.length_map, hl]
          exact lim5 (by omega)
        · rw [upd_ne hDD]
          exact f2
        · rw [upd_ne hDD]
          exact f2
        · rw [List.map_append]
          exact dps_append (dps_mono (same_new fD2) dw) (.cons (.lst (SqL.of upd_same) (ints_of r)) .nil)
        · rw [List.length_append, hl]
          rfl
        · intro r' hm
          rcases List.mem_append.mp hm with hm | hm
          · exact hrw r' hm
          · rw [List.mem_singleton.mp hm]
            exact ⟨by omega, hs⟩
    · rintro H2 ⟨F2, rows, ws, d2, f2, e2, dw, hl, hrw⟩
      have hl : rows.length = n := by omega
      exact q rows D (upd F2 D (.lst ws)) H2 hl ⟨by omega, by omega, fun r hr => by rw [hl]; exact hrw r hr⟩ (d2.frz e2 nD f2 bD) (.lst (SqL.of upd_same) (dps_mono (same_new f2) dw))
end
end Fo
namespace Fo
open PySem PySem.Spec PyProof.Rows L2 TL
section
variable {P : Program} {w : World} {K : PySem.W.Frag} {mg : Str → Option Value} {base : Heap}
def sp_law_machine (K : PySem.W.Frag) : Sp := fun vs H Q _ => ∃ (b : Addr) (F : Hp) (ins outs : List Nat) (most : Nat), vs = [.ref b, .str (S ins), .str (S outs), .int most] ∧ Bx K b F H ∧ alphaB ins = true ∧ alphaB outs = true ∧ 1 ≤ most ∧ most ≤ 40 ∧
  ∀ (m : Mch) (a : Addr) (F' H' : Hp), m.ins = ins → m.outs = outs → Wf m → m.left.length ≤ most → m.right.length ≤ most → Bd K b F H F' H' → Dp K F' (.ref a) (lmD m) → Q (.ref a) H'
theorem ok_law_machine (T : Tx P K mg) : FnOk P w K mg base CX0 3 T.a_law_machine T.e_law_machine ["box", "ins", "outs", "most"] (sp_law_machine K) := by
  refine T.d_law_machine.F.ok sc_law_machine (fun vs H Q E h => ?_) (fun cdv A outer s H vs Q E hr h => ?_)
  · obtain ⟨b, F, ins, outs, most, rfl, _⟩ := h
    rfl
  · obtain ⟨b, F, ins, outs, most, rfl, B, hi, ho, m1, m40, q⟩ := h
    refine ⟨_, (pss_cons (ps_set (i := 4) sc_law_machine.nd rfl (.inl rfl) (pe_op op_add pe_int (pe_call (ok_law_draw T) (hr.mono (by decide)) (by rfl) T.d_law_draw.g T.d_law_draw.F.kp T.d_law_draw.b .nil pass0 (pa_cons (pv 0) (pa_cons (pv 3) pa_nil)))))
  (pss_cons (ps_set (i := 5) sc_law_machine.nd rfl (.inl rfl) (pe_op op_add pe_int (pe_call (ok_law_draw T) (hr.mono (by decide)) (by rfl) T.d_law_draw.g T.d_law_draw.F.kp T.d_law_draw.b .nil pass0 (pa_cons (pv 0) (pa_cons (pv 3) pa_nil)))))
  (pss_cons (ps_set (i := 6) sc_law_machine.nd rfl (.inl rfl) (pe_call (ok_law_states T) (hr.mono (by decide)) (by rfl) T.d_law_states.g T.d_law_states.F.kp T.d_law_states.b .nil pass0 (pa_cons (pv 0) (pa_cons (pv 4) (pa_cons (pe_callB call_len_str (by rfl) T.n_len PySem.boot_len (pa_cons (pv 1) pa_nil)) pa_nil)))))
  (pss_cons (ps_set (i := 7) sc_law_machine.nd rfl (.inl rfl) (pe_call (ok_law_states T) (hr.mono (by decide)) (by rfl) T.d_law_states.g T.d_law_states.F.kp T.d_law_states.b .nil pass0 (pa_cons (pv 0) (pa_cons (pv 5) (pa_cons (pe_callB call_len_str (by rfl) T.n_len PySem.boot_len (pa_cons (pv 1) pa_nil)) pa_nil)))))
  (pss_cons (ps_set (i := 8) sc_law_machine.nd rfl (.inl rfl) (pe_call (ok_law_draw T) (hr.mono (by decide)) (by rfl) T.d_law_draw.g T.d_law_draw.F.kp T.d_law_draw.b .nil pass0 (pa_cons (pv 0) (pa_cons pe_int pa_nil))))
  (pss_cons (ps_set (i := 9) sc_law_machine.nd rfl (.inl rfl) (pe_lst pa_nil))
  (pss_cons (ps_for PassesOwn.never rfl (pi_range1 (by rfl) T.n_range (pa_cons (pv 4) pa_nil)) (pg_name (i := 10) sc_law_machine.nd rfl (.inl rfl))
  (pss_cons (ps_set (i := 11) sc_law_machine.nd rfl (.inl rfl) (pe_lst pa_nil))
  (pss_cons (ps_for PassesOwn.never rfl (pi_range1 (by rfl) T.n_range (pa_cons (pv 5) pa_nil)) (pg_name (i := 12) sc_law_machine.nd rfl (.inl rfl))
  (pss_cons (ps_set (i := 13) sc_law_machine.nd rfl (.inl rfl) (kBM (K := K) rfl (pe_bm PySem.F.plainAttrs_str PySem.F.slot_str_join PySem.F.type_str_join (kJn (K := K) rfl) pe_str (pa_cons (pe_lc (own := [("letter", 14)]) (g := gName 14) (tt := tYes) rfl sc_law_machine.nd (pi_str (pv 1)) (blkOk_by (N := ["box", "ins", "outs", "most", "lefts", "rights", "left", "right", "bland", "table", "i", "line", "j", "text", "letter", "k"]) (sc := defScope s_law_machine) (by decide +kernel)) (fun _ _ _ _ _ => (pg_name (i := 14) sc_law_machine.nd rfl (Or.inl rfl))) (fun _ _ _ _ _ => pts_nil) (fun _ _ _ _ _ => (by exact (pe_ix ix_str (pv 2) (pe_call (ok_law_draw T) (hr.mono (by decide)) (by rfl) T.d_law_draw.g T.d_law_draw.F.kp T.d_law_draw.b .nil pass0 (pa_cons (pv 0) (pa_cons (pe_callB call_len_str (by rfl) T.n_len PySem.boot_len (pa_cons (pv 2) pa_nil)) pa_nil))) (fun _ _ => rfl))))) pa_nil))))
  (pss_cons (ps_if (PW.pt (pw_and (pt_cmpR op_eq (pv 8) pe_int (nomark _)) (pw_and1 (pt_cmpR op_gt (pe_call (ok_law_draw T) (hr.mono (by decide)) (by rfl) T.d_law_draw.g T.d_law_draw.F.kp T.d_law_draw.b .nil pass0 (pa_cons (pv 0) (pa_cons pe_int pa_nil))) pe_int (nomark _)))))
  (pss_one (ps_set (i := 13) sc_law_machine.nd rfl (.inl rfl) (kBM (K := K) rfl (pe_bm PySem.F.plainAttrs_str PySem.F.slot_str_join PySem.F.type_str_join (kJn (K := K) rfl) pe_str (pa_cons (pe_lc (own := [("k", 15)]) (g := gName 15) (tt := tYes) rfl sc_law_machine.nd (pi_range1 (by rfl) T.n_range (pa_cons (pe_callB call_len_str (by rfl) T.n_len PySem.boot_len (pa_cons (pv 1) pa_nil)) pa_nil)) (blkOk_by (N := ["box", "ins", "outs", "most", "lefts", "rights", "left", "right", "bland", "table", "i", "line", "j", "text", "letter", "k"]) (sc := defScope s_law_machine) (by decide +kernel)) (fun _ _ _ _ _ => (pg_name (i := 15) sc_law_machine.nd rfl (Or.inl rfl))) (fun _ _ _ _ _ => pts_nil) (fun _ _ _ _ _ => (by exact (pe_ix ix_str (pv 2) (pe_op op_mod (pe_callTy call_int1 (by rfl) T.n_int (by decide +kernel) (pa_cons (pv 15) pa_nil)) (pe_callB call_len_str (by rfl) T.n_len PySem.boot_len (pa_cons (pv 2) pa_nil))) (fun _ _ => rfl))))) pa_nil)))))
  pss_nil)
  (pss_one (ps_expr (kBM (K := K) rfl (pe_bm PySem.F.plainAttrs_list PySem.F.slot_list_append PySem.F.type_list_append mt_append (pv 11) (pa_cons (pv 13) pa_nil))))))))
  (pss_one (ps_expr (kBM (K := K) rfl (pe_bm PySem.F.plainAttrs_list PySem.F.slot_list_append PySem.F.type_list_append mt_append (pv 9) (pa_cons (pv 11) pa_nil))))))))
  (pss_one (ps_ret (pe_lst (pa_cons (pv 1) (pa_cons (pv 2) (pa_cons (pv 6) (pa_cons (pv 7) (pa_cons (pv 9) pa_nil))))))))))))))), ?_⟩
    obtain ⟨i1, i5⟩ := alpha_pos hi
    obtain ⟨o1, o5⟩ := alpha_pos ho
    have zi : (S ins).length ≤ sizeLine := by rw [len_S]; exact lim5' (by omega)
    have zo : (S outs).length ≤ sizeLine := by rw [len_S]; exact lim5' (by omega)
    have ei : (((S ins).length : Nat) : Int) = (ins.length : Nat) := by rw [len_S]
    have si : (S ins).cps.size = ins.length := len_S ins
    refine ⟨.ref b, rfl, .int most, rfl, b, F, (most : Int), rfl, B, by omega, fun z H1 z0 z1 B1 k1 => ⟨_, _, rfl, rfl, ?_⟩⟩
    obtain ⟨l0, rfl⟩ : ∃ l0 : Nat, z = l0 := ⟨z.toNat, by omega⟩
    refine ⟨.ref b, rfl, .int most, rfl, b, F, (most : Int), rfl, B1, by omega, fun z H2 y0 y1 B2 k2 => ⟨_, _, rfl, rfl, ?_⟩⟩
    obtain ⟨r0, rfl⟩ : ∃ l0 : Nat, z = l0 := ⟨z.toNat, by omega⟩
    have d2 := ((Bd.refl B).draw B1 k1).draw B2 k2
    refine ⟨.ref b, rfl, .int ((1 + l0 : Nat)), rfl, .str (S ins), rfl, S ins, rfl, zi, b, F, 1 + l0, ins.length, by rw [ei]; rfl, d2.bx, by omega, by omega, by omega, fun lf a1 F3 H3 hlf R1 d3 p1 => ?_⟩
    have d3 := d2.trans d3
    refine ⟨.ref b, rfl, .int ((1 + r0 : Nat)), rfl, .str (S ins), rfl, S ins, rfl, zi, b, F3, 1 + r0, ins.length, by rw [ei]; rfl, d3.bx, by omega, by omega, by omega, fun rg a2 F4 H4 hrg R2 d4 p2 => ?_⟩
    have p1 := dp_mono d4.gw.same p1
    have d4 := d3.trans d4
    refine ⟨.ref b, rfl, b, F4, 3, rfl, d4.bx, by decide, fun bl H5 b0 b1 B5 k5 => ?_⟩
    have d5 := d4.draw B5 k5
    refine ⟨Nat.zero_le _, fun t nt => ?_⟩
    obtain ⟨t0, tF, tb⟩ := d5.new nt
    -- for i in range(lefts)
    refine ⟨.int ((1 + l0 : Nat)), rfl, ((1 + l0 : Nat) : Int), rfl, by omega, by omega, for_range (lo := 0) (n := ((1 + l0 : Nat) : Int).toNat) (fun i σ H6 => ∃ (F6 : Hp) (rows : List (List (List Nat))) (ws : List V) (y10 y11 y12 y13 : Option V),
      σ = [some (.ref b), some (.str (S ins)), some (.str (S outs)), some (.int most), some (.int ((1 + l0 : Nat))), some (.int ((1 + r0 : Nat))), some (.ref a1), some (.ref a2), some (.int bl), some (.ref t), y10, y11, y12, y13, none, none] ∧
      Bd K b F H F6 H6 ∧ Same F4 F6 ∧ F6 t = none ∧ H6 t = some (.lst ws) ∧ DpAll K F6 ws (rows.map rowS) ∧ rows.length = i ∧ ∀ r ∈ rows, r.length = 1 + r0 ∧ ∀ w ∈ r, w.length = ins.length ∧ ∀ c ∈ w, c ∈ outs)
      ⟨F4, [], [], none, none, none, none, rfl, d5.put t0 tF tb, Same.refl F4, tF, upd_same, .nil, rfl, by simp⟩ ?_ ?_⟩
    · rintro i σ H6 hi6 ⟨F6, rows, ws, y10, y11, y12, y13, rfl, d6, s46, f6, e6, dw, hrl, hrw⟩
      refine ⟨Nat.zero_le _, fun ln nl => ?_⟩
      obtain ⟨l00, lF, lb⟩ := d6.new nl
      have htl : t ≠ ln := ne_of_none e6 nl
      refine ⟨.int ((1 + r0 : Nat)), rfl, ((1 + r0 : Nat) : Int), rfl, by omega, by omega, for_range (lo := 0) (n := ((1 + r0 : Nat) : Int).toNat) (fun j σ H7 => ∃ (r : List (List Nat)) (y12 y13 : Option V),
        σ = [some (.ref b), some (.str (S ins)), some (.str (S outs)), some (.int most), some (.int ((1 + l0 : Nat))), some (.int ((1 + r0 : Nat))), some (.ref a1), some (.ref a2), some (.int bl), some (.ref t), some (.int (0 + i)), some (.ref ln), y12, y13, none, none] ∧
        Bd K b F6 H6 F6 H7 ∧ H7 ln = some (.lst ((r.map S).map V.str)) ∧ r.length = j ∧ ∀ w ∈ r, w.length = ins.length ∧ ∀ c ∈ w, c ∈ outs)
        ⟨[], y12, y13, rfl, (Bd.refl d6.bx).put nl lF lb, upd_same, rfl, by simp⟩ ?_ ?_⟩
      · rintro j σ H7 hj ⟨r, y12, y13, rfl, d7, e7, hr7, hw7⟩
        have lz : ((r.map S).map V.str).length < sizeLine := by
          rw [List.length_map, List.length_map]
          exact lim5 (by omega)
        have add : ∀ {wd : List Nat} {H8 : Hp}, Bd K b F6 H6 F6 H8 → H8 ln = some (.lst ((r.map S).map V.str)) → wd.length = ins.length → (∀ c ∈ wd, c ∈ outs) → Bd K b F6 H6 F6 (upd H8 ln (.lst ((r.map S).map V.str ++ [.str (S wd)]))) ∧
          upd H8 ln (.lst ((r.map S).map V.str ++ [.str (S wd)])) ln = some (.lst (((r ++ [wd]).map S).map V.str)) ∧ (r ++ [wd]).length = j + 1 ∧ ∀ w ∈ r ++ [wd], w.length = ins.length ∧ ∀ c ∈ w, c ∈ outs := by
          intro wd H8 d8 e8 h1 h2
          refine ⟨d8.put nl lF lb, ?_, ?_, fun w hw => ?_⟩
          · rw [upd_same, List.map_append, List.map_append]
            rfl
          · rw [List.length_append, hr7]
            rfl
          · rcases List.mem_append.mp hw with hw | hw
            · exact hw7 w hw
            · rw [List.mem_singleton.mp hw]
              exact ⟨h1, h2⟩
        refine ⟨rfl, .str (S ins), rfl, S ins, rfl, fun D nD => ?_⟩
        obtain ⟨D0, DF, Db⟩ := d7.new nD
        refine lc_str (z := S ins) (fun k H8 => ∃ wd : List Nat, Bd K b F6 H7 F6 H8 ∧ H8 D = some (.lst (ones wd)) ∧ (∀ c ∈ wd, c ∈ outs) ∧ wd.length = k) ⟨[], (Bd.refl d7.bx).put nD DF Db, upd_same, by simp, rfl⟩ ?_ ?_
        · rintro k H8 hk ⟨wd, d8, e8, hc, hl⟩
          refine ⟨rfl, .str (S outs), rfl, .ref b, rfl, .str (S outs), rfl, S outs, rfl, zo, b, F6, _, rfl, d8.bx, by rw [len_S]; omega, fun y H9 y0 y1 B9 k9 => ?_⟩
          rw [len_S] at y1
          have hy : y.toNat < outs.length := by omega
          refine ⟨S outs, y, outs.getD y.toNat 0, rfl, rfl, zo, at_int y0 (getD_at hy), ones wd, k9 D _ Db.symm e8, ?_, wd ++ [outs.getD y.toNat 0], (d8.draw B9 k9).put nD DF Db, ?_, ?_, ?_⟩
          · rw [ones_len]
            exact lim5 (by rw [si] at hk; omega)
          · rw [upd_same, ← ones_add]
          · intro c hm
            rcases List.mem_append.mp hm with hm | hm
            · exact hc c hm
            · rw [List.mem_singleton.mp hm]
              exact getD_mem hy
          · rw [List.length_append, hl]
            rfl
        rintro H8 ⟨wd, d8, e8, hc, hl⟩
        rw [si] at hl
        have e8l := d8.kp ln _ lb.symm e7
        refine ⟨_, D, wd.map fun c => S [c], rfl, rfl, .inl (SqL.of e8), join_sz (by omega), ?_⟩
        rw [join_signs]
        have d78 := d7.trans d8
        refine ⟨.int bl, rfl, rfl, _, rfl, ite2 (fun hb => ?_) (fun hb => ?_)⟩
        · refine ⟨.ref b, rfl, b, F6, 4, rfl, d78.bx, by decide, fun z H9 z0 z1 B9 k9 => ⟨_, _, rfl, rfl, _, rfl, ?_⟩⟩
          have d9 := d78.draw B9 k9
          have e9l := k9 ln _ lb.symm e8l
          refine ite2 (fun hz => ?_) (fun hz => ?_)
          · refine ⟨rfl, .str (S ins), rfl, S ins, rfl, zi, _, rfl, by omega, by rw [len_S]; omega, fun D2 nD2 => ?_⟩
            obtain ⟨D20, D2F, D2b⟩ := d9.new nD2
            refine lc_range (lo := 0) (n := (((S ins).length : Nat) : Int).toNat) (fun k H8 => ∃ wd : List Nat, Bd K b F6 H9 F6 H8 ∧ H8 D2 = some (.lst (ones wd)) ∧ (∀ c ∈ wd, c ∈ outs) ∧ wd.length = k) ⟨[], (Bd.refl d9.bx).put nD2 D2F D2b, upd_same, by simp, rfl⟩ ?_ ?_
            · rintro k H10 hk ⟨wd, d10, e10, hc, hl⟩
              rw [len_S] at hk
              have hk : k < ins.length := by omega
              refine ⟨rfl, .str (S outs), rfl, .int (0 + k), rfl, .inl ⟨_, rfl, .str (S outs), rfl, S outs, rfl, zo, _, _, rfl, rfl, by rw [len_S]; omega, S outs, _, outs.getD (k % outs.length) 0, rfl, rfl, zo, ?_, ones wd, e10, ?_, wd ++ [outs.getD (k % outs.length) 0], d10.put nD2 D2F D2b, ?_, ?_, ?_⟩⟩
              · have e : ((0 : Int) + (k : Nat)) % (((S outs).length : Nat) : Int) = ((k % outs.length : Nat) : Int) := by rw [len_S, Int.zero_add, Int.natCast_emod]
                rw [e]
                exact at_nat (getD_at (Nat.mod_lt _ (by omega)))
              · rw [ones_len]
                exact lim5 (by omega)
              · rw [upd_same, ← ones_add]
              · intro c hm
                rcases List.mem_append.mp hm with hm | hm
                · exact hc c hm
                · rw [List.mem_singleton.mp hm]
                  exact getD_mem (Nat.mod_lt _ (by omega))
              · rw [List.length_append, hl]
                rfl
            rintro H10 ⟨wd2, d10, e10, hc2, hl2⟩
            rw [len_S] at hl2
            have hl2 : wd2.length = ins.length := by omega
            have e10l := d10.kp ln _ lb.symm e9l
            refine ⟨_, D2, wd2.map fun c => S [c], rfl, rfl, .inl (SqL.of e10), join_sz (by omega), ?_⟩
            rw [join_signs]
            obtain ⟨x1, x2, x3, x4⟩ := add (d9.trans d10) e10l hl2 hc2
            exact ⟨.ref ln, rfl, .inl ⟨rfl, _, SqL.of e10l⟩, .str (S wd2), rfl, ln, _, _, rfl, rfl, e10l, lz, r ++ [wd2], _, _, rfl, x1, x2, x3, x4⟩
          · obtain ⟨x1, x2, x3, x4⟩ := add d9 e9l hl hc
            exact ⟨.ref ln, rfl, .inl ⟨rfl, _, SqL.of e9l⟩, .str (S wd), rfl, ln, _, _, rfl, rfl, e9l, lz, r ++ [wd], _, _, rfl, x1, x2, x3, x4⟩
        · obtain ⟨x1, x2, x3, x4⟩ := add d78 e8l hl hc
          exact ⟨.ref ln, rfl, .inl ⟨rfl, _, SqL.of e8l⟩, .str (S wd), rfl, ln, _, _, rfl, rfl, e8l, lz, r ++ [wd], _, _, rfl, x1, x2, x3, x4⟩
      · rintro σ H7 ⟨r, y12, y13, rfl, d7, e7, hr7, hw7⟩
        have hr7 : r.length = 1 + r0 := by omega
        have e7t := d7.kp t _ tb.symm e6
        have d8 := (d6.trans d7).frz e7 l00 lF lb
        refine ⟨.ref t, rfl, .inl ⟨rfl, _, SqL.of e7t⟩, .ref ln, rfl, t, ws, _, rfl, rfl, e7t, ?_, upd F6 ln (.lst ((r.map S).map V.str)), rows ++ [r], ws ++ [.ref ln], _, _, _, _, rfl, d8.put t0 ?_ tb, s46.trans (same_new lF), ?_, upd_same, ?_, ?_, ?_⟩
        · rw [dps_len dw, List.length_map, hrl]
          exact lim5 (by omega)
        · rw [upd_ne htl]
          exact f6
        · rw [upd_ne htl]
          exact f6
        · rw [List.map_append]
          exact dps_append (dps_mono (same_new lF) dw) (.cons (.lst (SqL.of upd_same) (dps_strs _)) .nil)
        · rw [List.length_append, hrl]
          rfl
        · intro r' hm
          rcases List.mem_append.mp hm with hm | hm
          · exact hrw r' hm
          · rw [List.mem_singleton.mp hm]
            exact ⟨hr7, hw7⟩
    · rintro σ H6 ⟨F6, rows, ws, y10, y11, y12, y13, rfl, d6, s46, f6, e6, dw, hrl, hrw⟩
      have hrl : rows.length = 1 + l0 := by omega
      have d7 := d6.frz e6 t0 f6 tb
      have s67 : Same F6 (upd F6 t (.lst ws)) := same_new f6
      refine ⟨.str (S ins), rfl, .str (S outs), rfl, .ref a1, rfl, .ref a2, rfl, .ref t, rfl, by show 5 ≤ sizeLine; decide, fun p np => ?_⟩
      obtain ⟨pn, pF, pb⟩ := d7.new np
      have s78 : Same (upd F6 t (.lst ws)) (upd (upd F6 t (.lst ws)) p (.lst [.str (S ins), .str (S outs), .ref a1, .ref a2, .ref t])) := same_new pF
      have d8 := (d7.put (o := .lst [.str (S ins), .str (S outs), .ref a1, .ref a2, .ref t]) pn pF pb).frz upd_same pn pF pb
      refine q ⟨ins, outs, lf, rg, rows⟩ p _ _ rfl rfl ⟨hi, ho, R1, R2, by show rows.length = lf.length; omega, fun r hr => ?_⟩ (by show lf.length ≤ most; omega) (by show rg.length ≤ most; omega) d8 ?_
      · show r.length = rg.length ∧ _
        rw [hrg]
        exact hrw r hr
      · exact .lst (SqL.of upd_same) (.cons (.str _) (.cons (.str _) (.cons (dp_mono (s46.trans (s67.trans s78)) p1) (.cons (dp_mono (s46.trans (s67.trans s78)) p2) (.cons (dp_mono s78 (.lst (SqL.of upd_same) (dps_mono s67 dw))) .nil)))))
end
end Fo
namespace Fo
open PySem PySem.Spec PyProof.Rows L2 TL
section
variable {P : Program} {w : World} {K : PySem.W.Frag} {mg : Str → Option Value} {base : Heap}
def sp_law_spoiled (K : PySem.W.Frag) : Sp := fun vs H Q _ => ∃ (b : Addr) (F : Hp) (v : V) (m : Mch), vs = [.ref b, v] ∧ Bx K b F H ∧ Dp K F v (lmD m) ∧ Wf m ∧ 113 ∉ m.outs ∧
  ∀ (p : Addr) (H' : Hp) (r o : Str) (l g t : List (List PyData)), Bx K b F H' → Keep b H H' → Dp K H' (.ref p) (partsD r o l g t) → machD (.str r) (.str o) (.list (l.map PyData.list)) (.list (g.map PyData.list)) (.list (t.map PyData.list)) = false →
    l.length ≤ 1000 → g.length ≤ 1000 → t.length ≤ 1000 → r.length ≤ 100000 → o.length ≤ 100000 → (∀ x ∈ t, ∀ e ∈ x, SmallD e) → Q (.ref p) H'
theorem ok_law_spoiled (T : Tx P K mg) : FnOk P w K mg base CX0 2 T.a_law_spoiled T.e_law_spoiled ["box", "m"] (sp_law_spoiled K) := by
  refine T.d_law_spoiled.F.ok sc_law_spoiled (fun vs H Q E h => ?_) (fun cdv A outer s H vs Q E hr h => ?_)
  · obtain ⟨b, F, v, m, rfl, _⟩ := h
    rfl
  · obtain ⟨b, F, v, m, rfl, B, dm, W, hq, q⟩ := h
    refine ⟨_, (pss_cons (ps_set (i := 2) sc_law_spoiled.nd rfl (.inl rfl) (pe_lst (pa_cons (pe_ix (kIxL (K := K) rfl) (pv 1) pe_int (fun _ _ => rfl)) (pa_cons (pe_ix (kIxL (K := K) rfl) (pv 1) pe_int (fun _ _ => rfl)) (pa_cons (pe_lc (own := [("row", 6)]) (g := gName 6) (tt := tYes) rfl sc_law_spoiled.nd (kLi (K := K) rfl (pi_list (pe_ix (kIxL (K := K) rfl) (pv 1) pe_int (fun _ _ => rfl)))) (blkOk_by (N := ["box", "m", "parts", "kind", "side", "at", "row", "letter"]) (sc := defScope s_law_spoiled) (by decide +kernel)) (fun _ _ _ _ _ => (pg_name (i := 6) sc_law_spoiled.nd rfl (Or.inl rfl))) (fun _ _ _ _ _ => pts_nil) (fun _ _ _ _ _ => (by exact (pe_callTy (kLst (K := K) rfl) (by rfl) T.n_list (by decide +kernel) (pa_cons (pv 6) pa_nil))))) (pa_cons (pe_lc (own := [("row", 6)]) (g := gName 6) (tt := tYes) rfl sc_law_spoiled.nd (kLi (K := K) rfl (pi_list (pe_ix (kIxL (K := K) rfl) (pv 1) pe_int (fun _ _ => rfl)))) (blkOk_by (N := ["box", "m", "parts", "kind", "side", "at", "row", "letter"]) (sc := defScope s_law_spoiled) (by decide +kernel)) (fun _ _ _ _ _ => (pg_name (i := 6) sc_law_spoiled.nd rfl (Or.inl rfl))) (fun _ _ _ _ _ => pts_nil) (fun _ _ _ _ _ => (by exact (pe_callTy (kLst (K := K) rfl) (by rfl) T.n_list (by decide +kernel) (pa_cons (pv 6) pa_nil))))) (pa_cons (pe_lc (own := [("row", 6)]) (g := gName 6) (tt := tYes) rfl sc_law_spoiled.nd (kLi (K := K) rfl (pi_list (pe_ix (kIxL (K := K) rfl) (pv 1) pe_int (fun _ _ => rfl)))) (blkOk_by (N := ["box", "m", "parts", "kind", "side", "at", "row", "letter"]) (sc := defScope s_law_spoiled) (by decide +kernel)) (fun _ _ _ _ _ => (pg_name (i := 6) sc_law_spoiled.nd rfl (Or.inl rfl))) (fun _ _ _ _ _ => pts_nil) (fun _ _ _ _ _ => (by exact (pe_callTy (kLst (K := K) rfl) (by rfl) T.n_list (by decide +kernel) (pa_cons (pv 6) pa_nil))))) pa_nil)))))))
  (pss_cons (ps_set (i := 3) sc_law_spoiled.nd rfl (.inl rfl) (pe_call (ok_law_draw T) (hr.mono (by decide)) (by rfl) T.d_law_draw.g T.d_law_draw.F.kp T.d_law_draw.b .nil pass0 (pa_cons (pv 0) (pa_cons pe_int pa_nil))))
  (pss_cons (ps_set (i := 4) sc_law_spoiled.nd rfl (.inl rfl) (pe_op op_add pe_int (pe_call (ok_law_draw T) (hr.mono (by decide)) (by rfl) T.d_law_draw.g T.d_law_draw.F.kp T.d_law_draw.b .nil pass0 (pa_cons (pv 0) (pa_cons pe_int pa_nil)))))
  (pss_cons (ps_set (i := 5) sc_law_spoiled.nd rfl (.inl rfl) (pe_call (ok_law_draw T) (hr.mono (by decide)) (by rfl) T.d_law_draw.g T.d_law_draw.F.kp T.d_law_draw.b .nil pass0 (pa_cons (pv 0) (pa_cons (pe_callB (kLen (K := K) rfl) (by rfl) T.n_len PySem.boot_len (pa_cons (pe_ix (kIxL (K := K) rfl) (pv 2) (pv 4) (fun _ _ => rfl)) pa_nil)) pa_nil))))
  (pss_cons (ps_if (pt_cmpR op_eq (pv 3) pe_int (nomark _))
  (pss_one (ps_asg (pe_ix (kIxL (K := K) rfl) (pe_lst (pa_cons pe_str (pa_cons pe_str (pa_cons pe_str (pa_cons pe_str pa_nil))))) (pe_call (ok_law_draw T) (hr.mono (by decide)) (by rfl) T.d_law_draw.g T.d_law_draw.F.kp T.d_law_draw.b .nil pass0 (pa_cons (pv 0) (pa_cons pe_int pa_nil))) (fun _ _ => rfl)) (pg_sub (pv 2) (pe_call (ok_law_draw T) (hr.mono (by decide)) (by rfl) T.d_law_draw.g T.d_law_draw.F.kp T.d_law_draw.b .nil pass0 (pa_cons (pv 0) (pa_cons pe_int pa_nil))) set_list)))
  (pss_one (ps_if (pt_cmpR op_eq (pv 3) pe_int (nomark _))
  (pss_one (ps_asg (pe_ix (kIxL (K := K) rfl) (pe_lst (pa_cons (pe_callB (kLen (K := K) rfl) (by rfl) T.n_len PySem.boot_len (pa_cons (pe_ix (kIxL (K := K) rfl) (pv 2) (pv 4) (fun _ _ => rfl)) pa_nil)) (pa_cons (pe_un un_neg pe_int) (pa_cons pe_int pa_nil)))) (pe_call (ok_law_draw T) (hr.mono (by decide)) (by rfl) T.d_law_draw.g T.d_law_draw.F.kp T.d_law_draw.b .nil pass0 (pa_cons (pv 0) (pa_cons pe_int pa_nil))) (fun _ _ => rfl)) (pg_sub (pe_ix (kIxL (K := K) rfl) (pe_ix (kIxL (K := K) rfl) (pv 2) (pv 4) (fun _ _ => rfl)) (pv 5) (fun _ _ => rfl)) (pe_call (ok_law_draw T) (hr.mono (by decide)) (by rfl) T.d_law_draw.g T.d_law_draw.F.kp T.d_law_draw.b .nil pass0 (pa_cons (pv 0) (pa_cons (pe_callB call_len_str (by rfl) T.n_len PySem.boot_len (pa_cons (pe_ix (kIxL (K := K) rfl) (pv 1) pe_int (fun _ _ => rfl)) pa_nil)) pa_nil))) set_list)))
  (pss_one (ps_if (pt_cmpR op_eq (pv 3) pe_int (nomark _))
  (pss_one (ps_asg (pe_slice (kSlL (K := K) rfl) (pe_ix (kIxL (K := K) rfl) (pe_ix (kIxL (K := K) rfl) (pv 2) (pv 4) (fun _ _ => rfl)) (pv 5) (fun _ _ => rfl)) (po_some pe_int) po_none) (pg_sub (pe_ix (kIxL (K := K) rfl) (pv 2) (pv 4) (fun _ _ => rfl)) (pv 5) set_list)))
  (pss_one (ps_if (pt_cmpR op_eq (pv 3) pe_int (nomark _))
  (pss_one (ps_asg (pe_op op_cat (pe_ix (kIxL (K := K) rfl) (pe_ix (kIxL (K := K) rfl) (pv 2) (pv 4) (fun _ _ => rfl)) (pv 5) (fun _ _ => rfl)) (pe_lst (pa_cons pe_int pa_nil))) (pg_sub (pe_ix (kIxL (K := K) rfl) (pv 2) (pv 4) (fun _ _ => rfl)) (pv 5) set_list)))
  (pss_one (ps_if (pt_cmpR op_eq (pv 3) pe_int (nomark _))
  (pss_one (ps_asg (pe_slice sl_str (pe_ix (kIxL (K := K) rfl) (pe_ix (kIxL (K := K) rfl) (pe_ix (kIxL (K := K) rfl) (pv 2) pe_int (fun _ _ => rfl)) pe_int (fun _ _ => rfl)) pe_int (fun _ _ => rfl)) (po_some pe_int) po_none) (pg_sub (pe_ix (kIxL (K := K) rfl) (pe_ix (kIxL (K := K) rfl) (pv 2) pe_int (fun _ _ => rfl)) pe_int (fun _ _ => rfl)) pe_int set_list)))
  (pss_one (ps_if (pt_cmpR op_eq (pv 3) pe_int (nomark _))
  (pss_one (ps_asg (pe_op op_add_str (pe_ix (kIxL (K := K) rfl) (pe_ix (kIxL (K := K) rfl) (pe_ix (kIxL (K := K) rfl) (pv 2) pe_int (fun _ _ => rfl)) (pe_un un_neg pe_int) (fun _ _ => rfl)) (pe_un un_neg pe_int) (fun _ _ => rfl)) (pe_ix ix_str (pe_ix (kIxL (K := K) rfl) (pv 1) pe_int (fun _ _ => rfl)) pe_int (fun _ _ => rfl))) (pg_sub (pe_ix (kIxL (K := K) rfl) (pe_ix (kIxL (K := K) rfl) (pv 2) pe_int (fun _ _ => rfl)) (pe_un un_neg pe_int) (fun _ _ => rfl)) (pe_un un_neg pe_int) set_list)))
  (pss_one (ps_if (pt_cmpR op_eq (pv 3) pe_int (nomark _))
  (pss_one (ps_asg (pe_op op_add_str pe_str (pe_slice sl_str (pe_ix (kIxL (K := K) rfl) (pe_ix (kIxL (K := K) rfl) (pe_ix (kIxL (K := K) rfl) (pv 2) pe_int (fun _ _ => rfl)) (pe_un un_neg pe_int) (fun _ _ => rfl)) pe_int (fun _ _ => rfl)) (po_some pe_int) po_none)) (pg_sub (pe_ix (kIxL (K := K) rfl) (pe_ix (kIxL (K := K) rfl) (pv 2) pe_int (fun _ _ => rfl)) (pe_un un_neg pe_int) (fun _ _ => rfl)) pe_int set_list)))
  (pss_one (ps_if (pt_cmpR op_eq (pv 3) pe_int (nomark _))
  (pss_one (ps_asg (pe_slice (kSlL (K := K) rfl) (pe_ix (kIxL (K := K) rfl) (pv 2) pe_int (fun _ _ => rfl)) (po_some pe_int) po_none) (pg_sub (pv 2) pe_int set_list)))
  (pss_one (ps_if (pt_cmpR op_eq (pv 3) pe_int (nomark _))
  (pss_one (ps_asg (pe_op op_cat (pe_ix (kIxL (K := K) rfl) (pe_ix (kIxL (K := K) rfl) (pv 2) pe_int (fun _ _ => rfl)) pe_int (fun _ _ => rfl)) (pe_lst (pa_cons (pe_ix (kIxL (K := K) rfl) (pe_ix (kIxL (K := K) rfl) (pe_ix (kIxL (K := K) rfl) (pv 2) pe_int (fun _ _ => rfl)) pe_int (fun _ _ => rfl)) pe_int (fun _ _ => rfl)) pa_nil))) (pg_sub (pe_ix (kIxL (K := K) rfl) (pv 2) pe_int (fun _ _ => rfl)) pe_int set_list)))
  (pss_one (ps_if (pt_cmpR op_eq (pv 3) pe_int (nomark _))
  (pss_one (ps_asg (pe_lst pa_nil) (pg_sub (pv 2) (pv 4) set_list)))
  (pss_one (ps_if (pt_cmpR op_eq (pv 3) pe_int (nomark _))
  (pss_one (ps_asg (pe_op op_rep (pe_lst (pa_cons (pe_lc (own := [("letter", 7)]) (g := gName 7) (tt := tYes) rfl sc_law_spoiled.nd (pi_str (pe_ix (kIxL (K := K) rfl) (pv 1) pe_int (fun _ _ => rfl))) (blkOk_by (N := ["box", "m", "parts", "kind", "side", "at", "row", "letter"]) (sc := defScope s_law_spoiled) (by decide +kernel)) (fun _ _ _ _ _ => (pg_name (i := 7) sc_law_spoiled.nd rfl (Or.inl rfl))) (fun _ _ _ _ _ => pts_nil) (fun _ _ _ _ _ => (by exact pe_int))) pa_nil)) pe_int) (pg_sub (pv 2) (pv 4) set_list)))
  (pss_one (ps_asg (pe_op op_cat (pe_ix (kIxL (K := K) rfl) (pv 2) pe_int (fun _ _ => rfl)) (pe_lst (pa_cons (pe_ix (kIxL (K := K) rfl) (pe_ix (kIxL (K := K) rfl) (pv 2) pe_int (fun _ _ => rfl)) pe_int (fun _ _ => rfl)) pa_nil))) (pg_sub (pv 2) pe_int set_list))))))))))))))))))))))))
  (pss_one (ps_ret (pv 2)))))))), ?_⟩
    obtain ⟨am, v3, v4, v5, rfl, qa, p3, p4, p5⟩ := lm_dp dm
    obtain ⟨a5, xs5, rfl, q5, l5, f5⟩ := matS_at p5
    rw [rowsI_mat] at p3 p4
    rw [rowsS_mat] at p5
    obtain ⟨a3, ys3, rfl, q3, A3⟩ := dp_list p3
    obtain ⟨a4, ys4, rfl, q4, A4⟩ := dp_list p4
    obtain ⟨a5', ys5, ea5, q5', A5⟩ := dp_list p5
    cases ea5
    have w1 := W.left.most
    have w2 := W.right.most
    have w3 := W.tab
    have w4 := W.left.pos
    have w5 := W.right.pos
    obtain ⟨i1, i5⟩ := alpha_pos W.ins
    obtain ⟨o1, o5⟩ := alpha_pos W.outs
    have B0 := B.sub
    have hb := B.liv
    refine ⟨.ref am, rfl, am, _, 0, _, rfl, rfl, B0.seq qa, at_nat (i := 0) rfl, .ref am, rfl, am, _, 1, _, rfl, rfl, B0.seq qa, at_nat (i := 1) rfl, ?_⟩
    refine ⟨.ref am, rfl, am, _, 2, _, rfl, rfl, B0.seq qa, at_nat (i := 2) rfl, a3, rfl, ⟨ys3, B0.seq q3⟩, fun D3 n3 => ?_⟩
    refine lc_list (K := K) (a := a3) (xs := ys3) (fun i H4 => Gr H H D3 (rowsI m.left) i H4) (Gr.start n3 n3) (fun i H4 _ ⟨_, _, s⟩ => (B0.trans s).seq q3) ?_ ?_
    · intro i y H4 hy gr
      obtain ⟨e, hei, hye⟩ := dps_at A3 hy
      obtain ⟨ds, hds, rfl⟩ := map_get hei
      obtain ⟨c, ys, rfl, qy, Ay⟩ := dp_list hye
      have s4 : Same H H4 := by obtain ⟨_, _, s⟩ := gr; exact s
      exact ⟨rfl, .ref c, rfl, c, ys, rfl, .inl ((B0.trans s4).seq qy), fun l hl => gr.step n3 (by rw [rowsI_len]; omega) hds (rowsI_atom (List.mem_of_getElem? hds)) Ay hl (s4.free hl) rfl⟩
    intro H4 gr
    rw [dps_len A3, List.length_map] at gr
    obtain ⟨b3, g3, s4⟩ := gr.done
    have B4 := B0.trans s4
    refine ⟨.ref am, rfl, am, _, 3, _, rfl, rfl, B4.seq qa, at_nat (i := 3) rfl, a4, rfl, ⟨ys4, B4.seq q4⟩, fun D4 n4 => ?_⟩
    refine lc_list (K := K) (a := a4) (xs := ys4) (fun i H5 => Gr H4 H4 D4 (rowsI m.right) i H5) (Gr.start n4 n4) (fun i H5 _ ⟨_, _, s⟩ => (B4.trans s).seq q4) ?_ ?_
    · intro i y H5 hy gr
      obtain ⟨e, hei, hye⟩ := dps_at A4 hy
      obtain ⟨ds, hds, rfl⟩ := map_get hei
      obtain ⟨c, ys, rfl, qy, Ay⟩ := dp_list hye
      have s5 : Same H4 H5 := by obtain ⟨_, _, s⟩ := gr; exact s
      exact ⟨rfl, .ref c, rfl, c, ys, rfl, .inl ((B4.trans s5).seq qy), fun l hl => gr.step n4 (by rw [rowsI_len]; omega) hds (rowsI_atom (List.mem_of_getElem? hds)) Ay hl (s5.free hl) rfl⟩
    intro H5 gr
    rw [dps_len A4, List.length_map] at gr
    obtain ⟨b4, g4, s5⟩ := gr.done
    have B5 := B4.trans s5
    refine ⟨.ref am, rfl, am, _, 4, _, rfl, rfl, B5.seq qa, at_nat (i := 4) rfl, a5, rfl, ⟨ys5, B5.seq q5'⟩, fun D5 n5 => ?_⟩
    refine lc_list (K := K) (a := a5) (xs := ys5) (fun i H6 => Gr H5 H5 D5 (rowsS m.table) i H6) (Gr.start n5 n5) (fun i H6 _ ⟨_, _, s⟩ => (B5.trans s).seq q5') ?_ ?_
    · intro i y H6 hy gr
      obtain ⟨e, hei, hye⟩ := dps_at A5 hy
      obtain ⟨ds, hds, rfl⟩ := map_get hei
      obtain ⟨c, ys, rfl, qy, Ay⟩ := dp_list hye
      have s6 : Same H5 H6 := by obtain ⟨_, _, s⟩ := gr; exact s
      exact ⟨rfl, .ref c, rfl, c, ys, rfl, .inl ((B5.trans s6).seq qy), fun l hl => gr.step n5 (by rw [rowsS_len]; omega) hds (rowsS_atom (List.mem_of_getElem? hds)) Ay hl (s6.free hl) rfl⟩
    intro H6 gr
    rw [dps_len A5, List.length_map] at gr
    obtain ⟨b5, g5, s6⟩ := gr.done
    refine ⟨by show 5 ≤ sizeLine; decide, fun p np => ?_⟩
    have s7 := same_new (o := .lst [.str (S m.ins), .str (S m.outs), .ref D3, .ref D4, .ref D5]) np
    have s47 := s5.trans (s6.trans s7)
    have P7 : Pt H (upd H6 p (.lst [.str (S m.ins), .str (S m.outs), .ref D3, .ref D4, .ref D5])) p m D3 b3 D4 b4 D5 b5 :=
      ⟨upd_same, g3.same s47, (g4.same (s6.trans s7)).since s4, (g5.same s7).since (s4.trans s5), fun a ha hc => g3.live a ha (g4.new a hc), fun a ha hc => (g3.same s5).live a ha (g5.new a hc), fun a ha hc => g4.live a ha (g5.new a hc),
        (g3.same (s5.trans s6)).not np, (g4.same s6).not np, g5.not np, (s4.trans (s5.trans s6)).free np⟩
    have s07 := s4.trans s47
    have B7 := B.same s07
    have k07 : Keep b H _ := Keep.of s07
    generalize upd H6 p (.lst [.str (S m.ins), .str (S m.outs), .ref D3, .ref D4, .ref D5]) = H7 at P7 B7 k07
    clear s07 s47 s7 g3 g4 g5
    have qq : Spl K b F H Q := q
    refine ⟨.ref b, rfl, b, F, 12, rfl, B7, by decide, fun kd H8 _ _ B8 k8 => ?_⟩
    refine ⟨.ref b, rfl, b, F, 2, rfl, B8, by decide, fun z H9 z0 z1 B9 k9 => ⟨_, _, rfl, rfl, ?_⟩⟩
    obtain ⟨sd, rfl⟩ := box_nat z0
    have P9 := (P7.drew k8 hb).drew k9 hb
    have k09 := (k07.trans k8).trans k9
    have hsd2 : sd < 2 := by omega
    obtain ⟨DA, bA, rA, DB, bB, rB, S9⟩ := P9.side (K := K) W hsd2
    have lA : bA.length = rA.length := by rw [S9.gA.len, rowsI_len]
    have wA1 := S9.rws.pos
    have wA2 := S9.rws.most
    refine ⟨.ref b, rfl, .ref p, rfl, .int ((2 + sd : Nat)), rfl, p, _, _, _, rfl, rfl, SqL.of P9.top, at_nat S9.at', DA, _, rfl, .inl (SqL.of S9.gA.at'), b, F, _, rfl, B9, by rw [List.length_map]; omega, fun z H13 z0 z1 B13 k13 => ?_⟩
    obtain ⟨at', rfl⟩ := box_nat z0
    have hat : at' < rA.length := by rw [List.length_map] at z1; omega
    have u13 := B13.sub
    have P13 := P9.drew k13 hb
    have S13 := S9.drew k13 hb
    have k013 := k09.trans k13
    have lb5 : b5.length = m.left.length := by rw [P13.g5.len, rowsS_len, w3]
    have zin : (S m.ins).length ≤ sizeLine := by rw [len_S]; exact lim5' (by omega)
    have ne : ∀ {a : Addr}, H a = none → a ≠ b := fun h e => hb (e ▸ h)
    -- a side's row at at'
    obtain ⟨sr, hsr⟩ := get_lt hat
    obtain ⟨ssl, ssr⟩ := S9.rws.row sr (List.mem_of_getElem? hsr)
    obtain ⟨sb, hsb, hsb', _, _⟩ := S13.gA.get (get_rowsI hsr)
    have hsw' : ∀ {H' : Hp}, Side K H H' p m D3 D4 D5 b5 sd DA bA rA DB bB rB → H' sb = some (.lst ((intsD sr).map atomV)) := fun {H'} SS => by
      obtain ⟨sb', h1, _, h3, _⟩ := SS.gA.get (get_rowsI hsr)
      rw [hsb] at h1
      obtain rfl := Option.some.inj h1
      exact h3
    have hls : ((intsD sr).map atomV).length = sr.length := by rw [List.length_map, intsD_len]
    -- a row of the table, its text
    have trow : ∀ i, i < m.left.length → ∃ tr rb, m.table[i]? = some tr ∧ tr.length = m.right.length ∧ b5[i]? = some rb ∧ (b5.map V.ref)[i]? = some (.ref rb) ∧ ∀ {H' : Hp}, Pt H H' p m D3 b3 D4 b4 D5 b5 → H' rb = some (.lst ((strsD tr).map atomV)) := fun i hi => by
      obtain ⟨tr, htr⟩ := get_lt (show i < m.table.length by omega)
      obtain ⟨rb, h1, h2, _, _⟩ := P13.g5.get (get_rowsS htr)
      refine ⟨tr, rb, htr, (W.row tr (List.mem_of_getElem? htr)).1, h1, h2, fun {H'} PP => ?_⟩
      obtain ⟨rb', h1', _, h3', _⟩ := PP.g5.get (get_rowsS htr)
      rw [h1] at h1'
      obtain rfl := Option.some.inj h1'
      exact h3'
    have text : ∀ i j, i < m.left.length → j < m.right.length → ∃ tr rb w, m.table[i]? = some tr ∧ tr.length = m.right.length ∧ b5[i]? = some rb ∧ (b5.map V.ref)[i]? = some (.ref rb) ∧ (∀ {H' : Hp}, Pt H H' p m D3 b3 D4 b4 D5 b5 → H' rb = some (.lst ((strsD tr).map atomV))) ∧ ((strsD tr).map atomV)[j]? = some (.str (S w)) ∧ w.length = m.ins.length := fun i j hi hj => by
      obtain ⟨tr, rb, h1, h2, h3, h4, h5⟩ := trow i hi
      obtain ⟨w, hw⟩ := get_lt (show j < tr.length by omega)
      exact ⟨tr, rb, w, h1, h2, h3, h4, h5, map_at' (map_at' (map_at' hw)), ((W.row tr (List.mem_of_getElem? h1)).2 w (List.mem_of_getElem? hw)).1⟩
    have zw : ∀ {w : List Nat}, w.length = m.ins.length → (S w).length ≤ sizeLine := fun h => by rw [len_S]; exact lim5' (by omega)
    have one : (1 : Int) = ((1 : Nat) : Int) := rfl
    refine ⟨.int kd, rfl, rfl, _, rfl, ite2 (fun _ => ?_) (fun _ => ?_)⟩
    · -- 0: no alphabet
      refine ⟨by show 4 ≤ sizeLine; decide, fun l nl => ?_⟩
      have sl := same_new (o := .lst [.str (Str.ofString ""), .str (Str.ofString "aa"), .str (Str.ofString "A"), .str (Str.ofString "abcdef")]) nl
      have eL : upd H13 l (.lst [.str (Str.ofString ""), .str (Str.ofString "aa"), .str (Str.ofString "A"), .str (Str.ofString "abcdef")]) l = some (.lst [.str (Str.ofString ""), .str (Str.ofString "aa"), .str (Str.ofString "A"), .str (Str.ofString "abcdef")]) := upd_same
      refine ⟨.ref b, rfl, b, F, 4, rfl, B13.same sl, by decide, fun z H15 z0 z1 B15 k15 => ?_⟩
      have k015 := (k013.trans (Keep.of sl)).trans k15
      have eL := k15 l _ (fun e => B13.liv (by rw [← e]; exact nl)) eL
      obtain ⟨zn, rfl⟩ := box_nat z0
      obtain ⟨y, hy, hbad, hz⟩ : ∃ y : Str, ([.str (Str.ofString ""), .str (Str.ofString "aa"), .str (Str.ofString "A"), .str (Str.ofString "abcdef")] : List V)[zn]? = some (.str y) ∧ alphaD (.str y) = false ∧ y.length ≤ 100000 := by
        have hz : zn < 4 := by omega
        match zn, hz with
        | 0, _ => exact ⟨_, rfl, by decide +kernel, by decide +kernel⟩
        | 1, _ => exact ⟨_, rfl, by decide +kernel, by decide +kernel⟩
        | 2, _ => exact ⟨_, rfl, by decide +kernel, by decide +kernel⟩
        | 3, _ => exact ⟨_, rfl, by decide +kernel, by decide +kernel⟩
      have P15 := (P13.same sl).drew k15 hb
      refine ⟨l, _, _, _, rfl, rfl, SqL.of eL, at_nat hy, .ref p, rfl, .ref b, rfl, b, F, 2, rfl, B15, by decide, fun z H16 z0 z1 B16 k16 => ?_⟩
      obtain ⟨j, rfl⟩ := box_nat z0
      have P16 := P15.drew k16 hb
      have k016 := k015.trans k16
      refine ⟨p, _, _, j, rfl, rfl, P16.top, ixN_n (by show j < 5; omega), .ref p, rfl, ?_⟩
      obtain ⟨lin, lout⟩ := ins_small W
      have ltab : (rowsS m.table).length ≤ 1000 := by rw [rowsS_len]; omega
      have hj : j = 0 ∨ j = 1 := by omega
      rcases hj with rfl | rfl
      · obtain ⟨BX, KX⟩ := B16.put (o := .lst [.str y, .str (S m.outs), .ref D3, .ref D4, .ref D5]) B k016 P16.p0
        exact q p (upd H16 p (.lst [.str y, .str (S m.outs), .ref D3, .ref D4, .ref D5])) y (S m.outs) (rowsI m.left) (rowsI m.right) (rowsS m.table) BX KX (parts_of upd_same (P16.g3.off P16.p3).dp (P16.g4.off P16.p4).dp (P16.g5.off P16.p5).dp) (mach_r hbad) (by rw [rowsI_len]; omega) (by rw [rowsI_len]; omega) ltab hz lout (tab_small W)
      · obtain ⟨BX, KX⟩ := B16.put (o := .lst [.str (S m.ins), .str y, .ref D3, .ref D4, .ref D5]) B k016 P16.p0
        exact q p (upd H16 p (.lst [.str (S m.ins), .str y, .ref D3, .ref D4, .ref D5])) (S m.ins) y (rowsI m.left) (rowsI m.right) (rowsS m.table) BX KX (parts_of upd_same (P16.g3.off P16.p3).dp (P16.g4.off P16.p4).dp (P16.g5.off P16.p5).dp) (mach_w hbad) (by rw [rowsI_len]; omega) (by rw [rowsI_len]; omega) ltab lin hz (tab_small W)
    have ltab : (rowsS m.table).length ≤ 1000 := by rw [rowsS_len]; omega
    refine ⟨.int kd, rfl, rfl, _, rfl, ite2 (fun _ => ?_) (fun _ => ?_)⟩
    · -- 1: a state that is not there
      refine ⟨.ref p, rfl, .int ((2 + sd : Nat)), rfl, p, _, _, _, rfl, rfl, SqL.of P13.top, at_nat S13.at', DA, _, rfl, .inl (SqL.of S13.gA.at'), _, rfl, by show 3 ≤ sizeLine; decide, fun l nl => ?_⟩
      have sl := same_new (o := .lst [.int ((bA.map V.ref).length : Nat), .int (-1), .int 99]) nl
      have eL : upd H13 l (.lst [.int ((bA.map V.ref).length : Nat), .int (-1), .int 99]) l = some (.lst [.int ((bA.map V.ref).length : Nat), .int (-1), .int 99]) := upd_same
      refine ⟨.ref b, rfl, b, F, 3, rfl, B13.same sl, by decide, fun z H15 z0 z1 B15 k15 => ?_⟩
      have k015 := (k013.trans (Keep.of sl)).trans k15
      have eL := k15 l _ (fun e => B13.liv (by rw [← e]; exact nl)) eL
      obtain ⟨zn, rfl⟩ := box_nat z0
      obtain ⟨y, hy, hbad⟩ : ∃ y : Int, ([V.int ((bA.map V.ref).length : Nat), .int (-1), .int 99] : List V)[zn]? = some (.int y) ∧ stateD rA.length (.int y) = false := by
        have hz : zn < 3 := by omega
        match zn, hz with
        | 0, _ => exact ⟨_, rfl, by show (decide ((0 : Int) ≤ (((bA.map V.ref).length : Nat) : Int)) && decide ((((bA.map V.ref).length : Nat) : Int) < (rA.length : Int))) = false; rw [List.length_map, lA, decide_eq_false (show ¬ ((rA.length : Nat) : Int) < (rA.length : Int) by omega), Bool.and_false]⟩
        | 1, _ => exact ⟨_, rfl, rfl⟩
        | 2, _ => exact ⟨_, rfl, by show (decide ((0 : Int) ≤ 99) && decide ((99 : Int) < (rA.length : Int))) = false; rw [decide_eq_false (show ¬ (99 : Int) < (rA.length : Int) by omega), Bool.and_false]⟩
      have P15 := (P13.same sl).drew k15 hb
      have S15 := (S13.same sl).drew k15 hb
      refine ⟨l, _, _, _, rfl, rfl, SqL.of eL, at_nat hy, .ref p, rfl, .int ((2 + sd : Nat)), rfl, p, _, _, _, rfl, rfl, SqL.of P15.top, at_nat S15.at', .int at', rfl, DA, _, _, _, rfl, rfl, SqL.of S15.gA.at', at_nat hsb', .ref b, rfl, .ref am, rfl, am, _, 0, _, rfl, rfl, B15.sub.seq qa, at_nat (i := 0) rfl, S m.ins, rfl, zin, b, F, _, rfl, B15, by rw [len_S]; omega, fun z H16 z0 z1 B16 k16 => ?_⟩
      obtain ⟨k, rfl⟩ := box_nat z0
      rw [len_S] at z1
      have P16 := P15.drew k16 hb
      have S16 := S15.drew k16 hb
      refine ⟨sb, _, _, k, rfl, rfl, hsw' S16, ixN_n (by rw [hls]; omega), .ref p, rfl, ?_⟩
      exact qq.state W B B16 (k015.trans k16) P16 S16 hsr hsb (by omega) hbad
    refine ⟨.int kd, rfl, rfl, _, rfl, ite2 (fun _ => ?_) (fun _ => ?_)⟩
    · -- 2: a row of states too short
      refine ⟨.ref p, rfl, .int ((2 + sd : Nat)), rfl, p, _, _, _, rfl, rfl, SqL.of P13.top, at_nat S13.at', .int at', rfl, DA, _, _, _, rfl, rfl, SqL.of S13.gA.at', at_nat hsb', (1 : Int), rfl, sb, _, rfl, SqL.of (hsw' S13), fun x1 nx1 => ?_⟩
      rw [one, cutV_drop, ← List.map_drop]
      have s1 := same_new (o := .lst (((intsD sr).drop 1).map atomV)) nx1
      have e1 : upd H13 x1 (.lst (((intsD sr).drop 1).map atomV)) x1 = some (.lst (((intsD sr).drop 1).map atomV)) := upd_same
      have P14 := P13.same s1
      have S14 := S13.same s1
      refine ⟨.ref p, rfl, .int ((2 + sd : Nat)), rfl, p, _, _, _, rfl, rfl, SqL.of P14.top, at_nat S14.at', .int at', rfl, DA, _, _, at', rfl, rfl, S14.gA.at', ixN_n (by rw [List.length_map]; omega), .ref p, rfl, ?_⟩
      exact qq.srow W B (B13.same s1) (k013.trans (Keep.of s1)) P14 S14 hat e1 (new_since k013 B13 nx1) (S13.gA.not nx1) (fun d hd => intsD_atom sr d (List.mem_of_mem_drop hd)) (by rw [List.length_drop, intsD_len]; omega)
    refine ⟨.int kd, rfl, rfl, _, rfl, ite2 (fun _ => ?_) (fun _ => ?_)⟩
    · -- 3: a row of states too long
      refine ⟨.ref p, rfl, .int ((2 + sd : Nat)), rfl, p, _, _, _, rfl, rfl, SqL.of P13.top, at_nat S13.at', .int at', rfl, DA, _, _, _, rfl, rfl, SqL.of S13.gA.at', at_nat hsb', by show 1 ≤ sizeLine; decide, fun x2 nx2 => ?_⟩
      have s2 := same_new (o := .lst [V.int 0]) nx2
      refine ⟨sb, x2, _, _, rfl, rfl, hsw' (S13.same s2), upd_same, by rw [hls]; exact lim5' (by have : [V.int 0].length = 1 := rfl; omega), fun x3 nx3 => ?_⟩
      have ew : (intsD sr).map atomV ++ [V.int 0] = (intsD sr ++ [PyData.int 0]).map atomV := by rw [List.map_append]; rfl
      rw [ew]
      have s3 := same_new (o := .lst ((intsD sr ++ [PyData.int 0]).map atomV)) nx3
      have s23 := s2.trans s3
      have e3 : upd (upd H13 x2 (.lst [V.int 0])) x3 (.lst ((intsD sr ++ [PyData.int 0]).map atomV)) x3 = some (.lst ((intsD sr ++ [PyData.int 0]).map atomV)) := upd_same
      have P14 := P13.same s23
      have S14 := S13.same s23
      refine ⟨.ref p, rfl, .int ((2 + sd : Nat)), rfl, p, _, _, _, rfl, rfl, SqL.of P14.top, at_nat S14.at', .int at', rfl, DA, _, _, at', rfl, rfl, S14.gA.at', ixN_n (by rw [List.length_map]; omega), .ref p, rfl, ?_⟩
      refine qq.srow W B (B13.same s23) (k013.trans (Keep.of s23)) P14 S14 hat e3 (new_since k013 B13 (s2.free nx3)) (S13.gA.not (s2.free nx3)) (fun d hd => ?_) (by rw [List.length_append, intsD_len, List.length_singleton]; omega)
      rcases List.mem_append.mp hd with hd | hd
      · exact intsD_atom sr d hd
      · rw [List.mem_singleton.mp hd]
        trivial
    refine ⟨.int kd, rfl, rfl, _, rfl, ite2 (fun _ => ?_) (fun _ => ?_)⟩
    · -- 4: a text too short
      obtain ⟨tr, rb, w, t1, t2, t3, t4, t5, t6, t7⟩ := text 0 0 (by omega) (by omega)
      refine ⟨.ref p, rfl, p, _, 4, _, rfl, rfl, SqL.of P13.top, at_nat (i := 4) rfl, D5, _, _, _, rfl, rfl, SqL.of P13.g5.at', at_nat (i := 0) t4, rb, _, _, _, rfl, rfl, SqL.of (t5 P13), at_nat (i := 0) t6, (1 : Int), rfl, S w, rfl, zw t7, ?_⟩
      rw [one, cut_drop]
      refine ⟨.ref p, rfl, p, _, 4, _, rfl, rfl, SqL.of P13.top, at_nat (i := 4) rfl, D5, _, _, _, rfl, rfl, SqL.of P13.g5.at', at_nat (i := 0) t4, rb, _, _, 0, rfl, rfl, t5 P13, ixN_n (j := 0) (by rw [List.length_map, strsD_len]; omega), .ref p, rfl, ?_⟩
      exact qq.text W B B13 k013 P13 t1 t3 (by omega) (by rw [len_S, List.length_drop]; omega) (written_len (by rw [tlS, List.length_drop]; omega))
    have lt0 : ∀ {tr : List (List Nat)}, tr.length = m.right.length → ((strsD tr).map atomV).length = m.right.length := fun h => by rw [List.length_map, strsD_len, h]
    have lb0 : (b5.map V.ref).length = m.left.length := by rw [List.length_map, lb5]
    refine ⟨.int kd, rfl, rfl, _, rfl, ite2 (fun _ => ?_) (fun _ => ?_)⟩
    · -- 5: a text too long
      obtain ⟨tr, rb, w, t1, t2, t3, t4, t5, t6, t7⟩ := text (m.left.length - 1) (m.right.length - 1) (by omega) (by omega)
      have lw := len_S w
      have a4 := at_neg (xs := b5.map V.ref) (x := .ref rb) (by rw [lb0]; exact t4)
      have a6 := at_neg (xs := (strsD tr).map atomV) (x := .str (S w)) (by rw [lt0 t2]; exact t6)
      refine ⟨.ref p, rfl, p, _, 4, _, rfl, rfl, SqL.of P13.top, at_nat (i := 4) rfl, _, rfl, D5, _, _, _, rfl, rfl, SqL.of P13.g5.at', a4, _, rfl, rb, _, _, _, rfl, rfl, SqL.of (t5 P13), a6, .ref am, rfl, am, _, 1, _, rfl, rfl, u13.seq qa, at_nat (i := 1) rfl, S m.outs, 0, m.outs.getD 0 0, rfl, rfl, by rw [len_S]; exact lim5' (by omega), at_nat (i := 0) (getD_at (l := m.outs) (i := 0) (by omega)), _, _, rfl, rfl, by rw [len_S, len_S]; exact lim5' (by have : [m.outs.getD 0 0].length = 1 := rfl; omega), ?_⟩
      refine ⟨.ref p, rfl, p, _, 4, _, rfl, rfl, SqL.of P13.top, at_nat (i := 4) rfl, _, rfl, D5, _, _, _, rfl, rfl, SqL.of P13.g5.at', a4, _, rfl, rb, _, _, m.right.length - 1, rfl, rfl, t5 P13, by rw [← lt0 t2]; exact ixN_neg (by rw [lt0 t2]; omega), .ref p, rfl, ?_⟩
      exact qq.text W B B13 k013 P13 t1 t3 (by omega) (by show (S w ++ S [m.outs.getD 0 0]).length ≤ 100000; rw [S_add, len_S, List.length_append, List.length_singleton]; omega) (written_len (by show (tl (S w ++ S [m.outs.getD 0 0])).length ≠ _; rw [S_add, tlS, List.length_append, List.length_singleton]; omega))
    refine ⟨.int kd, rfl, rfl, _, rfl, ite2 (fun _ => ?_) (fun _ => ?_)⟩
    · -- 6: a letter outside
      obtain ⟨tr, rb, w, t1, t2, t3, t4, t5, t6, t7⟩ := text (m.left.length - 1) 0 (by omega) (by omega)
      have q1 : (Str.ofString "q").length = 1 := by decide +kernel
      have a4 := at_neg (xs := b5.map V.ref) (x := .ref rb) (by rw [lb0]; exact t4)
      refine ⟨.ref p, rfl, p, _, 4, _, rfl, rfl, SqL.of P13.top, at_nat (i := 4) rfl, _, rfl, D5, _, _, _, rfl, rfl, SqL.of P13.g5.at', a4, rb, _, _, _, rfl, rfl, SqL.of (t5 P13), at_nat (i := 0) t6, (1 : Int), rfl, S w, rfl, zw t7, ?_⟩
      rw [one, cut_drop]
      refine ⟨_, _, rfl, rfl, by rw [q1, len_S, List.length_drop]; exact lim5' (by omega), .ref p, rfl, p, _, 4, _, rfl, rfl, SqL.of P13.top, at_nat (i := 4) rfl, _, rfl, D5, _, _, _, rfl, rfl, SqL.of P13.g5.at', a4, rb, _, _, 0, rfl, rfl, t5 P13, ixN_n (j := 0) (by rw [lt0 t2]; omega), .ref p, rfl, ?_⟩
      refine qq.text W B B13 k013 P13 t1 t3 (by omega) ?_ (written_out (c := 113) ?_ hq)
      · show (Str.ofString "q" ++ S (w.drop 1)).length ≤ 100000
        rw [len_tl, tl_append, List.length_append, ← len_tl, q1, tlS, List.length_drop]
        omega
      · show 113 ∈ tl (Str.ofString "q" ++ S (w.drop 1))
        rw [tl_append]
        exact List.mem_append_left _ (by decide +kernel)
    refine ⟨.int kd, rfl, rfl, _, rfl, ite2 (fun _ => ?_) (fun _ => ?_)⟩
    · -- 7: too few rows
      refine ⟨.ref p, rfl, p, _, 4, _, rfl, rfl, SqL.of P13.top, at_nat (i := 4) rfl, (1 : Int), rfl, D5, _, rfl, SqL.of P13.g5.at', fun x1 nx1 => ?_⟩
      rw [one, cutV_drop]
      have s1 := same_new (o := .lst ((b5.map V.ref).drop 1)) nx1
      have e1 : upd H13 x1 (.lst ((b5.map V.ref).drop 1)) x1 = some (.lst ((b5.map V.ref).drop 1)) := upd_same
      have P14 := P13.same s1
      have B14 := B13.same s1
      have k014 := k013.trans (Keep.of s1)
      have x1p : x1 ≠ p := fun e => some_ne P13.top (e ▸ nx1)
      generalize upd H13 x1 (.lst ((b5.map V.ref).drop 1)) = H14 at e1 P14 B14 k014 ⊢
      refine ⟨.ref p, rfl, p, _, 4, 4, rfl, rfl, P14.top, rfl, .ref p, rfl, ?_⟩
      obtain ⟨BX, KX⟩ := B14.put (o := .lst ([V.str (S m.ins), .str (S m.outs), .ref D3, .ref D4, .ref D5].set 4 (.ref x1))) B k014 P14.p0
      have A := (P14.g5.off (o := .lst ([V.str (S m.ins), .str (S m.outs), .ref D3, .ref D4, .ref D5].set 4 (.ref x1))) P14.p5).all (K := K)
      refine qq.table W (t := (rowsS m.table).drop 1) (D' := x1) BX KX upd_same (P14.g3.off P14.p3) (P14.g4.off P14.p4) ?_ (table_len ?_) (by rw [List.length_drop]; omega) fun y hy => tab_small W y (List.mem_of_mem_drop hy)
      · rw [List.map_drop]
        exact .lst (SqL.of (by rw [upd_ne x1p]; exact e1)) (dps_drop A _)
      · rw [List.length_drop, rowsS_len]
        omega
    refine ⟨.int kd, rfl, rfl, _, rfl, ite2 (fun _ => ?_) (fun _ => ?_)⟩
    · -- 8: a row of the table too long
      obtain ⟨tr, rb, w, t1, t2, t3, t4, t5, t6, t7⟩ := text 0 0 (by omega) (by omega)
      refine ⟨.ref p, rfl, p, _, 4, _, rfl, rfl, SqL.of P13.top, at_nat (i := 4) rfl, D5, _, _, _, rfl, rfl, SqL.of P13.g5.at', at_nat (i := 0) t4, .ref p, rfl, p, _, 4, _, rfl, rfl, SqL.of P13.top, at_nat (i := 4) rfl, D5, _, _, _, rfl, rfl, SqL.of P13.g5.at', at_nat (i := 0) t4, rb, _, _, _, rfl, rfl, SqL.of (t5 P13), at_nat (i := 0) t6, by show 1 ≤ sizeLine; decide, fun x2 nx2 => ?_⟩
      have s2 := same_new (o := .lst [V.str (S w)]) nx2
      refine ⟨rb, x2, _, _, rfl, rfl, t5 (P13.same s2), upd_same, by rw [lt0 t2]; exact lim5' (by have : [V.str (S w)].length = 1 := rfl; omega), fun x3 nx3 => ?_⟩
      have ew : (strsD tr).map atomV ++ [V.str (S w)] = (strsD tr ++ [PyData.str (S w)]).map atomV := by rw [List.map_append]; rfl
      rw [ew]
      have s3 := same_new (o := .lst ((strsD tr ++ [PyData.str (S w)]).map atomV)) nx3
      have s23 := s2.trans s3
      have e3 : upd (upd H13 x2 (.lst [V.str (S w)])) x3 (.lst ((strsD tr ++ [PyData.str (S w)]).map atomV)) x3 = some (.lst ((strsD tr ++ [PyData.str (S w)]).map atomV)) := upd_same
      have P14 := P13.same s23
      refine ⟨.ref p, rfl, p, _, 4, _, rfl, rfl, SqL.of P14.top, at_nat (i := 4) rfl, D5, _, _, 0, rfl, rfl, P14.g5.at', ixN_n (j := 0) (by rw [lb0]; omega), .ref p, rfl, ?_⟩
      have trsm : ∀ e ∈ strsD tr, SmallD e := tab_small W _ (List.mem_map_of_mem (List.mem_of_getElem? t1))
      refine qq.trow W B (B13.same s23) (k013.trans (Keep.of s23)) P14 (by omega) e3 (new_since k013 B13 (s2.free nx3)) (P13.g5.not (s2.free nx3)) (fun d hd => ?_) (by rw [List.length_append, strsD_len, List.length_singleton]; omega) (fun d hd => ?_)
      · rcases List.mem_append.mp hd with hd | hd
        · exact strsD_atom tr d hd
        · rw [List.mem_singleton.mp hd]
          trivial
      · rcases List.mem_append.mp hd with hd | hd
        · exact trsm d hd
        · rw [List.mem_singleton.mp hd]
          exact small_S (by omega)
    refine ⟨.int kd, rfl, rfl, _, rfl, ite2 (fun _ => ?_) (fun _ => ?_)⟩
    · -- 9: no states
      refine ⟨Nat.zero_le _, fun x nx => ?_⟩
      have s1 := same_new (o := .lst []) nx
      have P14 := P13.same s1
      have e1 : upd H13 x (.lst []) x = some (.lst []) := upd_same
      have B14 := B13.same s1
      have k014 := k013.trans (Keep.of s1)
      have xp : x ≠ p := fun e => some_ne P13.top (e ▸ nx)
      generalize upd H13 x (.lst []) = H14 at e1 P14 B14 k014 ⊢
      refine ⟨.ref p, rfl, .int ((2 + sd : Nat)), rfl, p, _, _, 2 + sd, rfl, rfl, P14.top, ixN_n (by show 2 + sd < 5; omega), .ref p, rfl, ?_⟩
      exact qq.all W B (y := []) hsd2 B14 k014 P14 (.lst (SqL.of e1) .nil) (fun o => .lst (SqL.of (by rw [upd_ne xp]; exact e1)) .nil) (trans_len (.inl rfl)) (by decide)
    refine ⟨.int kd, rfl, rfl, _, rfl, ite2 (fun _ => ?_) (fun _ => ?_)⟩
    · -- 10: 41 states
      have h1 : (S m.ins).cps.size = m.ins.length := len_S _
      refine ⟨.ref am, rfl, am, _, 0, _, rfl, rfl, u13.seq qa, at_nat (i := 0) rfl, S m.ins, rfl, fun D nD => ?_⟩
      refine lc_str (z := S m.ins) (fun j H14 => Same H13 H14 ∧ H14 D = some (.lst (List.replicate j (.int 0)))) ⟨same_new nD, upd_same⟩ ?_ ?_
      · rintro j H14 hj ⟨s14, e14⟩
        rw [h1] at hj
        exact ⟨rfl, _, e14, by rw [List.length_replicate]; exact lim5 (by omega), same_put s14 nD, by rw [upd_same]; exact congrArg (fun z => some (HO.lst z)) (List.replicate_succ' ..).symm⟩
      rintro H14 ⟨s14, e14⟩
      rw [h1] at e14
      refine ⟨by show 1 ≤ sizeLine; decide, fun x2 nx2 => ⟨x2, 41, _, rfl, rfl, upd_same, by decide, by decide, by show 1 * 41 ≤ sizeLine; decide, fun x3 nx3 => ?_⟩⟩
      have s2 := same_new (o := .lst [V.ref D]) nx2
      have s3 := same_new (o := .lst (List.replicate (41 : Int).toNat [V.ref D]).flatten) nx3
      have s143 := s14.trans (s2.trans s3)
      have e3 : upd (upd H14 x2 (.lst [V.ref D])) x3 (.lst (List.replicate (41 : Int).toNat [V.ref D]).flatten) x3 = some (.lst (List.replicate 41 (V.ref D))) := upd_same
      have eD := (s2.trans s3) _ _ e14
      have P15 := P13.same s143
      have B15 := B13.same s143
      have k015 := k013.trans (Keep.of s143)
      have xp : x3 ≠ p := fun e => some_ne P13.top (e ▸ (s14.trans s2).free nx3)
      have Dp' : D ≠ p := fun e => some_ne P13.top (e ▸ nD)
      generalize upd (upd H14 x2 (.lst [V.ref D])) x3 (.lst (List.replicate (41 : Int).toNat [V.ref D]).flatten) = H15 at e3 eD P15 B15 k015 ⊢
      refine ⟨.ref p, rfl, .int ((2 + sd : Nat)), rfl, p, _, _, 2 + sd, rfl, rfl, P15.top, ixN_n (by show 2 + sd < 5; omega), .ref p, rfl, ?_⟩
      have dz : ∀ {H' : Hp}, H' x3 = some (.lst (List.replicate 41 (V.ref D))) → H' D = some (.lst (List.replicate m.ins.length (.int 0))) → Dp K H' (.ref x3) (.list ((List.replicate 41 (List.replicate m.ins.length (PyData.int 0))).map PyData.list)) := by
        intro H' f1 f2
        have z0 : ∀ k : Nat, DpAll K H' (List.replicate k (V.int 0)) (List.replicate k (PyData.int 0)) := fun k => by
          induction k with
          | zero => exact .nil
          | succ k ih => exact .cons (.int 0) ih
        have z1 : ∀ k : Nat, DpAll K H' (List.replicate k (V.ref D)) (List.replicate k (PyData.list (List.replicate m.ins.length (PyData.int 0)))) := fun k => by
          induction k with
          | zero => exact .nil
          | succ k ih => exact .cons (.lst (SqL.of f2) (z0 _)) ih
        rw [List.map_replicate]
        exact .lst (SqL.of f1) (z1 41)
      exact qq.all W B hsd2 B15 k015 P15 (dz e3 eD) (fun o => dz (by rw [upd_ne xp]; exact e3) (by rw [upd_ne Dp']; exact eD)) (trans_len (.inr (by rw [List.length_replicate]; decide))) (by rw [List.length_replicate]; decide)
    -- 11: too many rows
    obtain ⟨tr, rb, t1, t2, t3, t4, t5⟩ := trow 0 (by omega)
    refine ⟨.ref p, rfl, p, _, 4, _, rfl, rfl, SqL.of P13.top, at_nat (i := 4) rfl, .ref p, rfl, p, _, 4, _, rfl, rfl, SqL.of P13.top, at_nat (i := 4) rfl, D5, _, _, _, rfl, rfl, SqL.of P13.g5.at', at_nat (i := 0) t4, by show 1 ≤ sizeLine; decide, fun x2 nx2 => ?_⟩
    have s2 := same_new (o := .lst [V.ref rb]) nx2
    refine ⟨D5, x2, _, _, rfl, rfl, s2 _ _ P13.g5.at', upd_same, by rw [lb0]; exact lim5' (by have : [V.ref rb].length = 1 := rfl; omega), fun x3 nx3 => ?_⟩
    have s3 := same_new (o := .lst (b5.map V.ref ++ [V.ref rb])) nx3
    have e3 : upd (upd H13 x2 (.lst [V.ref rb])) x3 (.lst (b5.map V.ref ++ [V.ref rb])) x3 = some (.lst (b5.map V.ref ++ [V.ref rb])) := upd_same
    have P14 := P13.same (s2.trans s3)
    have B14 := B13.same (s2.trans s3)
    have k014 := k013.trans (Keep.of (s2.trans s3))
    have x3p : x3 ≠ p := fun e => some_ne P13.top (e ▸ s2.free nx3)
    generalize upd (upd H13 x2 (.lst [V.ref rb])) x3 (.lst (b5.map V.ref ++ [V.ref rb])) = H14 at e3 P14 B14 k014 ⊢
    refine ⟨.ref p, rfl, p, _, 4, 4, rfl, rfl, P14.top, rfl, .ref p, rfl, ?_⟩
    obtain ⟨BX, KX⟩ := B14.put (o := .lst ([V.str (S m.ins), .str (S m.outs), .ref D3, .ref D4, .ref D5].set 4 (.ref x3))) B k014 P14.p0
    have A := (P14.g5.off (o := .lst ([V.str (S m.ins), .str (S m.outs), .ref D3, .ref D4, .ref D5].set 4 (.ref x3))) P14.p5).all (K := K)
    have hrp : rb ≠ p := fun e => P14.p5 (e ▸ List.mem_cons_of_mem _ (List.mem_of_getElem? t3))
    have trm : strsD tr ∈ rowsS m.table := List.mem_map_of_mem (List.mem_of_getElem? t1)
    refine qq.table W (t := rowsS m.table ++ [strsD tr]) (D' := x3) BX KX upd_same (P14.g3.off P14.p3) (P14.g4.off P14.p4) ?_ (table_len ?_) (by rw [List.length_append, List.length_singleton, rowsS_len]; omega) fun y hy => ?_
    · rw [List.map_append]
      exact .lst (SqL.of (by rw [upd_ne x3p]; exact e3)) (dps_append A (.cons (.lst (SqL.of (by rw [upd_ne hrp]; exact t5 P14)) (atoms_dp (strsD_atom tr))) .nil))
    · rw [List.length_append, List.length_singleton, rowsS_len]
      omega
    · rcases List.mem_append.mp hy with hy | hy
      · exact tab_small W y hy
      · rw [List.mem_singleton.mp hy]
        exact tab_small W _ trm
end
end Fo
namespace Fo
open PySem PySem.Spec PyProof.Rows L2 TL
section
variable {P : Program} {w : World} {K : PySem.W.Frag} {mg : Str → Option Value} {base : Heap}
def sp_law (K : PySem.W.Frag) : Sp := fun vs H Q _ => ∃ (a : Addr) (ns : List Int), vs = [.ref a] ∧ SqL K H a (ns.map V.int) ∧ ns.length ≤ 63 ∧ ∀ H', Q (.bl true) H'
theorem ok_law (T : Tx P K mg) : FnOk P w K mg base CX0 8 T.a_law T.e_law ["script"] (sp_law K) := by
  refine T.d_law.F.ok sc_law (fun vs H Q E h => ?_) (fun cdv A outer s H vs Q E hr h => ?_)
  · obtain ⟨a, ns, rfl, _⟩ := h
    rfl
  · obtain ⟨a, ns, rfl, hS, hlen, qfin⟩ := h
    refine ⟨_, (pss_cons (ps_set (i := 1) sc_law.nd rfl (.inl rfl) (pe_lst (pa_cons (pe_call (ok_law_row T) (hr.mono (by decide)) (by rfl) T.d_law_row.g T.d_law_row.F.kp T.d_law_row.b .nil pass0 (pa_cons (pv 0) (pa_cons pe_int (pa_cons pe_int pa_nil)))) (pa_cons pe_int pa_nil))))
  (pss_cons (ps_for PassesOwn.never rfl (pi_range1 (by rfl) T.n_range (pa_cons pe_int pa_nil)) (pg_name (i := 2) sc_law.nd rfl (.inl rfl))
  (pss_cons (ps_set (i := 3) sc_law.nd rfl (.inl rfl) (pe_call (ok_law_machine T) (hr.mono (by decide)) (by rfl) T.d_law_machine.g T.d_law_machine.F.kp T.d_law_machine.b .nil pass0 (pa_cons (pv 1) (pa_cons (pe_call (ok_law_alphabet T) (hr.mono (by decide)) (by rfl) T.d_law_alphabet.g T.d_law_alphabet.F.kp T.d_law_alphabet.b .nil pass0 (pa_cons (pv 1) (pa_cons (pe_op op_add pe_int (pe_call (ok_law_draw T) (hr.mono (by decide)) (by rfl) T.d_law_draw.g T.d_law_draw.F.kp T.d_law_draw.b .nil pass0 (pa_cons (pv 1) (pa_cons pe_int pa_nil)))) pa_nil))) (pa_cons (pe_call (ok_law_alphabet T) (hr.mono (by decide)) (by rfl) T.d_law_alphabet.g T.d_law_alphabet.F.kp T.d_law_alphabet.b .nil pass0 (pa_cons (pv 1) (pa_cons (pe_op op_add pe_int (pe_call (ok_law_draw T) (hr.mono (by decide)) (by rfl) T.d_law_draw.g T.d_law_draw.F.kp T.d_law_draw.b .nil pass0 (pa_cons (pv 1) (pa_cons pe_int pa_nil)))) pa_nil))) (pa_cons pe_int pa_nil))))))
  (pss_cons (ps_set (i := 4) sc_law.nd rfl (.inl rfl) (pe_lst (pa_cons (pe_ix (kIxL (K := K) rfl) (pv 3) pe_int (fun _ _ => rfl)) (pa_cons (pe_ix (kIxL (K := K) rfl) (pv 3) pe_int (fun _ _ => rfl)) (pa_cons (pe_lc (own := [("row", 6)]) (g := gName 6) (tt := tYes) rfl sc_law.nd (kLi (K := K) rfl (pi_list (pe_ix (kIxL (K := K) rfl) (pv 3) pe_int (fun _ _ => rfl)))) (blkOk_by (N := ["script", "box", "turn", "m", "handed", "made", "row"]) (sc := defScope s_law) (by decide +kernel)) (fun _ _ _ _ _ => (pg_name (i := 6) sc_law.nd rfl (Or.inl rfl))) (fun _ _ _ _ _ => pts_nil) (fun _ _ _ _ _ => (by exact (pe_callTy (kLst (K := K) rfl) (by rfl) T.n_list (by decide +kernel) (pa_cons (pv 6) pa_nil))))) (pa_cons (pe_lc (own := [("row", 6)]) (g := gName 6) (tt := tYes) rfl sc_law.nd (kLi (K := K) rfl (pi_list (pe_ix (kIxL (K := K) rfl) (pv 3) pe_int (fun _ _ => rfl)))) (blkOk_by (N := ["script", "box", "turn", "m", "handed", "made", "row"]) (sc := defScope s_law) (by decide +kernel)) (fun _ _ _ _ _ => (pg_name (i := 6) sc_law.nd rfl (Or.inl rfl))) (fun _ _ _ _ _ => pts_nil) (fun _ _ _ _ _ => (by exact (pe_callTy (kLst (K := K) rfl) (by rfl) T.n_list (by decide +kernel) (pa_cons (pv 6) pa_nil))))) (pa_cons (pe_lc (own := [("row", 6)]) (g := gName 6) (tt := tYes) rfl sc_law.nd (kLi (K := K) rfl (pi_list (pe_ix (kIxL (K := K) rfl) (pv 3) pe_int (fun _ _ => rfl)))) (blkOk_by (N := ["script", "box", "turn", "m", "handed", "made", "row"]) (sc := defScope s_law) (by decide +kernel)) (fun _ _ _ _ _ => (pg_name (i := 6) sc_law.nd rfl (Or.inl rfl))) (fun _ _ _ _ _ => pts_nil) (fun _ _ _ _ _ => (by exact (pe_callTy (kLst (K := K) rfl) (by rfl) T.n_list (by decide +kernel) (pa_cons (pv 6) pa_nil))))) pa_nil)))))))
  (pss_cons (ps_set (i := 5) sc_law.nd rfl (.inl rfl) (pe_make T.m_Machine (ok_Machine_init T) (hr.mono (by decide)) (by rfl) T.g_Machine T.b_Machine_init .nil passL (pa_cons (pe_ix (kIxL (K := K) rfl) (pv 4) pe_int (fun _ _ => rfl)) (pa_cons (pe_ix (kIxL (K := K) rfl) (pv 4) pe_int (fun _ _ => rfl)) (pa_cons (pe_ix (kIxL (K := K) rfl) (pv 4) pe_int (fun _ _ => rfl)) (pa_cons (pe_ix (kIxL (K := K) rfl) (pv 4) pe_int (fun _ _ => rfl)) (pa_cons (pe_ix (kIxL (K := K) rfl) (pv 4) pe_int (fun _ _ => rfl)) pa_nil)))))))
  (pss_cons (ps_asg pe_int (pg_sub (pe_ix (kIxL (K := K) rfl) (pe_ix (kIxL (K := K) rfl) (pv 4) pe_int (fun _ _ => rfl)) pe_int (fun _ _ => rfl)) pe_int set_list))
  (pss_cons (ps_expr (kBM (K := K) rfl (pe_bm PySem.F.plainAttrs_list PySem.F.slot_list_append PySem.F.type_list_append mt_append (pe_ix (kIxL (K := K) rfl) (pv 4) pe_int (fun _ _ => rfl)) (pa_cons (pe_lst pa_nil) pa_nil))))
  (pss_cons (ps_asg pe_str (pg_sub (pe_ix (kIxL (K := K) rfl) (pe_ix (kIxL (K := K) rfl) (pv 4) pe_int (fun _ _ => rfl)) pe_int (fun _ _ => rfl)) pe_int set_list))
  (pss_cons (ps_if (PW.pt (pw_or (pt_cmpR (kNeD (K := K) rfl (hu64 hr)) (pe_call (ok_form T) (hr.mono (by decide)) (by rfl) T.d_form.g T.d_form.F.kp T.d_form.b .nil pass0 (pa_cons (pv 5) pa_nil)) (pe_call (ok_law_form T) (hr.mono (by decide)) (by rfl) T.d_law_form.g T.d_law_form.F.kp T.d_law_form.b .nil pass0 (pa_cons (pv 3) pa_nil)) (nomark _)) (pw_or (pt_cmpR op_ne (kFl (K := K) rfl (pe_fld (pv 5) rfl)) (pe_ix (kIxL (K := K) rfl) (pv 3) pe_int (fun _ _ => rfl)) (nomark _)) (pw_or1 (pt_cmpR op_ne (kFl (K := K) rfl (pe_fld (pv 5) rfl)) (pe_ix (kIxL (K := K) rfl) (pv 3) pe_int (fun _ _ => rfl)) (nomark _))))))
  (pss_one (ps_ret pe_bl))
  pss_nil)
  (pss_cons (ps_if (pt_cmpR (kNeD (K := K) rfl (hu64 hr)) (pe_lst (pa_cons (kFl (K := K) rfl (pe_fld (pv 5) rfl)) (pa_cons (kFl (K := K) rfl (pe_fld (pv 5) rfl)) (pa_cons (kFl (K := K) rfl (pe_fld (pv 5) rfl)) pa_nil)))) (pe_lst (pa_cons (pe_ix (kIxL (K := K) rfl) (pv 3) pe_int (fun _ _ => rfl)) (pa_cons (pe_ix (kIxL (K := K) rfl) (pv 3) pe_int (fun _ _ => rfl)) (pa_cons (pe_ix (kIxL (K := K) rfl) (pv 3) pe_int (fun _ _ => rfl)) pa_nil)))) (nomark _))
  (pss_one (ps_ret pe_bl))
  pss_nil)
  (pss_one (ps_if (pt_cmpR op_ne (pe_call (ok_law_told T) (hr.mono (by decide)) (by rfl) T.d_law_told.g T.d_law_told.F.kp T.d_law_told.b .nil pass0 (pa_cons (pe_call (ok_law_spoiled T) (hr.mono (by decide)) (by rfl) T.d_law_spoiled.g T.d_law_spoiled.F.kp T.d_law_spoiled.b .nil pass0 (pa_cons (pv 1) (pa_cons (pv 3) pa_nil))) pa_nil)) pe_str (nomark _))
  (pss_one (ps_ret pe_bl))
  pss_nil)))))))))))
  (pss_one (ps_ret pe_bl)))), ?_⟩
    -- box
    refine ⟨.ref a, rfl, a, ns, 0, 20, rfl, hS, by decide, by decide, by decide, fun r zs H1 s1 nr hr1 hz => ⟨by show 2 ≤ sizeLine; decide, fun b nb => ?_⟩⟩
    have B0 : Bx K b H1 (upd H1 b (.lst [.ref r, .int 0])) := ⟨same_new nb, nb, r, zs, 0, upd_same, SqL.of hr1, Int.le_refl 0⟩
    generalize upd H1 b (.lst [.ref r, .int 0]) = H2 at B0
    refine ⟨4, rfl, by decide, by decide, for_range (lo := 0) (n := 4) (fun _ σ H4 => ∃ (F : Hp) (y2 y3 y4 y5 : Option V), σ = [some (.ref a), some (.ref b), y2, y3, y4, y5, none] ∧ Bx K b F H4)
      ⟨H1, none, none, none, none, rfl, B0⟩ ?_ ?_⟩
    · rintro turn σ H3 ht ⟨F0, y2, y3, y4, y5, rfl, B⟩
      refine ⟨.ref b, rfl, .ref b, rfl, .ref b, rfl, b, F0, 4, rfl, B, by decide, fun z H4 z0 z1 B4 k4 => ⟨_, _, rfl, rfl, ?_⟩⟩
      obtain ⟨n1, rfl⟩ := box_nat z0
      refine ⟨b, F0, 1 + n1, rfl, B4, by omega, by omega, fun ins H5 hins lins nins B5 k5 => ?_⟩
      refine ⟨.ref b, rfl, .ref b, rfl, b, F0, 4, rfl, B5, by decide, fun z H6 z0 z1 B6 k6 => ⟨_, _, rfl, rfl, ?_⟩⟩
      obtain ⟨n2, rfl⟩ := box_nat z0
      refine ⟨b, F0, 1 + n2, rfl, B6, by omega, by omega, fun outs H7 houts louts nouts B7 k7 => ?_⟩
      refine ⟨b, F0, ins, outs, 6, rfl, B7, hins, houts, by decide, by decide, fun m am F H ei eo W _ _ d8 dm => ?_⟩
      have B := d8.bx
      obtain ⟨am', v3, v4, v5, ea, qa, p3, p4, p5⟩ := lm_dp dm
      cases ea
      have pm3 := p3
      have pm4 := p4
      have pm5 := p5
      obtain ⟨a5, xs5, rfl, q5, l5, f5⟩ := matS_at p5
      rw [rowsI_mat] at p3 p4
      rw [rowsS_mat] at p5
      obtain ⟨a3, ys3, rfl, q3, A3⟩ := dp_list p3
      obtain ⟨a4, ys4, rfl, q4, A4⟩ := dp_list p4
      obtain ⟨a5', ys5, ea5, q5', A5⟩ := dp_list p5
      cases ea5
      have w1 := W.left.most
      have w2 := W.right.most
      have w3 := W.tab
      have w4 := W.left.pos
      have w5 := W.right.pos
      obtain ⟨i1, i5⟩ := alpha_pos W.ins
      obtain ⟨o1, o5⟩ := alpha_pos W.outs
      have B0 := B.sub
      have hb := B.liv
      refine ⟨.ref am, rfl, am, _, 0, _, rfl, rfl, B0.seq qa, at_nat (i := 0) rfl, .ref am, rfl, am, _, 1, _, rfl, rfl, B0.seq qa, at_nat (i := 1) rfl, ?_⟩
      refine ⟨.ref am, rfl, am, _, 2, _, rfl, rfl, B0.seq qa, at_nat (i := 2) rfl, a3, rfl, ⟨ys3, B0.seq q3⟩, fun D3 n3 => ?_⟩
      refine lc_list (K := K) (a := a3) (xs := ys3) (fun i H4 => Gr H H D3 (rowsI m.left) i H4) (Gr.start n3 n3) (fun i H4 _ ⟨_, _, s⟩ => (B0.trans s).seq q3) ?_ ?_
      · intro i y H4 hy gr
        obtain ⟨e, hei, hye⟩ := dps_at A3 hy
        obtain ⟨ds, hds, rfl⟩ := map_get hei
        obtain ⟨c, ys, rfl, qy, Ay⟩ := dp_list hye
        have s4 : Same H H4 := by obtain ⟨_, _, s⟩ := gr; exact s
        exact ⟨rfl, .ref c, rfl, c, ys, rfl, .inl ((B0.trans s4).seq qy), fun l hl => gr.step n3 (by rw [rowsI_len]; omega) hds (rowsI_atom (List.mem_of_getElem? hds)) Ay hl (s4.free hl) rfl⟩
      intro H4 gr
      rw [dps_len A3, List.length_map] at gr
      obtain ⟨b3, g3, s4⟩ := gr.done
      have B4 := B0.trans s4
      refine ⟨.ref am, rfl, am, _, 3, _, rfl, rfl, B4.seq qa, at_nat (i := 3) rfl, a4, rfl, ⟨ys4, B4.seq q4⟩, fun D4 n4 => ?_⟩
      refine lc_list (K := K) (a := a4) (xs := ys4) (fun i H5 => Gr H4 H4 D4 (rowsI m.right) i H5) (Gr.start n4 n4) (fun i H5 _ ⟨_, _, s⟩ => (B4.trans s).seq q4) ?_ ?_
      · intro i y H5 hy gr
        obtain ⟨e, hei, hye⟩ := dps_at A4 hy
        obtain ⟨ds, hds, rfl⟩ := map_get hei
        obtain ⟨c, ys, rfl, qy, Ay⟩ := dp_list hye
        have s5 : Same H4 H5 := by obtain ⟨_, _, s⟩ := gr; exact s
        exact ⟨rfl, .ref c, rfl, c, ys, rfl, .inl ((B4.trans s5).seq qy), fun l hl => gr.step n4 (by rw [rowsI_len]; omega) hds (rowsI_atom (List.mem_of_getElem? hds)) Ay hl (s5.free hl) rfl⟩
      intro H5 gr
      rw [dps_len A4, List.length_map] at gr
      obtain ⟨b4, g4, s5⟩ := gr.done
      have B5 := B4.trans s5
      refine ⟨.ref am, rfl, am, _, 4, _, rfl, rfl, B5.seq qa, at_nat (i := 4) rfl, a5, rfl, ⟨ys5, B5.seq q5'⟩, fun D5 n5 => ?_⟩
      refine lc_list (K := K) (a := a5) (xs := ys5) (fun i H6 => Gr H5 H5 D5 (rowsS m.table) i H6) (Gr.start n5 n5) (fun i H6 _ ⟨_, _, s⟩ => (B5.trans s).seq q5') ?_ ?_
      · intro i y H6 hy gr
        obtain ⟨e, hei, hye⟩ := dps_at A5 hy
        obtain ⟨ds, hds, rfl⟩ := map_get hei
        obtain ⟨c, ys, rfl, qy, Ay⟩ := dp_list hye
        have s6 : Same H5 H6 := by obtain ⟨_, _, s⟩ := gr; exact s
        exact ⟨rfl, .ref c, rfl, c, ys, rfl, .inl ((B5.trans s6).seq qy), fun l hl => gr.step n5 (by rw [rowsS_len]; omega) hds (rowsS_atom (List.mem_of_getElem? hds)) Ay hl (s6.free hl) rfl⟩
      intro H6 gr
      rw [dps_len A5, List.length_map] at gr
      obtain ⟨b5, g5, s6⟩ := gr.done
      refine ⟨by show 5 ≤ sizeLine; decide, fun p np => ?_⟩
      have s7 := same_new (o := .lst [.str (S m.ins), .str (S m.outs), .ref D3, .ref D4, .ref D5]) np
      have s47 := s5.trans (s6.trans s7)
      have P7 : Pt H (upd H6 p (.lst [.str (S m.ins), .str (S m.outs), .ref D3, .ref D4, .ref D5])) p m D3 b3 D4 b4 D5 b5 :=
        ⟨upd_same, g3.same s47, (g4.same (s6.trans s7)).since s4, (g5.same s7).since (s4.trans s5), fun a ha hc => g3.live a ha (g4.new a hc), fun a ha hc => (g3.same s5).live a ha (g5.new a hc), fun a ha hc => g4.live a ha (g5.new a hc),
          (g3.same (s5.trans s6)).not np, (g4.same s6).not np, g5.not np, (s4.trans (s5.trans s6)).free np⟩
      have s07 := s4.trans s47
      have B7 := B.same s07
      have k07 : Keep b H _ := Keep.of s07
      generalize upd H6 p (.lst [.str (S m.ins), .str (S m.outs), .ref D3, .ref D4, .ref D5]) = H7 at P7 B7 k07

      clear s07 s47 s7 g3 g4 g5
      -- made
      refine ⟨.ref p, rfl, p, _, 0, _, rfl, rfl, SqL.of P7.top, at_nat (i := 0) rfl, .ref p, rfl, p, _, 1, _, rfl, rfl, SqL.of P7.top, at_nat (i := 1) rfl, .ref p, rfl, p, _, 2, _, rfl, rfl, SqL.of P7.top, at_nat (i := 2) rfl, .ref p, rfl, p, _, 3, _, rfl, rfl, SqL.of P7.top, at_nat (i := 3) rfl, .ref p, rfl, p, _, 4, _, rfl, rfl, SqL.of P7.top, at_nat (i := 4) rfl, ?_⟩
      intro x dx nx ndx hxd
      refine ⟨x, dx, T.C_Machine, H7, F, H7, .str (S m.ins), .str (S m.outs), .ref D3, .ref D4, .ref D5, .str (S m.ins), .str (S m.outs), _, _, _, rfl, rfl, nx, ndx, hxd,
        ⟨T.cl_Machine, T.na_Machine_reads, T.na_Machine_writes, T.na_Machine_left, T.na_Machine_right, T.na_Machine_table⟩, B7.sub, Same.refl H7, .str _, .str _, P7.g3.dp, P7.g4.dp, P7.g5.dp, small_ab W.ins, small_ab W.outs, by rw [← rowsS_mat]; exact wf_small W,
        fun hm H9 F9 s9 g9 f9 M hx => ⟨rfl, ?_⟩, fun hm => absurd ((wf_parts W).symm.trans hm) (by decide)⟩
      rw [← rowsI_mat, ← rowsI_mat, ← rowsS_mat] at M
      have M : MAt K F9 x m := M
      have B9 := B7.pure s9 g9 f9
      have P9 := P7.same s9
      have off : ∀ {a : Addr}, H a = none → H7 a ≠ none → F9 a = none ∧ b ≠ a := fun h l => ⟨g9.off _ l (B.sub.free h), fun e => hb (e ▸ h)⟩
      have dm9 := dp_mono g9.same dm
      have pm3 := dp_mono g9.same pm3
      have pm4 := dp_mono g9.same pm4
      have pm5 := dp_mono g9.same pm5
      have qa := g9.same.seq qa
      -- handed[2][0][0] = 77
      obtain ⟨r3, hr3⟩ := get_lt (show 0 < m.left.length by omega)
      obtain ⟨c3, e31, e32, e33, _⟩ := P9.g3.get (get_rowsI hr3)
      have m3 : c3 ∈ D3 :: b3 := List.mem_cons_of_mem _ (List.mem_of_getElem? e31)
      have l3 := (W.left.row r3 (List.mem_of_getElem? hr3)).1
      refine ⟨.ref p, rfl, p, _, 2, _, rfl, rfl, SqL.of P9.top, at_nat (i := 2) rfl, D3, _, _, _, rfl, rfl, SqL.of P9.g3.at', at_nat (i := 0) e32, c3, _, _, 0, rfl, rfl, e33, ixN_n (j := 0) (by rw [List.length_map, intsD_len]; omega), ?_⟩
      obtain ⟨x1, x2⟩ := off (P7.g3.new c3 m3) (P7.g3.live c3 m3)
      have B10 := B9.off (o := .lst (((intsD r3).map atomV).set 0 (.int 77))) x1 x2
      have g4 := P9.g4.off (o := .lst (((intsD r3).map atomV).set 0 (.int 77))) (P9.n34 c3 m3)
      have g5 := P9.g5.off (o := .lst (((intsD r3).map atomV).set 0 (.int 77))) (P9.n35 c3 m3)
      have top : upd H9 c3 (.lst (((intsD r3).map atomV).set 0 (.int 77))) p = some (.lst [.str (S m.ins), .str (S m.outs), .ref D3, .ref D4, .ref D5]) := by
        rw [upd_ne (fun z => P9.p3 (by rw [z]; exact m3))]
        exact P9.top
      generalize upd H9 c3 (.lst (((intsD r3).map atomV).set 0 (.int 77))) = H10 at B10 g4 g5 top ⊢
      -- handed[3].append([])
      refine ⟨.ref p, rfl, p, _, 3, _, rfl, rfl, SqL.of top, at_nat (i := 3) rfl, .inl ⟨rfl, _, SqL.of g4.at'⟩, Nat.zero_le _, fun l nl => ?_⟩
      have sl := same_new (o := .lst []) nl
      refine ⟨D4, _, _, rfl, rfl, sl _ _ g4.at', by rw [List.length_map, g4.len, rowsI_len]; exact lim5 (by omega), ?_⟩
      obtain ⟨x1, x2⟩ := off (P7.g4.new D4 List.mem_cons_self) (P7.g4.live D4 List.mem_cons_self)
      have B11 := (B10.same sl).off (o := .lst (b4.map V.ref ++ [.ref l])) x1 x2
      have g5 := (g5.same sl).off (o := .lst (b4.map V.ref ++ [.ref l])) (P9.n45 D4 List.mem_cons_self)
      have top : upd (upd H10 l (.lst [])) D4 (.lst (b4.map V.ref ++ [.ref l])) p = some (.lst [.str (S m.ins), .str (S m.outs), .ref D3, .ref D4, .ref D5]) := by
        rw [upd_ne (fun z => P9.p4 (by rw [z]; exact List.mem_cons_self))]
        exact sl _ _ top
      generalize upd (upd H10 l (.lst [])) D4 (.lst (b4.map V.ref ++ [.ref l])) = H11 at B11 g5 top ⊢
      -- handed[4][0][0] = ''
      obtain ⟨r5, hr5⟩ := get_lt (show 0 < m.table.length by omega)
      obtain ⟨c5, e51, e52, e53, _⟩ := g5.get (get_rowsS hr5)
      have m5 : c5 ∈ D5 :: b5 := List.mem_cons_of_mem _ (List.mem_of_getElem? e51)
      have l5 := (W.row r5 (List.mem_of_getElem? hr5)).1
      refine ⟨.ref p, rfl, p, _, 4, _, rfl, rfl, SqL.of top, at_nat (i := 4) rfl, D5, _, _, _, rfl, rfl, SqL.of g5.at', at_nat (i := 0) e52, c5, _, _, 0, rfl, rfl, e53, ixN_n (j := 0) (by rw [List.length_map, strsD_len]; omega), ?_⟩
      obtain ⟨x1, x2⟩ := off (P7.g5.new c5 m5) (P7.g5.live c5 m5)
      have B12 := B11.off (o := .lst (((strsD r5).map atomV).set 0 (.str (Str.ofString "")))) x1 x2
      generalize upd H11 c5 (.lst (((strsD r5).map atomV).set 0 (.str (Str.ofString "")))) = H12 at B12 ⊢
      -- form(made)
      have su := B12.sub
      refine ⟨.ref x, rfl, x, m, rfl, M.mono su, W, fun u1 H13 s13 du1 => ⟨.ref am, rfl, .ref am, m, rfl, dp_mono (su.trans s13) dm9, W, fun u2 H14 s14 du2 => ?_⟩⟩
      have su := su.trans (s13.trans s14)
      refine ⟨_, _, dp_mono s14 du1, du2, (form_shaped W).2, (form_shaped W).2, _, rfl, ite2 (fun h => ?_) (fun _ => ?_)⟩
      · rw [form_eqv W] at h
        exact absurd h (by decide)
      obtain ⟨C, dx', fs, w3', w4', w5', f⟩ := mat_fld (M.mono su)
      refine ⟨.ref x, rfl, x, C, dx', fs, _, rfl, f.at', f.c.cl, f.c.n1, f.l1, .ref am, rfl, am, _, 0, _, rfl, rfl, su.seq qa, at_nat (i := 0) rfl, rfl, _, rfl, ite2 (fun h => (v_no h).elim) (fun _ => ?_)⟩
      refine ⟨.ref x, rfl, x, C, dx', fs, _, rfl, f.at', f.c.cl, f.c.n2, f.l2, .ref am, rfl, am, _, 1, _, rfl, rfl, su.seq qa, at_nat (i := 1) rfl, rfl, _, rfl, ite2 (fun h => (v_no h).elim) (fun _ => ?_)⟩
      -- the fields
      refine ⟨.ref x, rfl, x, C, dx', fs, _, rfl, f.at', f.c.cl, f.c.n3, f.l3, .ref x, rfl, x, C, dx', fs, _, rfl, f.at', f.c.cl, f.c.n4, f.l4, .ref x, rfl, x, C, dx', fs, _, rfl, f.at', f.c.cl, f.c.n5, f.l5, by show 3 ≤ sizeLine; decide, fun t1 nt1 => ?_⟩
      have st1 := same_new (o := .lst [w3', w4', w5']) nt1
      have su1 := su.trans st1
      refine ⟨.ref am, rfl, am, _, 2, _, rfl, rfl, su1.seq qa, at_nat (i := 2) rfl, .ref am, rfl, am, _, 3, _, rfl, rfl, su1.seq qa, at_nat (i := 3) rfl, .ref am, rfl, am, _, 4, _, rfl, rfl, su1.seq qa, at_nat (i := 4) rfl, by show 3 ≤ sizeLine; decide, fun t2 nt2 => ?_⟩
      have st2 := same_new (o := .lst [V.ref a3, .ref a4, .ref a5]) nt2
      have su2 := su1.trans st2
      refine ⟨triD m, triD m, .lst (SqL.of (st2 _ _ upd_same)) (.cons (dp_mono (st1.trans st2) f.p3) (.cons (dp_mono (st1.trans st2) f.p4) (.cons (dp_mono (st1.trans st2) f.p5) .nil))), .lst (SqL.of upd_same) (.cons (dp_mono su2 pm3) (.cons (dp_mono su2 pm4) (.cons (dp_mono su2 pm5) .nil))), (tri_shaped W).2, (tri_shaped W).2, _, rfl, ite2 (fun h => ?_) (fun _ => ?_)⟩
      · rw [PySem.SeqAt.eqv_refl _ (tri_shaped W).1] at h
        exact absurd h (by decide)
      have B16 := B12.same (s13.trans (s14.trans (st1.trans st2)))
      -- spoiled
      refine ⟨.ref b, rfl, .ref am, rfl, b, F9, .ref am, m, rfl, B16, dm9, W, by rw [eo]; exact nouts, fun p' H17 r' o' l' g' t' B17 k17 dp bad z1 z2 z3 zr zo zt => ?_⟩
      refine ⟨.ref p', r', o', l', g', t', rfl, dp, zr, zo, zt, bad, fun H18 s18 => ?_⟩
      refine ⟨rfl, _, rfl, ite2 (fun h => (v_no h).elim) (fun _ => ?_)⟩
      exact ⟨F9, _, _, _, _, rfl, B17.same s18⟩
    · rintro σ H5 ⟨F, y2, y3, y4, y5, rfl, B⟩
      exact qfin H5
end
end Fo
namespace Fo
open PySem PySem.Spec PyProof.Rows L2 TL
theorem all_mk {l : PySem.W.OpenLaw} {w : World} {K : PySem.W.Frag} {h : Heap} {mg : Str → Option Value} {fa : Addr} (X : K.In h) (G : h.Ns mainGlobals mg) (hfa : mg "law" = some (.ref fa))
    {f0 : Addr} {od0 an0 : Option Addr} {sl0 : Array (Option Value)} {oc0 kV0 dc0 pm0 cd0 ct0 : Value}
    (a0 : PySem.W.nsIn K mainGlobals "_law_cell" = some (some (.ref f0))) (l0 : K.lookup f0 = some ⟨oc0, od0, .func (PySem.W.fnOf "_law_cell" "_law_cell" (defArgs s_law_cell) (defBody s_law_cell) (defScope s_law_cell) .none kV0 dc0 pm0 an0 cd0 ct0), sl0⟩) (c0 : PySem.W.codeIn K cd0 "_law_cell" = true) (k0 : PySem.W.keepIn K (.ref f0) = true)
    {f1 : Addr} {od1 an1 : Option Addr} {sl1 : Array (Option Value)} {oc1 kV1 dc1 pm1 cd1 ct1 : Value}
    (a1 : PySem.W.nsIn K mainGlobals "_law_row" = some (some (.ref f1))) (l1 : K.lookup f1 = some ⟨oc1, od1, .func (PySem.W.fnOf "_law_row" "_law_row" (defArgs s_law_row) (defBody s_law_row) (defScope s_law_row) .none kV1 dc1 pm1 an1 cd1 ct1), sl1⟩) (c1 : PySem.W.codeIn K cd1 "_law_row" = true) (k1 : PySem.W.keepIn K (.ref f1) = true)
    {f2 : Addr} {od2 an2 : Option Addr} {sl2 : Array (Option Value)} {oc2 kV2 dc2 pm2 cd2 ct2 : Value}
    (a2 : PySem.W.nsIn K mainGlobals "_law_draw" = some (some (.ref f2))) (l2 : K.lookup f2 = some ⟨oc2, od2, .func (PySem.W.fnOf "_law_draw" "_law_draw" (defArgs s_law_draw) (defBody s_law_draw) (defScope s_law_draw) .none kV2 dc2 pm2 an2 cd2 ct2), sl2⟩) (c2 : PySem.W.codeIn K cd2 "_law_draw" = true) (k2 : PySem.W.keepIn K (.ref f2) = true)
    {f3 : Addr} {od3 an3 : Option Addr} {sl3 : Array (Option Value)} {oc3 kV3 dc3 pm3 cd3 ct3 : Value}
    (a3 : PySem.W.nsIn K mainGlobals "_law_alphabet" = some (some (.ref f3))) (l3 : K.lookup f3 = some ⟨oc3, od3, .func (PySem.W.fnOf "_law_alphabet" "_law_alphabet" (defArgs s_law_alphabet) (defBody s_law_alphabet) (defScope s_law_alphabet) .none kV3 dc3 pm3 an3 cd3 ct3), sl3⟩) (c3 : PySem.W.codeIn K cd3 "_law_alphabet" = true) (k3 : PySem.W.keepIn K (.ref f3) = true)
    {f4 : Addr} {od4 an4 : Option Addr} {sl4 : Array (Option Value)} {oc4 kV4 dc4 pm4 cd4 ct4 : Value}
    (a4 : PySem.W.nsIn K mainGlobals "_law_states" = some (some (.ref f4))) (l4 : K.lookup f4 = some ⟨oc4, od4, .func (PySem.W.fnOf "_law_states" "_law_states" (defArgs s_law_states) (defBody s_law_states) (defScope s_law_states) .none kV4 dc4 pm4 an4 cd4 ct4), sl4⟩) (c4 : PySem.W.codeIn K cd4 "_law_states" = true) (k4 : PySem.W.keepIn K (.ref f4) = true)
    {f5 : Addr} {od5 an5 : Option Addr} {sl5 : Array (Option Value)} {oc5 kV5 dc5 pm5 cd5 ct5 : Value}
    (a5 : PySem.W.nsIn K mainGlobals "_law_machine" = some (some (.ref f5))) (l5 : K.lookup f5 = some ⟨oc5, od5, .func (PySem.W.fnOf "_law_machine" "_law_machine" (defArgs s_law_machine) (defBody s_law_machine) (defScope s_law_machine) .none kV5 dc5 pm5 an5 cd5 ct5), sl5⟩) (c5 : PySem.W.codeIn K cd5 "_law_machine" = true) (k5 : PySem.W.keepIn K (.ref f5) = true)
    {f6 : Addr} {od6 an6 : Option Addr} {sl6 : Array (Option Value)} {oc6 kV6 dc6 pm6 cd6 ct6 : Value}
    (a6 : PySem.W.nsIn K mainGlobals "is_alphabet" = some (some (.ref f6))) (l6 : K.lookup f6 = some ⟨oc6, od6, .func (PySem.W.fnOf "is_alphabet" "is_alphabet" (defArgs s_is_alphabet) (defBody s_is_alphabet) (defScope s_is_alphabet) .none kV6 dc6 pm6 an6 cd6 ct6), sl6⟩) (c6 : PySem.W.codeIn K cd6 "is_alphabet" = true) (k6 : PySem.W.keepIn K (.ref f6) = true)
    {f7 : Addr} {od7 an7 : Option Addr} {sl7 : Array (Option Value)} {oc7 kV7 dc7 pm7 cd7 ct7 : Value}
    (a7 : PySem.W.nsIn K mainGlobals "_is_state_row" = some (some (.ref f7))) (l7 : K.lookup f7 = some ⟨oc7, od7, .func (PySem.W.fnOf "_is_state_row" "_is_state_row" (defArgs s_is_state_row) (defBody s_is_state_row) (defScope s_is_state_row) .none kV7 dc7 pm7 an7 cd7 ct7), sl7⟩) (c7 : PySem.W.codeIn K cd7 "_is_state_row" = true) (k7 : PySem.W.keepIn K (.ref f7) = true)
    {f8 : Addr} {od8 an8 : Option Addr} {sl8 : Array (Option Value)} {oc8 kV8 dc8 pm8 cd8 ct8 : Value}
    (a8 : PySem.W.nsIn K mainGlobals "_are_transitions" = some (some (.ref f8))) (l8 : K.lookup f8 = some ⟨oc8, od8, .func (PySem.W.fnOf "_are_transitions" "_are_transitions" (defArgs s_are_transitions) (defBody s_are_transitions) (defScope s_are_transitions) .none kV8 dc8 pm8 an8 cd8 ct8), sl8⟩) (c8 : PySem.W.codeIn K cd8 "_are_transitions" = true) (k8 : PySem.W.keepIn K (.ref f8) = true)
    {f9 : Addr} {od9 an9 : Option Addr} {sl9 : Array (Option Value)} {oc9 kV9 dc9 pm9 cd9 ct9 : Value}
    (a9 : PySem.W.nsIn K mainGlobals "is_word" = some (some (.ref f9))) (l9 : K.lookup f9 = some ⟨oc9, od9, .func (PySem.W.fnOf "is_word" "is_word" (defArgs s_is_word) (defBody s_is_word) (defScope s_is_word) .none kV9 dc9 pm9 an9 cd9 ct9), sl9⟩) (c9 : PySem.W.codeIn K cd9 "is_word" = true) (k9 : PySem.W.keepIn K (.ref f9) = true)
    {f10 : Addr} {od10 an10 : Option Addr} {sl10 : Array (Option Value)} {oc10 kV10 dc10 pm10 cd10 ct10 : Value}
    (a10 : PySem.W.nsIn K mainGlobals "_is_table_row" = some (some (.ref f10))) (l10 : K.lookup f10 = some ⟨oc10, od10, .func (PySem.W.fnOf "_is_table_row" "_is_table_row" (defArgs s_is_table_row) (defBody s_is_table_row) (defScope s_is_table_row) .none kV10 dc10 pm10 an10 cd10 ct10), sl10⟩) (c10 : PySem.W.codeIn K cd10 "_is_table_row" = true) (k10 : PySem.W.keepIn K (.ref f10) = true)
    {f11 : Addr} {od11 an11 : Option Addr} {sl11 : Array (Option Value)} {oc11 kV11 dc11 pm11 cd11 ct11 : Value}
    (a11 : PySem.W.nsIn K mainGlobals "_is_machine" = some (some (.ref f11))) (l11 : K.lookup f11 = some ⟨oc11, od11, .func (PySem.W.fnOf "_is_machine" "_is_machine" (defArgs s_is_machine) (defBody s_is_machine) (defScope s_is_machine) .none kV11 dc11 pm11 an11 cd11 ct11), sl11⟩) (c11 : PySem.W.codeIn K cd11 "_is_machine" = true) (k11 : PySem.W.keepIn K (.ref f11) = true)
    {f12 : Addr} {od12 an12 : Option Addr} {sl12 : Array (Option Value)} {oc12 kV12 dc12 pm12 cd12 ct12 : Value}
    (a12 : PySem.W.nsIn K mainGlobals "form" = some (some (.ref f12))) (l12 : K.lookup f12 = some ⟨oc12, od12, .func (PySem.W.fnOf "form" "form" (defArgs s_form) (defBody s_form) (defScope s_form) .none kV12 dc12 pm12 an12 cd12 ct12), sl12⟩) (c12 : PySem.W.codeIn K cd12 "form" = true) (k12 : PySem.W.keepIn K (.ref f12) = true)
    {f13 : Addr} {od13 an13 : Option Addr} {sl13 : Array (Option Value)} {oc13 kV13 dc13 pm13 cd13 ct13 : Value}
    (a13 : PySem.W.nsIn K mainGlobals "_law_form" = some (some (.ref f13))) (l13 : K.lookup f13 = some ⟨oc13, od13, .func (PySem.W.fnOf "_law_form" "_law_form" (defArgs s_law_form) (defBody s_law_form) (defScope s_law_form) .none kV13 dc13 pm13 an13 cd13 ct13), sl13⟩) (c13 : PySem.W.codeIn K cd13 "_law_form" = true) (k13 : PySem.W.keepIn K (.ref f13) = true)
    {f14 : Addr} {od14 an14 : Option Addr} {sl14 : Array (Option Value)} {oc14 kV14 dc14 pm14 cd14 ct14 : Value}
    (a14 : PySem.W.nsIn K mainGlobals "_law_spoiled" = some (some (.ref f14))) (l14 : K.lookup f14 = some ⟨oc14, od14, .func (PySem.W.fnOf "_law_spoiled" "_law_spoiled" (defArgs s_law_spoiled) (defBody s_law_spoiled) (defScope s_law_spoiled) .none kV14 dc14 pm14 an14 cd14 ct14), sl14⟩) (c14 : PySem.W.codeIn K cd14 "_law_spoiled" = true) (k14 : PySem.W.keepIn K (.ref f14) = true)
    {f15 : Addr} {od15 an15 : Option Addr} {sl15 : Array (Option Value)} {oc15 kV15 dc15 pm15 cd15 ct15 : Value}
    (a15 : PySem.W.nsIn K mainGlobals "_law_told" = some (some (.ref f15))) (l15 : K.lookup f15 = some ⟨oc15, od15, .func (PySem.W.fnOf "_law_told" "_law_told" (defArgs s_law_told) (defBody s_law_told) (defScope s_law_told) .none kV15 dc15 pm15 an15 cd15 ct15), sl15⟩) (c15 : PySem.W.codeIn K cd15 "_law_told" = true) (k15 : PySem.W.keepIn K (.ref f15) = true)
    {f16 : Addr} {od16 an16 : Option Addr} {sl16 : Array (Option Value)} {oc16 kV16 dc16 pm16 cd16 ct16 : Value}
    (a16 : PySem.W.nsIn K mainGlobals "law" = some (some (.ref f16))) (l16 : K.lookup f16 = some ⟨oc16, od16, .func (PySem.W.fnOf "law" "law" (defArgs s_law) (defBody s_law) (defScope s_law) .none kV16 dc16 pm16 an16 cd16 ct16), sl16⟩) (c16 : PySem.W.codeIn K cd16 "law" = true) (k16 : PySem.W.keepIn K (.ref f16) = true)
    {C_Machine f_Machine_init : Addr} {od_Machine_init an_Machine_init : Option Addr} {sl_Machine_init : Array (Option Value)} {oc_Machine_init kV_Machine_init dc_Machine_init pm_Machine_init cd_Machine_init ct_Machine_init : Value}
    (aC_Machine : PySem.W.nsIn K mainGlobals "Machine" = some (some (.ref C_Machine))) (a_Machine_init : PySem.W.findIn K (.ref C_Machine) "__init__" = some (some (.ref f_Machine_init))) (i_Machine_init : PySem.W.isFn K (.ref f_Machine_init) = true)
    (l_Machine_init : K.lookup f_Machine_init = some ⟨oc_Machine_init, od_Machine_init, .func (PySem.W.fnOf "__init__" "Machine.__init__" (defArgs s_Machine_init) (defBody s_Machine_init) (defScope s_Machine_init) .none kV_Machine_init dc_Machine_init pm_Machine_init an_Machine_init cd_Machine_init ct_Machine_init), sl_Machine_init⟩) (c_Machine_init : PySem.W.codeIn K cd_Machine_init "Machine.__init__" = true) (k_Machine_init : PySem.W.keepIn K (.ref f_Machine_init) = true)
    (pg_Machine : PySem.W.plainGet K C_Machine Str.empty = true) (hd_Machine : PySem.W.hasDictIn K C_Machine = true) (po_Machine : PySem.W.plainOver K C_Machine = true) (sa_Machine : PySem.W.findIn K (.ref C_Machine) "__setattr__" = some (some (.builtin "object.__setattr__"))) (mk_Machine : PySem.W.makesIn K C_Machine = true) (kc_Machine : PySem.W.keepIn K (.ref C_Machine) = true)
    (na_Machine_reads : PySem.W.findIn K (.ref C_Machine) "reads" = some none)
    (na_Machine_writes : PySem.W.findIn K (.ref C_Machine) "writes" = some none)
    (na_Machine_left : PySem.W.findIn K (.ref C_Machine) "left" = some none)
    (na_Machine_right : PySem.W.findIn K (.ref C_Machine) "right" = some none)
    (na_Machine_table : PySem.W.findIn K (.ref C_Machine) "table" = some none)
    (ih_Machine : PySem.W.findIn K (.ref C_Machine) "__class__" = some (some (.builtin "object.__class__"))) (in_Machine : PySem.W.specialIn K (.builtin "object.__class__") "__get__" = some (some (.builtin "getset_descriptor.__get__"))) (it_Machine : PySem.W.takesIn K (.builtin "object.__class__") = some true) (im_Machine : PySem.W.mroIn K C_Machine (.type "object") = some true)
    {C_MachineError f_MachineError cc_MachineError cda_MachineError N_MachineError : Addr} {nm_MachineError qn_MachineError : Str} {bs_MachineError bm_MachineError sub_MachineError : List Value} {sn_MachineError : List Str} {ab_MachineError : Bool} {col_MachineError : Option Bool} {dd_MachineError od_MachineError an_MachineError cld_MachineError cdd_MachineError : Option Addr} {k0_MachineError k1_MachineError k2_MachineError k3_MachineError k5_MachineError : Option Value} {osl_MachineError csl_MachineError ccs_MachineError : Array (Option Value)} {oc_MachineError kV_MachineError doc_MachineError pm_MachineError ct_MachineError cl_MachineError ccl_MachineError : Value} {vs_MachineError : Array Value} {file_MachineError : Str} {tf_MachineError : Tok}
    (aC_MachineError : PySem.W.nsIn K mainGlobals "MachineError" = some (some (.ref C_MachineError))) (xL_MachineError : K.lookup C_MachineError = some (excClassObj nm_MachineError qn_MachineError C_MachineError N_MachineError bs_MachineError bm_MachineError true sn_MachineError sub_MachineError ab_MachineError col_MachineError dd_MachineError k0_MachineError k1_MachineError k2_MachineError k3_MachineError k5_MachineError "ValueError.__new__")) (vB_MachineError : PySem.HandSPX.refsVE bm_MachineError = true)
    (sa_MachineError : PySem.W.findIn K (.ref C_MachineError) "__setattr__" = some (some (.builtin "object.__setattr__"))) (ga_MachineError : PySem.W.findIn K (.ref C_MachineError) "__getattribute__" = some (some (.builtin "BaseException.__getattribute__"))) (gg_MachineError : PySem.W.findIn K (.ref C_MachineError) "__getattr__" = some none) (no_MachineError : PySem.W.findIn K (.ref C_MachineError) "reason" = some none)
    (eC_MachineError : PySem.W.subIn K (.ref C_MachineError) (.type "BaseException") = some true) (tC_MachineError : PySem.W.typeIn K (.ref C_MachineError) = some (.type "type")) (kC_MachineError : PySem.W.keepIn K (.ref C_MachineError) = true) (hC_MachineError : PySem.W.hasDictIn K C_MachineError = true) (iC_MachineError : PySem.W.isClsIn K C_MachineError = true) (sC_MachineError : PySem.W.subIn K (.ref C_MachineError) (.ref C_MachineError) = some true)
    (a_MachineError : PySem.W.findIn K (.ref C_MachineError) "__init__" = some (some (.ref f_MachineError))) (t_MachineError : PySem.W.typeIn K (.ref f_MachineError) = some (.type "function"))
    (l_MachineError : K.lookup f_MachineError = some ⟨oc_MachineError, od_MachineError, .func (PySem.W.ksFn "__init__" "MachineError.__init__" (defArgs si_MachineError) (defBody si_MachineError) (defScope si_MachineError) .none kV_MachineError doc_MachineError pm_MachineError an_MachineError (.ref cda_MachineError) ct_MachineError cc_MachineError), osl_MachineError⟩)
    (ce_MachineError : K.lookup cc_MachineError = some ⟨cl_MachineError, cld_MachineError, .cell (some (.ref C_MachineError)), csl_MachineError⟩) (co_MachineError : K.lookup cda_MachineError = some ⟨ccl_MachineError, cdd_MachineError, .fields vs_MachineError, ccs_MachineError⟩) (vs2_MachineError : vs_MachineError[2]? = some (.str file_MachineError tf_MachineError)) (fi_MachineError : ((l.prog.main.file : Str) == file_MachineError) = true) (cd_MachineError : PySem.W.codeIn K (.ref cda_MachineError) "MachineError.__init__" = true)
    (mr_MachineError : PySem.W.mroIn K C_MachineError (.ref C_MachineError) = some true) (hm_MachineError : PySem.W.ks_superIn K C_MachineError C_MachineError "__init__" = some (some (.builtin "ValueError.__init__"))) (hB_MachineError : PySem.W.subIn K (.ref C_MachineError) (.type "ValueError") = some true)
    (ih_MachineError : PySem.W.findIn K (.ref C_MachineError) "__class__" = some (some (.builtin "object.__class__"))) (in_MachineError : PySem.W.specialIn K (.builtin "object.__class__") "__get__" = some (some (.builtin "getset_descriptor.__get__"))) (it_MachineError : PySem.W.takesIn K (.builtin "object.__class__") = some true) (im_MachineError : PySem.W.mroIn K C_MachineError (.type "object") = some true)
    {C_ForeaftError : Addr} (aC_ForeaftError : PySem.W.nsIn K mainGlobals "ForeaftError" = some (some (.ref C_ForeaftError))) (iC_ForeaftError : PySem.W.isClsIn K C_ForeaftError = true) (tC_ForeaftError : PySem.W.typeIn K (.ref C_ForeaftError) = some (.type "type"))
    {C_BookError : Addr} (aC_BookError : PySem.W.nsIn K mainGlobals "BookError" = some (some (.ref C_BookError))) (iC_BookError : PySem.W.isClsIn K C_BookError = true) (tC_BookError : PySem.W.typeIn K (.ref C_BookError) = some (.type "type"))
    (su_MachineError_ForeaftError : PySem.W.subIn K (.ref C_MachineError) (.ref C_ForeaftError) = some true) (nq_MachineError_ForeaftError : (Value.ref C_MachineError == Value.ref C_ForeaftError) = false)
    (su_MachineError_BookError : PySem.W.subIn K (.ref C_MachineError) (.ref C_BookError) = some false) (nq_MachineError_BookError : (Value.ref C_MachineError == Value.ref C_BookError) = false)
    (tp : (l.prog.main.scope.names.lookup ("super" : Str)).isSome = false) (z_super : PySem.W.nsIn K mainGlobals "super" = some none) (ho : PySem.W.nsIn K cStatics "thirdparty.any" = some none)
    (z_ValueError : PySem.W.nsIn K mainGlobals "ValueError" = some none)
    (z_abs : PySem.W.nsIn K mainGlobals "abs" = some none)
    (z_all : PySem.W.nsIn K mainGlobals "all" = some none)
    (z_enumerate : PySem.W.nsIn K mainGlobals "enumerate" = some none)
    (z_int : PySem.W.nsIn K mainGlobals "int" = some none)
    (z_isinstance : PySem.W.nsIn K mainGlobals "isinstance" = some none)
    (z_len : PySem.W.nsIn K mainGlobals "len" = some none)
    (z_list : PySem.W.nsIn K mainGlobals "list" = some none)
    (z_range : PySem.W.nsIn K mainGlobals "range" = some none)
    (z_str : PySem.W.nsIn K mainGlobals "str" = some none)
    (z_tuple : PySem.W.nsIn K mainGlobals "tuple" = some none)
    (z_type : PySem.W.nsIn K mainGlobals "type" = some none)
    {t_LETTERS : Tok} (g_LETTERS : PySem.W.nsIn K mainGlobals "LETTERS" = some (some (Value.str "abcdefghijklmnopqrstuvwxyz" t_LETTERS)))
    {t_MOST_LETTERS : Tok} (g_MOST_LETTERS : PySem.W.nsIn K mainGlobals "MOST_LETTERS" = some (some (Value.int 5 t_MOST_LETTERS)))
    {t_MOST_STATES : Tok} (g_MOST_STATES : PySem.W.nsIn K mainGlobals "MOST_STATES" = some (some (Value.int 40 t_MOST_STATES))) :
    ∃ fd : FuncData, (∀ (s : Shared) (v : Value), BindsTo s fd ⟨[v], []⟩ [("script", v)]) ∧ ∀ base : Heap, K.In base → base.Ns mainGlobals mg → FnOk l.prog w K mg base CX0 8 fa fd ["script"] (sp_law K) := by
  have e := hfa.symm.trans (PySem.W.mg_of X G a16)
  cases e
  have F0 := fun_mk (st := s_law_cell) l0 c0 k0
  have b0 := F0.binds (ps := ["script", "k"]) fun _ _ _ _ _ _ us hl => match us, hl with | [_, _], _ => rfl
  have F1 := fun_mk (st := s_law_row) l1 c1 k1
  have b1 := F1.binds (ps := ["script", "first", "last"]) fun _ _ _ _ _ _ us hl => match us, hl with | [_, _, _], _ => rfl
  have F2 := fun_mk (st := s_law_draw) l2 c2 k2
  have b2 := F2.binds (ps := ["box", "many"]) fun _ _ _ _ _ _ us hl => match us, hl with | [_, _], _ => rfl
  have F3 := fun_mk (st := s_law_alphabet) l3 c3 k3
  have b3 := F3.binds (ps := ["box", "many"]) fun _ _ _ _ _ _ us hl => match us, hl with | [_, _], _ => rfl
  have F4 := fun_mk (st := s_law_states) l4 c4 k4
  have b4 := F4.binds (ps := ["box", "many", "letters"]) fun _ _ _ _ _ _ us hl => match us, hl with | [_, _, _], _ => rfl
  have F5 := fun_mk (st := s_law_machine) l5 c5 k5
  have b5 := F5.binds (ps := ["box", "ins", "outs", "most"]) fun _ _ _ _ _ _ us hl => match us, hl with | [_, _, _, _], _ => rfl
  have F6 := fun_mk (st := s_is_alphabet) l6 c6 k6
  have b6 := F6.binds (ps := ["thing"]) fun _ _ _ _ _ _ us hl => match us, hl with | [_], _ => rfl
  have F7 := fun_mk (st := s_is_state_row) l7 c7 k7
  have b7 := F7.binds (ps := ["row", "letters", "states"]) fun _ _ _ _ _ _ us hl => match us, hl with | [_, _, _], _ => rfl
  have F8 := fun_mk (st := s_are_transitions) l8 c8 k8
  have b8 := F8.binds (ps := ["rows", "letters"]) fun _ _ _ _ _ _ us hl => match us, hl with | [_, _], _ => rfl
  have F9 := fun_mk (st := s_is_word) l9 c9 k9
  have b9 := F9.binds (ps := ["alphabet", "thing"]) fun _ _ _ _ _ _ us hl => match us, hl with | [_, _], _ => rfl
  have F10 := fun_mk (st := s_is_table_row) l10 c10 k10
  have b10 := F10.binds (ps := ["row", "states", "letters", "writes"]) fun _ _ _ _ _ _ us hl => match us, hl with | [_, _, _, _], _ => rfl
  have F11 := fun_mk (st := s_is_machine) l11 c11 k11
  have b11 := F11.binds (ps := ["reads", "writes", "left", "right", "table"]) fun _ _ _ _ _ _ us hl => match us, hl with | [_, _, _, _, _], _ => rfl
  have F12 := fun_mk (st := s_form) l12 c12 k12
  have b12 := F12.binds (ps := ["machine"]) fun _ _ _ _ _ _ us hl => match us, hl with | [_], _ => rfl
  have F13 := fun_mk (st := s_law_form) l13 c13 k13
  have b13 := F13.binds (ps := ["m"]) fun _ _ _ _ _ _ us hl => match us, hl with | [_], _ => rfl
  have F14 := fun_mk (st := s_law_spoiled) l14 c14 k14
  have b14 := F14.binds (ps := ["box", "m"]) fun _ _ _ _ _ _ us hl => match us, hl with | [_, _], _ => rfl
  have F15 := fun_mk (st := s_law_told) l15 c15 k15
  have b15 := F15.binds (ps := ["parts"]) fun _ _ _ _ _ _ us hl => match us, hl with | [_], _ => rfl
  have F16 := fun_mk (st := s_law) l16 c16 k16
  have b16 := F16.binds (ps := ["script"]) fun _ _ _ _ _ _ us hl => match us, hl with | [_], _ => rfl
  have F_Machine_init := fun_mk (st := s_Machine_init) l_Machine_init c_Machine_init k_Machine_init
  have b_Machine_init := F_Machine_init.binds (ps := ["self", "reads", "writes", "left", "right", "table"]) fun _ _ _ _ _ _ us hl => match us, hl with | [_, _, _, _, _, _], _ => rfl
  have oex_MachineError : OexC K C_MachineError := ⟨⟨_, _, _, _, _, _, _, _, _, _, _, _, _, _, _, xL_MachineError, vB_MachineError⟩, sa_MachineError, eC_MachineError, tC_MachineError, kC_MachineError⟩
  have S_MachineError := sup_of (f := f_MachineError) (scope := defScope si_MachineError) xL_MachineError oex_MachineError ce_MachineError co_MachineError vs2_MachineError fi_MachineError cd_MachineError mr_MachineError tp (PySem.W.mg_none_of X G z_super) hm_MachineError hB_MachineError ho no_MachineError
  have ok_MachineError : ∀ (w : World) (base : Heap), FnOk l.prog w K mg base CX0 1 f_MachineError _ ["self", "reason"] (sp_sup C_MachineError) := fun w base => ok_sup l_MachineError S_MachineError rfl rfl rfl rfl rfl rfl (by decide +kernel) rfl rfl rfl rfl (fun _ => rfl) (fun _ => rfl) (fun _ => rfl)
  let T : Tx l.prog K mg := ⟨f0, _, ⟨F0, PySem.W.mg_of X G a0, b0⟩, f1, _, ⟨F1, PySem.W.mg_of X G a1, b1⟩, f2, _, ⟨F2, PySem.W.mg_of X G a2, b2⟩, f3, _, ⟨F3, PySem.W.mg_of X G a3, b3⟩, f4, _, ⟨F4, PySem.W.mg_of X G a4, b4⟩, f5, _, ⟨F5, PySem.W.mg_of X G a5, b5⟩, f6, _, ⟨F6, PySem.W.mg_of X G a6, b6⟩, f7, _, ⟨F7, PySem.W.mg_of X G a7, b7⟩, f8, _, ⟨F8, PySem.W.mg_of X G a8, b8⟩, f9, _, ⟨F9, PySem.W.mg_of X G a9, b9⟩, f10, _, ⟨F10, PySem.W.mg_of X G a10, b10⟩, f11, _, ⟨F11, PySem.W.mg_of X G a11, b11⟩, f12, _, ⟨F12, PySem.W.mg_of X G a12, b12⟩, f13, _, ⟨F13, PySem.W.mg_of X G a13, b13⟩, f14, _, ⟨F14, PySem.W.mg_of X G a14, b14⟩, f15, _, ⟨F15, PySem.W.mg_of X G a15, b15⟩, fa, _, ⟨F16, PySem.W.mg_of X G a16, b16⟩, C_Machine, PySem.W.mg_of X G aC_Machine, ⟨pg_Machine, hd_Machine, po_Machine, sa_Machine⟩, na_Machine_reads, na_Machine_writes, na_Machine_left, na_Machine_right, na_Machine_table, ⟨ih_Machine, in_Machine, it_Machine, im_Machine, kit_self⟩, f_Machine_init, _, ⟨mk_Machine, a_Machine_init, i_Machine_init, kc_Machine⟩, F_Machine_init, b_Machine_init, C_MachineError, PySem.W.mg_of X G aC_MachineError, oex_MachineError, f_MachineError, _, a_MachineError, t_MachineError, Binds.all (fun us hl => match us, hl with | [_, _], _ => rfl), ⟨ga_MachineError, gg_MachineError, no_MachineError, eC_MachineError, hC_MachineError, te_of eC_MachineError iC_MachineError tC_MachineError sC_MachineError⟩, ok_MachineError, ⟨iC_MachineError, ih_MachineError, in_MachineError, it_MachineError, im_MachineError⟩, C_ForeaftError, PySem.W.mg_of X G aC_ForeaftError, C_BookError, PySem.W.mg_of X G aC_BookError, kit_ref iC_ForeaftError tC_ForeaftError su_MachineError_ForeaftError nq_MachineError_ForeaftError, kit_vty hB_MachineError, kit_ref iC_BookError tC_BookError su_MachineError_BookError nq_MachineError_BookError, PySem.W.mg_none_of X G z_ValueError, PySem.W.mg_none_of X G z_abs, PySem.W.mg_none_of X G z_all, PySem.W.mg_none_of X G z_enumerate, PySem.W.mg_none_of X G z_int, PySem.W.mg_none_of X G z_isinstance, PySem.W.mg_none_of X G z_len, PySem.W.mg_none_of X G z_list, PySem.W.mg_none_of X G z_range, PySem.W.mg_none_of X G z_str, PySem.W.mg_none_of X G z_tuple, PySem.W.mg_none_of X G z_type, t_LETTERS, PySem.W.mg_of X G g_LETTERS, t_MOST_LETTERS, PySem.W.mg_of X G g_MOST_LETTERS, t_MOST_STATES, PySem.W.mg_of X G g_MOST_STATES⟩
  exact ⟨PySem.W.fnOf "law" "law" (defArgs s_law) (defBody s_law) (defScope s_law) .none kV16 dc16 pm16 an16 cd16 ct16, fun s v => .of_eq rfl, fun base _ _ => ok_law T⟩
end Fo
open PySem PySem.W PyProof.Rows
set_option maxHeartbeats 0 in
theorem PySem.Challenge.cw_foreaft_k02_machines_are_checked_holds : PySem.Challenge.rw_foreaft_k02_machines_are_checked.Holds := by
  w_on; o_law; k_head; (case hw => w_witness2)
  k_fill
  refine L2.walk_of (l := PySem.Challenge.rw_foreaft_k02_machines_are_checked) (n := 63) (k := 8) (x := "script") (CX := fun _ => L2.CX0) (sp := fun w => Fo.sp_law _) rfl (by decide) rfl ⟨rfl, by decide, by decide⟩ (fun w h Y => PySem.W.kIn_of Y) ?F (fun _ _ a ns hl _ hS => ⟨a, ns, rfl, hS, hl, fun _ => rfl⟩) (fun _ _ _ _ _ h => h)
  case F =>
    intro w mg fa h KX G hmg
    refine' Fo.all_mk KX G hmg ?a0 ?l0 ?c0 ?k0 ?a1 ?l1 ?c1 ?k1 ?a2 ?l2 ?c2 ?k2 ?a3 ?l3 ?c3 ?k3 ?a4 ?l4 ?c4 ?k4 ?a5 ?l5 ?c5 ?k5 ?a6 ?l6 ?c6 ?k6 ?a7 ?l7 ?c7 ?k7 ?a8 ?l8 ?c8 ?k8 ?a9 ?l9 ?c9 ?k9 ?a10 ?l10 ?c10 ?k10 ?a11 ?l11 ?c11 ?k11 ?a12 ?l12 ?c12 ?k12 ?a13 ?l13 ?c13 ?k13 ?a14 ?l14 ?c14 ?k14 ?a15 ?l15 ?c15 ?k15 ?a16 ?l16 ?c16 ?k16 ?aC_Machine ?a_Machine_init ?i_Machine_init ?l_Machine_init ?c_Machine_init ?k_Machine_init ?pg_Machine ?hd_Machine ?po_Machine ?sa_Machine ?mk_Machine ?kc_Machine ?na_Machine_reads ?na_Machine_writes ?na_Machine_left ?na_Machine_right ?na_Machine_table ?ih_Machine ?in_Machine ?it_Machine ?im_Machine ?aC_MachineError ?xL_MachineError ?vB_MachineError ?sa_MachineError ?ga_MachineError ?gg_MachineError ?no_MachineError ?eC_MachineError ?tC_MachineError ?kC_MachineError ?hC_MachineError ?iC_MachineError ?sC_MachineError ?a_MachineError ?t_MachineError ?l_MachineError ?ce_MachineError ?co_MachineError ?vs2_MachineError ?fi_MachineError ?cd_MachineError ?mr_MachineError ?hm_MachineError ?hB_MachineError ?ih_MachineError ?in_MachineError ?it_MachineError ?im_MachineError ?aC_ForeaftError ?iC_ForeaftError ?tC_ForeaftError ?aC_BookError ?iC_BookError ?tC_BookError ?su_MachineError_ForeaftError ?nq_MachineError_ForeaftError ?su_MachineError_BookError ?nq_MachineError_BookError ?tp ?z_super ?ho ?z_ValueError ?z_abs ?z_all ?z_enumerate ?z_int ?z_isinstance ?z_len ?z_list ?z_range ?z_str ?z_tuple ?z_type ?g_LETTERS ?g_MOST_LETTERS ?g_MOST_STATES
    (case a0 => k_is); (case l0 => k_is); (case c0 => k_is); (case k0 => k_is); (case a1 => k_is); (case l1 => k_is); (case c1 => k_is); (case k1 => k_is); (case a2 => k_is); (case l2 => k_is); (case c2 => k_is); (case k2 => k_is); (case a3 => k_is); (case l3 => k_is); (case c3 => k_is); (case k3 => k_is); (case a4 => k_is); (case l4 => k_is); (case c4 => k_is); (case k4 => k_is); (case a5 => k_is); (case l5 => k_is); (case c5 => k_is); (case k5 => k_is); (case a6 => k_is); (case l6 => k_is); (case c6 => k_is); (case k6 => k_is); (case a7 => k_is); (case l7 => k_is); (case c7 => k_is); (case k7 => k_is); (case a8 => k_is); (case l8 => k_is); (case c8 => k_is); (case k8 => k_is); (case a9 => k_is); (case l9 => k_is); (case c9 => k_is); (case k9 => k_is); (case a10 => k_is); (case l10 => k_is); (case c10 => k_is); (case k10 => k_is); (case a11 => k_is); (case l11 => k_is); (case c11 => k_is); (case k11 => k_is); (case a12 => k_is); (case l12 => k_is); (case c12 => k_is); (case k12 => k_is); (case a13 => k_is); (case l13 => k_is); (case c13 => k_is); (case k13 => k_is); (case a14 => k_is); (case l14 => k_is); (case c14 => k_is); (case k14 => k_is); (case a15 => k_is); (case l15 => k_is); (case c15 => k_is); (case k15 => k_is); (case a16 => k_is); (case l16 => k_is); (case c16 => k_is); (case k16 => k_is); (case aC_Machine => k_is); (case a_Machine_init => k_is); (case i_Machine_init => k_is); (case l_Machine_init => k_is); (case c_Machine_init => k_is); (case k_Machine_init => k_is); (case pg_Machine => k_is); (case hd_Machine => k_is); (case po_Machine => k_is); (case sa_Machine => k_is); (case mk_Machine => k_is); (case kc_Machine => k_is); (case na_Machine_reads => k_is); (case na_Machine_writes => k_is); (case na_Machine_left => k_is); (case na_Machine_right => k_is); (case na_Machine_table => k_is); (case ih_Machine => k_is); (case in_Machine => k_is); (case it_Machine => k_is); (case im_Machine => k_is); (case aC_MachineError => k_is); (case xL_MachineError => k_is); (case vB_MachineError => decide +kernel); (case sa_MachineError => k_is); (case ga_MachineError => k_is); (case gg_MachineError => k_is); (case no_MachineError => k_is); (case eC_MachineError => k_is); (case tC_MachineError => k_is); (case kC_MachineError => k_is); (case hC_MachineError => k_is); (case iC_MachineError => k_is); (case sC_MachineError => k_is); (case a_MachineError => k_is); (case t_MachineError => k_is); (case l_MachineError => k_is); (case ce_MachineError => k_is); (case co_MachineError => k_is); (case vs2_MachineError => rfl); (case fi_MachineError => decide +kernel); (case cd_MachineError => k_is); (case mr_MachineError => k_is); (case hm_MachineError => ks_is); (case hB_MachineError => k_is); (case ih_MachineError => k_is); (case in_MachineError => k_is); (case it_MachineError => k_is); (case im_MachineError => k_is); (case aC_ForeaftError => k_is); (case iC_ForeaftError => k_is); (case tC_ForeaftError => k_is); (case aC_BookError => k_is); (case iC_BookError => k_is); (case tC_BookError => k_is); (case su_MachineError_ForeaftError => k_is); (case nq_MachineError_ForeaftError => decide +kernel); (case su_MachineError_BookError => k_is); (case nq_MachineError_BookError => decide +kernel); (case tp => decide +kernel); (case z_super => k_is); (case ho => k_is); (case z_ValueError => k_is); (case z_abs => k_is); (case z_all => k_is); (case z_enumerate => k_is); (case z_int => k_is); (case z_isinstance => k_is); (case z_len => k_is); (case z_list => k_is); (case z_range => k_is); (case z_str => k_is); (case z_tuple => k_is); (case z_type => k_is); (case g_LETTERS => k_is); (case g_MOST_LETTERS => k_is); (case g_MOST_STATES => k_is)
