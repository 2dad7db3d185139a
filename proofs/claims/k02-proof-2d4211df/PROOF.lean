import PyProof.Rows.All
import Wide.All
import OpenK.AllK
import Wide.FinOn
import HandS.ForMost
import HandS.Evl
import HandS.Exc
import HandS.ExcOwn
import HandS.TryMany
import HandS.WordsExc
import HandS.Small
import HandS.IsInst
import HandS.TupAny
import HandS.Deep
import HandS.Wide
import HandS.Walk
import HandS.Style
import PySem.Challenge.RW_homeshold_k02_whole_texts_chopped_and_jo
set_option Elab.async false
set_option linter.all false
set_option maxRecDepth 100000
namespace Hs
open PySem PySem.Spec PyProof.Rows L2
def topS (i : Nat) : Stmt := PySem.Challenge.pw_homeshold_k02_whole_texts_chopped_and_jo.main.body.getD i (.Pass ⟨0, 0, 0, 0⟩)
abbrev sMixed : Stmt := topS 14
abbrev sWell : Stmt := topS 15
abbrev sFilled : Stmt := topS 16
abbrev sDraw : Stmt := topS 17
/-! ### heaps -/
/-- all that was tracked stands as it was, but for what stands at w -/
def Keep (w : Addr) (H H' : Hp) : Prop := ∀ b o, b ≠ w → H b = some o → H' b = some o
theorem Keep.refl (w : Addr) (H : Hp) : Keep w H H := fun _ _ _ h => h
theorem Keep.trans {w : Addr} {H H1 H2 : Hp} (a : Keep w H H1) (b : Keep w H1 H2) : Keep w H H2 := fun c o n h => b c o n (a c o n h)
theorem Keep.of_same {w : Addr} {H H' : Hp} (s : Same H H') : Keep w H H' := fun b o _ h => s b o h
theorem Keep.updw {w : Addr} {H : Hp} {o : HO} : Keep w H (upd H w o) := fun b u n h => by
  rw [upd_ne n]
  exact h
theorem same_upd {H : Hp} {p : Addr} {o : HO} (h : H p = none) : Same H (upd H p o) := fun b x e => by
  rw [upd_ne (ne_of_none e h)]
  exact e
theorem Keep.new {w : Addr} {H : Hp} {p : Addr} {o : HO} (h : H p = none) : Keep w H (upd H p o) := .of_same (same_upd h)
/-- where a well stands: w the well, c its cells -/
structure WA where
  (w c : Addr)
/-- a well: a list of the cells, how many were taken, what is left of a cell, the mix -/
structure Well (H : Hp) (a : WA) : Prop where
  ex : ∃ (cells : List Int) (pos : Nat) (rest mix : Int), H a.w = some (.lst [.ref a.c, .int (pos : Int), .int rest, .int mix]) ∧ H a.c = some (.lst (cells.map V.int)) ∧ a.c ≠ a.w ∧ (cells.length ≤ 63)
/-- what a draw leaves -/
structure Drawn (a : WA) (H H' : Hp) : Prop where
  keep : Keep a.w H H'
  well : Well H' a
variable {a : WA} {H H' H1 H2 : Hp} {p : Addr} {o : HO}
theorem Drawn.refl (h : Well H a) : Drawn a H H := ⟨.refl _ _, h⟩
theorem Drawn.trans (x : Drawn a H H1) (y : Drawn a H1 H2) : Drawn a H H2 := ⟨x.keep.trans y.keep, y.well⟩
theorem Well.same (h : Well H a) (s : Same H H') : Well H' a := by
  obtain ⟨cells, pos, rest, mix, h1, h2, n, l⟩ := h.ex
  exact ⟨cells, pos, rest, mix, s _ _ h1, s _ _ h2, n, l⟩
theorem Drawn.same (x : Drawn a H H1) (y : Same H1 H2) : Drawn a H H2 := ⟨x.keep.trans (.of_same y), x.well.same y⟩
theorem Drawn.new (x : Drawn a H H1) (h : H1 p = none) : Drawn a H (upd H1 p o) := x.same (same_upd h)
theorem Well.at (h : Well H a) : ∃ o, H a.w = some o := by
  obtain ⟨cells, pos, rest, mix, h1, _⟩ := h.ex
  exact ⟨_, h1⟩
theorem Well.ne (h : Well H a) (n : H p = none) : p ≠ a.w ∧ p ≠ a.c := by
  obtain ⟨cells, pos, rest, mix, h1, h2, _⟩ := h.ex
  exact ⟨(ne_of_none h1 n).symm, (ne_of_none h2 n).symm⟩
theorem Drawn.free (e : Drawn a H H') (hw : Well H a) (h : H' p = Option.none) : H p = Option.none := by
  by_cases q : p = a.w
  · subst q
    obtain ⟨o, h1⟩ := e.well.at
    rw [h1] at h
    cases h
  · cases z : H p with
    | none => rfl
    | some o =>
      rw [e.keep p o q z] at h
      cases h
/-- what is new since H is written -/
theorem Drawn.put (x : Drawn a H H1) (hw : Well H a) (n : H p = none) : Drawn a H (upd H1 p o) := by
  obtain ⟨n1, n2⟩ := hw.ne n
  refine ⟨fun b u nb e => ?_, ?_⟩
  · rw [upd_ne (ne_of_none e n)]
    exact x.keep b u nb e
  · obtain ⟨cells, pos, rest, mix, h1, h2, n, l⟩ := x.well.ex
    exact ⟨cells, pos, rest, mix, by rw [upd_ne n1.symm]; exact h1, by rw [upd_ne n2.symm]; exact h2, n, l⟩
theorem Drawn.there (x : Drawn a H H1) (hw : Well H a) {u : HO} (n : p ≠ a.w) (e : H p = some u) : H1 p = some u := x.keep p u n e
/-- the names of the built-ins that the text leaves alone -/
structure Bt (mg : Str → Option Value) : Prop where
  int : mg "int" = none
  len : mg "len" = none
  range : mg "range" = none
  all : mg "all" = none
  isi : mg "isinstance" = none
  tup : mg "tuple" = none
  lst : mg "list" = none
  str : mg "str" = none
  max : mg "max" = none
  boo : mg "bool" = none
section
variable {P : Program} {w : World} {K : PySem.W.Frag} {mg : Str → Option Value} {base : Heap}
/-! ### the draws -/
def spMixed : Sp := fun vs H Q _ => ∃ n : Int, vs = [.int n] ∧ ∀ r : Int, Q (.int r) H
theorem scMixed : FnScope ["number"] ["number"] (defScope sMixed) := ⟨rfl, rfl, rfl, by decide +kernel, rfl, by decide +kernel, by decide +kernel⟩
theorem fmod_lt {a b : Int} (h : 0 < b) : 0 ≤ a.fmod b ∧ a.fmod b < b := by
  rw [Int.fmod_eq_emod_of_nonneg _ (Int.le_of_lt h)]
  exact ⟨Int.emod_nonneg _ (by omega), Int.emod_lt_of_pos _ h⟩
theorem nz {j : Int} (h : decide (j = 0) = false) : j ≠ 0 := of_decide_eq_false h
theorem ok_mixed {f : Addr} {fd : FuncData} (F : Fun K "_law_mixed" "_law_mixed" sMixed f fd) (B : Bt mg) : FnOk P w K mg base CX0 1 f fd ["number"] spMixed := by
  refine F.ok scMixed (fun vs H Q E h => ?_) (fun cdv A outer s H vs Q E hr h => ?_)
  · obtain ⟨n, rfl, _⟩ := h
    rfl
  · obtain ⟨n, rfl, k⟩ := h
    have hI := B.int
    refine ⟨_, pss_cons (ps_set (i := 0) scMixed.nd rfl (.inl rfl) (pe_op op_modN (pe_callTy call_int1 (by rfl) hI boot_int (pa_cons (pe_op op_add (pe_op op_mul (pv 0) pe_int) pe_int) pa_nil)) pe_int))
      (pss_cons (ps_set (i := 0) scMixed.nd rfl (.inl rfl) (pe_op op_modN (pe_callTy call_int1 (by rfl) hI boot_int (pa_cons (pe_op op_add (pe_op op_mul (pv 0) (pe_op op_add (pe_op op_fdivN (pv 0) pe_int) pe_int)) pe_int) pa_nil)) pe_int))
      (pss_one (ps_ret (pe_op op_add (pe_op op_mul (pv 0) pe_int) (pe_op op_modN (pe_callTy call_int1 (by rfl) hI boot_int (pa_cons (pe_op op_add (pe_op op_mul (pv 0) (pe_op op_add (pe_op op_fdivN (pv 0) pe_int) pe_int)) pe_int) pa_nil)) pe_int))))), ?_⟩
    refine ⟨_, rfl, _, _, rfl, rfl, .inr (by decide), _, _, rfl, rfl, .inl ⟨_, rfl, _, _, rfl, rfl, nz rfl, ?_⟩⟩
    have b1 := fmod_lt (a := n * 48271 + 11) (b := 2147483647) (by decide)
    refine ⟨_, rfl, _, rfl, _, _, rfl, rfl, ⟨by decide, by decide⟩, _, _, rfl, rfl, _, _, rfl, rfl, .inl ⟨by omega, by omega⟩, _, _, rfl, rfl, .inl ⟨_, rfl, _, _, rfl, rfl, nz rfl, ?_⟩⟩
    have b2 := fmod_lt (a := (n * 48271 + 11).fmod 2147483647 * (((n * 48271 + 11).fmod 2147483647).fdiv 1009 + 69621) + 7919) (b := 2147483647) (by decide)
    refine ⟨_, rfl, _, _, rfl, rfl, .inl ⟨by omega, by omega⟩, _, rfl, _, rfl, _, _, rfl, rfl, ⟨by decide, by decide⟩, _, _, rfl, rfl, _, _, rfl, rfl, .inl ⟨by omega, by omega⟩, _, _, rfl, rfl, .inl ⟨_, rfl, _, _, rfl, rfl, nz rfl, ?_⟩⟩
    exact ⟨_, _, rfl, rfl, k _⟩
/-- a def of the text, found by its name -/
structure Df (K : PySem.W.Frag) (mg : Str → Option Value) (x : Str) (st : Stmt) (ps : List Str) (f : Addr) (fd : FuncData) : Prop where
  F : Fun K x x st f fd
  b : Binds K fd ps []
  g : mg x = some (.ref f)
def spFilled : Sp := fun vs H Q _ => ∃ wl : WA, vs = [.ref wl.w] ∧ Well H wl ∧ ∀ (r : Int) (H' : Hp), Drawn wl H H' → Q (.int r) H'
theorem scFilled : FnScope ["well", "cell"] ["well"] (defScope sFilled) := ⟨rfl, rfl, rfl, by decide +kernel, rfl, by decide +kernel, by decide +kernel⟩
theorem ok_filled {f fM : Addr} {fd fdM : FuncData} (F : Fun K "_law_filled" "_law_filled" sFilled f fd) (B : Bt mg) (DM : Df K mg "_law_mixed" sMixed ["number"] fM fdM) : FnOk P w K mg base CX0 2 f fd ["well"] spFilled := by
  have GM : FnOk P w K mg base CX0 1 fM fdM ["number"] spMixed := ok_mixed DM.F B
  refine F.ok scFilled (fun vs H Q E h => ?_) (fun cdv A outer s H vs Q E hr h => ?_)
  · obtain ⟨n, rfl, _⟩ := h
    rfl
  · obtain ⟨wl, rfl, W, k⟩ := h
    have hI := B.int
    have hL := B.len
    refine ⟨_, pss_cons (ps_asg (pe_op op_add (pe_ix ix_list (pv 0) pe_int (fun _ _ => rfl)) pe_int) (pg_sub (pv 0) pe_int set_list))
      (pss_cons (ps_if (pt_cmpR op_le (pe_ix ix_list (pv 0) pe_int (fun _ _ => rfl)) (pe_callB call_len_seq (by rfl) hL PySem.boot_len (pa_cons (pe_ix ix_list (pv 0) pe_int (fun _ _ => rfl)) pa_nil)) (nomark _))
        (pss_cons (ps_set (i := 1) scFilled.nd rfl (.inl rfl) (pe_ix ix_list (pe_ix ix_list (pv 0) pe_int (fun _ _ => rfl)) (pe_op op_sub (pe_ix ix_list (pv 0) pe_int (fun _ _ => rfl)) pe_int) (fun _ _ => rfl)))
          (pss_cons (ps_asg (pe_op op_modN (pe_callTy call_int1 (by rfl) hI boot_int (pa_cons (pe_op op_add (pe_op op_add (pe_op op_mul (pe_ix ix_list (pv 0) pe_int (fun _ _ => rfl)) pe_int) (pv 1)) pe_int) pa_nil)) pe_int) (pg_sub (pv 0) pe_int set_list))
            (pss_cons (ps_if (pt_cmpR op_ge (pv 1) (pe_op op_pow pe_int pe_int) (nomark _)) (pss_one (ps_ret (pv 1))) pss_nil)
              (pss_one (ps_ret (pe_call GM hr (by rfl) DM.g DM.F.kp DM.b .nil pass0 (pa_cons (pe_op op_add (pv 1) (pe_op op_mul pe_int (pe_ix ix_list (pv 0) pe_int (fun _ _ => rfl)))) pa_nil))))))) pss_nil)
      (pss_one (ps_ret (pe_call GM hr (by rfl) DM.g DM.F.kp DM.b .nil pass0 (pa_cons (pe_op op_add (pe_ix ix_list (pv 0) pe_int (fun _ _ => rfl)) (pe_op op_mul pe_int (pe_ix ix_list (pv 0) pe_int (fun _ _ => rfl)))) pa_nil))))), ?_⟩
    obtain ⟨wl, c⟩ := wl
    obtain ⟨cells, pos, rest, mix, h1, h2, n, l⟩ := W.ex
    dsimp only at h1 h2 n
    refine ⟨_, rfl, wl, _, _, _, rfl, rfl, SqL.of h1, atI_nat (j := 1) rfl, _, _, rfl, rfl, ?_⟩
    refine ⟨_, rfl, wl, _, _, _, rfl, rfl, h1, rfl, ?_⟩
    have u1 := upd_same (H := H) (a := wl) (o := .lst [.ref c, .int ((pos : Int) + 1), .int rest, .int mix])
    have u2 : upd H wl (.lst [.ref c, .int ((pos : Int) + 1), .int rest, .int mix]) c = some (.lst (cells.map V.int)) := by
      rw [upd_ne n]
      exact h2
    refine ⟨_, rfl, wl, _, _, _, rfl, rfl, SqL.of u1, atI_nat (j := 1) rfl, _, rfl, wl, _, _, _, rfl, rfl, SqL.of u1, atI_nat (j := 0) rfl, c, _, rfl, .inl (SqL.of u2), _, _, rfl, rfl, _, rfl, ?_⟩
    refine ite2 (fun q => ?_) (fun q => ?_)
    · have q1 : (pos : Int) + 1 ≤ ((cells.map V.int).length : Int) := of_decide_eq_true q
      rw [List.length_map] at q1
      have q2 : pos < cells.length := by omega
      have e1 : (cells.map V.int)[pos]? = some (.int cells[pos]) := by
        rw [List.getElem?_map, List.getElem?_eq_getElem q2]
        rfl
      refine ⟨_, rfl, wl, _, _, _, rfl, rfl, SqL.of u1, atI_nat (j := 0) rfl, _, rfl, wl, _, _, _, rfl, rfl, SqL.of u1, atI_nat (j := 1) rfl, _, _, rfl, rfl, c, _, _, _, rfl, rfl, SqL.of u2, at_of (by omega) e1, ?_⟩
      refine ⟨_, rfl, wl, _, _, _, rfl, rfl, SqL.of u1, atI_nat (j := 3) rfl, _, _, rfl, rfl, .inr (by decide), _, rfl, _, _, rfl, rfl, _, _, rfl, rfl, .inl ⟨_, rfl, _, _, rfl, rfl, nz rfl, ?_⟩⟩
      refine ⟨_, rfl, wl, _, _, _, rfl, rfl, u1, rfl, ?_⟩
      have D : ∀ z : Int, Drawn ⟨wl, c⟩ H (upd (upd H wl (.lst [.ref c, .int ((pos : Int) + 1), .int rest, .int mix])) wl (.lst [.ref c, .int ((pos : Int) + 1), .int rest, .int z])) := fun z => by
        rw [upd_upd]
        refine ⟨.updw, ⟨cells, pos + 1, rest, z, ?_, ?_, n, l⟩⟩
        · exact upd_same
        · rw [upd_ne n]
          exact h2
      refine ⟨_, rfl, _, _, rfl, rfl, ⟨by decide, by decide, by decide⟩, _, _, rfl, rfl, _, rfl, ite2 (fun q => ?_) (fun q => ?_)⟩
      · exact ⟨_, rfl, k _ _ (D _)⟩
      · refine ⟨_, rfl, _, rfl, wl, _, _, _, rfl, rfl, SqL.of upd_same, atI_nat (j := 1) rfl, _, _, rfl, rfl, .inl (by decide), _, _, rfl, rfl, ?_⟩
        exact ⟨_, rfl, fun r => k _ _ (D _)⟩
    · have D : Drawn ⟨wl, c⟩ H (upd H wl (.lst [.ref c, .int ((pos : Int) + 1), .int rest, .int mix])) := ⟨.updw, ⟨cells, pos + 1, rest, mix, upd_same, u2, n, l⟩⟩
      refine ⟨_, rfl, wl, _, _, _, rfl, rfl, SqL.of u1, atI_nat (j := 3) rfl, _, rfl, wl, _, _, _, rfl, rfl, SqL.of u1, atI_nat (j := 1) rfl, _, _, rfl, rfl, .inl (by decide), _, _, rfl, rfl, ?_⟩
      exact ⟨_, rfl, fun r => k _ _ D⟩
def spDraw : Sp := fun vs H Q _ => ∃ (wl : WA) (m : Int), vs = [.ref wl.w, .int m] ∧ Well H wl ∧ 0 < m ∧ m < 2 ^ 62 ∧ ∀ (d : Int) (H' : Hp), 0 ≤ d → d < m → Drawn wl H H' → Q (.int d) H'
theorem scDraw : FnScope ["well", "many", "told"] ["well", "many"] (defScope sDraw) := ⟨rfl, rfl, rfl, by decide +kernel, rfl, by decide +kernel, by decide +kernel⟩
theorem ok_draw {f fM fF : Addr} {fd fdM fdF : FuncData} (F : Fun K "_law_draw" "_law_draw" sDraw f fd) (B : Bt mg) (DM : Df K mg "_law_mixed" sMixed ["number"] fM fdM) (DF : Df K mg "_law_filled" sFilled ["well"] fF fdF) : FnOk P w K mg base CX0 3 f fd ["well", "many"] spDraw := by
  have GF : FnOk P w K mg base CX0 2 fF fdF ["well"] spFilled := ok_filled DF.F B DM
  refine F.ok scDraw (fun vs H Q E h => ?_) (fun cdv A outer s H vs Q E hr h => ?_)
  · obtain ⟨n, m, rfl, _⟩ := h
    rfl
  · obtain ⟨wl, m, rfl, W, m0, m1, k⟩ := h
    have hI := B.int
    refine ⟨_, Evl.pss_cut (ps_if (pt_cmpR op_eq (pe_ix ix_list (pv 0) pe_int (fun _ _ => rfl)) pe_int (nomark _)) (pss_one (ps_asg (pe_call GF hr (by rfl) DF.g DF.F.kp DF.b .nil pass0 (pa_cons (pv 0) pa_nil)) (pg_sub (pv 0) pe_int set_list))) pss_nil)
      (pss_cons (ps_set (i := 2) scDraw.nd rfl (.inl rfl) (pe_op op_modN (pe_callTy call_int1 (by rfl) hI boot_int (pa_cons (pe_ix ix_list (pv 0) pe_int (fun _ _ => rfl)) pa_nil)) (pv 1)))
      (pss_cons (ps_asg (pe_op op_fdivW (pe_callTy call_int1 (by rfl) hI boot_int (pa_cons (pe_ix ix_list (pv 0) pe_int (fun _ _ => rfl)) pa_nil)) (pv 1)) (pg_sub (pv 0) pe_int set_list))
      (pss_one (ps_ret (pv 2))))), ?_⟩
    refine ⟨fun σ' H' => σ' = [some (.ref wl.w), some (.int m), none] ∧ Drawn wl H H', ?_, ?_⟩
    · obtain ⟨cells, pos, rest, mix, h1, h2, n, l⟩ := W.ex
      refine ⟨_, rfl, wl.w, _, _, _, rfl, rfl, SqL.of h1, atI_nat (j := 2) rfl, rfl, _, rfl, ite2 (fun q => ?_) (fun q => ⟨rfl, .refl W⟩)⟩
      refine ⟨_, rfl, wl, rfl, W, fun r H1 D => ?_⟩
      obtain ⟨cells, pos, rest, mix, h1, h2, n, l⟩ := D.well.ex
      refine ⟨_, rfl, wl.w, _, _, _, rfl, rfl, h1, rfl, rfl, D.keep.trans .updw, cells, pos, r, mix, upd_same, ?_, n, l⟩
      rw [upd_ne n]
      exact h2
    · rintro σ' H1 ⟨rfl, D⟩
      obtain ⟨cells, pos, rest, mix, h1, h2, n, l⟩ := D.well.ex
      have b1 := fmod_lt (a := rest) m0
      refine ⟨_, rfl, wl.w, _, _, _, rfl, rfl, SqL.of h1, atI_nat (j := 2) rfl, .inl ⟨_, rfl, _, rfl, _, _, rfl, rfl, (by show m ≠ 0; omega), ?_⟩⟩
      refine ⟨_, rfl, wl.w, _, _, _, rfl, rfl, SqL.of h1, atI_nat (j := 2) rfl, .inl ⟨_, rfl, _, rfl, _, _, rfl, rfl, wide_div m0 (b := 62) (by omega) (by decide) (by decide), ?_⟩⟩
      refine ⟨_, rfl, wl.w, _, _, _, rfl, rfl, h1, rfl, ?_⟩
      refine ⟨_, rfl, k _ _ b1.1 b1.2 ⟨D.keep.trans .updw, cells, pos, _, mix, upd_same, ?_, n, l⟩⟩
      rw [upd_ne n]
      exact h2
end
end Hs
namespace Hs
open PySem PySem.Spec PyProof.Rows L2
abbrev sIsSigns : Stmt := topS 8
abbrev sIsText : Stmt := topS 9
abbrev sIsPiece : Stmt := topS 10
abbrev sChopped : Stmt := topS 11
abbrev sJoined : Stmt := topS 12
abbrev sSigns : Stmt := topS 19
abbrev sString : Stmt := topS 20
/-! ### types -/
theorem TyX.same {K : PySem.W.Frag} {H H' : Hp} {x : V} {t : Value} (s : Same H H') (h : TyX K H x t) : TyX K H' x t := by
  cases h with
  | base b =>
    refine .base ?_
    cases b with
    | non => exact .non
    | bl x => exact .bl x
    | int i => exact .int i
    | str x => exact .str x
    | flt x => exact .flt x
    | lst e => exact .lst (s _ _ e)
    | frz e => exact .frz (s _ _ e)
    | tup e => exact .tup (s _ _ e)
    | dK e => exact .dK (s _ _ e)
    | dT e => exact .dT (s _ _ e)
    | ins e h1 h2 h3 h4 h5 => exact .ins (s _ _ e) h1 h2 h3 h4 h5
  | byt b => exact .byt b
  | set e => exact .set (s _ _ e)
  | kList e c => exact .kList e c
  | kTuple e c => exact .kTuple e c
  | kDict e c => exact .kDict e c
  | fTuple e => exact .fTuple (s _ _ e)
  | fDict e => exact .fDict (s _ _ e)
/-- an own error class without an __init__, over ValueError -/
structure Ec (K : PySem.W.Frag) (mg : Str → Option Value) (x : Str) (C : Addr) : Prop where
  g : mg x = some (.ref C)
  x : PySem.W.excIn K C [.type "ValueError", .type "Exception", .type "BaseException", .type "object"] "ValueError.__new__" = true
  k : PySem.W.keepIn K (.ref C) = true
  b : PySem.W.subIn K (.ref C) (.type "BaseException") = some true
  t : PySem.W.typeIn K (.ref C) = some (.type "type")
  e : PySem.W.exmOne K (.ref C) (.ref C) = some true
section
variable {X : Cx} {C : Addr} {bmB : List Value} {B newId initId : String}
/-- X() -/
theorem pmk_own0 {x : Str} {p pos : Pos} (F : ExcBaseFacts B newId initId bmB) (q : PySem.W.excIn X.K C bmB newId = true) (gC : X.mg x = some (.ref C)) (kC : PySem.W.keepIn X.K (.ref C) = true) (r : Raises X (.ref C)) (hg : Gl X x)
    (hdb : (x == ("__debug__" : Str)) = false := by decide) : PMk X (.Call (.Name x p) [] [] pos) (fun _ H Q => Q (.ref C) none H) := by
  intro pins s σ H Q I h
  refine wpAny_Call_Name_kw (ld_glob I hg gC ?_ hdb)
  refine PySem.W.callWith_K0 I.kIn kC ?_
  show wpAny _ _ (call (.ref C) []) _ _ _
  obtain ⟨bm, N, nm, qn, bs, hdct, sn, sub, ab, col, dd, k0, k1, k2, k3, k5, mN, hC, hN, hni, T⟩ := exc_obj I.kIn q
  refine wpAny_call_exc_subT F T hC hN hni (fun h' e hm => ?_) (Nat.zero_le _)
  exact mk_of I hm r h (I.hok.gone hm.new)
end
/-! ### signs -/
def okc (c : Nat) : Bool := decide (32 ≤ c) && decide (c ≤ 126)
def okz (z : Str) : Bool := (TL.tl z).all okc
theorem lt1 (a b : Nat) : decide (([a] : List Nat) < [b]) = decide (a < b) := by
  by_cases h : a < b
  · rw [decide_eq_true h]
    exact decide_eq_true (List.cons_lt_cons_iff.mpr (.inl h))
  · rw [decide_eq_false h]
    refine decide_eq_false fun q => ?_
    rcases List.cons_lt_cons_iff.mp q with q | ⟨_, q⟩
    · exact h q
    · exact absurd q (List.not_lt_nil _)
theorem not_lt1 (a b : Nat) : (!decide (([b] : List Nat) < [a])) = decide (a ≤ b) := by
  rw [lt1]
  by_cases h : b < a
  · rw [decide_eq_true h, decide_eq_false (by omega)]
    rfl
  · rw [decide_eq_false h, decide_eq_true (by omega)]
    rfl
def bit : Nat := 1000000
theorem bit_line : bit < sizeLine := by
  rw [sizeLine_eq]
  decide
section
variable {P : Program} {w : World} {K : PySem.W.Frag} {mg : Str → Option Value} {base : Heap}
def spIsSigns (K : PySem.W.Frag) : Sp := fun vs H Q _ => ∃ x : V, vs = [x] ∧ ((∃ z : Str, x = .str z ∧ z.length ≤ bit ∧ ∀ H', Same H H' → Q (.bl (okz z)) H') ∨ (∃ T, TyX K H x (.type T) ∧ kitB T "str" = some false ∧ Q (.bl false) H))
theorem scIsSigns : FnScope ["thing", "sign"] ["thing"] (defScope sIsSigns) := ⟨rfl, rfl, rfl, by decide +kernel, rfl, by decide +kernel, by decide +kernel⟩
theorem boot_str : bootBuiltins "str" = some (.type "str") := by decide +kernel
theorem boot_tuple' : bootBuiltins "tuple" = some (.type "tuple") := by decide +kernel
theorem boot_isi : bootBuiltins "isinstance" = some (.builtin "isinstance") := by decide +kernel
theorem boot_all' : bootBuiltins "all" = some (.builtin "all") := by decide +kernel
theorem kit_ss : kitB "str" "str" = some true := by decide +kernel
theorem codes_get {z : Str} {i c : Nat} (h : z.cps[i]? = some c) : (TL.tl z)[i]? = some c := by
  show z.cps.toList[i]? = some c
  rw [Array.getElem?_toList]
  exact h
theorem len_size (z : Str) : z.cps.size = z.length := rfl
theorem ok_isSigns {f : Addr} {fd : FuncData} (F : Fun K "is_signs" "is_signs" sIsSigns f fd) (B : Bt mg) : FnOk P w K mg base CX0 1 f fd ["thing"] (spIsSigns K) := by
  refine F.ok scIsSigns (fun vs H Q E h => ?_) (fun cdv A outer s H vs Q E hr h => ?_)
  · obtain ⟨n, rfl, _⟩ := h
    rfl
  · obtain ⟨x, rfl, h⟩ := h
    have hI := B.isi
    have hS := B.str
    have hA := B.all
    refine ⟨_, pss_one (ps_ret (pe_and (pe_callB call_isi (by rfl) hI boot_isi (pa_cons (pv 0) (pa_cons (pe_bltn (by rfl) hS boot_str (show RelV (.ty "str") (.type "str") from rfl)) pa_nil)))
      (pe_one (pe_callB (cr_all rfl) (by rfl) hA boot_all' (pa_cons (pe_lc (own := [("sign", 1)]) (g := gName 1) (tt := tYes) rfl scIsSigns.nd (pi_str (pv 0)) (blkOk_by (N := ["thing", "sign"]) (sc := defScope sIsSigns) (by decide +kernel))
        (fun _ _ _ _ _ => pg_name (i := 1) scIsSigns.nd rfl (Or.inl rfl)) (fun _ _ _ _ _ => pts_nil) (fun _ _ _ _ _ => pe_chain op_le_str op_le_str pe_str (pv 1) pe_str)) pa_nil))))), ?_⟩
    rcases h with ⟨z, rfl, hz, k⟩ | ⟨T, ty, kt, k⟩
    · refine ⟨_, rfl, _, _, _, _, _, rfl, .ty "str", .base (.str z), kit_ty kit_ss, true, rfl, iteT ?_⟩
      refine ⟨_, rfl, z, rfl, fun D hD => lc_it walk_str (fun i H' => Same H H' ∧ H' D = some (.lst (((TL.tl z).take i).map fun c => V.bl (okc c)))) ⟨same_upd hD, upd_same⟩ (fun _ _ _ _ => True.intro) ?_ ?_⟩
      · rintro i x H1 H2 hi ⟨sm, hL⟩ ⟨rfl, c, hc, rfl⟩
        refine ⟨rfl, ?_⟩
        have hc' := codes_get hc
        have hl : i < (TL.tl z).length := (List.getElem?_eq_some_iff.mp hc').1
        have e : ((TL.tl z).take (i + 1)).map (fun c => V.bl (okc c)) = ((TL.tl z).take i).map (fun c => V.bl (okc c)) ++ [.bl (okc c)] := by
          rw [List.take_add_one, hc', List.map_append]
          rfl
        have hlen : (((TL.tl z).take i).map (fun c => V.bl (okc c))).length < sizeLine := by
          rw [List.length_map, List.length_take]
          have := bit_line
          rw [← TL.len_tl] at hl ⊢
          omega
        have nx : ∀ b, b = okc c → ∃ acc, H2 D = some (.lst acc) ∧ acc.length < sizeLine ∧ Same H (upd H2 D (.lst (acc ++ [.bl b]))) ∧ upd H2 D (.lst (acc ++ [.bl b])) D = some (.lst (((TL.tl z).take (i + 1)).map fun c => V.bl (okc c))) := fun b eb => by
          refine ⟨_, hL, hlen, fun q o hq => ?_, ?_⟩
          · rw [upd_ne (ne_of_none hq hD)]
            exact sm _ _ hq
          · rw [upd_same, e, eb]
        refine ⟨_, rfl, _, _, rfl, rfl, _, rfl, ite2 (fun q => ?_) (fun q => ?_)⟩
        · have q1 : (!decide (([c] : List Nat) < [32])) = true := q
          rw [not_lt1] at q1
          refine ⟨_, _, rfl, rfl, nx _ ?_⟩
          show (!decide (([126] : List Nat) < [c])) = okc c
          rw [not_lt1]
          unfold okc
          rw [q1]
          rfl
        · have q1 : ¬ (!decide (([c] : List Nat) < [32])) = true := q
          rw [not_lt1] at q1
          refine nx _ ?_
          unfold okc
          rw [Bool.not_eq_true] at q1
          rw [q1]
          rfl
      · rintro H' ⟨sm, hL⟩
        refine ⟨D, (TL.tl z).map okc, rfl, SqL.of ?_, ?_⟩
        · rw [hL, len_size, TL.len_tl, List.take_length, List.map_map]
          rfl
        · have e : ((TL.tl z).map okc).all id = okz z := by
            rw [List.all_map]
            rfl
          rw [e]
          exact k _ sm
    · refine ⟨_, rfl, _, _, _, _, _, rfl, .ty "str", ty, kit_ty kt, false, rfl, iteF k⟩
/-- the numbers that the text names -/
structure Cn (mg : Str → Option Value) : Prop where
  pieces : ∃ t, mg "MOST_PIECES" = some (.int 12 t)
  signs : ∃ t, mg "PIECE_SIGNS" = some (.int 8 t)
  text : ∃ t, mg "TEXT_SIGNS" = some (.int 96 t)
def texty (z : Str) : Bool := okz z && decide (z.length ≤ 96)
def piecy (z : Str) : Bool := okz z && (decide (1 ≤ z.length) && decide (z.length ≤ 8))
def spFlag (K : PySem.W.Frag) (g : Str → Bool) : Sp := fun vs H Q _ => ∃ x : V, vs = [x] ∧ ((∃ z : Str, x = .str z ∧ z.length ≤ bit ∧ ∀ H', Same H H' → Q (.bl (g z)) H') ∨ (∃ T, TyX K H x (.type T) ∧ kitB T "str" = some false ∧ Q (.bl false) H))
theorem scIsText : FnScope ["thing"] ["thing"] (defScope sIsText) := ⟨rfl, rfl, rfl, by decide +kernel, rfl, by decide +kernel, by decide +kernel⟩
theorem len_line {z : Str} (h : z.length ≤ bit) : z.length ≤ sizeLine := Nat.le_trans h (Nat.le_of_lt bit_line)
theorem dec_len {n m : Nat} : decide ((n : Int) ≤ (m : Int)) = decide (n ≤ m) := by
  by_cases h : n ≤ m
  · rw [decide_eq_true h, decide_eq_true (by omega)]
  · rw [decide_eq_false h, decide_eq_false (by omega)]
theorem ok_isText {f fS : Addr} {fd fdS : FuncData} (F : Fun K "is_text" "is_text" sIsText f fd) (B : Bt mg) (N : Cn mg) (DS : Df K mg "is_signs" sIsSigns ["thing"] fS fdS) : FnOk P w K mg base CX0 2 f fd ["thing"] (spFlag K texty) := by
  have GS : FnOk P w K mg base CX0 1 fS fdS ["thing"] (spIsSigns K) := ok_isSigns DS.F B
  refine F.ok scIsText (fun vs H Q E h => ?_) (fun cdv A outer s H vs Q E hr h => ?_)
  · obtain ⟨n, rfl, _⟩ := h
    rfl
  · obtain ⟨x, rfl, h⟩ := h
    have hL := B.len
    obtain ⟨t, hT⟩ := N.text
    refine ⟨_, pss_one (ps_ret (pe_and (pe_call GS hr (by rfl) DS.g DS.F.kp DS.b .nil pass0 (pa_cons (pv 0) pa_nil))
      (pe_one (pe_cmpR op_le (pe_callB call_len_str (by rfl) hL PySem.boot_len (pa_cons (pv 0) pa_nil)) (pe_glob (v := .int 96) rfl hT ⟨_, rfl⟩) (nomark _))))), ?_⟩
    rcases h with ⟨z, rfl, hz, k⟩ | ⟨T, ty, kt, k⟩
    · refine ⟨_, rfl, _, rfl, .inl ⟨z, rfl, hz, fun H' sm => ⟨_, rfl, ite2 (fun q => ?_) (fun q => ?_)⟩⟩⟩
      · refine ⟨_, rfl, z, rfl, len_line hz, _, _, rfl, rfl, ?_⟩
        have := k H' sm
        unfold texty at this
        rw [q, Bool.true_and, ← dec_len] at this
        exact this
      · have := k H' sm
        unfold texty at this
        rw [Bool.not_eq_true] at q
        rw [q, Bool.false_and] at this
        exact this
    · exact ⟨_, rfl, _, rfl, .inr ⟨T, ty, kt, false, rfl, iteF k⟩⟩
theorem scIsPiece : FnScope ["thing"] ["thing"] (defScope sIsPiece) := ⟨rfl, rfl, rfl, by decide +kernel, rfl, by decide +kernel, by decide +kernel⟩
theorem ok_isPiece {f fS : Addr} {fd fdS : FuncData} (F : Fun K "is_piece" "is_piece" sIsPiece f fd) (B : Bt mg) (N : Cn mg) (DS : Df K mg "is_signs" sIsSigns ["thing"] fS fdS) : FnOk P w K mg base CX0 2 f fd ["thing"] (spFlag K piecy) := by
  have GS : FnOk P w K mg base CX0 1 fS fdS ["thing"] (spIsSigns K) := ok_isSigns DS.F B
  refine F.ok scIsPiece (fun vs H Q E h => ?_) (fun cdv A outer s H vs Q E hr h => ?_)
  · obtain ⟨n, rfl, _⟩ := h
    rfl
  · obtain ⟨x, rfl, h⟩ := h
    have hL := B.len
    obtain ⟨t, hT⟩ := N.signs
    refine ⟨_, pss_one (ps_ret (pe_and (pe_call GS hr (by rfl) DS.g DS.F.kp DS.b .nil pass0 (pa_cons (pv 0) pa_nil))
      (pe_one (pe_chain op_le op_le pe_int (pe_callB call_len_str (by rfl) hL PySem.boot_len (pa_cons (pv 0) pa_nil)) (pe_glob (v := .int 8) rfl hT ⟨_, rfl⟩))))), ?_⟩
    rcases h with ⟨z, rfl, hz, k⟩ | ⟨T, ty, kt, k⟩
    · refine ⟨_, rfl, _, rfl, .inl ⟨z, rfl, hz, fun H' sm => ⟨_, rfl, ite2 (fun q => ?_) (fun q => ?_)⟩⟩⟩
      · have k1 := k H' sm
        unfold piecy at k1
        rw [q, Bool.true_and] at k1
        refine ⟨_, rfl, z, rfl, len_line hz, _, _, rfl, rfl, _, rfl, ite2 (fun q2 => ?_) (fun q2 => ?_)⟩
        · have q3 : 1 ≤ z.length := by
            have : (1 : Int) ≤ (z.length : Int) := of_decide_eq_true q2
            omega
          rw [decide_eq_true q3, Bool.true_and, ← dec_len] at k1
          exact ⟨_, _, rfl, rfl, k1⟩
        · have q3 : ¬ 1 ≤ z.length := fun y => q2 (decide_eq_true (by omega))
          rw [decide_eq_false q3, Bool.false_and] at k1
          exact k1
      · have := k H' sm
        unfold piecy at this
        rw [Bool.not_eq_true] at q
        rw [q, Bool.false_and] at this
        exact this
    · exact ⟨_, rfl, _, rfl, .inr ⟨T, ty, kt, false, rfl, iteF k⟩⟩
/-! ### chopped -/
def chunk (z : Str) (k : Nat) : Str := cutS z (some (0 + (k : Nat) * 8)) (some (0 + (k : Nat) * 8 + 8))
def chunks (z : Str) : List Str := (List.range ((z.length + 7) / 8)).map (chunk z)
theorem scChopped : FnScope ["text", "k"] ["text"] (defScope sChopped) := ⟨rfl, rfl, rfl, by decide +kernel, rfl, by decide +kernel, by decide +kernel⟩
theorem size8 (n : Nat) : Builtin.Range.rangeSize 0 (n : Int) 8 = (((n + 7) / 8 : Nat) : Int) := by
  unfold Builtin.Range.rangeSize
  rw [if_pos (by decide)]
  by_cases q : (0 : Int) < n
  · rw [if_pos q]
    omega
  · rw [if_neg q]
    omega
theorem fits_of {i : Int} (h : 0 ≤ i) (h2 : i ≤ 2000000) : Builtin.Range.rangeFitsLong i = true := by
  unfold Builtin.Range.rangeFitsLong
  rw [decide_eq_true (by omega), decide_eq_true (by omega)]
  rfl
theorem rg8 (n : Nat) (h : n ≤ bit) : RgC 0 (n : Int) 8 ((n + 7) / 8) := by
  have hb : n ≤ 1000000 := h
  refine ⟨by decide, by decide, ?_, size8 n⟩
  unfold Builtin.Range.small
  rw [size8, if_pos (by decide), fits_of (i := 0) (by omega) (by omega), fits_of (i := (n : Int)) (by omega) (by omega), fits_of (i := 8) (by omega) (by omega), fits_of (i := (((n + 7) / 8 : Nat) : Int)) (by omega) (by omega), fits_of (i := (n : Int) + (8 - 1)) (by omega) (by omega), Bool.or_true]
  rfl
def spChopped (K : PySem.W.Frag) (C : Addr) : Sp := fun vs H Q E => ∃ x : V, vs = [x] ∧
  ((∃ z : Str, x = .str z ∧ z.length ≤ bit ∧ (texty z = true → ∀ H' p, Same H H' → H p = none → H' p = some (.tup ((chunks z).map V.str)) → Q (.ref p) H') ∧ (texty z = false → ∀ H', Same H H' → E (.ref C) none H'))
    ∨ (∃ T, TyX K H x (.type T) ∧ kitB T "str" = some false ∧ ∀ H', Same H H' → E (.ref C) none H'))
theorem ok_chopped {f fS fT C : Addr} {fd fdS fdT : FuncData} (F : Fun K "chopped" "chopped" sChopped f fd) (B : Bt mg) (N : Cn mg) (DS : Df K mg "is_signs" sIsSigns ["thing"] fS fdS) (DT : Df K mg "is_text" sIsText ["thing"] fT fdT) (EC : Ec K mg "NoText" C) : FnOk P w K mg base (L2.CX P w) 3 f fd ["text"] (spChopped K C) := by
  have GT : FnOk P w K mg base CX0 2 fT fdT ["thing"] (spFlag K texty) := ok_isText DT.F B N DS
  refine F.okX scChopped (fun vs H Q E h => ?_) (fun cdv A outer s H vs Q E hr h => ?_)
  · obtain ⟨n, rfl, _⟩ := h
    rfl
  · obtain ⟨x, rfl, h⟩ := h
    have hL := B.len
    have hR := B.range
    have hT := B.tup
    obtain ⟨t, h8⟩ := N.signs
    refine ⟨_, pss_cons (ps_if (pt_not (pt_val (pe_call GT hr (by rfl) DT.g DT.F.kp DT.b .nil pass0 (pa_cons (pv 0) pa_nil))))
        (pss_one (ps_raise rfl (takes_of rfl rfl rfl rfl) (pmk_own0 PySem.F.excBase_ValueError EC.x EC.g EC.k (raises_own EC.b EC.t) rfl))) pss_nil)
      (pss_one (ps_ret (pe_callTy call_tuple_of (by rfl) hT boot_tuple' (pa_cons (pe_lc (own := [("k", 1)]) (g := gName 1) (tt := tYes) rfl scChopped.nd
        (pi_range3 (by rfl) hR (pa_cons pe_int (pa_cons (pe_callB call_len_str (by rfl) hL PySem.boot_len (pa_cons (pv 0) pa_nil)) (pa_cons (pe_glob (v := .int 8) rfl h8 ⟨_, rfl⟩) pa_nil)))) (blkOk_by (N := ["text", "k"]) (sc := defScope sChopped) (by decide +kernel))
        (fun _ _ _ _ _ => pg_name (i := 1) scChopped.nd rfl (Or.inl rfl)) (fun _ _ _ _ _ => pts_nil)
        (fun _ _ _ _ _ => pe_slice sl_str (pv 0) (po_some (pv 1)) (po_some (pe_op op_add (pv 1) (pe_glob (v := .int 8) rfl h8 ⟨_, rfl⟩))))) pa_nil)))), ?_⟩
    rcases h with ⟨z, rfl, hz, k, kE⟩ | ⟨T, ty, kt, k⟩
    · refine ⟨_, rfl, _, rfl, .inl ⟨z, rfl, hz, fun H1 s1 => ⟨_, rfl, ite2 (fun q => ?_) (fun q => ?_)⟩⟩⟩
      · rw [Bool.not_eq_true'] at q
        exact kE q H1 s1
      · have q1 : texty z = true := by
          cases e : texty z with
          | true => rfl
          | false => exact absurd (by rw [e]; rfl) q
        refine ⟨_, rfl, z, rfl, len_line hz, _, _, _, _, rfl, rg8 _ hz, fun D hD => lc_it walk_rangeC (fun i H' => Same H H' ∧ H' D = some (.lst (((List.range i).map (chunk z)).map V.str))) ⟨s1.trans (same_upd hD), upd_same⟩ (fun _ _ _ _ => True.intro) ?_ ?_⟩
        · rintro i x H2 H3 hi ⟨sm, hD2⟩ ⟨rfl, rfl⟩
          refine ⟨rfl, _, rfl, _, rfl, _, rfl, _, rfl, _, _, rfl, rfl, _, rfl, z, rfl, len_line hz, _, hD2, ?_, ?_, ?_⟩
          · rw [List.length_map, List.length_map, List.length_range]
            have := bit_line
            omega
          · intro b o hb
            rw [upd_ne (ne_of_none hb (s1.free hD))]
            exact sm _ _ hb
          · rw [upd_same, List.range_succ, List.map_append, List.map_append]
            rfl
        · rintro H2 ⟨sm, hD2⟩
          refine ⟨D, _, rfl, .inl ⟨SqL.of hD2, fun p hp => ?_⟩⟩
          refine k q1 _ p (sm.trans (same_upd hp)) (sm.free hp) ?_
          rw [upd_same]
          rfl
    · refine ⟨_, rfl, _, rfl, .inr ⟨T, ty, kt, false, rfl, ?_⟩⟩
      exact k H (.refl _)
end
end Hs
namespace Hs
open PySem PySem.Spec PyProof.Rows L2
section
variable {P : Program} {w : World} {K : PySem.W.Frag} {mg : Str → Option Value} {base : Heap}
theorem SqT.ty {H : Hp} {a : Addr} {xs : List V} (h : SqT K H a xs) : TyX K H (.ref a) (.type "tuple") := by
  rcases h with (h | ⟨o, h⟩) | ⟨o, its, n, hk, hc, _⟩
  · exact .base (.tup h)
  · exact .fTuple h
  · exact .kTuple hk hc
theorem SqL.ty {H : Hp} {a : Addr} {xs : List V} (h : SqL K H a xs) : TyX K H (.ref a) (.type "list") := by
  rcases h with (h | ⟨o, h⟩) | ⟨o, its, n, hk, hc, _⟩
  · exact .base (.lst h)
  · exact .base (.frz h)
  · exact .kList hk hc
theorem seqT_same {H H' : Hp} {a : Addr} {xs : List V} (e : Same H H') (h : SqT K H a xs) : SqT K H' a xs := by
  rcases h with (h | ⟨o, h⟩) | h
  · exact .inl (.inl (e _ _ h))
  · exact .inl (.inr ⟨o, e _ _ h⟩)
  · exact .inr h
theorem kit_tt : kitB "tuple" "tuple" = some true := by decide +kernel
theorem kit_lt : kitB "list" "tuple" = some false := by decide +kernel
theorem kit_ns : kitB "NoneType" "str" = some false := by decide +kernel
/-- a text that isn't too long, or no text -/
def Plain (K : PySem.W.Frag) (H : Hp) (x : V) : Prop := (∃ z : Str, x = .str z ∧ z.length ≤ bit) ∨ (∃ T, TyX K H x (.type T) ∧ kitB T "str" = some false)
theorem Plain.same {H H' : Hp} {x : V} (s : Same H H') (h : Plain K H x) : Plain K H' x := by
  rcases h with h | ⟨T, t, k⟩
  · exact .inl h
  · exact .inr ⟨T, TyX.same s t, k⟩
def pieceV : V → Bool
  | .str z => piecy z
  | _ => false
theorem not_str {H : Hp} {x : V} {T : String} (t : TyX K H x (.type T)) (k : kitB T "str" = some false) : pieceV x = false := by
  cases x with
  | str z =>
    exfalso
    cases t with
    | base b =>
      cases b
      rw [kit_ss] at k
      cases k
  | _ => rfl
theorem all_strs : ∀ {xs : List V}, xs.all pieceV = true → ∃ zs : List Str, xs = zs.map V.str ∧ zs.all piecy = true
  | [], _ => ⟨[], rfl, rfl⟩
  | x :: xs, h => by
    rw [List.all_cons, Bool.and_eq_true] at h
    obtain ⟨zs, e, q⟩ := all_strs h.2
    cases x with
    | str z => exact ⟨z :: zs, by rw [e]; rfl, by rw [List.all_cons, q, Bool.and_true]; exact h.1⟩
    | _ => cases h.1
theorem sum_pieces : ∀ {zs : List Str}, zs.all piecy = true → (zs.map (·.length)).sum ≤ 8 * zs.length
  | [], _ => Nat.le_refl _
  | z :: zs, h => by
    rw [List.all_cons, Bool.and_eq_true] at h
    have ih := sum_pieces h.2
    have h1 := h.1
    unfold piecy at h1
    simp only [Bool.and_eq_true, decide_eq_true_eq] at h1
    rw [List.map_cons, List.sum_cons, List.length_cons]
    omega
def spJoined (K : PySem.W.Frag) (C : Addr) : Sp := fun vs H Q E => ∃ x : V, vs = [x] ∧
  ((∃ (a : Addr) (xs : List V), x = .ref a ∧ SqT K H a xs ∧ (∀ y ∈ xs, Plain K H y) ∧ xs.length ≤ bit ∧
      (∀ zs : List Str, xs = zs.map V.str → zs.length ≤ 12 → zs.all piecy = true → ∀ H', Same H H' → Q (.str (Txt.join ("" : Str) zs)) H') ∧
      (¬ (xs.length ≤ 12 ∧ xs.all pieceV = true) → ∀ H', Same H H' → E (.ref C) none H'))
    ∨ (∃ T, TyX K H x (.type T) ∧ kitB T "tuple" = some false ∧ ∀ H', Same H H' → E (.ref C) none H'))
theorem scJoined : FnScope ["pieces", "piece"] ["pieces"] (defScope sJoined) := ⟨rfl, rfl, rfl, by decide +kernel, rfl, by decide +kernel, by decide +kernel⟩
theorem ok_joined {f fS fP C : Addr} {fd fdS fdP : FuncData} (F : Fun K "joined" "joined" sJoined f fd) (B : Bt mg) (N : Cn mg) (DS : Df K mg "is_signs" sIsSigns ["thing"] fS fdS) (DP : Df K mg "is_piece" sIsPiece ["thing"] fP fdP) (EC : Ec K mg "NoPieces" C) : FnOk P w K mg base (L2.CX P w) 3 f fd ["pieces"] (spJoined K C) := by
  have GP : FnOk P w K mg base CX0 2 fP fdP ["thing"] (spFlag K piecy) := ok_isPiece DP.F B N DS
  refine F.okX scJoined (fun vs H Q E h => ?_) (fun cdv A outer s H vs Q E hr h => ?_)
  · obtain ⟨n, rfl, _⟩ := h
    rfl
  · obtain ⟨x, rfl, h⟩ := h
    have hL := B.len
    have hI := B.isi
    have hT := B.tup
    have hA := B.all
    obtain ⟨t, h12⟩ := N.pieces
    refine ⟨_, pss_cons (ps_if (PW.pt (pw_or (pt_not (pt_val (pe_callB call_isi (by rfl) hI boot_isi (pa_cons (pv 0) (pa_cons (pe_bltn (by rfl) hT boot_tuple' (show RelV (.ty "tuple") (.type "tuple") from rfl)) pa_nil)))))
          (pw_or1 (pt_cmpR op_gt (pe_callB call_len_seq (by rfl) hL PySem.boot_len (pa_cons (pv 0) pa_nil)) (pe_glob (v := .int 12) rfl h12 ⟨_, rfl⟩) (nomark _)))))
        (pss_one (ps_raise rfl (takes_of rfl rfl rfl rfl) (pmk_own0 PySem.F.excBase_ValueError EC.x EC.g EC.k (raises_own EC.b EC.t) rfl))) pss_nil)
      (pss_cons (ps_if (pt_not (pt_val (pe_callB (cr_all rfl) (by rfl) hA boot_all' (pa_cons (pe_lc (own := [("piece", 1)]) (g := gName 1) (tt := tYes) rfl scJoined.nd (pi_tup (pv 0)) (blkOk_by (N := ["pieces", "piece"]) (sc := defScope sJoined) (by decide +kernel))
          (fun _ _ _ _ _ => pg_name (i := 1) scJoined.nd rfl (Or.inl rfl)) (fun _ _ _ _ _ => pts_nil) (fun _ _ _ _ _ => pe_call GP hr (by rfl) DP.g DP.F.kp DP.b .nil pass0 (pa_cons (pv 1) pa_nil))) pa_nil))))
        (pss_one (ps_raise rfl (takes_of rfl rfl rfl rfl) (pmk_own0 PySem.F.excBase_ValueError EC.x EC.g EC.k (raises_own EC.b EC.t) rfl))) pss_nil)
      (pss_one (ps_ret (pe_join pe_str (pv 0))))), ?_⟩
    rcases h with ⟨a, xs, rfl, hS, hP, hlen, k, kE⟩ | ⟨T, ty, kt, k⟩
    · refine ⟨_, rfl, _, _, _, _, _, rfl, .ty "tuple", SqT.ty hS, kit_ty kit_tt, _, rfl, ?_⟩
      refine ⟨_, rfl, a, _, rfl, .inr hS, _, _, rfl, rfl, _, rfl, ite2 (fun q => ?_) (fun q => ?_)⟩
      · have q1 : (12 : Int) < (xs.length : Int) := of_decide_eq_true q
        exact kE (fun z => by have := z.1; omega) H (.refl _)
      · have q1 : xs.length ≤ 12 := by
          have : ¬ (12 : Int) < (xs.length : Int) := fun z => q (decide_eq_true z)
          omega
        refine ⟨_, rfl, a, rfl, ⟨_, hS⟩, fun D hD => lc_tup (K := K) (a := a) (xs := xs) (fun i H' => Same H H' ∧ H' D = some (.lst ((xs.take i).map fun y => V.bl (pieceV y)))) ⟨same_upd hD, upd_same⟩ (fun i H' _ p => seqT_same p.1 hS) ?_ ?_⟩
        · rintro i y H1 hi ⟨sm, hDi⟩
          have hil := (List.getElem?_eq_some_iff.mp hi).1
          have e : (xs.take (i + 1)).map (fun y => V.bl (pieceV y)) = (xs.take i).map (fun y => V.bl (pieceV y)) ++ [.bl (pieceV y)] := by
            rw [List.take_add_one, hi, List.map_append]
            rfl
          have nx : ∀ H2, Same H1 H2 → ∃ acc, H2 D = some (.lst acc) ∧ acc.length < sizeLine ∧ Same H (upd H2 D (.lst (acc ++ [.bl (pieceV y)]))) ∧ upd H2 D (.lst (acc ++ [.bl (pieceV y)])) D = some (.lst ((xs.take (i + 1)).map fun y => V.bl (pieceV y))) := fun H2 s2 => by
            refine ⟨_, s2 _ _ hDi, ?_, fun b o hb => ?_, ?_⟩
            · rw [List.length_map, List.length_take]
              have := bit_line
              omega
            · rw [upd_ne (ne_of_none hb hD)]
              exact s2 _ _ (sm _ _ hb)
            · rw [upd_same, e]
          refine ⟨rfl, ?_⟩
          have hy := Plain.same sm (hP y (List.mem_of_getElem? hi))
          rcases hy with ⟨z, rfl, hz⟩ | ⟨T, ty, kt⟩
          · exact ⟨_, rfl, _, rfl, .inl ⟨z, rfl, hz, fun H2 s2 => nx H2 s2⟩⟩
          · refine ⟨_, rfl, _, rfl, .inr ⟨T, ty, kt, ?_⟩⟩
            have := nx H1 (.refl _)
            rw [not_str ty kt] at this
            rw [not_str ty kt] at nx
            obtain ⟨acc, h1, h2, h3, h4⟩ := nx H1 (.refl _)
            exact ⟨acc, h1, h2, h3, by rw [h4, e, not_str ty kt]⟩
        · rintro H1 ⟨sm, hDi⟩
          rw [List.take_length] at hDi
          refine ⟨D, xs.map pieceV, rfl, SqL.of (by rw [hDi, List.map_map]; rfl), _, rfl, ?_⟩
          have ea : (xs.map pieceV).all id = xs.all pieceV := by
            rw [List.all_map]
            rfl
          rw [ea]
          refine ite2 (fun q => ?_) (fun q => ?_)
          · rw [Bool.not_eq_true'] at q
            exact kE (fun z => by rw [z.2] at q; cases q) H1 sm
          · have q2 : xs.all pieceV = true := by
              cases e : xs.all pieceV with
              | true => rfl
              | false => exact absurd (by rw [e]; rfl) q
            obtain ⟨zs, rfl, hz⟩ := all_strs q2
            rw [List.length_map] at q1
            have := sum_pieces hz
            refine ⟨⟨_, rfl⟩, _, rfl, _, a, zs, rfl, rfl, .inr (seqT_same sm hS), ?_, k zs rfl q1 hz H1 sm⟩
            show (zs.map (·.length)).sum + zs.length * 0 ≤ 16777216
            omega
    · refine ⟨_, rfl, _, _, _, _, _, rfl, .ty "tuple", ty, kit_ty kt, _, rfl, ?_⟩
      exact k H (.refl _)
end
end Hs
namespace Hs
open PySem PySem.Spec PyProof.Rows L2
section
variable {P : Program} {w : World} {K : PySem.W.Frag} {mg : Str → Option Value} {base : Heap}
/-! ### the law's signs -/
def signsZ : Str := (" !\"#$&'()*+,-./0123456789:;<=>?@ABCDEFGHIJKLMNOPQRSTUVWXYZ[\\]^_`" : Str) ++ ("abcdefghijklmnopqrstuvwxyz{|}~" : Str)
def okS (c : Nat) : Bool := okc c && decide (c ≠ 37)
theorem signs_len : (TL.tl signsZ).length = 94 := by decide +kernel
theorem signs_ok : (TL.tl signsZ).all okS = true := by decide +kernel
theorem scSigns : FnScope ["signs"] [] (defScope sSigns) := ⟨rfl, rfl, rfl, by decide +kernel, rfl, by decide +kernel, by decide +kernel⟩
def spSigns : Sp := fun vs H Q _ => vs = [] ∧ Q (.str signsZ) H
theorem ok_signs {f : Addr} {fd : FuncData} (F : Fun K "_law_signs" "_law_signs" sSigns f fd) : FnOk P w K mg base CX0 1 f fd [] spSigns := by
  refine F.ok scSigns (fun vs H Q E h => ?_) (fun cdv A outer s H vs Q E hr h => ?_)
  · rw [h.1]
    rfl
  · obtain ⟨rfl, k⟩ := h
    refine ⟨_, pss_cons (ps_set (i := 0) scSigns.nd rfl (.inl rfl) pe_str) (pss_one (ps_ret (pe_op op_add_str (pv 0) pe_str))), ?_⟩
    exact ⟨_, rfl, _, _, rfl, rfl, (by rw [sizeLine_eq]; decide +kernel), k⟩
/-- a text of signs but the percent sign -/
def lawz (z : Str) : Prop := ∀ c ∈ TL.tl z, okS c = true
theorem lawz.ok {z : Str} (h : lawz z) : okz z = true := List.all_eq_true.mpr fun c hc => by
  have := h c hc
  unfold okS at this
  rw [Bool.and_eq_true] at this
  exact this.1
theorem sgn_tl (c : Nat) : TL.tl (⟨#[c]⟩ : Str) = [c] := rfl
theorem join_tl (zs : List Str) : TL.tl (Txt.join ("" : Str) zs) = (zs.map TL.tl).flatten := by
  rw [TL.join_eq, TL.tl_join]
  have e : TL.tl ("" : Str) = [] := rfl
  rw [e]
  generalize zs.map TL.tl = l
  induction l with
  | nil => rfl
  | cons p r ih =>
    cases r with
    | nil => simp [TL.joinL]
    | cons q r =>
      show p ++ ([] ++ TL.joinL [] (q :: r)) = _
      rw [ih]
      rfl
def spString : Sp := fun vs H Q _ => ∃ (wl : WA) (m : Int), vs = [.ref wl.w, .int m] ∧ Well H wl ∧ m ≤ 1000 ∧ -1000 ≤ m ∧ ∀ (z : Str) (H' : Hp), z.length = m.toNat → lawz z → Drawn wl H H' → Q (.str z) H'
theorem scString : FnScope ["well", "many", "signs", "k"] ["well", "many"] (defScope sString) := ⟨rfl, rfl, rfl, by decide +kernel, rfl, by decide +kernel, by decide +kernel⟩
/-- the defs that draw -/
structure Dr (P : Program) (w : World) (K : PySem.W.Frag) (mg : Str → Option Value) (base : Heap) (fM fF fD fG fT : Addr) (dM dF dD dG dT : FuncData) : Prop where
  M : Df K mg "_law_mixed" sMixed ["number"] fM dM
  F : Df K mg "_law_filled" sFilled ["well"] fF dF
  D : Df K mg "_law_draw" sDraw ["well", "many"] fD dD
  G : Df K mg "_law_signs" sSigns [] fG dG
  T : Df K mg "_law_string" sString ["well", "many"] fT dT
  B : Bt mg
theorem cell_strs {D : Addr} {H : Hp} {zs : List Str} (h : H D = some (.lst (zs.map V.str))) : SqL K H D (zs.map V.str) := SqL.of h
theorem ok_string {fM fF fD fG fT : Addr} {dM dF dD dG dT : FuncData} (R : Dr P w K mg base fM fF fD fG fT dM dF dD dG dT) : FnOk P w K mg base CX0 4 fT dT ["well", "many"] spString := by
  have GD : FnOk P w K mg base CX0 3 fD dD ["well", "many"] spDraw := ok_draw R.D.F R.B R.M R.F
  have GG : FnOk P w K mg base CX0 3 fG dG [] spSigns := (ok_signs R.G.F).mono (by decide)
  refine R.T.F.ok scString (fun vs H Q E h => ?_) (fun cdv A outer s H vs Q E hr h => ?_)
  · obtain ⟨n, m, rfl, _⟩ := h
    rfl
  · obtain ⟨wl, m, rfl, W, m1, m2, k⟩ := h
    have hR := R.B.range
    refine ⟨_, pss_cons (ps_set (i := 2) scString.nd rfl (.inr rfl) (pe_call0 GG hr (by rfl) R.G.g R.G.F.kp R.G.b .nil pass0))
      (pss_one (ps_ret (pe_join pe_str (pe_lc (own := [("k", 3)]) (g := gName 3) (tt := tYes) rfl scString.nd (pi_range1 (by rfl) hR (pa_cons (pv 1) pa_nil)) (blkOk_by (N := ["well", "many", "signs", "k"]) (sc := defScope sString) (by decide +kernel))
        (fun _ _ _ _ _ => pg_name (i := 3) scString.nd rfl (Or.inl rfl)) (fun _ _ _ _ _ => pts_nil)
        (fun _ _ _ _ _ => pe_ix ix_str (pv 2) (pe_call GD hr (by rfl) R.D.g R.D.F.kp R.D.b .nil pass0 (pa_cons (pv 0) (pa_cons pe_int pa_nil))) (fun _ _ => rfl)))))), ?_⟩
    refine ⟨rfl, ⟨_, rfl⟩, _, rfl, m, rfl, by omega, by omega, fun D hD => ?_⟩
    refine lc_range (lo := 0) (n := m.toNat) (fun i H' => Drawn wl H H' ∧ ∃ zs : List Str, H' D = some (.lst (zs.map V.str)) ∧ zs.length = i ∧ ∀ z ∈ zs, ∃ c, z = ⟨#[c]⟩ ∧ okS c = true)
      ⟨(Drawn.refl W).new hD, [], upd_same, rfl, fun z hz => by cases hz⟩ ?_ ?_
    · rintro i H1 hi ⟨D1, zs, hz, hl, hc⟩
      have nD := (W.ne hD).1
      refine ⟨rfl, _, rfl, _, rfl, wl, 94, rfl, D1.well, by decide, by decide, fun d H2 d0 d1 D2 => ?_⟩
      have hd : d.toNat < (TL.tl signsZ).length := by
        rw [signs_len]
        omega
      have ho : okS (TL.tl signsZ)[d.toNat] = true := List.all_eq_true.mp signs_ok _ (List.getElem_mem hd)
      refine ⟨signsZ, d, (TL.tl signsZ)[d.toNat], rfl, rfl, ?_, ?_, zs.map V.str, D2.keep D _ nD hz, ?_, ?_⟩
      · rw [TL.len_tl, signs_len, sizeLine_eq]
        decide
      · have e : d = ((d.toNat : Nat) : Int) := by omega
        have hg : (TL.tl signsZ)[d.toNat]? = some (TL.tl signsZ)[d.toNat] := List.getElem?_eq_getElem hd
        have := atI_nat hg
        rw [← e] at this
        exact this
      · rw [List.length_map]
        have := bit_line
        unfold bit at this
        omega
      · refine ⟨(D1.trans D2).put W hD, zs ++ [⟨#[(TL.tl signsZ)[d.toNat]]⟩], ?_, ?_, ?_⟩
        · rw [upd_same, List.map_append]
          rfl
        · rw [List.length_append, hl]
          rfl
        · intro z hz
          rcases List.mem_append.mp hz with hz | hz
          · exact hc z hz
          · exact ⟨_, List.mem_singleton.mp hz, ho⟩
    · rintro H1 ⟨D1, zs, hz, hl, hc⟩
      have hs : ∀ l : List Str, (∀ z ∈ l, ∃ c, z = ⟨#[c]⟩ ∧ okS c = true) → (l.map (·.length)).sum = l.length ∧ ((l.map TL.tl).flatten).length = l.length ∧ ∀ c ∈ (l.map TL.tl).flatten, okS c = true := by
        intro l
        induction l with
        | nil => exact fun _ => ⟨rfl, rfl, fun c hc => by cases hc⟩
        | cons a r ih =>
          intro h
          obtain ⟨i1, i2, i3⟩ := ih fun z hz => h z (List.mem_cons_of_mem _ hz)
          obtain ⟨c, ec, oc⟩ := h a List.mem_cons_self
          subst ec
          refine ⟨?_, ?_, ?_⟩
          · rw [List.map_cons, List.sum_cons, i1, List.length_cons]
            show 1 + r.length = r.length + 1
            omega
          · show (TL.tl (⟨#[c]⟩ : Str) ++ (r.map TL.tl).flatten).length = _
            rw [sgn_tl, List.length_append, i2, List.length_cons]
            show 1 + r.length = r.length + 1
            omega
          · intro b hb
            have hb' : b ∈ TL.tl (⟨#[c]⟩ : Str) ++ (r.map TL.tl).flatten := hb
            rcases List.mem_append.mp hb' with hb | hb
            · rw [sgn_tl] at hb
              rw [List.mem_singleton.mp hb]
              exact oc
            · exact i3 b hb
      obtain ⟨h1, h2, h3⟩ := hs zs hc
      refine ⟨_, D, zs, rfl, rfl, .inl (SqL.of hz), ?_, k _ _ ?_ ?_ D1⟩
      · show (zs.map (·.length)).sum + zs.length * 0 ≤ 16777216
        omega
      · rw [TL.len_tl, join_tl, h2, hl]
      · intro c hc
        rw [join_tl] at hc
        exact h3 c hc
/-! ### the well -/
def spWell (K : PySem.W.Frag) : Sp := fun vs H Q _ => ∃ (a : Addr) (ns : List Int), vs = [.ref a] ∧ SqL K H a (ns.map V.int) ∧ ∀ (wl : WA) (H' : Hp), Same H H' → Well H' wl → Q (.ref wl.w) H'
theorem scWell : FnScope ["script", "cell"] ["script"] (defScope sWell) := ⟨rfl, rfl, rfl, by decide +kernel, rfl, by decide +kernel, by decide +kernel⟩
theorem ok_well {f : Addr} {fd : FuncData} (F : Fun K "_law_well" "_law_well" sWell f fd) (B : Bt mg) : FnOk P w K mg base CX0 1 f fd ["script"] (spWell K) := by
  refine F.ok scWell (fun vs H Q E h => ?_) (fun cdv A outer s H vs Q E hr h => ?_)
  · obtain ⟨n, m, rfl, _⟩ := h
    rfl
  · obtain ⟨a, ns, rfl, hS, k⟩ := h
    have hI := B.int
    refine ⟨_, pss_one (ps_ret (pe_lst (pa_cons (pe_lc (own := [("cell", 1)]) (g := gName 1) (tt := tYes) rfl scWell.nd (pi_list (pe_slice sl_list (pv 0) po_none (po_some pe_int))) (blkOk_by (N := ["script", "cell"]) (sc := defScope sWell) (by decide +kernel))
        (fun _ _ _ _ _ => pg_name (i := 1) scWell.nd rfl (Or.inl rfl)) (fun _ _ _ _ _ => pts_nil) (fun _ _ _ _ _ => pe_callTy call_int1 (by rfl) hI boot_int (pa_cons (pv 1) pa_nil)))
      (pa_cons pe_int (pa_cons pe_int (pa_cons pe_int pa_nil)))))), ?_⟩
    refine ⟨_, rfl, _, rfl, a, _, rfl, hS, fun p hp => ?_⟩
    have ec : cutV (ns.map V.int) none (some 63) = (ns.take 63).map V.int := by
      unfold cutV
      rw [HT.sIx_none, show HT.sIx (ns.map V.int).length (ns.map V.int).length (some 63) = min 63 (ns.map V.int).length from HT.sIx_nat _ _ 63]
      show List.take (min 63 (ns.map V.int).length - 0) (List.drop 0 (ns.map V.int)) = _
      rw [List.drop_zero, Nat.sub_zero, List.map_take, List.take_eq_take_iff]
      omega
    rw [ec]
    have l63 : (ns.take 63).length ≤ 63 := by
      rw [List.length_take]
      omega
    clear ec
    generalize ns.take 63 = cs at l63
    have s1 : Same H (upd H p (.lst (cs.map V.int))) := same_upd hp
    refine ⟨p, rfl, ⟨_, SqL.of upd_same⟩, fun D hD => ?_⟩
    have nDp : p ≠ D := ne_of_none upd_same hD
    refine lc_list (K := K) (a := p) (xs := cs.map V.int) (fun i H' => Same H H' ∧ H' p = some (.lst (cs.map V.int)) ∧ H' D = some (.lst ((cs.take i).map V.int)))
      ⟨s1.trans (same_upd hD), by rw [upd_ne nDp, upd_same], upd_same⟩ (fun i H' _ p => SqL.of p.2.1) ?_ ?_
    · rintro i x H1 hi ⟨sm, h1, h2⟩
      rw [List.getElem?_map] at hi
      cases e : cs[i]? with
      | none =>
        rw [e] at hi
        cases hi
      | some n =>
        rw [e] at hi
        have ex := Option.some.inj hi
        subst ex
        have hl := (List.getElem?_eq_some_iff.mp e).1
        refine ⟨rfl, _, rfl, .inl ⟨_, rfl, _, h2, ?_, fun b o hb => ?_, ?_, ?_⟩⟩
        · rw [List.length_map, List.length_take]
          have := bit_line
          unfold bit at this
          omega
        · rw [upd_ne (ne_of_none hb (s1.free hD))]
          exact sm _ _ hb
        · rw [upd_ne nDp]
          exact h1
        · rw [upd_same, List.take_add_one, e, List.map_append]
          rfl
    · rintro H1 ⟨sm, h1, h2⟩
      rw [List.length_map, List.take_length] at h2
      refine ⟨by show 4 ≤ sizeLine; decide, fun q hq => ?_⟩
      have nDq : D ≠ q := ne_of_none h2 hq
      refine k ⟨q, D⟩ _ (sm.trans (same_upd hq)) ⟨cs, 0, 0, 1, ?_, ?_, nDq, l63⟩
      · exact upd_same
      · rw [upd_ne nDq]
        exact h2
end
end Hs
namespace Hs
open PySem PySem.Spec PyProof.Rows L2
abbrev sPieces : Stmt := topS 21
abbrev sSpT : Stmt := topS 22
abbrev sSpP : Stmt := topS 23
abbrev sFits : Stmt := topS 24
abbrev sIs : Stmt := topS 25
abbrev sTR : Stmt := topS 26
abbrev sPR : Stmt := topS 27
/-! ### cuts -/
theorem cutV_pre {xs : List V} {i : Int} (h : 0 ≤ i) : cutV xs none (some i) = xs.take i.toNat := by
  obtain ⟨n, rfl⟩ : ∃ n : Nat, i = (n : Int) := ⟨i.toNat, by omega⟩
  unfold cutV
  rw [HT.sIx_none, HT.sIx_nat, List.drop_zero, Nat.sub_zero, List.take_eq_take_iff, Int.toNat_natCast]
  omega
theorem cutV_suf {xs : List V} {i : Int} (h : 0 ≤ i) : cutV xs (some i) none = xs.drop i.toNat := by
  obtain ⟨n, rfl⟩ : ∃ n : Nat, i = (n : Int) := ⟨i.toNat, by omega⟩
  unfold cutV
  rw [HT.sIx_none, HT.sIx_nat, Int.toNat_natCast]
  by_cases q : n ≤ xs.length
  · rw [show min n xs.length = n by omega]
    exact List.take_of_length_le (by rw [List.length_drop]; omega)
  · rw [show min n xs.length = xs.length by omega, List.drop_of_length_le (Nat.le_refl _), List.drop_of_length_le (show xs.length ≤ n by omega), List.take_nil]
theorem tl_pre {z : Str} {i : Int} (h : 0 ≤ i) : TL.tl (cutS z none (some i)) = (TL.tl z).take i.toNat := by
  obtain ⟨n, rfl⟩ : ∃ n : Nat, i = (n : Int) := ⟨i.toNat, by omega⟩
  show (List.take _ (List.drop _ (TL.tl z))) = _
  rw [HT.sIx_none, HT.sIx_nat, List.drop_zero, Nat.sub_zero, List.take_eq_take_iff, Int.toNat_natCast, TL.len_tl]
  omega
theorem tl_suf {z : Str} {i : Int} (h : 0 ≤ i) : TL.tl (cutS z (some i) none) = (TL.tl z).drop i.toNat := by
  obtain ⟨n, rfl⟩ : ∃ n : Nat, i = (n : Int) := ⟨i.toNat, by omega⟩
  show (List.take _ (List.drop _ (TL.tl z))) = _
  rw [HT.sIx_none, HT.sIx_nat, Int.toNat_natCast, TL.len_tl]
  by_cases q : n ≤ (TL.tl z).length
  · rw [show min n (TL.tl z).length = n by omega]
    exact List.take_of_length_le (by rw [List.length_drop]; omega)
  · rw [show min n (TL.tl z).length = (TL.tl z).length by omega, List.drop_of_length_le (Nat.le_refl _), List.drop_of_length_le (show (TL.tl z).length ≤ n by omega), List.take_nil]
theorem tl_chunk (z : Str) (k : Nat) : TL.tl (chunk z k) = ((TL.tl z).drop (8 * k)).take 8 := by
  unfold chunk
  show (List.take _ (List.drop _ (TL.tl z))) = _
  rw [show (0 + (k : Nat) * 8 : Int) = ((8 * k : Nat) : Int) by omega, show (((8 * k : Nat) : Int) + 8) = ((8 * k + 8 : Nat) : Int) by omega, HT.sIx_nat, HT.sIx_nat, TL.len_tl]
  by_cases q : 8 * k ≤ (TL.tl z).length
  · rw [show min (8 * k) (TL.tl z).length = 8 * k by omega, List.take_eq_take_iff, List.length_drop]
    omega
  · rw [show min (8 * k) (TL.tl z).length = (TL.tl z).length by omega, List.drop_of_length_le (Nat.le_refl _), List.drop_of_length_le (show (TL.tl z).length ≤ 8 * k by omega)]
    simp
section
variable {P : Program} {w : World} {K : PySem.W.Frag} {mg : Str → Option Value} {base : Heap}
variable {fM fF fD fG fT : Addr} {dM dF dD dG dT : FuncData}
/-! ### pieces -/
def lawp (z : Str) : Prop := lawz z ∧ 1 ≤ z.length ∧ z.length ≤ 8
theorem lawp.ok {z : Str} (h : lawp z) : piecy z = true := by
  unfold piecy
  rw [h.1.ok, decide_eq_true h.2.1, decide_eq_true h.2.2]
  rfl
def spPieces : Sp := fun vs H Q _ => ∃ wl : WA, vs = [.ref wl.w] ∧ Well H wl ∧ ∀ (D : Addr) (zs : List Str) (H' : Hp), H D = none → H' D = some (.lst (zs.map V.str)) → zs.length ≤ 12 → (∀ z ∈ zs, lawp z) → Drawn wl H H' → Q (.ref D) H'
theorem scPieces : FnScope ["well", "many", "full", "k"] ["well"] (defScope sPieces) := ⟨rfl, rfl, rfl, by decide +kernel, rfl, by decide +kernel, by decide +kernel⟩
theorem ok_pieces {f : Addr} {fd : FuncData} (F : Fun K "_law_pieces" "_law_pieces" sPieces f fd) (R : Dr P w K mg base fM fF fD fG fT dM dF dD dG dT) : FnOk P w K mg base CX0 5 f fd ["well"] spPieces := by
  have GD : FnOk P w K mg base CX0 4 fD dD ["well", "many"] spDraw := (ok_draw R.D.F R.B R.M R.F).mono (by decide)
  have GT : FnOk P w K mg base CX0 4 fT dT ["well", "many"] spString := ok_string R
  refine F.ok scPieces (fun vs H Q E h => ?_) (fun cdv A outer s H vs Q E hr h => ?_)
  · obtain ⟨n, rfl, _⟩ := h
    rfl
  · obtain ⟨wl, rfl, W, k⟩ := h
    have hR := R.B.range
    refine ⟨_, pss_cons (ps_set (i := 1) scPieces.nd rfl (.inl rfl) (pe_call GD hr (by rfl) R.D.g R.D.F.kp R.D.b .nil pass0 (pa_cons (pv 0) (pa_cons pe_int pa_nil))))
      (pss_cons (ps_set (i := 2) scPieces.nd rfl (.inl rfl) (pe_cmpR op_eq (pe_call GD hr (by rfl) R.D.g R.D.F.kp R.D.b .nil pass0 (pa_cons (pv 0) (pa_cons pe_int pa_nil))) pe_int (nomark _)))
      (pss_cons (ps_if (pt_val (pv 2)) (pss_one (ps_ret (pe_lc (own := [("k", 3)]) (g := gName 3) (tt := tYes) rfl scPieces.nd (pi_range1 (by rfl) hR (pa_cons pe_int pa_nil)) (blkOk_by (N := ["well", "many", "full", "k"]) (sc := defScope sPieces) (by decide +kernel))
          (fun _ _ _ _ _ => pg_name (i := 3) scPieces.nd rfl (Or.inl rfl)) (fun _ _ _ _ _ => pts_nil)
          (fun _ _ _ _ _ => pe_call GT hr (by rfl) R.T.g R.T.F.kp R.T.b .nil pass0 (pa_cons (pv 0) (pa_cons pe_int pa_nil)))))) pss_nil)
      (pss_one (ps_ret (pe_lc (own := [("k", 3)]) (g := gName 3) (tt := tYes) rfl scPieces.nd (pi_range1 (by rfl) hR (pa_cons (pv 1) pa_nil)) (blkOk_by (N := ["well", "many", "full", "k"]) (sc := defScope sPieces) (by decide +kernel))
          (fun _ _ _ _ _ => pg_name (i := 3) scPieces.nd rfl (Or.inl rfl)) (fun _ _ _ _ _ => pts_nil)
          (fun _ _ _ _ _ => pe_call GT hr (by rfl) R.T.g R.T.F.kp R.T.b .nil pass0 (pa_cons (pv 0) (pa_cons (pe_op op_add pe_int (pe_call GD hr (by rfl) R.D.g R.D.F.kp R.D.b .nil pass0 (pa_cons (pv 0) (pa_cons pe_int pa_nil)))) pa_nil)))))))), ?_⟩
    refine ⟨_, rfl, wl, 13, rfl, W, by decide, by decide, fun m H1 m0 m1 D1 => ?_⟩
    refine ⟨_, rfl, wl, 4, rfl, D1.well, by decide, by decide, fun q H2 _ _ D2 => ?_⟩
    have D12 := D1.trans D2
    refine ⟨rfl, _, rfl, _, rfl, ?_⟩
    -- one step of either comprehension
    have step : ∀ (D : Addr) (n i : Nat) (zs : List Str) (H3 H4 : Hp) (z : Str), H2 D = none → n ≤ 12 → i < n → Drawn wl H H3 → H3 D = some (.lst (zs.map V.str)) → zs.length = i → (∀ z ∈ zs, lawp z) → lawp z → Drawn wl H3 H4 →
        ∃ acc, H4 D = some (.lst acc) ∧ acc.length < sizeLine ∧ Drawn wl H (upd H4 D (.lst (acc ++ [.str z]))) ∧ ∃ zs' : List Str, upd H4 D (.lst (acc ++ [.str z])) D = some (.lst (zs'.map V.str)) ∧ zs'.length = i + 1 ∧ ∀ z ∈ zs', lawp z := by
      intro D n i zs H3 H4 z hD hn hi D3 h3 hl hp hz D4
      have hD0 := D12.free W hD
      refine ⟨zs.map V.str, D4.keep D _ (W.ne hD0).1 h3, ?_, (D3.trans D4).put W hD0, zs ++ [z], ?_, ?_, ?_⟩
      · rw [List.length_map]
        have := bit_line
        unfold bit at this
        omega
      · rw [upd_same, List.map_append]
        rfl
      · rw [List.length_append, hl]
        rfl
      · intro y hy
        rcases List.mem_append.mp hy with hy | hy
        · exact hp y hy
        · rw [List.mem_singleton.mp hy]
          exact hz
    refine ite2 (fun _ => ?_) (fun _ => ?_)
    · refine ⟨12, rfl, by decide, by decide, fun D hD => ?_⟩
      refine lc_range (lo := 0) (n := 12) (fun i H' => Drawn wl H H' ∧ ∃ zs : List Str, H' D = some (.lst (zs.map V.str)) ∧ zs.length = i ∧ ∀ z ∈ zs, lawp z)
        ⟨D12.new hD, [], upd_same, rfl, fun z hz => by cases hz⟩ ?_ ?_
      · rintro i H3 hi ⟨D3, zs, h3, hl, hp⟩
        refine ⟨rfl, _, rfl, wl, 8, rfl, D3.well, by decide, by decide, fun z H4 zl zo D4 => ?_⟩
        exact step D 12 i zs H3 H4 z hD (by decide) hi D3 h3 hl hp ⟨zo, by rw [zl]; decide, by rw [zl]; decide⟩ D4
      · rintro H3 ⟨D3, zs, h3, hl, hp⟩
        exact k D zs H3 (D12.free W hD) h3 (by omega) hp D3
    · refine ⟨_, rfl, m, rfl, by omega, by omega, fun D hD => ?_⟩
      refine lc_range (lo := 0) (n := m.toNat) (fun i H' => Drawn wl H H' ∧ ∃ zs : List Str, H' D = some (.lst (zs.map V.str)) ∧ zs.length = i ∧ ∀ z ∈ zs, lawp z)
        ⟨D12.new hD, [], upd_same, rfl, fun z hz => by cases hz⟩ ?_ ?_
      · rintro i H3 hi ⟨D3, zs, h3, hl, hp⟩
        refine ⟨rfl, _, rfl, _, rfl, wl, 8, rfl, D3.well, by decide, by decide, fun d H4 d0 d1 D4 => ?_⟩
        refine ⟨_, _, rfl, rfl, wl, 1 + d, rfl, D4.well, by omega, by omega, fun z H5 zl zo D5 => ?_⟩
        exact step D m.toNat i zs H3 H5 z hD (by omega) hi D3 h3 hl hp ⟨zo, by rw [zl]; omega, by rw [zl]; omega⟩ (D4.trans D5)
      · rintro H3 ⟨D3, zs, h3, hl, hp⟩
        exact k D zs H3 (D12.free W hD) h3 (by omega) hp D3
/-! ### a spoilt text -/
def spSpT : Sp := fun vs H Q _ => ∃ (wl : WA) (z : Str), vs = [.str z, .ref wl.w] ∧ Well H wl ∧ z.length ≤ 96 ∧ ∀ (y : Str) (H' : Hp), y.length ≤ 2000 → texty y = false → Drawn wl H H' → Q (.str y) H'
theorem scSpT : FnScope ["text", "well", "kind", "at"] ["text", "well"] (defScope sSpT) := ⟨rfl, rfl, rfl, by decide +kernel, rfl, by decide +kernel, by decide +kernel⟩
theorem ok_spT {f : Addr} {fd : FuncData} (F : Fun K "_law_spoilt_text" "_law_spoilt_text" sSpT f fd) (R : Dr P w K mg base fM fF fD fG fT dM dF dD dG dT) : FnOk P w K mg base CX0 5 f fd ["text", "well"] spSpT := by
  have GD : FnOk P w K mg base CX0 4 fD dD ["well", "many"] spDraw := (ok_draw R.D.F R.B R.M R.F).mono (by decide)
  have GT : FnOk P w K mg base CX0 4 fT dT ["well", "many"] spString := ok_string R
  refine F.ok scSpT (fun vs H Q E h => ?_) (fun cdv A outer s H vs Q E hr h => ?_)
  · obtain ⟨n, m, rfl, _⟩ := h
    rfl
  · obtain ⟨wl, z, rfl, W, hz, k⟩ := h
    have hL := R.B.len
    refine ⟨_, pss_cons (ps_set (i := 2) scSpT.nd rfl (.inl rfl) (pe_call GD hr (by rfl) R.D.g R.D.F.kp R.D.b .nil pass0 (pa_cons (pv 1) (pa_cons pe_int pa_nil))))
      (pss_cons (ps_if (pt_cmpR op_eq (pv 2) pe_int (nomark _)) (pss_one (ps_ret (pe_op op_add_str (pv 0) (pe_call GT hr (by rfl) R.T.g R.T.F.kp R.T.b .nil pass0 (pa_cons (pv 1)
          (pa_cons (pe_op op_add (pe_op op_sub pe_int (pe_callB call_len_str (by rfl) hL PySem.boot_len (pa_cons (pv 0) pa_nil))) (pe_call GD hr (by rfl) R.D.g R.D.F.kp R.D.b .nil pass0 (pa_cons (pv 1) (pa_cons pe_int pa_nil)))) pa_nil)))))) pss_nil)
      (pss_cons (ps_set (i := 3) scSpT.nd rfl (.inl rfl) (pe_call GD hr (by rfl) R.D.g R.D.F.kp R.D.b .nil pass0 (pa_cons (pv 1) (pa_cons (pe_op op_add (pe_callB call_len_str (by rfl) hL PySem.boot_len (pa_cons (pv 0) pa_nil)) pe_int) pa_nil))))
      (pss_one (ps_ret (pe_op op_add_str (pe_op op_add_str (pe_slice sl_str (pv 0) po_none (po_some (pv 3))) pe_str) (pe_slice sl_str (pv 0) (po_some (pe_op op_add (pv 3) pe_int)) po_none)))))), ?_⟩
    have zl : z.length ≤ sizeLine := len_line (Nat.le_trans hz (by decide))
    refine ⟨_, rfl, wl, 2, rfl, W, by decide, by decide, fun d H1 d0 d1 D1 => ?_⟩
    refine ⟨_, rfl, rfl, _, rfl, ite2 (fun _ => ?_) (fun _ => ?_)⟩
    · refine ⟨_, rfl, _, rfl, _, rfl, z, rfl, zl, _, _, rfl, rfl, _, rfl, wl, 34, rfl, D1.well, by decide, by decide, fun e H2 e0 e1 D2 => ?_⟩
      refine ⟨_, _, rfl, rfl, wl, _, rfl, D2.well, by omega, by omega, fun y H3 yl yo D3 => ?_⟩
      have la : (z ++ y).length = z.length + y.length := by
        rw [TL.len_tl, TL.tl_append, List.length_append, ← TL.len_tl, ← TL.len_tl]
      refine ⟨_, _, rfl, rfl, ?_, k _ _ ?_ ?_ ((D1.trans D2).trans D3)⟩
      · rw [sizeLine_eq]
        omega
      · rw [la]
        omega
      · unfold texty
        rw [decide_eq_false (by rw [la]; omega), Bool.and_false]
    · refine ⟨_, rfl, _, rfl, z, rfl, zl, _, _, rfl, rfl, wl, _, rfl, D1.well, by omega, by omega, fun e H2 e0 e1 D2 => ?_⟩
      refine ⟨_, rfl, _, rfl, _, rfl, z, rfl, zl, ?_⟩
      have l1 := cutS_length z none (some e)
      have l2 := cutS_length z (some (e + 1)) none
      have la : ∀ x y : Str, (x ++ y).length = x.length + y.length := fun x y => by
        rw [TL.len_tl, TL.tl_append, List.length_append, ← TL.len_tl, ← TL.len_tl]
      have l3 : ("\n" : Str).length = 1 := by decide +kernel
      refine ⟨_, _, rfl, rfl, ?_, _, rfl, _, rfl, _, _, rfl, rfl, _, rfl, z, rfl, zl, _, _, rfl, rfl, ?_, k _ _ ?_ ?_ (D1.trans D2)⟩
      · rw [sizeLine_eq, l3]
        omega
      · rw [sizeLine_eq, la, l3]
        omega
      · rw [la, la, l3]
        omega
      · have e1 : okz (cutS z none (some e) ++ ("\n" : Str) ++ cutS z (some (e + 1)) none) = false := by
          unfold okz
          rw [TL.tl_append, TL.tl_append, List.all_append, List.all_append]
          have : (TL.tl ("\n" : Str)).all okc = false := by decide +kernel
          rw [this, Bool.and_false, Bool.false_and]
        unfold texty
        rw [e1, Bool.false_and]
end
end Hs
namespace Hs
open PySem PySem.Spec PyProof.Rows L2
section
variable {P : Program} {w : World} {K : PySem.W.Frag} {mg : Str → Option Value} {base : Heap}
variable {fM fF fD fG fT : Addr} {dM dF dD dG dT : FuncData}
/-! ### spoilt pieces -/
/-- what joined refuses -/
def Bad (K : PySem.W.Frag) (H : Hp) (x : V) : Prop :=
  (∃ (a : Addr) (xs : List V), x = .ref a ∧ SqT K H a xs ∧ (∀ y ∈ xs, Plain K H y) ∧ xs.length ≤ bit ∧ ¬ (xs.length ≤ 12 ∧ xs.all pieceV = true)) ∨ (∃ T, TyX K H x (.type T) ∧ kitB T "tuple" = some false)
def spSpP (K : PySem.W.Frag) : Sp := fun vs H Q _ => ∃ (wl : WA) (D : Addr) (zs : List Str), vs = [.ref D, .ref wl.w] ∧ Well H wl ∧ H D = some (.lst (zs.map V.str)) ∧ zs.length ≤ 12 ∧ (∀ z ∈ zs, lawp z) ∧ ∀ (y : V) (H' : Hp), Bad K H' y → Drawn wl H H' → Q y H'
theorem scSpP : FnScope ["pieces", "well", "kind", "at", "bad", "k"] ["pieces", "well"] (defScope sSpP) := ⟨rfl, rfl, rfl, by decide +kernel, rfl, by decide +kernel, by decide +kernel⟩
theorem plain_str {H : Hp} {z : Str} (h : z.length ≤ 2000) : Plain K H (.str z) := .inl ⟨z, rfl, Nat.le_trans h (by decide)⟩
theorem piece_bad {z : Str} (h : z.length = 0 ∨ 8 < z.length) : piecy z = false := by
  unfold piecy
  rcases h with h | h
  · rw [h]
    exact Bool.and_false _
  · rw [decide_eq_false (show ¬ z.length ≤ 8 by omega), Bool.and_false, Bool.and_false]
theorem ok_spP {f : Addr} {fd : FuncData} (F : Fun K "_law_spoilt_pieces" "_law_spoilt_pieces" sSpP f fd) (R : Dr P w K mg base fM fF fD fG fT dM dF dD dG dT) : FnOk P w K mg base CX0 5 f fd ["pieces", "well"] (spSpP K) := by
  have GD : FnOk P w K mg base CX0 4 fD dD ["well", "many"] spDraw := (ok_draw R.D.F R.B R.M R.F).mono (by decide)
  have GT : FnOk P w K mg base CX0 4 fT dT ["well", "many"] spString := ok_string R
  refine F.ok scSpP (fun vs H Q E h => ?_) (fun cdv A outer s H vs Q E hr h => ?_)
  · obtain ⟨n, m, q, rfl, _⟩ := h
    rfl
  · obtain ⟨wl, D, zs, rfl, W, hD, hl, hp0, k⟩ := h
    have hL := R.B.len
    have hR := R.B.range
    have hM := R.B.max
    have hT := R.B.tup
    have hLi := R.B.lst
    refine ⟨_, pss_cons (ps_set (i := 2) scSpP.nd rfl (.inl rfl) (pe_call GD hr (by rfl) R.D.g R.D.F.kp R.D.b .nil pass0 (pa_cons (pv 1) (pa_cons pe_int pa_nil))))
      (pss_cons (ps_set (i := 3) scSpP.nd rfl (.inl rfl) (pe_call GD hr (by rfl) R.D.g R.D.F.kp R.D.b .nil pass0 (pa_cons (pv 1) (pa_cons (pe_callB (call_max2 rfl) (by rfl) hM PyProof.Rows.boot_max (pa_cons pe_int (pa_cons (pe_callB call_len_seq (by rfl) hL PySem.boot_len (pa_cons (pv 0) pa_nil)) pa_nil))) pa_nil))))
      (pss_cons (ps_if (pt_cmpR op_eq (pv 2) pe_int (nomark _)) (pss_one (ps_ret (pe_callTy call_list_of (by rfl) hLi boot_list (pa_cons (pv 0) pa_nil)))) pss_nil)
      (pss_cons (ps_if (pt_cmpR op_eq (pv 2) pe_int (nomark _)) (pss_one (ps_ret (pe_callTy call_tuple_of (by rfl) hT boot_tuple' (pa_cons
          (pe_slice sl_list (pe_op op_cat (pv 0) (pe_lc (own := [("k", 5)]) (g := gName 5) (tt := tYes) rfl scSpP.nd (pi_range1 (by rfl) hR (pa_cons pe_int pa_nil)) (blkOk_by (N := ["pieces", "well", "kind", "at", "bad", "k"]) (sc := defScope sSpP) (by decide +kernel))
            (fun _ _ _ _ _ => pg_name (i := 5) scSpP.nd rfl (Or.inl rfl)) (fun _ _ _ _ _ => pts_nil)
            (fun _ _ _ _ _ => pe_call GT hr (by rfl) R.T.g R.T.F.kp R.T.b .nil pass0 (pa_cons (pv 1) (pa_cons pe_int pa_nil))))) po_none (po_some pe_int)) pa_nil)))) pss_nil)
      (pss_cons (ps_set (i := 4) scSpP.nd rfl (.inl rfl) (pe_ix ix_list (pe_lst (pa_cons pe_str (pa_cons (pe_call GT hr (by rfl) R.T.g R.T.F.kp R.T.b .nil pass0 (pa_cons (pv 1) (pa_cons (pe_op op_add pe_int (pe_call GD hr (by rfl) R.D.g R.D.F.kp R.D.b .nil pass0 (pa_cons (pv 1) (pa_cons pe_int pa_nil)))) pa_nil)))
            (pa_cons pe_str (pa_cons pe_non pa_nil))))) (pe_op op_sub (pv 2) pe_int) (fun _ _ => rfl)))
      (pss_one (ps_ret (pe_callTy call_tuple_of (by rfl) hT boot_tuple' (pa_cons
          (pe_op op_cat (pe_op op_cat (pe_slice sl_list (pv 0) po_none (po_some (pv 3))) (pe_lst (pa_cons (pv 4) pa_nil))) (pe_slice sl_list (pv 0) (po_some (pe_op op_add (pv 3) pe_int)) po_none)) pa_nil)))))))), ?_⟩
    have nDw : D ≠ wl.w := by
      obtain ⟨cells, pos, rest, mix, h1, _⟩ := W.ex
      refine ne_of hD h1 fun e => ?_
      cases zs with
      | nil => cases e
      | cons a r => cases e
    refine ⟨_, rfl, wl, 6, rfl, W, by decide, by decide, fun kd H1 d0 d1 D1 => ?_⟩
    have hD1 := D1.keep D _ nDw hD
    have lz : (zs.map V.str).length = zs.length := List.length_map _
    refine ⟨_, rfl, _, rfl, D, _, rfl, .inl (SqL.of hD1), _, _, rfl, wl, _, rfl, D1.well, ?_, ?_, fun at_ H2 a0 a1 D2 => ?_⟩
    · split <;> omega
    · rw [lz]
      split <;> omega
    have hD2 := D2.keep D _ nDw hD1
    have D12 := D1.trans D2
    refine ⟨_, rfl, rfl, _, rfl, ite2 (fun _ => ?_) (fun q0 => ?_)⟩
    · refine ⟨_, rfl, D, _, rfl, .inl (SqL.of hD2), fun l hl => ?_⟩
      exact k _ _ (.inr ⟨"list", SqL.ty (SqL.of upd_same), kit_lt⟩) (D12.new hl)
    · have q0' : kd ≠ 0 := fun e => q0 (decide_eq_true (by rw [e]))
      refine ⟨_, rfl, rfl, _, rfl, ite2 (fun _ => ?_) (fun q1 => ?_)⟩
      · -- thirteen pieces
        refine ⟨_, rfl, 13, rfl, by decide, by decide, fun D' hD' => ?_⟩
        refine lc_range (lo := 0) (n := 13) (fun i H' => Drawn wl H H' ∧ ∃ ys : List Str, H' D' = some (.lst (ys.map V.str)) ∧ ys.length = i ∧ ∀ z ∈ ys, z.length ≤ 2000)
          ⟨D12.new hD', [], upd_same, rfl, fun z hz => by cases hz⟩ ?_ ?_
        · rintro i H3 hi ⟨D3, ys, h3, yl, yp⟩
          have hD0 := D12.free W hD'
          refine ⟨rfl, _, rfl, wl, 1, rfl, D3.well, by decide, by decide, fun z H4 zl zo D4 => ?_⟩
          refine ⟨ys.map V.str, D4.keep D' _ (W.ne hD0).1 h3, ?_, (D3.trans D4).put W hD0, ys ++ [z], ?_, ?_, ?_⟩
          · rw [List.length_map]
            have := bit_line
            unfold bit at this
            omega
          · rw [upd_same, List.map_append]
            rfl
          · rw [List.length_append, yl]
            rfl
          · intro y hy
            rcases List.mem_append.mp hy with hy | hy
            · exact yp y hy
            · rw [List.mem_singleton.mp hy, zl]
              decide
        · rintro H3 ⟨D3, ys, h3, yl, yp⟩
          have hD3 := D3.keep D _ nDw hD
          have b1 := bit_line
          unfold bit at b1
          have ly : (ys.map V.str).length = 13 := by rw [List.length_map, yl]
          refine ⟨D, D', _, _, rfl, rfl, hD3, h3, by omega, fun p hp => ?_⟩
          refine ⟨13, rfl, p, _, rfl, SqL.of upd_same, fun p2 hp2 => ?_⟩
          refine ⟨p2, _, rfl, .inl ⟨SqL.of upd_same, fun p3 hp3 => ?_⟩⟩
          refine k _ _ (.inl ⟨p3, _, rfl, SqT.of upd_same, ?_, ?_, ?_⟩) (((D3.new hp).new hp2).new hp3)
          · rw [cutV_pre (by decide)]
            intro y hy
            have hy2 := List.mem_of_mem_take hy
            rw [← List.map_append] at hy2
            obtain ⟨z, hz, rfl⟩ := List.mem_map.mp hy2
            rcases List.mem_append.mp hz with hz | hz
            · exact plain_str (by have := (hp0 z hz).2.2; omega)
            · exact plain_str (yp z hz)
          · rw [cutV_pre (by decide), List.length_take]
            unfold bit
            show min 13 _ ≤ _
            omega
          · rw [cutV_pre (by decide), List.length_take, List.length_append, ly]
            show ¬ (min 13 _ ≤ 12 ∧ _)
            omega
      · have q1' : kd ≠ 1 := fun e => q1 (decide_eq_true (by rw [e]))
        -- one is bad
        refine ⟨_, rfl, _, rfl, wl, 4, rfl, D2.well, by decide, by decide, fun e H3 e0 e1 D3 => ?_⟩
        refine ⟨_, _, rfl, rfl, wl, 9 + e, rfl, D3.well, by omega, by omega, fun y H4 yl yo D4 => ?_⟩
        refine ⟨by show 4 ≤ sizeLine; decide, fun p hp => ?_⟩
        have D5 := ((D12.trans D3).trans D4).new (o := .lst [.str ("" : Str), .str y, .str ("a\n" : Str), .non]) hp
        obtain ⟨bad, hb1, hb2, hb3⟩ : ∃ bad : V, atI [V.str ("" : Str), .str y, .str ("a\n" : Str), .non] (kd - 2) = some bad ∧ pieceV bad = false ∧ (∀ H', Plain K H' bad) := by
          have : kd = 2 ∨ kd = 3 ∨ kd = 4 ∨ kd = 5 := by omega
          rcases this with rfl | rfl | rfl | rfl
          · exact ⟨_, at_of (j := 0) rfl rfl, piece_bad (.inl rfl), fun H' => plain_str (by decide)⟩
          · exact ⟨_, at_of (j := 1) rfl rfl, piece_bad (.inr (by omega)), fun H' => plain_str (by omega)⟩
          · refine ⟨_, at_of (j := 2) rfl rfl, (by decide +kernel), fun H' => plain_str (by decide +kernel)⟩
          · exact ⟨_, at_of (j := 3) rfl rfl, rfl, fun H' => .inr ⟨"NoneType", .base .non, kit_ns⟩⟩
        refine ⟨_, rfl, _, _, rfl, rfl, p, _, _, bad, rfl, rfl, SqL.of upd_same, hb1, ?_⟩
        have hD5 := D5.keep D _ nDw hD
        refine ⟨_, rfl, _, rfl, _, rfl, D, _, rfl, SqL.of hD5, fun p1 hp1 => ?_⟩
        refine ⟨_, rfl, by show 1 ≤ sizeLine; decide, fun p2 hp2 => ?_⟩
        have n12 : p1 ≠ p2 := ne_of_none upd_same hp2
        have b1 := bit_line
        unfold bit at b1
        refine ⟨p1, p2, _, _, rfl, rfl, (by rw [upd_ne n12]; exact upd_same), upd_same, ?_, fun p3 hp3 => ?_⟩
        · rw [cutV_pre a0, List.length_take, lz]
          show min _ _ + 1 ≤ _
          omega
        have D6 := ((D5.new (o := .lst (cutV (zs.map V.str) none (some at_))) hp1).new (o := .lst [bad]) hp2).new (o := .lst (cutV (zs.map V.str) none (some at_) ++ [bad])) hp3
        have hD6 := D6.keep D _ nDw hD
        refine ⟨_, rfl, _, rfl, _, _, rfl, rfl, _, rfl, D, _, rfl, SqL.of hD6, fun p4 hp4 => ?_⟩
        have n34 : p3 ≠ p4 := ne_of_none upd_same hp4
        refine ⟨p3, p4, _, _, rfl, rfl, (by rw [upd_ne n34]; exact upd_same), upd_same, ?_, fun p5 hp5 => ?_⟩
        · rw [cutV_pre a0, cutV_suf (by omega), List.length_append, List.length_take, List.length_drop, lz]
          show min _ _ + 1 + _ ≤ _
          omega
        refine ⟨p5, _, rfl, .inl ⟨SqL.of upd_same, fun p6 hp6 => ?_⟩⟩
        refine k _ _ (.inl ⟨p6, _, rfl, SqT.of upd_same, ?_, ?_, ?_⟩) (((D6.new hp4).new hp5).new hp6)
        · rw [cutV_pre a0, cutV_suf (by omega)]
          intro x hx
          rcases List.mem_append.mp hx with hx | hx
          · rcases List.mem_append.mp hx with hx | hx
            · obtain ⟨z, hz, rfl⟩ := List.mem_map.mp (List.mem_of_mem_take hx)
              exact plain_str (by have := (hp0 z hz).2.2; omega)
            · rw [List.mem_singleton.mp hx]
              exact hb3 _
          · obtain ⟨z, hz, rfl⟩ := List.mem_map.mp (List.mem_of_mem_drop hx)
            exact plain_str (by have := (hp0 z hz).2.2; omega)
        · rw [cutV_pre a0, cutV_suf (by omega), List.length_append, List.length_append, List.length_take, List.length_drop, lz]
          unfold bit
          show min _ _ + 1 + _ ≤ _
          omega
        · rw [cutV_pre a0, cutV_suf (by omega), List.all_append, List.all_append]
          have : [bad].all pieceV = false := by
            show (pieceV bad && true) = false
            rw [hb2]
            rfl
          rw [this, Bool.and_false, Bool.false_and]
          exact fun z => by cases z.2
end
end Hs
namespace Hs
open PySem PySem.Spec PyProof.Rows L2
section
variable {P : Program} {w : World} {K : PySem.W.Frag} {mg : Str → Option Value} {base : Heap}
/-! ### the law's looks -/
def spFits (K : PySem.W.Frag) : Sp := fun vs H Q _ => ∃ (z : Str) (a : Addr), vs = [.str z, .ref a] ∧ z.length ≤ bit ∧ SqT K H a ((chunks z).map V.str) ∧ Q (.bl true) H
theorem scFits : FnScope ["text", "pieces", "k"] ["text", "pieces"] (defScope sFits) := ⟨rfl, rfl, rfl, by decide +kernel, rfl, by decide +kernel, by decide +kernel⟩
theorem chunks_len (z : Str) : (chunks z).length = (z.length + 7) / 8 := by
  unfold chunks
  rw [List.length_map, List.length_range]
theorem chunks_get {z : Str} {i : Nat} (h : i < (z.length + 7) / 8) : (chunks z)[i]? = some (chunk z i) := by
  unfold chunks
  rw [List.getElem?_map, List.getElem?_range h]
  rfl
theorem ok_fits {f : Addr} {fd : FuncData} (F : Fun K "_law_fits" "_law_fits" sFits f fd) (B : Bt mg) : FnOk P w K mg base CX0 1 f fd ["text", "pieces"] (spFits K) := by
  refine F.ok scFits (fun vs H Q E h => ?_) (fun cdv A outer s H vs Q E hr h => ?_)
  · obtain ⟨n, m, rfl, _⟩ := h
    rfl
  · obtain ⟨z, a, rfl, hz, hS, k⟩ := h
    have hL := B.len
    have hI := B.isi
    have hT := B.tup
    have hSt := B.str
    have hR := B.range
    refine ⟨_, pss_cons (ps_if (PW.pt (pw_or (pt_not (pt_val (pe_callB call_isi (by rfl) hI boot_isi (pa_cons (pv 1) (pa_cons (pe_bltn (by rfl) hT boot_tuple' (show RelV (.ty "tuple") (.type "tuple") from rfl)) pa_nil)))))
          (pw_or1 (pt_cmpR op_ne (pe_callB call_len_seq (by rfl) hL PySem.boot_len (pa_cons (pv 1) pa_nil)) (pe_op op_fdiv (pe_op op_add (pe_callB call_len_str (by rfl) hL PySem.boot_len (pa_cons (pv 0) pa_nil)) pe_int) pe_int) (nomark _)))))
        (pss_one (ps_ret pe_bl)) pss_nil)
      (pss_cons (ps_for PassesOwn.never rfl (pi_range1 (by rfl) hR (pa_cons (pe_callB call_len_seq (by rfl) hL PySem.boot_len (pa_cons (pv 1) pa_nil)) pa_nil)) (pg_name (i := 2) scFits.nd rfl (Or.inl rfl))
        (pss_one (ps_if (PW.pt (pw_or (pt_not (pt_val (pe_callB call_isi (by rfl) hI boot_isi (pa_cons (pe_ix ix_tup (pv 1) (pv 2) (fun _ _ => rfl)) (pa_cons (pe_bltn (by rfl) hSt boot_str (show RelV (.ty "str") (.type "str") from rfl)) pa_nil)))))
            (pw_or1 (pt_cmpR op_ne (pe_ix ix_tup (pv 1) (pv 2) (fun _ _ => rfl)) (pe_slice sl_str (pv 0) (po_some (pe_op op_mul pe_int (pv 2))) (po_some (pe_op op_add (pe_op op_mul pe_int (pv 2)) pe_int))) (nomark _)))))
          (pss_one (ps_ret pe_bl)) pss_nil)))
      (pss_one (ps_ret pe_bl))), ?_⟩
    have zl := len_line hz
    have lc : ((chunks z).map V.str).length = (z.length + 7) / 8 := by rw [List.length_map, chunks_len]
    have hz' : z.length ≤ 1000000 := hz
    refine ⟨_, rfl, _, _, _, _, _, rfl, .ty "tuple", SqT.ty hS, kit_ty kit_tt, _, rfl, ?_⟩
    refine ⟨_, rfl, a, _, rfl, .inr hS, _, rfl, z, rfl, zl, _, _, rfl, rfl, _, _, rfl, rfl, ⟨by decide, by decide⟩, rfl, _, rfl, ?_⟩
    have e1 : (!decide (V.int ((((chunks z).map V.str).length : Nat) : Int) = V.int (((z.length : Int) + 7) / 8))) = false := by
      rw [lc, decide_eq_true (by congr 1)]
      rfl
    refine ite2 (fun q => ?_) (fun _ => ?_)
    · exact absurd (q.symm.trans e1) (by decide)
    · refine ⟨_, rfl, a, _, rfl, .inr hS, _, rfl, by omega, by omega, ?_⟩
      rw [lc]
      refine for_range (lo := 0) (n := (z.length + 7) / 8) (fun i σ H' => ∃ v, σ = [some (.str z), some (.ref a), v] ∧ H' = H) ⟨none, rfl, rfl⟩ ?_ ?_
      · rintro i σ H' hi ⟨v, rfl, rfl⟩
        have g : ((chunks z).map V.str)[i]? = some (.str (chunk z i)) := by
          rw [List.getElem?_map, chunks_get hi]
          rfl
        have g1 : atI ((chunks z).map V.str) (0 + (i : Int)) = some (.str (chunk z i)) := at_of (by omega) g
        refine ⟨_, rfl, _, rfl, a, _, _, _, rfl, rfl, hS, g1, _, _, _, _, _, rfl, .ty "str", .base (.str _), kit_ty kit_ss, _, rfl, ?_⟩
        refine ⟨_, rfl, _, rfl, a, _, _, _, rfl, rfl, hS, g1, _, rfl, _, rfl, _, _, rfl, rfl, .inl (by decide), _, rfl, _, rfl, _, _, rfl, rfl, .inl (by decide), _, _, rfl, rfl, _, rfl, z, rfl, zl, rfl, _, rfl, ?_⟩
        have e2 : (!decide (V.str (chunk z i) = V.str (cutS z (some (8 * (0 + (i : Int)))) (some (8 * (0 + (i : Int)) + 8))))) = false := by
          unfold chunk
          rw [show (8 * (0 + (i : Int))) = 0 + (i : Int) * 8 by omega, decide_eq_true rfl]
          rfl
        refine ite2 (fun q => ?_) (fun _ => ?_)
        · exact absurd (q.symm.trans e2) (by decide)
        · exact ⟨_, rfl, rfl⟩
      · rintro σ H' ⟨v, rfl, rfl⟩
        exact k
def spIs : Sp := fun vs H Q _ => ∃ a b : Str, vs = [.str a, .str b] ∧ a = b ∧ Q (.bl true) H
theorem scIs : FnScope ["told", "due"] ["told", "due"] (defScope sIs) := ⟨rfl, rfl, rfl, by decide +kernel, rfl, by decide +kernel, by decide +kernel⟩
theorem ok_is {f : Addr} {fd : FuncData} (F : Fun K "_law_is" "_law_is" sIs f fd) (B : Bt mg) : FnOk P w K mg base CX0 1 f fd ["told", "due"] spIs := by
  refine F.ok scIs (fun vs H Q E h => ?_) (fun cdv A outer s H vs Q E hr h => ?_)
  · obtain ⟨n, m, rfl, _⟩ := h
    rfl
  · obtain ⟨a, b, rfl, rfl, k⟩ := h
    have hI := B.isi
    have hSt := B.str
    refine ⟨_, pss_one (ps_ret (pe_and (pe_callB call_isi (by rfl) hI boot_isi (pa_cons (pv 0) (pa_cons (pe_bltn (by rfl) hSt boot_str (show RelV (.ty "str") (.type "str") from rfl)) pa_nil))) (pe_one (pe_cmpR op_eq (pv 0) (pv 1) (nomark _))))), ?_⟩
    refine ⟨_, rfl, _, _, _, _, _, rfl, .ty "str", .base (.str _), kit_ty kit_ss, _, rfl, iteT ⟨_, rfl, _, rfl, rfl, ?_⟩⟩
    rw [decide_eq_true rfl]
    exact k
end
end Hs
namespace Hs
open PySem PySem.Spec PyProof.Rows L2
section
variable {P : Program} {w : World} {K : PySem.W.Frag} {mg : Str → Option Value} {base : Heap}
/-! ### refusals -/
def spTR : Sp := fun vs H Q _ => ∃ z : Str, vs = [.str z] ∧ z.length ≤ bit ∧ texty z = false ∧ ∀ H', Same H H' → Q (.bl true) H'
theorem scTR : FnScope ["text", "told"] ["text"] (defScope sTR) := ⟨rfl, rfl, rfl, by decide +kernel, rfl, by decide +kernel, by decide +kernel⟩
theorem ok_tr {f fS fT fC C CH : Addr} {fd fdS fdT fdC : FuncData} (F : Fun K "_law_text_refused" "_law_text_refused" sTR f fd) (B : Bt mg) (N : Cn mg) (DS : Df K mg "is_signs" sIsSigns ["thing"] fS fdS) (DT : Df K mg "is_text" sIsText ["thing"] fT fdT) (DC : Df K mg "chopped" sChopped ["text"] fC fdC)
    (EC : Ec K mg "NoText" C) (gH : mg "HomeError" = some (.ref CH)) : FnOk P w K mg base CX0 4 f fd ["text"] spTR := by
  have GC : FnOk P w K mg base (L2.CX P w) 3 fC fdC ["text"] (spChopped K C) := ok_chopped DC.F B N DS DT EC
  refine F.ok scTR (fun vs H Q E h => ?_) (fun cdv A outer s H vs Q E hr h => ?_)
  · obtain ⟨n, rfl, _⟩ := h
    rfl
  · obtain ⟨z, rfl, hz, hb, k⟩ := h
    refine ⟨_, pss_cons (ps_set (i := 1) scTR.nd rfl (.inl rfl) pe_bl)
      (pss_cons (ps_try_many (tb := fun W => tDrop (tCallS (spChopped K C) (WE W) (tCons (tVar 0) tNil))) (l := [(.ref C, fun _ _ _ => tAsg (tC (.bl true)) (gName 1)), (.ref CH, fun _ _ _ => tAsg (tC (.bl false)) (gName 1))]) (Wout := fun _ _ _ _ => False) rfl rfl takes0
        (fun W pn xe tk _ => pss_one (ps_expr (pe_callS GC hr rfl DC.g DC.F.kp DC.b (fun σ => passAt tk σ) (pa_cons (pv 0) pa_nil))))
        (.cons ⟨rfl, by decide, .inl EC.g⟩ (fun a oe cls d pn _ _ => pss_one (ps_set (i := 1) scTR.nd rfl (.inl rfl) pe_bl)) (.cons ⟨rfl, by decide, .inl gH⟩ (fun a oe cls d pn _ _ => pss_one (ps_set (i := 1) scTR.nd rfl (.inl rfl) pe_bl)) .nil)))
      (pss_one (ps_ret (pv 1)))), ?_⟩
    refine ⟨_, rfl, _, rfl, .inl ⟨z, rfl, hz, fun q => (by rw [hb] at q; cases q), fun _ H' sm => ?_⟩⟩
    refine ⟨true, EC.e, fun _ a ha => ?_, fun q => Bool.noConfusion q⟩
    exact ⟨_, rfl, k H' sm⟩
def spPR (K : PySem.W.Frag) : Sp := fun vs H Q _ => ∃ x : V, vs = [x] ∧ Bad K H x ∧ ∀ H', Same H H' → Q (.bl true) H'
theorem scPR : FnScope ["pieces", "told"] ["pieces"] (defScope sPR) := ⟨rfl, rfl, rfl, by decide +kernel, rfl, by decide +kernel, by decide +kernel⟩
theorem ok_pr {f fS fP fC C CH : Addr} {fd fdS fdP fdC : FuncData} (F : Fun K "_law_pieces_refused" "_law_pieces_refused" sPR f fd) (B : Bt mg) (N : Cn mg) (DS : Df K mg "is_signs" sIsSigns ["thing"] fS fdS) (DP : Df K mg "is_piece" sIsPiece ["thing"] fP fdP) (DC : Df K mg "joined" sJoined ["pieces"] fC fdC)
    (EC : Ec K mg "NoPieces" C) (gH : mg "HomeError" = some (.ref CH)) : FnOk P w K mg base CX0 4 f fd ["pieces"] (spPR K) := by
  have GC : FnOk P w K mg base (L2.CX P w) 3 fC fdC ["pieces"] (spJoined K C) := ok_joined DC.F B N DS DP EC
  refine F.ok scPR (fun vs H Q E h => ?_) (fun cdv A outer s H vs Q E hr h => ?_)
  · obtain ⟨n, rfl, _⟩ := h
    rfl
  · obtain ⟨x, rfl, hb, k⟩ := h
    refine ⟨_, pss_cons (ps_set (i := 1) scPR.nd rfl (.inl rfl) pe_bl)
      (pss_cons (ps_try_many (tb := fun W => tDrop (tCallS (spJoined K C) (WE W) (tCons (tVar 0) tNil))) (l := [(.ref C, fun _ _ _ => tAsg (tC (.bl true)) (gName 1)), (.ref CH, fun _ _ _ => tAsg (tC (.bl false)) (gName 1))]) (Wout := fun _ _ _ _ => False) rfl rfl takes0
        (fun W pn xe tk _ => pss_one (ps_expr (pe_callS GC hr rfl DC.g DC.F.kp DC.b (fun σ => passAt tk σ) (pa_cons (pv 0) pa_nil))))
        (.cons ⟨rfl, by decide, .inl EC.g⟩ (fun a oe cls d pn _ _ => pss_one (ps_set (i := 1) scPR.nd rfl (.inl rfl) pe_bl)) (.cons ⟨rfl, by decide, .inl gH⟩ (fun a oe cls d pn _ _ => pss_one (ps_set (i := 1) scPR.nd rfl (.inl rfl) pe_bl)) .nil)))
      (pss_one (ps_ret (pv 1)))), ?_⟩
    have fin : ∀ H', Same H H' → wMany K (fun _ _ _ _ => False) { nx := (fun σ H' => ∃ v, σ[1]? = some (some v) ∧ Q v H'), rt := Q } [(.ref C, fun _ _ _ => tAsg (tC (.bl true)) (gName 1)), (.ref CH, fun _ _ _ => tAsg (tC (.bl false)) (gName 1))] (.ref C) none [some x, some (.bl false)] H' := fun H' sm => by
      refine ⟨true, EC.e, fun _ a ha => ?_, fun q => Bool.noConfusion q⟩
      exact ⟨_, rfl, k H' sm⟩
    rcases hb with ⟨a, xs, rfl, hS, hP, hl, hn⟩ | ⟨T, ty, kt⟩
    · refine ⟨_, rfl, _, rfl, .inl ⟨a, xs, rfl, hS, hP, hl, fun zs e l12 hz => ?_, fun _ H' sm => fin H' sm⟩⟩
      exfalso
      refine hn ⟨by rw [e, List.length_map]; exact l12, ?_⟩
      rw [e, List.all_map]
      exact hz
    · exact ⟨_, rfl, _, rfl, .inr ⟨T, ty, kt, fun H' sm => fin H' sm⟩⟩
end
end Hs
namespace Hs
open PySem PySem.Spec PyProof.Rows L2
abbrev sLaw : Stmt := topS 28
/-! ### chunks -/
def chunkL (l : List Nat) : List (List Nat) := (List.range ((l.length + 7) / 8)).map fun k => (l.drop (8 * k)).take 8
theorem chunkL_len (l : List Nat) : (chunkL l).length = (l.length + 7) / 8 := by
  unfold chunkL
  rw [List.length_map, List.length_range]
theorem chunkL_get (l : List Nat) (i : Nat) : (chunkL l)[i]? = if i < (l.length + 7) / 8 then some ((l.drop (8 * i)).take 8) else none := by
  unfold chunkL
  rw [List.getElem?_map]
  split
  · rename_i h
    rw [List.getElem?_range h]
    rfl
  · rename_i h
    rw [List.getElem?_eq_none (by rw [List.length_range]; omega)]
    rfl
theorem tl_chunks (z : Str) : (chunks z).map TL.tl = chunkL (TL.tl z) := by
  unfold chunks chunkL
  rw [List.map_map, TL.len_tl]
  refine List.map_congr_left fun k _ => tl_chunk z k
theorem chunkL_app {a : List Nat} {m : Nat} (h : a.length = 8 * m) (b : List Nat) : chunkL (a ++ b) = chunkL a ++ chunkL b := by
  refine List.ext_getElem? fun i => ?_
  have la : (a.length + 7) / 8 = m := by omega
  have lb : ((a ++ b).length + 7) / 8 = m + (b.length + 7) / 8 := by
    rw [List.length_append]
    omega
  rw [chunkL_get, lb, List.getElem?_append, chunkL_len, la, chunkL_get, chunkL_get, la]
  by_cases hi : i < m
  · rw [if_pos hi, if_pos hi, if_pos (by omega), List.drop_append_of_le_length (by omega), List.take_append_of_le_length (by rw [List.length_drop]; omega)]
  · rw [if_neg hi]
    have e : 8 * i = a.length + 8 * (i - m) := by omega
    by_cases h2 : i - m < (b.length + 7) / 8
    · rw [if_pos (by omega), if_pos h2, e, ← List.drop_drop, List.drop_left]
    · rw [if_neg (by omega), if_neg h2]
theorem chunkL_flat : ∀ (n : Nat) (l : List Nat), l.length ≤ n → (chunkL l).flatten = l := by
  intro n
  induction n with
  | zero =>
    intro l h
    have : l = [] := List.length_eq_zero_iff.mp (by omega)
    subst this
    rfl
  | succ n ih =>
    intro l h
    by_cases h8 : 8 ≤ l.length
    · have e : l = l.take 8 ++ l.drop 8 := (List.take_append_drop 8 l).symm
      have lt : (l.take 8).length = 8 * 1 := by
        rw [List.length_take]
        omega
      have : chunkL l = chunkL (l.take 8) ++ chunkL (l.drop 8) := by
        rw [← chunkL_app lt, ← e]
      rw [this, List.flatten_append, ih (l.drop 8) (by rw [List.length_drop]; omega)]
      have : chunkL (l.take 8) = [l.take 8] := by
        unfold chunkL
        rw [lt]
        show [List.take 8 (List.drop (8 * 0) (l.take 8))] = _
        rw [Nat.mul_zero, List.drop_zero, List.take_take]
        rfl
      rw [this]
      show (l.take 8 ++ []) ++ l.drop 8 = l
      rw [List.append_nil, ← e]
    · by_cases h0 : l = []
      · subst h0
        rfl
      · have hp : 0 < l.length := List.length_pos_iff.mpr h0
        have : chunkL l = [l] := by
          unfold chunkL
          rw [show (l.length + 7) / 8 = 1 by omega]
          show [List.take 8 (List.drop (8 * 0) l)] = _
          rw [Nat.mul_zero, List.drop_zero, List.take_of_length_le (by omega)]
        rw [this]
        show l ++ [] = l
        rw [List.append_nil]
theorem join_chunks (z : Str) : Txt.join ("" : Str) (chunks z) = z := by
  refine TL.ext_tl ?_
  rw [join_tl, tl_chunks, chunkL_flat _ _ (Nat.le_refl _)]
theorem chunks_app {a b : Str} {m : Nat} (h : a.length = 8 * m) : chunks (a ++ b) = chunks a ++ chunks b := by
  refine TL.map_tl_inj ?_
  rw [List.map_append, tl_chunks, tl_chunks, tl_chunks, TL.tl_append]
  exact chunkL_app (by rw [← TL.len_tl]; exact h) _
theorem mem_chunks {z y : Str} (h : y ∈ chunks z) : ∃ k, k < (z.length + 7) / 8 ∧ y = chunk z k := by
  unfold chunks at h
  obtain ⟨k, hk, rfl⟩ := List.mem_map.mp h
  exact ⟨k, List.mem_range.mp hk, rfl⟩
theorem chunks_piecy {z : Str} (h : okz z = true) : (chunks z).all piecy = true := by
  refine List.all_eq_true.mpr fun y hy => ?_
  obtain ⟨k, hk, rfl⟩ := mem_chunks hy
  have e := tl_chunk z k
  have l : (chunk z k).length = min 8 (z.length - 8 * k) := by
    rw [TL.len_tl, e, List.length_take, List.length_drop, TL.len_tl]
  unfold piecy
  rw [decide_eq_true (by omega : 1 ≤ (chunk z k).length), decide_eq_true (by omega : (chunk z k).length ≤ 8)]
  have : okz (chunk z k) = true := by
    unfold okz
    rw [e]
    refine List.all_eq_true.mpr fun c hc => ?_
    exact List.all_eq_true.mp h c (List.mem_of_mem_drop (List.mem_of_mem_take hc))
  rw [this]
  rfl
theorem lawz_app {a b : Str} (ha : lawz a) (hb : lawz b) : lawz (a ++ b) := fun c hc => by
  rw [TL.tl_append] at hc
  rcases List.mem_append.mp hc with hc | hc
  · exact ha c hc
  · exact hb c hc
theorem len_app (a b : Str) : (a ++ b).length = a.length + b.length := by
  rw [TL.len_tl, TL.tl_append, List.length_append, ← TL.len_tl, ← TL.len_tl]
theorem texty_of {z : Str} (h : lawz z) (l : z.length ≤ 96) : texty z = true := by
  unfold texty
  rw [h.ok, decide_eq_true l]
  rfl
/-! ### tuples of texts compared -/
def dTup (zs : List Str) : PyData := .tuple (zs.map .str)
theorem dTup_ok {K : PySem.W.Frag} {H : Hp} {a : Addr} {zs : List Str} (h : SqT K H a (zs.map V.str)) : Dp K H (.ref a) (dTup zs) := by
  refine .tup h ?_
  clear h
  induction zs with
  | nil => exact .nil
  | cons z r ih => exact .cons (.str z) ih
theorem strOk_of {z : Str} (h : okz z = true) : PySem.PyData.strOk z = true := by
  unfold PySem.PyData.strOk
  rw [← Array.all_toList]
  refine List.all_eq_true.mpr fun c hc => ?_
  have := List.all_eq_true.mp h c hc
  unfold okc at this
  simp only [Bool.and_eq_true, decide_eq_true_eq] at this
  exact decide_eq_true (by omega)
theorem dTup_shaped {zs : List Str} (h : zs.all okz = true) : SeqAt.shaped (dTup zs) = true := by
  unfold SeqAt.shaped dTup
  rw [Bool.and_eq_true]
  constructor
  · show PyData.canLayAll0 (zs.map .str) = true
    induction zs with
    | nil => rfl
    | cons z r ih =>
      rw [List.all_cons, Bool.and_eq_true] at h
      show (PySem.PyData.strOk z && PyData.canLayAll0 (r.map .str)) = true
      rw [strOk_of h.1, ih h.2]
      rfl
  · refine decide_eq_true ?_
    have : ∀ l : List Str, PyData.depthAll (l.map .str) = 0 := fun l => by
      induction l with
      | nil => rfl
      | cons z r ih =>
        show max 0 (PyData.depthAll (r.map .str)) = 0
        rw [ih]
        rfl
    show PyData.depthAll (zs.map .str) + 1 ≤ 64
    rw [this]
    decide
end Hs
namespace Hs
open PySem PySem.Spec PyProof.Rows L2
section
variable {P : Program} {w : World} {K : PySem.W.Frag} {mg : Str → Option Value} {base : Heap}
variable {fM fF fD fG fT : Addr} {dM dF dD dG dT : FuncData}
/-! ### the law -/
def spLaw (K : PySem.W.Frag) : Sp := fun vs H Q _ => ∃ (a : Addr) (ns : List Int), vs = [.ref a] ∧ SqL K H a (ns.map V.int) ∧ ∀ H', Q (.bl true) H'
theorem scLaw : FnScope ["script", "well", "turn", "head", "tail", "first", "second", "whole", "pieces", "told"] ["script"] (defScope sLaw) := ⟨rfl, rfl, rfl, by decide +kernel, rfl, by decide +kernel, by decide +kernel⟩
/-- the defs that the law calls -/
structure Al (P : Program) (w : World) (K : PySem.W.Frag) (mg : Str → Option Value) (base : Heap) : Prop where
  ex : ∃ (fM fF fD fG fT fW fS fX fY fC fJ fP fSt fSp fFi fI fTR fPR : Addr) (dM dF dD dG dT dW dS dX dY dC dJ dP dSt dSp dFi dI dTR dPR : FuncData) (CT CP CH : Addr),
    Dr P w K mg base fM fF fD fG fT dM dF dD dG dT ∧ Df K mg "_law_well" sWell ["script"] fW dW ∧ Df K mg "is_signs" sIsSigns ["thing"] fS dS ∧ Df K mg "is_text" sIsText ["thing"] fX dX ∧ Df K mg "is_piece" sIsPiece ["thing"] fY dY ∧
    Df K mg "chopped" sChopped ["text"] fC dC ∧ Df K mg "joined" sJoined ["pieces"] fJ dJ ∧ Df K mg "_law_pieces" sPieces ["well"] fP dP ∧ Df K mg "_law_spoilt_text" sSpT ["text", "well"] fSt dSt ∧ Df K mg "_law_spoilt_pieces" sSpP ["pieces", "well"] fSp dSp ∧
    Df K mg "_law_fits" sFits ["text", "pieces"] fFi dFi ∧ Df K mg "_law_is" sIs ["told", "due"] fI dI ∧ Df K mg "_law_text_refused" sTR ["text"] fTR dTR ∧ Df K mg "_law_pieces_refused" sPR ["pieces"] fPR dPR ∧
    Ec K mg "NoText" CT ∧ Ec K mg "NoPieces" CP ∧ mg "HomeError" = some (.ref CH) ∧ Cn mg
theorem sum_lawp : ∀ {zs : List Str}, (∀ z ∈ zs, lawp z) → (zs.map (·.length)).sum ≤ 8 * zs.length
  | [], _ => Nat.le_refl _
  | z :: zs, h => by
    have ih := sum_lawp fun y hy => h y (List.mem_cons_of_mem _ hy)
    have h1 := (h z List.mem_cons_self).2.2
    rw [List.map_cons, List.sum_cons, List.length_cons]
    omega
theorem join_len (zs : List Str) : (Txt.join ("" : Str) zs).length = (zs.map (·.length)).sum := by
  rw [TL.len_tl, join_tl, List.length_flatten, List.map_map]
  refine congrArg _ (List.map_congr_left fun z _ => ?_)
  exact (TL.len_tl z).symm
theorem join_lawz {zs : List Str} (h : ∀ z ∈ zs, lawp z) : lawz (Txt.join ("" : Str) zs) := fun c hc => by
  rw [join_tl] at hc
  obtain ⟨l, hl, hc⟩ := List.mem_flatten.mp hc
  obtain ⟨z, hz, rfl⟩ := List.mem_map.mp hl
  exact (h z hz).1 c hc
/-- t + u, whichever of both may be empty: some tuple with the items of both -/
def rCatS (K : PySem.W.Frag) : R2 := fun x y H Q => ∃ (a b : Addr) (xs ys : List V), x = .ref a ∧ y = .ref b ∧ SqT K H a xs ∧ SqT K H b ys ∧ xs.length + ys.length ≤ sizeLine ∧ ∀ (r : Addr) (H' : Hp), Same H H' → SqT K H' r (xs ++ ys) → Q (.ref r) H'
theorem op_catS {X : Cx} : OpR X (binaryOp .Add) (rCatS X.K) := by
  intro pins s σ H x y v u Q I rx ry h
  obtain ⟨a, b, xs, ys, rfl, rfl, h1, h2, l, k⟩ := h
  refine op_catA pins s σ H _ _ v u Q I rx ry ⟨a, b, xs, ys, rfl, rfl, h1, h2, l, fun e => ?_, fun _ e => ?_, fun _ _ p hp => ?_⟩
  · subst e
    exact k b H (.refl _) h2
  · subst e
    exact k a H (.refl _) (by rw [List.append_nil]; exact h1)
  · exact k p _ (same_upd hp) (SqT.of upd_same)
theorem plain_all {H : Hp} {zs : List Str} (p : zs.all piecy = true) : ∀ y ∈ zs.map V.str, Plain K H y := fun y hy => by
  obtain ⟨z, hz, rfl⟩ := List.mem_map.mp hy
  have := List.all_eq_true.mp p z hz
  unfold piecy at this
  simp only [Bool.and_eq_true, decide_eq_true_eq] at this
  exact plain_str (by omega)
theorem ok12 {zs : List Str} (l : zs.length ≤ 12) (p : zs.all piecy = true) : (zs.map V.str).length ≤ 12 ∧ (zs.map V.str).all pieceV = true := by
  refine ⟨by rw [List.length_map]; exact l, ?_⟩
  rw [List.all_map]
  exact p
theorem strs_inj : ∀ {xs ys : List Str}, xs.map V.str = ys.map V.str → xs = ys
  | [], [], _ => rfl
  | [], _ :: _, e => by cases e
  | _ :: _, [], e => by cases e
  | x :: xs, y :: ys, e => by
    rw [List.map_cons, List.map_cons] at e
    injection e with e1 e2
    injection e1 with e1
    rw [e1, strs_inj e2]
theorem bit12 {zs : List Str} (l : zs.length ≤ 12) : (zs.map V.str).length ≤ bit := by
  rw [List.length_map]
  exact Nat.le_trans l (by decide)
theorem ok_law {f : Addr} {fd : FuncData} (F : Fun K "law" "law" sLaw f fd) (A0 : Al P w K mg base) : FnOk P w K mg base CX0 6 f fd ["script"] (spLaw K) := by
  obtain ⟨fM, fF, fD, fG, fT, fW, fS, fX, fY, fC, fJ, fP, fSt, fSp, fFi, fI, fTR, fPR, dM, dF, dD, dG, dT, dW, dS, dX, dY, dC, dJ, dP, dSt, dSp, dFi, dI, dTR, dPR, CT, CP, CH, R, DW, DS, DX, DY, DC, DJ, DP, DSt, DSp, DFi, DI, DTR, DPR, ET, EP, gH, N⟩ := A0.ex
  have B := R.B
  have GD : FnOk P w K mg base CX0 5 fD dD ["well", "many"] spDraw := (ok_draw R.D.F R.B R.M R.F).mono (by decide)
  have GT : FnOk P w K mg base CX0 5 fT dT ["well", "many"] spString := (ok_string R).mono (by decide)
  have GW : FnOk P w K mg base CX0 5 fW dW ["script"] (spWell K) := (ok_well DW.F B).mono (by decide)
  have GX : FnOk P w K mg base CX0 5 fX dX ["thing"] (spFlag K texty) := (ok_isText DX.F B N DS).mono (by decide)
  have GC : FnOk P w K mg base (L2.CX P w) 5 fC dC ["text"] (spChopped K CT) := (ok_chopped DC.F B N DS DX ET).mono (by decide)
  have GJ : FnOk P w K mg base (L2.CX P w) 5 fJ dJ ["pieces"] (spJoined K CP) := (ok_joined DJ.F B N DS DY EP).mono (by decide)
  have GP : FnOk P w K mg base CX0 5 fP dP ["well"] spPieces := ok_pieces DP.F R
  have GSt : FnOk P w K mg base CX0 5 fSt dSt ["text", "well"] spSpT := ok_spT DSt.F R
  have GSp : FnOk P w K mg base CX0 5 fSp dSp ["pieces", "well"] (spSpP K) := ok_spP DSp.F R
  have GFi : FnOk P w K mg base CX0 5 fFi dFi ["text", "pieces"] (spFits K) := (ok_fits DFi.F B).mono (by decide)
  have GI : FnOk P w K mg base CX0 5 fI dI ["told", "due"] spIs := (ok_is DI.F B).mono (by decide)
  have GTR : FnOk P w K mg base CX0 5 fTR dTR ["text"] spTR := (ok_tr DTR.F B N DS DX DC ET gH).mono (by decide)
  have GPR : FnOk P w K mg base CX0 5 fPR dPR ["pieces"] (spPR K) := (ok_pr DPR.F B N DS DY DJ EP gH).mono (by decide)
  refine F.ok scLaw (fun vs H Q E h => ?_) (fun cdv A outer s H vs Q E hr h => ?_)
  · obtain ⟨n, m, rfl, _⟩ := h
    rfl
  · obtain ⟨a, ns, rfl, hS, k⟩ := h
    have hR := B.range
    have hT := B.tup
    refine ⟨_, pss_cons (ps_set (i := 1) scLaw.nd rfl (.inl rfl) (pe_call GW hr (by rfl) DW.g DW.F.kp DW.b .nil pass0 (pa_cons (pv 0) pa_nil)))
      (pss_cons (ps_for PassesOwn.never rfl (pi_range1 (by rfl) hR (pa_cons (pe_op op_add pe_int (pe_call GD hr (by rfl) R.D.g R.D.F.kp R.D.b .nil pass0 (pa_cons (pv 1) (pa_cons pe_int pa_nil)))) pa_nil)) (pg_name (i := 2) scLaw.nd rfl (Or.inl rfl))
        (pss_cons (ps_set (i := 3) scLaw.nd rfl (.inl rfl) (pe_call GT hr (by rfl) R.T.g R.T.F.kp R.T.b .nil pass0 (pa_cons (pv 1) (pa_cons (pe_op op_mul pe_int (pe_call GD hr (by rfl) R.D.g R.D.F.kp R.D.b .nil pass0 (pa_cons (pv 1) (pa_cons pe_int pa_nil)))) pa_nil))))
        (pss_cons (ps_set (i := 4) scLaw.nd rfl (.inl rfl) (pe_call GT hr (by rfl) R.T.g R.T.F.kp R.T.b .nil pass0 (pa_cons (pv 1) (pa_cons (pe_call GD hr (by rfl) R.D.g R.D.F.kp R.D.b .nil pass0 (pa_cons (pv 1) (pa_cons pe_int pa_nil))) pa_nil))))
        (pss_cons (ps_set (i := 5) scLaw.nd rfl (.inl rfl) (pe_call GC hr (by rfl) DC.g DC.F.kp DC.b .nil passL (pa_cons (pv 3) pa_nil)))
        (pss_cons (ps_set (i := 6) scLaw.nd rfl (.inl rfl) (pe_call GC hr (by rfl) DC.g DC.F.kp DC.b .nil passL (pa_cons (pv 4) pa_nil)))
        (pss_cons (ps_set (i := 7) scLaw.nd rfl (.inl rfl) (pe_call GC hr (by rfl) DC.g DC.F.kp DC.b .nil passL (pa_cons (pe_op op_add_str (pv 3) (pv 4)) pa_nil)))
        (pss_cons (ps_if (PW.pt (pw_or (pt_not (pt_val (pe_call GFi hr (by rfl) DFi.g DFi.F.kp DFi.b .nil pass0 (pa_cons (pv 3) (pa_cons (pv 5) pa_nil)))))
            (pw_or (pt_not (pt_val (pe_call GFi hr (by rfl) DFi.g DFi.F.kp DFi.b .nil pass0 (pa_cons (pv 4) (pa_cons (pv 6) pa_nil)))))
              (pw_or1 (pt_not (pt_val (pe_call GFi hr (by rfl) DFi.g DFi.F.kp DFi.b .nil pass0 (pa_cons (pe_op op_add_str (pv 3) (pv 4)) (pa_cons (pv 7) pa_nil)))))))))
          (pss_one (ps_ret pe_bl)) pss_nil)
        (pss_cons (ps_if (PW.pt (pw_or (pt_cmpR (op_neD hr.units) (pe_op op_catS (pv 5) (pv 6)) (pv 7) (nomark _))
            (pw_or1 (pt_not (pt_val (pe_call GI hr (by rfl) DI.g DI.F.kp DI.b .nil pass0 (pa_cons (pe_call GJ hr (by rfl) DJ.g DJ.F.kp DJ.b .nil passL (pa_cons (pv 7) pa_nil)) (pa_cons (pe_op op_add_str (pv 3) (pv 4)) pa_nil))))))))
          (pss_one (ps_ret pe_bl)) pss_nil)
        (pss_cons (ps_if (pt_not (pt_val (pe_call GI hr (by rfl) DI.g DI.F.kp DI.b .nil pass0 (pa_cons (pe_call GJ hr (by rfl) DJ.g DJ.F.kp DJ.b .nil passL (pa_cons (pv 6) pa_nil)) (pa_cons (pv 4) pa_nil)))))
          (pss_one (ps_ret pe_bl)) pss_nil)
        (pss_cons (ps_set (i := 8) scLaw.nd rfl (.inl rfl) (pe_call GP hr (by rfl) DP.g DP.F.kp DP.b .nil pass0 (pa_cons (pv 1) pa_nil)))
        (pss_cons (ps_set (i := 9) scLaw.nd rfl (.inl rfl) (pe_call GJ hr (by rfl) DJ.g DJ.F.kp DJ.b .nil passL (pa_cons (pe_callTy call_tuple_of (by rfl) hT boot_tuple' (pa_cons (pv 8) pa_nil)) pa_nil)))
        (pss_cons (ps_if (PW.pt (pw_or (pt_not (pt_val (pe_call GI hr (by rfl) DI.g DI.F.kp DI.b .nil pass0 (pa_cons (pv 9) (pa_cons (pe_join pe_str (pv 8)) pa_nil)))))
            (pw_or1 (pt_cmpR op_notBl (pe_call GX hr (by rfl) DX.g DX.F.kp DX.b .nil pass0 (pa_cons (pv 9) pa_nil)) pe_bl (nomark _)))))
          (pss_one (ps_ret pe_bl)) pss_nil)
        (pss_cons (ps_if (pt_not (pt_val (pe_call GFi hr (by rfl) DFi.g DFi.F.kp DFi.b .nil pass0 (pa_cons (pv 9) (pa_cons (pe_call GC hr (by rfl) DC.g DC.F.kp DC.b .nil passL (pa_cons (pv 9) pa_nil)) pa_nil)))))
          (pss_one (ps_ret pe_bl)) pss_nil)
        (pss_cons (ps_if (pt_not (pt_val (pe_call GTR hr (by rfl) DTR.g DTR.F.kp DTR.b .nil pass0 (pa_cons (pe_call GSt hr (by rfl) DSt.g DSt.F.kp DSt.b .nil pass0 (pa_cons (pe_op op_add_str (pv 3) (pv 4)) (pa_cons (pv 1) pa_nil))) pa_nil))))
          (pss_one (ps_ret pe_bl)) pss_nil)
        (pss_one (ps_if (pt_not (pt_val (pe_call GPR hr (by rfl) DPR.g DPR.F.kp DPR.b .nil pass0 (pa_cons (pe_call GSp hr (by rfl) DSp.g DSp.F.kp DSp.b .nil pass0 (pa_cons (pv 8) (pa_cons (pv 1) pa_nil))) pa_nil))))
          (pss_one (ps_ret pe_bl)) pss_nil))))))))))))))))
      (pss_one (ps_ret pe_bl))), ?_⟩
    refine ⟨_, rfl, a, ns, rfl, hS, fun wl H1 s1 W1 => ?_⟩
    refine ⟨_, rfl, wl, 5, rfl, W1, by decide, by decide, fun d H2 d0 d1 D1 => ?_⟩
    refine ⟨_, _, rfl, rfl, _, rfl, by omega, by omega, ?_⟩
    refine for_range (lo := 0) (n := (1 + d).toNat) (fun i σ H' => (∃ v2 v3 v4 v5 v6 v7 v8 v9, σ = [some (.ref a), some (.ref wl.w), v2, v3, v4, v5, v6, v7, v8, v9]) ∧ Well H' wl) ⟨⟨none, none, none, none, none, none, none, none, rfl⟩, D1.well⟩ ?_ ?_
    · rintro i σ G0 hi ⟨⟨v2, v3, v4, v5, v6, v7, v8, v9, rfl⟩, W⟩
      refine ⟨_, rfl, _, rfl, wl, 7, rfl, W, by decide, by decide, fun dh Ga h0 h1 Da => ?_⟩
      refine ⟨_, _, rfl, rfl, .inl ⟨by decide, by decide⟩, wl, _, rfl, Da.well, by omega, by omega, fun hd Gb hdl hdo Db => ?_⟩
      refine ⟨_, rfl, _, rfl, wl, 49, rfl, Db.well, by decide, by decide, fun dt Gc t0 t1 Dc => ?_⟩
      refine ⟨wl, _, rfl, Dc.well, by omega, by omega, fun tl_ Gd tll tlo Dd => ?_⟩
      have W4 := Dd.well
      have hl8 : hd.length = 8 * dh.toNat := by
        rw [hdl]
        omega
      have hl48 : hd.length ≤ 48 := by omega
      have tl48 : tl_.length ≤ 48 := by omega
      have wo := lawz_app hdo tlo
      have wl96 : (hd ++ tl_).length ≤ 96 := by
        rw [len_app]
        omega
      have hb : hd.length ≤ bit := Nat.le_trans hl48 (by decide)
      have tb : tl_.length ≤ bit := Nat.le_trans tl48 (by decide)
      have wb : (hd ++ tl_).length ≤ bit := Nat.le_trans wl96 (by decide)
      have wln : hd.length + tl_.length ≤ sizeLine := by
        rw [sizeLine_eq]
        omega
      have th := texty_of hdo (show hd.length ≤ 96 by omega)
      have tt := texty_of tlo (show tl_.length ≤ 96 by omega)
      have tw := texty_of wo wl96
      refine ⟨_, rfl, _, rfl, .inl ⟨hd, rfl, hb, fun _ G1 p1 e1 n1 q1 => ?_, fun q => absurd (q.symm.trans th) (by decide)⟩⟩
      refine ⟨_, rfl, _, rfl, .inl ⟨tl_, rfl, tb, fun _ G2 p2 e2 n2 q2 => ?_, fun q => absurd (q.symm.trans tt) (by decide)⟩⟩
      refine ⟨_, rfl, _, rfl, _, _, rfl, rfl, wln, _, rfl, .inl ⟨hd ++ tl_, rfl, wb, fun _ G3 p3 e3 n3 q3 => ?_, fun q => absurd (q.symm.trans tw) (by decide)⟩⟩
      have a1 : SqT K G3 p1 ((chunks hd).map V.str) := SqT.of (e3 _ _ (e2 _ _ q1))
      have a2 : SqT K G3 p2 ((chunks tl_).map V.str) := SqT.of (e3 _ _ q2)
      have a3 : SqT K G3 p3 ((chunks (hd ++ tl_)).map V.str) := SqT.of q3
      have W7 : Well G3 wl := W4.same ((e1.trans e2).trans e3)
      refine ⟨_, rfl, _, rfl, hd, p1, rfl, hb, a1, true, rfl, ?_⟩
      refine ⟨_, rfl, _, rfl, tl_, p2, rfl, tb, a2, true, rfl, ?_⟩
      refine ⟨_, rfl, _, rfl, _, _, rfl, rfl, wln, _, rfl, _, p3, rfl, wb, a3, true, rfl, ?_⟩
      -- first + second != whole
      have ec : (chunks hd).map V.str ++ (chunks tl_).map V.str = (chunks (hd ++ tl_)).map V.str := by
        rw [chunks_app hl8, List.map_append]
      have cl : ∀ z : Str, z.length ≤ 96 → (chunks z).length ≤ 12 := fun z hz => by
        rw [chunks_len]
        omega
      have sl : ((chunks hd).map V.str).length + ((chunks tl_).map V.str).length ≤ sizeLine := by
        have h1 := cl hd (by omega)
        have h2 := cl tl_ (by omega)
        rw [List.length_map, List.length_map, sizeLine_eq]
        omega
      have aw : (chunks (hd ++ tl_)).all okz = true := List.all_eq_true.mpr fun z hz => by
        have := List.all_eq_true.mp (chunks_piecy (lawz.ok wo)) z hz
        unfold piecy at this
        rw [Bool.and_eq_true] at this
        exact this.1
      have sh := dTup_shaped aw
      refine ⟨_, rfl, _, rfl, p1, p2, _, _, rfl, rfl, a1, a2, sl, fun r G4 s4 h4 => ?_⟩
      rw [ec] at h4
      have a3' := seqT_same s4 a3
      refine ⟨_, rfl, dTup (chunks (hd ++ tl_)), dTup (chunks (hd ++ tl_)), dTup_ok h4, dTup_ok a3', sh, sh, _, rfl, ?_⟩
      rw [SeqAt.eqv_refl _ (SeqAt.canLay_of_shaped sh)]
      -- joined(whole) is head + tail
      have pw := chunks_piecy (lawz.ok wo)
      have lw := cl _ wl96
      refine ⟨_, rfl, _, rfl, .inl ⟨p3, _, rfl, a3', plain_all pw, bit12 lw, fun zs ez _ _ G5 s5 => ?_, fun n => (n (ok12 lw pw)).elim⟩⟩
      have ez' := strs_inj ez
      subst ez'
      refine ⟨_, rfl, _, rfl, _, _, rfl, rfl, wln, _, _, rfl, join_chunks _, true, rfl, ?_⟩
      -- joined(second) is tail
      have pt := chunks_piecy (lawz.ok tlo)
      have lt := cl tl_ (by omega)
      have a2' := seqT_same s5 (seqT_same s4 a2)
      refine ⟨_, rfl, _, rfl, .inl ⟨p2, _, rfl, a2', plain_all pt, bit12 lt, fun zs ez _ _ G6 s6 => ?_, fun n => (n (ok12 lt pt)).elim⟩⟩
      have ez' := strs_inj ez
      subst ez'
      refine ⟨_, rfl, _, _, rfl, join_chunks _, true, rfl, ?_⟩
      have W6 : Well G6 wl := W7.same ((s4.trans s5).trans s6)
      -- pieces, told
      refine ⟨_, rfl, wl, rfl, W6, fun D zs G7 nD hD l12 lp D7 => ?_⟩
      have lb : (zs.map V.str).length ≤ 12 := by
        rw [List.length_map]
        exact l12
      have pz : zs.all piecy = true := List.all_eq_true.mpr fun z hz => (lp z hz).ok
      refine ⟨_, rfl, D, _, rfl, .inl ⟨SqL.of hD, fun p hp => ?_⟩⟩
      have nDw := (W6.ne nD).1
      have s7 : Same G7 (upd G7 p (.tup (zs.map V.str))) := same_upd hp
      refine ⟨_, rfl, .inl ⟨p, _, rfl, SqT.of upd_same, plain_all pz, bit12 l12, fun ys ey _ _ G8 s8 => ?_, fun n => (n (ok12 l12 pz)).elim⟩⟩
      have ey' := strs_inj ey
      subst ey'
      have s78 := s7.trans s8
      have hD8 := s78 _ _ hD
      have sz := sum_lawp lp
      have tl96 : (Txt.join ("" : Str) zs).length ≤ 96 := by
        rw [join_len]
        omega
      have tob : (Txt.join ("" : Str) zs).length ≤ bit := Nat.le_trans tl96 (by decide)
      have tot := texty_of (join_lawz lp) tl96
      refine ⟨_, rfl, ⟨_, rfl⟩, _, rfl, _, D, zs, rfl, rfl, .inl (SqL.of hD8), ?_, _, _, rfl, rfl, true, rfl, ?_⟩
      · show (zs.map (·.length)).sum + zs.length * 0 ≤ 16777216
        omega
      refine ⟨_, rfl, _, rfl, .inl ⟨_, rfl, tob, fun G9 s9 => ?_⟩⟩
      rw [tot]
      refine ⟨true, true, rfl, rfl, _, rfl, ?_⟩
      refine ⟨_, rfl, _, rfl, _, rfl, .inl ⟨_, rfl, tob, fun _ G10 p10 s10 n10 q10 => ?_, fun q => absurd (q.symm.trans tot) (by decide)⟩⟩
      refine ⟨_, p10, rfl, tob, SqT.of q10, true, rfl, ?_⟩
      have s810 := s9.trans s10
      have W10 : Well G10 wl := (D7.well.same s78).same s810
      refine ⟨_, rfl, _, rfl, _, _, rfl, rfl, wln, _, rfl, wl, _, rfl, W10, wl96, fun y G11 yl yb D11 => ?_⟩
      refine ⟨y, rfl, Nat.le_trans yl (by decide), yb, fun G12 s12 => ⟨true, rfl, ?_⟩⟩
      have hD12 := s12 _ _ (D11.keep D _ nDw (s810 _ _ hD8))
      refine ⟨_, rfl, _, rfl, wl, D, zs, rfl, D11.well.same s12, hD12, l12, lp, fun x G13 bx D13 => ?_⟩
      refine ⟨x, rfl, bx, fun G14 s14 => ⟨true, rfl, ?_⟩⟩
      exact ⟨⟨_, _, _, _, _, _, _, _, rfl⟩, D13.well.same s14⟩
    · rintro σ G0 ⟨⟨v2, v3, v4, v5, v6, v7, v8, v9, rfl⟩, W⟩
      exact k _
end
end Hs
namespace Hs
open PySem PySem.Spec PyProof.Rows L2
section
variable {K : PySem.W.Frag} {h : Heap} {mg : Str → Option Value}
theorem df_mk {x : Str} {st : Stmt} {ps : List Str} {f : Addr} {oc : Value} {od an : Option Addr} {sl : Array (Option Value)} {kV dc pm cd ct : Value} (X : K.In h) (G : h.Ns mainGlobals mg)
    (a : PySem.W.nsIn K mainGlobals x = some (some (.ref f))) (l : K.lookup f = some ⟨oc, od, .func (PySem.W.fnOf x x (defArgs st) (defBody st) (defScope st) .none kV dc pm an cd ct), sl⟩) (c : PySem.W.codeIn K cd x = true) (k : PySem.W.keepIn K (.ref f) = true)
    (b : ∀ (kV doc pm : Value) (an : Option Addr) (cdv ct : Value) (us : List Value), us.length = ps.length → bindArgs (PySem.W.fnOf x x (defArgs st) (defBody st) (defScope st) .none kV doc pm an cdv ct) ⟨us, []⟩ = pure (ps.zip us)) :
    Df K mg x st ps f (PySem.W.fnOf x x (defArgs st) (defBody st) (defScope st) .none kV dc pm an cd ct) := by
  have F := fun_mk (st := st) l c k
  exact ⟨F, F.binds b, PySem.W.mg_of X G a⟩
theorem exm_self {S : Addr} (h1 : PySem.W.subIn K (.ref S) (.type "BaseException") = some true) (h2 : PySem.W.isClsIn K S = true) (h3 : PySem.W.typeIn K (.ref S) = some (.type "type")) (h4 : PySem.W.subIn K (.ref S) (.ref S) = some true) :
    PySem.W.exmOne K (.ref S) (.ref S) = some true := by
  have e1 : (PySem.W.subIn K (.ref S) (.type "BaseException") == some true) = true := by rw [h1] <;> rfl
  have e2 : ((PySem.W.clsIn K S).isSome && PySem.W.typeIn K (.ref S) == some (.type "type")) = true := by
    have h2' : (PySem.W.clsIn K S).isSome = true := h2
    rw [h2', h3] <;> rfl
  show (if (PySem.W.subIn K (.ref S) (.type "BaseException") == some true) = true then (if ((PySem.W.clsIn K S).isSome && PySem.W.typeIn K (.ref S) == some (.type "type")) = true then PySem.W.subIn K (.ref S) (.ref S) else none) else none) = some true
  rw [if_pos e1, if_pos e2]
  exact h4
theorem gh_mk {x : Str} {C : Addr} (X : K.In h) (G : h.Ns mainGlobals mg) (a : PySem.W.nsIn K mainGlobals x = some (some (.ref C))) : mg x = some (.ref C) := PySem.W.mg_of X G a
theorem gi_mk {x : Str} {n : Int} {t : Tok} (X : K.In h) (G : h.Ns mainGlobals mg) (a : PySem.W.nsIn K mainGlobals x = some (some (.int n t))) : ∃ t, mg x = some (.int n t) := ⟨t, PySem.W.mg_of X G a⟩
theorem gn_mk {x : Str} (X : K.In h) (G : h.Ns mainGlobals mg) (a : PySem.W.nsIn K mainGlobals x = some none) : mg x = none := PySem.W.mg_none_of X G a
theorem ec_mk {x : Str} {C : Addr} (X : K.In h) (G : h.Ns mainGlobals mg) (a : PySem.W.nsIn K mainGlobals x = some (some (.ref C)))
    (q : PySem.W.excIn K C [.type "ValueError", .type "Exception", .type "BaseException", .type "object"] "ValueError.__new__" = true) (k : PySem.W.keepIn K (.ref C) = true) (b : PySem.W.subIn K (.ref C) (.type "BaseException") = some true)
    (t : PySem.W.typeIn K (.ref C) = some (.type "type")) (i : PySem.W.isClsIn K C = true) (s : PySem.W.subIn K (.ref C) (.ref C) = some true) : Ec K mg x C := ⟨PySem.W.mg_of X G a, q, k, b, t, exm_self b i t s⟩
theorem law_mk {l : PySem.W.OpenLaw} {w : World} {f fa : Addr} {oc : Value} {od an : Option Addr} {sl : Array (Option Value)} {kV dc pm cd ct : Value} (X : K.In h) (G : h.Ns mainGlobals mg) (hfa : mg "law" = some (.ref fa))
    (a : PySem.W.nsIn K mainGlobals "law" = some (some (.ref f))) (lk : K.lookup f = some ⟨oc, od, .func (PySem.W.fnOf "law" "law" (defArgs sLaw) (defBody sLaw) (defScope sLaw) .none kV dc pm an cd ct), sl⟩) (c : PySem.W.codeIn K cd "law" = true) (k : PySem.W.keepIn K (.ref f) = true)
    (A0 : ∀ base : Heap, Al l.prog w K mg base) :
    ∃ fd : FuncData, (∀ (s : Shared) (v : Value), BindsTo s fd ⟨[v], []⟩ [("script", v)]) ∧ ∀ base : Heap, K.In base → base.Ns mainGlobals mg → FnOk l.prog w K mg base CX0 6 fa fd ["script"] (spLaw K) := by
  have e := hfa.symm.trans (PySem.W.mg_of X G a)
  cases e
  exact ⟨PySem.W.fnOf "law" "law" (defArgs sLaw) (defBody sLaw) (defScope sLaw) .none kV dc pm an cd ct, fun s v => .of_eq rfl, fun base _ _ => ok_law (fun_mk (st := sLaw) lk c k) (A0 base)⟩
end
end Hs
open PySem PySem.W PyProof.Rows
set_option maxRecDepth 100000 in
set_option maxHeartbeats 0 in
theorem PySem.Challenge.cw_homeshold_k02_whole_texts_chopped_and_jo_holds : PySem.Challenge.rw_homeshold_k02_whole_texts_chopped_and_jo.Holds := by
  w_on; o_law; k_head; (case hw => w_witness2)
  k_fill
  refine L2.walk_of (l := PySem.Challenge.rw_homeshold_k02_whole_texts_chopped_and_jo) (n := 63) (k := 6) (x := "script") (CX := fun _ => L2.CX0) (sp := fun w => Hs.spLaw _) rfl (by decide) rfl ⟨rfl, by decide, by decide⟩ (fun w h Y => PySem.W.kIn_of Y) ?F (fun _ _ a ns hl _ hS => ⟨a, ns, rfl, hS, fun _ => rfl⟩) (fun _ _ _ _ _ h => h)
  case F =>
    intro w mg fa h KX G hmg
    obtain ⟨f0, d0, D0⟩ : ∃ f fd, Hs.Df _ mg "_law_mixed" Hs.sMixed ["number"] f fd := by
      refine' ⟨_, _, Hs.df_mk KX G ?a ?l ?c ?k (fun _ _ _ _ _ _ us hl => match us, hl with | [_], _ => rfl)⟩
      (case a => k_is); (case l => k_is); (case c => k_is); (case k => k_is)
    obtain ⟨f1, d1, D1⟩ : ∃ f fd, Hs.Df _ mg "_law_filled" Hs.sFilled ["well"] f fd := by
      refine' ⟨_, _, Hs.df_mk KX G ?a ?l ?c ?k (fun _ _ _ _ _ _ us hl => match us, hl with | [_], _ => rfl)⟩
      (case a => k_is); (case l => k_is); (case c => k_is); (case k => k_is)
    obtain ⟨f2, d2, D2⟩ : ∃ f fd, Hs.Df _ mg "_law_draw" Hs.sDraw ["well", "many"] f fd := by
      refine' ⟨_, _, Hs.df_mk KX G ?a ?l ?c ?k (fun _ _ _ _ _ _ us hl => match us, hl with | [_, _], _ => rfl)⟩
      (case a => k_is); (case l => k_is); (case c => k_is); (case k => k_is)
    obtain ⟨f3, d3, D3⟩ : ∃ f fd, Hs.Df _ mg "_law_signs" Hs.sSigns [] f fd := by
      refine' ⟨_, _, Hs.df_mk KX G ?a ?l ?c ?k (fun _ _ _ _ _ _ us hl => match us, hl with | [], _ => rfl)⟩
      (case a => k_is); (case l => k_is); (case c => k_is); (case k => k_is)
    obtain ⟨f4, d4, D4⟩ : ∃ f fd, Hs.Df _ mg "_law_string" Hs.sString ["well", "many"] f fd := by
      refine' ⟨_, _, Hs.df_mk KX G ?a ?l ?c ?k (fun _ _ _ _ _ _ us hl => match us, hl with | [_, _], _ => rfl)⟩
      (case a => k_is); (case l => k_is); (case c => k_is); (case k => k_is)
    obtain ⟨f5, d5, D5⟩ : ∃ f fd, Hs.Df _ mg "_law_well" Hs.sWell ["script"] f fd := by
      refine' ⟨_, _, Hs.df_mk KX G ?a ?l ?c ?k (fun _ _ _ _ _ _ us hl => match us, hl with | [_], _ => rfl)⟩
      (case a => k_is); (case l => k_is); (case c => k_is); (case k => k_is)
    obtain ⟨f6, d6, D6⟩ : ∃ f fd, Hs.Df _ mg "is_signs" Hs.sIsSigns ["thing"] f fd := by
      refine' ⟨_, _, Hs.df_mk KX G ?a ?l ?c ?k (fun _ _ _ _ _ _ us hl => match us, hl with | [_], _ => rfl)⟩
      (case a => k_is); (case l => k_is); (case c => k_is); (case k => k_is)
    obtain ⟨f7, d7, D7⟩ : ∃ f fd, Hs.Df _ mg "is_text" Hs.sIsText ["thing"] f fd := by
      refine' ⟨_, _, Hs.df_mk KX G ?a ?l ?c ?k (fun _ _ _ _ _ _ us hl => match us, hl with | [_], _ => rfl)⟩
      (case a => k_is); (case l => k_is); (case c => k_is); (case k => k_is)
    obtain ⟨f8, d8, D8⟩ : ∃ f fd, Hs.Df _ mg "is_piece" Hs.sIsPiece ["thing"] f fd := by
      refine' ⟨_, _, Hs.df_mk KX G ?a ?l ?c ?k (fun _ _ _ _ _ _ us hl => match us, hl with | [_], _ => rfl)⟩
      (case a => k_is); (case l => k_is); (case c => k_is); (case k => k_is)
    obtain ⟨f9, d9, D9⟩ : ∃ f fd, Hs.Df _ mg "chopped" Hs.sChopped ["text"] f fd := by
      refine' ⟨_, _, Hs.df_mk KX G ?a ?l ?c ?k (fun _ _ _ _ _ _ us hl => match us, hl with | [_], _ => rfl)⟩
      (case a => k_is); (case l => k_is); (case c => k_is); (case k => k_is)
    obtain ⟨f10, d10, D10⟩ : ∃ f fd, Hs.Df _ mg "joined" Hs.sJoined ["pieces"] f fd := by
      refine' ⟨_, _, Hs.df_mk KX G ?a ?l ?c ?k (fun _ _ _ _ _ _ us hl => match us, hl with | [_], _ => rfl)⟩
      (case a => k_is); (case l => k_is); (case c => k_is); (case k => k_is)
    obtain ⟨f11, d11, D11⟩ : ∃ f fd, Hs.Df _ mg "_law_pieces" Hs.sPieces ["well"] f fd := by
      refine' ⟨_, _, Hs.df_mk KX G ?a ?l ?c ?k (fun _ _ _ _ _ _ us hl => match us, hl with | [_], _ => rfl)⟩
      (case a => k_is); (case l => k_is); (case c => k_is); (case k => k_is)
    obtain ⟨f12, d12, D12⟩ : ∃ f fd, Hs.Df _ mg "_law_spoilt_text" Hs.sSpT ["text", "well"] f fd := by
      refine' ⟨_, _, Hs.df_mk KX G ?a ?l ?c ?k (fun _ _ _ _ _ _ us hl => match us, hl with | [_, _], _ => rfl)⟩
      (case a => k_is); (case l => k_is); (case c => k_is); (case k => k_is)
    obtain ⟨f13, d13, D13⟩ : ∃ f fd, Hs.Df _ mg "_law_spoilt_pieces" Hs.sSpP ["pieces", "well"] f fd := by
      refine' ⟨_, _, Hs.df_mk KX G ?a ?l ?c ?k (fun _ _ _ _ _ _ us hl => match us, hl with | [_, _], _ => rfl)⟩
      (case a => k_is); (case l => k_is); (case c => k_is); (case k => k_is)
    obtain ⟨f14, d14, D14⟩ : ∃ f fd, Hs.Df _ mg "_law_fits" Hs.sFits ["text", "pieces"] f fd := by
      refine' ⟨_, _, Hs.df_mk KX G ?a ?l ?c ?k (fun _ _ _ _ _ _ us hl => match us, hl with | [_, _], _ => rfl)⟩
      (case a => k_is); (case l => k_is); (case c => k_is); (case k => k_is)
    obtain ⟨f15, d15, D15⟩ : ∃ f fd, Hs.Df _ mg "_law_is" Hs.sIs ["told", "due"] f fd := by
      refine' ⟨_, _, Hs.df_mk KX G ?a ?l ?c ?k (fun _ _ _ _ _ _ us hl => match us, hl with | [_, _], _ => rfl)⟩
      (case a => k_is); (case l => k_is); (case c => k_is); (case k => k_is)
    obtain ⟨f16, d16, D16⟩ : ∃ f fd, Hs.Df _ mg "_law_text_refused" Hs.sTR ["text"] f fd := by
      refine' ⟨_, _, Hs.df_mk KX G ?a ?l ?c ?k (fun _ _ _ _ _ _ us hl => match us, hl with | [_], _ => rfl)⟩
      (case a => k_is); (case l => k_is); (case c => k_is); (case k => k_is)
    obtain ⟨f17, d17, D17⟩ : ∃ f fd, Hs.Df _ mg "_law_pieces_refused" Hs.sPR ["pieces"] f fd := by
      refine' ⟨_, _, Hs.df_mk KX G ?a ?l ?c ?k (fun _ _ _ _ _ _ us hl => match us, hl with | [_], _ => rfl)⟩
      (case a => k_is); (case l => k_is); (case c => k_is); (case k => k_is)
    obtain ⟨CET, ET⟩ : ∃ C, Hs.Ec _ mg "NoText" C := by
      refine' ⟨_, Hs.ec_mk KX G ?a ?xq ?k ?b ?t ?i ?s⟩
      (case a => k_is); (case xq => k_exc); (case k => k_is); (case b => k_is); (case t => k_is); (case i => k_is); (case s => first | rfl | k_is)
    obtain ⟨CEP, EP⟩ : ∃ C, Hs.Ec _ mg "NoPieces" C := by
      refine' ⟨_, Hs.ec_mk KX G ?a ?xq ?k ?b ?t ?i ?s⟩
      (case a => k_is); (case xq => k_exc); (case k => k_is); (case b => k_is); (case t => k_is); (case i => k_is); (case s => first | rfl | k_is)
    obtain ⟨CH, EH⟩ : ∃ C, mg "HomeError" = some (.ref C) := by
      refine' ⟨_, Hs.gh_mk KX G ?a⟩
      (case a => k_is)
    have nMOST_PIECES : ∃ t, mg "MOST_PIECES" = some (.int 12 t) := by
      refine' Hs.gi_mk KX G ?a
      (case a => k_is)
    have nPIECE_SIGNS : ∃ t, mg "PIECE_SIGNS" = some (.int 8 t) := by
      refine' Hs.gi_mk KX G ?a
      (case a => k_is)
    have nTEXT_SIGNS : ∃ t, mg "TEXT_SIGNS" = some (.int 96 t) := by
      refine' Hs.gi_mk KX G ?a
      (case a => k_is)
    have b_int : mg "int" = none := by
      refine' Hs.gn_mk KX G ?a
      (case a => k_is)
    have b_len : mg "len" = none := by
      refine' Hs.gn_mk KX G ?a
      (case a => k_is)
    have b_range : mg "range" = none := by
      refine' Hs.gn_mk KX G ?a
      (case a => k_is)
    have b_all : mg "all" = none := by
      refine' Hs.gn_mk KX G ?a
      (case a => k_is)
    have b_isinstance : mg "isinstance" = none := by
      refine' Hs.gn_mk KX G ?a
      (case a => k_is)
    have b_tuple : mg "tuple" = none := by
      refine' Hs.gn_mk KX G ?a
      (case a => k_is)
    have b_list : mg "list" = none := by
      refine' Hs.gn_mk KX G ?a
      (case a => k_is)
    have b_str : mg "str" = none := by
      refine' Hs.gn_mk KX G ?a
      (case a => k_is)
    have b_max : mg "max" = none := by
      refine' Hs.gn_mk KX G ?a
      (case a => k_is)
    have b_bool : mg "bool" = none := by
      refine' Hs.gn_mk KX G ?a
      (case a => k_is)
    have B : Hs.Bt mg := ⟨b_int, b_len, b_range, b_all, b_isinstance, b_tuple, b_list, b_str, b_max, b_bool⟩
    refine' Hs.law_mk KX G hmg ?a ?l ?c ?k (fun base => ⟨⟨f0, f1, f2, f3, f4, f5, f6, f7, f8, f9, f10, f11, f12, f13, f14, f15, f16, f17, d0, d1, d2, d3, d4, d5, d6, d7, d8, d9, d10, d11, d12, d13, d14, d15, d16, d17, CET, CEP, CH, ⟨D0, D1, D2, D3, D4, B⟩, D5, D6, D7, D8, D9, D10, D11, D12, D13, D14, D15, D16, D17, ET, EP, EH, ⟨nMOST_PIECES, nPIECE_SIGNS, nTEXT_SIGNS⟩⟩⟩)
    (case a => k_is); (case l => k_is); (case c => k_is); (case k => k_is)
