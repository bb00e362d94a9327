import PyProof.Rows.All
import Wide.All
import OpenK.AllK
import Wide.FinOn
import HandS.ForMost
import HandS.Star
import HandS.Zip
import HandS.IsInst
import HandS.Conv
import HandS.Wide
import HandS.Evl
import HandS.Walk
import PyProof.Rows.SetFrom
import PyProof.StrWalks
import HandS.Strs
import HandS.Style
import PyProof.Rows.StrStep
import KE.KRevSl
import PyProof.DictUpdate
import KE.KDictList
import HandS.ListItems
import KE.SortData
import KE.KDictKeyed
import KE.KDictDisplayH
import KE.KDictWalk
import KE.KeyNested
import KE.KDictCopyH
import KE.OsArith
import KE.GoesZip
import KE.GoesMore
import KE.GoesEnum
import HandS.Lambda
import HandS.GenList
import HandS.SortKw
import KE.SortKeyHeap
import KE.KDictZip
import HandS.DictComp
import HandS.ExcCtx
import HandS.WordsExc
import HandS.ExcInit
import HandS.DictTup
import HandS.Keys
import HandS.Deep
import HandS.HotCalls
import HandS.ExcIs
import KE.KExcIs
import HandS.ExcField
import HandS.EndTab
import PySem.Challenge.RW_wordsums_k19_asked_again
set_option Elab.async false
set_option linter.all false
set_option maxRecDepth 100000
set_option maxHeartbeats 4000000
namespace WS
open PySem L2
def top (i : Nat) : Stmt := PySem.Challenge.pw_wordsums_k19_asked_again.main.body.getD i (.Pass ⟨0, 0, 0, 0⟩)
abbrev sBsInit : Stmt := inClass (top 2) 0
abbrev sNaInit : Stmt := inClass (top 3) 0
abbrev sMaInit : Stmt := inClass (top 4) 0
abbrev sShInit : Stmt := inClass (top 14) 0
abbrev sShSums : Stmt := inClass (top 14) 1
abbrev sShLetters : Stmt := inClass (top 14) 2
abbrev sCounts : Stmt := top 15
abbrev sCheck : Stmt := top 16
abbrev sIsWord : Stmt := top 17
abbrev sColCount : Stmt := top 18
abbrev sLetterAt : Stmt := top 19
abbrev sColOf : Stmt := top 20
abbrev sFirsts : Stmt := top 21
abbrev sWorth : Stmt := top 22
abbrev sSurplus : Stmt := top 23
abbrev sRdInit : Stmt := inClass (top 25) 0
abbrev sRdCaseFrom : Stmt := inClass (top 25) 1
abbrev sRdParted : Stmt := inClass (top 25) 2
abbrev sRdForced : Stmt := inClass (top 25) 3
abbrev sRdCompared : Stmt := inClass (top 25) 4
abbrev sRdColumnEnd : Stmt := inClass (top 25) 5
abbrev sStepsOf : Stmt := top 26
abbrev sFree : Stmt := top 27
abbrev sThrough : Stmt := top 28
abbrev sTable : Stmt := top 29
abbrev sAnswers : Stmt := top 30
abbrev sHowMany : Stmt := top 32
abbrev sByWeight : Stmt := top 33
abbrev sSpansOf : Stmt := top 34
abbrev sWithOneMore : Stmt := top 35
abbrev sIsWithin : Stmt := top 36
abbrev sOnly : Stmt := top 38
abbrev sSure : Stmt := top 39
abbrev sGivens : Stmt := top 40
abbrev sHaving : Stmt := top 41
abbrev sDice : Stmt := top 43
abbrev sNext : Stmt := top 44
abbrev sWord : Stmt := top 45
abbrev sNames : Stmt := top 46
abbrev sSum : Stmt := top 47
abbrev sSheet : Stmt := top 48
abbrev sWide : Stmt := top 49
abbrev sLTold : Stmt := top 50
abbrev sLaw : Stmt := top 51
end WS
set_option maxRecDepth 100000
set_option maxHeartbeats 4000000
namespace WS
open PySem L2
/-- all that was tracked, but what stands at d, is as it was -/
def But (d : Addr) (H H' : Hp) : Prop := ∀ b o, b ≠ d → H b = some o → H' b = some o
theorem But.refl (d : Addr) (H : Hp) : But d H H := fun _ _ _ h => h
theorem But.trans {d : Addr} {H H1 H2 : Hp} (a : But d H H1) (b : But d H1 H2) : But d H H2 := fun c o n h => b c o n (a c o n h)
theorem But.of {d : Addr} {H H' : Hp} (a : Same H H') : But d H H' := fun b o _ h => a b o h
theorem But.upd {d : Addr} {H : Hp} {o : HO} : But d H (upd H d o) := fun b u n h => by
  rw [upd_ne n]; exact h
theorem Same.new {H : Hp} {p : Addr} {o : HO} (hp : H p = none) : Same H (upd H p o) := fun b u h => by
  rw [upd_ne (ne_of_none h hp)]; exact h
theorem But.new {d : Addr} {H : Hp} {p : Addr} {o : HO} (hp : H p = none) : But d H (L2.upd H p o) := .of (Same.new hp)
/-- an object that H did not know may change -/
theorem But.mut {d : Addr} {H H' : Hp} {p : Addr} {o : HO} (e : But d H H') (hp : H p = none) : But d H (L2.upd H' p o) := fun b u n h => by
  rw [upd_ne (ne_of_none h hp)]; exact e b u n h
theorem Same.mut {H H' : Hp} {p : Addr} {o : HO} (e : Same H H') (hp : H p = none) : Same H (L2.upd H' p o) := fun b u h => by
  rw [upd_ne (ne_of_none h hp)]; exact e b u h
theorem But.free {d : Addr} {H H' : Hp} (e : But d H H') {p : Addr} (hd : H' d ≠ none) (h : H' p = none) : H p = none := by
  cases q : H p with
  | none => rfl
  | some o =>
    by_cases n : p = d
    · subst n; exact absurd h hd
    · rw [e p o n q] at h; cases h
theorem rd_but {d : Addr} {H H' : Hp} {a : Addr} {u : HO} (e : But d H H') (n : a ≠ d) (h : Rd H a u) : Rd H' a u := by
  rcases h with h | ⟨o, h⟩
  · exact .inl (e a _ n h)
  · exact .inr ⟨o, e a _ n h⟩
theorem sqL_but {K : PySem.W.Frag} {d : Addr} {H H' : Hp} {a : Addr} {xs : List V} (e : But d H H') (n : a ≠ d) (h : SqL K H a xs) : SqL K H' a xs := by
  rcases h with h | h
  · exact .inl (rd_but e n h)
  · exact .inr h
theorem sqL_same {K : PySem.W.Frag} {H H' : Hp} {a : Addr} {xs : List V} (e : Same H H') (h : SqL K H a xs) : SqL K H' a xs := e.seq h
theorem sqT_same {K : PySem.W.Frag} {H H' : Hp} {a : Addr} {xs : List V} (e : Same H H') (h : SqT K H a xs) : SqT K H' a xs := by
  rcases h with (h | ⟨o, h⟩) | h
  · exact .inl (.inl (e _ _ h))
  · exact .inl (.inr ⟨o, e _ _ h⟩)
  · exact .inr h
theorem line_of {n : Nat} (h : n ≤ 1000000) : n ≤ sizeLine := Nat.le_trans h (by decide)
theorem line_lt {n : Nat} (h : n < 1000000) : n < sizeLine := Nat.lt_of_lt_of_le h (by decide)
/-! ### the dice -/
/-- the heap without what stands at d -/
def off (H : Hp) (d : Addr) : Hp := fun b => if b = d then none else H b
theorem off_at {H : Hp} {d b : Addr} {o : HO} (h : off H d b = some o) : b ≠ d ∧ H b = some o := by
  unfold off at h
  by_cases e : b = d
  · rw [if_pos e] at h; cases h
  · rw [if_neg e] at h; exact ⟨e, h⟩
theorem off_ne {H : Hp} {d b : Addr} (n : b ≠ d) : off H d b = H b := by
  unfold off; rw [if_neg n]
theorem off_in (H : Hp) (d : Addr) : Same (off H d) H := fun b o h => (off_at h).2
theorem But.off {d : Addr} {H H' : Hp} (e : But d H H') : Same (WS.off H d) (WS.off H' d) := fun b o h => by
  obtain ⟨n, h⟩ := off_at h
  rw [off_ne n]; exact e b o n h
/-- the dice at d: the script at a, how many are taken, the mixed number, what is left of a great one -/
structure Dice (K : PySem.W.Frag) (H : Hp) (d a : Addr) (ns : List Int) : Prop where
  ex : ∃ (i : Nat) (m c : Int), H d = some (.lst [.ref a, .int i, .int m, .int c]) ∧ 0 ≤ m ∧ m < 2147483647
  sqo : SqL K (off H d) a (ns.map V.int)
section
variable {K : PySem.W.Frag} {H H' H0 : Hp} {d a p : Addr} {ns : List Int} {o : HO}
theorem Dice.sq (D : Dice K H d a ns) : SqL K H a (ns.map V.int) := sqL_same (off_in H d) D.sqo
theorem Dice.ne (D : Dice K H d a ns) : H d ≠ none := by
  obtain ⟨i, m, c, h, _⟩ := D.ex
  rw [h]; intro z; cases z
theorem Dice.upd {i : Nat} {m c : Int} (D : Dice K H d a ns) (h0 : 0 ≤ m) (h1 : m < 2147483647) : Dice K (L2.upd H d (.lst [.ref a, .int i, .int m, .int c])) d a ns :=
  ⟨⟨i, m, c, upd_same, h0, h1⟩, sqL_same (But.off But.upd) D.sqo⟩
theorem Dice.same (D : Dice K H d a ns) (e : Same H H') : Dice K H' d a ns := by
  obtain ⟨i, m, c, h, h0, h1⟩ := D.ex
  exact ⟨⟨i, m, c, e _ _ h, h0, h1⟩, sqL_same (But.of e).off D.sqo⟩
theorem Dice.new (D : Dice K H d a ns) (hp : H p = none) : Dice K (L2.upd H p o) d a ns := D.same (Same.new hp)
theorem Dice.neOf (D : Dice K H d a ns) (hp : H p = none) : p ≠ d := fun e => D.ne (e ▸ hp)
/-- an object that was not there when the dice stood at H0 may change -/
theorem Dice.mut (D0 : Dice K H0 d a ns) (e : But d H0 H) (D : Dice K H d a ns) (hp : H0 p = none) : Dice K (L2.upd H p o) d a ns := by
  obtain ⟨i, m, c, h, h0, h1⟩ := D.ex
  exact ⟨⟨i, m, c, (by rw [upd_ne (Ne.symm (D0.neOf hp))]; exact h), h0, h1⟩, sqL_same (e.mut hp).off D0.sqo⟩
end
/-- where a def of the text stands, as its callers need it -/
structure Site (K : PySem.W.Frag) (mg : Str → Option Value) (x : Str) (f : Addr) (fd : FuncData) (ps : List Str) : Prop where
  g : mg x = some (.ref f)
  k : PySem.W.keepIn K (.ref f) = true
  b : Binds K fd ps []
section
variable {K : PySem.W.Frag}
theorem isi_ok {H : Hp} {Q : VK} {x : V} {T0 T : String} {b : Bool} (ty : TyX K H x (.type T0)) (e : kitB T0 T = some b) (q : Q (.bl b) H) : rIsi K [x, .ty T] H Q :=
  ⟨x, .ty T, .type T0, .type T, b, rfl, .ty T, ty, kit_ty e, q⟩
theorem tyInt {H : Hp} (i : Int) : TyX K H (.int i) (.type "int") := .base (.int i)
theorem tyStr {H : Hp} (z : Str) : TyX K H (.str z) (.type "str") := .base (.str z)
theorem tyLst {H : Hp} {a : Addr} {xs : List V} (h : H a = some (.lst xs)) : TyX K H (.ref a) (.type "list") := .base (.lst h)
theorem tyTup {H : Hp} {a : Addr} {xs : List V} (h : H a = some (.tup xs)) : TyX K H (.ref a) (.type "tuple") := .base (.tup h)
end
end WS
set_option maxRecDepth 100000
set_option maxHeartbeats 4000000
namespace WS
open PySem L2
/-- _law_next(d, many): some number below many; of the heap the dice alone is changed -/
def spNext (K : PySem.W.Frag) : Sp := fun vs H Q _ => ∃ (d a : Addr) (ns : List Int) (m : Int), vs = [.ref d, .int m] ∧ Dice K H d a ns ∧ 0 < m ∧ m < 1073741824 ∧
  ∀ (v : Int) (H' : Hp), 0 ≤ v → v < m → Dice K H' d a ns → But d H H' → (∀ b, b ≠ d → H' b = H b) → Q (.int v) H'
section
variable {P : Program} {w : World} {K : PySem.W.Frag} {mg : Str → Option Value} {base : Heap}
theorem scNext : FnScope ["_law_dice_here", "_law_many", "_law_found", "_law_cell"] ["_law_dice_here", "_law_many"] (defScope sNext) := ⟨rfl, rfl, rfl, by decide +kernel, rfl, by decide +kernel, by decide +kernel⟩
theorem ok_next {f : Addr} {fd : FuncData} (F : Fun K "_law_next" "_law_next" sNext f fd) (z_len : mg "len" = none) : FnOk P w K mg base CX0 1 f fd ["_law_dice_here", "_law_many"] (spNext K) := by
  refine F.ok scNext (fun vs H Q E h => ?_) (fun cdv A outer s H vs Q E hr h => ?_)
  · obtain ⟨d, a, ns, m, rfl, _⟩ := h
    rfl
  · obtain ⟨d, a, ns, m, rfl, D, h0, h1, k⟩ := h
    obtain ⟨i, mx, c, hd, m0, m1⟩ := id D.ex
    have nd := scNext.nd
    refine ⟨_, (pss_cons (ps_if (pt_cmpR op_gt (pe_ix (r := rIxL K) ix_list (pv 0) pe_int (fun _ _ => rfl)) pe_int (nomark _)) (pss_cons (ps_set (i := 2) nd rfl (.inl rfl) (pe_op op_mod (pe_ix (r := rIxL K) ix_list (pv 0) pe_int (fun _ _ => rfl)) (pv 1)))
      (pss_cons (ps_asg (pe_op op_fdiv (pe_ix (r := rIxL K) ix_list (pv 0) pe_int (fun _ _ => rfl)) (pv 1)) (pg_sub (pv 0) pe_int set_list))
      (pss_one (ps_ret (pv 2))))) pss_nil)
      (pss_cons (ps_asg (pe_op op_add (pe_ix (r := rIxL K) ix_list (pv 0) pe_int (fun _ _ => rfl)) pe_int) (pg_sub (pv 0) pe_int set_list))
      (pss_cons (ps_if (pt_cmpR op_le (pe_ix (r := rIxL K) ix_list (pv 0) pe_int (fun _ _ => rfl)) (pe_callB call_len_seq (by rfl) z_len PySem.boot_len (pa_cons (pe_ix (r := rIxL K) ix_list (pv 0) pe_int (fun _ _ => rfl)) pa_nil)) (nomark _)) (pss_cons (ps_set (i := 3) nd rfl (.inl rfl) (pe_ix (r := rIxL K) ix_list (pe_ix (r := rIxL K) ix_list (pv 0) pe_int (fun _ _ => rfl)) (pe_op op_sub (pe_ix (r := rIxL K) ix_list (pv 0) pe_int (fun _ _ => rfl)) pe_int) (fun _ _ => rfl)))
      (pss_cons (ps_asg (pe_ifExp (pt_cmpR op_ge (pv 3) (pe_op op_pow pe_int pe_int) (nomark _)) (pe_op op_fdiv (pv 3) (pv 1)) pe_int) (pg_sub (pv 0) pe_int set_list))
      (pss_one (ps_ret (pe_op op_mod (pv 3) (pv 1)))))) pss_nil)
      (pss_cons (ps_asg (pe_op op_mod (pe_op op_mul (pe_ix (r := rIxL K) ix_list (pv 0) pe_int (fun _ _ => rfl)) pe_int) pe_int) (pg_sub (pv 0) pe_int set_list))
      (pss_one (ps_ret (pe_op op_mod (pe_op op_fdiv (pe_ix (r := rIxL K) ix_list (pv 0) pe_int (fun _ _ => rfl)) pe_int) (pv 1)))))))), ?_⟩
    have hmod : ∀ x : Int, 0 ≤ x % m ∧ x % m < m := fun x => ⟨Int.emod_nonneg x (by omega), Int.emod_lt_of_pos x h0⟩
    refine ⟨_, rfl, d, _, 3, _, rfl, rfl, SqL.of hd, rfl, _, _, rfl, rfl, _, rfl, ?_⟩
    refine ite2 (fun _ => ?_) (fun _ => ?_)
    · refine ⟨_, rfl, d, _, 3, _, rfl, rfl, SqL.of hd, rfl, _, rfl, _, _, rfl, rfl, h0, ?_⟩
      refine ⟨_, rfl, d, _, 3, _, rfl, rfl, SqL.of hd, rfl, _, rfl, _, _, rfl, rfl, ⟨h0, h1⟩, _, rfl, d, _, 3, 3, rfl, rfl, hd, rfl, _, rfl, ?_⟩
      exact k _ _ (hmod _).1 (hmod _).2 (D.upd m0 m1) But.upd (fun b hb => upd_ne hb)
    · refine ⟨_, rfl, d, _, 1, _, rfl, rfl, SqL.of hd, rfl, _, _, rfl, rfl, _, rfl, d, _, 1, 1, rfl, rfl, hd, rfl, ?_⟩
      have D1 : Dice K (upd H d (.lst [.ref a, .int ((i + 1 : Nat) : Int), .int mx, .int c])) d a ns := D.upd m0 m1
      show tSeq _ _ _ _ (upd H d (.lst [.ref a, .int ((i + 1 : Nat) : Int), .int mx, .int c]))
      have e1 : ∀ b, b ≠ d → (upd H d (.lst [.ref a, .int ((i + 1 : Nat) : Int), .int mx, .int c])) b = H b := fun b hb => upd_ne hb
      have hd1 : (upd H d (.lst [.ref a, .int ((i + 1 : Nat) : Int), .int mx, .int c])) d = some (.lst [.ref a, .int ((i + 1 : Nat) : Int), .int mx, .int c]) := upd_same
      generalize upd H d (.lst [.ref a, .int ((i + 1 : Nat) : Int), .int mx, .int c]) = H1 at D1 e1 hd1
      have b1 : But d H H1 := fun b o n h => by rw [e1 b n]; exact h
      refine ⟨_, rfl, d, _, 1, _, rfl, rfl, SqL.of hd1, rfl, _, rfl, d, _, 0, _, rfl, rfl, SqL.of hd1, rfl, a, _, rfl, .inl D1.sq, _, _, rfl, rfl, _, rfl, ?_⟩
      refine ite2 (fun hle => ?_) (fun _ => ?_)
      · have hle' : i < ns.length := by
          have := of_decide_eq_true hle
          rw [List.length_map] at this
          omega
        have hx : (ns.map V.int)[i]? = some (.int ns[i]) := by
          rw [List.getElem?_map, List.getElem?_eq_getElem hle'] <;> rfl
        refine ⟨_, rfl, d, _, 0, _, rfl, rfl, SqL.of hd1, rfl, _, rfl, d, _, 1, _, rfl, rfl, SqL.of hd1, rfl, _, _, rfl, rfl, a, _, _, _, rfl, rfl, D1.sq, at_of (j := i) (by omega) hx, ?_⟩
        refine ⟨_, rfl, _, _, rfl, rfl, ⟨by decide, by decide, by decide⟩, _, _, rfl, rfl, _, rfl, ?_⟩
        refine ite2 (fun _ => ?_) (fun _ => ?_)
        · refine ⟨_, rfl, _, rfl, _, _, rfl, rfl, ⟨h0, h1⟩, _, rfl, d, _, 3, 3, rfl, rfl, hd1, rfl, _, rfl, _, rfl, _, _, rfl, rfl, h0, ?_⟩
          exact k _ _ (hmod _).1 (hmod _).2 (D1.upd m0 m1) (b1.trans But.upd) (fun b hb => (upd_ne hb).trans (e1 b hb))
        · refine ⟨_, rfl, d, _, 3, 3, rfl, rfl, hd1, rfl, _, rfl, _, rfl, _, _, rfl, rfl, h0, ?_⟩
          exact k _ _ (hmod _).1 (hmod _).2 (D1.upd m0 m1) (b1.trans But.upd) (fun b hb => (upd_ne hb).trans (e1 b hb))
      · refine ⟨_, rfl, d, _, 2, _, rfl, rfl, SqL.of hd1, rfl, _, _, rfl, rfl, .inl ⟨by omega, by omega⟩, _, _, rfl, rfl, (by show (0 : Int) < 2147483647; decide), _, rfl, d, _, 2, 2, rfl, rfl, hd1, rfl, ?_⟩
        refine ⟨_, rfl, d, _, 2, _, rfl, rfl, SqL.of upd_same, rfl, _, _, rfl, rfl, ⟨by decide, by decide⟩, _, rfl, _, _, rfl, rfl, h0, ?_⟩
        exact k _ _ (hmod _).1 (hmod _).2 (D1.upd (Int.emod_nonneg _ (by decide)) (Int.emod_lt_of_pos _ (by decide))) (b1.trans But.upd) (fun b hb => (upd_ne hb).trans (e1 b hb))
end
end WS
set_option maxRecDepth 100000
set_option maxHeartbeats 4000000
namespace WS
open PySem L2
theorem ints_at {ns : List Int} {i : Nat} {y : V} (h : (ns.map V.int)[i]? = some y) : ∃ z, ns[i]? = some z ∧ y = V.int z := by
  rw [List.getElem?_map] at h
  cases e : ns[i]? with
  | none =>
    rw [e] at h
    cases h
  | some z =>
    rw [e] at h
    exact ⟨z, rfl, (Option.some.inj h).symm⟩
/-- _law_dice(script): new dice over it -/
def spDice (K : PySem.W.Frag) : Sp := fun vs H Q _ => ∃ (a : Addr) (ns : List Int), vs = [.ref a] ∧ SqL K H a (ns.map V.int) ∧ ∀ (p : Addr) (H' : Hp), H p = none → Same H H' → Dice K H' p a ns → Q (.ref p) H'
section
variable {P : Program} {w : World} {K : PySem.W.Frag} {mg : Str → Option Value} {base : Heap}
theorem scDice : FnScope ["_law_script", "_law_mixed", "_law_cell"] ["_law_script"] (defScope sDice) := ⟨rfl, rfl, rfl, by decide +kernel, rfl, by decide +kernel, by decide +kernel⟩
theorem ok_dice {f : Addr} {fd : FuncData} (F : Fun K "_law_dice" "_law_dice" sDice f fd) (z_len : mg "len" = none) (z_int : mg "int" = none) : FnOk P w K mg base CX0 1 f fd ["_law_script"] (spDice K) := by
  refine F.ok scDice (fun vs H Q E h => ?_) (fun cdv A outer s H vs Q E hr h => ?_)
  · obtain ⟨a, ns, rfl, _⟩ := h
    rfl
  · obtain ⟨a, ns, rfl, hs, k⟩ := h
    have nd := scDice.nd
    refine ⟨_, (pss_cons (ps_set (i := 1) nd rfl (.inl rfl) pe_int)
      (pss_cons (ps_for PassesOwn.never rfl (pi_list (pv 0)) (pg_name (i := 2) nd rfl (.inl rfl)) (pss_one (ps_set (i := 1) nd rfl (.inl rfl) (pe_op op_mod (pe_op op_add (pe_op op_add (pe_op op_mul (pv 1) pe_int) (pe_op op_mul (pe_op op_mod (pv 2) pe_int) pe_int)) pe_int) pe_int))))
      (pss_one (ps_ret (pe_lst (pa_cons (pv 0) (pa_cons pe_int (pa_cons (pe_op op_mul (pv 1) (pe_callTy call_int1 (by rfl) z_int (by decide +kernel) (pa_cons (pe_cmpR op_gt (pe_callB call_len_seq (by rfl) z_len PySem.boot_len (pa_cons (pv 0) pa_nil)) pe_int (nomark _)) pa_nil))) (pa_cons pe_int pa_nil))))))))), ?_⟩
    refine ⟨_, rfl, a, rfl, ⟨_, hs⟩, for_list (K := K) (a := a) (xs := ns.map V.int) (fun i σ H2 => H2 = H ∧ ∃ (m : Int) (v : Option V), σ = [some (.ref a), some (.int m), v] ∧ 0 ≤ m ∧ m < 2147483647)
      ⟨rfl, 0, none, rfl, by decide, by decide⟩ (fun i σ H2 _ ⟨e, _⟩ => e ▸ hs) ?_ ?_⟩
    · rintro i y σ H2 hi ⟨rfl, m, v, rfl, m0, m1⟩
      obtain ⟨z, hz, rfl⟩ := ints_at hi
      refine ⟨_, rfl, _, _, rfl, rfl, .inl ⟨by omega, by omega⟩, _, rfl, _, _, rfl, rfl, (by show (0 : Int) < 2147483647; decide), _, _, rfl, rfl, .inl ⟨?_, ?_⟩, _, _, rfl, rfl, _, _, rfl, rfl, _, _, rfl, rfl, (by show (0 : Int) < 2147483647; decide), ?_⟩
      · have := Int.emod_nonneg z (by decide : (2147483647 : Int) ≠ 0); omega
      · have := Int.emod_lt_of_pos z (by decide : (0 : Int) < 2147483647); omega
      · exact ⟨rfl, _, _, rfl, Int.emod_nonneg _ (by decide), Int.emod_lt_of_pos _ (by decide)⟩
    · rintro σ H2 ⟨rfl, m, v, rfl, m0, m1⟩
      refine ⟨_, rfl, _, rfl, _, rfl, a, _, rfl, .inl hs, _, _, rfl, rfl, .inr ⟨_, rfl, _, _, rfl, rfl, .inl ⟨by omega, by omega⟩, (by show 4 ≤ sizeLine; decide), fun p hp => ?_⟩⟩
      have so : SqL K (off (upd H2 p (.lst [.ref a, .int 0, .int (m * (if decide ((2 : Int) < ((ns.map V.int).length : Nat)) = true then 1 else 0)), .int 0])) p) a (ns.map V.int) :=
        sqL_same (fun b o h => by rw [off_ne (ne_of_none h hp), upd_ne (ne_of_none h hp)]; exact h) hs
      refine k p _ hp (Same.new hp) ⟨⟨0, m * (if decide ((2 : Int) < ((ns.map V.int).length : Nat)) = true then 1 else 0), 0, upd_same, ?_, ?_⟩, so⟩
      · split <;> omega
      · split <;> omega
end
end WS
set_option maxRecDepth 100000
set_option maxHeartbeats 4000000
namespace WS
open PySem L2
/-- a text of one sign -/
def sg (c : Nat) : V := .str ⟨#[c]⟩
theorem sg_at {cs : List Nat} {i : Nat} (h : i < cs.length) : (cs.map sg)[i]? = some (sg cs[i]) := by
  rw [List.getElem?_map, List.getElem?_eq_getElem h] <;> rfl
/-- a word of at most L signs, each one of cs -/
structure WordOk (cs : List Nat) (L : Nat) (z : Str) : Prop where
  ne : z.cps.toList ≠ []
  len : z.cps.toList.length ≤ L
  mem : ∀ c ∈ z.cps.toList, c ∈ cs
theorem WordOk.length {cs : List Nat} {L : Nat} {z : Str} (h : WordOk cs L z) : 1 ≤ z.length ∧ z.length ≤ L := by
  have e : z.cps.toList.length = z.length := Array.length_toList
  have a := h.len
  have b := List.length_pos_iff.mpr h.ne
  omega
theorem wordOne {cs : List Nat} {L : Nat} {c : Nat} (hL : 1 ≤ L) (h : c ∈ cs) : WordOk cs L ⟨#[c]⟩ :=
  ⟨by simp, hL, fun x hx => by
    have : x = c := by simpa using hx
    rw [this]; exact h⟩
theorem wordCons {cs : List Nat} {L : Nat} {c : Nat} {z : Str} (h : WordOk cs L z) (hc : c ∈ cs) (hl : z.cps.toList.length + 1 ≤ L) : WordOk cs L ((⟨#[c]⟩ : Str) ++ z) := by
  have e : ((⟨#[c]⟩ : Str) ++ z).cps.toList = c :: z.cps.toList := by
    rw [PySem.Str.cps_append, Array.toList_append] <;> rfl
  refine ⟨by rw [e]; simp, by rw [e]; exact hl, fun x hx => ?_⟩
  rw [e] at hx
  rcases List.mem_cons.mp hx with rfl | hx
  · exact hc
  · exact h.mem x hx
def spWord (K : PySem.W.Frag) : Sp := fun vs H Q _ => ∃ (n b : Int) (l : Addr) (cs : List Nat) (L : Nat), vs = [.int n, .int b, .ref l] ∧ SqL K H l (cs.map sg) ∧ (cs.length : Int) = b ∧ 2 ≤ b ∧ b < 1073741824 ∧ 0 ≤ n ∧ n < b ^ L ∧ 1 ≤ L ∧ L ≤ 1000 ∧
  ∀ z, WordOk cs L z → Q (.str z) H
section
variable {P : Program} {w : World} {K : PySem.W.Frag} {mg : Str → Option Value} {base : Heap}
theorem scWord : FnScope ["_law_number", "_law_base", "_law_names_here", "_law_word_here"] ["_law_number", "_law_base", "_law_names_here"] (defScope sWord) := ⟨rfl, rfl, rfl, by decide +kernel, rfl, by decide +kernel, by decide +kernel⟩
theorem pow_step {b n : Int} {k : Nat} (hb : 2 ≤ b) (hn : b ≤ n) (h : n < b ^ k) : 2 ≤ k ∧ n / b < b ^ (k - 1) := by
  have h2 : 2 ≤ k := by
    rcases k with _ | _ | k
    · simp at h; omega
    · have e : b ^ (0 + 1) = b := by rw [Int.pow_succ, Int.pow_zero, Int.one_mul]
      omega
    · omega
  refine ⟨h2, Int.ediv_lt_of_lt_mul (by omega) ?_⟩
  obtain ⟨j, rfl⟩ : ∃ j, k = j + 1 := ⟨k - 1, by omega⟩
  rw [Int.pow_succ] at h
  exact h
theorem ok_word {f : Addr} {fd : FuncData} (F : Fun K "_law_word" "_law_word" sWord f fd) : FnOk P w K mg base CX0 1 f fd ["_law_number", "_law_base", "_law_names_here"] (spWord K) := by
  refine F.ok scWord (fun vs H Q E h => ?_) (fun cdv A outer s H vs Q E hr h => ?_)
  · obtain ⟨n, b, l, cs, L, rfl, _⟩ := h
    rfl
  · obtain ⟨n, b, l, cs, L, rfl, hs, hc, b2, b3, n0, n1, hL, L1, k⟩ := h
    have nd := scWord.nd
    refine ⟨_, (pss_cons (ps_set (i := 3) nd rfl (.inl rfl) (pe_ix (r := rIxL K) ix_list (pv 2) (pe_op op_mod (pv 0) (pv 1)) (fun _ _ => rfl)))
      (pss_cons (ps_while PassesOwn.never (pt_cmpR op_ge (pv 0) (pv 1) (nomark _)) (pss_cons (ps_set (i := 0) nd rfl (.inl rfl) (pe_op op_fdiv (pv 0) (pv 1)))
      (pss_one (ps_set (i := 3) nd rfl (.inl rfl) (pe_op op_add_str (pe_ix (r := rIxL K) ix_list (pv 2) (pe_op op_mod (pv 0) (pv 1)) (fun _ _ => rfl)) (pv 3))))))
      (pss_one (ps_ret (pv 3))))), ?_⟩
    have pick : ∀ x : Int, 0 ≤ x → ∃ c, c ∈ cs ∧ atI (cs.map sg) (x % b) = some (sg c) := fun x hx => by
      have h0 := Int.emod_nonneg x (by omega : b ≠ 0)
      have h1 := Int.emod_lt_of_pos x (by omega : 0 < b)
      have hi : (x % b).toNat < cs.length := by omega
      exact ⟨cs[(x % b).toNat], List.getElem_mem hi, at_of (j := (x % b).toNat) (by omega) (sg_at hi)⟩
    obtain ⟨c, hcm, hcx⟩ := pick n n0
    refine ⟨_, rfl, _, rfl, _, rfl, _, _, rfl, rfl, (by show (0 : Int) < b; omega), l, _, _, _, rfl, rfl, hs, hcx, ?_⟩
    refine while_by (fun σ H2 => H2 = H ∧ ∃ (n' : Int) (z : Str), σ = [some (.int n'), some (.int b), some (.ref l), some (.str z)] ∧ 0 ≤ n' ∧ WordOk cs L z ∧ n' < b ^ (L + 1 - z.cps.toList.length))
      (fun σ _ => match σ with | some (.int n') :: _ => n'.toNat | _ => 0) ⟨rfl, n, _, rfl, n0, wordOne hL hcm, n1⟩ ?_ ?_
    · rintro σ H2 ⟨rfl, n', z, rfl, h0, hz, hb⟩
      refine ⟨_, rfl, _, rfl, _, _, rfl, rfl, _, rfl, ite2 (fun hge => ?_) (fun _ => ?_)⟩
      · have hge' : b ≤ n' := of_decide_eq_true hge
        obtain ⟨h2, hlt⟩ := pow_step b2 hge' hb
        have hd0 : 0 ≤ n' / b := Int.ediv_nonneg h0 (by omega)
        have hdl : n' / b < n' := Int.ediv_lt_of_lt_mul (by omega) (by have := Int.mul_le_mul_of_nonneg_left b2 h0; omega)
        obtain ⟨c', hcm', hcx'⟩ := pick (n' / b) hd0
        have hzl := hz.len
        refine ⟨_, rfl, _, rfl, _, _, rfl, rfl, ⟨by omega, b3⟩, _, rfl, _, rfl, _, rfl, _, _, rfl, rfl, (by show (0 : Int) < b; omega), l, _, _, _, rfl, rfl, hs, hcx', _, rfl, _, _, rfl, rfl, ?_, ?_⟩
        · have e : z.cps.toList.length = z.length := Array.length_toList
          show 1 + z.length ≤ sizeLine
          exact line_of (by omega)
        · refine ⟨⟨rfl, _, _, rfl, hd0, wordCons hz hcm' (by omega), ?_⟩, ?_⟩
          · have e : ((⟨#[c']⟩ : Str) ++ z).cps.toList.length = z.cps.toList.length + 1 := by
              rw [PySem.Str.cps_append, Array.toList_append, List.length_append, Nat.add_comm] <;> rfl
            rw [e]
            have e2 : L + 1 - (z.cps.toList.length + 1) = L + 1 - z.cps.toList.length - 1 := by omega
            rw [e2]
            exact hlt
          · show (n' / b).toNat < n'.toNat
            omega
      · exact ⟨_, rfl, k z hz⟩
    · rintro σ H2 Q1 Q2 hq ⟨x, hx, y, hy, i, j, e1, e2, c, e3, h⟩
      exact ⟨x, hx, y, hy, i, j, e1, e2, c, e3, hq _ _ h⟩
end
end WS
set_option maxRecDepth 100000
set_option maxHeartbeats 4000000
namespace WS
open PySem L2
theorem at_ofG {α : Type} {xs : List α} {z : Int} {j : Nat} {v : α} (e : z = (j : Int)) (h : xs[j]? = some v) : atI xs z = some v := by
  rw [e]; exact atI_nat h
/-- the letters that a sheet's words are made of -/
structure NamesOk (cs : List Nat) (b : Int) : Prop where
  len : (cs.length : Int) = b
  nd : cs.Nodup
  low : ∀ c ∈ cs, 97 ≤ c ∧ c ≤ 122
def abc : Str := "abcdefghijklmnopqrstuvwxyz"
theorem abc_len : abc.length = 26 := by decide +kernel
theorem abc_all : ∀ i : Nat, i < 26 → abc.cps.toList[i]? = some (97 + i) := by decide +kernel
def letter (t s : Int) (i : Nat) : Nat := 97 + ((t + s * (0 + (i : Int))) % 26).toNat
theorem steps_six {j : Nat} (h : j < 6) : ∃ s : Int, ([V.int 1, .int 3, .int 5, .int 7, .int 9, .int 11])[j]? = some (.int s) ∧ (s = 1 ∨ s = 3 ∨ s = 5 ∨ s = 7 ∨ s = 9 ∨ s = 11) := by
  rcases j with _ | _ | _ | _ | _ | _ | j
  · exact ⟨1, rfl, by decide⟩
  · exact ⟨3, rfl, by decide⟩
  · exact ⟨5, rfl, by decide⟩
  · exact ⟨7, rfl, by decide⟩
  · exact ⟨9, rfl, by decide⟩
  · exact ⟨11, rfl, by decide⟩
  · omega
theorem letter_inj {t s : Int} {i j : Nat} (hs : s = 1 ∨ s = 3 ∨ s = 5 ∨ s = 7 ∨ s = 9 ∨ s = 11) (hi : i < 12) (hj : j < 12) (h : letter t s i = letter t s j) : i = j := by
  unfold letter at h
  rcases hs with rfl | rfl | rfl | rfl | rfl | rfl <;> omega
theorem names_ok {t s : Int} {n : Nat} (hs : s = 1 ∨ s = 3 ∨ s = 5 ∨ s = 7 ∨ s = 9 ∨ s = 11) (hn : n ≤ 12) : NamesOk ((List.range n).map (letter t s)) n := by
  refine ⟨by rw [List.length_map, List.length_range], ?_, fun c hc => ?_⟩
  · rw [List.Nodup, List.pairwise_map]
    refine List.Pairwise.imp_of_mem (R := fun a b => a ≠ b) (fun {a b} ha hb hab e => ?_) (show (List.range n).Nodup from List.nodup_range)
    have := List.mem_range.mp ha
    have := List.mem_range.mp hb
    exact hab (letter_inj hs (by omega) (by omega) e)
  · obtain ⟨i, _, rfl⟩ := List.mem_map.mp hc
    unfold letter
    omega
/-- _law_names(d, base) -/
def spNames (K : PySem.W.Frag) : Sp := fun vs H Q _ => ∃ (d a : Addr) (ns : List Int) (b : Int), vs = [.ref d, .int b] ∧ Dice K H d a ns ∧ 2 ≤ b ∧ b ≤ 12 ∧
  ∀ (p : Addr) (H' : Hp) (cs : List Nat), H p = none → Dice K H' d a ns → But d H H' → H' p = some (.lst (cs.map sg)) → NamesOk cs b → Q (.ref p) H'
section
variable {P : Program} {w : World} {K : PySem.W.Frag} {mg : Str → Option Value} {base : Heap}
theorem scNames : FnScope ["_law_d", "_law_base", "_law_turn", "_law_step", "_law_k"] ["_law_d", "_law_base"] (defScope sNames) := ⟨rfl, rfl, rfl, by decide +kernel, rfl, by decide +kernel, by decide +kernel⟩
theorem ok_names {f fN : Addr} {fd fdN : FuncData} (F : Fun K "_law_names" "_law_names" sNames f fd) (z_range : mg "range" = none) (S__law_next : Site K mg "_law_next" fN fdN ["_law_dice_here", "_law_many"])
    (G__law_next : FnOk P w K mg base CX0 1 fN fdN ["_law_dice_here", "_law_many"] (spNext K)) : FnOk P w K mg base CX0 2 f fd ["_law_d", "_law_base"] (spNames K) := by
  refine F.ok scNames (fun vs H Q E h => ?_) (fun cdv A outer s H vs Q E hr h => ?_)
  · obtain ⟨d, a, ns, b, rfl, _⟩ := h
    rfl
  · obtain ⟨d, a, ns, b, rfl, D, b2, b12, k⟩ := h
    have nd := scNames.nd
    have hr__law_next := hr
    refine ⟨_, (pss_cons (ps_set (i := 2) nd rfl (.inr rfl) (pe_call G__law_next hr__law_next (by rfl) S__law_next.g S__law_next.k S__law_next.b .nil pass0 (pa_cons (pv 0) (pa_cons pe_int pa_nil))))
      (pss_cons (ps_set (i := 3) nd rfl (.inr rfl) (pe_ix (r := rIxL K) ix_list (pe_lst (pa_cons pe_int (pa_cons pe_int (pa_cons pe_int (pa_cons pe_int (pa_cons pe_int (pa_cons pe_int pa_nil))))))) (pe_call G__law_next hr__law_next (by rfl) S__law_next.g S__law_next.k S__law_next.b .nil pass0 (pa_cons (pv 0) (pa_cons pe_int pa_nil))) (fun _ _ => rfl)))
      (pss_one (ps_ret (pe_lc (own := [("_law_k", 4)]) (g := (gName 4)) (tt := tYes) rfl nd (pi_range1 (by rfl) z_range (pa_cons (pv 1) pa_nil)) (blkOk_by (own := [("_law_k", 4)]) (N := ["_law_d", "_law_base", "_law_turn", "_law_step", "_law_k"]) (sc := defScope sNames) (by decide +kernel)) (fun _ _ _ _ _ => (pg_name (i := 4) nd rfl (.inl rfl))) (fun _ _ _ _ _ => pts_nil) (fun _ _ _ _ _ => (pe_ix (r := rIxS) ix_str pe_str (pe_op op_mod (pe_op op_add (pv 2) (pe_op op_mul (pv 3) (pv 4))) pe_int) (fun _ _ => rfl)))))))), ?_⟩
    refine ⟨_, rfl, d, a, ns, 26, rfl, D, by decide, by decide, fun t H1 t0 t1 D1 b1 _ => ?_⟩
    refine ⟨by show 6 ≤ sizeLine; decide, fun q hq => ?_⟩
    refine ⟨_, rfl, d, a, ns, 6, rfl, D1.new hq, by decide, by decide, fun j H2 j0 j1 D2 b2' e2 => ?_⟩
    have hqd : q ≠ d := D1.neOf hq
    obtain ⟨st, hst, hs6⟩ := steps_six (j := j.toNat) (by omega)
    refine ⟨q, _, j, _, rfl, rfl, SqL.of ((e2 q hqd).trans upd_same), at_of (j := j.toNat) (by omega) hst, ?_⟩
    have b3 : But d H H2 := (b1.trans (But.new hq)).trans b2'
    refine ⟨_, rfl, b, rfl, by omega, by omega, fun p hp => ?_⟩
    have hp0 : H p = none := b3.free D2.ne hp
    refine lc_range (lo := 0) (n := b.toNat) (fun i H3 => H3 = upd H2 p (.lst (((List.range i).map (letter t st)).map sg))) rfl ?_ ?_
    · rintro i H3 hi rfl
      refine ⟨rfl, _, rfl, _, rfl, _, rfl, _, _, rfl, rfl, .inl ⟨by omega, by omega⟩, _, _, rfl, rfl, _, _, rfl, rfl, (by show (0 : Int) < 26; decide), ?_⟩
      have h0 := Int.emod_nonneg (t + st * (0 + (i : Int))) (by decide : (26 : Int) ≠ 0)
      have h1 := Int.emod_lt_of_pos (t + st * (0 + (i : Int))) (by decide : (0 : Int) < 26)
      refine ⟨abc, (t + st * (0 + (i : Int))) % 26, letter t st i, rfl, rfl, (by rw [abc_len]; decide), ?_, ?_⟩
      · show atI abc.cps.toList ((t + st * (0 + (i : Int))) % 26) = some (letter t st i)
        have := abc_all ((t + st * (0 + (i : Int))) % 26).toNat (by omega)
        exact at_ofG (j := ((t + st * (0 + (i : Int))) % 26).toNat) (by omega) this
      · refine ⟨_, upd_same, ?_, ?_⟩
        · rw [List.length_map, List.length_map, List.length_range]
          exact line_lt (by omega)
        · rw [upd_upd, List.range_succ, List.map_append, List.map_append]
          rfl
    · rintro H3 rfl
      refine k p _ ((List.range b.toNat).map (letter t st)) hp0 (D2.new hp) (b3.trans (But.new hp)) upd_same ?_
      have := names_ok (t := t) hs6 (n := b.toNat) (by omega)
      rw [Int.toNat_of_nonneg (by omega)] at this
      exact this
end
end WS
set_option maxRecDepth 100000
set_option maxHeartbeats 4000000
namespace WS
open PySem L2
/-! ### what a drawn sum is -/
structure SumOk (cs : List Nat) (b : Int) (ws : List Str) (tot : Str) : Prop where
  many : 1 ≤ ws.length ∧ ws.length ≤ 4
  adds : ∀ w ∈ ws, WordOk cs 6 w
  total : WordOk cs 6 tot
  big : 6 < b → ws.length = 2 ∧ (∀ w ∈ ws, WordOk cs 1 w) ∧ WordOk cs 2 tot
theorem WordOk.mono {cs : List Nat} {L L' : Nat} {z : Str} (h : WordOk cs L z) (l : L ≤ L') : WordOk cs L' z := ⟨h.ne, Nat.le_trans h.len l, h.mem⟩
theorem join_empty : ∀ xs : List Str, (Str.join Str.empty xs).cps.toList = (xs.map (·.cps.toList)).flatten
  | [] => rfl
  | [x] => by show x.cps.toList = x.cps.toList ++ []; rw [List.append_nil]
  | x :: y :: r => by
    show (x ++ Str.empty ++ Str.join Str.empty (y :: r)).cps.toList = x.cps.toList ++ ((y :: r).map (·.cps.toList)).flatten
    rw [← join_empty (y :: r), PySem.Str.cps_append, Array.toList_append, PySem.Str.cps_append, Array.toList_append]
    show x.cps.toList ++ [] ++ _ = _
    rw [List.append_nil]
theorem join_signs (cs : List Nat) : (Str.join Str.empty (cs.map fun c => (⟨#[c]⟩ : Str))).cps.toList = cs := by
  rw [join_empty, List.map_map]
  induction cs with
  | nil => rfl
  | cons c r ih =>
    show [c] ++ (r.map _).flatten = c :: r
    rw [ih] <;> rfl
theorem word_join {cs xs : List Nat} {L : Nat} (h0 : xs ≠ []) (h1 : xs.length ≤ L) (h2 : ∀ c ∈ xs, c ∈ cs) : WordOk cs L (Str.join Str.empty (xs.map fun c => (⟨#[c]⟩ : Str))) :=
  ⟨by rw [join_signs]; exact h0, by rw [join_signs]; exact h1, by rw [join_signs]; exact h2⟩
theorem sg_strs (xs : List Nat) : xs.map sg = (xs.map fun c => (⟨#[c]⟩ : Str)).map V.str := by
  rw [List.map_map] <;> rfl
theorem cutV_1 (xs : List V) (h : 1 ≤ xs.length) : cutV xs (some 1) none = xs.drop 1 := by
  unfold cutV
  have e : HT.sIx xs.length 0 (some 1) = 1 := by
    have := HT.sIx_nat xs.length 0 1
    rw [show ((1 : Nat) : Int) = 1 from rfl] at this
    rw [this]; omega
  rw [e, HT.sIx_none]
  exact List.take_of_length_le (by rw [List.length_drop] <;> exact Nat.le_refl _)
/-- the limits of the numbers that are drawn -/
def limOf (b : Int) : Int := if 6 < b then b else if b < 5 then b * b * b * b else b * b * b
def lengthOf (b : Int) : Nat := if 6 < b then 1 else 4
theorem lim_facts {b : Int} (h2 : 2 ≤ b) (h12 : b ≤ 12) : 0 < limOf b ∧ limOf b < 1073741824 ∧ limOf b ≤ b ^ lengthOf b ∧ 4 * limOf b ≤ b ^ 6 ∧ (6 < b → 2 * limOf b ≤ b ^ 2) := by
  have e : b = 2 ∨ b = 3 ∨ b = 4 ∨ b = 5 ∨ b = 6 ∨ b = 7 ∨ b = 8 ∨ b = 9 ∨ b = 10 ∨ b = 11 ∨ b = 12 := by omega
  rcases e with rfl | rfl | rfl | rfl | rfl | rfl | rfl | rfl | rfl | rfl | rfl <;> decide
theorem sum_le : ∀ {xs : List Int} {m : Int}, (∀ x ∈ xs, 0 ≤ x ∧ x < m) → 0 ≤ xs.sum ∧ xs.sum ≤ xs.length * (m - 1)
  | [], m, _ => by simp
  | x :: r, m, h => by
    obtain ⟨a, b⟩ := sum_le (xs := r) fun y hy => h y (List.mem_cons_of_mem _ hy)
    obtain ⟨c, d⟩ := h x List.mem_cons_self
    rw [List.sum_cons, List.length_cons]
    refine ⟨by omega, ?_⟩
    have : ((r.length + 1 : Nat) : Int) * (m - 1) = r.length * (m - 1) + (m - 1) := by
      rw [Int.natCast_add, Int.add_mul]; simp
    rw [this]; omega
theorem sum_lim {b : Int} (h2 : 2 ≤ b) (h12 : b ≤ 12) {xs : List Int} (h : ∀ x ∈ xs, 0 ≤ x ∧ x < limOf b) (hl : xs.length ≤ 4) : 0 ≤ xs.sum ∧ xs.sum < b ^ 6 ∧ (6 < b → xs.length = 2 → xs.sum < b ^ 2) := by
  obtain ⟨a, c⟩ := sum_le h
  obtain ⟨l0, _, _, l4, l2⟩ := lim_facts h2 h12
  have hm : (xs.length : Int) * (limOf b - 1) ≤ 4 * (limOf b - 1) := Int.mul_le_mul_of_nonneg_right (by omega) (by omega)
  refine ⟨a, by omega, fun hb he => ?_⟩
  have := l2 hb
  rw [he] at c
  omega
end WS
set_option maxRecDepth 100000
set_option maxHeartbeats 8000000
namespace WS
open PySem L2
theorem names_off {K : PySem.W.Frag} {H : Hp} {d a l : Addr} {ns : List Int} {cs : List Nat} (D : Dice K H d a ns) (hl : H l = some (.lst (cs.map sg))) : l ≠ d := by
  intro e
  subst e
  obtain ⟨i, m, c, h, _⟩ := D.ex
  rw [h] at hl
  have := HO.lst.inj (Option.some.inj hl)
  rcases cs with _ | ⟨x, r⟩
  · cases this
  · injection this with h1 _
    cases h1
/-- _law_sum(d, base, names): one sum -/
def spSum (K : PySem.W.Frag) : Sp := fun vs H Q _ => ∃ (d a : Addr) (ns : List Int) (b : Int) (l : Addr) (cs : List Nat), vs = [.ref d, .int b, .ref l] ∧ Dice K H d a ns ∧ 2 ≤ b ∧ b ≤ 12 ∧ H l = some (.lst (cs.map sg)) ∧ (cs.length : Int) = b ∧
  ∀ (t u : Addr) (H' : Hp) (ws : List Str) (tot : Str), H t = none → H u = none → Dice K H' d a ns → But d H H' → H' t = some (.tup [.ref u, .str tot]) → H' u = some (.tup (ws.map V.str)) → SumOk cs b ws tot → Q (.ref t) H'
section
variable {P : Program} {w : World} {K : PySem.W.Frag} {mg : Str → Option Value} {base : Heap}
theorem scSum : FnScope ["_law_d", "_law_base", "_law_names_here", "_law_limit", "_law_many", "_law_words", "_law_k", "_law_size", "_law_numbers", "_law_j", "_law_number"] ["_law_d", "_law_base", "_law_names_here"] (defScope sSum) := ⟨rfl, rfl, rfl, by decide +kernel, rfl, by decide +kernel, by decide +kernel⟩
theorem ok_sum {f fN fW : Addr} {fd fdN fdW : FuncData} (F : Fun K "_law_sum" "_law_sum" sSum f fd) (z_range : mg "range" = none) (z_tuple : mg "tuple" = none) (z_sum : mg "sum" = none)
    (S__law_next : Site K mg "_law_next" fN fdN ["_law_dice_here", "_law_many"]) (G__law_next : FnOk P w K mg base CX0 1 fN fdN ["_law_dice_here", "_law_many"] (spNext K))
    (S__law_word : Site K mg "_law_word" fW fdW ["_law_number", "_law_base", "_law_names_here"]) (G__law_word : FnOk P w K mg base CX0 1 fW fdW ["_law_number", "_law_base", "_law_names_here"] (spWord K)) :
    FnOk P w K mg base CX0 2 f fd ["_law_d", "_law_base", "_law_names_here"] (spSum K) := by
  refine F.ok scSum (fun vs H Q E h => ?_) (fun cdv A outer s H vs Q E hr h => ?_)
  · obtain ⟨d, a, ns, b, l, cs, rfl, _⟩ := h
    rfl
  · obtain ⟨d, a, ns, b, l, cs, rfl, D, b2, b12, hl, hcs, k⟩ := h
    have nd := scSum.nd
    have hr__law_next := hr
    have hr__law_word := hr
    have hld := names_off D hl
    obtain ⟨l0, l30, lL, l4, l2⟩ := lim_facts b2 b12
    have pick : ∀ v : Int, 0 ≤ v → v < b → ∃ c, c ∈ cs ∧ atI (cs.map sg) v = some (sg c) := fun v h0 h1 => by
      have hi : v.toNat < cs.length := by omega
      exact ⟨cs[v.toNat], List.getElem_mem hi, at_of (j := v.toNat) (by omega) (sg_at hi)⟩
    refine ⟨_, (pss_cons (ps_set (i := 3) nd rfl (.inr rfl) (pe_op op_mul (pe_op op_mul (pv 1) (pv 1)) (pv 1)))
      (Evl.pss_cut (ps_if (pt_cmpR op_lt (pv 1) pe_int (nomark _)) (pss_one (ps_set (i := 3) nd rfl (.inr rfl) (pe_op op_mul (pv 3) (pv 1)))) pss_nil)
      (pss_cons (ps_set (i := 4) nd rfl (.inl rfl) (pe_op op_add pe_int (pe_call G__law_next hr__law_next (by rfl) S__law_next.g S__law_next.k S__law_next.b .nil pass0 (pa_cons (pv 0) (pa_cons pe_int pa_nil)))))
      (Evl.pss_cut (ps_if (pt_cmpR op_gt (pv 1) pe_int (nomark _)) (pss_cons (ps_set (i := 3) nd rfl (.inr rfl) (pv 1))
      (pss_one (ps_set (i := 4) nd rfl (.inl rfl) pe_int))) pss_nil)
      (Evl.pss_cut (ps_if (PW.pt (pw_and (pt_cmpR op_eq (pe_call G__law_next hr__law_next (by rfl) S__law_next.g S__law_next.k S__law_next.b .nil pass0 (pa_cons (pv 0) (pa_cons pe_int pa_nil))) pe_int (nomark _)) (pw_and1 (pt_cmpR op_lt (pv 1) pe_int (nomark _))))) (pss_cons (ps_set (i := 5) nd rfl (.inl rfl) (pe_lst pa_nil))
      (pss_cons (ps_for PassesOwn.never rfl (pi_range1 (by rfl) z_range (pa_cons (pe_op op_add (pv 4) pe_int) pa_nil)) (pg_name (i := 6) nd rfl (.inl rfl)) (pss_cons (ps_set (i := 7) nd rfl (.inl rfl) (pe_op op_add pe_int (pe_call G__law_next hr__law_next (by rfl) S__law_next.g S__law_next.k S__law_next.b .nil pass0 (pa_cons (pv 0) (pa_cons pe_int pa_nil)))))
      (Evl.pss_cut (ps_if (PW.pt (pw_and (pt_cmpR op_lt (pv 1) pe_int (nomark _)) (pw_and1 (pt_cmpR op_eq (pe_call G__law_next hr__law_next (by rfl) S__law_next.g S__law_next.k S__law_next.b .nil pass0 (pa_cons (pv 0) (pa_cons pe_int pa_nil))) pe_int (nomark _))))) (pss_one (ps_set (i := 7) nd rfl (.inl rfl) (pe_op op_add pe_int (pe_call G__law_next hr__law_next (by rfl) S__law_next.g S__law_next.k S__law_next.b .nil pass0 (pa_cons (pv 0) (pa_cons pe_int pa_nil)))))) pss_nil)
      (pss_one (ps_expr (pe_bm PySem.F.plainAttrs_list PySem.F.slot_list_append PySem.F.type_list_append mt_append (pv 5) (pa_cons (pe_join pe_str (pe_lc (own := [("_law_j", 9)]) (g := (gName 9)) (tt := tYes) rfl nd (pi_range1 (by rfl) z_range (pa_cons (pv 7) pa_nil)) (blkOk_by (own := [("_law_j", 9)]) (N := ["_law_d", "_law_base", "_law_names_here", "_law_limit", "_law_many", "_law_words", "_law_k", "_law_size", "_law_numbers", "_law_j", "_law_number"]) (sc := defScope sSum) (by decide +kernel)) (fun _ _ _ _ _ => (pg_name (i := 9) nd rfl (.inl rfl))) (fun _ _ _ _ _ => pts_nil) (fun _ _ _ _ _ => (pe_ix (r := rIxL K) ix_list (pv 2) (pe_call G__law_next hr__law_next (by rfl) S__law_next.g S__law_next.k S__law_next.b .nil pass0 (pa_cons (pv 0) (pa_cons (pv 1) pa_nil))) (fun _ _ => rfl))))) pa_nil)))))))
      (pss_one (ps_ret (pe_tup (pa_cons (pe_callTy call_tuple_of (by rfl) z_tuple (by decide +kernel) (pa_cons (pe_slice sl_list (pv 5) (po_some pe_int) po_none) pa_nil)) (pa_cons (pe_ix (r := rIxL K) ix_list (pv 5) pe_int (fun _ _ => rfl)) pa_nil))))))) pss_nil)
      (pss_cons (ps_setLc (i := 8) (own := [("_law_k", 6)]) (g := (gName 6)) (tt := tYes) rfl nd rfl rfl (sw_true rfl rfl rfl (by decide +kernel)) (pi_range1 (by rfl) z_range (pa_cons (pv 4) pa_nil)) (blkOk_by (own := [("_law_k", 6)]) (N := ["_law_d", "_law_base", "_law_names_here", "_law_limit", "_law_many", "_law_words", "_law_k", "_law_size", "_law_numbers", "_law_j", "_law_number"]) (sc := defScope sSum) (by decide +kernel)) (fun _ _ _ _ _ => (pg_name (i := 6) nd rfl (.inl rfl))) (fun _ _ _ _ _ => pts_nil) (fun _ _ _ _ _ => (pe_call G__law_next hr__law_next (by rfl) S__law_next.g S__law_next.k S__law_next.b .nil pass0 (pa_cons (pv 0) (pa_cons (pv 3) pa_nil)))))
      (pss_one (ps_ret (pe_tup (pa_cons (pe_callTy call_tuple_of (by rfl) z_tuple (by decide +kernel) (pa_cons (pe_lc (own := [("_law_number", 10)]) (g := (gName 10)) (tt := tYes) rfl nd (pi_list (pv 8)) (blkOk_by (own := [("_law_number", 10)]) (N := ["_law_d", "_law_base", "_law_names_here", "_law_limit", "_law_many", "_law_words", "_law_k", "_law_size", "_law_numbers", "_law_j", "_law_number"]) (sc := defScope sSum) (by decide +kernel)) (fun _ _ _ _ _ => (pg_name (i := 10) nd rfl (.inl rfl))) (fun _ _ _ _ _ => pts_nil) (fun _ _ _ _ _ => (pe_call G__law_word hr__law_word (by rfl) S__law_word.g S__law_word.k S__law_word.b .nil pass0 (pa_cons (pv 10) (pa_cons (pv 1) (pa_cons (pv 2) pa_nil)))))) pa_nil)) (pa_cons (pe_call G__law_word hr__law_word (by rfl) S__law_word.g S__law_word.k S__law_word.b .nil pass0 (pa_cons (pe_callB (cr_sum rfl) (by rfl) z_sum (by decide +kernel) (pa_cons (pv 8) pa_nil)) (pa_cons (pv 1) (pa_cons (pv 2) pa_nil)))) pa_nil))))))))))), ?_⟩
    refine ⟨_, rfl, _, rfl, _, _, rfl, rfl, .inl ⟨by omega, by omega⟩, _, rfl, _, _, rfl, rfl, .inr ⟨by omega, by omega⟩, ?_⟩
    refine ⟨fun σ H1 => H = H1 ∧ σ = [some (.ref d), some (.int b), some (.ref l), some (.int (if b < 5 then b * b * b * b else b * b * b)), none, none, none, none, none, none, none], ?_, ?_⟩
    · refine ⟨_, rfl, _, _, rfl, rfl, _, rfl, ite2 (fun c => ?_) (fun c => ?_)⟩
      · refine ⟨_, rfl, _, rfl, _, _, rfl, rfl, .inr ⟨by omega, by omega⟩, rfl, ?_⟩
        rw [if_pos (of_decide_eq_true c)] <;> rfl
      · refine ⟨rfl, ?_⟩
        rw [if_neg (fun h => c (decide_eq_true h))] <;> rfl
    · rintro σ H1 ⟨rfl, rfl⟩
      refine ⟨_, rfl, d, a, ns, 4, rfl, D, by decide, by decide, fun v H1' v0 v1 D1 b1 _ => ?_⟩
      refine ⟨_, _, rfl, rfl, ?_⟩
      refine ⟨fun σ H2 => H2 = H1' ∧ ∃ m : Int, σ = [some (.ref d), some (.int b), some (.ref l), some (.int (limOf b)), some (.int m), none, none, none, none, none, none] ∧ 1 ≤ m ∧ m ≤ 4 ∧ (6 < b → m = 2), ?_, ?_⟩
      · refine ⟨_, rfl, _, _, rfl, rfl, _, rfl, ite2 (fun c => ?_) (fun c => ?_)⟩
        · refine ⟨_, rfl, rfl, 2, ?_, by decide, by decide, fun _ => rfl⟩
          have e : limOf b = b := by unfold limOf; rw [if_pos (of_decide_eq_true c)]
          rw [e] <;> rfl
        · refine ⟨rfl, 1 + v, ?_, by omega, by omega, fun h => absurd (decide_eq_true h) c⟩
          have e : limOf b = if b < 5 then b * b * b * b else b * b * b := by unfold limOf; rw [if_neg (fun h => c (decide_eq_true h))]
          rw [e] <;> rfl
      · rintro σ H2 ⟨rfl, m, rfl, m0, m4, mb⟩
        refine ⟨fun σ H3 => σ = [some (.ref d), some (.int b), some (.ref l), some (.int (limOf b)), some (.int m), none, none, none, none, none, none] ∧ Dice K H3 d a ns ∧ But d H H3, ?_, ?_⟩
        · refine ⟨_, rfl, d, a, ns, 4, rfl, D1, by decide, by decide, fun v' H3 v0' v1' D3 b3 _ => ?_⟩
          refine ⟨rfl, _, rfl, ite2 (fun c => ?_) (fun c => iteF ?_)⟩
          · refine ⟨_, rfl, _, _, rfl, rfl, _, rfl, ite2 (fun c => ?_) (fun c => ?_)⟩
            · -- the words' branch
              have hb7 : b < 7 := of_decide_eq_true c
              have b3' := b1.trans b3
              refine ⟨by show 0 ≤ sizeLine; decide, fun wl hwl => ?_⟩
              have hw0 : H wl = none := b3'.free D3.ne hwl
              have hwd : wl ≠ d := D3.neOf hwl
              refine ⟨_, rfl, _, _, rfl, rfl, _, rfl, by omega, by omega, for_range (lo := 0) (n := (m + 1).toNat) (fun i σ H4 => ∃ (ws : List Str) (v6 v7 : Option V), σ = [some (.ref d), some (.int b), some (.ref l), some (.int (limOf b)), some (.int m), some (.ref wl), v6, v7, none, none, none] ∧
                  Dice K H4 d a ns ∧ But d H H4 ∧ H4 wl = some (.lst (ws.map V.str)) ∧ ws.length = i ∧ ∀ w ∈ ws, WordOk cs 6 w)
                ⟨[], none, none, rfl, D3.new hwl, b3'.trans (But.new hwl), upd_same, rfl, fun w hw => nomatch hw⟩ ?_ ?_⟩
              · rintro i σ H4 hi ⟨ws, v6, v7, rfl, D4, b4, hws, hwn, hwo⟩
                refine ⟨_, rfl, d, a, ns, 3, rfl, D4, by decide, by decide, fun v H5 v0 v1 D5 b5 e5 => ?_⟩
                refine ⟨_, _, rfl, rfl, ?_⟩
                refine ⟨fun σ H6 => ∃ sz : Int, σ = [some (.ref d), some (.int b), some (.ref l), some (.int (limOf b)), some (.int m), some (.ref wl), some (.int (0 + (i : Int))), some (.int sz), none, none, none] ∧ 1 ≤ sz ∧ sz ≤ 6 ∧
                    Dice K H6 d a ns ∧ But d H H6 ∧ H6 wl = some (.lst (ws.map V.str)), ?_, ?_⟩
                · have out : ∃ sz : Int, [some (V.ref d), some (V.int b), some (V.ref l), some (V.int (limOf b)), some (V.int m), some (V.ref wl), some (V.int (0 + (i : Int))), some (V.int (1 + v)), none, none, none] = [some (.ref d), some (.int b), some (.ref l), some (.int (limOf b)), some (.int m), some (.ref wl), some (.int (0 + (i : Int))), some (.int sz), none, none, none] ∧ 1 ≤ sz ∧ sz ≤ 6 ∧
                    Dice K H5 d a ns ∧ But d H H5 ∧ H5 wl = some (.lst (ws.map V.str)) := ⟨1 + v, rfl, by omega, by omega, D5, b4.trans b5, (e5 wl hwd).trans hws⟩
                  refine ⟨_, rfl, _, _, rfl, rfl, _, rfl, ite2 (fun _ => ?_) (fun _ => iteF out)⟩
                  refine ⟨_, rfl, d, a, ns, 4, rfl, D5, by decide, by decide, fun v2 H6 _ _ D6 b6 e6 => ?_⟩
                  refine ⟨rfl, _, rfl, ite2 (fun _ => ?_) (fun _ => ?_)⟩
                  · refine ⟨_, rfl, d, a, ns, 6, rfl, D6, by decide, by decide, fun v3 H7 v30 v31 D7 b7 e7 => ?_⟩
                    exact ⟨_, _, rfl, rfl, 1 + v3, rfl, by omega, by omega, D7, ((b4.trans b5).trans b6).trans b7, (e7 wl hwd).trans ((e6 wl hwd).trans ((e5 wl hwd).trans hws))⟩
                  · exact ⟨1 + v, rfl, by omega, by omega, D6, (b4.trans b5).trans b6, (e6 wl hwd).trans ((e5 wl hwd).trans hws)⟩
                · rintro σ H6 ⟨sz, rfl, sz1, sz6, D6, b6, hw6⟩
                  refine ⟨_, rfl, .inl ⟨rfl, _, SqL.of hw6⟩, ⟨_, rfl⟩, _, rfl, sz, rfl, by omega, by omega, fun D' hD' => ?_⟩
                  have hD0 : H D' = none := b6.free D6.ne hD'
                  have hDd : D' ≠ d := D6.neOf hD'
                  have hDw : wl ≠ D' := ne_of_none hw6 hD'
                  refine lc_range (lo := 0) (n := sz.toNat) (fun j H7 => ∃ xs : List Nat, H7 D' = some (.lst (xs.map sg)) ∧ xs.length = j ∧ (∀ c ∈ xs, c ∈ cs) ∧ Dice K H7 d a ns ∧ But d H H7 ∧ H7 wl = some (.lst (ws.map V.str)))
                    ⟨[], upd_same, rfl, (fun c hc => nomatch hc), D6.new hD', b6.trans (But.new hD'), (upd_ne hDw).trans hw6⟩ ?_ ?_
                  · rintro j H7 hj ⟨xs, hx, hxn, hxc, D7, b7, hw7⟩
                    refine ⟨rfl, _, rfl, _, rfl, _, rfl, d, a, ns, b, rfl, D7, by omega, by omega, fun v H8 v0 v1 D8 b8 e8 => ?_⟩
                    obtain ⟨cc, hcm, hcx⟩ := pick v v0 v1
                    refine ⟨l, _, v, _, rfl, rfl, SqL.of ((b7.trans b8) l _ hld hl), hcx, xs.map sg, (e8 D' hDd).trans hx, by rw [List.length_map]; exact line_lt (by omega), xs ++ [cc], ?_, ?_, ?_, D.mut (b7.trans b8) D8 hD0, (b7.trans b8).mut hD0, ?_⟩
                    · rw [upd_same, List.map_append] <;> rfl
                    · rw [List.length_append, hxn] <;> rfl
                    · intro y hy
                      rcases List.mem_append.mp hy with hy | hy
                      · exact hxc y hy
                      · have : y = cc := by simpa using hy
                        rw [this]; exact hcm
                    · rw [upd_ne hDw]; exact (e8 wl hwd).trans hw7
                  · rintro H7 ⟨xs, hx, hxn, hxc, D7, b7, hw7⟩
                    have hsum : ((xs.map fun c => (⟨#[c]⟩ : Str)).map (·.length)).sum = xs.length := by
                      rw [List.map_map]
                      clear hx hxn hxc
                      induction xs with
                      | nil => rfl
                      | cons c r ih =>
                        rw [List.map_cons, List.sum_cons, ih, List.length_cons, Nat.add_comm] <;> rfl
                    refine ⟨_, D', xs.map fun c => (⟨#[c]⟩ : Str), rfl, rfl, .inl (SqL.of (by rw [← sg_strs]; exact hx)), ?_, ?_⟩
                    · rw [hsum]
                      show xs.length + _ * 0 ≤ 16777216
                      omega
                    · refine ⟨wl, _, _, rfl, rfl, hw7, by rw [List.length_map]; exact line_lt (by omega), ?_⟩
                      have hok : WordOk cs 6 (Txt.join ("" : Str) (xs.map fun c => (⟨#[c]⟩ : Str))) := by
                        have e : Txt.join ("" : Str) (xs.map fun c => (⟨#[c]⟩ : Str)) = Str.join Str.empty (xs.map fun c => (⟨#[c]⟩ : Str)) := StrLaws.glued_eq_join _ _
                        rw [e]
                        exact word_join (fun e => by rw [e] at hxn; simp at hxn; omega) (by omega) hxc
                      refine ⟨ws ++ [Txt.join ("" : Str) (xs.map fun c => (⟨#[c]⟩ : Str))], _, _, rfl, D.mut b7 D7 hw0, b7.mut hw0, ?_, ?_, ?_⟩
                      · rw [upd_same, List.map_append] <;> rfl
                      · rw [List.length_append, hwn] <;> rfl
                      · intro y hy
                        rcases List.mem_append.mp hy with hy | hy
                        · exact hwo y hy
                        · have : y = _ := List.mem_singleton.mp hy
                          rw [this]; exact hok
              · rintro σ H4 ⟨ws, v6, v7, rfl, D4, b4, hws, hwn, hwo⟩
                obtain ⟨w0, wr, rfl⟩ : ∃ w0 wr, ws = w0 :: wr := by
                  rcases ws with _ | ⟨w0, wr⟩
                  · simp at hwn; omega
                  · exact ⟨w0, wr, rfl⟩
                refine ⟨_, rfl, _, rfl, wl, _, rfl, SqL.of hws, fun p hp => ?_⟩
                refine ⟨p, _, rfl, .inl ⟨SqL.of upd_same, fun u hu => ?_⟩⟩
                have hwp : wl ≠ p := ne_of_none hws hp
                have hpu : p ≠ u := fun e => by
                  rw [e, upd_same] at hu
                  cases hu
                have hu4 : H4 u = none := by
                  rw [upd_ne (Ne.symm hpu)] at hu
                  exact hu
                have hwu : wl ≠ u := ne_of_none hws hu4
                refine ⟨_, rfl, wl, (w0 :: wr).map V.str, 0, V.str w0, rfl, rfl, SqL.of ?_, at_of (j := 0) rfl rfl, by show 2 ≤ sizeLine; decide, fun t ht => ?_⟩
                · rw [upd_ne hwu, upd_ne hwp]; exact hws
                · have hut : u ≠ t := ne_of_none upd_same ht
                  have ht4 : H4 t = none := by
                    rw [upd_ne (Ne.symm hut)] at ht
                    by_cases e : t = p
                    · rw [e, upd_same] at ht; cases ht
                    · rw [upd_ne e] at ht; exact ht
                  have n3 : ∀ {o o' o'' : HO}, Same H4 (upd (upd (upd H4 p o) u o') t o'') := fun b' o h => by
                    rw [upd_ne (ne_of_none h ht4), upd_ne (ne_of_none h hu4), upd_ne (ne_of_none h hp)]; exact h
                  refine k t u _ wr w0 (b4.free D4.ne ht4) (b4.free D4.ne hu4) (D4.same n3) (b4.trans (But.of n3)) upd_same ?_ ?_
                  · rw [upd_ne hut, upd_same, cutV_1 _ (by rw [List.length_map, List.length_cons]; omega)]
                    rfl
                  · have hl' : wr.length + 1 = (m + 1).toNat := hwn
                    exact ⟨by omega, fun w hw => hwo w (List.mem_cons_of_mem _ hw), hwo w0 List.mem_cons_self, fun h => by omega⟩
            · exact ⟨rfl, D3, b1.trans b3⟩
          · exact ⟨rfl, D3, b1.trans b3⟩
        · rintro σ H3 ⟨rfl, D3, b3⟩
          -- the numbers' branch
          refine ⟨_, rfl, m, rfl, by omega, by omega, fun D' hD' => ?_⟩
          have hD0 : H D' = none := b3.free D3.ne hD'
          have hDd : D' ≠ d := D3.neOf hD'
          refine lc_range (lo := 0) (n := m.toNat) (fun j H7 => ∃ xs : List Int, H7 D' = some (.lst (xs.map V.int)) ∧ xs.length = j ∧ (∀ x ∈ xs, 0 ≤ x ∧ x < limOf b) ∧ Dice K H7 d a ns ∧ But d H H7)
            ⟨[], upd_same, rfl, (fun c hc => nomatch hc), D3.new hD', b3.trans (But.new hD')⟩ ?_ ?_
          · rintro j H7 hj ⟨xs, hx, hxn, hxc, D7, b7⟩
            refine ⟨rfl, _, rfl, _, rfl, d, a, ns, limOf b, rfl, D7, l0, l30, fun v H8 v0 v1 D8 b8 e8 => ?_⟩
            refine ⟨xs.map V.int, (e8 D' hDd).trans hx, by rw [List.length_map]; exact line_lt (by omega), xs ++ [v], ?_, ?_, ?_, D.mut (b7.trans b8) D8 hD0, (b7.trans b8).mut hD0⟩
            · rw [upd_same, List.map_append] <;> rfl
            · rw [List.length_append, hxn] <;> rfl
            · intro y hy
              rcases List.mem_append.mp hy with hy | hy
              · exact hxc y hy
              · have : y = v := by simpa using hy
                rw [this]; exact ⟨v0, v1⟩
          · rintro H7 ⟨xs, hx, hxn, hxc, D7, b7⟩
            obtain ⟨s0, s6, s2⟩ := sum_lim b2 b12 hxc (by omega)
            have hl7 : H7 l = some (.lst (cs.map sg)) := b7 l _ hld hl
            refine ⟨_, rfl, D', rfl, ⟨_, SqL.of hx⟩, fun D2 hD2 => ?_⟩
            have hD2x : D' ≠ D2 := ne_of_none hx hD2
            have hD2l : l ≠ D2 := ne_of_none hl7 hD2
            refine lc_list (K := K) (a := D') (xs := xs.map V.int) (fun j H8 => ∃ ws : List Str, H8 = upd H7 D2 (.lst (ws.map V.str)) ∧ ws.length = j ∧ ∀ w ∈ ws, WordOk cs (lengthOf b) w)
              ⟨[], rfl, rfl, fun w hw => nomatch hw⟩ (fun j H8 _ ⟨ws, e, _⟩ => by rw [e]; exact SqL.of ((upd_ne hD2x).trans hx)) ?_ ?_
            · rintro j y H8 hj ⟨ws, rfl, hwn, hwo⟩
              obtain ⟨z, hz, rfl⟩ := ints_at hj
              obtain ⟨z0, z1⟩ := hxc z (List.mem_of_getElem? hz)
              have hjl : j < xs.length := (List.getElem?_eq_some_iff.mp hz).1
              have hL : 1 ≤ lengthOf b ∧ lengthOf b ≤ 4 := by unfold lengthOf; split <;> omega
              refine ⟨rfl, _, rfl, _, rfl, _, rfl, z, b, l, cs, lengthOf b, rfl, SqL.of ((upd_ne hD2l).trans hl7), hcs, b2, by omega, z0, by omega, hL.1, by omega, fun zz hzz => ?_⟩
              refine ⟨ws.map V.str, upd_same, by rw [List.length_map]; exact line_lt (by omega), ws ++ [zz], ?_, ?_, ?_⟩
              · rw [upd_upd, List.map_append] <;> rfl
              · rw [List.length_append, hwn] <;> rfl
              · intro y hy
                rcases List.mem_append.mp hy with hy | hy
                · exact hwo y hy
                · have : y = zz := by simpa using hy
                  rw [this]; exact hzz
            · rintro H8 ⟨ws, rfl, hwn, hwo⟩
              rw [List.length_map] at hwn
              refine ⟨D2, _, rfl, .inl ⟨SqL.of upd_same, fun u hu => ?_⟩⟩
              have hu2 : u ≠ D2 := fun e => by
                rw [e, upd_same] at hu
                cases hu
              have hu7 : H7 u = none := by
                rw [upd_ne hu2] at hu
                exact hu
              have sm : ∀ {o o' : HO}, Same H7 (upd (upd H7 D2 o) u o') := fun b' o h => by
                rw [upd_ne (ne_of_none h hu7), upd_ne (ne_of_none h hD2)]; exact h
              refine ⟨_, rfl, D', xs, rfl, SqL.of (sm _ _ hx), _, rfl, _, rfl, xs.sum, b, l, cs, if 6 < b then 2 else 6, rfl, SqL.of (sm _ _ hl7), hcs, b2, by omega, s0, ?_, by split <;> omega, by split <;> omega, fun tot htot => ?_⟩
              · split
                · rename_i h
                  exact s2 h (by have := mb h; omega)
                · exact s6
              · refine ⟨by show 2 ≤ sizeLine; decide, fun t ht => ?_⟩
                have hut : u ≠ t := ne_of_none upd_same ht
                have ht7 : H7 t = none := by
                  rw [upd_ne (Ne.symm hut)] at ht
                  by_cases e : t = D2
                  · rw [e, upd_same] at ht; cases ht
                  · rw [upd_ne e] at ht; exact ht
                have n3 : ∀ {o o' o'' : HO}, Same H7 (upd (upd (upd H7 D2 o) u o') t o'') := fun b' o h => by
                  rw [upd_ne (ne_of_none h ht7), upd_ne (ne_of_none h hu7), upd_ne (ne_of_none h hD2)]; exact h
                refine k t u _ ws tot (b7.free D7.ne ht7) (b7.free D7.ne hu7) (D7.same n3) (b7.trans (But.of n3)) upd_same ((upd_ne hut).trans upd_same) ?_
                have hL : lengthOf b ≤ 6 := by unfold lengthOf; split <;> omega
                refine ⟨by omega, fun w hw => (hwo w hw).mono hL, htot.mono (by split <;> omega), fun h => ?_⟩
                have e1 : lengthOf b = 1 := by unfold lengthOf; rw [if_pos h]
                rw [if_pos h] at htot
                have := mb h
                exact ⟨by omega, fun w hw => e1 ▸ hwo w hw, htot⟩
end
end WS
set_option maxRecDepth 100000
set_option maxHeartbeats 8000000
namespace WS
open PySem L2
abbrev WSum := List Str × Str
/-- a sum at t: a tuple of its addends' tuple and its total -/
def SumAt (H : Hp) (t : Addr) (s : WSum) : Prop := ∃ u, H t = some (.tup [.ref u, .str s.2]) ∧ H u = some (.tup (s.1.map V.str))
structure SumsAt (H : Hp) (ts : List Addr) (ss : List WSum) : Prop where
  len : ts.length = ss.length
  get : ∀ (i : Nat) (t : Addr) (s : WSum), ts[i]? = some t → ss[i]? = some s → SumAt H t s
theorem SumAt.same {H H' : Hp} {t : Addr} {s : WSum} (e : Same H H') (h : SumAt H t s) : SumAt H' t s := by
  obtain ⟨u, h1, h2⟩ := h
  exact ⟨u, e _ _ h1, e _ _ h2⟩
theorem SumsAt.same {H H' : Hp} {ts : List Addr} {ss : List WSum} (e : Same H H') (h : SumsAt H ts ss) : SumsAt H' ts ss := ⟨h.len, fun i t s a b => (h.get i t s a b).same e⟩
theorem tup_ne {K : PySem.W.Frag} {H : Hp} {d a u : Addr} {ns : List Int} {xs : List V} (D : Dice K H d a ns) (h : H u = some (.tup xs)) : u ≠ d := by
  obtain ⟨i, m, c, hd, _⟩ := D.ex
  exact ne_of h hd (fun z => by cases z)
theorem SumAt.but {K : PySem.W.Frag} {H H' : Hp} {d a t : Addr} {ns : List Int} {s : WSum} (D : Dice K H d a ns) (e : But d H H') (h : SumAt H t s) : SumAt H' t s := by
  obtain ⟨u, h1, h2⟩ := h
  exact ⟨u, e _ _ (tup_ne D h1) h1, e _ _ (tup_ne D h2) h2⟩
theorem SumsAt.but {K : PySem.W.Frag} {H H' : Hp} {d a : Addr} {ns : List Int} {ts : List Addr} {ss : List WSum} (D : Dice K H d a ns) (e : But d H H') (h : SumsAt H ts ss) : SumsAt H' ts ss := ⟨h.len, fun i t s a b => (h.get i t s a b).but D e⟩
theorem SumAt.mut {H H' : Hp} {t p : Addr} {s : WSum} {o : HO} (h : SumAt H t s) (hp : ∃ xs, H p = some (.lst xs)) : SumAt (upd H p o) t s := by
  obtain ⟨u, h1, h2⟩ := h
  obtain ⟨xs, hp⟩ := hp
  exact ⟨u, (upd_ne (ne_of h1 hp (fun z => by cases z))).trans h1, (upd_ne (ne_of h2 hp (fun z => by cases z))).trans h2⟩
theorem SumsAt.mut {H : Hp} {p : Addr} {ts : List Addr} {ss : List WSum} {o : HO} (h : SumsAt H ts ss) (hp : ∃ xs, H p = some (.lst xs)) : SumsAt (upd H p o) ts ss := ⟨h.len, fun i t s a b => (h.get i t s a b).mut (H' := H) hp⟩
theorem SumsAt.snoc {H : Hp} {ts : List Addr} {ss : List WSum} {t : Addr} {s : WSum} (h : SumsAt H ts ss) (ht : SumAt H t s) : SumsAt H (ts ++ [t]) (ss ++ [s]) := by
  refine ⟨by rw [List.length_append, List.length_append, h.len] <;> rfl, fun i t' s' a b => ?_⟩
  by_cases hi : i < ts.length
  · rw [List.getElem?_append_left hi] at a
    rw [List.getElem?_append_left (h.len ▸ hi)] at b
    exact h.get i t' s' a b
  · rw [List.getElem?_append_right (by omega)] at a
    rw [List.getElem?_append_right (by have := h.len; omega)] at b
    rw [← h.len] at b
    rcases hj : i - ts.length with _ | j
    · rw [hj] at a b
      have e1 : t = t' := Option.some.inj a
      have e2 : s = s' := Option.some.inj b
      rw [← e1, ← e2]; exact ht
    · rw [hj] at a; simp at a
theorem SumsAt.append {H : Hp} {ts ts' : List Addr} {ss ss' : List WSum} (h : SumsAt H ts ss) (h' : SumsAt H ts' ss') : SumsAt H (ts ++ ts') (ss ++ ss') := by
  refine ⟨by rw [List.length_append, List.length_append, h.len, h'.len], fun i t s a b => ?_⟩
  by_cases hi : i < ts.length
  · rw [List.getElem?_append_left hi] at a
    rw [List.getElem?_append_left (h.len ▸ hi)] at b
    exact h.get i t s a b
  · rw [List.getElem?_append_right (by omega)] at a
    rw [List.getElem?_append_right (by have := h.len; omega)] at b
    rw [← h.len] at b
    exact h'.get _ t s a b
/-- a sheet that is drawn -/
structure SheetOk (b : Int) (ss : List WSum) : Prop where
  b2 : 2 ≤ b
  b12 : b ≤ 12
  few : 1 ≤ ss.length ∧ ss.length ≤ 3
  cs : ∃ cs, NamesOk cs b ∧ ∀ s ∈ ss, SumOk cs b s.1 s.2
  big : 6 < b → ss.length = 1
theorem two_at {x y : V} (c : Bool) : atI [x, y] (if c = true then 1 else 0) = some (if c = true then y else x) := by
  cases c <;> rfl
theorem four_at {j : Nat} (h : j < 4) : ∃ s : Int, ([V.int 0, .int 0, .int 1, .int 2])[j]? = some (.int s) ∧ 0 ≤ s ∧ s ≤ 2 := by
  rcases j with _ | _ | _ | _ | j
  · exact ⟨0, rfl, by decide⟩
  · exact ⟨0, rfl, by decide⟩
  · exact ⟨1, rfl, by decide⟩
  · exact ⟨2, rfl, by decide⟩
  · omega
/-- _law_sheet(d) -/
def spSheet (K : PySem.W.Frag) : Sp := fun vs H Q _ => ∃ (d a : Addr) (ns : List Int), vs = [.ref d] ∧ Dice K H d a ns ∧
  ∀ (t sl : Addr) (ts : List Addr) (H' : Hp) (b : Int) (ss : List WSum), H t = none → H sl = none → Dice K H' d a ns → But d H H' → H' t = some (.tup [.int b, .ref sl]) → H' sl = some (.lst (ts.map V.ref)) → SumsAt H' ts ss → SheetOk b ss → Q (.ref t) H'
section
variable {P : Program} {w : World} {K : PySem.W.Frag} {mg : Str → Option Value} {base : Heap}
theorem scSheet : FnScope ["_law_d", "_law_base", "_law_names_here", "_law_sums", "_law_k"] ["_law_d"] (defScope sSheet) := ⟨rfl, rfl, rfl, by decide +kernel, rfl, by decide +kernel, by decide +kernel⟩
theorem ok_sheet {f fN fM fS : Addr} {fd fdN fdM fdS : FuncData} (F : Fun K "_law_sheet" "_law_sheet" sSheet f fd) (z_range : mg "range" = none) (z_int : mg "int" = none)
    (S__law_next : Site K mg "_law_next" fN fdN ["_law_dice_here", "_law_many"]) (G__law_next : FnOk P w K mg base CX0 1 fN fdN ["_law_dice_here", "_law_many"] (spNext K))
    (S__law_names : Site K mg "_law_names" fM fdM ["_law_d", "_law_base"]) (G__law_names : FnOk P w K mg base CX0 2 fM fdM ["_law_d", "_law_base"] (spNames K))
    (S__law_sum : Site K mg "_law_sum" fS fdS ["_law_d", "_law_base", "_law_names_here"]) (G__law_sum : FnOk P w K mg base CX0 2 fS fdS ["_law_d", "_law_base", "_law_names_here"] (spSum K)) :
    FnOk P w K mg base CX0 3 f fd ["_law_d"] (spSheet K) := by
  refine F.ok scSheet (fun vs H Q E h => ?_) (fun cdv A outer s H vs Q E hr h => ?_)
  · obtain ⟨d, a, ns, rfl, _⟩ := h
    rfl
  · obtain ⟨d, a, ns, rfl, D, k⟩ := h
    have nd := scSheet.nd
    have hr__law_next : Room 1 _ := hr.mono (by decide)
    have hr__law_names := hr
    have hr__law_sum := hr
    refine ⟨_, (pss_cons (ps_set (i := 1) nd rfl (.inr rfl) (pe_ix (r := rIxL K) ix_list (pe_lst (pa_cons (pe_op op_add pe_int (pe_call G__law_next hr__law_next (by rfl) S__law_next.g S__law_next.k S__law_next.b .nil pass0 (pa_cons (pv 0) (pa_cons pe_int pa_nil)))) (pa_cons (pe_op op_add pe_int (pe_call G__law_next hr__law_next (by rfl) S__law_next.g S__law_next.k S__law_next.b .nil pass0 (pa_cons (pv 0) (pa_cons pe_int pa_nil)))) pa_nil))) (pe_callTy call_int1 (by rfl) z_int (by decide +kernel) (pa_cons (pe_cmpR op_eq (pe_call G__law_next hr__law_next (by rfl) S__law_next.g S__law_next.k S__law_next.b .nil pass0 (pa_cons (pv 0) (pa_cons pe_int pa_nil))) pe_int (nomark _)) pa_nil)) (fun _ _ => rfl)))
      (pss_cons (ps_set (i := 2) nd rfl (.inr rfl) (pe_call G__law_names hr__law_names (by rfl) S__law_names.g S__law_names.k S__law_names.b .nil pass0 (pa_cons (pv 0) (pa_cons (pv 1) pa_nil))))
      (pss_cons (ps_set (i := 3) nd rfl (.inl rfl) (pe_lst (pa_cons (pe_call G__law_sum hr__law_sum (by rfl) S__law_sum.g S__law_sum.k S__law_sum.b .nil pass0 (pa_cons (pv 0) (pa_cons (pv 1) (pa_cons (pv 2) pa_nil)))) pa_nil)))
      (Evl.pss_cut (ps_if (pt_cmpR op_lt (pv 1) pe_int (nomark _)) (pss_one (ps_set (i := 3) nd rfl (.inl rfl) (pe_op op_cat (pv 3) (pe_lc (own := [("_law_k", 4)]) (g := (gName 4)) (tt := tYes) rfl nd (pi_range1 (by rfl) z_range (pa_cons (pe_ix (r := rIxL K) ix_list (pe_lst (pa_cons pe_int (pa_cons pe_int (pa_cons pe_int (pa_cons pe_int pa_nil))))) (pe_call G__law_next hr__law_next (by rfl) S__law_next.g S__law_next.k S__law_next.b .nil pass0 (pa_cons (pv 0) (pa_cons pe_int pa_nil))) (fun _ _ => rfl)) pa_nil)) (blkOk_by (own := [("_law_k", 4)]) (N := ["_law_d", "_law_base", "_law_names_here", "_law_sums", "_law_k"]) (sc := defScope sSheet) (by decide +kernel)) (fun _ _ _ _ _ => (pg_name (i := 4) nd rfl (.inl rfl))) (fun _ _ _ _ _ => pts_nil) (fun _ _ _ _ _ => (pe_call G__law_sum hr__law_sum (by rfl) S__law_sum.g S__law_sum.k S__law_sum.b .nil pass0 (pa_cons (pv 0) (pa_cons (pv 1) (pa_cons (pv 2) pa_nil))))))))) pss_nil)
      (pss_one (ps_ret (pe_tup (pa_cons (pv 1) (pa_cons (pv 3) pa_nil))))))))), ?_⟩
    refine ⟨_, rfl, d, a, ns, 5, rfl, D, by decide, by decide, fun v1 H1 v10 v11 D1 b1 _ => ?_⟩
    refine ⟨_, _, rfl, rfl, _, rfl, d, a, ns, 6, rfl, D1, by decide, by decide, fun v2 H2 v20 v21 D2 b2 _ => ?_⟩
    refine ⟨_, _, rfl, rfl, by show 2 ≤ sizeLine; decide, fun q hq => ?_⟩
    refine ⟨_, rfl, d, a, ns, 6, rfl, D2.new hq, by decide, by decide, fun v3 H3 v30 v31 D3 b3 e3 => ?_⟩
    refine ⟨rfl, .inr ⟨_, rfl, q, _, _, _, rfl, rfl, SqL.of ((e3 q (D2.neOf hq)).trans upd_same), two_at _, ?_⟩⟩
    obtain ⟨b, hb, b2', b12⟩ : ∃ b : Int, (if decide (V.int v3 = V.int 5) = true then V.int (7 + v2) else V.int (2 + v1)) = V.int b ∧ 2 ≤ b ∧ b ≤ 12 := by
      split
      · exact ⟨_, rfl, by omega, by omega⟩
      · exact ⟨_, rfl, by omega, by omega⟩
    rw [hb]
    have b4 : But d H H3 := ((b1.trans b2).trans (But.new hq)).trans b3
    refine ⟨_, rfl, _, rfl, d, a, ns, b, rfl, D3, b2', b12, fun l H4 cs hl0 D4 b5 hl N => ?_⟩
    refine ⟨_, rfl, _, rfl, _, rfl, d, a, ns, b, l, cs, rfl, D4, b2', b12, hl, N.len, fun t1 u1 H5 ws1 tot1 ht1 hu1 D5 b6 h51 h52 ok1 => ?_⟩
    have b7 : But d H H5 := (b4.trans b5).trans b6
    have hld := names_off D4 hl
    refine ⟨by show 1 ≤ sizeLine; decide, fun sl hsl => ?_⟩
    have hsl0 : H sl = none := b7.free D5.ne hsl
    have hsld : sl ≠ d := D5.neOf hsl
    refine ⟨fun σ H6 => ∃ (sl' : Addr) (ts : List Addr) (ss : List WSum), σ = [some (.ref d), some (.int b), some (.ref l), some (.ref sl'), none] ∧ H sl' = none ∧ Dice K H6 d a ns ∧ But d H H6 ∧ H6 sl' = some (.lst (ts.map V.ref)) ∧ SumsAt H6 ts ss ∧ SheetOk b ss, ?_, ?_⟩
    · have sat1 : SumsAt (upd H5 sl (.lst [.ref t1])) [t1] [(ws1, tot1)] := ⟨rfl, fun i t s h1 h2 => by
        rcases i with _ | i
        · have e1 : t1 = t := Option.some.inj h1
          have e2 : (ws1, tot1) = s := Option.some.inj h2
          rw [← e1, ← e2]
          exact SumAt.same (Same.new hsl) ⟨u1, h51, h52⟩
        · simp at h1⟩
      refine ⟨_, rfl, _, _, rfl, rfl, _, rfl, ite2 (fun hb7 => ?_) (fun hb7 => ?_)⟩
      · have hb7' : b < 7 := of_decide_eq_true hb7
        refine ⟨_, rfl, by show 4 ≤ sizeLine; decide, fun q2 hq2 => ?_⟩
        have D6 : Dice K (upd H5 sl (.lst [.ref t1])) d a ns := D5.new hsl
        refine ⟨_, rfl, d, a, ns, 4, rfl, D6.new hq2, by decide, by decide, fun v4 H7 v40 v41 D7 b8 e8 => ?_⟩
        obtain ⟨mm, hmm, m0, m2⟩ := four_at (j := v4.toNat) (by omega)
        refine ⟨q2, _, v4, _, rfl, rfl, SqL.of ((e8 q2 (D6.neOf hq2)).trans upd_same), at_of (j := v4.toNat) (by omega) hmm, mm, rfl, by omega, by omega, fun D' hD' => ?_⟩
        have b9 : But d (upd H5 sl (.lst [.ref t1])) H7 := (But.new hq2).trans b8
        have b9' : But d H H7 := (b7.trans (But.new hsl)).trans b9
        have hD0 : H D' = none := b9'.free D7.ne hD'
        have hsl7 : H7 sl = some (.lst [.ref t1]) := b9 sl _ hsld upd_same
        have hslD : sl ≠ D' := ne_of_none hsl7 hD'
        refine lc_range (lo := 0) (n := mm.toNat) (fun j H8 => ∃ (ts : List Addr) (ss : List WSum), H8 D' = some (.lst (ts.map V.ref)) ∧ SumsAt H8 ts ss ∧ ss.length = j ∧ (∀ s ∈ ss, SumOk cs b s.1 s.2) ∧ Dice K H8 d a ns ∧ But d H H8 ∧ But d H7 H8)
          ⟨[], [], upd_same, ⟨rfl, fun i t s h => by simp at h⟩, rfl, (fun s hs => nomatch hs), D7.new hD', b9'.trans (But.new hD'), But.new hD'⟩ ?_ ?_
        · rintro j H8 hj ⟨ts, ss, hx, hsa, hsn, hso, D8, b10, b10'⟩
          have hl8 : H8 l = some (.lst (cs.map sg)) := b10' l _ hld (b9 l _ hld (by
            have : l ≠ sl := ne_of_none (b6 l _ hld hl) hsl
            rw [upd_ne this]; exact b6 l _ hld hl))
          refine ⟨rfl, _, rfl, _, rfl, _, rfl, d, a, ns, b, l, cs, rfl, D8, b2', b12, hl8, N.len, fun t2 u2 H9 ws2 tot2 ht2 hu2 D9 b11 h91 h92 ok2 => ?_⟩
          have hDd : D' ≠ d := D7.neOf hD'
          refine ⟨ts.map V.ref, b11 D' _ hDd hx, by rw [List.length_map, hsa.len]; exact line_lt (by omega), ts ++ [t2], ss ++ [(ws2, tot2)], ?_, ?_, ?_, ?_, D.mut (b10.trans b11) D9 hD0, (b10.trans b11).mut hD0, (b10'.trans b11).mut hD'⟩
          · rw [upd_same, List.map_append] <;> rfl
          · exact ((hsa.but D8 b11).snoc ⟨u2, h91, h92⟩).mut ⟨_, b11 D' _ hDd hx⟩
          · rw [List.length_append, hsn] <;> rfl
          · intro s hs
            rcases List.mem_append.mp hs with hs | hs
            · exact hso s hs
            · have : s = (ws2, tot2) := by simpa using hs
              rw [this]; exact ok2
        · rintro H8 ⟨ts, ss, hx, hsa, hsn, hso, D8, b10, b10'⟩
          have hsl8 : H8 sl = some (.lst [.ref t1]) := b10' sl _ hsld hsl7
          refine ⟨_, _, _, _, rfl, rfl, hsl8, hx, ?_, fun p hp => ?_⟩
          · have := hsa.len
            rw [List.length_map]
            exact line_of (by show 1 + ts.length ≤ 1000000; omega)
          · refine ⟨p, t1 :: ts, (ws1, tot1) :: ss, rfl, b10.free D8.ne hp, D8.new hp, b10.trans (But.new hp), upd_same, ?_, ?_⟩
            · have z : SumsAt H8 [t1] [(ws1, tot1)] := (sat1.but D6 (b9)).but D7 b10'
              exact SumsAt.same (Same.new hp) (SumsAt.append z hsa)
            · exact ⟨b2', b12, by rw [List.length_cons]; omega, ⟨cs, N, fun s hs => by
                rcases List.mem_cons.mp hs with rfl | hs
                · exact ok1
                · exact hso s hs⟩, fun h => by omega⟩
      · exact ⟨sl, [t1], [(ws1, tot1)], rfl, hsl0, D5.new hsl, b7.trans (But.new hsl), upd_same, sat1, ⟨b2', b12, ⟨Nat.le_refl _, by show 1 ≤ 3; omega⟩, ⟨cs, N, fun s hs => by
          have : s = (ws1, tot1) := by simpa using hs
          rw [this]; exact ok1⟩, fun _ => rfl⟩⟩
    · rintro σ H6 ⟨sl', ts, ss, rfl, hsl', D6, b6, hs6, hsa, ok⟩
      refine ⟨_, rfl, _, rfl, by show 2 ≤ sizeLine; decide, fun t ht => ?_⟩
      exact k t sl' ts _ b ss (b6.free D6.ne ht) hsl' (D6.new ht) (b6.trans (But.new ht)) upd_same ((upd_ne (ne_of_none hs6 ht)).trans hs6) (hsa.same (Same.new ht)) ok
end
end WS
set_option maxRecDepth 100000
set_option maxHeartbeats 8000000
namespace SetT
open PySem PySem.Spec PyProof.Rows
/-- the signs of a text that are met first, in their order -/
def addS (xs : List Str) (x : Str) : List Str := if xs.any (· == x) = true then xs else xs ++ [x]
def sign (c : Nat) : Str := ⟨#[c]⟩
def metS (cs : List Nat) : List Str := cs.foldl (fun a c => addS a (sign c)) []
theorem metS_snoc (cs : List Nat) (c : Nat) : metS (cs ++ [c]) = addS (metS cs) (sign c) := by
  unfold metS; rw [List.foldl_append] <;> rfl
theorem addS_le (xs : List Str) (x : Str) : (addS xs x).length ≤ xs.length + 1 := by
  unfold addS; split
  · omega
  · rw [List.length_append] <;> exact Nat.le_refl _
theorem metS_le (cs : List Nat) : (metS cs).length ≤ cs.length := by
  have : ∀ (r : List Nat) (a : List Str), (r.foldl (fun a c => addS a (sign c)) a).length ≤ a.length + r.length := by
    intro r
    induction r with
    | nil => intro a; exact Nat.le_refl _
    | cons c r ih =>
      intro a
      have h1 := ih (addS a (sign c))
      have h2 := addS_le a (sign c)
      rw [List.foldl_cons, List.length_cons]
      omega
  have h := this cs []
  simpa [metS] using h
theorem addS_any (xs : List Str) (v k : Str) : (addS xs v).any (· == k) = (xs.any (· == k) || decide (k = v)) := by
  unfold addS
  by_cases h : xs.any (· == v) = true
  · rw [if_pos h]
    by_cases e : k = v
    · subst e; rw [h]; simp
    · simp [e]
  · rw [if_neg h, List.any_append]
    by_cases e : k = v
    · subst e; simp
    · have hb : (v == k) = false := by simpa [beq_iff_eq] using (fun h' : v = k => e h'.symm)
      simp [hb, e]
theorem addS_len (xs : List Str) (v : Str) : (addS xs v).length = if xs.any (· == v) then xs.length else xs.length + 1 := by
  unfold addS; split <;> simp
section
variable {prog : Program} {w : World} {A : Around} {R : Result → Shared → Prop} {I : Addr} {fp wr : List Addr} {G : Array GenState → Array GenState → Prop} {n : Nat} {St : Nat → Shared → Prop}
theorem loopT {x : Str} (W : WalksS prog w A.in1 I fp wr G n (SignAt x) St) (S : Addr) (hSf : S ∉ fp) (hn : x.cps.size = n) (hb : n + 1 < scanBound) :
    ∀ (k i : Nat) (s : Shared), n - i = k → i ≤ n → St i s →
      s.heap.SetOf (PySem.strKind prog w) S (fun k' => (metS (x.cps.toList.take i)).any (· == k')) (metS (x.cps.toList.take i)).length →
      (∀ s', Moved (S :: wr) G s s' → s'.heap.SetOf (PySem.strKind prog w) S (fun k' => (metS x.cps.toList).any (· == k')) (metS x.cps.toList).length → R (.ok (.ret .none)) s') →
      codeAny (model prog w) A (.builtin "set.update.loop" ⟨[.ref S, .ref I], []⟩) R s := by
  have hSw : S ∉ wr := fun h => hSf (W.sub _ h)
  have hsub : ∀ b ∈ wr, b ∈ S :: wr := fun b hb => List.mem_cons_of_mem _ hb
  intro k
  induction k with
  | zero =>
    intro i s hk hi hst hS hR
    have hin : i = n := by omega
    subst hin
    refine codeAny_builtin PyProof.Rows.F.entry_set_update_loop ?_
    rw [Around.under_plainId PyProof.Rows.F.plain_set_update_loop _]
    show wpAny _ A.in1 (pyNext (.ref I) >>= _) _ _ s
    refine wpAny_bind (W.done s _ _ hst fun s' hm => ?_)
    show wpAny _ A.in1 (ret Value.none) _ _ s'
    have e : x.cps.toList.take i = x.cps.toList := List.take_of_length_le (by rw [Array.length_toList, hn] <;> exact Nat.le_refl _)
    rw [e] at hS
    exact wpAny_pure (hR s' (hm.mono hsub) (by
      obtain ⟨o, es, ep, t, ho, rest⟩ := hS
      exact ⟨o, es, ep, t, hm.heap S _ hSw ho, rest⟩))
  | succ k ih =>
    intro i s hk hi hst hS hR
    have hlt : i < n := by omega
    refine codeAny_builtin PyProof.Rows.F.entry_set_update_loop ?_
    rw [Around.under_plainId PyProof.Rows.F.plain_set_update_loop _]
    show wpAny _ A.in1 (pyNext (.ref I) >>= _) _ _ s
    refine wpAny_bind (W.item i s _ _ hlt hst fun v s' hP hst' hm => ?_)
    obtain ⟨c, t, hc, rfl⟩ := hP
    have hcl : x.cps.toList.take (i + 1) = x.cps.toList.take i ++ [c] := by
      rw [List.take_add_one, Array.getElem?_toList, hc] <;> rfl
    have hS' : s'.heap.SetOf (PySem.strKind prog w) S (fun k' => (metS (x.cps.toList.take i)).any (· == k')) (metS (x.cps.toList.take i)).length := by
      obtain ⟨o, es, ep, tb, ho, rest⟩ := hS
      exact ⟨o, es, ep, tb, hm.heap S _ hSw ho, rest⟩
    show wpAny _ A.in1 (holding [Value.str (sign c) t] (setAdd S (.str (sign c) t)) >>= _) _ _ s'
    refine wpAny_bind (wpAny_holding ?_)
    unfold setAdd
    refine wpAny_holding ?_
    refine wpAny_bind ((PySem.strKind prog w).pyHash (k := sign c) (strKind_is _ _ _ _) ?_)
    have hroom : (metS (x.cps.toList.take i)).length + 1 < scanBound := by
      have h1 := metS_le (x.cps.toList.take i)
      rw [List.length_take] at h1
      omega
    refine wpAny_setAddHashed_of (knd := PySem.strKind prog w) (s := { s' with toks := s'.toks + 1 }) (strKind_is _ _ _ _) rfl hS' hroom fun h' hsb hS2 => ?_
    have hSi : h'.SetOf (PySem.strKind prog w) S (fun k' => (metS (x.cps.toList.take (i + 1))).any (· == k')) (metS (x.cps.toList.take (i + 1))).length :=
      SetOf_congr hS2 (fun k' => by rw [hcl, metS_snoc, addS_any]) (by rw [hcl, metS_snoc, addS_len])
    refine wpAny_pure ⟨plainId_quiet PyProof.Rows.F.plain_set_update_loop _, ih (i + 1) _ (by omega) hlt (W.frame _ s' _ _ hst' (Nat.le_succ _) fun b hb o e => ?_) hSi fun s'' hm'' hS'' => ?_⟩
    · rw [hsb.2 b (fun h : b = S => hSf (by rw [← h]; exact hb))]; exact e
    · refine hR s'' (Moved.trans W.gtrans ((hm.mono hsub).then_heap (Nat.le_succ _) fun b o hb e => ?_) hm'') hS''
      rw [hsb.2 b (fun h : b = S => hb (by rw [h]; exact List.mem_cons_self))]; exact e
end
section
variable {prog : Program} {w : World} {A : Around} {E : Value → Shared → Prop} {s : Shared}
theorem call_set_text {x : Str} {tx : Tok} {Q : Value → Shared → Prop} (hh : A.handled = none) (hb : x.cps.size + 1 < scanBound)
    (h : ∀ (h' : Heap) (tk : Nat), h'.SetOf (PySem.strKind prog w) s.heap.objs.size (fun k' => (metS x.cps.toList).any (· == k')) (metS x.cps.toList).length →
      (∀ b o, b < s.heap.objs.size → s.heap.get? b = some o → h'.get? b = some o) → Q (.ref s.heap.objs.size) { s with heap := h', toks := tk }) :
    wpAny (model prog w) A (call (.type "set") [.str x tx]) Q E s := by
  obtain ⟨c, tl, hmro⟩ := PySem.F.called_set.mro
  have hmade := PySem.F.called_set.made
  have hsub := PySem.F.called_set.sub
  refine wpAny_call (codeAny_of_tree ?_)
  show wpAny _ _ (callAny (.type "set") _) _ _ _
  refine wpAny_pure ⟨Code.quiet_builtin _ (by decide +kernel), codeAny_builtin PySem.F.entry_type_call ?_⟩
  rw [Around.under_plain (weight_type_call_type "set" [.str x tx] []) rfl]
  have h1 := PySem.F.called_set.notType
  have h2 := PySem.F.called_set.canCreate
  have hct := PySem.F.typeCall_set_1 (.str x tx)
  repeat (any_goals (first | assumption | wp_step))
  refine codeAny_mono (code_set_new_1 (.str x tx) (E := E) (Q₁ := fun obj s₁ => ∃ led : Bool, obj = .ref s.heap.objs.size ∧ s₁ = { s with heap := s.heap.push { cls := .type "set", dict := none, data := .set #[] 0 (.fresh 0 0 led) } }) fun led => ⟨led, rfl, rfl⟩) fun r s₁ hr => ?_
  cases r with
  | error e => exact hr
  | ok fl =>
    cases fl with
    | ret obj =>
      obtain ⟨led, rfl, rfl⟩ := hr
      have hS : (s.heap.push { cls := .type "set", dict := none, data := .set #[] 0 (.fresh 0 0 led) }).get? s.heap.objs.size = some { cls := .type "set", dict := none, data := .set #[] 0 (.fresh 0 0 led) } := Heap.get?_push_size _ rfl
      have hT : Shared.TypeIs { s with heap := s.heap.push { cls := .type "set", dict := none, data := .set #[] 0 (.fresh 0 0 led) } } (.ref s.heap.objs.size) "set" := ⟨_, hS, rfl⟩
      have hli := PySem.F.called_set.init.lookup
      have hbi := PySem.F.called_set.init.bind (.ref s.heap.objs.size)
      repeat (any_goals (first | assumption | wp_step))
      refine codeAny_mono (codeAny_call_builtin (R := wants (fun r s₂ => r = .none ∧ ∃ h' tk, s₂ = { s with heap := h', toks := tk } ∧
          h'.SetOf (PySem.strKind prog w) s.heap.objs.size (fun k' => (metS x.cps.toList).any (· == k')) (metS x.cps.toList).length ∧
          (∀ b o, b < s.heap.objs.size → s.heap.get? b = some o → h'.get? b = some o)) E) PySem.F.called_set.init.plain PySem.F.entry_set_init (check_set_init_1 hT ?_)) fun r₂ s₂ hr₂ => ?_
      · have hsls := PySem.F.sub_str_set
        have hslf := PySem.F.sub_str_frozenset
        have hne : (Value.type "str" == Value.type "dict") = false := by decide
        unfold Builtin.«set.__init__» noKeywords Builtin.Frozenset.updateFrom
        generalize hPI : pyIter = PI
        wp_walk
        subst hPI
        refine wpAny_pyIter_str fun o St W hst => ?_
        refine wpAny_bind (wpAny_runValue ?_)
        have hh3 : A.in1.in1.in1.handled = none := by simp [hh]
        have hSf : s.heap.objs.size ∉ [(s.heap.push { cls := .type "set", dict := none, data := .set #[] 0 (.fresh 0 0 led) }).objs.size] := by
          rw [Heap.size_push]; simp only [List.mem_singleton]
          exact Nat.ne_of_lt (Nat.lt_succ_self _)
        refine loopT (W _ hh3).toS s.heap.objs.size
          hSf rfl hb (x.cps.size - 0) 0 _ (by omega) (Nat.zero_le _) hst ?hS0 ?hR
        case hS0 =>
          have hget : ((s.heap.push { cls := .type "set", dict := none, data := .set #[] 0 (.fresh 0 0 led) }).push o).get? s.heap.objs.size
              = some { cls := .type "set", dict := none, data := .set #[] 0 (.fresh 0 0 led) } := Heap.get?_push_of_some _ hS
          exact PyProof.Rows.SetOf_congr ((PyProof.Rows.setObjOf_fresh (knd := PySem.strKind prog w) led).setOf hget (by unfold scanBound; omega)) (fun _ => rfl) rfl
        case hR =>
          intro s' hm hS'
          obtain ⟨h', g', d', tk', os'⟩ := s'
          have eg : g' = s.gens := hm.gens
          have ed : d' = s.drawn := hm.drawn
          have eo : os' = s.os := hm.os
          subst eg; subst ed; subst eo
          show wpAny _ _ _ _ _ _
          refine wpAny_pure ?_
          show wpAny _ _ (ret Value.none) _ _ _
          refine wpAny_pure ⟨rfl, h', tk', rfl, hS', fun b o' hb e => ?_⟩
          have hb1 : b ≠ s.heap.objs.size := Nat.ne_of_lt hb
          have hb2 : b ≠ (s.heap.push { cls := .type "set", dict := none, data := .set #[] 0 (.fresh 0 0 led) }).objs.size := by
            rw [Heap.size_push]; exact Nat.ne_of_lt (Nat.lt_succ_of_lt hb)
          exact hm.heap b o' (by simp only [List.mem_cons, List.mem_singleton, List.not_mem_nil, or_false, not_or]; exact ⟨hb1, hb2⟩) (Heap.get?_push_of_some _ (Heap.get?_push_of_some _ e))
      · cases r₂ with
        | error e => exact hr₂
        | ok fl₂ =>
          cases fl₂ with
          | ret r =>
            obtain ⟨rfl, h', tk, rfl, hS', hk'⟩ := hr₂
            repeat (any_goals (first | assumption | wp_step))
            exact h _ _ hS' hk'
          | _ => exact hr₂.elim
    | _ => exact hr.elim
end
end SetT
set_option maxRecDepth 100000
set_option maxHeartbeats 4000000
namespace SetT
open PySem PySem.Spec PyProof.Rows L2
theorem nodup_le {α : Type} [DecidableEq α] : ∀ {l m : List α}, l.Nodup → (∀ x ∈ l, x ∈ m) → l.length ≤ m.length
  | [], _, _, _ => Nat.zero_le _
  | a :: r, m, hn, hs => by
    have ha : a ∈ m := hs a List.mem_cons_self
    have hr := nodup_le (l := r) (m := m.erase a) (List.nodup_cons.mp hn).2 fun x hx => by
      have hxa : x ≠ a := fun e => (List.nodup_cons.mp hn).1 (e ▸ hx)
      exact (List.mem_erase_of_ne hxa).mpr (hs x (List.mem_cons_of_mem _ hx))
    rw [List.length_erase_of_mem ha] at hr
    have := List.length_pos_of_mem ha
    rw [List.length_cons]
    omega
theorem any_mem {xs : List Str} {x : Str} : xs.any (· == x) = true ↔ x ∈ xs := by
  rw [List.any_eq_true]
  constructor
  · rintro ⟨y, hy, e⟩
    have : y = x := eq_of_beq e
    exact this ▸ hy
  · intro h
    exact ⟨x, h, beq_self_eq_true x⟩
theorem addS_nodup {xs : List Str} {x : Str} (h : xs.Nodup) : (addS xs x).Nodup := by
  unfold addS
  split
  · exact h
  · rename_i hx
    rw [List.nodup_append]
    refine ⟨h, by simp, fun a ha b hb e => hx (any_mem.mpr ?_)⟩
    have : b = x := by simpa using hb
    rw [← this, ← e]; exact ha
theorem addS_mem {xs : List Str} {x y : Str} (h : y ∈ addS xs x) : y ∈ xs ∨ y = x := by
  unfold addS at h
  split at h
  · exact .inl h
  · rcases List.mem_append.mp h with h | h
    · exact .inl h
    · exact .inr (by simpa using h)
theorem metS_ok : ∀ (cs : List Nat), (metS cs).Nodup ∧ ∀ y ∈ metS cs, ∃ c ∈ cs, y = sign c := by
  have : ∀ (r : List Nat) (a : List Str), a.Nodup → (r.foldl (fun a c => addS a (sign c)) a).Nodup ∧ ∀ y ∈ r.foldl (fun a c => addS a (sign c)) a, y ∈ a ∨ ∃ c ∈ r, y = sign c := by
    intro r
    induction r with
    | nil => intro a h; exact ⟨h, fun y hy => .inl hy⟩
    | cons c r ih =>
      intro a h
      obtain ⟨h1, h2⟩ := ih (addS a (sign c)) (addS_nodup h)
      refine ⟨h1, fun y hy => ?_⟩
      rcases h2 y hy with h3 | ⟨d, hd, e⟩
      · rcases addS_mem h3 with h4 | h4
        · exact .inl h4
        · exact .inr ⟨c, List.mem_cons_self, h4⟩
      · exact .inr ⟨d, List.mem_cons_of_mem _ hd, e⟩
  intro cs
  obtain ⟨h1, h2⟩ := this cs [] List.nodup_nil
  refine ⟨h1, fun y hy => ?_⟩
  rcases h2 y hy with h | h
  · cases h
  · exact h
/-- a text of letters of cs has at most as many unlike signs -/
theorem metS_few {xs cs : List Nat} (h : ∀ c ∈ xs, c ∈ cs) : (metS xs).length ≤ cs.length := by
  obtain ⟨h1, h2⟩ := metS_ok xs
  have := nodup_le (m := cs.map sign) h1 fun y hy => by
    obtain ⟨c, hc, e⟩ := h2 y hy
    exact List.mem_map.mpr ⟨c, h c hc, e.symm⟩
  rwa [List.length_map] at this
/-- len(set(e)), e a text -/
def tLenSetT (ta : TE) : TE := fun σ H Q => ta σ H fun x H1 => ∃ z : Str, x = .str z ∧ z.length ≤ 4000 ∧ Q (.int ((metS z.cps.toList).length : Nat)) H1
theorem pe_lenSetT {X : Cx} {a : Expr} {ta : TE} {p p2 q pos : Pos} (hg : Gl X "len") (hm : X.mg "len" = none) (hg2 : Gl X "set") (hm2 : X.mg "set" = none) (ha : PE X a ta) (hc : X.calm = true := by rfl)
    (na : starEach [a] X.env = (false, eval a X.env) :: starEach [] X.env := by rfl) : PE X (.Call (.Name "len" p) [.Call (.Name "set" p2) [a] [] q] [] pos) (tLenSetT ta) := by
  refine ⟨fun pins s σ H Q I h => ?_⟩
  refine Call_ (ld_blt I hg hm boot_len ?_)
  refine PyProof.Rows.callWith_builtin1 (PyProof.Rows.args_cons ?_ rfl) rfl rfl
  refine Call_ (ld_blt I hg2 hm2 boot_set ?_)
  refine PyProof.Rows.callWith_type1 (PyProof.Rows.args_cons (thn (ha.run pins s σ H _ I h) fun v s1 ⟨x, H1, I1, r1, q1⟩ => PyProof.Rows.args_nil ?_) na) na rfl
  obtain ⟨z, rfl, hl, q1⟩ := q1
  obtain ⟨t, rfl⟩ := r1
  have hz : z.cps.size ≤ 4000 := hl
  refine call_set_text (I1.ok.hd hc) (by unfold scanBound; omega) fun h' tk hS hk => ?_
  refine PyProof.Rows.args_nil ?_
  obtain ⟨o, es, ep, t, ho, hex, hd, _, _, _, hf, hn⟩ := hS
  have I2 : Inv X pins σ H1 { s1 with heap := h', toks := tk } := I1.kept fun b o e => hk b o (Heap.lt_size e) e
  have hle := metS_le z.cps.toList
  have hz2 : z.cps.toList.length = z.cps.size := Array.length_toList
  have hz3 : ((metS z.cps.toList).length : Int) < 2 ^ 63 := by omega
  exact call_len_set ho hex hd hf (by rw [hn]; exact hz3) ⟨.int (metS z.cps.toList).length, H1, I2.tok _, ⟨_, by rw [hn]⟩, q1⟩
end SetT
set_option maxRecDepth 100000
set_option maxHeartbeats 8000000
namespace WS
open PySem L2
/-- whether a text is a word of a sheet -/
def isWord (z : Str) : Bool := decide (1 ≤ z.length) && decide (z.length ≤ 6) && z.cps.toList.all fun c => decide (c ∈ abc.cps.toList)
theorem isWord_iff {z : Str} : isWord z = true ↔ (1 ≤ z.length ∧ z.length ≤ 6) ∧ ∀ c ∈ z.cps.toList, c ∈ abc.cps.toList := by
  unfold isWord
  rw [Bool.and_eq_true, Bool.and_eq_true, decide_eq_true_iff, decide_eq_true_iff, List.all_eq_true]
  exact ⟨fun h => ⟨h.1, fun c hc => of_decide_eq_true (h.2 c hc)⟩, fun h => ⟨h.1, fun c hc => decide_eq_true (h.2 c hc)⟩⟩
theorem abc_mem {c : Nat} (h : 97 ≤ c ∧ c ≤ 122) : c ∈ abc.cps.toList := by
  have := abc_all (c - 97) (by omega)
  rw [show 97 + (c - 97) = c by omega] at this
  exact List.mem_of_getElem? this
theorem isWord_ok {cs : List Nat} {b : Int} {z : Str} (N : NamesOk cs b) (h : WordOk cs 6 z) : isWord z = true :=
  isWord_iff.mpr ⟨h.length, fun c hc => abc_mem (N.low c (h.mem c hc))⟩
def spIsWord : Sp := fun vs H Q _ => ∃ z : Str, vs = [.str z] ∧ z.length ≤ 1000 ∧ ∀ H', Same H H' → Q (.bl (isWord z)) H'
section
variable {P : Program} {w : World} {K : PySem.W.Frag} {mg : Str → Option Value} {base : Heap}
theorem scIsWord : FnScope ["text", "sign"] ["text"] (defScope sIsWord) := ⟨rfl, rfl, rfl, by decide +kernel, rfl, by decide +kernel, by decide +kernel⟩
theorem ok_isword {f : Addr} {fd : FuncData} {t1 t2 : Tok} (F : Fun K "is_word" "is_word" sIsWord f fd) (z_len : mg "len" = none) (z_all : mg "all" = none) (m_MOST_IN_WORD : mg "MOST_IN_WORD" = some (.int 6 t1)) (m_SMALL_LETTERS : mg "SMALL_LETTERS" = some (.str abc t2)) :
    FnOk P w K mg base CX0 1 f fd ["text"] spIsWord := by
  refine F.ok scIsWord (fun vs H Q E h => ?_) (fun cdv A outer s H vs Q E hr h => ?_)
  · obtain ⟨z, rfl, _⟩ := h
    rfl
  · obtain ⟨z, rfl, hz, k⟩ := h
    have nd := scIsWord.nd
    have hz' : z.cps.size ≤ 1000 := hz
    refine ⟨_, (pss_one (ps_ret (pe_and (pe_chain op_le op_le pe_int (pe_callB call_len_str (by rfl) z_len PySem.boot_len (pa_cons (pv 0) pa_nil)) (pe_glob (v := .int 6) (by rfl) m_MOST_IN_WORD ⟨_, rfl⟩)) (pe_one (pe_callB (cr_all rfl) (by rfl) z_all (by decide +kernel) (pa_cons (pe_lc (own := [("sign", 1)]) (g := (gName 1)) (tt := tYes) rfl nd (pi_str (pv 0)) (blkOk_by (own := [("sign", 1)]) (N := ["text", "sign"]) (sc := defScope sIsWord) (by decide +kernel)) (fun _ _ _ _ _ => (pg_name (i := 1) nd rfl (.inl rfl))) (fun _ _ _ _ _ => pts_nil) (fun _ _ _ _ _ => (pe_cmpR op_in_sign (pv 1) (pe_glob (v := .str abc) (by rfl) m_SMALL_LETTERS ⟨_, rfl⟩) (by rfl)))) pa_nil)))))), ?_⟩
    refine ⟨_, rfl, z, rfl, line_of (by omega), _, _, rfl, rfl, _, rfl, ite2 (fun h1 => ?_) (fun h1 => ?_)⟩
    · refine ⟨_, _, rfl, rfl, _, rfl, ite2 (fun h2 => ?_) (fun h2 => ?_)⟩
      · refine ⟨_, rfl, z, rfl, fun D hD => lc_it walk_str (fun i H2 => H2 = upd H D (.lst ((z.cps.toList.take i).map fun c => V.bl (decide (c ∈ abc.cps.toList))))) rfl (fun _ _ _ _ => trivial) ?_ ?_⟩
        · rintro i x H2 H3 hi rfl ⟨rfl, c, hc, rfl⟩
          refine ⟨rfl, _, rfl, c, abc, rfl, rfl, _, upd_same, ?_, ?_⟩
          · rw [List.length_map, List.length_take]
            exact line_lt (by omega)
          · rw [upd_upd, List.take_add_one, Array.getElem?_toList, hc, List.map_append] <;> rfl
        · rintro H2 rfl
          have e : z.cps.toList.take z.cps.size = z.cps.toList := List.take_of_length_le (by rw [Array.length_toList] <;> exact Nat.le_refl _)
          rw [e]
          refine ⟨D, z.cps.toList.map fun c => decide (c ∈ abc.cps.toList), rfl, SqL.of (by rw [upd_same, List.map_map] <;> rfl), ?_⟩
          have e2 : (z.cps.toList.map fun c => decide (c ∈ abc.cps.toList)).all id = isWord z := by
            have a1 : (1 ≤ z.length) := by have := of_decide_eq_true h1; omega
            have a2 : (z.length ≤ 6) := by have := of_decide_eq_true h2; omega
            unfold isWord
            rw [decide_eq_true a1, decide_eq_true a2, List.all_map]
            rfl
          rw [e2]
          exact k _ (Same.new hD)
      · have e2 : isWord z = false := by
          have a2 : ¬ (z.length ≤ 6) := fun a => h2 (decide_eq_true (by omega))
          unfold isWord
          rw [decide_eq_false a2]
          simp
        have := k _ (Same.refl H)
        rw [e2] at this
        exact this
    · have e2 : isWord z = false := by
        have a2 : ¬ (1 ≤ z.length) := fun a => h1 (decide_eq_true (by omega))
        unfold isWord
        rw [decide_eq_false a2]
        simp
      have := k _ (Same.refl H)
      rw [e2] at this
      exact ⟨_, rfl, iteF this⟩
end
end WS
set_option maxRecDepth 100000
set_option maxHeartbeats 4000000
namespace WS
open PySem L2 SetT
/-- all words of some sums, in the order in which they stand -/
def wordsOf (ss : List WSum) : List Str := (ss.map fun s => s.1 ++ [s.2]).flatten
def signsOf (ws : List Str) : List Nat := (ws.map (·.cps.toList)).flatten
/-- a sheet that can be -/
structure Valid (b : Int) (ss : List WSum) : Prop where
  b2 : 2 ≤ b
  b12 : b ≤ 12
  few : 1 ≤ ss.length ∧ ss.length ≤ 3
  many : ∀ s ∈ ss, 1 ≤ s.1.length ∧ s.1.length ≤ 4
  words : ∀ z ∈ wordsOf ss, isWord z = true
  lets : ((metS (signsOf (wordsOf ss))).length : Int) ≤ b ∧ (metS (signsOf (wordsOf ss))).length ≤ 8
theorem metS_grow (xs ys : List Nat) : (metS xs).length ≤ (metS (xs ++ ys)).length := by
  have : ∀ (r : List Nat) (a : List Str), a.length ≤ (r.foldl (fun a c => addS a (sign c)) a).length := by
    intro r
    induction r with
    | nil => intro a; exact Nat.le_refl _
    | cons c r ih =>
      intro a
      have h1 := ih (addS a (sign c))
      have h2 : a.length ≤ (addS a (sign c)).length := by rw [addS_len]; split <;> omega
      exact Nat.le_trans h2 h1
  unfold metS
  rw [List.foldl_append]
  exact this ys _
theorem wordsOf_append (a b : List WSum) : wordsOf (a ++ b) = wordsOf a ++ wordsOf b := by
  unfold wordsOf; rw [List.map_append, List.flatten_append]
theorem signsOf_append (a b : List Str) : signsOf (a ++ b) = signsOf a ++ signsOf b := by
  unfold signsOf; rw [List.map_append, List.flatten_append]
theorem wordsOf_take {ss : List WSum} {i : Nat} {s : WSum} (h : ss[i]? = some s) : wordsOf (ss.take (i + 1)) = wordsOf (ss.take i) ++ (s.1 ++ [s.2]) := by
  rw [List.take_add_one, h, wordsOf_append]
  show _ ++ wordsOf [s] = _
  unfold wordsOf
  simp
theorem wordsOf_take_mem {ss : List WSum} {i : Nat} {z : Str} (h : z ∈ wordsOf (ss.take i)) : z ∈ wordsOf ss := by
  have : wordsOf ss = wordsOf (ss.take i) ++ wordsOf (ss.drop i) := by rw [← wordsOf_append, List.take_append_drop]
  rw [this]; exact List.mem_append_left _ h
theorem Valid.prefix {b : Int} {ss : List WSum} (V : Valid b ss) (i : Nat) : ((metS (signsOf (wordsOf (ss.take i)))).length : Int) ≤ b ∧ (metS (signsOf (wordsOf (ss.take i)))).length ≤ 8 := by
  have : wordsOf ss = wordsOf (ss.take i) ++ wordsOf (ss.drop i) := by rw [← wordsOf_append, List.take_append_drop]
  have h := metS_grow (signsOf (wordsOf (ss.take i))) (signsOf (wordsOf (ss.drop i)))
  rw [← signsOf_append, ← this] at h
  have := V.lets
  omega
theorem Valid.word_len {b : Int} {ss : List WSum} (V : Valid b ss) {z : Str} (h : z ∈ wordsOf ss) : 1 ≤ z.length ∧ z.length ≤ 6 := (isWord_iff.mp (V.words z h)).1
theorem wordsOf_len {ss : List WSum} (h : ∀ s ∈ ss, s.1.length ≤ 4) : (wordsOf ss).length ≤ 5 * ss.length := by
  induction ss with
  | nil => exact Nat.le_refl _
  | cons s r ih =>
    have h1 := ih fun x hx => h x (List.mem_cons_of_mem _ hx)
    have h2 := h s List.mem_cons_self
    have e : wordsOf (s :: r) = (s.1 ++ [s.2]) ++ wordsOf r := rfl
    rw [e, List.length_append, List.length_append, List.length_cons]
    show s.1.length + 1 + (wordsOf r).length ≤ 5 * (r.length + 1)
    omega
theorem sum_lens {ws : List Str} {m : Nat} (h : ∀ z ∈ ws, z.length ≤ m) : (ws.map (·.length)).sum ≤ m * ws.length := by
  induction ws with
  | nil => exact Nat.le_refl _
  | cons z r ih =>
    have h1 := ih fun x hx => h x (List.mem_cons_of_mem _ hx)
    have h2 := h z List.mem_cons_self
    rw [List.map_cons, List.sum_cons, List.length_cons, Nat.mul_add]
    omega
theorem join_signsOf (ws : List Str) : (Txt.join ("" : Str) ws).cps.toList = signsOf ws := by
  have e : Txt.join ("" : Str) ws = Str.join Str.empty ws := StrLaws.glued_eq_join _ _
  rw [e, join_empty] <;> rfl
theorem mem_wordsOf {ss : List WSum} {s : WSum} {z : Str} (hs : s ∈ ss) (h : z ∈ s.1 ∨ z = s.2) : z ∈ wordsOf ss := by
  unfold wordsOf
  refine List.mem_flatten.mpr ⟨s.1 ++ [s.2], List.mem_map.mpr ⟨s, hs, rfl⟩, ?_⟩
  rcases h with h | h
  · exact List.mem_append_left _ h
  · exact List.mem_append_right _ (by simp [h])
theorem of_wordsOf {ss : List WSum} {z : Str} (h : z ∈ wordsOf ss) : ∃ s ∈ ss, z ∈ s.1 ∨ z = s.2 := by
  unfold wordsOf at h
  obtain ⟨l, hl, hz⟩ := List.mem_flatten.mp h
  obtain ⟨s, hs, rfl⟩ := List.mem_map.mp hl
  refine ⟨s, hs, ?_⟩
  rcases List.mem_append.mp hz with h | h
  · exact .inl h
  · exact .inr (by simpa using h)
theorem signsOf_len {ws : List Str} {m : Nat} (h : ∀ z ∈ ws, z.cps.toList.length ≤ m) : (signsOf ws).length ≤ m * ws.length := by
  induction ws with
  | nil => exact Nat.le_refl _
  | cons z r ih =>
    have h1 := ih fun x hx => h x (List.mem_cons_of_mem _ hx)
    have h2 := h z List.mem_cons_self
    have e : signsOf (z :: r) = z.cps.toList ++ signsOf r := rfl
    rw [e, List.length_append, List.length_cons, Nat.mul_add]
    omega
/-- what the law draws can be -/
theorem SheetOk.valid {b : Int} {ss : List WSum} (S : SheetOk b ss) : Valid b ss := by
  obtain ⟨cs, N, ok⟩ := S.cs
  refine ⟨S.b2, S.b12, S.few, fun s hs => (ok s hs).many, fun z hz => ?_, ?_⟩
  · obtain ⟨s, hs, hz⟩ := of_wordsOf hz
    rcases hz with hz | rfl
    · exact isWord_ok N ((ok s hs).adds z hz)
    · exact isWord_ok N (ok s hs).total
  · have hcs : (metS (signsOf (wordsOf ss))).length ≤ cs.length := metS_few fun c hc => by
      unfold signsOf at hc
      obtain ⟨l, hl, hc⟩ := List.mem_flatten.mp hc
      obtain ⟨z, hz, rfl⟩ := List.mem_map.mp hl
      obtain ⟨s, hs, hz⟩ := of_wordsOf hz
      rcases hz with hz | rfl
      · exact ((ok s hs).adds z hz).mem c hc
      · exact (ok s hs).total.mem c hc
    have hN := N.len
    have h12 := S.b12
    refine ⟨by omega, ?_⟩
    by_cases h6 : 6 < b
    · have h1 := S.big h6
      obtain ⟨s, rfl⟩ : ∃ s, ss = [s] := by
        rcases ss with _ | ⟨s, _ | ⟨t, r⟩⟩
        · simp at h1
        · exact ⟨s, rfl⟩
        · simp at h1
      obtain ⟨g1, g2, g3⟩ := (ok s List.mem_cons_self).big h6
      have e : signsOf (wordsOf [s]) = signsOf s.1 ++ s.2.cps.toList := by
        have : wordsOf [s] = s.1 ++ [s.2] := by unfold wordsOf; simp
        rw [this, signsOf_append]
        unfold signsOf; simp
      have l1 := signsOf_len (m := 1) fun z hz => (g2 z hz).len
      have l2 := g3.len
      have l3 := metS_le (signsOf (wordsOf [s]))
      rw [e, List.length_append] at l3
      rw [e]
      omega
    · omega
end WS
set_option maxRecDepth 100000
set_option maxHeartbeats 8000000
namespace WS
open PySem L2 SetT
/-- check_counts(base, sums) of a sheet that can be -/
def spCounts : Sp := fun vs H Q _ => ∃ (b : Int) (sl : Addr) (xs : List V), vs = [.int b, .ref sl] ∧ H sl = some (.lst xs) ∧ 2 ≤ b ∧ b ≤ 12 ∧ 1 ≤ xs.length ∧ xs.length ≤ 3 ∧ Q .non H
def spCheck : Sp := fun vs H Q _ => ∃ (b : Int) (sl : Addr) (ts : List Addr) (ss : List WSum), vs = [.int b, .ref sl] ∧ H sl = some (.lst (ts.map V.ref)) ∧ SumsAt H ts ss ∧ Valid b ss ∧ ∀ H', Same H H' → Q .non H'
theorem refs_at {ts : List Addr} {i : Nat} {y : V} (h : (ts.map V.ref)[i]? = some y) : ∃ t, ts[i]? = some t ∧ y = V.ref t := by
  rw [List.getElem?_map] at h
  cases e : ts[i]? with
  | none => rw [e] at h; cases h
  | some t => rw [e] at h; exact ⟨t, rfl, (Option.some.inj h).symm⟩
theorem strs_at' {ws : List Str} {i : Nat} {y : V} (h : (ws.map V.str)[i]? = some y) : ∃ z, ws[i]? = some z ∧ y = V.str z := by
  rw [List.getElem?_map] at h
  cases e : ws[i]? with
  | none => rw [e] at h; cases h
  | some t => rw [e] at h; exact ⟨t, rfl, (Option.some.inj h).symm⟩
section
variable {P : Program} {w : World} {K : PySem.W.Frag} {mg : Str → Option Value} {base : Heap}
theorem scCounts : FnScope ["base", "sums"] ["base", "sums"] (defScope sCounts) := ⟨rfl, rfl, rfl, by decide +kernel, rfl, by decide +kernel, by decide +kernel⟩
theorem ok_counts {f : Addr} {fd : FuncData} {t1 t2 t3 : Tok} (F : Fun K "check_counts" "check_counts" sCounts f fd) (z_len : mg "len" = none) (m_LEAST_BASE : mg "LEAST_BASE" = some (.int 2 t1)) (m_MOST_BASE : mg "MOST_BASE" = some (.int 12 t2)) (m_MOST_SUMS : mg "MOST_SUMS" = some (.int 3 t3)) :
    FnOk P w K mg base CX0 1 f fd ["base", "sums"] spCounts := by
  refine F.ok scCounts (fun vs H Q E h => ?_) (fun cdv A outer s H vs Q E hr h => ?_)
  · obtain ⟨b, sl, xs, rfl, _⟩ := h
    rfl
  · obtain ⟨b, sl, xs, rfl, hsl, b2, b12, n1, n3, k⟩ := h
    have nd := scCounts.nd
    refine ⟨_, (pss_cons (ps_if (pt_not (pt_chain op_le op_le (pe_glob (v := .int 2) (by rfl) m_LEAST_BASE ⟨_, rfl⟩) (pv 0) (pe_glob (v := .int 12) (by rfl) m_MOST_BASE ⟨_, rfl⟩))) (pss_one ps_never) pss_nil)
      (pss_one (ps_if (pt_not (pt_chain op_le op_le pe_int (pe_callB call_len_seq (by rfl) z_len PySem.boot_len (pa_cons (pv 1) pa_nil)) (pe_glob (v := .int 3) (by rfl) m_MOST_SUMS ⟨_, rfl⟩))) (pss_one ps_never) pss_nil))), ?_⟩
    refine ⟨_, rfl, _, _, rfl, rfl, _, rfl, ?_⟩
    rw [decide_eq_true b2]
    refine iteT ⟨_, _, rfl, rfl, _, rfl, ?_⟩
    rw [decide_eq_true b12]
    refine iteF ?_
    refine ⟨_, rfl, sl, _, rfl, .inl (SqL.of hsl), _, _, rfl, rfl, _, rfl, ?_⟩
    rw [decide_eq_true (by omega)]
    refine iteT ⟨_, _, rfl, rfl, _, rfl, ?_⟩
    rw [decide_eq_true (by omega)]
    exact iteF k
theorem scCheck : FnScope ["base", "sums", "words", "at", "addends", "total", "word"] ["base", "sums"] (defScope sCheck) := ⟨rfl, rfl, rfl, by decide +kernel, rfl, by decide +kernel, by decide +kernel⟩
theorem ok_check {f fI : Addr} {fd fdI : FuncData} {t1 t2 : Tok} (F : Fun K "check_sums" "check_sums" sCheck f fd) (z_len : mg "len" = none) (z_set : mg "set" = none) (z_all : mg "all" = none) (z_min : mg "min" = none) (z_enumerate : mg "enumerate" = none)
    (m_MOST_ADDENDS : mg "MOST_ADDENDS" = some (.int 4 t1)) (m_MOST_LETTERS : mg "MOST_LETTERS" = some (.int 8 t2)) (S_is_word : Site K mg "is_word" fI fdI ["text"]) (G_is_word : FnOk P w K mg base CX0 1 fI fdI ["text"] spIsWord) :
    FnOk P w K mg base CX0 2 f fd ["base", "sums"] spCheck := by
  refine F.ok scCheck (fun vs H Q E h => ?_) (fun cdv A outer s H vs Q E hr h => ?_)
  · obtain ⟨b, sl, ts, ss, rfl, _⟩ := h
    rfl
  · obtain ⟨b, sl, ts, ss, rfl, hsl, hsa, V', k⟩ := h
    have nd := scCheck.nd
    have hr_is_word := hr
    refine ⟨_, (pss_cons (ps_set (i := 2) nd rfl (.inl rfl) (pe_lst pa_nil))
      (pss_one (ps_for PassesOwn.never rfl (pi_enum (by rfl) z_enumerate (pa_cons (pv 1) pa_nil)) (pg_tup rfl (pgs_cons (pg_name (i := 3) nd rfl (.inl rfl)) (pgs_cons (pg_tup rfl (pgs_cons (pg_name (i := 4) nd rfl (.inl rfl)) (pgs_cons (pg_name (i := 5) nd rfl (.inl rfl)) pgs_nil))) pgs_nil))) (pss_cons (ps_if (pt_not (pt_chain op_le op_le pe_int (pe_callB call_len_seq (by rfl) z_len PySem.boot_len (pa_cons (pv 4) pa_nil)) (pe_glob (v := .int 4) (by rfl) m_MOST_ADDENDS ⟨_, rfl⟩))) (pss_one ps_never) pss_nil)
      (pss_cons (ps_if (pt_not (pt_val (pe_callB (cr_all rfl) (by rfl) z_all (by decide +kernel) (pa_cons (pe_lc (own := [("word", 6)]) (g := (gName 6)) (tt := tYes) rfl nd (pi_tup (pe_tup (StX.pa_star (pv 4) (pa_cons (pv 5) pa_nil)))) (blkOk_by (own := [("word", 6)]) (N := ["base", "sums", "words", "at", "addends", "total", "word"]) (sc := defScope sCheck) (by decide +kernel)) (fun _ _ _ _ _ => (pg_name (i := 6) nd rfl (.inl rfl))) (fun _ _ _ _ _ => pts_nil) (fun _ _ _ _ _ => (pe_call G_is_word hr_is_word (by rfl) S_is_word.g S_is_word.k S_is_word.b .nil pass0 (pa_cons (pv 6) pa_nil)))) pa_nil)))) (pss_one ps_never) pss_nil)
      (pss_cons (ps_expr (pe_bm PySem.F.plainAttrs_list PySem.F.slot_list_extend PySem.F.type_list_extend mt_extend (pv 2) (pa_cons (pe_lst (StX.pa_star (pv 4) (pa_cons (pv 5) pa_nil))) pa_nil)))
      (pss_one (ps_if (pt_cmpR op_gt (pe_lenSetT (by rfl) z_len (by rfl) z_set (pe_join pe_str (pv 2))) (pe_callB (call_min2 rfl) (by rfl) z_min (by decide +kernel) (pa_cons (pe_glob (v := .int 8) (by rfl) m_MOST_LETTERS ⟨_, rfl⟩) (pa_cons (pv 0) pa_nil))) (nomark _)) (pss_one ps_never) pss_nil)))))))), ?_⟩
    refine ⟨by show 0 ≤ sizeLine; decide, fun wl hwl => ?_⟩
    have hslw : sl ≠ wl := ne_of_none hsl hwl
    refine ⟨_, rfl, sl, _, rfl, SqL.of ((upd_ne hslw).trans hsl), for_it (walk_enum (xs := ts.map V.ref)) (fun i σ H2 => ∃ v3 v4 v5, σ = [some (.int b), some (.ref sl), some (.ref wl), v3, v4, v5, none] ∧ Same H H2 ∧ H2 wl = some (.lst ((wordsOf (ss.take i)).map V.str)))
      ⟨none, none, none, rfl, Same.new hwl, upd_same⟩ (fun i σ H2 _ ⟨_, _, _, _, s2, _⟩ => SqL.of (s2 _ _ hsl)) ?_ ?_⟩
    · rintro i x σ H2 H3 hi ⟨v3, v4, v5, rfl, s2, hw⟩ ⟨T, x1, x2, rfl, hT, rfl, e1, e2⟩
      rw [List.length_map] at hi
      have e1' : x1 = .int (i : Nat) := (Option.some.inj e1).symm
      subst e1'
      obtain ⟨t, ht, rfl⟩ := refs_at e2
      have hiss : i < ss.length := hsa.len ▸ hi
      have hs : ss[i]? = some ss[i] := List.getElem?_eq_getElem hiss
      generalize hsg : ss[i] = sm at hs
      have hsm : sm ∈ ss := List.mem_of_getElem? hs
      have s3 : Same H (upd H2 T (.tup [.int (i : Nat), .ref t])) := s2.trans (Same.new hT)
      obtain ⟨u, ht1, hu1⟩ := (hsa.get i t sm ht hs).same s3
      have hwT : wl ≠ T := ne_of_none hw hT
      have hw3 : (upd H2 T (.tup [.int (i : Nat), .ref t])) wl = some (.lst ((wordsOf (ss.take i)).map V.str)) := (upd_ne hwT).trans hw
      have hTu : (upd H2 T (.tup [.int (i : Nat), .ref t])) T = some (.tup [.int (i : Nat), .ref t]) := upd_same
      generalize upd H2 T (.tup [.int (i : Nat), .ref t]) = H3 at s3 ht1 hu1 hw3 hTu
      obtain ⟨m1, m4⟩ := V'.many sm hsm
      refine ⟨T, _, rfl, SqT.of hTu, rfl, _, _, rfl, _, _, rfl, t, _, rfl, SqT.of ht1, rfl, _, _, rfl, _, _, rfl, rfl, rfl, ?_⟩
      -- the count of the addends
      refine ⟨_, rfl, u, _, rfl, .inr (SqT.of hu1), _, _, rfl, rfl, _, rfl, ?_⟩
      rw [List.length_map, decide_eq_true (by omega)]
      refine iteT ⟨_, _, rfl, rfl, _, rfl, ?_⟩
      rw [decide_eq_true (by omega)]
      refine iteF ?_
      -- its words
      refine ⟨_, rfl, u, _, rfl, .inl (SqT.of hu1), _, rfl, ?_, fun q hq => ?_⟩
      · rw [List.length_append, List.length_map]
        exact line_of (by show _ + 1 ≤ _; omega)
      refine ⟨q, rfl, ⟨_, SqT.of upd_same⟩, fun D hD => ?_⟩
      have hqD : q ≠ D := ne_of_none upd_same hD
      have hD3 : H3 D = none := by rw [upd_ne (Ne.symm hqD)] at hD; exact hD
      have hwq : wl ≠ q := ne_of_none hw3 hq
      have hwD : wl ≠ D := ne_of_none hw3 hD3
      refine lc_tup (K := K) (a := q) (xs := sm.1.map V.str ++ [.str sm.2]) (fun j H4 => H4 D = some (.lst ((List.replicate j true).map V.bl)) ∧ Same (upd H3 q (.tup (sm.1.map V.str ++ [.str sm.2]))) H4)
        ⟨upd_same, Same.new hD⟩ (fun j H4 _ ⟨_, s4⟩ => SqT.of (s4 _ _ upd_same)) ?_ ?_
      · rintro j y H4 hj ⟨hD4, s4⟩
        have hy : sm.1.map V.str ++ [V.str sm.2] = (sm.1 ++ [sm.2]).map V.str := by rw [List.map_append] <;> rfl
        rw [hy] at hj
        obtain ⟨z, hz, rfl⟩ := strs_at' hj
        have hjl : j < (sm.1 ++ [sm.2]).length := (List.getElem?_eq_some_iff.mp hz).1
        rw [List.length_append] at hjl
        have hjl' : j < sm.1.length + 1 := hjl
        have hzm : z ∈ wordsOf ss := by
          have := List.mem_of_getElem? hz
          refine mem_wordsOf hsm ?_
          rcases List.mem_append.mp this with h | h
          · exact .inl h
          · exact .inr (by simpa using h)
        refine ⟨rfl, _, rfl, z, rfl, by have := V'.word_len hzm; omega, fun H5 s5 => ?_⟩
        refine ⟨_, s5 _ _ hD4, ?_, ?_, ?_⟩
        · rw [List.length_map, List.length_replicate]
          exact line_lt (by omega)
        · rw [upd_same, V'.words z hzm, List.replicate_succ', List.map_append] <;> rfl
        · exact Same.mut (s4.trans s5) hD
      · rintro H4 ⟨hD4, s4⟩
        rw [List.length_append, List.length_map] at hD4
        refine ⟨D, _, rfl, SqL.of hD4, _, rfl, ?_⟩
        have ea : (List.replicate (sm.1.length + [V.str sm.2].length) true).all id = true := by simp
        rw [ea]
        refine iteF ?_
        have s34 : Same H3 H4 := (Same.new hq).trans s4
        have s04 : Same H H4 := s3.trans s34
        have hw4 := s34 _ _ hw3
        -- words.extend
        refine ⟨_, rfl, .inl ⟨rfl, _, SqL.of hw4⟩, _, rfl, u, _, rfl, .inl (SqT.of (s34 _ _ hu1)), _, rfl, ?_, fun q2 hq2 => ?_⟩
        · rw [List.length_append, List.length_map]
          exact line_of (by show _ + 1 ≤ _; omega)
        have hwl4 := wordsOf_len (ss := ss.take i) fun s hs => (V'.many s (List.mem_of_mem_take hs)).2
        rw [List.length_take] at hwl4
        have hf := V'.few
        refine ⟨wl, q2, _, _, rfl, rfl, (upd_ne (ne_of_none hw4 hq2)).trans hw4, upd_same, ?_, ?_⟩
        · rw [List.length_map, List.length_append, List.length_map]
          exact line_of (by show _ + (_ + 1) ≤ _; omega)
        have ew : (wordsOf (ss.take i)).map V.str ++ (sm.1.map V.str ++ [V.str sm.2]) = (wordsOf (ss.take (i + 1))).map V.str := by
          rw [wordsOf_take hs, List.map_append, List.map_append] <;> rfl
        rw [ew]
        -- the letters so far
        have hwl5 := wordsOf_len (ss := ss.take (i + 1)) fun s hs => (V'.many s (List.mem_of_mem_take hs)).2
        rw [List.length_take] at hwl5
        have hsum := sum_lens (ws := wordsOf (ss.take (i + 1))) (m := 6) fun z hz => (V'.word_len (wordsOf_take_mem hz)).2
        have hjs := join_signsOf (wordsOf (ss.take (i + 1)))
        have hjl := signsOf_len (ws := wordsOf (ss.take (i + 1))) (m := 6) fun z hz => by
          have := (V'.word_len (wordsOf_take_mem hz)).2
          have e : z.cps.toList.length = z.length := Array.length_toList
          omega
        obtain ⟨p1, p2⟩ := V'.prefix (i + 1)
        refine ⟨⟨_, rfl⟩, _, rfl, _, wl, wordsOf (ss.take (i + 1)), rfl, rfl, .inl (SqL.of upd_same), ?_, ?_⟩
        · show _ + _ * 0 ≤ _
          omega
        refine ⟨_, rfl, ?_, ?_⟩
        · have e : (Txt.join ("" : Str) (wordsOf (ss.take (i + 1)))).cps.toList.length = (Txt.join ("" : Str) (wordsOf (ss.take (i + 1)))).length := Array.length_toList
          rw [hjs] at e
          omega
        rw [hjs]
        refine ⟨_, rfl, _, _, rfl, _, _, rfl, rfl, _, rfl, ?_⟩
        rw [decide_eq_false (by split <;> omega)]
        refine iteF ?_
        exact ⟨_, _, _, rfl, Same.mut (s04.trans (Same.new hq2)) hwl, upd_same⟩
    · rintro σ H2 ⟨v3, v4, v5, rfl, s2, hw⟩
      exact k _ s2
end
end WS
set_option maxRecDepth 100000
set_option maxHeartbeats 4000000
namespace RevS
open PySem PySem.Spec PyProof.Rows L2
/-- a text from its end -/
def revT (z : Str) : Str := ⟨z.cps.toList.reverse.toArray⟩
theorem pick_all (z : Str) : (Builtin.Str.strSliceIndices none none (-1) z.length).filterMap (z.cps[·]?) = z.cps.toList.reverse := by
  unfold Builtin.Str.strSliceIndices
  show (sliceRange ((z.cps.size : Int) - 1) (-1) (-1)).filterMap (z.cps[·]?) = _
  rw [PySem.W.krv_sliceRange]
  have : ∀ (l : List Nat) (n : Nat), l.length = n → ((List.range n).map fun k => n - 1 - k).filterMap (l[·]?) = l.reverse := by
    intro l
    induction l with
    | nil => intro n h; subst h; rfl
    | cons c r ih =>
      intro n h
      subst h
      have e : (List.range (r.length + 1)).map (fun k => r.length + 1 - 1 - k) = ((List.range r.length).map fun k => (r.length - 1 - k) + 1) ++ [0] := by
        rw [List.range_succ, List.map_append]
        congr 1
        · apply List.map_congr_left
          intro k hk
          have := List.mem_range.mp hk
          omega
        · simp
      show ((List.range (r.length + 1)).map (fun k => r.length + 1 - 1 - k)).filterMap ((c :: r)[·]?) = _
      rw [e, List.filterMap_append, List.reverse_cons]
      congr 1
      have h2 := ih r.length rfl
      rw [List.filterMap_map] at h2 ⊢
      rw [← h2]
      apply congrArg (fun f => List.filterMap f _)
      funext k
      simp
  have h := this z.cps.toList z.cps.size Array.length_toList
  simpa [Array.getElem?_toList] using h
def tRevS (te : TE) : TE := fun σ H Q => te σ H fun x H1 => ∃ z : Str, x = .str z ∧ z.length ≤ sizeLine ∧ Q (.str (revT z)) H1
theorem pe_revS {X : Cx} {e : Expr} {te : TE} {k : Nat} {p1 p2 p3 pos : Pos} (he : PE X e te) : PE X (.Subscript e (.Slice none none (some (.UnaryOp .USub (.Constant (.int 1) k p1) p2)) p3) pos) (tRevS te) := by
  refine ⟨fun pins s σ H Q I h => ?_⟩
  refine Subscript_ (thn (he.run pins s σ H _ I h) fun v s1 ⟨x, H1, I1, r1, q1⟩ => ?_)
  obtain ⟨z, ex, hz, q⟩ := q1
  subst ex
  obtain ⟨t, rfl⟩ := r1
  have hst : PO X (some (.UnaryOp .USub (.Constant (.int 1) k p1) p2)) (tPart (tUn (rU fun i => .int (-i)) (tC (.int 1)))) := po_some (pe_un un_neg pe_int)
  refine wpAny_Slice (thn (po_none.run pins s1 σ H1 (fun o H2 => o = none ∧ H2 = H1) I1 ⟨rfl, rfl⟩) fun vl s2 ⟨l, H2, I2, pl, el, e2⟩ => ?_)
  subst el e2
  refine thn (po_none.run pins s2 σ H2 (fun o H3 => o = none ∧ H3 = H2) I2 ⟨rfl, rfl⟩) fun vu s3 ⟨u, H3, I3, pu, eu, e3⟩ => ?_
  subst eu e3
  refine thn (hst.run pins s3 σ H3 (fun o H4 => o = some (-1) ∧ H4 = H3) I3 ⟨1, rfl, -1, rfl, rfl, rfl⟩) fun vs s4 ⟨o, H4, I4, ps, eo, e4⟩ => ?_
  subst eo e4
  cases pl
  cases pu
  cases ps
  rename_i uk _
  have I5 : L2.Inv X pins σ H4 { s4 with heap := s4.heap.push { cls := .type "slice", data := .fields #[.none, .none, .int (-1) uk] } } := I4.kept (t' := s4.toks) fun b ob q => Heap.get?_push_of_some _ q
  refine tail_any (ops := [.ref s4.heap.objs.size, .str z t]) (typeIs_str _ _ _) F.slot_str_getitem.lookup (wpAny_getItem_str_slice (l := none) (u := none) (st := some (-1, uk)) ⟨_, Heap.get?_push_size _ rfl, rfl, rfl⟩ rfl ?_) (by with_unfolding_all rfl)
  show Made.post (if ((-1 : Int) == 1 && (Builtin.Str.strSliceIndices none none (-1) z.length).length == z.length) = true then Made.val (.str z t)
    else Made.str ⟨((Builtin.Str.strSliceIndices none none (-1) z.length).filterMap (z.cps[·]?)).toArray⟩) _ _
  rw [if_neg (by simp), pick_all]
  have hl : (revT z).length ≤ sizeLine := by
    have e : (revT z).length = z.length := by
      show z.cps.toList.reverse.toArray.size = z.cps.size
      simp
    rw [e]; exact hz
  exact ⟨hl, .str (revT z), H4, I5.tok _, ⟨_, rfl⟩, q⟩
end RevS
set_option maxRecDepth 100000
set_option maxHeartbeats 4000000
namespace WS
open PySem L2 SetT
/-- the letter of a word in a column, counted from the right -/
def letterAt (z : Str) (p : Nat) : Str := match z.cps.toList.reverse[p]? with | some c => ⟨#[c]⟩ | none => Str.empty
def col (ws : List Str) (p : Nat) : List Nat := ws.filterMap fun z => z.cps.toList.reverse[p]?
def maxLen (ws : List Str) : Nat := ws.foldl (fun a z => max a z.length) 0
def rawSum (ws : List Str) : List Nat := ((List.range (maxLen ws)).map (col ws)).flatten
def rawOf (ss : List WSum) : List Nat := (ss.map fun s => rawSum (s.1 ++ [s.2])).flatten
def addN (L : List Nat) (c : Nat) : List Nat := if c ∈ L then L else L ++ [c]
/-- each of them once, where it stands first -/
def dd (r : List Nat) : List Nat := r.foldl addN []
def lettersOf (ss : List WSum) : List Nat := dd (rawOf ss)
theorem dd_snoc (r : List Nat) (c : Nat) : dd (r ++ [c]) = addN (dd r) c := by
  unfold dd; rw [List.foldl_append] <;> rfl
theorem addN_nodup {L : List Nat} {c : Nat} (h : L.Nodup) : (addN L c).Nodup := by
  unfold addN
  split
  · exact h
  · rename_i hx
    rw [List.nodup_append]
    refine ⟨h, by simp, fun a ha b hb e => hx ?_⟩
    have : b = c := by simpa using hb
    rw [← this, ← e]; exact ha
theorem addN_mem {L : List Nat} {c y : Nat} : y ∈ addN L c ↔ y ∈ L ∨ y = c := by
  unfold addN
  split
  · rename_i h
    exact ⟨.inl, fun h' => h'.elim id fun e => e ▸ h⟩
  · rw [List.mem_append, List.mem_singleton]
theorem dd_fold (r : List Nat) : ∀ a : List Nat, a.Nodup → (r.foldl addN a).Nodup ∧ ∀ y, y ∈ r.foldl addN a ↔ y ∈ a ∨ y ∈ r := by
  induction r with
  | nil => intro a h; exact ⟨h, fun y => by simp⟩
  | cons c r ih =>
    intro a h
    obtain ⟨h1, h2⟩ := ih (addN a c) (addN_nodup h)
    refine ⟨h1, fun y => ?_⟩
    rw [List.foldl_cons, h2, addN_mem, List.mem_cons]
    constructor
    · rintro ((h | h) | h)
      · exact .inl h
      · exact .inr (.inl h)
      · exact .inr (.inr h)
    · rintro (h | h | h)
      · exact .inl (.inl h)
      · exact .inl (.inr h)
      · exact .inr h
theorem dd_nodup (r : List Nat) : (dd r).Nodup := (dd_fold r [] List.nodup_nil).1
theorem dd_mem {r : List Nat} {y : Nat} : y ∈ dd r ↔ y ∈ r := by
  unfold dd
  rw [(dd_fold r [] List.nodup_nil).2 y]
  simp
def Abc (r : List Nat) : Prop := ∀ c ∈ r, c ∈ abc.cps.toList
theorem Abc.append {r r' : List Nat} (h : Abc r) (h' : Abc r') : Abc (r ++ r') := fun c hc => (List.mem_append.mp hc).elim (h c) (h' c)
theorem Abc.take {r : List Nat} (h : Abc r) (n : Nat) : Abc (r.take n) := fun c hc => h c (List.mem_of_mem_take hc)
theorem abc_size : abc.cps.toList.length = 26 := by decide +kernel
theorem Abc.len {r : List Nat} (h : Abc r) : (dd r).length ≤ 26 := by
  rw [← abc_size]
  exact nodup_le (dd_nodup r) fun c hc => h c (dd_mem.mp hc)
theorem col_abc {ws : List Str} {p : Nat} (h : ∀ z ∈ ws, isWord z = true) : Abc (col ws p) := fun c hc => by
  obtain ⟨z, hz, e⟩ := List.mem_filterMap.mp hc
  exact (isWord_iff.mp (h z hz)).2 c (List.mem_reverse.mp (List.mem_of_getElem? e))
theorem flat_abc {α : Type} {l : List α} {f : α → List Nat} (h : ∀ x ∈ l, Abc (f x)) : Abc (l.map f).flatten := fun c hc => by
  obtain ⟨m, hm, hc⟩ := List.mem_flatten.mp hc
  obtain ⟨x, hx, rfl⟩ := List.mem_map.mp hm
  exact h x hx c hc
theorem raw_abc {ws : List Str} (h : ∀ z ∈ ws, isWord z = true) : Abc (rawSum ws) := flat_abc fun p _ => col_abc h
theorem words_of {b : Int} {ss : List WSum} (V : Valid b ss) {s : WSum} (hs : s ∈ ss) : ∀ z ∈ s.1 ++ [s.2], isWord z = true := fun z hz => V.words z (mem_wordsOf hs ((List.mem_append.mp hz).elim .inl fun h => .inr (by simpa using h)))
theorem rawOf_abc {b : Int} {ss : List WSum} (V : Valid b ss) (n : Nat) : Abc (rawOf (ss.take n)) := flat_abc fun s hs => raw_abc (words_of V (List.mem_of_mem_take hs))
theorem rawOf_take {ss : List WSum} {i : Nat} {s : WSum} (h : ss[i]? = some s) : rawOf (ss.take (i + 1)) = rawOf (ss.take i) ++ rawSum (s.1 ++ [s.2]) := by
  unfold rawOf
  rw [List.take_add_one, h, List.map_append, List.flatten_append]
  simp
theorem range_flat (f : Nat → List Nat) (j : Nat) : ((List.range (j + 1)).map f).flatten = ((List.range j).map f).flatten ++ f j := by
  rw [List.range_succ, List.map_append, List.flatten_append]
  simp
theorem maxLen_fold (ws : List Str) : ∀ a : Nat, a ≤ ws.foldl (fun a z => max a z.length) a ∧ (∀ z ∈ ws, z.length ≤ ws.foldl (fun a z => max a z.length) a) ∧ (ws.foldl (fun a z => max a z.length) a = a ∨ ∃ z ∈ ws, ws.foldl (fun a z => max a z.length) a = z.length) := by
  induction ws with
  | nil => intro a; exact ⟨Nat.le_refl _, (fun z hz => nomatch hz), .inl rfl⟩
  | cons x r ih =>
    intro a
    obtain ⟨h1, h2, h3⟩ := ih (max a x.length)
    rw [List.foldl_cons]
    refine ⟨by omega, fun z hz => ?_, ?_⟩
    · rcases List.mem_cons.mp hz with rfl | hz
      · omega
      · exact h2 z hz
    · rcases h3 with h3 | ⟨z, hz, h3⟩
      · rw [h3]
        by_cases c : a ≤ x.length
        · exact .inr ⟨x, List.mem_cons_self, by omega⟩
        · exact .inl (by omega)
      · exact .inr ⟨z, List.mem_cons_of_mem _ hz, h3⟩
theorem maxLen_le {ws : List Str} {z : Str} (h : z ∈ ws) : z.length ≤ maxLen ws := (maxLen_fold ws 0).2.1 z h
theorem maxLen_is {ws : List Str} {m : Int} (h : m ∈ ws.map fun z => (z.length : Int)) (hle : ∀ n ∈ ws.map (fun z => (z.length : Int)), n ≤ m) : m = maxLen ws := by
  obtain ⟨z, hz, rfl⟩ := List.mem_map.mp h
  have h1 := maxLen_le hz
  rcases (maxLen_fold ws 0).2.2 with h2 | ⟨y, hy, h2⟩
  · have h2 : maxLen ws = 0 := h2
    omega
  · have h2 : maxLen ws = y.length := h2
    have := hle _ (List.mem_map.mpr ⟨y, hy, rfl⟩)
    omega
theorem maxLen_bound {ws : List Str} {m : Nat} (h : ∀ z ∈ ws, z.length ≤ m) : maxLen ws ≤ m := by
  rcases (maxLen_fold ws 0).2.2 with h2 | ⟨y, hy, h2⟩
  · have h2 : maxLen ws = 0 := h2
    omega
  · have h2 : maxLen ws = y.length := h2
    have := h y hy
    omega
theorem rev_at {xs : List Nat} {p : Nat} (h : p < xs.length) : atI xs (-1 - (p : Int)) = xs.reverse[p]? := by
  unfold atI ixN
  rw [if_neg (by omega), if_pos (by omega), List.getElem?_reverse h]
  show xs[_]? = _
  congr 1
  omega
theorem letterAt_some {z : Str} {p c : Nat} (h : z.cps.toList.reverse[p]? = some c) : letterAt z p = ⟨#[c]⟩ := by
  unfold letterAt; rw [h]
theorem letterAt_none {z : Str} {p : Nat} (h : z.cps.toList.reverse[p]? = none) : letterAt z p = Str.empty := by
  unfold letterAt; rw [h]
theorem rev_some {z : Str} {p : Nat} (h : p < z.length) : ∃ c, z.cps.toList.reverse[p]? = some c := by
  have e : z.cps.toList.reverse.length = z.length := by rw [List.length_reverse] <;> exact Array.length_toList
  exact ⟨_, List.getElem?_eq_getElem (by omega)⟩
theorem rev_none {z : Str} {p : Nat} (h : ¬ p < z.length) : z.cps.toList.reverse[p]? = none := by
  have e : z.cps.toList.reverse.length = z.length := by rw [List.length_reverse] <;> exact Array.length_toList
  exact List.getElem?_eq_none (by omega)
theorem col_snoc_some {ws : List Str} {z : Str} {p c : Nat} (h : z.cps.toList.reverse[p]? = some c) : col (ws ++ [z]) p = col ws p ++ [c] := by
  unfold col; rw [List.filterMap_append]; simp [h]
theorem col_snoc_none {ws : List Str} {z : Str} {p : Nat} (h : z.cps.toList.reverse[p]? = none) : col (ws ++ [z]) p = col ws p := by
  unfold col; rw [List.filterMap_append]; simp [h]
theorem take_snoc {α : Type} {l : List α} {i : Nat} {x : α} (h : l[i]? = some x) : l.take (i + 1) = l.take i ++ [x] := by
  rw [List.take_add_one, h] <;> rfl
/-- a dict of letters, each True -/
def kvOf (c : Nat) : Key × V := (Sum.inr ⟨#[c]⟩, .bl true)
theorem kv_inj {c d : Nat} (h : (⟨#[c]⟩ : Str) = ⟨#[d]⟩) : c = d := by
  have := congrArg (fun s : Str => s.cps.toList) h
  simpa using this
theorem put_kv (L : List Nat) (c : Nat) : putK (L.map kvOf) (Sum.inr ⟨#[c]⟩ : Key) (.bl true) = (addN L c).map kvOf := by
  unfold putK addN
  have hany : ((L.map kvOf).any fun kv => decide (kv.1 = (Sum.inr ⟨#[c]⟩ : Key))) = decide (c ∈ L) := by
    induction L with
    | nil => simp
    | cons d r ih =>
      rw [List.map_cons, List.any_cons, ih]
      by_cases e : d = c
      · subst e; simp [kvOf]
      · have : ¬ ((kvOf d).1 = (Sum.inr ⟨#[c]⟩ : Key)) := fun h => e (kv_inj (Sum.inr.inj h))
        rw [decide_eq_false this]
        have e' : ¬ c = d := fun h => e h.symm
        simp [e']
  rw [hany]
  by_cases h : c ∈ L
  · rw [decide_eq_true h, if_pos rfl, if_pos h, List.map_map]
    apply List.map_congr_left
    intro d _
    show (if (kvOf d).1 = _ then ((kvOf d).1, V.bl true) else kvOf d) = kvOf d
    split <;> rfl
  · rw [decide_eq_false h, if_neg Bool.false_ne_true, if_neg h, List.map_append] <;> rfl
end WS
set_option maxRecDepth 100000
set_option maxHeartbeats 8000000
namespace WS
open PySem L2 SetT
def spLetterAt : Sp := fun vs H Q _ => ∃ (z : Str) (p : Nat), vs = [.str z, .int (p : Nat)] ∧ z.length ≤ 1000 ∧ Q (.str (letterAt z p)) H
def spColCount (K : PySem.W.Frag) : Sp := fun vs H Q _ => ∃ (u : Addr) (ws : List Str) (tot : Str), vs = [.ref u, .str tot] ∧ H u = some (.tup (ws.map V.str)) ∧ (∀ z ∈ ws ++ [tot], z.length ≤ 1000) ∧ ws.length ≤ 1000 ∧ ∀ H', Same H H' → Q (.int (maxLen (ws ++ [tot]) : Nat)) H'
def spColOf (K : PySem.W.Frag) : Sp := fun vs H Q _ => ∃ (q : Addr) (ws : List Str) (p : Nat), vs = [.ref q, .int (p : Nat)] ∧ H q = some (.tup (ws.map V.str)) ∧ (∀ z ∈ ws, z.length ≤ 1000) ∧ ws.length ≤ 1000 ∧ ∀ D H', H D = none → Same H H' → H' D = some (.lst ((col ws p).map sg)) → Q (.ref D) H'
section
variable {P : Program} {w : World} {K : PySem.W.Frag} {mg : Str → Option Value} {base : Heap}
theorem scLetterAt : FnScope ["word", "place"] ["word", "place"] (defScope sLetterAt) := ⟨rfl, rfl, rfl, by decide +kernel, rfl, by decide +kernel, by decide +kernel⟩
theorem ok_letterat {f : Addr} {fd : FuncData} (F : Fun K "letter_at" "letter_at" sLetterAt f fd) (z_len : mg "len" = none) : FnOk P w K mg base CX0 1 f fd ["word", "place"] spLetterAt := by
  refine F.ok scLetterAt (fun vs H Q E h => ?_) (fun cdv A outer s H vs Q E hr h => ?_)
  · obtain ⟨z, p, rfl, _⟩ := h
    rfl
  · obtain ⟨z, p, rfl, hz, k⟩ := h
    refine ⟨_, (pss_one (ps_ret (pe_ifExp (pt_cmpR op_lt (pv 1) (pe_callB call_len_str (by rfl) z_len PySem.boot_len (pa_cons (pv 0) pa_nil)) (nomark _)) (pe_ix (r := rIxS) ix_str (pv 0) (pe_op op_sub (pe_un un_neg pe_int) (pv 1)) (fun _ _ => rfl)) pe_str))), ?_⟩
    refine ⟨_, rfl, _, rfl, z, rfl, line_of (by omega), _, _, rfl, rfl, _, rfl, ite2 (fun c => ?_) (fun c => ?_)⟩
    · have hp : p < z.length := by have := of_decide_eq_true c; omega
      obtain ⟨ch, hc⟩ := rev_some hp
      refine ⟨_, rfl, 1, rfl, _, rfl, _, _, rfl, rfl, z, -1 - (p : Int), ch, rfl, rfl, line_of (by omega), ?_, ?_⟩
      · rw [rev_at (show p < z.cps.toList.length by rw [Array.length_toList]; exact hp)]
        exact hc
      · rw [letterAt_some hc] at k
        exact k
    · have hp : ¬ p < z.length := fun h => c (decide_eq_true (by omega))
      rw [letterAt_none (rev_none hp)] at k
      exact k
theorem scColCount : FnScope ["addends", "total", "word"] ["addends", "total"] (defScope sColCount) := ⟨rfl, rfl, rfl, by decide +kernel, rfl, by decide +kernel, by decide +kernel⟩
theorem ok_colcount {f : Addr} {fd : FuncData} (F : Fun K "column_count" "column_count" sColCount f fd) (z_len : mg "len" = none) (z_max : mg "max" = none) : FnOk P w K mg base CX0 1 f fd ["addends", "total"] (spColCount K) := by
  refine F.ok scColCount (fun vs H Q E h => ?_) (fun cdv A outer s H vs Q E hr h => ?_)
  · obtain ⟨u, ws, tot, rfl, _⟩ := h
    rfl
  · obtain ⟨u, ws, tot, rfl, hu1, hz, hn, k⟩ := h
    have nd := scColCount.nd
    refine ⟨_, (pss_one (ps_ret (pe_callB (cr_max rfl) (by rfl) z_max (by decide +kernel) (pa_cons (pe_lc (own := [("word", 2)]) (g := (gName 2)) (tt := tYes) rfl nd (pi_tup (pe_tup (StX.pa_star (pv 0) (pa_cons (pv 1) pa_nil)))) (blkOk_by (own := [("word", 2)]) (N := ["addends", "total", "word"]) (sc := defScope sColCount) (by decide +kernel)) (fun _ _ _ _ _ => (pg_name (i := 2) nd rfl (.inl rfl))) (fun _ _ _ _ _ => pts_nil) (fun _ _ _ _ _ => (pe_callB call_len_str (by rfl) z_len PySem.boot_len (pa_cons (pv 2) pa_nil)))) pa_nil)))), ?_⟩
    refine ⟨_, rfl, u, _, rfl, .inl (SqT.of hu1), _, rfl, ?_, fun q hq => ?_⟩
    · rw [List.length_append, List.length_map]
      exact line_of (by show _ + 1 ≤ _; omega)
    refine ⟨q, rfl, ⟨_, SqT.of upd_same⟩, fun D hD => ?_⟩
    have hy : ws.map V.str ++ [V.str tot] = (ws ++ [tot]).map V.str := by rw [List.map_append] <;> rfl
    rw [hy] at hD ⊢
    refine lc_tup (K := K) (a := q) (xs := (ws ++ [tot]).map V.str) (fun j H4 => H4 = upd (upd H q (.tup ((ws ++ [tot]).map V.str))) D (.lst ((((ws ++ [tot]).take j).map fun z => (z.length : Int)).map V.int))) rfl
      (fun j H4 _ e => by rw [e]; exact SqT.of ((upd_ne (ne_of_none upd_same hD)).trans upd_same)) ?_ ?_
    · rintro j y H4 hj rfl
      obtain ⟨z, hz', rfl⟩ := strs_at' hj
      have hjl : j < (ws ++ [tot]).length := (List.getElem?_eq_some_iff.mp hz').1
      rw [List.length_append] at hjl
      have hjl' : j < ws.length + 1 := hjl
      refine ⟨rfl, _, rfl, z, rfl, line_of (by have := hz z (List.mem_of_getElem? hz'); omega), _, upd_same, ?_, ?_⟩
      · rw [List.length_map, List.length_map, List.length_take]
        exact line_lt (by omega)
      · have e : (((ws ++ [tot]).take (j + 1)).map fun z => (z.length : Int)).map V.int = (((ws ++ [tot]).take j).map fun z => (z.length : Int)).map V.int ++ [V.int (z.length : Nat)] := by
          rw [take_snoc hz', List.map_append, List.map_append] <;> rfl
        rw [upd_upd, e]
    · rintro H4 rfl
      rw [List.length_map, List.take_length]
      refine ⟨D, _, rfl, SqL.of upd_same, ?_, fun m hm hle => ?_⟩
      · rw [List.length_map, List.length_append]
        show 0 < _ + 1
        omega
      · rw [maxLen_is hm hle]
        exact k _ (Same.mut (Same.new hq) (by rw [upd_ne (Ne.symm (ne_of_none upd_same hD))] at hD; exact hD))
theorem scColOf : FnScope ["words", "place", "word"] ["words", "place"] (defScope sColOf) := ⟨rfl, rfl, rfl, by decide +kernel, rfl, by decide +kernel, by decide +kernel⟩
theorem ok_colof {f fA : Addr} {fd fdA : FuncData} (F : Fun K "column_of" "column_of" sColOf f fd) (z_len : mg "len" = none) (S_letter_at : Site K mg "letter_at" fA fdA ["word", "place"]) (G_letter_at : FnOk P w K mg base CX0 1 fA fdA ["word", "place"] spLetterAt) :
    FnOk P w K mg base CX0 2 f fd ["words", "place"] (spColOf K) := by
  refine F.ok scColOf (fun vs H Q E h => ?_) (fun cdv A outer s H vs Q E hr h => ?_)
  · obtain ⟨q, ws, p, rfl, _⟩ := h
    rfl
  · obtain ⟨q, ws, p, rfl, hq, hz, hn, k⟩ := h
    have nd := scColOf.nd
    have hr_letter_at := hr
    refine ⟨_, (pss_one (ps_ret (pe_lc (own := [("word", 2)]) (g := (gName 2))  rfl nd (pi_tup (pv 0)) (blkOk_by (own := [("word", 2)]) (N := ["words", "place", "word"]) (sc := defScope sColOf) (by decide +kernel)) (fun _ _ _ _ _ => (pg_name (i := 2) nd rfl (.inl rfl))) (fun _ _ _ _ _ => pts_one (pt_cmpR op_lt (pv 1) (pe_callB call_len_str (by rfl) z_len PySem.boot_len (pa_cons (pv 2) pa_nil)) (nomark _))) (fun _ _ _ _ _ => (pe_call G_letter_at hr_letter_at (by rfl) S_letter_at.g S_letter_at.k S_letter_at.b .nil pass0 (pa_cons (pv 2) (pa_cons (pv 1) pa_nil))))))), ?_⟩
    refine ⟨_, rfl, q, rfl, ⟨_, SqT.of hq⟩, fun D hD => ?_⟩
    refine lc_tup (K := K) (a := q) (xs := ws.map V.str) (fun j H4 => H4 = upd H D (.lst ((col (ws.take j) p).map sg))) rfl
      (fun j H4 _ e => by rw [e]; exact SqT.of ((upd_ne (ne_of_none hq hD)).trans hq)) ?_ ?_
    · rintro j y H4 hj rfl
      obtain ⟨z, hz', rfl⟩ := strs_at' hj
      have hjl : j < ws.length := (List.getElem?_eq_some_iff.mp hz').1
      have hzl := hz z (List.mem_of_getElem? hz')
      refine ⟨rfl, _, rfl, _, rfl, z, rfl, line_of (by omega), _, _, rfl, rfl, _, rfl, ite2 (fun c => ?_) (fun c => ?_)⟩
      · have hp : p < z.length := by have := of_decide_eq_true c; omega
        obtain ⟨ch, hc⟩ := rev_some hp
        refine ⟨_, rfl, _, rfl, z, p, rfl, hzl, _, upd_same, ?_, ?_⟩
        · have : (col (ws.take j) p).length ≤ ws.length := Nat.le_trans (List.length_filterMap_le _ _) (by rw [List.length_take]; omega)
          rw [List.length_map]
          exact line_lt (by omega)
        · rw [upd_upd, take_snoc hz', col_snoc_some hc, letterAt_some hc, List.map_append] <;> rfl
      · have hp : ¬ p < z.length := fun h => c (decide_eq_true (by omega))
        show upd H D _ = upd H D _
        rw [take_snoc hz', col_snoc_none (rev_none hp)]
    · rintro H4 rfl
      rw [List.length_map, List.take_length]
      exact k D _ hD (Same.new hD) upd_same
end
end WS
set_option maxRecDepth 100000
set_option maxHeartbeats 8000000
namespace WS
open PySem L2 SetT
theorem bk_ne : ¬ (("base" : Str) = "kept") := by decide +kernel
/-- a sheet's attributes, in the order in which they are stored -/
def flds (b : Int) (kl : Addr) : List (Str × V) := putF "kept" (.ref kl) (putF "base" (.int b) [])
theorem flds_kept (b : Int) (kl : Addr) : (flds b kl).lookup ("kept" : Str) = some (.ref kl) := by
  unfold flds; rw [lookup_putF, if_pos rfl]
theorem flds_base (b : Int) (kl : Addr) : (flds b kl).lookup ("base" : Str) = some (.int b) := by
  unfold flds; rw [lookup_putF, if_neg bk_ne, lookup_putF, if_pos rfl]
theorem flds_no (b : Int) (kl : Addr) {m : Str} (h1 : ¬ m = "kept") (h2 : ¬ m = "base") : (flds b kl).lookup m = none := by
  unfold flds
  rw [lookup_putF, if_neg h1, lookup_putF, if_neg h2] <;> rfl
/-- a Sheet at p: its base, its list of sums at kl -/
structure ShAt (C : Addr) (H : Hp) (p : Addr) (b : Int) (kl : Addr) (ts : List Addr) : Prop where
  ob : ∃ dx, H p = some (.ins C dx (flds b kl))
  kp : H kl = some (.lst (ts.map V.ref))
theorem ShAt.same {C : Addr} {H H' : Hp} {p : Addr} {b : Int} {kl : Addr} {ts : List Addr} (h : ShAt C H p b kl ts) (e : Same H H') : ShAt C H' p b kl ts := by
  obtain ⟨⟨dx, h1⟩, h2⟩ := h
  exact ⟨⟨dx, e _ _ h1⟩, e _ _ h2⟩
structure SheetTxt (K : PySem.W.Frag) (mg : Str → Option Value) (C : Addr) : Prop where
  cl : Cls K C
  nB : NoAttr K C "base"
  nK : NoAttr K C "kept"
  g : mg "Sheet" = some (.ref C)
def spShInit (C : Addr) : Sp := fun vs H Q _ => ∃ (p dx : Addr) (b : Int) (sl : Addr) (ts : List Addr) (ss : List WSum), vs = [.ref p, .int b, .ref sl] ∧ H p = some (.ins C dx []) ∧ H sl = some (.lst (ts.map V.ref)) ∧ SumsAt H ts ss ∧ Valid b ss ∧
  ∀ kl H', H kl = none → ShAt C H' p b kl ts → (∀ a o, a ≠ p → H a = some o → H' a = some o) → Q .non H'
def spShLetters (C : Addr) : Sp := fun vs H Q _ => ∃ (p : Addr) (b : Int) (kl : Addr) (ts : List Addr) (ss : List WSum), vs = [.ref p] ∧ ShAt C H p b kl ts ∧ SumsAt H ts ss ∧ Valid b ss ∧
  ∀ q H', H q = none → Same H H' → H' q = some (.lst ((lettersOf ss).map sg)) → Q (.ref q) H'
section
variable {P : Program} {w : World} {K : PySem.W.Frag} {mg : Str → Option Value} {base : Heap}
theorem scShInit : FnScope ["self", "base", "sums"] ["self", "base", "sums"] (defScope sShInit) := ⟨rfl, rfl, rfl, by decide +kernel, rfl, by decide +kernel, by decide +kernel⟩
theorem ok_shinit {f C fA fB : Addr} {fd fdA fdB : FuncData} (F : Fun K "__init__" "Sheet.__init__" sShInit f fd) (T : SheetTxt K mg C) (z_list : mg "list" = none)
    (S_check_counts : Site K mg "check_counts" fA fdA ["base", "sums"]) (G_check_counts : FnOk P w K mg base CX0 1 fA fdA ["base", "sums"] spCounts)
    (S_check_sums : Site K mg "check_sums" fB fdB ["base", "sums"]) (G_check_sums : FnOk P w K mg base CX0 2 fB fdB ["base", "sums"] spCheck) :
    FnOk P w K mg base CX0 3 f fd ["self", "base", "sums"] (spShInit C) := by
  refine F.ok scShInit (fun vs H Q E h => ?_) (fun cdv A outer s H vs Q E hr h => ?_)
  · obtain ⟨p, dx, b, sl, ts, ss, rfl, _⟩ := h
    rfl
  · obtain ⟨p, dx, b, sl, ts, ss, rfl, hp, hsl, hsa, V', k⟩ := h
    have nd := scShInit.nd
    have hr_check_counts : Room 1 _ := hr.mono (by decide)
    have hr_check_sums := hr
    refine ⟨_, (pss_cons (ps_expr (pe_call G_check_counts hr_check_counts (by rfl) S_check_counts.g S_check_counts.k S_check_counts.b .nil pass0 (pa_cons (pv 1) (pa_cons (pv 2) pa_nil))))
      (pss_cons (ps_expr (pe_call G_check_sums hr_check_sums (by rfl) S_check_sums.g S_check_sums.k S_check_sums.b .nil pass0 (pa_cons (pv 1) (pa_cons (pv 2) pa_nil))))
      (pss_cons (ps_fld (pv 0) (pv 1) rfl)
      (pss_one (ps_fld (pv 0) (pe_callTy call_list_of (by rfl) z_list (by decide +kernel) (pa_cons (pv 2) pa_nil)) rfl))))), ?_⟩
    have hl := hsa.len
    have hf := V'.few
    refine ⟨_, rfl, _, rfl, b, sl, _, rfl, hsl, V'.b2, V'.b12, by rw [List.length_map]; omega, by rw [List.length_map]; omega, ?_⟩
    refine ⟨_, rfl, _, rfl, b, sl, ts, ss, rfl, hsl, hsa, V', fun H1 s1 => ?_⟩
    have hp1 := s1 _ _ hp
    have hsl1 := s1 _ _ hsl
    have hpsl : sl ≠ p := ne_of hsl1 hp1 (fun z => by cases z)
    refine ⟨_, rfl, _, rfl, p, C, dx, [], rfl, hp1, T.cl, T.nB, (by show 0 < 1000; decide), ?_⟩
    refine ⟨_, rfl, sl, _, rfl, .inl (SqL.of ((upd_ne hpsl).trans hsl1)), fun kl hkl => ?_⟩
    have hpk : p ≠ kl := fun e => by
      rw [← e, upd_same] at hkl
      cases hkl
    have hkl1 : H1 kl = none := by rw [upd_ne (Ne.symm hpk)] at hkl; exact hkl
    refine ⟨_, rfl, p, C, dx, _, rfl, (upd_ne hpk).trans upd_same, T.cl, T.nK, (by show 1 < 1000; decide), ?_⟩
    refine k kl _ (Same.free s1 hkl1) ⟨⟨dx, upd_same⟩, (upd_ne (Ne.symm hpk)).trans upd_same⟩ fun a o ha hao => ?_
    rw [upd_ne ha, upd_ne (ne_of_none (s1 _ _ hao) hkl1), upd_ne ha]
    exact s1 _ _ hao
theorem scShLetters : FnScope ["self", "met", "addends", "total", "place", "letter"] ["self"] (defScope sShLetters) := ⟨rfl, rfl, rfl, by decide +kernel, rfl, by decide +kernel, by decide +kernel⟩
theorem ok_shletters {f C fA fB : Addr} {fd fdA fdB : FuncData} (F : Fun K "letters" "Sheet.letters" sShLetters f fd) (T : SheetTxt K mg C) (z_list : mg "list" = none) (z_range : mg "range" = none)
    (S_column_count : Site K mg "column_count" fA fdA ["addends", "total"]) (G_column_count : FnOk P w K mg base CX0 1 fA fdA ["addends", "total"] (spColCount K))
    (S_column_of : Site K mg "column_of" fB fdB ["words", "place"]) (G_column_of : FnOk P w K mg base CX0 2 fB fdB ["words", "place"] (spColOf K)) :
    FnOk P w K mg base CX0 3 f fd ["self"] (spShLetters C) := by
  refine F.ok scShLetters (fun vs H Q E h => ?_) (fun cdv A outer s H vs Q E hr h => ?_)
  · obtain ⟨p, b, kl, ts, ss, rfl, _⟩ := h
    rfl
  · obtain ⟨p, b, kl, ts, ss, rfl, A', hsa, V', k⟩ := h
    have nd := scShLetters.nd
    have hu := hu_of hr
    have hr_column_count : Room 1 _ := hr.mono (by decide)
    have hr_column_of := hr
    obtain ⟨⟨dx, hp⟩, hkl⟩ := id A'
    refine ⟨_, (pss_cons (ps_set (i := 1) nd rfl (.inl rfl) pe_dnewK)
      (pss_cons (ps_for PassesOwn.never rfl (pi_list (pe_fld (pv 0) rfl)) (pg_tup rfl (pgs_cons (pg_name (i := 2) nd rfl (.inl rfl)) (pgs_cons (pg_name (i := 3) nd rfl (.inl rfl)) pgs_nil))) (pss_one (ps_for PassesOwn.never rfl (pi_range1 (by rfl) z_range (pa_cons (pe_call G_column_count hr_column_count (by rfl) S_column_count.g S_column_count.k S_column_count.b .nil pass0 (pa_cons (pv 2) (pa_cons (pv 3) pa_nil))) pa_nil)) (pg_name (i := 4) nd rfl (.inl rfl)) (pss_one (ps_for PassesOwn.never rfl (pi_list (pe_call G_column_of hr_column_of (by rfl) S_column_of.g S_column_of.k S_column_of.b .nil pass0 (pa_cons (pe_tup (StX.pa_star (pv 2) (pa_cons (pv 3) pa_nil))) (pa_cons (pv 4) pa_nil)))) (pg_name (i := 5) nd rfl (.inl rfl)) (pss_one (ps_dput hu (pv 1) (pv 5) pe_bl rfl)))))))
      (pss_one (ps_ret (pe_callTy (call_list_dK rfl) (by rfl) z_list (by decide +kernel) (pa_cons (pv 1) pa_nil)))))), ?_⟩
    refine fun m hm => ?_
    have hkm : kl ≠ m := ne_of_none hkl hm
    refine ⟨_, rfl, p, C, dx, _, _, rfl, (upd_ne (ne_of_none hp hm)).trans hp, T.cl, T.nK, flds_kept _ _, kl, rfl, ⟨_, SqL.of ((upd_ne hkm).trans hkl)⟩,
      for_list (K := K) (a := kl) (xs := ts.map V.ref) (fun i σ H2 => ∃ v2 v3 v4 v5, σ = [some (.ref p), some (.ref m), v2, v3, v4, v5] ∧ Same H H2 ∧ H2 m = some (.dK ((dd (rawOf (ss.take i))).map kvOf)))
      ⟨none, none, none, none, rfl, Same.new hm, upd_same⟩ (fun i σ H2 _ ⟨_, _, _, _, _, s2, _⟩ => SqL.of (s2 _ _ hkl)) ?_ ?_⟩
    · rintro i x σ H2 hi ⟨v2, v3, v4, v5, rfl, s2, hm2⟩
      obtain ⟨t, ht, rfl⟩ := refs_at hi
      have hil : i < ts.length := (List.getElem?_eq_some_iff.mp ht).1
      have hiss : i < ss.length := hsa.len ▸ hil
      have hs : ss[i]? = some ss[i] := List.getElem?_eq_getElem hiss
      generalize hsg : ss[i] = sm at hs
      have hsm : sm ∈ ss := List.mem_of_getElem? hs
      obtain ⟨u, ht1, hu1⟩ := (hsa.get i t sm ht hs).same s2
      have hw := words_of V' hsm
      have hwl : ∀ z ∈ sm.1 ++ [sm.2], z.length ≤ 6 := fun z hz => (isWord_iff.mp (hw z hz)).1.2
      obtain ⟨m1, m4⟩ := V'.many sm hsm
      have hml := maxLen_bound hwl
      refine ⟨t, _, rfl, SqT.of ht1, rfl, _, _, rfl, _, _, rfl, rfl, ?_⟩
      refine ⟨_, rfl, _, rfl, u, sm.1, sm.2, rfl, hu1, fun z hz => by have := hwl z hz; omega, by omega, fun H3 s3 => ?_⟩
      have s03 := s2.trans s3
      refine ⟨_, rfl, by omega, by omega, for_range (lo := 0) (n := ((maxLen (sm.1 ++ [sm.2]) : Nat) : Int).toNat) (fun j σ H4 => ∃ v4 v5, σ = [some (.ref p), some (.ref m), some (.ref u), some (.str sm.2), v4, v5] ∧ Same H H4 ∧
          H4 m = some (.dK ((dd (rawOf (ss.take i) ++ ((List.range j).map (col (sm.1 ++ [sm.2]))).flatten)).map kvOf)))
        ⟨v4, v5, rfl, s03, ?_⟩ ?_ ?_⟩
      · rw [s3 _ _ hm2]; simp
      · rintro j σ H4 hj ⟨v4', v5', rfl, s4, hm4⟩
        obtain ⟨u', ht4, hu4⟩ := (hsa.get i t sm ht hs).same s4
        have hu4 : H4 u = some (.tup (sm.1.map V.str)) := by
          have h1 := s4 t _ ((hsa.get i t sm ht hs).choose_spec.1)
          rw [ht4] at h1
          have h2 := (HO.tup.inj (Option.some.inj h1))
          have h3 := s2 t _ ((hsa.get i t sm ht hs).choose_spec.1)
          rw [ht1] at h3
          have h4 := (HO.tup.inj (Option.some.inj h3))
          rw [← h4] at h2
          injection h2 with h2 _
          injection h2 with h2
          rw [← h2]; exact hu4
        refine ⟨_, rfl, u, _, rfl, .inl (SqT.of hu4), _, rfl, ?_, fun q hq => ?_⟩
        · rw [List.length_append, List.length_map]
          exact line_of (by show _ + 1 ≤ _; omega)
        have hy : sm.1.map V.str ++ [V.str sm.2] = (sm.1 ++ [sm.2]).map V.str := by rw [List.map_append] <;> rfl
        rw [hy]
        refine ⟨_, rfl, q, sm.1 ++ [sm.2], j, (by rw [Int.zero_add] <;> rfl), upd_same, fun z hz => by have := hwl z hz; omega, by rw [List.length_append]; show _ + 1 ≤ _; omega, fun D H5 hD s5 hD5 => ?_⟩
        have s45 : Same H4 H5 := (Same.new hq).trans s5
        have hm5 := s45 _ _ hm4
        have hmD : m ≠ D := ne_of hm5 hD5 (fun z => by cases z)
        have rabc := rawOf_abc V' i
        have cabc : Abc ((List.range j).map (col (sm.1 ++ [sm.2]))).flatten := flat_abc fun p _ => col_abc hw
        refine ⟨D, rfl, ⟨_, SqL.of hD5⟩, for_list (K := K) (a := D) (xs := (col (sm.1 ++ [sm.2]) j).map sg) (fun n σ H6 => ∃ v5, σ = [some (.ref p), some (.ref m), some (.ref u), some (.str sm.2), some (.int (0 + (j : Int))), v5] ∧ Same H H6 ∧ H6 D = some (.lst ((col (sm.1 ++ [sm.2]) j).map sg)) ∧
            H6 m = some (.dK ((dd (rawOf (ss.take i) ++ ((List.range j).map (col (sm.1 ++ [sm.2]))).flatten ++ (col (sm.1 ++ [sm.2]) j).take n)).map kvOf)))
          ⟨_, rfl, s4.trans s45, hD5, by rw [hm5]; simp⟩ (fun n σ H6 _ ⟨_, _, _, h, _⟩ => SqL.of h) ?_ ?_⟩
        · rintro n y σ H6 hn ⟨v5'', rfl, s6, hD6, hm6⟩
          obtain ⟨c, hc, rfl⟩ : ∃ c, (col (sm.1 ++ [sm.2]) j)[n]? = some c ∧ y = sg c := by
            rw [List.getElem?_map] at hn
            cases e : (col (sm.1 ++ [sm.2]) j)[n]? with
            | none => rw [e] at hn; cases hn
            | some c => rw [e] at hn; exact ⟨c, rfl, (Option.some.inj hn).symm⟩
          refine ⟨_, rfl, _, rfl, m, _, rfl, DPut.k (k := Sum.inr ⟨#[c]⟩) hm6 ?_, ?_⟩
          · rw [List.length_map]
            have := ((rabc.append cabc).append ((col_abc hw (p := j)).take n)).len
            exact small1000 (by omega)
          · refine ⟨_, rfl, Same.mut s6 hm, (upd_ne (Ne.symm hmD)).trans hD6, ?_⟩
            · rw [upd_same, put_kv, ← dd_snoc, List.append_assoc, List.append_assoc, List.append_assoc, ← take_snoc hc]
        · rintro σ H6 ⟨v5'', rfl, s6, hD6, hm6⟩
          refine ⟨_, _, rfl, s6, ?_⟩
          rw [hm6, List.length_map, List.take_length, range_flat, List.append_assoc]
      · rintro σ H4 ⟨v4', v5', rfl, s4, hm4⟩
        refine ⟨_, _, _, _, rfl, s4, ?_⟩
        rw [hm4, rawOf_take hs]
        rfl
    · rintro σ H2 ⟨v2, v3, v4, v5, rfl, s2, hm2⟩
      rw [List.length_map, hsa.len, List.take_length] at hm2
      refine ⟨_, rfl, m, _, rfl, hm2, fun q hq => ?_⟩
      refine k q _ (Same.free s2 hq) (s2.trans (Same.new hq)) ?_
      rw [upd_same, List.map_map] <;> rfl
end
end WS
set_option maxRecDepth 100000
set_option maxHeartbeats 8000000
namespace WS
open PySem L2 SetT RevS
theorem inV_sg (c : Nat) (L : List Nat) : inV (sg c) (L.map sg) = decide (c ∈ L) := by
  unfold inV
  induction L with
  | nil => simp
  | cons d r ih =>
    rw [List.map_cons, List.any_cons, ih]
    by_cases e : c = d
    · subst e; simp [eqV, sg]
    · have h1 : eqV (sg d) (sg c) = false := by
        show ((⟨#[d]⟩ : Str) == ⟨#[c]⟩) = false
        simpa [beq_iff_eq] using fun h => e (kv_inj h).symm
      rw [h1]
      simp [e]
theorem flat_sg (L : List Nat) : (L.map sg).all flatV = true := by
  rw [List.all_map, List.all_eq_true]
  intro c _
  rfl
theorem cut_letter (z : Str) (p : Nat) : cutS (revT z) (some (0 + (p : Int))) (some (0 + (p : Int) + 1)) = letterAt z p := by
  unfold cutS letterAt
  have er : (revT z).cps.toList = z.cps.toList.reverse := by unfold revT; simp
  have e0 : (0 + (p : Int)) = ((p : Nat) : Int) := Int.zero_add _
  have e1 : (0 + (p : Int) + 1) = ((p + 1 : Nat) : Int) := by omega
  rw [e1, e0, HT.sIx_nat, HT.sIx_nat, er]
  have hl : (revT z).length = z.cps.toList.reverse.length := by rw [← er] <;> exact Array.length_toList.symm
  rw [hl]
  generalize z.cps.toList.reverse = l
  rcases h : l[p]? with _ | c
  · have : l.length ≤ p := List.getElem?_eq_none_iff.mp h
    have e : min (p + 1) l.length - min p l.length = 0 := by omega
    rw [e]
    rfl
  · have hp : p < l.length := (List.getElem?_eq_some_iff.mp h).1
    have e2 : min (p + 1) l.length - min p l.length = 1 := by omega
    have e3 : min p l.length = p := by omega
    rw [e2, e3]
    have e4 : (l.drop p).take 1 = [c] := by
      rw [List.drop_eq_getElem_cons hp]
      have : l[p] = c := by
        rw [List.getElem?_eq_getElem hp] at h
        exact Option.some.inj h
      rw [this] <;> rfl
    rw [e4]
end WS
set_option maxRecDepth 100000
set_option maxHeartbeats 8000000
namespace WS
open PySem L2 SetT RevS
/-- what the signs cs are worth, the first one's figure the highest -/
def worthOf (b : Int) (fg : Nat → Int) (cs : List Nat) : Int := cs.foldl (fun a c => a * b + fg c) 0
theorem worthOf_snoc (b : Int) (fg : Nat → Int) (cs : List Nat) (c : Nat) : worthOf b fg (cs ++ [c]) = worthOf b fg cs * b + fg c := by
  unfold worthOf; rw [List.foldl_append] <;> rfl
/-- the same from the end: what is found, and the scale -/
def backOf (b : Int) (fg : Nat → Int) : List Nat → Int
  | [] => 0
  | c :: r => fg c + b * backOf b fg r
theorem back_worth (b : Int) (fg : Nat → Int) (cs : List Nat) : backOf b fg cs.reverse = worthOf b fg cs := by
  have : ∀ (r : List Nat), worthOf b fg r.reverse = backOf b fg r := by
    intro r
    induction r with
    | nil => rfl
    | cons c r ih =>
      rw [List.reverse_cons, worthOf_snoc, ih]
      show _ = fg c + b * backOf b fg r
      rw [Int.mul_comm b]; omega
  rw [← this, List.reverse_reverse]
def powI (b : Int) : Nat → Int
  | 0 => 1
  | n + 1 => powI b n * b
theorem back_snoc (b : Int) (fg : Nat → Int) : ∀ (r : List Nat) (c : Nat), backOf b fg (r ++ [c]) = backOf b fg r + powI b r.length * fg c
  | [], c => by simp [backOf, powI]
  | d :: r, c => by
    show fg d + b * backOf b fg (r ++ [c]) = fg d + b * backOf b fg r + powI b r.length * b * fg c
    rw [back_snoc b fg r c, Int.mul_add, ← Int.add_assoc]
    congr 1
    rw [Int.mul_comm (powI b r.length) b, Int.mul_assoc]
def HasFigs (kvs : List (Key × V)) (fg : Nat → Int) (cs : List Nat) : Prop := ∀ c ∈ cs, valV kvs (Sum.inr ⟨#[c]⟩ : Key) = some (.int (fg c))
end WS
set_option maxRecDepth 100000
set_option maxHeartbeats 4000000
namespace WS
open PySem L2 SetT RevS
/-- a dict of figures: letters and what they stand for -/
def kvsOf (L : List Nat) (vs : List Int) : List (Key × V) := (L.zip vs).map fun p => ((Sum.inr ⟨#[p.1]⟩ : Key), V.int p.2)
theorem kvsOf_none : ∀ {L : List Nat} {vs : List Int} {c : Nat}, c ∉ L → valV (kvsOf L vs) (Sum.inr ⟨#[c]⟩ : Key) = none
  | [], _, _, _ => rfl
  | d :: L, [], _, _ => rfl
  | d :: L, v :: vs, c, h => by
    show valV (((Sum.inr ⟨#[d]⟩ : Key), V.int v) :: kvsOf L vs) _ = none
    rw [valV_neg (fun e => h (by rw [kv_inj (Sum.inr.inj e)]; exact List.mem_cons_self))]
    exact kvsOf_none fun hc => h (List.mem_cons_of_mem _ hc)
theorem kvsOf_some : ∀ {L : List Nat} {vs : List Int} {c : Nat}, c ∈ L → L.length ≤ vs.length → ∃ v ∈ vs, valV (kvsOf L vs) (Sum.inr ⟨#[c]⟩ : Key) = some (.int v)
  | [], _, _, h, _ => nomatch h
  | d :: L, [], _, _, hl => by simp at hl
  | d :: L, v :: vs, c, h, hl => by
    by_cases e : d = c
    · subst e
      exact ⟨v, List.mem_cons_self, valV_pos rfl⟩
    · have hc : c ∈ L := by
        rcases List.mem_cons.mp h with h | h
        · exact absurd h.symm e
        · exact h
      obtain ⟨y, hy, ey⟩ := kvsOf_some (vs := vs) hc (by simpa using hl)
      refine ⟨y, List.mem_cons_of_mem _ hy, ?_⟩
      show valV (((Sum.inr ⟨#[d]⟩ : Key), V.int v) :: kvsOf L vs) _ = _
      rw [valV_neg (fun e' => e (kv_inj (Sum.inr.inj e')))]
      exact ey
theorem kvsOf_snoc {L : List Nat} {vs : List Int} {c : Nat} {v : Int} (hl : L.length = vs.length) : kvsOf (L ++ [c]) (vs ++ [v]) = kvsOf L vs ++ [((Sum.inr ⟨#[c]⟩ : Key), V.int v)] := by
  unfold kvsOf
  rw [List.zip_append hl, List.map_append] <;> rfl
theorem kvsOf_put {L : List Nat} {vs : List Int} {c : Nat} {v : Int} (hl : L.length = vs.length) (hc : c ∉ L) : putK (kvsOf L vs) (Sum.inr ⟨#[c]⟩ : Key) (.int v) = kvsOf (L ++ [c]) (vs ++ [v]) := by
  rw [putK_new _ (kvsOf_none hc), kvsOf_snoc hl]
theorem kvsOf_len (L : List Nat) (vs : List Int) : (kvsOf L vs).length ≤ L.length := by
  unfold kvsOf; rw [List.length_map, List.length_zip]; exact Nat.min_le_left _ _
def fgOf (L : List Nat) (vs : List Int) (c : Nat) : Int := match valV (kvsOf L vs) (Sum.inr ⟨#[c]⟩ : Key) with | some (.int v) => v | _ => 0
theorem fgOf_some {L : List Nat} {vs : List Int} {c : Nat} (h : c ∈ L) (hl : L.length ≤ vs.length) : valV (kvsOf L vs) (Sum.inr ⟨#[c]⟩ : Key) = some (.int (fgOf L vs c)) ∧ fgOf L vs c ∈ vs := by
  obtain ⟨v, hv, e⟩ := kvsOf_some h hl
  have e2 : fgOf L vs c = v := by unfold fgOf; rw [e]
  rw [e2]; exact ⟨e, hv⟩
theorem mem_letters {ss : List WSum} {s : WSum} {z : Str} {c : Nat} (hs : s ∈ ss) (hz : z ∈ s.1 ++ [s.2]) (hc : c ∈ z.cps.toList) : c ∈ lettersOf ss := by
  unfold lettersOf
  refine dd_mem.mpr (List.mem_flatten.mpr ⟨rawSum (s.1 ++ [s.2]), List.mem_map.mpr ⟨s, hs, rfl⟩, ?_⟩)
  obtain ⟨p, hp⟩ := List.mem_iff_getElem?.mp (List.mem_reverse.mpr hc)
  have hpl : p < z.cps.toList.reverse.length := (List.getElem?_eq_some_iff.mp hp).1
  rw [List.length_reverse, Array.length_toList] at hpl
  have := maxLen_le hz
  have hpl' : p < z.length := hpl
  exact List.mem_flatten.mpr ⟨col (s.1 ++ [s.2]) p, List.mem_map.mpr ⟨p, List.mem_range.mpr (by omega), rfl⟩, List.mem_filterMap.mpr ⟨z, hz, hp⟩⟩
theorem lettersOf_abc {b : Int} {ss : List WSum} (V : Valid b ss) : Abc (rawOf ss) := by
  have := rawOf_abc V ss.length
  rwa [List.take_length] at this
end WS
set_option maxRecDepth 100000
set_option maxHeartbeats 4000000
namespace SetT
open PySem PySem.Spec PyProof.Rows L2
/-- how many unlike ones a list of ints has -/
def distI (ns : List Int) : Nat := (firstMet (fun i => ns.getD i 0) ns.length).length
theorem distI_le (ns : List Int) : distI ns ≤ ns.length := firstMet_length_le _ _
def tLenSetN (K : PySem.W.Frag) (ta : TE) : TE := fun σ H Q => ta σ H fun x H1 => ∃ (l : Addr) (ns : List Int), x = .ref l ∧ SqL K H1 l (ns.map V.int) ∧ ns.length ≤ 4000 ∧ Q (.int (distI ns : Nat)) H1
theorem pe_lenSetN {X : Cx} {a : Expr} {ta : TE} {p p2 q pos : Pos} (hg : Gl X "len") (hm : X.mg "len" = none) (hg2 : Gl X "set") (hm2 : X.mg "set" = none) (ha : PE X a ta) (hc : X.calm = true := by rfl)
    (na : starEach [a] X.env = (false, eval a X.env) :: starEach [] X.env := by rfl) : PE X (.Call (.Name "len" p) [.Call (.Name "set" p2) [a] [] q] [] pos) (tLenSetN X.K ta) := by
  refine ⟨fun pins s σ H Q I h => Call_ (ld_blt I hg hm boot_len ?_)⟩
  refine PyProof.Rows.callWith_builtin1 (PyProof.Rows.args_cons ?_ rfl) rfl rfl
  refine Call_ (ld_blt I hg2 hm2 boot_set (PyProof.Rows.callWith_type1 (PyProof.Rows.args_cons (thn (ha.run pins s σ H _ I h) fun v s1 ⟨x, H1, I1, r1, q1⟩ => PyProof.Rows.args_nil ?_) na) na rfl))
  obtain ⟨l, ns, rfl, hq, hl, q1⟩ := q1
  cases r1
  obtain ⟨its, r, pl, hz⟩ := I1.list hq
  have hsz : its.toArray.size = ns.length := by
    have := r.length
    rw [List.length_map] at this
    rw [List.size_toArray]; omega
  refine call_set_list (ns := ns) (I1.ok.hd hc) pl.isList (by simpa using RZ.intsAre_vals r) (by rw [hsz]; unfold scanBound; omega) fun h' tk hS hk => PyProof.Rows.args_nil ?_
  rw [hsz] at hS
  obtain ⟨o, es, ep, t, ho, hex, hd, _, _, _, hf, hn⟩ := hS
  have hle := distI_le ns
  have hn' : es.size = distI ns := hn
  have I2 : L2.Inv X pins σ H1 { s1 with heap := h', toks := tk } := I1.kept fun b o e => hk b o (Heap.lt_size e) e
  exact call_len_set ho hex hd hf (by omega) ⟨.int (distI ns : Nat), H1, I2.tok _, ⟨_, by rw [hn']⟩, q1⟩
end SetT
set_option maxRecDepth 100000
set_option maxHeartbeats 4000000
namespace WS
open PySem L2 SetT RevS
def firstsW (ws : List Str) : List Nat := ws.filterMap fun z => if 1 < z.length then z.cps.toList.head? else none
def firstsOf (ss : List WSum) : List Nat := (ss.map fun s => firstsW (s.1 ++ [s.2])).flatten
def sumHolds (b : Int) (fg : Nat → Int) (s : WSum) : Bool := decide ((s.1.map fun z => worthOf b fg z.cps.toList).sum = worthOf b fg s.2.cps.toList)
def badFigs (b : Int) (ns : List Int) : Bool := decide (distI ns < ns.length) || ns.any (fun x => decide (x < 0)) || ns.any (fun x => decide (b ≤ x))
def noNought (fg : Nat → Int) (cs : List Nat) : Bool := !(cs.any fun c => decide (fg c = 0))
/-- whether figures are an answer -/
def keepsB (b : Int) (ss : List WSum) (L : List Nat) (fg : Nat → Int) : Bool := !(badFigs b (L.map fg)) && noNought fg (firstsOf ss) && ss.all (sumHolds b fg)
theorem noNought_append (fg : Nat → Int) (a b : List Nat) : noNought fg (a ++ b) = (noNought fg a && noNought fg b) := by
  unfold noNought; rw [List.any_append, Bool.not_or]
theorem keeps_sums (b : Int) (fg : Nat → Int) (ss : List WSum) : (noNought fg (firstsOf ss) && ss.all (sumHolds b fg)) = ss.all fun s => noNought fg (firstsW (s.1 ++ [s.2])) && sumHolds b fg s := by
  induction ss with
  | nil => rfl
  | cons s r ih =>
    have e : firstsOf (s :: r) = firstsW (s.1 ++ [s.2]) ++ firstsOf r := rfl
    rw [e, noNought_append, List.all_cons, List.all_cons, ← ih]
    cases noNought fg (firstsW (s.1 ++ [s.2])) <;> cases noNought fg (firstsOf r) <;> cases sumHolds b fg s <;> cases r.all (sumHolds b fg) <;> rfl
theorem min_neg {ns : List Int} {m : Int} (h : m ∈ ns) (hle : ∀ y ∈ ns, m ≤ y) : decide (m < 0) = ns.any fun x => decide (x < 0) := by
  rw [Bool.eq_iff_iff, List.any_eq_true, decide_eq_true_iff]
  constructor
  · intro h'; exact ⟨m, h, decide_eq_true h'⟩
  · rintro ⟨y, hy, e⟩
    have := hle y hy
    have := of_decide_eq_true e
    omega
theorem max_big {ns : List Int} {m b : Int} (h : m ∈ ns) (hle : ∀ y ∈ ns, y ≤ m) : decide (b ≤ m) = ns.any fun x => decide (b ≤ x) := by
  rw [Bool.eq_iff_iff, List.any_eq_true, decide_eq_true_iff]
  constructor
  · intro h'; exact ⟨m, h, decide_eq_true h'⟩
  · rintro ⟨y, hy, e⟩
    have := hle y hy
    have := of_decide_eq_true e
    omega
theorem firsts_snoc_long {ws : List Str} {z : Str} {c : Nat} (h : 1 < z.length) (hc : z.cps.toList.head? = some c) : firstsW (ws ++ [z]) = firstsW ws ++ [c] := by
  unfold firstsW; rw [List.filterMap_append]; simp [h, hc]
theorem firsts_snoc_short {ws : List Str} {z : Str} (h : ¬ 1 < z.length) : firstsW (ws ++ [z]) = firstsW ws := by
  unfold firstsW; rw [List.filterMap_append]; simp [h]
theorem head_of {z : Str} (h : 1 ≤ z.length) : ∃ c, z.cps.toList.head? = some c ∧ z.cps.toList[0]? = some c ∧ c ∈ z.cps.toList := by
  have e : z.cps.toList.length = z.length := Array.length_toList
  rcases hz : z.cps.toList with _ | ⟨c, r⟩
  · rw [hz] at e; simp at e; omega
  · exact ⟨c, rfl, rfl, List.mem_cons_self⟩
theorem firstsOf_take {ss : List WSum} {i : Nat} {s : WSum} (h : ss[i]? = some s) : firstsOf (ss.take (i + 1)) = firstsOf (ss.take i) ++ firstsW (s.1 ++ [s.2]) := by
  unfold firstsOf
  rw [List.take_add_one, h, List.map_append, List.flatten_append]
  simp
theorem firstsW_len (ws : List Str) : (firstsW ws).length ≤ ws.length := List.length_filterMap_le _ _
theorem firstsOf_len {ss : List WSum} (h : ∀ s ∈ ss, s.1.length ≤ 4) : (firstsOf ss).length ≤ 5 * ss.length := by
  induction ss with
  | nil => exact Nat.le_refl _
  | cons s r ih =>
    have h1 := ih fun x hx => h x (List.mem_cons_of_mem _ hx)
    have h2 := h s List.mem_cons_self
    have e : firstsOf (s :: r) = firstsW (s.1 ++ [s.2]) ++ firstsOf r := rfl
    have h3 := firstsW_len (s.1 ++ [s.2])
    rw [List.length_append] at h3
    have h3' : (firstsW (s.1 ++ [s.2])).length ≤ s.1.length + 1 := h3
    rw [e, List.length_append, List.length_cons]
    omega
theorem firsts_in {ss : List WSum} {c : Nat} (h : c ∈ firstsOf ss) : c ∈ lettersOf ss := by
  obtain ⟨l, hl, hc⟩ := List.mem_flatten.mp h
  obtain ⟨s, hs, rfl⟩ := List.mem_map.mp hl
  obtain ⟨z, hz, e⟩ := List.mem_filterMap.mp hc
  split at e
  · exact mem_letters hs hz (List.mem_of_mem_head? (Option.mem_def.mpr e))
  · cases e
theorem letters_ne {b : Int} {ss : List WSum} (V : Valid b ss) : 1 ≤ (lettersOf ss).length := by
  have hf := V.few.1
  rcases ss with _ | ⟨s, r⟩
  · simp at hf
  · have hw : isWord s.2 = true := V.words s.2 (mem_wordsOf List.mem_cons_self (.inr rfl))
    obtain ⟨c, _, _, hc⟩ := head_of (isWord_iff.mp hw).1.1
    exact List.length_pos_of_mem (mem_letters (ss := s :: r) List.mem_cons_self (List.mem_append_right _ List.mem_cons_self) hc)
end WS
set_option maxRecDepth 100000
set_option maxHeartbeats 4000000
namespace DStar
open PySem PySem.Spec PyProof.Rows L2
theorem mix_noref {P : Program} {w : World} {k : Key} {v : Value} (h : (mixKind P w).is k v = true) : ∀ a, v ≠ .ref a := fun a e => by
  subst e
  rw [mixKind_is] at h
  rcases keyIs_shape h with ⟨i, t, _, e⟩ | ⟨x, t, _, e⟩ <;> cases e
section
variable {P : Program} {w : World} {A : Around} {E : Value → Shared → Prop} {s : Shared}
theorem two_ways {α : Type} {M : Model} {Q : Unit → Shared → Prop} {c : Bool} {e : Sem α} {f : α → Sem PUnit} {j : Sem Unit} (h1 : c = true → wpAny M A e (fun a s1 => wpAny M A (f a) (fun _ s2 => s2 = s) E s1) E s) (h2 : wpAny M A j Q E s) :
    wpAny M A (if c = true then (e >>= fun a => f a >>= fun _ => j) else j) Q E s := by
  cases c with
  | false => exact h2
  | true => exact wpAny_bind (wpAny_mono (h1 rfl) (fun a s1 h => wpAny_bind (wpAny_mono h (fun _ s2 e2 => e2 ▸ h2) fun _ _ x => x)) fun _ _ x => x)
/-- a store by the key's hash, as a merge does it -/
theorem put_pairs {d : Addr} {kvs : List (Key × Value)} {k : Key} {key v : Value} {Q : Unit → Shared → Prop} (hkey : (mixKind P w).is k key = true) (hm : s.heap.DictOf (mixKind P w) d kvs) (hz : kvs.length ≤ sizeLine)
    (hQ : ∀ h', h'.DictOf (mixKind P w) d (stored kvs k v) → Heap.SameBut d s.heap h' → Q () { s with heap := h' }) : wpAny (model P w) A (dictPut d ((mixKind P w).hash k) key v) Q E s := by
  obtain ⟨o, es, ep, ho, hc, hd, hk, hp, hn⟩ := hm
  have e1 : es.toList.length = kvs.length := hp.length
  have e2 : es.size ≤ sizeLine := by rw [← Array.length_toList, e1]; exact hz
  have same : (es.findIdx? fun e => (mixKind P w).is k e.key) = kvs.findIdx? fun kv => decide (kv.1 = k) := by
    rw [← hp.findIdx k]
    obtain ⟨l⟩ := es
    simp
  unfold dictPut
  refine wpAny_bind (wpAny_dictFind_of hkey ho hd hk ?_)
  cases hi : es.findIdx? fun e => (mixKind P w).is k e.key with
  | some i =>
    have hany := any_of_findIdx_some (same ▸ hi)
    have hst : stored kvs k v = kvs.map fun kv => if kv.1 = k then (kv.1, v) else kv := if_pos hany
    refine wpAny_updateDict ho hd (hQ _ ⟨_, _, ep, Heap.get?_update_self _ ho (Obj.isFreed_of_dict (Obj.data_mapDict hd _)), hc.mapDict _, Obj.data_mapDict hd _, hk.modify _ _, ?_, ?_⟩ (Heap.SameBut.update ..))
    · rw [hst]
      have hl : (es.toList.findIdx? fun e => (mixKind P w).is k e.key) = some i := by
        rw [← hi]
        obtain ⟨l⟩ := es
        simp
      have z := hp.modify hn hl v
      obtain ⟨l⟩ := es
      simpa using z
    · rw [hst, keys_map_store]
      exact hn
  | none =>
    have hnot : k ∉ kvs.map (·.1) := not_mem_of_findIdx_none (same ▸ hi)
    have hst : stored kvs k v = kvs ++ [(k, v)] := if_neg fun z => by
      obtain ⟨kv, hkv, he⟩ := List.any_eq_true.mp z
      exact hnot (List.mem_map.mpr ⟨kv, hkv, of_decide_eq_true he⟩)
    refine wpAny_updateDictKeys (hz := e2) ho hd (hQ _ ⟨_, _, ep + 1, Heap.get?_update_self _ ho (Obj.isFreed_of_dict (Obj.data_mapDictKeys hd _)), hc.mapDictKeys _, Obj.data_mapDictKeys hd _, hk.push hkey _, ?_, ?_⟩ (Heap.SameBut.update ..))
    · rw [hst]
      have z := hp.append hkey ((mixKind P w).hash k) v
      obtain ⟨l⟩ := es
      simpa using z
    · rw [hst, List.map_append, List.nodup_append]
      refine ⟨hn, by simp, fun a ha b hb e => hnot ?_⟩
      have hb' : b = k := by simpa using hb
      rw [← hb', ← e]; exact ha
theorem merge_map {d o : Addr} {kvs more : List (Key × Value)} {Q : Unit → Shared → Prop} (hdo : d ≠ o) (hoS : (o == sysModules) = false)
    (hd : s.heap.DictOf (mixKind P w) d kvs) (ho : s.heap.DictOf (mixKind P w) o more)
    (hQ : ∀ h', h'.DictOf (mixKind P w) d (merged kvs more) → Heap.SameBut d s.heap h' → Q () { s with heap := h' })
    (hsz : kvs.length + more.length ≤ sizeLine) : wpAny (model P w) A (mergeMapping d (.ref o) false) Q E s := by
  obtain ⟨od, esd, epd, hod, hcd, hdd, hkd, hpd, hnd⟩ := id hd
  obtain ⟨oo, eso, epo, hoo, hco, hdo', hko, hpo, hno⟩ := id ho
  have hlen : more.length = eso.size := by rw [← hpo.length]; simp
  unfold mergeMapping
  have hsub := isSubtype_dict_dict
  have hslot := F.slot_dict_iter.lookup
  have hty := ho.typeIs
  wp_walk
  rw [hdd]
  refine wpAny_pure (two_ways (fun _ => ?_) ?_)
  · refine wpAny_dictEntries hoo hdo' ?_
    rw [← Array.forIn_toList]
    refine wpAny_forIn_list _ (fun rest _ s' => s' = s ∧ ∀ e ∈ rest, e ∈ eso) _ ?_ (fun b s' h => h.1) _ _ ⟨rfl, fun e he => Array.mem_toList_iff.mp he⟩
    rintro e rest b s' ⟨rfl, hin⟩
    obtain ⟨k, hk1, hk2⟩ := hko e (hin e List.mem_cons_self)
    have hno' := mix_noref hk1
    have fin : wpAny (model P w) A (pure (ForInStep.yield PUnit.unit) : Sem (ForInStep PUnit)) (fun r s2 => match r with | .yield _ => s2 = s' ∧ ∀ e ∈ rest, e ∈ eso | .done _ => s2 = s') E s' :=
      wpAny_pure ⟨rfl, fun x hx => hin x (List.mem_cons_of_mem _ hx)⟩
    obtain ⟨hsh, ky, vl⟩ := e
    cases ky with
    | ref a => exact absurd rfl (hno' a)
    | _ => exact fin
  · refine wpAny_bind (wpAny_dictEntries hoo hdo' ?_)
    refine wpAny_bind (wpAny_dictEpoch hoo hdo' ?_)
    refine wpAny_bind ?_
    refine wpAny_forIn_list _
      (fun rest _ s' => ∃ h' i, s' = { s with heap := h' } ∧ rest = (List.range eso.size).drop i ∧ i ≤ eso.size ∧ h'.DictOf (mixKind P w) d (merged kvs (more.take i)) ∧ h'.get? o = some oo ∧ Heap.SameBut d s.heap h')
      _ ?_ ?_ _ _ ⟨s.heap, 0, rfl, rfl, Nat.zero_le _, by simpa [merged] using hd, hoo, Heap.SameBut.refl _ _⟩
    · rintro x rest b s' ⟨h', i, rfl, hr, hi, hd', hoo', hs'⟩
      have hlt : i < eso.size := by
        rcases Nat.lt_or_ge i eso.size with h | h
        · exact h
        · rw [List.drop_of_length_le (by rw [List.length_range]; exact h)] at hr
          cases hr
      have hcons : (List.range eso.size).drop i = i :: (List.range eso.size).drop (i + 1) := by
        rw [List.drop_eq_getElem_cons (by rw [List.length_range]; exact hlt), List.getElem_range]
      rw [hcons] at hr
      obtain ⟨rfl, hrest⟩ := List.cons.inj hr
      refine wpAny_bind (wpAny_dictEntries hoo' hdo' ?_)
      rw [Array.getElem?_eq_getElem hlt]
      obtain ⟨⟨k, v⟩, hkv⟩ : ∃ kv, more[x]? = some kv := ⟨more[x]'(by rw [hlen]; exact hlt), List.getElem?_eq_getElem _⟩
      obtain ⟨hkey, hval⟩ := hpo.get? (e := eso[x]) (by simp [hlt]) hkv
      obtain ⟨k', hkey', hhash⟩ := hko eso[x] (Array.getElem_mem hlt)
      obtain rfl : k' = k := (mixKind P w).inj _ _ _ hkey' hkey
      have hroom : (merged kvs (more.take x)).length ≤ sizeLine := by
        have z1 := merged_length_le kvs (more.take x)
        rw [List.length_take] at z1
        omega
      show wpAny _ _ (holding [eso[x].key, eso[x].val] (dictPut d eso[x].hash eso[x].key eso[x].val) >>= _) _ _ _
      rw [hhash, hval]
      refine wpAny_bind (wpAny_holding (put_pairs hkey hd' hroom fun h'' hd'' hs'' => ?_))
      have hoo'' : h''.get? o = some oo := (hs''.2 o (Ne.symm hdo)).trans hoo'
      refine wpAny_bind (wpAny_dictEpoch hoo'' hdo' ?_)
      rw [if_neg (by simp)]
      exact wpAny_pure ⟨h'', x + 1, rfl, hrest, hlt, by rw [merged_take_succ kvs more x (k', v) hkv]; exact hd'', hoo'', hs'.trans hs''⟩
    · rintro b s' ⟨h', i, rfl, hr, hi, hd', hoo', hs'⟩
      have hin : i = eso.size := by
        rcases Nat.lt_or_ge i eso.size with h | h
        · rw [List.drop_eq_getElem_cons (by rw [List.length_range]; exact h)] at hr
          cases hr
        · exact Nat.le_antisymm hi h
      refine wpAny_pure (hQ h' ?_ hs')
      rw [hin, ← hlen, List.take_length] at hd'
      exact hd'
end
end DStar
set_option maxRecDepth 100000
set_option maxHeartbeats 4000000
namespace DStar
open PySem PySem.Spec PyProof.Rows L2
/-- {**e, k: v}: a new dict at p, a helper's at q -/
def tDStar (te tk tv : TE) : TE := fun σ H Q => ∀ p, H p = none → te σ (upd H p (.dK [])) fun x H1 => ∃ (a : Addr) (kvs : List (Key × V)), x = .ref a ∧ a ≠ p ∧ Rd H1 a (.dK kvs) ∧ H1 p = some (.dK []) ∧ (kvs.map (·.1)).Nodup ∧ kvs.length ≤ 1000 ∧
  ∀ q, (upd H1 p (.dK kvs)) q = none → tk σ (upd (upd H1 p (.dK kvs)) q (.dK [])) fun y H2 => tv σ H2 fun z H3 => H3 p = some (.dK kvs) ∧ H3 q = some (.dK []) ∧ ∃ k : Key, y = kV k ∧
    Q (.ref p) (upd (upd H3 q (.dK [(k, z)])) p (.dK (putK kvs k z)))
section
variable {X : Cx} {e ke ve : Expr} {te tk tv : TE} {pos : Pos}
theorem pe_dstar (he : PE X e te) (hk : PE X ke tk) (hv : PE X ve tv) : PE X (.Dict [none, some ke] [e, ve] pos) (tDStar te tk tv) := by
  refine ⟨fun pins s σ H Q I h => ?_⟩
  rw [arm_eval_Dict]
  refine wpAny_bind (wpAny_standAt ?_)
  unfold dictDisplay
  show wpAny _ _ (forIn [((none : Option (Sem Value)), (do let x ← eval e X.env; standAt pos; pure x)), (some (eval ke X.env), (do let x ← eval ve X.env; standAt pos; pure x))] _ _ >>= _) _ _ _
  simp only [List.forIn_cons, List.forIn_nil, List.isEmpty_nil, if_true, pure_bind, bind_assoc, List.nil_append, List.length_singleton, show ((1 : Nat) == 17) = false from rfl, Bool.false_eq_true, if_false, List.isEmpty_cons]
  have hn := I.hok.fresh (Nat.le_refl s.heap.objs.size)
  have I0 := I.laid (a := s.heap.objs.size) (o := .dK []) (h' := s.heap.push { cls := .type "dict", data := .dict #[] }) (t' := s.toks) (fun _ _ q => Heap.get?_push_of_some _ q) (Nat.le_refl _) (dk_empty s.heap I.big)
  have h0 := h _ hn
  refine wpAny_bind (wpAny_alloc ?_)
  generalize s.heap.objs.size = p at hn I0 h0
  refine wpAny_bind (wpAny_holding (wpAny_bind (thn (he.run pins _ σ _ _ I0 h0) fun v s1 ⟨x, H1, I1, r1, q1⟩ => wpAny_bind (wpAny_standAt (wpAny_pure ?_)))))
  obtain ⟨a, kvs, rfl, hap, ha, hp, hnd, hlen, q1⟩ := q1
  cases r1
  obtain ⟨_, hpS, vp, relp, dp⟩ := dk_of I1.hok hp
  cases relp
  obtain ⟨za, haS, va, rela, da⟩ := dk_rd I1.hok ha
  have hva : va.length = kvs.length := rela.length.symm
  have hndv : (va.map (·.1)).Nodup := by rw [← rela.keys]; exact hnd
  refine wpAny_bind (wpAny_onRaise (wpAny_tryCatch (wpAny_onRaise (wpAny_holding (merge_map (Ne.symm hap) haS dp da (fun h1 d1 sb1 => ?_) (by rw [sizeLine_eq, List.length_nil]; omega))))))
  rw [merged_nil_of_nodup va hndv] at d1
  have ex1 : ∃ o, h1.get? p = some o := let ⟨o, _, _, ho, _⟩ := d1; ⟨o, ho⟩
  have I2 := d_write (t' := s1.toks) I1 (by rw [hp]; exact True.intro) sb1 ex1 (dk_new (H' := upd H1 p (.dK kvs)) za hpS rela d1)
  -- the helper
  have hnq := I2.hok.fresh (Nat.le_refl h1.objs.size)
  have q2 := q1 _ hnq
  have I3 := I2.laid (a := h1.objs.size) (o := .dK []) (h' := h1.push { cls := .type "dict", data := .dict #[] }) (t' := s1.toks) (fun _ _ q => Heap.get?_push_of_some _ q) (Nat.le_refl _) (dk_empty h1 I2.big)
  refine wpAny_bind (wpAny_holding (wpAny_subDict (knd := mixKind X.prog X.w) (show 1 ≤ 15 by decide) ?_))
  show wpAny _ _ (evalPairs _) (fun vs s₁ => ∃ kvs', Carries (mixKind X.prog X.w) vs kvs' ∧ s₁.heap.DictOf (mixKind X.prog X.w) h1.objs.size [] ∧ _) _ _
  generalize h1.objs.size = hq at hnq q2 I3
  refine evalPairs_cons (thn (hk.run pins _ σ _ _ I3 q2) fun u s3 ⟨y, H2, I4, ry, q3⟩ => ?_)
  refine wpAny_bind (thn (hv.run pins s3 σ H2 _ I4 q3) fun u2 s4 ⟨z, H3, I5, rz, hp3, hq3, k, hy, q4⟩ => wpAny_bind (wpAny_standAt (wpAny_pure (evalPairs_nil ?_))))
  subst hy
  obtain ⟨_, hqS, vq, relq, dq⟩ := dk_of I5.hok hq3
  cases relq
  refine ⟨[(k, u2)], ⟨kV_is ry, rfl, True.intro⟩, dq, fun h5 d5 sb5 => ?_⟩
  have d5' : h5.DictOf (mixKind X.prog X.w) hq [(k, u2)] := d5
  have hpq : p ≠ hq := fun e => by
    rw [← e, upd_same] at hnq
    cases hnq
  have ex5 : ∃ o, h5.get? hq = some o := let ⟨o, _, _, ho, _⟩ := d5'; ⟨o, ho⟩
  have I6 := d_write (t' := s4.toks + [(u, u2)].length) I5 (by rw [hq3]; exact True.intro) sb5 ex5 (dk_new (H' := upd H3 hq (.dK [(k, z)])) (show 1 ≤ sizeLine by decide) hqS (.cons ⟨rfl, rz⟩ .nil) d5')
  have hp6 : (upd H3 hq (.dK [(k, z)])) p = some (.dK kvs) := (upd_ne hpq).trans hp3
  obtain ⟨z6, _, v6, rel6, d6⟩ := dk_of I6.hok hp6
  refine wpAny_bind (wpAny_onRaise (wpAny_holding (merge_map hpq hqS d6 d5' (fun h7 d7 sb7 => wpAny_pure ?_) (by rw [← rel6.length, sizeLine_eq]; show kvs.length + 1 ≤ _; omega))))
  have d7' : h7.DictOf (mixKind X.prog X.w) p (stored v6 k u2) := d7
  have ex7 : ∃ o, h7.get? p = some o := let ⟨o, _, _, ho, _⟩ := d7'; ⟨o, ho⟩
  have hz7 : (putK kvs k z).length ≤ sizeLine := by
    have := length_putK kvs k z
    rw [sizeLine_eq]; omega
  have I7 := d_write (t' := s4.toks + [(u, u2)].length) I6 (by rw [hp6]; exact True.intro) sb7 ex7 (dk_new (H' := upd (upd H3 hq (.dK [(k, z)])) p (.dK (putK kvs k z))) hz7 hpS (rel6.put k rz) d7')
  exact ⟨.ref p, _, I7, rfl, q4⟩
end
end DStar
set_option maxRecDepth 100000
set_option maxHeartbeats 4000000
namespace LVals
open PySem PySem.Spec PyProof.Rows L2
/-- list(e.values()) -/
def tListVals (te : TE) : TE := fun σ H Q => te σ H fun x H1 => ∃ (d : Addr) (kvs : List (Key × V)), x = .ref d ∧ H1 d = some (.dK kvs) ∧ ∀ p, H1 p = none → Q (.ref p) (upd H1 p (.lst (kvs.map (·.2))))
theorem vals_of {kvs : List (Key × V)} {vs : List (Key × Value)} {acc : Array Value} (r : KV kvs vs) (hi : ItemsOf (fun i v => ∃ k, vs[i]? = some (k, v)) acc vs.length) : Vals (kvs.map (·.2)) acc.toList := by
  have e : acc.toList = vs.map (·.2) := PySem.W.kdl_vals_eq acc.toList (by rw [Array.length_toList]; exact hi.1) fun j v hj => hi.2 j v (by rw [← Array.getElem?_toList]; exact hj)
  rw [e]
  unfold KV at r
  clear e hi
  induction r with
  | nil => exact .nil
  | cons h _ ih => exact .cons h.2 ih
section
variable {X : Cx} {e : Expr} {te : TE} {p apos cpos pos : Pos}
theorem pe_listVals (hg : Gl X "list") (hm : X.mg "list" = none) (he : PE X e te) (hc : X.calm = true := by rfl) (hbase : attributeBase e "values" X.env (eval e X.env) = eval e X.env := by rfl) (hline : (apos.endLine == cpos.line) = true := by rfl)
    (hs : starEach [.Call (.Attribute e "values" apos) [] [] cpos] X.env = (false, eval (.Call (.Attribute e "values" apos) [] [] cpos) X.env) :: starEach [] X.env := by rfl) :
    PE X (.Call (.Name "list" p) [.Call (.Attribute e "values" apos) [] [] cpos] [] pos) (tListVals te) := by
  refine ⟨fun pins s σ H Q I hq => wpAny_Call_Name_kw (ld_blt I hg hm PyProof.Rows.boot_list (PyProof.Rows.callWith_type1 ?_ hs rfl))⟩
  rw [hs]
  show wpAny _ _ (spliced ((false, eval (.Call (.Attribute e "values" apos) [] [] cpos) X.env) :: backTo pos (starEach [] X.env))) _ _ s
  refine Calls.spliced_cons (wpAny_Call_method (T := "dict") (id := "dict.values") hbase rfl hline F.plainAttrs_dict F.slot_dict_values F.type_dict_values (thn (he.run pins s σ H _ I hq) fun u s1 ⟨x, H1, I1, rx, d, kvs, ex, hd, q⟩ => ?_))
  subst ex
  obtain rfl : u = Value.ref d := rx
  obtain ⟨hz, hs0, vs, kv, hdo⟩ := I1.hok d _ hd
  obtain ⟨ep, hat⟩ := hdo.dictAt
  have lk : kvs.length = vs.length := Paired.length kv
  have I2 : L2.Inv X pins σ H1 { s1 with heap := s1.heap.push { cls := .type "dict_values", data := .fields #[.ref d] } } := I1.kept (t' := s1.toks) fun b ob q => Heap.get?_push_of_some _ q
  refine ⟨hdo.typeIs, hdo.mapOf.noDict, ?_⟩
  show wpAny _ _ (callWith cpos (.builtin "dict.values") [.ref d] [] []) _ X.xe s1
  refine method_meetsIn F.slot_dict_values F.entry_dict_values rfl (PySem.evalArgs_none ⟨rfl, hdo.typeIs, F.args_dict_values_1 _, _, meets_dict_values (mixKind X.prog X.w) d hs0, ⟨vs, hdo⟩, Calls.spliced_nil ?_⟩)
  refine PySem.W.kdl_call (PySem.W.kdl_values (knd := mixKind X.prog X.w) (kvs := vs) (ep := ep)) (I1.ok.hd hc) ⟨⟨_, Heap.get?_push_size _ rfl, rfl, rfl⟩, hat.push _⟩ (by omega) fun h' tk acc c hk hS hacc => ?_
  have hv := vals_of kv hacc
  refine ⟨.ref _, _, I2.laid (t' := tk) (o := .lst (kvs.map (·.2))) hk (Nat.le_refl _) ⟨by rw [List.length_map]; exact hz, acc.toList, c, hv, by rw [Array.toArray_toList]; exact hS⟩, rfl, q _ (I2.hok.fresh (Nat.le_refl _))⟩
end
end LVals
set_option maxRecDepth 100000
set_option maxHeartbeats 4000000
namespace WS
open PySem L2 SetT RevS
/-! ### what reading does, in turn -/
inductive Stp where
  | cases (c : Nat)
  | col (so : Bool) (at_ place : Nat) (added : List Nat) (ended : Option Nat)
  | over (at_ : Nat)
  | answer
inductive Tree where
  | cases (c : Nat) (rows : List (Int × Tree))
  | so (at_ place : Nat) (t : Tree)
  | taken (at_ place : Nat)
  | off (at_ place : Nat)
  | over (at_ : Nat)
  | answer
abbrev Figs := List (Nat × Int)
def keysF (fg : Figs) : List Nat := fg.map (·.1)
def valsF (fg : Figs) : List Int := fg.map (·.2)
def figAt (fg : Figs) (c : Nat) : Int := ((fg.find? fun p => decide (p.1 = c)).map (·.2)).getD 0
def kvsF (fg : Figs) : List (Key × V) := fg.map fun p => ((Sum.inr ⟨#[p.1]⟩ : Key), V.int p.2)
def upFrom (lo : Int) (n : Nat) : List Int := (List.range n).map fun (i : Nat) => lo + (i : Int)
/-- the figures that are free for a letter, rising -/
def freeF (b : Int) (fs : List Nat) (c : Nat) (fg : Figs) : List Int := (upFrom (if c ∈ fs then 1 else 0) (b - (if c ∈ fs then 1 else 0)).toNat).filter fun v => !decide (v ∈ valsF fg)
def colSum (fg : Figs) (k : Int) (added : List Nat) : Int := k + (added.map (figAt fg)).sum
def endFig (fg : Figs) : Option Nat → Int
  | none => 0
  | some c => figAt fg c
def readT (b : Int) (fs : List Nat) : List Stp → Figs → Int → Tree
  | [], _, _ => .answer
  | .cases c :: r, fg, k => .cases c ((freeF b fs c fg).map fun v => (v, readT b fs r (fg ++ [(c, v)]) k))
  | .col false at_ p added e :: r, fg, k => if colSum fg k added % b = endFig fg e then readT b fs r fg (colSum fg k added / b) else .off at_ p
  | .col true at_ p added e :: r, fg, k => if colSum fg k added % b ∈ freeF b fs (e.getD 0) fg then .so at_ p (readT b fs r (fg ++ [(e.getD 0, colSum fg k added % b)]) (colSum fg k added / b)) else .taken at_ p
  | .over at_ :: r, fg, k => if k = 0 then readT b fs r fg 0 else .over at_
  | .answer :: _, _, _ => .answer
/-- the answers that reading finds on its way, in its order -/
def foundT (b : Int) (fs L : List Nat) : List Stp → Figs → Int → List (List Int)
  | [], _, _ => []
  | .cases c :: r, fg, k => ((freeF b fs c fg).map fun v => foundT b fs L r (fg ++ [(c, v)]) k).flatten
  | .col false at_ p added e :: r, fg, k => if colSum fg k added % b = endFig fg e then foundT b fs L r fg (colSum fg k added / b) else []
  | .col true at_ p added e :: r, fg, k => if colSum fg k added % b ∈ freeF b fs (e.getD 0) fg then foundT b fs L r (fg ++ [(e.getD 0, colSum fg k added % b)]) (colSum fg k added / b) else []
  | .over at_ :: r, fg, k => if k = 0 then foundT b fs L r fg 0 else []
  | .answer :: _, fg, _ => [L.map (figAt fg)]
/-- what is asked is known, what is met is not -/
def WfS (L : List Nat) : List Stp → List Nat → Prop
  | [], _ => False
  | .cases c :: r, kn => c ∉ kn ∧ WfS L r (kn ++ [c])
  | .col false _ _ added e :: r, kn => (∀ c ∈ added, c ∈ kn) ∧ (∀ c, e = some c → c ∈ kn) ∧ WfS L r kn
  | .col true _ _ added e :: r, kn => (∀ c ∈ added, c ∈ kn) ∧ (∃ c, e = some c ∧ c ∉ kn) ∧ WfS L r (kn ++ [e.getD 0])
  | .over _ :: r, kn => WfS L r kn
  | .answer :: _, kn => ∀ c ∈ L, c ∈ kn
/-! ### figures and their dicts -/
theorem keysF_snoc (fg : Figs) (c : Nat) (v : Int) : keysF (fg ++ [(c, v)]) = keysF fg ++ [c] := by
  unfold keysF; rw [List.map_append] <;> rfl
theorem kvsF_look (fg : Figs) (c : Nat) : valV (kvsF fg) (Sum.inr ⟨#[c]⟩ : Key) = (fg.find? fun p => decide (p.1 = c)).map fun p => V.int p.2 := by
  induction fg with
  | nil => rfl
  | cons p r ih =>
    show valV (((Sum.inr ⟨#[p.1]⟩ : Key), V.int p.2) :: kvsF r) _ = _
    by_cases e : p.1 = c
    · rw [valV_pos (by rw [e]), List.find?_cons, decide_eq_true e]
      rfl
    · rw [valV_neg (fun h => e (kv_inj (Sum.inr.inj h))), List.find?_cons, decide_eq_false e, ih]
theorem kvsF_some {fg : Figs} {c : Nat} (h : c ∈ keysF fg) : valV (kvsF fg) (Sum.inr ⟨#[c]⟩ : Key) = some (.int (figAt fg c)) := by
  rw [kvsF_look]
  unfold figAt
  rcases e : fg.find? fun p => decide (p.1 = c) with _ | p
  · obtain ⟨q, hq, e2⟩ := List.mem_map.mp h
    have := List.find?_eq_none.mp e q hq
    simp [e2] at this
  · rw [e] <;> rfl
theorem kvsF_none {fg : Figs} {c : Nat} (h : c ∉ keysF fg) : valV (kvsF fg) (Sum.inr ⟨#[c]⟩ : Key) = none := by
  rw [kvsF_look]
  have : fg.find? (fun p => decide (p.1 = c)) = none := List.find?_eq_none.mpr fun q hq e => h (List.mem_map.mpr ⟨q, hq, of_decide_eq_true e⟩)
  rw [this] <;> rfl
theorem kvsF_snoc (fg : Figs) (c : Nat) (v : Int) : kvsF (fg ++ [(c, v)]) = kvsF fg ++ [((Sum.inr ⟨#[c]⟩ : Key), V.int v)] := by
  unfold kvsF; rw [List.map_append] <;> rfl
theorem kvsF_put {fg : Figs} {c : Nat} {v : Int} (h : c ∉ keysF fg) : putK (kvsF fg) (Sum.inr ⟨#[c]⟩ : Key) (.int v) = kvsF (fg ++ [(c, v)]) := by
  rw [putK_new _ (kvsF_none h), kvsF_snoc]
theorem kvsF_vals (fg : Figs) : (kvsF fg).map (·.2) = (valsF fg).map V.int := by
  unfold kvsF valsF; rw [List.map_map, List.map_map] <;> rfl
theorem kvsF_keys {fg : Figs} (h : (keysF fg).Nodup) : ((kvsF fg).map (·.1)).Nodup := by
  have e : (kvsF fg).map (·.1) = (keysF fg).map fun c => (Sum.inr ⟨#[c]⟩ : Key) := by
    unfold kvsF keysF; rw [List.map_map, List.map_map] <;> rfl
  rw [e, List.Nodup, List.pairwise_map]
  exact List.Pairwise.imp (R := fun a b => a ≠ b) (fun hab e => hab (kv_inj (Sum.inr.inj e))) h
theorem inV_int (v : Int) (ns : List Int) : inV (.int v) (ns.map V.int) = decide (v ∈ ns) := by
  unfold inV
  induction ns with
  | nil => simp
  | cons d r ih =>
    rw [List.map_cons, List.any_cons, ih]
    by_cases e : v = d
    · subst e; simp [eqV]
    · have h1 : eqV (V.int d) (V.int v) = false := by
        show (d == v) = false
        simpa [beq_iff_eq] using fun h : d = v => e h.symm
      rw [h1]
      simp [e]
theorem flat_int (ns : List Int) : (ns.map V.int).all flatV = true := by
  rw [List.all_map, List.all_eq_true]
  intro c _
  rfl
theorem freeF_le (b : Int) (fs : List Nat) (c : Nat) (fg : Figs) : (freeF b fs c fg).length ≤ b.toNat := by
  unfold freeF upFrom
  refine Nat.le_trans (List.length_filter_le _ _) ?_
  rw [List.length_map, List.length_range]
  split <;> omega
/-! ### on the heap -/
def stepWord : Bool → Str
  | true => "so"
  | false => "off"
def endText : Option Nat → Str
  | none => Str.empty
  | some c => ⟨#[c]⟩
def StepAt (H : Hp) (r : Addr) : Stp → Prop
  | .cases c => H r = some (.tup [.str "cases", sg c])
  | .col so a p added e => ∃ q, H r = some (.tup [.str (stepWord so), .int (a : Nat), .int (p : Nat), .ref q, .str (endText e)]) ∧ H q = some (.lst (added.map sg))
  | .over a => H r = some (.tup [.str "over", .int (a : Nat)])
  | .answer => H r = some (.tup [.str "answer"])
structure StepsAt (H : Hp) (rs : List Addr) (ps : List Stp) : Prop where
  len : rs.length = ps.length
  get : ∀ (i : Nat) (r : Addr) (p : Stp), rs[i]? = some r → ps[i]? = some p → StepAt H r p
theorem StepAt.same {H H' : Hp} {r : Addr} {p : Stp} (e : Same H H') (h : StepAt H r p) : StepAt H' r p := by
  cases p with
  | cases c => exact e _ _ h
  | col so a p added en => obtain ⟨q, h1, h2⟩ := h; exact ⟨q, e _ _ h1, e _ _ h2⟩
  | over a => exact e _ _ h
  | answer => exact e _ _ h
theorem StepsAt.same {H H' : Hp} {rs : List Addr} {ps : List Stp} (e : Same H H') (h : StepsAt H rs ps) : StepsAt H' rs ps := ⟨h.len, fun i r p a b => (h.get i r p a b).same e⟩
inductive TreeAt (H : Hp) : V → Tree → Prop where
  | answer {a : Addr} (h : H a = some (.tup [.str "answer"])) : TreeAt H (.ref a) .answer
  | over {a : Addr} {i : Nat} (h : H a = some (.tup [.str "over", .int (i : Nat)])) : TreeAt H (.ref a) (.over i)
  | off {a : Addr} {i p : Nat} (h : H a = some (.tup [.str "off", .int (i : Nat), .int (p : Nat)])) : TreeAt H (.ref a) (.off i p)
  | taken {a : Addr} {i p : Nat} (h : H a = some (.tup [.str "taken", .int (i : Nat), .int (p : Nat)])) : TreeAt H (.ref a) (.taken i p)
  | so {a : Addr} {i p : Nat} {w : V} {t : Tree} (h : H a = some (.tup [.str "so", .int (i : Nat), .int (p : Nat), w])) (ht : TreeAt H w t) : TreeAt H (.ref a) (.so i p t)
  | cases {a q : Addr} {c : Nat} {rs : List Addr} {ws : Nat → V} {rows : List (Int × Tree)} (h : H a = some (.tup [.str "cases", sg c, .ref q])) (hq : H q = some (.tup (rs.map V.ref))) (hl : rs.length = rows.length)
      (hr : ∀ (i : Nat) (r : Addr) (x : Int × Tree), rs[i]? = some r → rows[i]? = some x → H r = some (.tup [.int x.1, ws i])) (hw : ∀ (i : Nat) (x : Int × Tree), rows[i]? = some x → TreeAt H (ws i) x.2) : TreeAt H (.ref a) (.cases c rows)
theorem TreeAt.same {H H' : Hp} (e : Same H H') {v : V} {t : Tree} (h : TreeAt H v t) : TreeAt H' v t := by
  induction h with
  | answer h => exact .answer (e _ _ h)
  | over h => exact .over (e _ _ h)
  | off h => exact .off (e _ _ h)
  | taken h => exact .taken (e _ _ h)
  | so h _ ih => exact .so (e _ _ h) ih
  | cases h hq hl hr _ ih => exact .cases (e _ _ h) (e _ _ hq) hl (fun i r x a b => e _ _ (hr i r x a b)) ih
/-- trees do not lean on lists -/
theorem TreeAt.mut {H H' : Hp} {f : Addr} (e : But f H H') (hf : ∃ xs, H f = some (.lst xs)) {v : V} {t : Tree} (h : TreeAt H v t) : TreeAt H' v t := by
  obtain ⟨xs, hf⟩ := hf
  have ne : ∀ {a : Addr} {ys : List V}, H a = some (.tup ys) → a ≠ f := fun h => ne_of h hf (fun z => by cases z)
  induction h with
  | answer h => exact .answer (e _ _ (ne h) h)
  | over h => exact .over (e _ _ (ne h) h)
  | off h => exact .off (e _ _ (ne h) h)
  | taken h => exact .taken (e _ _ (ne h) h)
  | so h _ ih => exact .so (e _ _ (ne h) h) ih
  | cases h hq hl hr _ ih => exact .cases (e _ _ (ne h) h) (e _ _ (ne hq) hq) hl (fun i r x a b => e _ _ (ne (hr i r x a b)) (hr i r x a b)) ih
/-- answers: tuples of figures -/
structure AnsAt (H : Hp) (rs : List Addr) (as : List (List Int)) : Prop where
  len : rs.length = as.length
  get : ∀ (i : Nat) (r : Addr) (x : List Int), rs[i]? = some r → as[i]? = some x → H r = some (.tup (x.map V.int))
theorem AnsAt.same {H H' : Hp} (e : Same H H') {rs : List Addr} {as : List (List Int)} (h : AnsAt H rs as) : AnsAt H' rs as := ⟨h.len, fun i r x a b => e _ _ (h.get i r x a b)⟩
theorem AnsAt.mut {H H' : Hp} {f : Addr} (e : But f H H') (hf : ∃ xs, H f = some (.lst xs)) {rs : List Addr} {as : List (List Int)} (h : AnsAt H rs as) : AnsAt H' rs as := by
  obtain ⟨xs, hf⟩ := hf
  exact ⟨h.len, fun i r x a b => e _ _ (ne_of (h.get i r x a b) hf (fun z => by cases z)) (h.get i r x a b)⟩
theorem AnsAt.append {H : Hp} {rs rs' : List Addr} {as as' : List (List Int)} (h : AnsAt H rs as) (h' : AnsAt H rs' as') : AnsAt H (rs ++ rs') (as ++ as') := by
  refine ⟨by rw [List.length_append, List.length_append, h.len, h'.len], fun i r x a b => ?_⟩
  have hl := h.len
  by_cases hi : i < rs.length
  · rw [List.getElem?_append_left hi] at a
    rw [List.getElem?_append_left (by omega)] at b
    exact h.get i r x a b
  · rw [List.getElem?_append_right (by omega)] at a
    rw [List.getElem?_append_right (by omega)] at b
    rw [← h.len] at b
    exact h'.get _ r x a b
end WS
set_option maxRecDepth 100000
set_option maxHeartbeats 8000000
namespace WS
open PySem L2 SetT RevS
def spShSums (C : Addr) : Sp := fun vs H Q _ => ∃ (p : Addr) (b : Int) (kl : Addr) (ts : List Addr), vs = [.ref p] ∧ ShAt C H p b kl ts ∧ ts.length ≤ 1000 ∧ ∀ q H', H q = none → Same H H' → H' q = some (.lst (ts.map V.ref)) → Q (.ref q) H'
def spFirsts (C : Addr) : Sp := fun vs H Q _ => ∃ (p : Addr) (b : Int) (kl : Addr) (ts : List Addr) (ss : List WSum), vs = [.ref p] ∧ ShAt C H p b kl ts ∧ SumsAt H ts ss ∧ Valid b ss ∧ ∀ q H', H q = none → Same H H' → H' q = some (.lst ((firstsOf ss).map sg)) → Q (.ref q) H'
section
variable {P : Program} {w : World} {K : PySem.W.Frag} {mg : Str → Option Value} {base : Heap}
theorem scShSums : FnScope ["self"] ["self"] (defScope sShSums) := ⟨rfl, rfl, rfl, by decide +kernel, rfl, by decide +kernel, by decide +kernel⟩
theorem ok_shsums {f C : Addr} {fd : FuncData} (F : Fun K "sums" "Sheet.sums" sShSums f fd) (T : SheetTxt K mg C) (z_list : mg "list" = none) : FnOk P w K mg base CX0 1 f fd ["self"] (spShSums C) := by
  refine F.ok scShSums (fun vs H Q E h => ?_) (fun cdv A outer s H vs Q E hr h => ?_)
  · obtain ⟨p, b, kl, ts, rfl, _⟩ := h
    rfl
  · obtain ⟨p, b, kl, ts, rfl, A', hn, k⟩ := h
    obtain ⟨⟨dx, hp⟩, hkl⟩ := id A'
    refine ⟨_, (pss_one (ps_ret (pe_callTy call_list_of (by rfl) z_list (by decide +kernel) (pa_cons (pe_fld (pv 0) rfl) pa_nil)))), ?_⟩
    exact ⟨_, rfl, p, C, dx, _, _, rfl, hp, T.cl, T.nK, flds_kept _ _, kl, _, rfl, .inl (SqL.of hkl), fun q hq => k q _ hq (Same.new hq) upd_same⟩
theorem scFirsts : FnScope ["sheet", "firsts", "addends", "total", "word"] ["sheet"] (defScope sFirsts) := ⟨rfl, rfl, rfl, by decide +kernel, rfl, by decide +kernel, by decide +kernel⟩
theorem ok_firsts {f C fS : Addr} {fd fdS : FuncData} (F : Fun K "first_letters" "first_letters" sFirsts f fd) (T : SheetTxt K mg C) (z_len : mg "len" = none)
    (mSs : Meth K C "sums" fS) (bSs : Binds K fdS ["self"] []) (GSs : FnOk P w K mg base CX0 1 fS fdS ["self"] (spShSums C)) : FnOk P w K mg base CX0 2 f fd ["sheet"] (spFirsts C) := by
  refine F.ok scFirsts (fun vs H Q E h => ?_) (fun cdv A outer s H vs Q E hr h => ?_)
  · obtain ⟨p, b, kl, ts, ss, rfl, _⟩ := h
    rfl
  · obtain ⟨p, b, kl, ts, ss, rfl, A', hsa, V', k⟩ := h
    have nd := scFirsts.nd
    obtain ⟨⟨dx, hp⟩, hkl⟩ := id A'
    refine ⟨_, (pss_cons (ps_set (i := 1) nd rfl (.inl rfl) (pe_lst pa_nil))
      (pss_cons (ps_for PassesOwn.never rfl (pi_list (pe_meth0 (pv 0) T.cl mSs GSs hr bSs .nil pass0)) (pg_tup rfl (pgs_cons (pg_name (i := 2) nd rfl (.inl rfl)) (pgs_cons (pg_name (i := 3) nd rfl (.inl rfl)) pgs_nil))) (pss_one (ps_expr (pe_bm PySem.F.plainAttrs_list PySem.F.slot_list_extend PySem.F.type_list_extend mt_extend (pv 1) (pa_cons (pe_lc (own := [("word", 4)]) (g := (gName 4))  rfl nd (pi_tup (pe_tup (StX.pa_star (pv 2) (pa_cons (pv 3) pa_nil)))) (blkOk_by (own := [("word", 4)]) (N := ["sheet", "firsts", "addends", "total", "word"]) (sc := defScope sFirsts) (by decide +kernel)) (fun _ _ _ _ _ => (pg_name (i := 4) nd rfl (.inl rfl))) (fun _ _ _ _ _ => pts_one (pt_cmpR op_gt (pe_callB call_len_str (by rfl) z_len PySem.boot_len (pa_cons (pv 4) pa_nil)) pe_int (nomark _))) (fun _ _ _ _ _ => (pe_ix (r := rIxS) ix_str (pv 4) pe_int (fun _ _ => rfl)))) pa_nil)))))
      (pss_one (ps_ret (pv 1))))), ?_⟩
    refine ⟨by show 0 ≤ sizeLine; decide, fun m hm => ?_⟩
    have hl := hsa.len
    have hf := V'.few
    have A1 := A'.same (Same.new (o := .lst []) hm)
    refine ⟨_, rfl, p, dx, _, rfl, (upd_ne (ne_of_none hp hm)).trans hp, flds_no _ _ (by decide +kernel) (by decide +kernel), p, b, kl, ts, rfl, A1, by omega, fun q H1 hq s1 hq1 => ?_⟩
    have s01 : Same H H1 := (Same.new hm).trans s1
    have hm1 : H1 m = some (.lst []) := s1 _ _ upd_same
    have hqm : q ≠ m := fun e => by rw [e, upd_same] at hq; cases hq
    refine ⟨q, rfl, ⟨_, SqL.of hq1⟩, for_list (K := K) (a := q) (xs := ts.map V.ref) (fun i σ H2 => ∃ v2 v3, σ = [some (.ref p), some (.ref m), v2, v3, none] ∧ Same H H2 ∧ H2 q = some (.lst (ts.map V.ref)) ∧ H2 m = some (.lst ((firstsOf (ss.take i)).map sg)))
      ⟨none, none, rfl, s01, hq1, hm1⟩ (fun i σ H2 _ ⟨_, _, _, _, h, _⟩ => SqL.of h) ?_ ?_⟩
    · rintro i x σ H2 hi ⟨v2, v3, rfl, s2, hq2, hm2⟩
      obtain ⟨t, ht, rfl⟩ := refs_at hi
      have hil : i < ts.length := (List.getElem?_eq_some_iff.mp ht).1
      have hiss : i < ss.length := hsa.len ▸ hil
      have hs : ss[i]? = some ss[i] := List.getElem?_eq_getElem hiss
      generalize hsg : ss[i] = sm at hs
      have hsm : sm ∈ ss := List.mem_of_getElem? hs
      obtain ⟨u, ht1, hu1⟩ := (hsa.get i t sm ht hs).same s2
      have hw := words_of V' hsm
      obtain ⟨m1, m4⟩ := V'.many sm hsm
      have hy : sm.1.map V.str ++ [V.str sm.2] = (sm.1 ++ [sm.2]).map V.str := by rw [List.map_append] <;> rfl
      refine ⟨t, _, rfl, SqT.of ht1, rfl, _, _, rfl, _, _, rfl, rfl, ?_⟩
      refine ⟨_, rfl, .inl ⟨rfl, _, SqL.of hm2⟩, _, rfl, u, _, rfl, .inl (SqT.of hu1), _, rfl, ?_, fun q2 hq2' => ?_⟩
      · rw [List.length_append, List.length_map]
        exact line_of (by show _ + 1 ≤ _; omega)
      refine ⟨q2, rfl, ⟨_, SqT.of upd_same⟩, fun D hD => ?_⟩
      rw [hy] at hD ⊢
      have hqD : q2 ≠ D := ne_of_none upd_same hD
      have hD2 : H2 D = none := by rw [upd_ne (Ne.symm hqD)] at hD; exact hD
      refine lc_tup (K := K) (a := q2) (xs := (sm.1 ++ [sm.2]).map V.str) (fun j H4 => H4 = upd (upd H2 q2 (.tup ((sm.1 ++ [sm.2]).map V.str))) D (.lst ((firstsW ((sm.1 ++ [sm.2]).take j)).map sg))) rfl
        (fun j H4 _ e => by rw [e]; exact SqT.of ((upd_ne hqD).trans upd_same)) ?_ ?_
      · rintro j y H4 hj rfl
        obtain ⟨z, hz', rfl⟩ := strs_at' hj
        have hzm := List.mem_of_getElem? hz'
        have hzl := (isWord_iff.mp (hw z hzm)).1
        obtain ⟨c, hc1, hc2, _⟩ := head_of hzl.1
        refine ⟨rfl, _, rfl, z, rfl, line_of (by omega), _, _, rfl, rfl, _, rfl, ite2 (fun h => ?_) (fun h => ?_)⟩
        · have hl1 : 1 < z.length := by have := of_decide_eq_true h; omega
          refine ⟨_, rfl, z, 0, c, rfl, rfl, line_of (by omega), at_ofG (j := 0) rfl hc2, _, upd_same, ?_, ?_⟩
          · have h1 := firstsW_len ((sm.1 ++ [sm.2]).take j)
            rw [List.length_take, List.length_append] at h1
            rw [List.length_map]
            have h2 : (firstsW ((sm.1 ++ [sm.2]).take j)).length ≤ sm.1.length + 1 := Nat.le_trans h1 (Nat.min_le_right _ _)
            exact line_lt (by omega)
          · rw [upd_upd, take_snoc hz', firsts_snoc_long hl1 hc1]
            have e : (firstsW ((sm.1 ++ [sm.2]).take j) ++ [c]).map sg = (firstsW ((sm.1 ++ [sm.2]).take j)).map sg ++ [V.str ⟨#[c]⟩] := by rw [List.map_append] <;> rfl
            rw [e]
        · have hl1 : ¬ 1 < z.length := fun h' => h (decide_eq_true (by omega))
          show upd _ D _ = upd _ D _
          rw [take_snoc hz', firsts_snoc_short hl1]
      · rintro H4 rfl
        rw [List.length_map, List.take_length]
        have hmD : m ≠ D := ne_of_none hm2 hD2
        have hmq : m ≠ q2 := ne_of_none hm2 hq2'
        have s24 : Same H2 (upd (upd H2 q2 (.tup ((sm.1 ++ [sm.2]).map V.str))) D (.lst ((firstsW (sm.1 ++ [sm.2])).map sg))) := (Same.new hq2').trans (Same.new hD)
        have hl4 := firstsOf_len (ss := ss.take i) fun s hs => (V'.many s (List.mem_of_mem_take hs)).2
        rw [List.length_take] at hl4
        have hl5 := firstsW_len (sm.1 ++ [sm.2])
        rw [List.length_append] at hl5
        have hl5' : (firstsW (sm.1 ++ [sm.2])).length ≤ sm.1.length + 1 := hl5
        refine ⟨m, D, _, _, rfl, rfl, (upd_ne hmD).trans ((upd_ne hmq).trans hm2), upd_same, ?_, ?_⟩
        · rw [List.length_map, List.length_map]
          exact line_of (by omega)
        · refine ⟨_, _, rfl, Same.mut (s2.trans s24) hm, (upd_ne hqm).trans (s24 _ _ hq2), ?_⟩
          rw [upd_same, firstsOf_take hs, List.map_append]
    · rintro σ H2 ⟨v2, v3, rfl, s2, hq2, hm2⟩
      rw [List.length_map, hsa.len, List.take_length] at hm2
      exact ⟨_, rfl, k m _ hm s2 hm2⟩
end
end WS
set_option maxRecDepth 100000
set_option maxHeartbeats 8000000
namespace WS
open PySem L2 SetT RevS
abbrev St2 := List Stp × List Nat
def stLetter (st : St2) (c : Nat) : St2 := if c ∈ st.2 then st else (st.1 ++ [.cases c], st.2 ++ [c])
def stLets (st : St2) (cs : List Nat) : St2 := cs.foldl stLetter st
def soOf (e : Option Nat) (kn : List Nat) : Bool := match e with
  | none => false
  | some c => !decide (c ∈ kn)
def addE (kn : List Nat) (e : Option Nat) : List Nat := match e with
  | none => kn
  | some c => addN kn c
def endOf (z : Str) (p : Nat) : Option Nat := z.cps.toList.reverse[p]?
def stCol (i : Nat) (s : WSum) (st : St2) (p : Nat) : St2 :=
  ((stLets st (col s.1 p)).1 ++ [.col (soOf (endOf s.2 p) (stLets st (col s.1 p)).2) i p (col s.1 p) (endOf s.2 p)], addE (stLets st (col s.1 p)).2 (endOf s.2 p))
def stCols (i : Nat) (s : WSum) (st : St2) (j : Nat) : St2 := (List.range j).foldl (stCol i s) st
def stSum (i : Nat) (s : WSum) (st : St2) : St2 := ((stCols i s st (maxLen (s.1 ++ [s.2]))).1 ++ [.over i], (stCols i s st (maxLen (s.1 ++ [s.2]))).2)
def stepsSt (ss : List WSum) : St2 := ss.zipIdx.foldl (fun st p => stSum p.2 p.1 st) ([], [])
/-- what reading does, in turn -/
def stepsOf (ss : List WSum) : List Stp := (stepsSt ss).1 ++ [.answer]
theorem stLets_snoc {st : St2} {cs : List Nat} {n c : Nat} (h : cs[n]? = some c) : stLets st (cs.take (n + 1)) = stLetter (stLets st (cs.take n)) c := by
  unfold stLets
  rw [take_snoc h, List.foldl_append] <;> rfl
theorem stCols_succ (i : Nat) (s : WSum) (st : St2) (j : Nat) : stCols i s st (j + 1) = stCol i s (stCols i s st j) j := by
  unfold stCols
  rw [List.range_succ, List.foldl_append] <;> rfl
theorem stepsSt_take {ss : List WSum} {i : Nat} {s : WSum} (h : ss[i]? = some s) : stepsSt (ss.take (i + 1)) = stSum i s (stepsSt (ss.take i)) := by
  have hi : i < ss.length := (List.getElem?_eq_some_iff.mp h).1
  unfold stepsSt
  rw [take_snoc h, List.zipIdx_append, List.foldl_append]
  have e : (ss.take i).length = i := by rw [List.length_take]; omega
  rw [e, Nat.zero_add] <;> rfl
theorem endText_of (z : Str) (p : Nat) : endText (endOf z p) = letterAt z p := by
  unfold endText endOf letterAt
  cases z.cps.toList.reverse[p]? <;> rfl
/-- the dict of what is known: the empty text and the letters -/
def knKvs (kn : List Nat) : List (Key × V) := ((Sum.inr ("" : Str) : Key), V.bl true) :: kn.map kvOf
theorem noEmpty (c : Nat) : ¬ ((Sum.inr ("" : Str) : Key) = Sum.inr ⟨#[c]⟩) := fun h => by
  have h2 := congrArg (fun s : Str => s.cps.size) (Sum.inr.inj h)
  have h3 : (("" : Str)).cps.size = 0 := by decide +kernel
  have h4 : (("" : Str)).cps.size = 1 := h2
  omega
theorem kv_look (kn : List Nat) (c : Nat) : (valV (kn.map kvOf) (Sum.inr ⟨#[c]⟩ : Key)).isSome = decide (c ∈ kn) := by
  induction kn with
  | nil => simp [valV]
  | cons d r ih =>
    rw [List.map_cons]
    by_cases e : d = c
    · subst e
      unfold kvOf
      rw [valV_pos rfl]
      simp
    · unfold kvOf at ih ⊢
      rw [valV_neg (fun h => e (kv_inj (Sum.inr.inj h))), ih]
      have : (c ∈ d :: r) ↔ c ∈ r := by
        rw [List.mem_cons]
        exact ⟨fun h => h.elim (fun h => absurd h.symm e) id, .inr⟩
      rw [decide_eq_decide]
      exact this.symm
theorem kn_look (kn : List Nat) (c : Nat) : (valV (knKvs kn) (Sum.inr ⟨#[c]⟩ : Key)).isSome = decide (c ∈ kn) := by
  unfold knKvs
  rw [valV_neg (noEmpty c), kv_look]
theorem kn_put (kn : List Nat) (c : Nat) : putK (knKvs kn) (Sum.inr ⟨#[c]⟩ : Key) (.bl true) = knKvs (addN kn c) := by
  have h := put_kv kn c
  unfold putK at h ⊢
  unfold knKvs
  rw [List.any_cons, decide_eq_false (noEmpty c), Bool.false_or]
  split at h <;> rename_i hx
  · rw [if_pos hx, List.map_cons, h, if_neg (noEmpty c)]
  · rw [if_neg hx, List.cons_append, h]
theorem kn_empty (kn : List Nat) : putK (knKvs kn) (Sum.inr ("" : Str) : Key) (.bl true) = knKvs kn := by
  unfold knKvs putK
  rw [List.any_cons, decide_eq_true rfl, Bool.true_or, if_pos rfl, List.map_cons, if_pos rfl]
  congr 1
  rw [List.map_map]
  refine List.map_congr_left fun c _ => ?_
  show (if (kvOf c).1 = (Sum.inr ("" : Str) : Key) then ((kvOf c).1, V.bl true) else kvOf c) = kvOf c
  rw [if_neg fun h => noEmpty c h.symm]
theorem end_look (kn : List Nat) (z : Str) (p : Nat) : (valV (knKvs kn) (Sum.inr (letterAt z p) : Key)).isSome = !soOf (endOf z p) kn := by
  rw [← endText_of]
  cases e : endOf z p with
  | none =>
    show (valV (knKvs kn) (Sum.inr Str.empty : Key)).isSome = true
    have e0 : Str.empty = ("" : Str) := by decide +kernel
    rw [e0]
    unfold knKvs
    rw [valV_pos rfl] <;> rfl
  | some c =>
    show (valV (knKvs kn) (Sum.inr ⟨#[c]⟩ : Key)).isSome = !(!decide (c ∈ kn))
    rw [kn_look, Bool.not_not]
theorem end_put (kn : List Nat) (z : Str) (p : Nat) : putK (knKvs kn) (Sum.inr (letterAt z p) : Key) (.bl true) = knKvs (addE kn (endOf z p)) := by
  rw [← endText_of]
  cases e : endOf z p with
  | none =>
    show putK (knKvs kn) (Sum.inr Str.empty : Key) (.bl true) = knKvs kn
    have e0 : Str.empty = ("" : Str) := by decide +kernel
    rw [e0, kn_empty]
  | some c => exact kn_put kn c
theorem addN_len (L : List Nat) (c : Nat) : (addN L c).length ≤ L.length + 1 := by
  unfold addN
  split
  · omega
  · rw [List.length_append]; exact Nat.le_refl _
/-- steps are told at off H m: what the growing list itself holds does not matter -/
structure StInv (H H2 : Hp) (m d : Addr) (st : St2) (n : Nat) : Prop where
  sm : Same H H2
  lst : ∃ rs, H2 m = some (.lst (rs.map V.ref)) ∧ StepsAt (off H2 m) rs st.1
  kn : H2 d = some (.dK (knKvs st.2))
  bd : st.1.length ≤ n ∧ st.2.length ≤ n
theorem StInv.same {H H2 H3 : Hp} {m d : Addr} {st : St2} {n : Nat} (I : StInv H H2 m d st n) (e : Same H2 H3) : StInv H H3 m d st n := by
  obtain ⟨rs, h1, h2⟩ := I.lst
  exact ⟨I.sm.trans e, ⟨rs, e _ _ h1, h2.same (But.of e).off⟩, e _ _ I.kn, I.bd⟩
theorem StInv.le {H H2 : Hp} {m d : Addr} {st : St2} {n n' : Nat} (I : StInv H H2 m d st n) (h : n ≤ n') : StInv H H2 m d st n' :=
  ⟨I.sm, I.lst, I.kn, Nat.le_trans I.bd.1 h, Nat.le_trans I.bd.2 h⟩
theorem StepAt.butD {H H' : Hp} {d : Addr} {r : Addr} {p : Stp} (e : But d H H') (hd : ∃ kvs, H d = some (.dK kvs)) (h : StepAt H r p) : StepAt H' r p := by
  obtain ⟨kvs, hd⟩ := hd
  have nt : ∀ {a : Addr} {ys : List V}, H a = some (.tup ys) → a ≠ d := fun h => ne_of h hd (fun z => by cases z)
  have nl : ∀ {a : Addr} {ys : List V}, H a = some (.lst ys) → a ≠ d := fun h => ne_of h hd (fun z => by cases z)
  cases p with
  | cases c => exact e _ _ (nt h) h
  | col so a p added en => obtain ⟨q, h1, h2⟩ := h; exact ⟨q, e _ _ (nt h1) h1, e _ _ (nl h2) h2⟩
  | over a => exact e _ _ (nt h) h
  | answer => exact e _ _ (nt h) h
theorem StInv.put {H H2 : Hp} {m d : Addr} {st : St2} {n : Nat} {kn : List Nat} (I : StInv H H2 m d st n) (hd : H d = none) (hmd : m ≠ d) (hl : kn.length ≤ n) : StInv H (upd H2 d (.dK (knKvs kn))) m d (st.1, kn) n := by
  obtain ⟨rs, h1, h2⟩ := I.lst
  have eo : But d (off H2 m) (off (upd H2 d (.dK (knKvs kn))) m) := fun b o hb h => by
    obtain ⟨hbm, h⟩ := off_at h
    rw [off_ne hbm, upd_ne hb]; exact h
  exact ⟨Same.mut I.sm hd, ⟨rs, (upd_ne hmd).trans h1, h2.len, fun i r p a b => (h2.get i r p a b).butD eo ⟨_, (off_ne (Ne.symm hmd)).trans I.kn⟩⟩, upd_same, I.bd.1, hl⟩
theorem StInv.push {H H2 : Hp} {m d r : Addr} {st : St2} {n : Nat} {p : Stp} {rs : List Addr} (I : StInv H H2 m d st n) (hm : H m = none) (hmd : m ≠ d) (h1 : H2 m = some (.lst (rs.map V.ref))) (hr : StepAt (off H2 m) r p) :
    StInv H (upd H2 m (.lst (rs.map V.ref ++ [.ref r]))) m d (st.1 ++ [p], st.2) (n + 1) := by
  obtain ⟨rs', h1', h2⟩ := I.lst
  have er : rs' = rs := by
    rw [h1] at h1'
    have := HO.lst.inj (Option.some.inj h1')
    exact (List.map_inj_right (fun x y h => V.ref.inj h)).mp this.symm
  subst er
  have eo : off (upd H2 m (.lst (rs'.map V.ref ++ [.ref r]))) m = off H2 m := by
    funext b
    unfold off
    split
    · rfl
    · rename_i hb; exact upd_ne hb
  refine ⟨Same.mut I.sm hm, ⟨rs' ++ [r], by rw [upd_same, List.map_append] <;> rfl, ?_⟩, (upd_ne (Ne.symm hmd)).trans I.kn, ?_, Nat.le_succ_of_le I.bd.2⟩
  · rw [eo]
    refine ⟨by rw [List.length_append, List.length_append, h2.len] <;> rfl, fun i a b ha hb => ?_⟩
    have hl := h2.len
    by_cases hi : i < rs'.length
    · rw [List.getElem?_append_left hi] at ha
      rw [List.getElem?_append_left (by omega)] at hb
      exact h2.get i a b ha hb
    · rw [List.getElem?_append_right (by omega)] at ha
      rw [List.getElem?_append_right (by omega)] at hb
      rw [← hl] at hb
      have h0 : i - rs'.length = 0 := by
        have := (List.getElem?_eq_some_iff.mp ha).1
        simp at this; omega
      rw [h0] at ha hb
      cases Option.some.inj ha
      cases Option.some.inj hb
      exact hr
  · show (st.1 ++ [p]).length ≤ _
    rw [List.length_append]
    exact Nat.succ_le_succ I.bd.1
end WS
set_option maxRecDepth 100000
set_option maxHeartbeats 8000000
namespace WS
open PySem L2 SetT RevS
def spSteps (C : Addr) : Sp := fun vs H Q _ => ∃ (p : Addr) (b : Int) (kl : Addr) (ts : List Addr) (ss : List WSum), vs = [.ref p] ∧ ShAt C H p b kl ts ∧ SumsAt H ts ss ∧ Valid b ss ∧
  ∀ q rs H', H q = none → Same H H' → H' q = some (.lst (rs.map V.ref)) → StepsAt H' rs (stepsOf ss) → Q (.ref q) H'
section
variable {P : Program} {w : World} {K : PySem.W.Frag} {mg : Str → Option Value} {base : Heap}
theorem scSteps : FnScope ["sheet", "steps", "known", "at", "addends", "total", "place", "added", "letter", "ended"] ["sheet"] (defScope sStepsOf) := ⟨rfl, rfl, rfl, by decide +kernel, rfl, by decide +kernel, by decide +kernel⟩
theorem ok_steps {f C fS fA fB fL : Addr} {fd fdS fdA fdB fdL : FuncData} (F : Fun K "steps_of" "steps_of" sStepsOf f fd) (T : SheetTxt K mg C) (z_range : mg "range" = none) (z_enumerate : mg "enumerate" = none)
    (mSs : Meth K C "sums" fS) (bSs : Binds K fdS ["self"] []) (GSs : FnOk P w K mg base CX0 1 fS fdS ["self"] (spShSums C))
    (S_column_count : Site K mg "column_count" fA fdA ["addends", "total"]) (G_column_count : FnOk P w K mg base CX0 1 fA fdA ["addends", "total"] (spColCount K))
    (S_column_of : Site K mg "column_of" fB fdB ["words", "place"]) (G_column_of : FnOk P w K mg base CX0 2 fB fdB ["words", "place"] (spColOf K))
    (S_letter_at : Site K mg "letter_at" fL fdL ["word", "place"]) (G_letter_at : FnOk P w K mg base CX0 1 fL fdL ["word", "place"] spLetterAt) :
    FnOk P w K mg base CX0 3 f fd ["sheet"] (spSteps C) := by
  refine F.ok scSteps (fun vs H Q E h => ?_) (fun cdv A outer s H vs Q E hr h => ?_)
  · obtain ⟨p, b, kl, ts, ss, rfl, _⟩ := h
    rfl
  · obtain ⟨p, b, kl, ts, ss, rfl, A', hsa, V', k⟩ := h
    have nd := scSteps.nd
    have hu := hu_of hr
    have hr1 : Room 1 _ := hr.mono (by decide)
    have hr_column_count := hr1
    have hr_letter_at := hr1
    have hr_column_of := hr
    obtain ⟨⟨dx, hp⟩, hkl⟩ := id A'
    refine ⟨_, (pss_cons (ps_set (i := 1) nd rfl (.inl rfl) (pe_lst pa_nil))
      (pss_cons (ps_set (i := 2) nd rfl (.inl rfl) (pe_disp (pps_cons pe_str pe_bl pps_nil) (by rfl) (by rfl) (by simp) (by decide)))
      (pss_cons (ps_for PassesOwn.never rfl (pi_enum (by rfl) z_enumerate (pa_cons (pe_meth0 (pv 0) T.cl mSs GSs hr1 bSs .nil pass0) pa_nil)) (pg_tup rfl (pgs_cons (pg_name (i := 3) nd rfl (.inl rfl)) (pgs_cons (pg_tup rfl (pgs_cons (pg_name (i := 4) nd rfl (.inl rfl)) (pgs_cons (pg_name (i := 5) nd rfl (.inl rfl)) pgs_nil))) pgs_nil))) (pss_cons (ps_for PassesOwn.never rfl (pi_range1 (by rfl) z_range (pa_cons (pe_call G_column_count hr_column_count (by rfl) S_column_count.g S_column_count.k S_column_count.b .nil pass0 (pa_cons (pv 4) (pa_cons (pv 5) pa_nil))) pa_nil)) (pg_name (i := 6) nd rfl (.inl rfl)) (pss_cons (ps_set (i := 7) nd rfl (.inl rfl) (pe_call G_column_of hr_column_of (by rfl) S_column_of.g S_column_of.k S_column_of.b .nil pass0 (pa_cons (pv 4) (pa_cons (pv 6) pa_nil))))
      (pss_cons (ps_for PassesOwn.never rfl (pi_list (pv 7)) (pg_name (i := 8) nd rfl (.inl rfl)) (pss_one (ps_if (pt_cmp (pc_dnotin hu (pv 8) (pv 2))) (pss_cons (ps_dput hu (pv 2) (pv 8) pe_bl rfl)
      (pss_one (ps_expr (pe_bm PySem.F.plainAttrs_list PySem.F.slot_list_append PySem.F.type_list_append mt_append (pv 1) (pa_cons (pe_tup (pa_cons pe_str (pa_cons (pv 8) pa_nil))) pa_nil))))) pss_nil)))
      (pss_cons (ps_set (i := 9) nd rfl (.inl rfl) (pe_call G_letter_at hr_letter_at (by rfl) S_letter_at.g S_letter_at.k S_letter_at.b .nil pass0 (pa_cons (pv 5) (pa_cons (pv 6) pa_nil))))
      (pss_cons (ps_expr (pe_bm PySem.F.plainAttrs_list PySem.F.slot_list_append PySem.F.type_list_append mt_append (pv 1) (pa_cons (pe_tup (pa_cons (pe_ifExp (pt_cmp (pc_din hu (pv 9) (pv 2))) pe_str pe_str) (pa_cons (pv 3) (pa_cons (pv 6) (pa_cons (pv 7) (pa_cons (pv 9) pa_nil)))))) pa_nil)))
      (pss_one (ps_dput hu (pv 2) (pv 9) pe_bl rfl)))))))
      (pss_one (ps_expr (pe_bm PySem.F.plainAttrs_list PySem.F.slot_list_append PySem.F.type_list_append mt_append (pv 1) (pa_cons (pe_tup (pa_cons pe_str (pa_cons (pv 3) pa_nil))) pa_nil))))))
      (pss_cons (ps_expr (pe_bm PySem.F.plainAttrs_list PySem.F.slot_list_append PySem.F.type_list_append mt_append (pv 1) (pa_cons (pe_tup (pa_cons pe_str pa_nil)) pa_nil)))
      (pss_one (ps_ret (pv 1))))))), ?_⟩
    refine ⟨by show 0 ≤ sizeLine; decide, fun m hm => ?_⟩
    refine fun d hd => ⟨upd_same, [((Sum.inr ("" : Str) : Key), V.bl true)], rfl, by decide, ?_⟩
    rw [upd_upd]
    have hmd : m ≠ d := fun e => by rw [← e, upd_same] at hd; cases hd
    have hd0 : H d = none := by rw [upd_ne (Ne.symm hmd)] at hd; exact hd
    have ek : mergeK [] [((Sum.inr ("" : Str) : Key), V.bl true)] = knKvs [] := rfl
    rw [ek]
    have s0 : Same H (upd (upd H m (.lst [])) d (.dK (knKvs []))) := (Same.new hm).trans (Same.new hd)
    have I0 : StInv H (upd (upd H m (.lst [])) d (.dK (knKvs []))) m d ([], []) 0 :=
      ⟨s0, ⟨[], (upd_ne hmd).trans upd_same, rfl, fun i r p a => by simp at a⟩, upd_same, Nat.le_refl _, Nat.le_refl _⟩
    generalize upd (upd H m (.lst [])) d (.dK (knKvs [])) = H1 at s0 I0
    have hl := hsa.len
    have hf := V'.few
    refine ⟨_, rfl, p, dx, _, rfl, s0 _ _ hp, flds_no _ _ (by decide +kernel) (by decide +kernel), p, b, kl, ts, rfl, A'.same s0, by omega, fun q H2 hq s2 hq2 => ?_⟩
    have I2 := I0.same s2
    have hqm : m ≠ q := I0.lst.elim fun rs h => ne_of_none h.1 hq
    have hqd : d ≠ q := ne_of_none I0.kn hq
    have hq0 : H q = none := Same.free s0 hq
    refine ⟨q, _, rfl, SqL.of hq2, for_it (walk_enum (xs := ts.map V.ref)) (fun i σ H3 => ∃ v3 v4 v5 v6 v7 v8 v9, σ = [some (.ref p), some (.ref m), some (.ref d), v3, v4, v5, v6, v7, v8, v9] ∧ StInv H H3 m d (stepsSt (ss.take i)) (100 * i) ∧ H3 q = some (.lst (ts.map V.ref)))
      ⟨none, none, none, none, none, none, none, rfl, I2, hq2⟩ (fun i σ H3 _ ⟨_, _, _, _, _, _, _, _, _, h⟩ => SqL.of h) ?_ ?_⟩
    · rintro i x σ H3 H4 hi ⟨v3, v4, v5, v6, v7, v8, v9, rfl, I3, hq3⟩ ⟨T', x1, x2, rfl, hT, rfl, e1, e2⟩
      rw [List.length_map] at hi
      have e1' : x1 = .int (i : Nat) := (Option.some.inj e1).symm
      subst e1'
      obtain ⟨t, ht, rfl⟩ := refs_at e2
      have hiss : i < ss.length := hsa.len ▸ hi
      have hs : ss[i]? = some ss[i] := List.getElem?_eq_getElem hiss
      generalize hsg : ss[i] = sm at hs
      have hsm : sm ∈ ss := List.mem_of_getElem? hs
      have hw := words_of V' hsm
      have hwl : ∀ z ∈ sm.1 ++ [sm.2], z.length ≤ 6 := fun z hz => (isWord_iff.mp (hw z hz)).1.2
      obtain ⟨m1, m4⟩ := V'.many sm hsm
      have hml := maxLen_bound hwl
      have s34 : Same H3 (upd H3 T' (.tup [.int (i : Nat), .ref t])) := Same.new hT
      have I4 := I3.same s34
      have hq4 := s34 _ _ hq3
      have hTu : (upd H3 T' (.tup [.int (i : Nat), .ref t])) T' = some (.tup [.int (i : Nat), .ref t]) := upd_same
      generalize upd H3 T' (.tup [.int (i : Nat), .ref t]) = H4 at s34 I4 hq4 hTu
      obtain ⟨u, ht1, hu1⟩ := (hsa.get i t sm ht hs)
      refine ⟨T', _, rfl, SqT.of hTu, rfl, _, _, rfl, _, _, rfl, t, _, rfl, SqT.of (I4.sm _ _ ht1), rfl, _, _, rfl, _, _, rfl, rfl, rfl, ?_⟩
      refine ⟨_, rfl, _, rfl, u, sm.1, sm.2, rfl, I4.sm _ _ hu1, fun z hz => by have := hwl z hz; omega, by omega, fun H5 s5 => ?_⟩
      have I5 := I4.same s5
      refine ⟨_, rfl, by omega, by omega, for_range (lo := 0) (n := ((maxLen (sm.1 ++ [sm.2]) : Nat) : Int).toNat) (fun j σ H6 => ∃ v6 v7 v8 v9, σ = [some (.ref p), some (.ref m), some (.ref d), some (.int (i : Nat)), some (.ref u), some (.str sm.2), v6, v7, v8, v9] ∧ StInv H H6 m d (stCols i sm (stepsSt (ss.take i)) j) (100 * i + 12 * j) ∧ H6 q = some (.lst (ts.map V.ref)))
        ⟨v6, v7, v8, v9, rfl, I5, s5 _ _ hq4⟩ ?_ ?_⟩
      · rintro j σ H6 hj ⟨v6', v7', v8', v9', rfl, I6, hq6⟩
        have hjm : j < maxLen (sm.1 ++ [sm.2]) := by omega
        refine ⟨_, rfl, _, rfl, u, sm.1, j, (by rw [Int.zero_add] <;> rfl), I6.sm _ _ hu1, fun z hz => by have := hwl z (List.mem_append_left _ hz); omega, by omega, fun D H7 hD s7 hD7 => ?_⟩
        have I7 := I6.same s7
        have hcl : (col sm.1 j).length ≤ 4 := Nat.le_trans (List.length_filterMap_le _ _) m4
        have hq7 := s7 _ _ hq6
        have hD0 : H D = none := Same.free I6.sm hD
        have hmD : m ≠ D := I6.lst.elim fun rs h => ne_of_none h.1 hD
        have hdD : d ≠ D := ne_of_none I6.kn hD
        generalize hst : stCols i sm (stepsSt (ss.take i)) j = st at I6 I7
        -- letters that are not known
        refine ⟨_, rfl, D, rfl, ⟨_, SqL.of hD7⟩, for_list (K := K) (a := D) (xs := (col sm.1 j).map sg) (fun n σ H8 => ∃ v8, σ = [some (.ref p), some (.ref m), some (.ref d), some (.int (i : Nat)), some (.ref u), some (.str sm.2), some (.int (0 + (j : Int))), some (.ref D), v8, v9'] ∧
            StInv H H8 m d (stLets st ((col sm.1 j).take n)) (100 * i + 12 * j + 2 * n) ∧ H8 q = some (.lst (ts.map V.ref)) ∧ H8 D = some (.lst ((col sm.1 j).map sg)))
          ⟨v8', rfl, I7, hq7, hD7⟩ (fun n σ H8 _ ⟨_, _, _, _, h⟩ => SqL.of h) ?_ ?_⟩
        · rintro n y σ H8 hn ⟨v8'', rfl, I8, hq8, hD8⟩
          obtain ⟨c, hc, rfl⟩ : ∃ c, (col sm.1 j)[n]? = some c ∧ y = sg c := by
            rw [List.getElem?_map] at hn
            cases e : (col sm.1 j)[n]? with
            | none => rw [e] at hn; cases hn
            | some c => rw [e] at hn; exact ⟨c, rfl, (Option.some.inj hn).symm⟩
          have hnl : n < (col sm.1 j).length := (List.getElem?_eq_some_iff.mp hc).1
          refine ⟨_, rfl, _, rfl, d, _, rfl, DGet.k (k := Sum.inr ⟨#[c]⟩) I8.kn, _, rfl, ?_⟩
          rw [kn_look]
          rw [stLets_snoc hc]
          generalize stLets st ((col sm.1 j).take n) = st8 at I8
          by_cases hcm : c ∈ st8.2
          · rw [decide_eq_true hcm]
            refine iteF ⟨_, rfl, ?_, hq8, hD8⟩
            unfold stLetter
            rw [if_pos hcm]
            exact I8.le (by omega)
          · rw [decide_eq_false hcm]
            refine iteT ?_
            refine ⟨_, rfl, _, rfl, d, _, rfl, DPut.k (k := Sum.inr ⟨#[c]⟩) I8.kn ?_, ?_⟩
            · have := I8.bd.2
              unfold knKvs
              rw [List.length_cons, List.length_map]
              exact line_lt (by omega)
            rw [kn_put]
            have ea : addN st8.2 c = st8.2 ++ [c] := by unfold addN; rw [if_neg hcm]
            have I9 := (I8.le (Nat.le_succ _)).put (kn := addN st8.2 c) hd0 hmd (by have := I8.bd.2; have := addN_len st8.2 c; omega)
            have hq9 : (upd H8 d (.dK (knKvs (addN st8.2 c)))) q = some (.lst (ts.map V.ref)) := (upd_ne (Ne.symm hqd)).trans hq8
            have hD9 : (upd H8 d (.dK (knKvs (addN st8.2 c)))) D = some (.lst ((col sm.1 j).map sg)) := (upd_ne (Ne.symm hdD)).trans hD8
            generalize upd H8 d (.dK (knKvs (addN st8.2 c))) = H9 at I9 hq9 hD9
            obtain ⟨rs, hrs, hrl⟩ := I9.lst
            refine ⟨_, rfl, .inl ⟨rfl, _, SqL.of hrs⟩, _, rfl, by show 2 ≤ sizeLine; decide, fun r hr0 => ?_⟩
            have s10 : Same H9 (upd H9 r (.tup [.str "cases", sg c])) := Same.new hr0
            have I10 := I9.same s10
            have hmr : m ≠ r := ne_of_none hrs hr0
            have h10 : StepAt (off (upd H9 r (.tup [.str "cases", sg c])) m) r (.cases c) := (off_ne (Ne.symm hmr)).trans upd_same
            have hm10 := s10 _ _ hrs
            have hq10 := s10 _ _ hq9
            have hD10 := s10 _ _ hD9
            generalize upd H9 r (.tup [.str "cases", sg c]) = H10 at I10 h10 hm10 hq10 hD10
            refine ⟨m, _, _, rfl, rfl, hm10, ?_, ?_⟩
            · rw [List.length_map, hrl.len]
              exact line_lt (by have := I9.bd.1; have : st8.1.length ≤ _ := this; omega)
            · refine ⟨_, rfl, ?_, (upd_ne (Ne.symm hqm)).trans hq10, (upd_ne (Ne.symm hmD)).trans hD10⟩
              have e : stLetter st8 c = (st8.1 ++ [.cases c], addN st8.2 c) := by
                unfold stLetter
                rw [if_neg hcm, ea]
              rw [e]
              exact (I10.push hm hmd hm10 h10).le (by omega)
        · rintro σ H8 ⟨v8'', rfl, I8, hq8, hD8⟩
          rw [List.length_map, List.take_length] at I8
          have I8 := I8.le (n' := 100 * i + 12 * j + 8) (by omega)
          refine ⟨_, rfl, _, rfl, sm.2, j, (by rw [Int.zero_add] <;> rfl), by have := hwl sm.2 (List.mem_append_right _ List.mem_cons_self); omega, ?_⟩
          have hlk := end_look (stLets st (col sm.1 j)).2 sm.2 j
          have ec : stCols i sm (stepsSt (ss.take i)) (j + 1) = stCol i sm st j := by rw [stCols_succ, hst]
          rw [ec]
          unfold stCol
          generalize hs8 : stLets st (col sm.1 j) = st8 at I8 hlk
          obtain ⟨rs, hrs, hrl⟩ := I8.lst
          refine ⟨_, rfl, .inl ⟨rfl, _, SqL.of hrs⟩, _, rfl, _, rfl, d, _, rfl, DGet.k (k := Sum.inr (letterAt sm.2 j)) I8.kn, ?_⟩
          rw [hlk]
          cases hso : soOf (endOf sm.2 j) st8.2
          all_goals
            refine ⟨_, rfl, ?_⟩
            first
              | refine iteT ?_
              | refine iteF ?_
            refine ⟨_, rfl, _, rfl, _, rfl, _, rfl, by show 5 ≤ sizeLine; decide, fun r hr0 => ?_⟩
            have hmr : m ≠ r := ne_of_none hrs hr0
            have hDr : D ≠ r := ne_of_none hD8 hr0
            refine ⟨m, _, _, rfl, rfl, (upd_ne hmr).trans hrs, ?_, ?_⟩
            · rw [List.length_map, hrl.len]
              exact line_lt (by have := I8.bd.1; omega)
            have s9 := Same.new (o := .tup [.str (stepWord (soOf (endOf sm.2 j) st8.2)), .int (i : Nat), .int (j : Nat), .ref D, .str (letterAt sm.2 j)]) hr0
            have h9 : StepAt (off (upd H8 r (.tup [.str (stepWord (soOf (endOf sm.2 j) st8.2)), .int (i : Nat), .int (j : Nat), .ref D, .str (letterAt sm.2 j)])) m) r (.col (soOf (endOf sm.2 j) st8.2) i j (col sm.1 j) (endOf sm.2 j)) :=
              ⟨D, ((off_ne (Ne.symm hmr)).trans upd_same).trans (by rw [endText_of]), (off_ne (Ne.symm hmD)).trans ((upd_ne hDr).trans hD8)⟩
            have I10 := (I8.same s9).push hm hmd (s9 _ _ hrs) h9
            have hq10 := (upd_ne (H := upd H8 r (.tup [.str (stepWord (soOf (endOf sm.2 j) st8.2)), .int (i : Nat), .int (j : Nat), .ref D, .str (letterAt sm.2 j)])) (o := .lst (rs.map V.ref ++ [.ref r])) (Ne.symm hqm)).trans (s9 _ _ hq8)
            have ej : (0 + (j : Int)) = ((j : Nat) : Int) := Int.zero_add _
            rw [ej]
            rw [hso] at I10 hq10
            refine ⟨_, rfl, _, rfl, d, _, rfl, DPut.k (k := Sum.inr (letterAt sm.2 j)) I10.kn ?_, ?_⟩
            · have := I10.bd.2
              unfold knKvs
              rw [List.length_cons, List.length_map]
              exact line_lt (by have : st8.2.length ≤ _ := this; omega)
            rw [end_put]
            refine ⟨_, _, _, _, rfl, ?_, (upd_ne (Ne.symm hqd)).trans hq10⟩
            refine (I10.put (kn := addE st8.2 (endOf sm.2 j)) hd0 hmd ?_).le (by omega)
            have h1 := I8.bd.2
            unfold addE
            split
            · omega
            · rename_i c _
              have := addN_len st8.2 c
              omega
      · rintro σ H6 ⟨v6', v7', v8', v9', rfl, I6, hq6⟩
        have en : ((maxLen (sm.1 ++ [sm.2]) : Nat) : Int).toNat = maxLen (sm.1 ++ [sm.2]) := by omega
        rw [en] at I6
        obtain ⟨rs, hrs, hrl⟩ := I6.lst
        refine ⟨_, rfl, .inl ⟨rfl, _, SqL.of hrs⟩, _, rfl, by show 2 ≤ sizeLine; decide, fun r hr0 => ?_⟩
        have s7 : Same H6 (upd H6 r (.tup [.str "over", .int (i : Nat)])) := Same.new hr0
        have I7 := I6.same s7
        have hmr : m ≠ r := ne_of_none hrs hr0
        have h7 : StepAt (off (upd H6 r (.tup [.str "over", .int (i : Nat)])) m) r (.over i) := (off_ne (Ne.symm hmr)).trans upd_same
        refine ⟨m, _, _, rfl, rfl, s7 _ _ hrs, ?_, ?_⟩
        · rw [List.length_map, hrl.len]
          exact line_lt (by have := I6.bd.1; omega)
        refine ⟨_, _, _, _, _, _, _, rfl, ?_, (upd_ne (Ne.symm hqm)).trans (s7 _ _ hq6)⟩
        rw [stepsSt_take hs]
        exact (I7.push hm hmd (s7 _ _ hrs) h7).le (by omega)
    · rintro σ H3 ⟨v3, v4, v5, v6, v7, v8, v9, rfl, I3, hq3⟩
      rw [List.length_map, hsa.len, List.take_length] at I3
      obtain ⟨rs, hrs, hrl⟩ := I3.lst
      refine ⟨_, rfl, .inl ⟨rfl, _, SqL.of hrs⟩, by show 1 ≤ sizeLine; decide, fun r hr0 => ?_⟩
      have s7 : Same H3 (upd H3 r (.tup [.str "answer"])) := Same.new hr0
      have I7 := I3.same s7
      have hmr : m ≠ r := ne_of_none hrs hr0
      have h7 : StepAt (off (upd H3 r (.tup [.str "answer"])) m) r .answer := (off_ne (Ne.symm hmr)).trans upd_same
      refine ⟨m, _, _, rfl, rfl, s7 _ _ hrs, ?_, ?_⟩
      · rw [List.length_map, hrl.len]
        exact line_lt (by have := I3.bd.1; omega)
      have I8 := I7.push hm hmd (s7 _ _ hrs) h7
      obtain ⟨rs8, hrs8, hrl8⟩ := I8.lst
      exact ⟨_, rfl, k m rs8 _ hm I8.sm hrs8 (hrl8.same (off_in _ m))⟩
end
end WS
set_option maxRecDepth 100000
set_option maxHeartbeats 8000000
namespace WS
open PySem L2 SetT RevS
def spFree : Sp := fun vs H Q _ => ∃ (c : Nat) (d fq : Addr) (b : Int) (fg : Figs) (fs : List Nat), vs = [sg c, .ref d, .ref fq, .int b] ∧ H d = some (.dK (kvsF fg)) ∧ H fq = some (.lst (fs.map sg)) ∧ 0 ≤ b ∧ b ≤ 1000 ∧ fg.length ≤ 1000 ∧
  ∀ q H', H q = none → Same H H' → H' q = some (.lst ((freeF b fs c fg).map V.int)) → Q (.ref q) H'
theorem upFrom_succ (lo : Int) (n : Nat) : upFrom lo (n + 1) = upFrom lo n ++ [lo + (n : Int)] := by
  unfold upFrom
  rw [List.range_succ, List.map_append] <;> rfl
theorem upFrom_len (lo : Int) (n : Nat) : (upFrom lo n).length = n := by
  unfold upFrom; rw [List.length_map, List.length_range]
section
variable {P : Program} {w : World} {K : PySem.W.Frag} {mg : Str → Option Value} {base : Heap}
theorem scFree : FnScope ["letter", "figures", "firsts", "base", "taken", "least", "figure"] ["letter", "figures", "firsts", "base"] (defScope sFree) := ⟨rfl, rfl, rfl, by decide +kernel, rfl, by decide +kernel, by decide +kernel⟩
theorem ok_free {f : Addr} {fd : FuncData} (F : Fun K "free_figures" "free_figures" sFree f fd) (z_range : mg "range" = none) (z_list : mg "list" = none) :
    FnOk P w K mg base CX0 1 f fd ["letter", "figures", "firsts", "base"] spFree := by
  refine F.ok scFree (fun vs H Q E h => ?_) (fun cdv A outer s H vs Q E hr h => ?_)
  · obtain ⟨c, d, fq, b, fg, fs, rfl, _⟩ := h
    rfl
  · obtain ⟨c, d, fq, b, fg, fs, rfl, hd, hfq, b0, b1, hn, k⟩ := h
    have nd := scFree.nd
    refine ⟨_, (pss_cons (ps_set (i := 4) nd rfl (.inr rfl) (LVals.pe_listVals (by rfl) z_list (pv 1)))
      (pss_cons (ps_set (i := 5) nd rfl (.inl rfl) (pe_ifExp (pt_cmpR op_in_seq (pv 0) (pv 2) (by rfl)) pe_int pe_int))
      (pss_one (ps_ret (pe_lc (own := [("figure", 6)]) (g := (gName 6))  rfl nd (pi_range2 (by rfl) z_range (pa_cons (pv 5) (pa_cons (pv 3) pa_nil))) (blkOk_by (own := [("figure", 6)]) (N := ["letter", "figures", "firsts", "base", "taken", "least", "figure"]) (sc := defScope sFree) (by decide +kernel)) (fun _ _ _ _ _ => (pg_name (i := 6) nd rfl (.inl rfl))) (fun _ _ _ _ _ => pts_one (pt_cmpR (show OpR _ _ (rIn K true) from op_notIn_seq) (pv 6) (pv 4) (by rfl))) (fun _ _ _ _ _ => (pv 6))))))), ?_⟩
    refine ⟨_, rfl, d, _, rfl, hd, fun q hq => ?_⟩
    rw [kvsF_vals]
    have hqd : d ≠ q := ne_of_none hd hq
    have hqf : fq ≠ q := ne_of_none hfq hq
    have s1 : Same H (upd H q (.lst ((valsF fg).map V.int))) := Same.new hq
    have hq1 : (upd H q (.lst ((valsF fg).map V.int))) q = some (.lst ((valsF fg).map V.int)) := upd_same
    generalize upd H q (.lst ((valsF fg).map V.int)) = H1 at s1 hq1
    refine ⟨_, rfl, _, rfl, fq, _, rfl, .inl (SqL.of (s1 _ _ hfq)), rfl, flat_sg _, ?_⟩
    rw [inV_sg]
    by_cases hc : c ∈ fs
    · rw [decide_eq_true hc]
      refine ⟨_, rfl, iteT ?_⟩
      have k' : ∀ q H', H q = none → Same H H' → H' q = some (.lst (((upFrom 1 (b - 1).toNat).filter fun v => !decide (v ∈ valsF fg)).map V.int)) → Q (.ref q) H' := by
        unfold freeF at k
        rw [if_pos hc] at k
        exact k
      refine ⟨_, rfl, _, rfl, 1, b, rfl, ⟨by omega, by omega, by omega, by omega⟩, fun D hD => ?_⟩
      have hqD : q ≠ D := ne_of_none hq1 hD
      refine lc_range (lo := 1) (n := (b - 1).toNat) (fun i H3 => H3 = upd H1 D (.lst (((upFrom 1 i).filter fun v => !decide (v ∈ valsF fg)).map V.int))) rfl ?_ ?_
      · rintro i H3 hi rfl
        refine ⟨rfl, _, rfl, _, rfl, q, _, rfl, .inl (SqL.of ((upd_ne hqD).trans hq1)), rfl, flat_int _, ?_⟩
        rw [inV_int]
        rw [upFrom_succ, List.filter_append]
        have hle : ((upFrom 1 i).filter fun v => !decide (v ∈ valsF fg)).length ≤ i := by
          have := List.length_filter_le (fun v => !decide (v ∈ valsF fg)) (upFrom 1 i)
          rw [upFrom_len] at this
          exact this
        by_cases hv : (1 + (i : Int)) ∈ valsF fg
        · rw [decide_eq_true hv]
          refine ⟨_, rfl, ?_⟩
          have e : [(1 + (i : Int))].filter (fun v => !decide (v ∈ valsF fg)) = [] := by
            rw [List.filter_cons, decide_eq_true hv] <;> rfl
          rw [e, List.append_nil]
          rfl
        · rw [decide_eq_false hv]
          refine ⟨_, rfl, ?_⟩
          have e : [(1 + (i : Int))].filter (fun v => !decide (v ∈ valsF fg)) = [(1 + (i : Int))] := by
            rw [List.filter_cons, decide_eq_false hv] <;> rfl
          rw [e, List.map_append]
          refine ⟨_, rfl, _, upd_same, ?_, ?_⟩
          · rw [List.length_map]
            exact line_lt (by omega)
          · rw [upd_upd] <;> rfl
      · rintro H3 rfl
        exact k' D _ (Same.free s1 hD) (s1.trans (Same.new hD)) upd_same
    · rw [decide_eq_false hc]
      refine ⟨_, rfl, iteF ?_⟩
      have k' : ∀ q H', H q = none → Same H H' → H' q = some (.lst (((upFrom 0 (b - 0).toNat).filter fun v => !decide (v ∈ valsF fg)).map V.int)) → Q (.ref q) H' := by
        unfold freeF at k
        rw [if_neg hc] at k
        exact k
      refine ⟨_, rfl, _, rfl, 0, b, rfl, ⟨by omega, by omega, by omega, by omega⟩, fun D hD => ?_⟩
      have hqD : q ≠ D := ne_of_none hq1 hD
      refine lc_range (lo := 0) (n := (b - 0).toNat) (fun i H3 => H3 = upd H1 D (.lst (((upFrom 0 i).filter fun v => !decide (v ∈ valsF fg)).map V.int))) rfl ?_ ?_
      · rintro i H3 hi rfl
        refine ⟨rfl, _, rfl, _, rfl, q, _, rfl, .inl (SqL.of ((upd_ne hqD).trans hq1)), rfl, flat_int _, ?_⟩
        rw [inV_int]
        rw [upFrom_succ, List.filter_append]
        have hle : ((upFrom 0 i).filter fun v => !decide (v ∈ valsF fg)).length ≤ i := by
          have := List.length_filter_le (fun v => !decide (v ∈ valsF fg)) (upFrom 0 i)
          rw [upFrom_len] at this
          exact this
        by_cases hv : (0 + (i : Int)) ∈ valsF fg
        · rw [decide_eq_true hv]
          refine ⟨_, rfl, ?_⟩
          have e : [(0 + (i : Int))].filter (fun v => !decide (v ∈ valsF fg)) = [] := by
            rw [List.filter_cons, decide_eq_true hv] <;> rfl
          rw [e, List.append_nil]
          rfl
        · rw [decide_eq_false hv]
          refine ⟨_, rfl, ?_⟩
          have e : [(0 + (i : Int))].filter (fun v => !decide (v ∈ valsF fg)) = [(0 + (i : Int))] := by
            rw [List.filter_cons, decide_eq_false hv] <;> rfl
          rw [e, List.map_append]
          refine ⟨_, rfl, _, upd_same, ?_, ?_⟩
          · rw [List.length_map]
            exact line_lt (by omega)
          · rw [upd_upd] <;> rfl
      · rintro H3 rfl
        exact k' D _ (Same.free s1 hD) (s1.trans (Same.new hD)) upd_same
end
end WS
set_option maxRecDepth 100000
set_option maxHeartbeats 8000000
namespace WS
open PySem L2 SetT RevS
theorem ne_order_base : ¬ (("base" : Str) = "order") := by decide +kernel
theorem ne_firsts_base : ¬ (("base" : Str) = "firsts") := by decide +kernel
theorem ne_firsts_order : ¬ (("order" : Str) = "firsts") := by decide +kernel
theorem ne_steps_base : ¬ (("base" : Str) = "steps") := by decide +kernel
theorem ne_steps_order : ¬ (("order" : Str) = "steps") := by decide +kernel
theorem ne_steps_firsts : ¬ (("firsts" : Str) = "steps") := by decide +kernel
theorem ne_found_base : ¬ (("base" : Str) = "found") := by decide +kernel
theorem ne_found_order : ¬ (("order" : Str) = "found") := by decide +kernel
theorem ne_found_firsts : ¬ (("firsts" : Str) = "found") := by decide +kernel
theorem ne_found_steps : ¬ (("steps" : Str) = "found") := by decide +kernel
/-- a reader's attributes, in the order in which they are stored -/
def rflds (b : Int) (ol fq sq fo : Addr) : List (Str × V) := putF "found" (.ref fo) (putF "steps" (.ref sq) (putF "firsts" (.ref fq) (putF "order" (.ref ol) (putF "base" (.int b) []))))
section
variable (b : Int) (ol fq sq fo : Addr)
theorem rf_base : (rflds b ol fq sq fo).lookup ("base" : Str) = some (.int b) := by
  unfold rflds
  rw [lookup_putF, if_neg ne_found_base, lookup_putF, if_neg ne_steps_base, lookup_putF, if_neg ne_firsts_base, lookup_putF, if_neg ne_order_base, lookup_putF, if_pos rfl]
theorem rf_order : (rflds b ol fq sq fo).lookup ("order" : Str) = some (.ref ol) := by
  unfold rflds
  rw [lookup_putF, if_neg ne_found_order, lookup_putF, if_neg ne_steps_order, lookup_putF, if_neg ne_firsts_order, lookup_putF, if_pos rfl]
theorem rf_firsts : (rflds b ol fq sq fo).lookup ("firsts" : Str) = some (.ref fq) := by
  unfold rflds
  rw [lookup_putF, if_neg ne_found_firsts, lookup_putF, if_neg ne_steps_firsts, lookup_putF, if_pos rfl]
theorem rf_steps : (rflds b ol fq sq fo).lookup ("steps" : Str) = some (.ref sq) := by
  unfold rflds
  rw [lookup_putF, if_neg ne_found_steps, lookup_putF, if_pos rfl]
theorem rf_found : (rflds b ol fq sq fo).lookup ("found" : Str) = some (.ref fo) := by
  unfold rflds
  rw [lookup_putF, if_pos rfl]
theorem rf_no {m : Str} (h1 : ¬ m = "found") (h2 : ¬ m = "steps") (h3 : ¬ m = "firsts") (h4 : ¬ m = "order") (h5 : ¬ m = "base") : (rflds b ol fq sq fo).lookup m = none := by
  unfold rflds
  rw [lookup_putF, if_neg h1, lookup_putF, if_neg h2, lookup_putF, if_neg h3, lookup_putF, if_neg h4, lookup_putF, if_neg h5] <;> rfl
end
structure ReaderTxt (K : PySem.W.Frag) (mg : Str → Option Value) (C : Addr) : Prop where
  cl : Cls K C
  nB : NoAttr K C "base"
  nO : NoAttr K C "order"
  nF : NoAttr K C "firsts"
  nS : NoAttr K C "steps"
  nD : NoAttr K C "found"
  g : mg "Reader" = some (.ref C)
/-- what a reader at p holds, its found list at fo aside -/
structure RdIn (C : Addr) (G : Hp) (p : Addr) (b : Int) (L fs : List Nat) (ps : List Stp) (fo dx ol fq sq : Addr) (rs : List Addr) : Prop where
  ob : G p = some (.ins C dx (rflds b ol fq sq fo))
  ol : G ol = some (.lst (L.map sg))
  fq : G fq = some (.lst (fs.map sg))
  sq : G sq = some (.lst (rs.map V.ref))
  st : StepsAt G rs ps
def RdAt (C : Addr) (G : Hp) (p : Addr) (b : Int) (L fs : List Nat) (ps : List Stp) (fo : Addr) : Prop := ∃ dx ol fq sq rs, RdIn C G p b L fs ps fo dx ol fq sq rs
theorem RdIn.same {C : Addr} {G G' : Hp} {p : Addr} {b : Int} {L fs : List Nat} {ps : List Stp} {fo dx ol fq sq : Addr} {rs : List Addr} (h : RdIn C G p b L fs ps fo dx ol fq sq rs) (e : Same G G') : RdIn C G' p b L fs ps fo dx ol fq sq rs :=
  ⟨e _ _ h.ob, e _ _ h.ol, e _ _ h.fq, e _ _ h.sq, h.st.same e⟩
theorem RdAt.same {C : Addr} {G G' : Hp} {p : Addr} {b : Int} {L fs : List Nat} {ps : List Stp} {fo : Addr} (h : RdAt C G p b L fs ps fo) (e : Same G G') : RdAt C G' p b L fs ps fo := by
  obtain ⟨dx, ol, fq, sq, rs, h⟩ := h
  exact ⟨dx, ol, fq, sq, rs, h.same e⟩
theorem RdAt.but {C : Addr} {H H' : Hp} {p : Addr} {b : Int} {L fs : List Nat} {ps : List Stp} {fo : Addr} (h : RdAt C (off H fo) p b L fs ps fo) (e : But fo H H') : RdAt C (off H' fo) p b L fs ps fo := h.same e.off
/-- rows of a case: pairs of a figure and a case -/
structure RowsAt (H : Hp) (ras : List Addr) (wl : List V) (rows : List (Int × Tree)) : Prop where
  l1 : ras.length = rows.length
  l2 : wl.length = rows.length
  get : ∀ (i : Nat) (r : Addr) (x : Int × Tree) (v : V), ras[i]? = some r → rows[i]? = some x → wl[i]? = some v → H r = some (.tup [.int x.1, v]) ∧ TreeAt H v x.2
theorem RowsAt.mut {H H' : Hp} {f : Addr} (e : But f H H') (hf : ∃ xs, H f = some (.lst xs)) {ras : List Addr} {wl : List V} {rows : List (Int × Tree)} (h : RowsAt H ras wl rows) : RowsAt H' ras wl rows := by
  refine ⟨h.l1, h.l2, fun i r x v a b c => ?_⟩
  obtain ⟨h1, h2⟩ := h.get i r x v a b c
  obtain ⟨xs, hf'⟩ := id hf
  exact ⟨e _ _ (ne_of h1 hf' (fun z => by cases z)) h1, h2.mut e hf⟩
theorem RowsAt.same {H H' : Hp} (e : Same H H') {ras : List Addr} {wl : List V} {rows : List (Int × Tree)} (h : RowsAt H ras wl rows) : RowsAt H' ras wl rows := by
  refine ⟨h.l1, h.l2, fun i r x v a b c => ?_⟩
  obtain ⟨h1, h2⟩ := h.get i r x v a b c
  exact ⟨e _ _ h1, h2.same e⟩
theorem snoc_get {α : Type} {l : List α} {x y : α} {i : Nat} (h : (l ++ [x])[i]? = some y) : (i < l.length ∧ l[i]? = some y) ∨ (i = l.length ∧ y = x) := by
  by_cases hi : i < l.length
  · rw [List.getElem?_append_left hi] at h
    exact .inl ⟨hi, h⟩
  · rw [List.getElem?_append_right (by omega)] at h
    have h0 : i - l.length = 0 := by
      have := (List.getElem?_eq_some_iff.mp h).1
      simp at this; omega
    rw [h0] at h
    exact .inr ⟨by omega, (Option.some.inj h).symm⟩
theorem RowsAt.snoc {H : Hp} {ras : List Addr} {wl : List V} {rows : List (Int × Tree)} {r : Addr} {v : V} {x : Int × Tree} (h : RowsAt H ras wl rows) (h1 : H r = some (.tup [.int x.1, v])) (h2 : TreeAt H v x.2) : RowsAt H (ras ++ [r]) (wl ++ [v]) (rows ++ [x]) := by
  have l1 := h.l1
  have l2 := h.l2
  refine ⟨by rw [List.length_append, List.length_append, l1] <;> rfl, by rw [List.length_append, List.length_append, l2] <;> rfl, fun i a y u ha hy hu => ?_⟩
  rcases snoc_get ha with ⟨hi, ha⟩ | ⟨hi, rfl⟩
  · rcases snoc_get hy with ⟨_, hy⟩ | ⟨hi', _⟩
    · rcases snoc_get hu with ⟨_, hu⟩ | ⟨hi', _⟩
      · exact h.get i a y u ha hy hu
      · omega
    · omega
  · rcases snoc_get hy with ⟨hi', _⟩ | ⟨_, rfl⟩
    · omega
    · rcases snoc_get hu with ⟨hi', _⟩ | ⟨_, rfl⟩
      · omega
      · exact ⟨h1, h2⟩
theorem RowsAt.tree {H : Hp} {ras : List Addr} {wl : List V} {rows : List (Int × Tree)} {a q : Addr} {c : Nat} (h : RowsAt H ras wl rows) (ha : H a = some (.tup [.str "cases", sg c, .ref q])) (hq : H q = some (.tup (ras.map V.ref))) : TreeAt H (.ref a) (.cases c rows) := by
  have l2 := h.l2
  have l1 := h.l1
  have key : ∀ (i : Nat) (x : Int × Tree), rows[i]? = some x → wl[i]? = some (wl[i]?.getD .non) := fun i x hx => by
    have hi : i < wl.length := by rw [l2]; exact (List.getElem?_eq_some_iff.mp hx).1
    rw [List.getElem?_eq_getElem hi] <;> rfl
  refine .cases (ws := fun i => wl[i]?.getD .non) ha hq l1 (fun i r x hr hx => (h.get i r x _ hr hx (key i x hx)).1) (fun i x hx => ?_)
  have hi : i < ras.length := by rw [l1]; exact (List.getElem?_eq_some_iff.mp hx).1
  exact (h.get i _ x _ (List.getElem?_eq_getElem hi) hx (key i x hx)).2
/-- a list of steps from a turn on -/
theorem drop_head {α : Type} {l : List α} {i : Nat} {x : α} {r : List α} (h : l.drop i = x :: r) : l[i]? = some x ∧ l.drop (i + 1) = r := by
  have hi : i < l.length := by
    rcases Nat.lt_or_ge i l.length with h' | h'
    · exact h'
    · rw [List.drop_eq_nil_iff.mpr h'] at h; cases h
  rw [List.drop_eq_getElem_cons hi] at h
  injection h with h1 h2
  exact ⟨by rw [List.getElem?_eq_getElem hi, h1], h2⟩
theorem kvsF_len (fg : Figs) : (kvsF fg).length = fg.length := List.length_map _
def spColEnd (C : Addr) : Sp := fun vs H Q _ => ∃ (p aq d dx ol fq sq fo : Addr) (b k : Int) (fg : Figs) (added : List Nat), vs = [.ref p, .ref aq, .ref d, .int k] ∧ H p = some (.ins C dx (rflds b ol fq sq fo)) ∧ H aq = some (.lst (added.map sg)) ∧ H d = some (.dK (kvsF fg)) ∧
  (∀ c ∈ added, c ∈ keysF fg) ∧ added.length ≤ 1000 ∧ 0 < b ∧ b ≤ 1000 ∧ ∀ q H', H q = none → Same H H' → H' q = some (.tup [.int (colSum fg k added / b), .int (colSum fg k added % b)]) → Q (.ref q) H'
/-- what reading needs and tells from a turn on, n steps at most before the end -/
def spCase (C : Addr) (b : Int) (L fs : List Nat) (ps : List Stp) (n : Nat) (good : Stp → Prop) : Sp := fun vs H Q _ => ∃ (p d fo : Addr) (turn : Nat) (k : Int) (fg : Figs) (rs0 : List Addr), vs = [.ref p, .int (turn : Nat), .ref d, .int k] ∧ RdAt C (off H fo) p b L fs ps fo ∧ H d = some (.dK (kvsF fg)) ∧ H fo = some (.lst (rs0.map V.ref)) ∧
  (ps.drop turn).length ≤ n ∧ (keysF fg).Nodup ∧ fg.length ≤ turn ∧ WfS L (ps.drop turn) (keysF fg) ∧ rs0.length + (foundT b fs L (ps.drop turn) fg k).length ≤ 900000 ∧ (∃ s r, ps.drop turn = s :: r ∧ good s) ∧
  ∀ v H' rs1, But fo H H' → H' fo = some (.lst ((rs0 ++ rs1).map V.ref)) → TreeAt H' v (readT b fs (ps.drop turn) fg k) → AnsAt H' rs1 (foundT b fs L (ps.drop turn) fg k) → Q v H'
theorem flat_take_len {α β : Type} {l : List α} {f : α → List β} {i : Nat} {v : α} (h : l[i]? = some v) : ((l.take i).map f).flatten.length + (f v).length ≤ ((l.map f).flatten).length := by
  have e : l = l.take (i + 1) ++ l.drop (i + 1) := (List.take_append_drop _ _).symm
  have e2 : ((l.map f).flatten) = ((l.take (i + 1)).map f).flatten ++ ((l.drop (i + 1)).map f).flatten := by
    rw [← List.flatten_append, ← List.map_append, ← e]
  rw [e2, take_snoc h, List.map_append, List.flatten_append, List.length_append, List.length_append]
  simp
theorem dstar_heap {H : Hp} {dp dq : Addr} {a b c d o : HO} (hp : H dp = none) (hq : H dq = none) : Same H (upd (upd (upd (upd (upd H dp a) dp b) dq c) dq d) dp o) :=
  Same.mut (Same.mut (Same.mut (Same.mut (Same.new hp) hp) hq) hq) hp
def isCases : Stp → Prop
  | .cases _ => True
  | _ => False
def isSo : Stp → Prop
  | .col true _ _ _ _ => True
  | _ => False
def isOff : Stp → Prop
  | .col false _ _ _ _ => True
  | _ => False
theorem WfS.ne {L : List Nat} {ps : List Stp} {kn : List Nat} (h : WfS L ps kn) : ∃ s r, ps = s :: r := by
  cases ps with
  | nil => exact h.elim
  | cons s r => exact ⟨s, r, rfl⟩
theorem RdIn.step {C : Addr} {G : Hp} {p : Addr} {b : Int} {L fs : List Nat} {ps : List Stp} {fo dx ol fq sq : Addr} {rs : List Addr} (h : RdIn C G p b L fs ps fo dx ol fq sq rs) {turn : Nat} {s : Stp} (hs : ps[turn]? = some s) :
    ∃ t, (rs.map V.ref)[turn]? = some (.ref t) ∧ StepAt G t s := by
  have hl := h.st.len
  have hi : turn < rs.length := by rw [hl]; exact (List.getElem?_eq_some_iff.mp hs).1
  have e : rs[turn]? = some rs[turn] := List.getElem?_eq_getElem hi
  exact ⟨rs[turn], by rw [List.getElem?_map, e] <;> rfl, h.st.get turn _ s e hs⟩
/-- of the steps with which lists stay short -/
structure StOk (b : Int) (L fs : List Nat) (ps : List Stp) : Prop where
  b0 : 0 < b
  b1 : b ≤ 12
  len : ps.length ≤ 200
  L : L.length ≤ 200
  add : ∀ so i p added e, Stp.col so i p added e ∈ ps → added.length ≤ 200
end WS
set_option maxRecDepth 100000
set_option maxHeartbeats 8000000
namespace WS
open PySem L2 SetT RevS
section
variable {P : Program} {w : World} {K : PySem.W.Frag} {mg : Str → Option Value} {base : Heap}
theorem scColEnd : FnScope ["self", "added", "figures", "carried", "letter"] ["self", "added", "figures", "carried"] (defScope sRdColumnEnd) := ⟨rfl, rfl, rfl, by decide +kernel, rfl, by decide +kernel, by decide +kernel⟩
theorem ok_colend {f C : Addr} {fd : FuncData} (F : Fun K "column_end" "Reader.column_end" sRdColumnEnd f fd) (T : ReaderTxt K mg C) (z_divmod : mg "divmod" = none) (z_sum : mg "sum" = none) :
    FnOk P w K mg base CX0 1 f fd ["self", "added", "figures", "carried"] (spColEnd C) := by
  refine F.ok scColEnd (fun vs H Q E h => ?_) (fun cdv A outer s H vs Q E hr h => ?_)
  · obtain ⟨p, aq, d, dx, ol, fq, sq, fo, b, k0, fg, added, rfl, _⟩ := h
    rfl
  · obtain ⟨p, aq, d, dx, ol, fq, sq, fo, b, k0, fg, added, rfl, hp, haq, hd, hin, hl, b0, b1, k⟩ := h
    have nd := scColEnd.nd
    have hu := hu_of hr
    refine ⟨_, (pss_one (ps_ret (pe_callB call_divmod (by rfl) z_divmod (by decide +kernel) (pa_cons (pe_op op_add (pv 3) (pe_callB (cr_sum rfl) (by rfl) z_sum (by decide +kernel) (pa_cons (pe_lc (own := [("letter", 4)]) (g := (gName 4)) (tt := tYes) rfl nd (pi_list (pv 1)) (blkOk_by (own := [("letter", 4)]) (N := ["self", "added", "figures", "carried", "letter"]) (sc := defScope sRdColumnEnd) (by decide +kernel)) (fun _ _ _ _ _ => (pg_name (i := 4) nd rfl (.inl rfl))) (fun _ _ _ _ _ => pts_nil) (fun _ _ _ _ _ => (pe_dget hu (pv 2) (pv 4) (fun _ _ => rfl)))) pa_nil))) (pa_cons (pe_fld (pv 0) rfl) pa_nil))))), ?_⟩
    refine ⟨_, rfl, _, rfl, aq, rfl, ⟨_, SqL.of haq⟩, fun D hD => ?_⟩
    have haD := ne_of_none haq hD
    have hdD := ne_of_none hd hD
    have hpD := ne_of_none hp hD
    refine lc_list (K := K) (a := aq) (xs := added.map sg) (fun j H4 => H4 = upd H D (.lst (((added.take j).map (figAt fg)).map V.int))) rfl
      (fun j H4 _ e => by rw [e]; exact SqL.of ((upd_ne haD).trans haq)) ?_ ?_
    · rintro j y H4 hj rfl
      obtain ⟨c, hc, rfl⟩ : ∃ c, added[j]? = some c ∧ y = sg c := by
        rw [List.getElem?_map] at hj
        cases e : added[j]? with
        | none => rw [e] at hj; cases hj
        | some c => rw [e] at hj; exact ⟨c, rfl, (Option.some.inj hj).symm⟩
      have hg := kvsF_some (hin c (List.mem_of_getElem? hc))
      refine ⟨rfl, _, rfl, _, rfl, d, .int (figAt fg c), rfl, hg ▸ DGet.k (k := Sum.inr ⟨#[c]⟩) ((upd_ne hdD).trans hd), _, upd_same, ?_, ?_⟩
      · rw [List.length_map, List.length_map, List.length_take]
        exact line_lt (by omega)
      · have e : ((added.take (j + 1)).map (figAt fg)).map V.int = ((added.take j).map (figAt fg)).map V.int ++ [V.int (figAt fg c)] := by
          rw [take_snoc hc, List.map_append, List.map_append] <;> rfl
        rw [upd_upd, e]
    · rintro H4 rfl
      rw [List.length_map, List.take_length]
      refine ⟨D, _, rfl, SqL.of upd_same, _, _, rfl, rfl, _, rfl, p, C, dx, _, _, rfl, (upd_ne hpD).trans hp, T.cl, T.nB, rf_base _ _ _ _ _, _, _, rfl, ⟨b0, by omega⟩, fun q hq => ?_⟩
      exact k q _ (Same.free (Same.new hD) hq) ((Same.new hD).trans (Same.new hq)) upd_same
end
end WS
set_option maxRecDepth 100000
set_option maxHeartbeats 8000000
namespace WS
open PySem L2 SetT RevS
section
variable {P : Program} {w : World} {K : PySem.W.Frag} {mg : Str → Option Value} {base : Heap}
theorem scParted : FnScope ["self", "turn", "figures", "carried", "letter", "rows", "figure", "case"] ["self", "turn", "figures", "carried"] (defScope sRdParted) := ⟨rfl, rfl, rfl, by decide +kernel, rfl, by decide +kernel, by decide +kernel⟩
theorem ok_parted {f C fC fF : Addr} {fd fdC fdF : FuncData} {b : Int} {L fs : List Nat} {ps : List Stp} (O : StOk b L fs ps) (F : Fun K "parted" "Reader.parted" sRdParted f fd) (T : ReaderTxt K mg C) (z_tuple : mg "tuple" = none)
    (S_free_figures : Site K mg "free_figures" fF fdF ["letter", "figures", "firsts", "base"]) (G_free_figures : FnOk P w K mg base CX0 1 fF fdF ["letter", "figures", "firsts", "base"] spFree)
    (mC : Meth K C "case_from" fC) (bC : Binds K fdC ["self", "turn", "figures", "carried"] []) {n : Nat} (GC : FnOk P w K mg base CX0 (2 * n + 3) fC fdC ["self", "turn", "figures", "carried"] (spCase C b L fs ps n fun _ => True)) :
    FnOk P w K mg base CX0 (2 * n + 4) f fd ["self", "turn", "figures", "carried"] (spCase C b L fs ps (n + 1) isCases) := by
  refine F.ok scParted (fun vs H Q E h => ?_) (fun cdv A outer s H vs Q E hr h => ?_)
  · obtain ⟨p, d, fo, turn, k0, fg, rs0, rfl, _⟩ := h
    rfl
  · obtain ⟨p, d, fo, turn, k0, fg, rs0, rfl, R, hd, hfo, hlen, hnk, hft, hwf, hsm, ⟨st, r, hdr, hg⟩, k⟩ := h
    obtain ⟨c, rfl⟩ : ∃ c, st = .cases c := by
      cases st with
      | cases c => exact ⟨c, rfl⟩
      | _ => exact hg.elim
    have nd := scParted.nd
    have hu := hu_of hr
    have hr_free_figures : Room 1 _ := hr.mono (by omega)
    refine ⟨_, (pss_cons (ps_set (i := 4) nd rfl (.inl rfl) (pe_ix (r := rIxT K) ix_tup (pe_ix (r := rIxL K) ix_list (pe_fld (pv 0) rfl) (pv 1) (fun _ _ => rfl)) pe_int (fun _ _ => rfl)))
      (pss_cons (ps_set (i := 5) nd rfl (.inl rfl) (pe_lst pa_nil))
      (pss_cons (ps_for PassesOwn.never rfl (pi_list (pe_call G_free_figures hr_free_figures (by rfl) S_free_figures.g S_free_figures.k S_free_figures.b .nil pass0 (pa_cons (pv 4) (pa_cons (pv 2) (pa_cons (pe_fld (pv 0) rfl) (pa_cons (pe_fld (pv 0) rfl) pa_nil)))))) (pg_name (i := 6) nd rfl (.inl rfl)) (pss_cons (ps_set (i := 7) nd rfl (.inl rfl) (pe_meth (pv 0) T.cl mC GC hr bC .nil pass0 (pa_cons (pe_op op_add (pv 1) pe_int) (pa_cons (DStar.pe_dstar (pv 2) (pv 4) (pv 6)) (pa_cons (pv 3) pa_nil)))))
      (pss_one (ps_expr (pe_bm PySem.F.plainAttrs_list PySem.F.slot_list_append PySem.F.type_list_append mt_append (pv 5) (pa_cons (pe_tup (pa_cons (pv 6) (pa_cons (pv 7) pa_nil))) pa_nil))))))
      (pss_one (ps_ret (pe_tup (pa_cons pe_str (pa_cons (pv 4) (pa_cons (pe_callTy call_tuple_of (by rfl) z_tuple (by decide +kernel) (pa_cons (pv 5) pa_nil)) pa_nil))))))))), ?_⟩
    obtain ⟨dx, ol, fq, sq, rs, RI⟩ := id R
    obtain ⟨hsi, hdr'⟩ := drop_head hdr
    obtain ⟨t, ht1, ht2⟩ := RI.step hsi
    have hp := (off_at RI.ob).2
    have hfq := (off_at RI.fq).2
    have hsq := (off_at RI.sq).2
    have ht := (off_at (show off H fo t = _ from ht2)).2
    have htl : turn < ps.length := (List.getElem?_eq_some_iff.mp hsi).1
    have hpl := O.len
    have hb0 := O.b0
    have hb1 := O.b1
    rw [hdr] at hlen hwf hsm k
    have hdfo : d ≠ fo := ne_of hd hfo (fun z => by cases z)
    refine ⟨_, rfl, p, C, dx, _, _, rfl, hp, T.cl, T.nS, rf_steps _ _ _ _ _, _, rfl, sq, _, turn, _, rfl, rfl, SqL.of hsq, at_of (j := turn) rfl ht1, t, _, 1, _, rfl, rfl, SqT.of ht, at_of (j := 1) rfl rfl, ?_⟩
    refine ⟨by show 0 ≤ sizeLine; decide, fun m hm => ?_⟩
    have s1 : Same H (upd H m (.lst [])) := Same.new hm
    have hm1 : (upd H m (.lst [])) m = some (.lst []) := upd_same
    generalize upd H m (.lst []) = H1 at s1 hm1
    have hp1 := s1 _ _ hp
    refine ⟨_, rfl, _, rfl, _, rfl, p, C, dx, _, _, rfl, hp1, T.cl, T.nF, rf_firsts _ _ _ _ _, _, rfl, p, C, dx, _, _, rfl, hp1, T.cl, T.nB, rf_base _ _ _ _ _, c, d, fq, b, fg, fs, rfl, s1 _ _ hd, s1 _ _ hfq, by omega, by omega, by omega, fun q H2 hq s2 hq2 => ?_⟩
    have hm2 := s2 _ _ hm1
    have hqm : m ≠ q := ne_of_none hm1 hq
    have s12 := s1.trans s2
    have hqfo : fo ≠ q := ne_of_none (s1 _ _ hfo) hq
    have hmfo : fo ≠ m := ne_of_none hfo hm
    have hffl := freeF_le b fs c fg
    generalize hFF : freeF b fs c fg = FF at hq2 hffl
    refine ⟨q, rfl, ⟨_, SqL.of hq2⟩, for_list (K := K) (a := q) (xs := FF.map V.int) (fun i σ H6 => ∃ ras wl rs1 v6 v7, σ = [some (.ref p), some (.int (turn : Nat)), some (.ref d), some (.int k0), some (sg c), some (.ref m), v6, v7] ∧ But fo H H6 ∧ H6 m = some (.lst (ras.map V.ref)) ∧
        RowsAt H6 ras wl ((FF.take i).map fun v => (v, readT b fs r (fg ++ [(c, v)]) k0)) ∧ H6 fo = some (.lst ((rs0 ++ rs1).map V.ref)) ∧ AnsAt H6 rs1 (((FF.take i).map fun v => foundT b fs L r (fg ++ [(c, v)]) k0).flatten) ∧ H6 q = some (.lst (FF.map V.int)))
      ⟨[], [], [], none, none, rfl, But.of s12, hm2, ⟨rfl, rfl, fun i r x v a => by simp at a⟩, (s12 _ _ hfo).trans (by rw [List.append_nil]), ⟨rfl, fun i r x a => by simp at a⟩, hq2⟩ (fun i σ H6 _ ⟨_, _, _, _, _, _, _, _, _, _, _, h⟩ => SqL.of h) ?_ ?_⟩
    · rintro i y σ H6 hi ⟨ras, wl, rs1, v6, v7, rfl, e6, hm6, hrows, hfo6, hans, hq6⟩
      obtain ⟨v, hv, rfl⟩ : ∃ v, FF[i]? = some v ∧ y = .int v := by
        rw [List.getElem?_map] at hi
        cases e : FF[i]? with
        | none => rw [e] at hi; cases hi
        | some v => rw [e] at hi; exact ⟨v, rfl, (Option.some.inj hi).symm⟩
      have hil : i < FF.length := (List.getElem?_eq_some_iff.mp hv).1
      have hpfo : p ≠ fo := (off_at RI.ob).1
      have hp6 := e6 _ _ hpfo hp
      have hd6 := e6 _ _ hdfo hd
      refine ⟨_, rfl, p, dx, _, rfl, hp6, rf_no _ _ _ _ _ (by decide +kernel) (by decide +kernel) (by decide +kernel) (by decide +kernel) (by decide +kernel), ?_⟩
      refine ⟨_, rfl, _, _, rfl, rfl, fun dp hdp => ⟨_, rfl, d, kvsF fg, rfl, ne_of_none hd6 hdp, .inl ((upd_ne (ne_of_none hd6 hdp)).trans hd6), upd_same, kvsF_keys hnk, by rw [kvsF_len]; omega, fun dq hdq => ?_⟩⟩
      have hpq : dp ≠ dq := fun e => by rw [← e, upd_same] at hdq; cases hdq
      have hdq6 : H6 dq = none := by rw [upd_ne (Ne.symm hpq), upd_ne (Ne.symm hpq)] at hdq; exact hdq
      refine ⟨_, rfl, _, rfl, (upd_ne hpq).trans upd_same, upd_same, Sum.inr ⟨#[c]⟩, rfl, _, rfl, ?_⟩
      rw [kvsF_put hwf.1]
      have s7 := dstar_heap (a := .dK []) (b := .dK (kvsF fg)) (c := .dK []) (d := .dK [((Sum.inr ⟨#[c]⟩ : Key), V.int v)]) (o := .dK (kvsF (fg ++ [(c, v)]))) hdp hdq6
      have hd7 : (upd (upd (upd (upd (upd H6 dp (.dK [])) dp (.dK (kvsF fg))) dq (.dK [])) dq (.dK [((Sum.inr ⟨#[c]⟩ : Key), V.int v)])) dp (.dK (kvsF (fg ++ [(c, v)])))) dp = some (.dK (kvsF (fg ++ [(c, v)]))) := upd_same
      generalize upd (upd (upd (upd (upd H6 dp (.dK [])) dp (.dK (kvsF fg))) dq (.dK [])) dq (.dK [((Sum.inr ⟨#[c]⟩ : Key), V.int v)])) dp (.dK (kvsF (fg ++ [(c, v)]))) = H7 at s7 hd7
      have e7 : But fo H H7 := e6.trans (But.of s7)
      have hfo7 := s7 _ _ hfo6
      have hal := hans.len
      have hfl := flat_take_len (f := fun v => foundT b fs L r (fg ++ [(c, v)]) k0) hv
      have hsm' : rs0.length + ((FF.map fun v => foundT b fs L r (fg ++ [(c, v)]) k0).flatten).length ≤ 900000 := by rw [← hFF]; exact hsm
      refine ⟨p, dp, fo, turn + 1, k0, fg ++ [(c, v)], rs0 ++ rs1, rfl, R.but e7, hd7, hfo7, by rw [hdr']; exact Nat.le_of_succ_le_succ hlen, ?_, by rw [List.length_append]; exact Nat.succ_le_succ hft, by rw [hdr', keysF_snoc]; exact hwf.2, ?_, ?_, ?_⟩
      · rw [keysF_snoc, List.nodup_append]
        exact ⟨hnk, by simp, fun x hx y hy e => hwf.1 (by rw [List.mem_singleton] at hy; rw [← hy, ← e]; exact hx)⟩
      · rw [hdr', List.length_append, hal]
        omega
      · rw [hdr']
        obtain ⟨x, y, e⟩ := hwf.2.ne
        exact ⟨x, y, e, trivial⟩
      rw [hdr']
      intro w8 H8 rs1' e8 hfo8 ht8 ha8
      have hm7 := s7 _ _ hm6
      have hm8 := e8 _ _ (Ne.symm hmfo) hm7
      have hfl7 : ∃ xs, H7 fo = some (.lst xs) := ⟨_, hfo7⟩
      have hrows8 := (hrows.same s7).mut e8 hfl7
      have hans8 := ((hans.same s7).mut e8 hfl7).append ha8
      have hq8 := e8 _ _ (Ne.symm hqfo) (s7 _ _ hq6)
      have e08 : But fo H H8 := e7.trans e8
      refine ⟨_, rfl, .inl ⟨rfl, _, SqL.of hm8⟩, _, rfl, _, rfl, by show 2 ≤ sizeLine; decide, fun r2 hr2 => ?_⟩
      have s9 : Same H8 (upd H8 r2 (.tup [.int v, w8])) := Same.new hr2
      have hr9 : (upd H8 r2 (.tup [.int v, w8])) r2 = some (.tup [.int v, w8]) := upd_same
      generalize upd H8 r2 (.tup [.int v, w8]) = H9 at s9 hr9
      have hm9 := s9 _ _ hm8
      have hrl := hrows8.l1
      rw [List.length_map, List.length_take] at hrl
      refine ⟨m, _, _, rfl, rfl, hm9, ?_, ?_⟩
      · rw [List.length_map]
        exact line_lt (by omega)
      have e10 : But m H9 (upd H9 m (.lst (ras.map V.ref ++ [.ref r2]))) := But.upd
      have hm9' : ∃ xs, H9 m = some (.lst xs) := ⟨_, hm9⟩
      have hrm : r2 ≠ m := ne_of hr9 hm9 (fun z => by cases z)
      refine ⟨ras ++ [r2], wl ++ [w8], rs1 ++ rs1', _, _, rfl, (e08.trans (But.of s9)).mut hm, ?_, ?_, ?_, ?_, ?_⟩
      · rw [upd_same, List.map_append] <;> rfl
      · rw [take_snoc hv, List.map_append]
        exact ((hrows8.same s9).mut e10 hm9').snoc ((upd_ne hrm).trans hr9) ((ht8.same s9).mut e10 hm9')
      · rw [upd_ne hmfo, s9 _ _ hfo8, List.append_assoc]
      · rw [take_snoc hv, List.map_append, List.flatten_append]
        have := (hans8.same s9).mut e10 hm9'
        simpa using this
      · exact (upd_ne (Ne.symm hqm)).trans (s9 _ _ hq8)
    · rintro σ H6 ⟨ras, wl, rs1, v6, v7, rfl, e6, hm6, hrows, hfo6, hans, hq6⟩
      rw [List.length_map, List.take_length] at hrows hans
      refine ⟨_, rfl, _, rfl, m, _, rfl, .inl ⟨SqL.of hm6, fun tq htq => ⟨by show 3 ≤ sizeLine; decide, fun a ha => ?_⟩⟩⟩
      have s8 : Same H6 (upd (upd H6 tq (.tup (ras.map V.ref))) a (.tup [.str "cases", sg c, .ref tq])) := (Same.new htq).trans (Same.new ha)
      have hta : tq ≠ a := ne_of_none upd_same ha
      refine k (.ref a) _ rs1 (e6.trans (But.of s8)) (s8 _ _ hfo6) ?_ ?_
      · have e : readT b fs (.cases c :: r) fg k0 = .cases c (FF.map fun v => (v, readT b fs r (fg ++ [(c, v)]) k0)) := by rw [← hFF] <;> rfl
        rw [e]
        exact (hrows.same s8).tree upd_same ((upd_ne hta).trans upd_same)
      · have e : foundT b fs L (.cases c :: r) fg k0 = (FF.map fun v => foundT b fs L r (fg ++ [(c, v)]) k0).flatten := by rw [← hFF] <;> rfl
        rw [e]
        exact hans.same s8
end
end WS
set_option maxRecDepth 100000
set_option maxHeartbeats 8000000
namespace WS
open PySem L2 SetT RevS
section
variable {P : Program} {w : World} {K : PySem.W.Frag} {mg : Str → Option Value} {base : Heap}
theorem scForced : FnScope ["self", "turn", "figures", "carried", "at", "place", "added", "letter", "ahead", "figure"] ["self", "turn", "figures", "carried"] (defScope sRdForced) := ⟨rfl, rfl, rfl, by decide +kernel, rfl, by decide +kernel, by decide +kernel⟩
theorem ok_forced {f C fC fF fE : Addr} {fd fdC fdF fdE : FuncData} {b : Int} {L fs : List Nat} {ps : List Stp} (O : StOk b L fs ps) (F : Fun K "forced" "Reader.forced" sRdForced f fd) (T : ReaderTxt K mg C)
    (S_free_figures : Site K mg "free_figures" fF fdF ["letter", "figures", "firsts", "base"]) (G_free_figures : FnOk P w K mg base CX0 1 fF fdF ["letter", "figures", "firsts", "base"] spFree)
    (mE : Meth K C "column_end" fE) (bE : Binds K fdE ["self", "added", "figures", "carried"] []) (GE : FnOk P w K mg base CX0 1 fE fdE ["self", "added", "figures", "carried"] (spColEnd C))
    (mC : Meth K C "case_from" fC) (bC : Binds K fdC ["self", "turn", "figures", "carried"] []) {n : Nat} (GC : FnOk P w K mg base CX0 (2 * n + 3) fC fdC ["self", "turn", "figures", "carried"] (spCase C b L fs ps n fun _ => True)) :
    FnOk P w K mg base CX0 (2 * n + 4) f fd ["self", "turn", "figures", "carried"] (spCase C b L fs ps (n + 1) isSo) := by
  refine F.ok scForced (fun vs H Q E h => ?_) (fun cdv A outer s H vs Q E hr h => ?_)
  · obtain ⟨p, d, fo, turn, k0, fg, rs0, rfl, _⟩ := h
    rfl
  · obtain ⟨p, d, fo, turn, k0, fg, rs0, rfl, R, hd, hfo, hlen, hnk, hft, hwf, hsm, ⟨st, r, hdr, hg⟩, k⟩ := h
    obtain ⟨i, pl, added, en, rfl⟩ : ∃ i pl added en, st = .col true i pl added en := by
      cases st with
      | col so i pl added en => cases so with
        | true => exact ⟨i, pl, added, en, rfl⟩
        | false => exact hg.elim
      | _ => exact hg.elim
    have nd := scForced.nd
    have hu := hu_of hr
    have hr1 : Room 1 _ := hr.mono (by omega)
    have hr_free_figures := hr1
    refine ⟨_, (pss_cons (ps_asg (pe_slice sl_tup (pe_ix (r := rIxL K) ix_list (pe_fld (pv 0) rfl) (pv 1) (fun _ _ => rfl)) (po_some pe_int) po_none) (pg_tup rfl (pgs_cons (pg_name (i := 4) nd rfl (.inl rfl)) (pgs_cons (pg_name (i := 5) nd rfl (.inl rfl)) (pgs_cons (pg_name (i := 6) nd rfl (.inl rfl)) (pgs_cons (pg_name (i := 7) nd rfl (.inl rfl)) pgs_nil))))))
      (pss_cons (ps_asg (pe_meth (pv 0) T.cl mE GE hr1 bE .nil pass0 (pa_cons (pv 6) (pa_cons (pv 2) (pa_cons (pv 3) pa_nil)))) (pg_tup rfl (pgs_cons (pg_name (i := 8) nd rfl (.inl rfl)) (pgs_cons (pg_name (i := 9) nd rfl (.inl rfl)) pgs_nil))))
      (pss_cons (ps_if (pt_cmpR op_notIn_seq (pv 9) (pe_call G_free_figures hr_free_figures (by rfl) S_free_figures.g S_free_figures.k S_free_figures.b .nil pass0 (pa_cons (pv 7) (pa_cons (pv 2) (pa_cons (pe_fld (pv 0) rfl) (pa_cons (pe_fld (pv 0) rfl) pa_nil))))) (by rfl)) (pss_one (ps_ret (pe_tup (pa_cons pe_str (pa_cons (pv 4) (pa_cons (pv 5) pa_nil)))))) pss_nil)
      (pss_one (ps_ret (pe_tup (pa_cons pe_str (pa_cons (pv 4) (pa_cons (pv 5) (pa_cons (pe_meth (pv 0) T.cl mC GC hr bC .nil pass0 (pa_cons (pe_op op_add (pv 1) pe_int) (pa_cons (DStar.pe_dstar (pv 2) (pv 7) (pv 9)) (pa_cons (pv 8) pa_nil)))) pa_nil)))))))))), ?_⟩
    obtain ⟨dx, ol, fq, sq, rs, RI⟩ := id R
    obtain ⟨hsi, hdr'⟩ := drop_head hdr
    obtain ⟨t, ht1, aq, ht2, ht3⟩ := RI.step hsi
    have hadd := O.add _ _ _ _ _ (List.mem_of_getElem? hsi)
    have htl : turn < ps.length := (List.getElem?_eq_some_iff.mp hsi).1
    have hpl := O.len
    have hb0 := O.b0
    have hb1 := O.b1
    rw [hdr] at hlen hwf hsm k
    obtain ⟨hw1, ⟨c, rfl, hcn⟩, hw3⟩ := hwf
    have hp := (off_at RI.ob).2
    have hpfo : p ≠ fo := (off_at RI.ob).1
    have hfq := (off_at RI.fq).2
    have hsq := (off_at RI.sq).2
    have ht := (off_at ht2).2
    have haq := (off_at ht3).2
    have hdfo : d ≠ fo := ne_of hd hfo (fun z => by cases z)
    refine ⟨_, rfl, p, C, dx, _, _, rfl, hp, T.cl, T.nS, rf_steps _ _ _ _ _, _, rfl, sq, _, turn, _, rfl, rfl, SqL.of hsq, at_of (j := turn) rfl ht1, ?_⟩
    refine ⟨_, rfl, t, _, rfl, SqT.of ht, (fun z => absurd z.1 (show ¬ HT.sIx 5 0 (some 1) = 0 by decide)), fun q1 hq1 => ?_⟩
    have s1 : Same H (upd H q1 (.tup [.int (i : Nat), .int (pl : Nat), .ref aq, .str (endText (some c))])) := Same.new hq1
    have hq11 : (upd H q1 (.tup [.int (i : Nat), .int (pl : Nat), .ref aq, .str (endText (some c))])) q1 = some (.tup [.int (i : Nat), .int (pl : Nat), .ref aq, .str (endText (some c))]) := upd_same
    refine ⟨q1, _, rfl, SqT.of hq11, rfl, _, _, rfl, _, _, rfl, _, _, rfl, _, _, rfl, rfl, ?_⟩
    have ecut : cutV [V.str (stepWord true), V.int (i : Nat), V.int (pl : Nat), V.ref aq, V.str (endText (some c))] (some 1) none = [.int (i : Nat), .int (pl : Nat), .ref aq, .str (endText (some c))] := rfl
    rw [ecut]
    generalize upd H q1 (.tup [.int (i : Nat), .int (pl : Nat), .ref aq, .str (endText (some c))]) = H1 at s1 hq11
    refine ⟨_, rfl, p, dx, _, rfl, s1 _ _ hp, rf_no _ _ _ _ _ (by decide +kernel) (by decide +kernel) (by decide +kernel) (by decide +kernel) (by decide +kernel), _, rfl, _, rfl, _, rfl, p, aq, d, dx, ol, fq, sq, fo, b, k0, fg, added, rfl, s1 _ _ hp, s1 _ _ haq, s1 _ _ hd, hw1, by omega, hb0, by omega, fun q2 H2 hq2 s2 hq22 => ?_⟩
    refine ⟨q2, _, rfl, SqT.of hq22, rfl, _, _, rfl, _, _, rfl, rfl, ?_⟩
    have s12 := s1.trans s2
    have hp2 := s12 _ _ hp
    refine ⟨_, rfl, _, rfl, _, rfl, _, rfl, p, C, dx, _, _, rfl, hp2, T.cl, T.nF, rf_firsts _ _ _ _ _, _, rfl, p, C, dx, _, _, rfl, hp2, T.cl, T.nB, rf_base _ _ _ _ _, c, d, fq, b, fg, fs, rfl, s12 _ _ hd, s12 _ _ hfq, by omega, by omega, by omega, fun q3 H3 hq3 s3 hq33 => ?_⟩
    have s13 := s12.trans s3
    have e13 : But fo H H3 := But.of s13
    refine ⟨q3, _, rfl, .inl (SqL.of hq33), rfl, flat_int _, ?_⟩
    rw [inV_int]
    have eread : readT b fs (.col true i pl added (some c) :: r) fg k0 = if colSum fg k0 added % b ∈ freeF b fs c fg then .so i pl (readT b fs r (fg ++ [(c, colSum fg k0 added % b)]) (colSum fg k0 added / b)) else .taken i pl := rfl
    have efound : foundT b fs L (.col true i pl added (some c) :: r) fg k0 = if colSum fg k0 added % b ∈ freeF b fs c fg then foundT b fs L r (fg ++ [(c, colSum fg k0 added % b)]) (colSum fg k0 added / b) else [] := rfl
    rw [eread, efound] at k
    rw [efound] at hsm
    generalize colSum fg k0 added % b = v at k hsm eread efound ⊢
    generalize colSum fg k0 added / b = ahead at k hsm eread efound ⊢
    by_cases hv : v ∈ freeF b fs c fg
    · rw [decide_eq_true hv]
      rw [if_pos hv] at k hsm
      rw [if_pos hv] at k
      refine ⟨_, rfl, iteF ?_⟩
      have hd3 := s13 _ _ hd
      refine ⟨_, rfl, _, rfl, _, rfl, p, dx, _, rfl, s13 _ _ hp, rf_no _ _ _ _ _ (by decide +kernel) (by decide +kernel) (by decide +kernel) (by decide +kernel) (by decide +kernel), ?_⟩
      refine ⟨_, rfl, _, _, rfl, rfl, fun dp hdp => ⟨_, rfl, d, kvsF fg, rfl, ne_of_none hd3 hdp, .inl ((upd_ne (ne_of_none hd3 hdp)).trans hd3), upd_same, kvsF_keys hnk, by rw [kvsF_len]; omega, fun dq hdq => ?_⟩⟩
      have hpq : dp ≠ dq := fun e => by rw [← e, upd_same] at hdq; cases hdq
      have hdq6 : H3 dq = none := by rw [upd_ne (Ne.symm hpq), upd_ne (Ne.symm hpq)] at hdq; exact hdq
      refine ⟨_, rfl, _, rfl, (upd_ne hpq).trans upd_same, upd_same, Sum.inr ⟨#[c]⟩, rfl, _, rfl, ?_⟩
      rw [kvsF_put hcn]
      have s7 := dstar_heap (a := .dK []) (b := .dK (kvsF fg)) (c := .dK []) (d := .dK [((Sum.inr ⟨#[c]⟩ : Key), V.int v)]) (o := .dK (kvsF (fg ++ [(c, v)]))) hdp hdq6
      have hd7 : (upd (upd (upd (upd (upd H3 dp (.dK [])) dp (.dK (kvsF fg))) dq (.dK [])) dq (.dK [((Sum.inr ⟨#[c]⟩ : Key), V.int v)])) dp (.dK (kvsF (fg ++ [(c, v)])))) dp = some (.dK (kvsF (fg ++ [(c, v)]))) := upd_same
      generalize upd (upd (upd (upd (upd H3 dp (.dK [])) dp (.dK (kvsF fg))) dq (.dK [])) dq (.dK [((Sum.inr ⟨#[c]⟩ : Key), V.int v)])) dp (.dK (kvsF (fg ++ [(c, v)]))) = H7 at s7 hd7
      have s07 := s13.trans s7
      refine ⟨p, dp, fo, turn + 1, ahead, fg ++ [(c, v)], rs0, rfl, R.but (But.of s07), hd7, s07 _ _ hfo, by rw [hdr']; exact Nat.le_of_succ_le_succ hlen, ?_, by rw [List.length_append]; exact Nat.succ_le_succ hft, by rw [hdr', keysF_snoc]; exact hw3, by rw [hdr']; exact hsm, ?_, ?_⟩
      · rw [keysF_snoc, List.nodup_append]
        exact ⟨hnk, by simp, fun x hx y hy e => hcn (by rw [List.mem_singleton] at hy; rw [← hy, ← e]; exact hx)⟩
      · rw [hdr']
        obtain ⟨x, y, e⟩ := hw3.ne
        exact ⟨x, y, e, trivial⟩
      rw [hdr']
      intro w8 H8 rs1 e8 hfo8 ht8 ha8
      refine ⟨by show 4 ≤ sizeLine; decide, fun a ha => ?_⟩
      have s9 : Same H8 (upd H8 a (.tup [.str "so", .int (i : Nat), .int (pl : Nat), w8])) := Same.new ha
      exact k (.ref a) _ rs1 (((But.of s07).trans e8).trans (But.of s9)) (s9 _ _ hfo8) (.so upd_same (ht8.same s9)) (ha8.same s9)
    · rw [decide_eq_false hv]
      rw [if_neg hv] at k
      rw [if_neg hv] at k
      refine ⟨_, rfl, iteT ⟨_, rfl, _, rfl, by show 3 ≤ sizeLine; decide, fun a ha => ?_⟩⟩
      have s9 : Same H3 (upd H3 a (.tup [.str "taken", .int (i : Nat), .int (pl : Nat)])) := Same.new ha
      exact k (.ref a) _ [] (But.of (s13.trans s9)) ((s13.trans s9 _ _ hfo).trans (by rw [List.append_nil])) (.taken upd_same) ⟨rfl, fun i r x a => by simp at a⟩
end
end WS
set_option maxRecDepth 100000
set_option maxHeartbeats 8000000
namespace WS
open PySem L2 SetT RevS
section
variable {P : Program} {w : World} {K : PySem.W.Frag} {mg : Str → Option Value} {base : Heap}
theorem scCompared : FnScope ["self", "turn", "figures", "carried", "at", "place", "added", "letter", "ahead", "figure"] ["self", "turn", "figures", "carried"] (defScope sRdCompared) := ⟨rfl, rfl, rfl, by decide +kernel, rfl, by decide +kernel, by decide +kernel⟩
theorem ok_compared {f C fC fE : Addr} {fd fdC fdE : FuncData} {b : Int} {L fs : List Nat} {ps : List Stp} (O : StOk b L fs ps) (F : Fun K "compared" "Reader.compared" sRdCompared f fd) (T : ReaderTxt K mg C)
    (mE : Meth K C "column_end" fE) (bE : Binds K fdE ["self", "added", "figures", "carried"] []) (GE : FnOk P w K mg base CX0 1 fE fdE ["self", "added", "figures", "carried"] (spColEnd C))
    (mC : Meth K C "case_from" fC) (bC : Binds K fdC ["self", "turn", "figures", "carried"] []) {n : Nat} (GC : FnOk P w K mg base CX0 (2 * n + 3) fC fdC ["self", "turn", "figures", "carried"] (spCase C b L fs ps n fun _ => True)) :
    FnOk P w K mg base CX0 (2 * n + 4) f fd ["self", "turn", "figures", "carried"] (spCase C b L fs ps (n + 1) isOff) := by
  refine F.ok scCompared (fun vs H Q E h => ?_) (fun cdv A outer s H vs Q E hr h => ?_)
  · obtain ⟨p, d, fo, turn, k0, fg, rs0, rfl, _⟩ := h
    rfl
  · obtain ⟨p, d, fo, turn, k0, fg, rs0, rfl, R, hd, hfo, hlen, hnk, hft, hwf, hsm, ⟨st, r, hdr, hg⟩, k⟩ := h
    obtain ⟨i, pl, added, en, rfl⟩ : ∃ i pl added en, st = .col false i pl added en := by
      cases st with
      | col so i pl added en => cases so with
        | true => exact hg.elim
        | false => exact ⟨i, pl, added, en, rfl⟩
      | _ => exact hg.elim
    have nd := scCompared.nd
    have hu := hu_of hr
    have hr1 : Room 1 _ := hr.mono (by omega)
    refine ⟨_, (pss_cons (ps_asg (pe_slice sl_tup (pe_ix (r := rIxL K) ix_list (pe_fld (pv 0) rfl) (pv 1) (fun _ _ => rfl)) (po_some pe_int) po_none) (pg_tup rfl (pgs_cons (pg_name (i := 4) nd rfl (.inl rfl)) (pgs_cons (pg_name (i := 5) nd rfl (.inl rfl)) (pgs_cons (pg_name (i := 6) nd rfl (.inl rfl)) (pgs_cons (pg_name (i := 7) nd rfl (.inl rfl)) pgs_nil))))))
      (pss_cons (ps_asg (pe_meth (pv 0) T.cl mE GE hr1 bE .nil pass0 (pa_cons (pv 6) (pa_cons (pv 2) (pa_cons (pv 3) pa_nil)))) (pg_tup rfl (pgs_cons (pg_name (i := 8) nd rfl (.inl rfl)) (pgs_cons (pg_name (i := 9) nd rfl (.inl rfl)) pgs_nil))))
      (pss_cons (ps_if (pt_cmpR op_ne (pv 9) (pe_ifExp (pt_truth (pv 7) (fun _ => rfl)) (pe_dget hu (pv 2) (pv 7) (fun _ _ => rfl)) pe_int) (nomark _)) (pss_one (ps_ret (pe_tup (pa_cons pe_str (pa_cons (pv 4) (pa_cons (pv 5) pa_nil)))))) pss_nil)
      (pss_one (ps_ret (pe_meth (pv 0) T.cl mC GC hr bC .nil pass0 (pa_cons (pe_op op_add (pv 1) pe_int) (pa_cons (pv 2) (pa_cons (pv 8) pa_nil))))))))), ?_⟩
    obtain ⟨dx, ol, fq, sq, rs, RI⟩ := id R
    obtain ⟨hsi, hdr'⟩ := drop_head hdr
    obtain ⟨t, ht1, aq, ht2, ht3⟩ := RI.step hsi
    have hadd := O.add _ _ _ _ _ (List.mem_of_getElem? hsi)
    have htl : turn < ps.length := (List.getElem?_eq_some_iff.mp hsi).1
    have hpl := O.len
    have hb0 := O.b0
    have hb1 := O.b1
    rw [hdr] at hlen hwf hsm k
    obtain ⟨hw1, hw2, hw3⟩ := hwf
    have hp := (off_at RI.ob).2
    have hpfo : p ≠ fo := (off_at RI.ob).1
    have hfq := (off_at RI.fq).2
    have hsq := (off_at RI.sq).2
    have ht := (off_at ht2).2
    have haq := (off_at ht3).2
    have hdfo : d ≠ fo := ne_of hd hfo (fun z => by cases z)
    refine ⟨_, rfl, p, C, dx, _, _, rfl, hp, T.cl, T.nS, rf_steps _ _ _ _ _, _, rfl, sq, _, turn, _, rfl, rfl, SqL.of hsq, at_of (j := turn) rfl ht1, ?_⟩
    refine ⟨_, rfl, t, _, rfl, SqT.of ht, (fun z => absurd z.1 (show ¬ HT.sIx 5 0 (some 1) = 0 by decide)), fun q1 hq1 => ?_⟩
    have s1 : Same H (upd H q1 (.tup [.int (i : Nat), .int (pl : Nat), .ref aq, .str (endText en)])) := Same.new hq1
    have hq11 : (upd H q1 (.tup [.int (i : Nat), .int (pl : Nat), .ref aq, .str (endText en)])) q1 = some (.tup [.int (i : Nat), .int (pl : Nat), .ref aq, .str (endText en)]) := upd_same
    refine ⟨q1, _, rfl, SqT.of hq11, rfl, _, _, rfl, _, _, rfl, _, _, rfl, _, _, rfl, rfl, ?_⟩
    have ecut : cutV [V.str (stepWord false), V.int (i : Nat), V.int (pl : Nat), V.ref aq, V.str (endText en)] (some 1) none = [.int (i : Nat), .int (pl : Nat), .ref aq, .str (endText en)] := rfl
    rw [ecut]
    generalize upd H q1 (.tup [.int (i : Nat), .int (pl : Nat), .ref aq, .str (endText en)]) = H1 at s1 hq11
    refine ⟨_, rfl, p, dx, _, rfl, s1 _ _ hp, rf_no _ _ _ _ _ (by decide +kernel) (by decide +kernel) (by decide +kernel) (by decide +kernel) (by decide +kernel), _, rfl, _, rfl, _, rfl, p, aq, d, dx, ol, fq, sq, fo, b, k0, fg, added, rfl, s1 _ _ hp, s1 _ _ haq, s1 _ _ hd, hw1, by omega, hb0, by omega, fun q2 H2 hq2 s2 hq22 => ?_⟩
    refine ⟨q2, _, rfl, SqT.of hq22, rfl, _, _, rfl, _, _, rfl, rfl, ?_⟩
    have s12 := s1.trans s2
    have hp2 := s12 _ _ hp
    have eread : readT b fs (.col false i pl added en :: r) fg k0 = if colSum fg k0 added % b = endFig fg en then readT b fs r fg (colSum fg k0 added / b) else .off i pl := rfl
    have efound : foundT b fs L (.col false i pl added en :: r) fg k0 = if colSum fg k0 added % b = endFig fg en then foundT b fs L r fg (colSum fg k0 added / b) else [] := rfl
    rw [eread, efound] at k
    rw [efound] at hsm
    generalize colSum fg k0 added % b = v at k hsm eread efound ⊢
    generalize colSum fg k0 added / b = ahead at k hsm eread efound ⊢
    have hd2 := s12 _ _ hd
    cases en with
    | none =>
      refine ⟨_, rfl, _, rfl, false, ⟨by show 0 ≤ sizeLine; decide, rfl⟩, iteF ?_⟩
      refine ⟨rfl, _, rfl, ?_⟩
      have edec : decide (V.int v = V.int (endFig fg none)) = decide (v = endFig fg none) := by
        rw [decide_eq_decide]
        exact ⟨fun h => V.int.inj h, fun h => congrArg V.int h⟩
      show if (!decide (V.int v = V.int (endFig fg none))) = true then _ else _
      rw [edec]
      by_cases hv : v = endFig fg none
      · rw [decide_eq_true hv]
        rw [if_pos hv] at k hsm
        rw [if_pos hv] at k
        refine iteF ⟨_, rfl, p, dx, _, rfl, s12 _ _ hp, rf_no _ _ _ _ _ (by decide +kernel) (by decide +kernel) (by decide +kernel) (by decide +kernel) (by decide +kernel), _, rfl, _, _, rfl, rfl, _, rfl, _, rfl, p, d, fo, turn + 1, ahead, fg, rs0, rfl, R.but (But.of s12), hd2, s12 _ _ hfo, by rw [hdr']; exact Nat.le_of_succ_le_succ hlen, hnk, Nat.le_succ_of_le hft, by rw [hdr']; exact hw3, by rw [hdr']; exact hsm, ?_, ?_⟩
        · rw [hdr']
          obtain ⟨x, y, e⟩ := hw3.ne
          exact ⟨x, y, e, trivial⟩
        rw [hdr']
        intro w8 H8 rs1 e8 hfo8 ht8 ha8
        exact k w8 H8 rs1 ((But.of s12).trans e8) hfo8 ht8 ha8
      · rw [decide_eq_false hv]
        rw [if_neg hv] at k
        rw [if_neg hv] at k
        refine iteT ⟨_, rfl, _, rfl, by show 3 ≤ sizeLine; decide, fun a ha => ?_⟩
        have s9 : Same H2 (upd H2 a (.tup [.str "off", .int (i : Nat), .int (pl : Nat)])) := Same.new ha
        exact k (.ref a) _ [] (But.of (s12.trans s9)) ((s12.trans s9 _ _ hfo).trans (by rw [List.append_nil])) (.off upd_same) ⟨rfl, fun i r x a => by simp at a⟩
    | some c =>
      have hg := kvsF_some (hw2 c rfl)
      refine ⟨_, rfl, _, rfl, true, ⟨by show 1 ≤ sizeLine; decide, rfl⟩, iteT ?_⟩
      refine ⟨_, rfl, _, rfl, d, .int (figAt fg c), rfl, hg ▸ DGet.k (k := Sum.inr ⟨#[c]⟩) hd2, ?_⟩
      refine ⟨rfl, _, rfl, ?_⟩
      have edec : decide (V.int v = V.int (endFig fg (some c))) = decide (v = endFig fg (some c)) := by
        rw [decide_eq_decide]
        exact ⟨fun h => V.int.inj h, fun h => congrArg V.int h⟩
      show if (!decide (V.int v = V.int (endFig fg (some c)))) = true then _ else _
      rw [edec]
      by_cases hv : v = endFig fg (some c)
      · rw [decide_eq_true hv]
        rw [if_pos hv] at k hsm
        rw [if_pos hv] at k
        refine iteF ⟨_, rfl, p, dx, _, rfl, s12 _ _ hp, rf_no _ _ _ _ _ (by decide +kernel) (by decide +kernel) (by decide +kernel) (by decide +kernel) (by decide +kernel), _, rfl, _, _, rfl, rfl, _, rfl, _, rfl, p, d, fo, turn + 1, ahead, fg, rs0, rfl, R.but (But.of s12), hd2, s12 _ _ hfo, by rw [hdr']; exact Nat.le_of_succ_le_succ hlen, hnk, Nat.le_succ_of_le hft, by rw [hdr']; exact hw3, by rw [hdr']; exact hsm, ?_, ?_⟩
        · rw [hdr']
          obtain ⟨x, y, e⟩ := hw3.ne
          exact ⟨x, y, e, trivial⟩
        rw [hdr']
        intro w8 H8 rs1 e8 hfo8 ht8 ha8
        exact k w8 H8 rs1 ((But.of s12).trans e8) hfo8 ht8 ha8
      · rw [decide_eq_false hv]
        rw [if_neg hv] at k
        rw [if_neg hv] at k
        refine iteT ⟨_, rfl, _, rfl, by show 3 ≤ sizeLine; decide, fun a ha => ?_⟩
        have s9 : Same H2 (upd H2 a (.tup [.str "off", .int (i : Nat), .int (pl : Nat)])) := Same.new ha
        exact k (.ref a) _ [] (But.of (s12.trans s9)) ((s12.trans s9 _ _ hfo).trans (by rw [List.append_nil])) (.off upd_same) ⟨rfl, fun i r x a => by simp at a⟩
end
end WS
set_option maxRecDepth 100000
set_option maxHeartbeats 8000000
namespace WS
open PySem L2 SetT RevS
theorem iteDT {b : Bool} {A B : Prop} (e : b = true) (h : A) : if b = true then A else B := by rw [if_pos e]; exact h
theorem iteDF {b : Bool} {A B : Prop} (e : b = false) (h : B) : if b = true then A else B := by rw [e, if_neg Bool.false_ne_true]; exact h
section
variable {P : Program} {w : World} {K : PySem.W.Frag} {mg : Str → Option Value} {base : Heap}
theorem scCaseFrom : FnScope ["self", "turn", "figures", "carried", "step", "letter"] ["self", "turn", "figures", "carried"] (defScope sRdCaseFrom) := ⟨rfl, rfl, rfl, by decide +kernel, rfl, by decide +kernel, by decide +kernel⟩
theorem ok_casefrom {f C fP fO fX : Addr} {fd fdP fdO fdX : FuncData} {b : Int} {L fs : List Nat} {ps : List Stp} (O : StOk b L fs ps) (F : Fun K "case_from" "Reader.case_from" sRdCaseFrom f fd) (T : ReaderTxt K mg C) (z_tuple : mg "tuple" = none)
    (mP : Meth K C "parted" fP) (bP : Binds K fdP ["self", "turn", "figures", "carried"] []) (mO : Meth K C "forced" fO) (bO : Binds K fdO ["self", "turn", "figures", "carried"] []) (mX : Meth K C "compared" fX) (bX : Binds K fdX ["self", "turn", "figures", "carried"] [])
    (mC : Meth K C "case_from" f) (bC : Binds K fd ["self", "turn", "figures", "carried"] []) {n : Nat}
    (GP : FnOk P w K mg base CX0 (2 * n + 4) fP fdP ["self", "turn", "figures", "carried"] (spCase C b L fs ps (n + 1) isCases))
    (GO : FnOk P w K mg base CX0 (2 * n + 4) fO fdO ["self", "turn", "figures", "carried"] (spCase C b L fs ps (n + 1) isSo))
    (GX : FnOk P w K mg base CX0 (2 * n + 4) fX fdX ["self", "turn", "figures", "carried"] (spCase C b L fs ps (n + 1) isOff))
    (GC : FnOk P w K mg base CX0 (2 * n + 3) f fd ["self", "turn", "figures", "carried"] (spCase C b L fs ps n fun _ => True)) :
    FnOk P w K mg base CX0 (2 * n + 5) f fd ["self", "turn", "figures", "carried"] (spCase C b L fs ps (n + 1) fun _ => True) := by
  refine F.ok scCaseFrom (fun vs H Q E h => ?_) (fun cdv A outer s H vs Q E hr h => ?_)
  · obtain ⟨p, d, fo, turn, k0, fg, rs0, rfl, _⟩ := h
    rfl
  · obtain ⟨p, d, fo, turn, k0, fg, rs0, rfl, R, hd, hfo, hlen, hnk, hft, hwf, hsm, ⟨st, r, hdr, hg⟩, k⟩ := h
    have nd := scCaseFrom.nd
    have hu := hu_of hr
    have hrC : Room (2 * n + 3) _ := hr.mono (by omega)
    refine ⟨_, (pss_cons (ps_set (i := 4) nd rfl (.inl rfl) (pe_ix (r := rIxL K) ix_list (pe_fld (pv 0) rfl) (pv 1) (fun _ _ => rfl)))
      (pss_cons (ps_if (pt_cmpR op_eq (pe_ix (r := rIxT K) ix_tup (pv 4) pe_int (fun _ _ => rfl)) pe_str (nomark _)) (pss_one (ps_ret (pe_meth (pv 0) T.cl mP GP hr bP .nil pass0 (pa_cons (pv 1) (pa_cons (pv 2) (pa_cons (pv 3) pa_nil)))))) pss_nil)
      (pss_cons (ps_if (pt_cmpR op_eq (pe_ix (r := rIxT K) ix_tup (pv 4) pe_int (fun _ _ => rfl)) pe_str (nomark _)) (pss_one (ps_ret (pe_meth (pv 0) T.cl mO GO hr bO .nil pass0 (pa_cons (pv 1) (pa_cons (pv 2) (pa_cons (pv 3) pa_nil)))))) pss_nil)
      (pss_cons (ps_if (pt_cmpR op_eq (pe_ix (r := rIxT K) ix_tup (pv 4) pe_int (fun _ _ => rfl)) pe_str (nomark _)) (pss_one (ps_ret (pe_meth (pv 0) T.cl mX GX hr bX .nil pass0 (pa_cons (pv 1) (pa_cons (pv 2) (pa_cons (pv 3) pa_nil)))))) pss_nil)
      (pss_cons (ps_if (pt_cmpR op_eq (pe_ix (r := rIxT K) ix_tup (pv 4) pe_int (fun _ _ => rfl)) pe_str (nomark _)) (pss_one (ps_ret (pe_ifExp (pt_truth (pv 3) (fun _ => rfl)) (pv 4) (pe_meth (pv 0) T.cl mC GC hrC bC .nil pass0 (pa_cons (pe_op op_add (pv 1) pe_int) (pa_cons (pv 2) (pa_cons pe_int pa_nil))))))) pss_nil)
      (pss_cons (ps_expr (pe_bm PySem.F.plainAttrs_list PySem.F.slot_list_append PySem.F.type_list_append mt_append (pe_fld (pv 0) rfl) (pa_cons (pe_callTy call_tuple_of (by rfl) z_tuple (by decide +kernel) (pa_cons (pe_lc (own := [("letter", 5)]) (g := (gName 5)) (tt := tYes) rfl nd (pi_list (pe_fld (pv 0) rfl)) (blkOk_by (own := [("letter", 5)]) (N := ["self", "turn", "figures", "carried", "step", "letter"]) (sc := defScope sRdCaseFrom) (by decide +kernel)) (fun _ _ _ _ _ => (pg_name (i := 5) nd rfl (.inl rfl))) (fun _ _ _ _ _ => pts_nil) (fun _ _ _ _ _ => (pe_dget hu (pv 2) (pv 5) (fun _ _ => rfl)))) pa_nil)) pa_nil)))
      (pss_one (ps_ret (pv 4))))))))), ?_⟩
    obtain ⟨dx, ol, fq, sq, rs, RI⟩ := id R
    obtain ⟨hsi, hdr'⟩ := drop_head hdr
    obtain ⟨t, ht1, ht2⟩ := RI.step hsi
    have htl : turn < ps.length := (List.getElem?_eq_some_iff.mp hsi).1
    have hpl := O.len
    have hLl := O.L
    have hp := (off_at RI.ob).2
    have hpfo : p ≠ fo := (off_at RI.ob).1
    have hol := (off_at RI.ol).2
    have holfo : ol ≠ fo := (off_at RI.ol).1
    have hsq := (off_at RI.sq).2
    have hdfo : d ≠ fo := ne_of hd hfo (fun z => by cases z)
    have d1 : decide (V.str ("cases" : Str) = V.str ("cases" : Str)) = true := by decide +kernel
    have d2 : decide (V.str ("so" : Str) = V.str ("cases" : Str)) = false := by decide +kernel
    have d3 : decide (V.str ("so" : Str) = V.str ("so" : Str)) = true := by decide +kernel
    have d4 : decide (V.str ("off" : Str) = V.str ("cases" : Str)) = false := by decide +kernel
    have d5 : decide (V.str ("off" : Str) = V.str ("so" : Str)) = false := by decide +kernel
    have d6 : decide (V.str ("off" : Str) = V.str ("off" : Str)) = true := by decide +kernel
    have d7 : decide (V.str ("over" : Str) = V.str ("cases" : Str)) = false := by decide +kernel
    have d8 : decide (V.str ("over" : Str) = V.str ("so" : Str)) = false := by decide +kernel
    have d9 : decide (V.str ("over" : Str) = V.str ("off" : Str)) = false := by decide +kernel
    have d10 : decide (V.str ("over" : Str) = V.str ("over" : Str)) = true := by decide +kernel
    have d11 : decide (V.str ("answer" : Str) = V.str ("cases" : Str)) = false := by decide +kernel
    have d12 : decide (V.str ("answer" : Str) = V.str ("so" : Str)) = false := by decide +kernel
    have d13 : decide (V.str ("answer" : Str) = V.str ("off" : Str)) = false := by decide +kernel
    have d14 : decide (V.str ("answer" : Str) = V.str ("over" : Str)) = false := by decide +kernel
    refine ⟨_, rfl, p, C, dx, _, _, rfl, hp, T.cl, T.nS, rf_steps _ _ _ _ _, _, rfl, sq, _, turn, _, rfl, rfl, SqL.of hsq, at_of (j := turn) rfl ht1, ?_⟩
    cases st with
    | cases c =>
      have ht := (off_at (show off H fo t = _ from ht2)).2
      refine ⟨_, rfl, t, _, 0, _, rfl, rfl, SqT.of ht, at_of (j := 0) rfl rfl, rfl, _, rfl, iteDT d1 ?_⟩
      refine ⟨_, rfl, p, dx, _, rfl, hp, rf_no _ _ _ _ _ (by decide +kernel) (by decide +kernel) (by decide +kernel) (by decide +kernel) (by decide +kernel), _, rfl, _, rfl, _, rfl, p, d, fo, turn, k0, fg, rs0, rfl, R, hd, hfo, hlen, hnk, hft, hwf, hsm, ⟨_, r, hdr, trivial⟩, k⟩
    | col so i pl added en =>
      obtain ⟨aq, ht3, _⟩ := ht2
      have ht := (off_at ht3).2
      cases so with
      | true =>
        refine ⟨_, rfl, t, _, 0, _, rfl, rfl, SqT.of ht, at_of (j := 0) rfl rfl, rfl, _, rfl, iteDF d2 ?_⟩
        refine ⟨_, rfl, t, _, 0, _, rfl, rfl, SqT.of ht, at_of (j := 0) rfl rfl, rfl, _, rfl, iteDT d3 ?_⟩
        refine ⟨_, rfl, p, dx, _, rfl, hp, rf_no _ _ _ _ _ (by decide +kernel) (by decide +kernel) (by decide +kernel) (by decide +kernel) (by decide +kernel), _, rfl, _, rfl, _, rfl, p, d, fo, turn, k0, fg, rs0, rfl, R, hd, hfo, hlen, hnk, hft, hwf, hsm, ⟨_, r, hdr, trivial⟩, k⟩
      | false =>
        refine ⟨_, rfl, t, _, 0, _, rfl, rfl, SqT.of ht, at_of (j := 0) rfl rfl, rfl, _, rfl, iteDF d4 ?_⟩
        refine ⟨_, rfl, t, _, 0, _, rfl, rfl, SqT.of ht, at_of (j := 0) rfl rfl, rfl, _, rfl, iteDF d5 ?_⟩
        refine ⟨_, rfl, t, _, 0, _, rfl, rfl, SqT.of ht, at_of (j := 0) rfl rfl, rfl, _, rfl, iteDT d6 ?_⟩
        refine ⟨_, rfl, p, dx, _, rfl, hp, rf_no _ _ _ _ _ (by decide +kernel) (by decide +kernel) (by decide +kernel) (by decide +kernel) (by decide +kernel), _, rfl, _, rfl, _, rfl, p, d, fo, turn, k0, fg, rs0, rfl, R, hd, hfo, hlen, hnk, hft, hwf, hsm, ⟨_, r, hdr, trivial⟩, k⟩
    | over i =>
      have ht := (off_at (show off H fo t = _ from ht2)).2
      refine ⟨_, rfl, t, _, 0, _, rfl, rfl, SqT.of ht, at_of (j := 0) rfl rfl, rfl, _, rfl, iteDF d7 ?_⟩
      refine ⟨_, rfl, t, _, 0, _, rfl, rfl, SqT.of ht, at_of (j := 0) rfl rfl, rfl, _, rfl, iteDF d8 ?_⟩
      refine ⟨_, rfl, t, _, 0, _, rfl, rfl, SqT.of ht, at_of (j := 0) rfl rfl, rfl, _, rfl, iteDF d9 ?_⟩
      refine ⟨_, rfl, t, _, 0, _, rfl, rfl, SqT.of ht, at_of (j := 0) rfl rfl, rfl, _, rfl, iteDT d10 ?_⟩
      rw [hdr] at hlen hwf hsm k
      refine ⟨_, rfl, !decide (k0 = 0), (show _ = (k0 != 0) by rw [bne, Bool.eq_iff_iff]; simp), ?_⟩
      by_cases hk : k0 = 0
      · subst hk
        refine iteDF (by rw [decide_eq_true rfl] <;> rfl) ?_
        refine ⟨_, rfl, p, dx, _, rfl, hp, rf_no _ _ _ _ _ (by decide +kernel) (by decide +kernel) (by decide +kernel) (by decide +kernel) (by decide +kernel), _, rfl, _, _, rfl, rfl, _, rfl, p, d, fo, turn + 1, 0, fg, rs0, rfl, R, hd, hfo, by rw [hdr']; exact Nat.le_of_succ_le_succ hlen, hnk, Nat.le_succ_of_le hft, by rw [hdr']; exact hwf, ?_, ?_, ?_⟩
        · rw [hdr']
          have e : foundT b fs L (.over i :: r) fg 0 = foundT b fs L r fg 0 := if_pos rfl
          rw [e] at hsm
          exact hsm
        · rw [hdr']
          have hw3 : WfS L r (keysF fg) := hwf
          obtain ⟨x, y, e⟩ := hw3.ne
          exact ⟨x, y, e, trivial⟩
        rw [hdr']
        intro w8 H8 rs1 e8 hfo8 ht8 ha8
        refine k w8 H8 rs1 e8 hfo8 ?_ ?_
        · have e : readT b fs (.over i :: r) fg 0 = readT b fs r fg 0 := if_pos rfl
          rw [e]
          exact ht8
        · have e : foundT b fs L (.over i :: r) fg 0 = foundT b fs L r fg 0 := if_pos rfl
          rw [e]
          exact ha8
      · refine iteDT (by rw [decide_eq_false hk] <;> rfl) ?_
        refine ⟨_, rfl, k (.ref t) H [] (But.refl _ _) (hfo.trans (by rw [List.append_nil])) ?_ ?_⟩
        · have e : readT b fs (.over i :: r) fg k0 = .over i := if_neg hk
          rw [e]
          exact .over ht
        · have e : foundT b fs L (.over i :: r) fg k0 = [] := if_neg hk
          rw [e]
          exact ⟨rfl, fun i r x a => by simp at a⟩
    | answer =>
      have ht := (off_at (show off H fo t = _ from ht2)).2
      refine ⟨_, rfl, t, _, 0, _, rfl, rfl, SqT.of ht, at_of (j := 0) rfl rfl, rfl, _, rfl, iteDF d11 ?_⟩
      refine ⟨_, rfl, t, _, 0, _, rfl, rfl, SqT.of ht, at_of (j := 0) rfl rfl, rfl, _, rfl, iteDF d12 ?_⟩
      refine ⟨_, rfl, t, _, 0, _, rfl, rfl, SqT.of ht, at_of (j := 0) rfl rfl, rfl, _, rfl, iteDF d13 ?_⟩
      refine ⟨_, rfl, t, _, 0, _, rfl, rfl, SqT.of ht, at_of (j := 0) rfl rfl, rfl, _, rfl, iteDF d14 ?_⟩
      rw [hdr] at hlen hwf hsm k
      refine ⟨_, rfl, p, C, dx, _, _, rfl, hp, T.cl, T.nD, rf_found _ _ _ _ _, .inl ⟨rfl, _, SqL.of hfo⟩, ?_⟩
      refine ⟨_, rfl, p, C, dx, _, _, rfl, hp, T.cl, T.nO, rf_order _ _ _ _ _, ol, rfl, ⟨_, SqL.of hol⟩, fun D hD => ?_⟩
      have holD := ne_of_none hol hD
      have hdD := ne_of_none hd hD
      refine lc_list (K := K) (a := ol) (xs := L.map sg) (fun j H4 => H4 = upd H D (.lst (((L.take j).map (figAt fg)).map V.int))) rfl
        (fun j H4 _ e => by rw [e]; exact SqL.of ((upd_ne holD).trans hol)) ?_ ?_
      · rintro j y H4 hj rfl
        obtain ⟨c, hc, rfl⟩ : ∃ c, L[j]? = some c ∧ y = sg c := by
          rw [List.getElem?_map] at hj
          cases e : L[j]? with
          | none => rw [e] at hj; cases hj
          | some c => rw [e] at hj; exact ⟨c, rfl, (Option.some.inj hj).symm⟩
        have hwf' : ∀ c ∈ L, c ∈ keysF fg := hwf
        have hg := kvsF_some (hwf' c (List.mem_of_getElem? hc))
        refine ⟨rfl, _, rfl, _, rfl, d, .int (figAt fg c), rfl, hg ▸ DGet.k (k := Sum.inr ⟨#[c]⟩) ((upd_ne hdD).trans hd), _, upd_same, ?_, ?_⟩
        · rw [List.length_map, List.length_map, List.length_take]
          exact line_lt (by omega)
        · have e : ((L.take (j + 1)).map (figAt fg)).map V.int = ((L.take j).map (figAt fg)).map V.int ++ [V.int (figAt fg c)] := by
            rw [take_snoc hc, List.map_append, List.map_append] <;> rfl
          rw [upd_upd, e]
      · rintro H4 rfl
        rw [List.length_map, List.take_length]
        refine ⟨D, _, rfl, .inl ⟨SqL.of upd_same, fun q hq => ?_⟩⟩
        have s5 : Same H (upd (upd H D (.lst ((L.map (figAt fg)).map V.int))) q (.tup ((L.map (figAt fg)).map V.int))) := (Same.new hD).trans (Same.new hq)
        have hqq : (upd (upd H D (.lst ((L.map (figAt fg)).map V.int))) q (.tup ((L.map (figAt fg)).map V.int))) q = some (.tup ((L.map (figAt fg)).map V.int)) := upd_same
        generalize upd (upd H D (.lst ((L.map (figAt fg)).map V.int))) q (.tup ((L.map (figAt fg)).map V.int)) = H5 at s5 hqq
        have hfo5 := s5 _ _ hfo
        refine ⟨fo, _, _, rfl, rfl, hfo5, ?_, ?_⟩
        · rw [List.length_map]
          exact line_lt (by omega)
        have hqfo : q ≠ fo := ne_of hqq hfo5 (fun z => by cases z)
        have htfo : t ≠ fo := ne_of ht hfo (fun z => by cases z)
        refine ⟨_, rfl, k (.ref t) _ [q] ((But.of s5).trans But.upd) ?_ (.answer ((upd_ne htfo).trans (s5 _ _ ht))) ⟨rfl, fun i r5 x5 a5 b5 => ?_⟩⟩
        · rw [upd_same, List.map_append] <;> rfl
        · have b5' : ([L.map (figAt fg)] : List (List Int))[i]? = some x5 := b5
          cases i with
          | zero =>
            cases Option.some.inj a5
            cases Option.some.inj b5'
            exact (upd_ne hqfo).trans hqq
          | succ i => simp at a5
theorem ok_case {fC fP fO fX fF fE C : Addr} {fd fdP fdO fdX fdF fdE : FuncData} {b : Int} {L fs : List Nat} {ps : List Stp} (O : StOk b L fs ps) (T : ReaderTxt K mg C) (z_tuple : mg "tuple" = none)
    (FC : Fun K "case_from" "Reader.case_from" sRdCaseFrom fC fd) (FP : Fun K "parted" "Reader.parted" sRdParted fP fdP) (FO : Fun K "forced" "Reader.forced" sRdForced fO fdO) (FX : Fun K "compared" "Reader.compared" sRdCompared fX fdX)
    (S_free_figures : Site K mg "free_figures" fF fdF ["letter", "figures", "firsts", "base"]) (G_free_figures : FnOk P w K mg base CX0 1 fF fdF ["letter", "figures", "firsts", "base"] spFree)
    (mE : Meth K C "column_end" fE) (bE : Binds K fdE ["self", "added", "figures", "carried"] []) (GE : FnOk P w K mg base CX0 1 fE fdE ["self", "added", "figures", "carried"] (spColEnd C))
    (mC : Meth K C "case_from" fC) (bC : Binds K fd ["self", "turn", "figures", "carried"] []) (mP : Meth K C "parted" fP) (bP : Binds K fdP ["self", "turn", "figures", "carried"] [])
    (mO : Meth K C "forced" fO) (bO : Binds K fdO ["self", "turn", "figures", "carried"] []) (mX : Meth K C "compared" fX) (bX : Binds K fdX ["self", "turn", "figures", "carried"] []) :
    ∀ n : Nat, FnOk P w K mg base CX0 (2 * n + 3) fC fd ["self", "turn", "figures", "carried"] (spCase C b L fs ps n fun _ => True)
  | 0 => by
    refine FC.ok scCaseFrom (fun vs H Q E h => ?_) (fun cdv A outer s H vs Q E hr h => ?_)
    · obtain ⟨p, d, fo, turn, k0, fg, rs0, rfl, _⟩ := h
      rfl
    · obtain ⟨p, d, fo, turn, k0, fg, rs0, rfl, R, hd, hfo, hlen, hnk, hft, hwf, hsm, ⟨st, r, hdr, hg⟩, k⟩ := h
      rw [hdr] at hlen
      simp at hlen
  | n + 1 => by
    have GC := ok_case O T z_tuple FC FP FO FX S_free_figures G_free_figures mE bE GE mC bC mP bP mO bO mX bX n
    exact ok_casefrom O FC T z_tuple mP bP mO bO mX bX mC bC (ok_parted O FP T z_tuple S_free_figures G_free_figures mC bC GC) (ok_forced O FO T S_free_figures G_free_figures mE bE GE mC bC GC) (ok_compared O FX T mE bE GE mC bC GC) GC
end
end WS
set_option maxRecDepth 100000
set_option maxHeartbeats 8000000
namespace WS
open PySem L2 SetT RevS
theorem ShAt.but {CS C : Addr} {H H' : Hp} {p sh : Addr} {b : Int} {kl : Addr} {ts : List Addr} {dx : Addr} {fl : List (Str × V)} (h : ShAt CS H sh b kl ts) (e : But p H H') (hp : H p = some (.ins C dx fl)) (hne : sh ≠ p) : ShAt CS H' sh b kl ts := by
  obtain ⟨⟨dx', h1⟩, h2⟩ := h
  exact ⟨⟨dx', e _ _ hne h1⟩, e _ _ (ne_of h2 hp (fun z => by cases z)) h2⟩
theorem SumsAt.butP {C : Addr} {H H' : Hp} {p : Addr} {ts : List Addr} {ss : List WSum} {dx : Addr} {fl : List (Str × V)} (h : SumsAt H ts ss) (e : But p H H') (hp : H p = some (.ins C dx fl)) : SumsAt H' ts ss := by
  refine ⟨h.len, fun i t s a c => ?_⟩
  obtain ⟨u, h1, h2⟩ := h.get i t s a c
  exact ⟨u, e _ _ (ne_of h1 hp (fun z => by cases z)) h1, e _ _ (ne_of h2 hp (fun z => by cases z)) h2⟩
theorem StepsAt.but {C : Addr} {H H' : Hp} {p : Addr} {rs : List Addr} {ps : List Stp} {dx : Addr} {fl : List (Str × V)} (h : StepsAt H rs ps) (e : But p H H') (hp : H p = some (.ins C dx fl)) : StepsAt H' rs ps := by
  have nt : ∀ {a : Addr} {ys : List V}, H a = some (.tup ys) → a ≠ p := fun h => ne_of h hp (fun z => by cases z)
  have nl : ∀ {a : Addr} {ys : List V}, H a = some (.lst ys) → a ≠ p := fun h => ne_of h hp (fun z => by cases z)
  refine ⟨h.len, fun i r s a c => ?_⟩
  have h := h.get i r s a c
  cases s with
  | cases c => exact e _ _ (nt h) h
  | col so a p added en => obtain ⟨q, h1, h2⟩ := h; exact ⟨q, e _ _ (nt h1) h1, e _ _ (nl h2) h2⟩
  | over a => exact e _ _ (nt h) h
  | answer => exact e _ _ (nt h) h
theorem flds_ne (b : Int) (kl : Addr) : flds b kl ≠ [] := fun e => by
  have := flds_base b kl
  rw [e] at this
  cases this
def spRdInit (C CS : Addr) : Sp := fun vs H Q _ => ∃ (p dx sh : Addr) (b : Int) (kl : Addr) (ts : List Addr) (ss : List WSum), vs = [.ref p, .ref sh] ∧ H p = some (.ins C dx []) ∧ ShAt CS H sh b kl ts ∧ SumsAt H ts ss ∧ Valid b ss ∧
  ∀ fo H', H fo = none → H' fo = some (.lst []) → RdAt C (off H' fo) p b (lettersOf ss) (firstsOf ss) (stepsOf ss) fo → (∀ a o, a ≠ p → H a = some o → H' a = some o) → Q .non H'
section
variable {P : Program} {w : World} {K : PySem.W.Frag} {mg : Str → Option Value} {base : Heap}
theorem scRdInit : FnScope ["self", "sheet"] ["self", "sheet"] (defScope sRdInit) := ⟨rfl, rfl, rfl, by decide +kernel, rfl, by decide +kernel, by decide +kernel⟩
theorem ok_rdinit {f C CS fL fF fS : Addr} {fd fdL fdF fdS : FuncData} (F : Fun K "__init__" "Reader.__init__" sRdInit f fd) (T : ReaderTxt K mg C) (TS : SheetTxt K mg CS)
    (mL : Meth K CS "letters" fL) (bL : Binds K fdL ["self"] []) (GL : FnOk P w K mg base CX0 3 fL fdL ["self"] (spShLetters CS))
    (S_first_letters : Site K mg "first_letters" fF fdF ["sheet"]) (G_first_letters : FnOk P w K mg base CX0 2 fF fdF ["sheet"] (spFirsts CS))
    (S_steps_of : Site K mg "steps_of" fS fdS ["sheet"]) (G_steps_of : FnOk P w K mg base CX0 3 fS fdS ["sheet"] (spSteps CS)) :
    FnOk P w K mg base CX0 4 f fd ["self", "sheet"] (spRdInit C CS) := by
  refine F.ok scRdInit (fun vs H Q E h => ?_) (fun cdv A outer s H vs Q E hr h => ?_)
  · obtain ⟨p, dx, sh, b, kl, ts, ss, rfl, _⟩ := h
    rfl
  · obtain ⟨p, dx, sh, b, kl, ts, ss, rfl, hp, A', hsa, V', k⟩ := h
    have nd := scRdInit.nd
    have hr_first_letters : Room 2 _ := hr.mono (by decide)
    have hr_steps_of := hr
    refine ⟨_, (pss_cons (ps_fld (pv 0) (pe_fld (pv 1) rfl) rfl)
      (pss_cons (ps_fld (pv 0) (pe_meth0 (pv 1) TS.cl mL GL hr bL .nil pass0) rfl)
      (pss_cons (ps_fld (pv 0) (pe_call G_first_letters hr_first_letters (by rfl) S_first_letters.g S_first_letters.k S_first_letters.b .nil pass0 (pa_cons (pv 1) pa_nil)) rfl)
      (pss_cons (ps_fld (pv 0) (pe_call G_steps_of hr_steps_of (by rfl) S_steps_of.g S_steps_of.k S_steps_of.b .nil pass0 (pa_cons (pv 1) pa_nil)) rfl)
      (pss_one (ps_fld (pv 0) (pe_lst pa_nil) rfl)))))), ?_⟩
    obtain ⟨⟨dxs, hsh⟩, hkl⟩ := id A'
    have hne : sh ≠ p := fun e => by
      rw [e, hp] at hsh
      injection hsh with h1
      injection h1 with _ _ h3
      exact flds_ne _ _ h3.symm
    refine ⟨_, rfl, sh, CS, dxs, _, _, rfl, hsh, TS.cl, TS.nB, flds_base _ _, _, rfl, p, C, dx, [], rfl, hp, T.cl, T.nB, (by show 0 < 1000; decide), ?_⟩
    -- order
    have e1 : But p H (upd H p (.ins C dx (putF "base" (.int b) []))) := But.upd
    have hp1 : (upd H p (.ins C dx (putF "base" (.int b) []))) p = some (.ins C dx (putF "base" (.int b) [])) := upd_same
    generalize upd H p (.ins C dx (putF "base" (.int b) [])) = H1 at e1 hp1
    have A1 := A'.but e1 hp hne
    have S1 := hsa.butP e1 hp
    obtain ⟨⟨dxs1, hsh1⟩, _⟩ := id A1
    refine ⟨_, rfl, sh, dxs1, _, rfl, hsh1, flds_no _ _ (by decide +kernel) (by decide +kernel), sh, b, kl, ts, ss, rfl, A1, S1, V', fun ol H2 hol s2 hol2 => ?_⟩
    have hp2 := s2 _ _ hp1
    refine ⟨_, rfl, p, C, dx, _, rfl, hp2, T.cl, T.nO, (by show 1 < 1000; decide), ?_⟩
    have n_ol : ol ≠ p := ne_of hol2 hp2 (fun z => by cases z)
    have e3 : But p H2 (upd H2 p (.ins C dx (putF "order" (.ref ol) (putF "base" (.int b) [])))) := But.upd
    have hp3 : (upd H2 p (.ins C dx (putF "order" (.ref ol) (putF "base" (.int b) [])))) p = some (.ins C dx (putF "order" (.ref ol) (putF "base" (.int b) []))) := upd_same
    generalize upd H2 p (.ins C dx (putF "order" (.ref ol) (putF "base" (.int b) []))) = H3 at e3 hp3
    have A3 := (A1.same s2).but e3 hp2 hne
    have S3 := (S1.same s2).butP e3 hp2
    have hol3 := e3 _ _ n_ol hol2
    -- firsts
    refine ⟨_, rfl, sh, b, kl, ts, ss, rfl, A3, S3, V', fun fq H4 hfq s4 hfq4 => ?_⟩
    have hp4 := s4 _ _ hp3
    refine ⟨_, rfl, p, C, dx, _, rfl, hp4, T.cl, T.nF, (by show 2 < 1000; decide), ?_⟩
    have n_fq : fq ≠ p := ne_of hfq4 hp4 (fun z => by cases z)
    have e5 : But p H4 (upd H4 p (.ins C dx (putF "firsts" (.ref fq) (putF "order" (.ref ol) (putF "base" (.int b) []))))) := But.upd
    have hp5 : (upd H4 p (.ins C dx (putF "firsts" (.ref fq) (putF "order" (.ref ol) (putF "base" (.int b) []))))) p = some (.ins C dx (putF "firsts" (.ref fq) (putF "order" (.ref ol) (putF "base" (.int b) [])))) := upd_same
    generalize upd H4 p (.ins C dx (putF "firsts" (.ref fq) (putF "order" (.ref ol) (putF "base" (.int b) [])))) = H5 at e5 hp5
    have A5 := (A3.same s4).but e5 hp4 hne
    have S5 := (S3.same s4).butP e5 hp4
    have hol5 := e5 _ _ n_ol (s4 _ _ hol3)
    have hfq5 := e5 _ _ n_fq hfq4
    -- steps
    refine ⟨_, rfl, sh, b, kl, ts, ss, rfl, A5, S5, V', fun sq rs H6 hsq s6 hsq6 hst6 => ?_⟩
    have hp6 := s6 _ _ hp5
    refine ⟨_, rfl, p, C, dx, _, rfl, hp6, T.cl, T.nS, (by show 3 < 1000; decide), ?_⟩
    have n_sq : sq ≠ p := ne_of hsq6 hp6 (fun z => by cases z)
    have e7 : But p H6 (upd H6 p (.ins C dx (putF "steps" (.ref sq) (putF "firsts" (.ref fq) (putF "order" (.ref ol) (putF "base" (.int b) [])))))) := But.upd
    have hp7 : (upd H6 p (.ins C dx (putF "steps" (.ref sq) (putF "firsts" (.ref fq) (putF "order" (.ref ol) (putF "base" (.int b) [])))))) p = some (.ins C dx (putF "steps" (.ref sq) (putF "firsts" (.ref fq) (putF "order" (.ref ol) (putF "base" (.int b) []))))) := upd_same
    generalize upd H6 p (.ins C dx (putF "steps" (.ref sq) (putF "firsts" (.ref fq) (putF "order" (.ref ol) (putF "base" (.int b) []))))) = H7 at e7 hp7
    have hol7 := e7 _ _ n_ol (s6 _ _ hol5)
    have hfq7 := e7 _ _ n_fq (s6 _ _ hfq5)
    have hsq7 := e7 _ _ n_sq hsq6
    have hst7 := hst6.but e7 hp6
    have eH7 : But p H H7 := ((((((e1.trans (But.of s2)).trans e3).trans (But.of s4)).trans e5).trans (But.of s6)).trans e7)
    -- found
    refine ⟨by show 0 ≤ sizeLine; decide, fun fo hfo => ?_⟩
    have n_fo : fo ≠ p := fun e => by rw [e, hp7] at hfo; cases hfo
    refine ⟨_, rfl, p, C, dx, _, rfl, (upd_ne (Ne.symm n_fo)).trans hp7, T.cl, T.nD, (by show 4 < 1000; decide), ?_⟩
    have hfo0 : H fo = none := by
      cases e : H fo with
      | none => rfl
      | some o => rw [eH7 _ _ n_fo e] at hfo; cases hfo
    have keep : ∀ a o, a ≠ p → H7 a = some o → off (upd (upd H7 fo (.lst [])) p (.ins C dx (rflds b ol fq sq fo))) fo a = some o := fun a o ha h => by
      have hafo : a ≠ fo := ne_of_none h hfo
      rw [off_ne hafo, upd_ne ha, upd_ne hafo]; exact h
    have hst8 : StepsAt (off (upd (upd H7 fo (.lst [])) p (.ins C dx (rflds b ol fq sq fo))) fo) rs (stepsOf ss) := hst7.but (fun a o ha h => keep a o ha h) hp7
    refine k fo _ hfo0 ((upd_ne n_fo).trans upd_same) ⟨dx, ol, fq, sq, rs, (off_ne (Ne.symm n_fo)).trans upd_same, keep _ _ n_ol hol7, keep _ _ n_fq hfq7, keep _ _ n_sq hsq7, hst8⟩ fun a o ha h => ?_
    have h7 := eH7 a o ha h
    rw [upd_ne ha, upd_ne (ne_of_none h7 hfo)]
    exact h7
end
end WS
set_option maxRecDepth 100000
set_option maxHeartbeats 4000000
namespace WS
open PySem L2 SetT RevS
/-- steps before the end: what is known before and behind them -/
def WfP : List Stp → List Nat → List Nat → Prop
  | [], kn, kn' => kn = kn'
  | .cases c :: r, kn, kn' => c ∉ kn ∧ WfP r (kn ++ [c]) kn'
  | .col false _ _ added e :: r, kn, kn' => (∀ c ∈ added, c ∈ kn) ∧ (∀ c, e = some c → c ∈ kn) ∧ WfP r kn kn'
  | .col true _ _ added e :: r, kn, kn' => (∀ c ∈ added, c ∈ kn) ∧ (∃ c, e = some c ∧ c ∉ kn) ∧ WfP r (kn ++ [e.getD 0]) kn'
  | .over _ :: r, kn, kn' => WfP r kn kn'
  | .answer :: _, _, _ => False
theorem WfP.append : ∀ {a : List Stp} {b : List Stp} {k k' k'' : List Nat}, WfP a k k' → WfP b k' k'' → WfP (a ++ b) k k''
  | [], b, k, k', k'', h, h' => by cases h; exact h'
  | .cases c :: r, b, k, k', k'', h, h' => ⟨h.1, WfP.append h.2 h'⟩
  | .col false _ _ added e :: r, b, k, k', k'', h, h' => ⟨h.1, h.2.1, WfP.append h.2.2 h'⟩
  | .col true _ _ added e :: r, b, k, k', k'', h, h' => ⟨h.1, h.2.1, WfP.append h.2.2 h'⟩
  | .over _ :: r, b, k, k', k'', h, h' => WfP.append (a := r) h h'
  | .answer :: _, b, k, k', k'', h, h' => False.elim h
theorem WfP.wf {L : List Nat} : ∀ {a : List Stp} {b : List Stp} {k k' : List Nat}, WfP a k k' → WfS L b k' → WfS L (a ++ b) k
  | [], b, k, k', h, h' => by cases h; exact h'
  | .cases c :: r, b, k, k', h, h' => ⟨h.1, WfP.wf h.2 h'⟩
  | .col false _ _ added e :: r, b, k, k', h, h' => ⟨h.1, h.2.1, WfP.wf h.2.2 h'⟩
  | .col true _ _ added e :: r, b, k, k', h, h' => ⟨h.1, h.2.1, WfP.wf h.2.2 h'⟩
  | .over _ :: r, b, k, k', h, h' => WfP.wf (a := r) h h'
  | .answer :: _, b, k, k', h, h' => False.elim h
/-- steps made so far are good -/
structure Good (st : St2) (n : Nat) : Prop where
  wf : WfP st.1 [] st.2
  len : st.1.length ≤ n
  add : ∀ so i p added e, Stp.col so i p added e ∈ st.1 → added.length ≤ 4
theorem stLetter_kn (st : St2) (c : Nat) : (stLetter st c).2 = addN st.2 c := by
  unfold stLetter addN
  split <;> rfl
theorem Good.letter {st : St2} {n c : Nat} (g : Good st n) : Good (stLetter st c) (n + 1) := by
  unfold stLetter
  split
  · exact ⟨g.wf, Nat.le_succ_of_le g.len, g.add⟩
  · rename_i hc
    refine ⟨g.wf.append (show WfP [.cases c] st.2 (st.2 ++ [c]) from ⟨hc, rfl⟩), by rw [List.length_append]; exact Nat.succ_le_succ g.len, fun so i p added e h => ?_⟩
    rcases List.mem_append.mp h with h | h
    · exact g.add so i p added e h
    · simp at h
theorem stLets_kn (st : St2) (cs : List Nat) : (stLets st cs).2 = cs.foldl addN st.2 := by
  unfold stLets
  induction cs generalizing st with
  | nil => rfl
  | cons c r ih => rw [List.foldl_cons, ih, stLetter_kn, List.foldl_cons]
theorem Good.lets {st : St2} {n : Nat} (cs : List Nat) (g : Good st n) : Good (stLets st cs) (n + cs.length) := by
  unfold stLets
  induction cs generalizing st n with
  | nil => exact g
  | cons c r ih =>
    have := ih (g.letter (c := c))
    rw [List.foldl_cons, List.length_cons]
    have e : n + (r.length + 1) = n + 1 + r.length := by omega
    rw [e]; exact this
theorem foldl_addN_mem (cs : List Nat) : ∀ (kn : List Nat) (c : Nat), c ∈ kn ∨ c ∈ cs → c ∈ cs.foldl addN kn := by
  induction cs with
  | nil => intro kn c h; exact h.elim id fun h => nomatch h
  | cons d r ih =>
    intro kn c h
    rw [List.foldl_cons]
    refine ih _ _ ?_
    rw [addN_mem, List.mem_cons] at *
    rcases h with h | h | h
    · exact .inl (.inl h)
    · exact .inl (.inr h)
    · exact .inr h
theorem Good.col {st : St2} {n i p : Nat} {s : WSum} (h4 : s.1.length ≤ 4) (g : Good st n) : Good (stCol i s st p) (n + 5) := by
  unfold stCol
  have hcl : (WS.col s.1 p).length ≤ 4 := Nat.le_trans (List.length_filterMap_le _ _) h4
  have g1 := g.lets (WS.col s.1 p)
  have hin : ∀ c ∈ WS.col s.1 p, c ∈ (stLets st (WS.col s.1 p)).2 := fun c hc => by
    rw [stLets_kn]
    exact foldl_addN_mem _ _ _ (.inr hc)
  generalize stLets st (WS.col s.1 p) = st1 at g1 hin
  refine ⟨g1.wf.append ?_, by have := g1.len; rw [List.length_append]; show st1.1.length + 1 ≤ _; omega, fun so i p added e h => ?_⟩
  · cases e : endOf s.2 p with
    | none => exact ⟨hin, (fun c h => nomatch h), rfl⟩
    | some c =>
      by_cases hc : c ∈ st1.2
      · have e1 : soOf (some c) st1.2 = false := by unfold soOf; simp [hc]
        have e2 : addE st1.2 (some c) = st1.2 := by unfold addE addN; simp [hc]
        rw [e1, e2]
        exact ⟨hin, (fun d h => by cases h; exact hc), rfl⟩
      · have e1 : soOf (some c) st1.2 = true := by unfold soOf; simp [hc]
        have e2 : addE st1.2 (some c) = st1.2 ++ [c] := by unfold addE addN; simp [hc]
        rw [e1, e2]
        exact ⟨hin, ⟨c, rfl, hc⟩, rfl⟩
  · rcases List.mem_append.mp h with h | h
    · exact g1.add so i p added e h
    · rw [List.mem_singleton] at h
      injection h with _ _ _ h4 _
      rw [h4]; exact hcl
theorem Good.cols {st : St2} {n i : Nat} {s : WSum} (h4 : s.1.length ≤ 4) (g : Good st n) : ∀ j, Good (stCols i s st j) (n + 5 * j)
  | 0 => g
  | j + 1 => by
    rw [stCols_succ]
    exact (Good.cols h4 g j).col h4
theorem Good.sum {st : St2} {n i : Nat} {s : WSum} (h4 : s.1.length ≤ 4) (h6 : maxLen (s.1 ++ [s.2]) ≤ 6) (g : Good st n) : Good (stSum i s st) (n + 31) := by
  unfold stSum
  have g1 := g.cols (i := i) h4 (maxLen (s.1 ++ [s.2]))
  refine ⟨g1.wf.append (show WfP [.over i] _ _ from rfl), by have := g1.len; rw [List.length_append]; show _ + 1 ≤ _; omega, fun so i p added e h => ?_⟩
  rcases List.mem_append.mp h with h | h
  · exact g1.add so i p added e h
  · simp at h
theorem Good.all {ss : List WSum} (h4 : ∀ s ∈ ss, s.1.length ≤ 4 ∧ maxLen (s.1 ++ [s.2]) ≤ 6) : ∀ i, i ≤ ss.length → Good (stepsSt (ss.take i)) (31 * i)
  | 0, _ => ⟨rfl, Nat.le_refl _, fun _ _ _ _ _ h => nomatch h⟩
  | i + 1, h => by
    have hs : ss[i]? = some ss[i] := List.getElem?_eq_getElem h
    rw [stepsSt_take hs]
    obtain ⟨a, b⟩ := h4 _ (List.getElem_mem h)
    exact (Good.all h4 i (Nat.le_of_lt h)).sum a b
theorem stCol_kn (i : Nat) (s : WSum) (st : St2) (p : Nat) : (stCol i s st p).2 = (WS.col (s.1 ++ [s.2]) p).foldl addN st.2 := by
  show addE (stLets st (WS.col s.1 p)).2 (endOf s.2 p) = _
  rw [stLets_kn]
  have e : WS.col (s.1 ++ [s.2]) p = WS.col s.1 p ++ (endOf s.2 p).toList := by
    unfold WS.col endOf
    rw [List.filterMap_append]
    congr 1
  rw [e, List.foldl_append]
  cases endOf s.2 p <;> rfl
theorem stCols_kn (i : Nat) (s : WSum) (st : St2) : ∀ j, (stCols i s st j).2 = (((List.range j).map (WS.col (s.1 ++ [s.2]))).flatten).foldl addN st.2
  | 0 => rfl
  | j + 1 => by
    rw [stCols_succ, stCol_kn, stCols_kn i s st j, List.range_succ, List.map_append, List.flatten_append, List.foldl_append]
    simp
theorem stepsSt_kn {ss : List WSum} : ∀ i, i ≤ ss.length → (stepsSt (ss.take i)).2 = dd (rawOf (ss.take i))
  | 0, _ => rfl
  | i + 1, h => by
    have hs : ss[i]? = some ss[i] := List.getElem?_eq_getElem h
    rw [stepsSt_take hs, rawOf_take hs]
    show (stCols i ss[i] (stepsSt (ss.take i)) (maxLen (ss[i].1 ++ [ss[i].2]))).2 = _
    rw [stCols_kn, stepsSt_kn i (Nat.le_of_lt h)]
    unfold dd
    rw [List.foldl_append] <;> rfl
theorem stepsOf_wf {b : Int} {ss : List WSum} (V' : Valid b ss) : WfS (lettersOf ss) (stepsOf ss) [] ∧ StOk b (lettersOf ss) (firstsOf ss) (stepsOf ss) := by
  have h4 : ∀ s ∈ ss, s.1.length ≤ 4 ∧ maxLen (s.1 ++ [s.2]) ≤ 6 := fun s hs => ⟨(V'.many s hs).2, maxLen_bound fun z hz => (isWord_iff.mp (words_of V' hs z hz)).1.2⟩
  have g := Good.all h4 ss.length (Nat.le_refl _)
  have e := stepsSt_kn (ss := ss) ss.length (Nat.le_refl _)
  rw [List.take_length] at g e
  have hf := V'.few
  refine ⟨g.wf.wf ?_, by have := V'.b2; omega, V'.b12, ?_, ?_, fun so i p added e h => ?_⟩
  · rw [e]
    exact fun c hc => hc
  · have := g.len
    unfold stepsOf
    rw [List.length_append]
    show _ + 1 ≤ _
    omega
  · have habc : (lettersOf ss).length ≤ 26 := (lettersOf_abc V').len
    have := habc
    exact Nat.le_trans this (by omega)
  · unfold stepsOf at h
    rcases List.mem_append.mp h with h | h
    · exact Nat.le_trans (g.add so i p added e h) (by omega)
    · simp at h
theorem stepsOf_len {b : Int} {ss : List WSum} (V' : Valid b ss) : (stepsOf ss).length ≤ 94 := by
  have h4 : ∀ s ∈ ss, s.1.length ≤ 4 ∧ maxLen (s.1 ++ [s.2]) ≤ 6 := fun s hs => ⟨(V'.many s hs).2, maxLen_bound fun z hz => (isWord_iff.mp (words_of V' hs z hz)).1.2⟩
  have g := (Good.all h4 ss.length (Nat.le_refl _)).len
  rw [List.take_length] at g
  have hf := V'.few
  unfold stepsOf
  rw [List.length_append]
  show _ + 1 ≤ _
  omega
/-- the answers in reading's order -/
def answersOf (b : Int) (ss : List WSum) : List (List Int) := foundT b (firstsOf ss) (lettersOf ss) (stepsOf ss) [] 0
def tableOf (b : Int) (ss : List WSum) : Tree := readT b (firstsOf ss) (stepsOf ss) [] 0
end WS
set_option maxRecDepth 100000
set_option maxHeartbeats 4000000
namespace WS
open PySem L2 SetT RevS
/-! ### the steps that are left -/
theorem stLets_shift (ps : List Stp) (kn : List Nat) (cs : List Nat) : stLets (ps, kn) cs = (ps ++ (stLets ([], kn) cs).1, (stLets ([], kn) cs).2) := by
  unfold stLets
  induction cs generalizing ps kn with
  | nil => simp
  | cons c r ih =>
    rw [List.foldl_cons, List.foldl_cons]
    by_cases hc : c ∈ kn
    · have e1 : stLetter (ps, kn) c = (ps, kn) := if_pos hc
      have e2 : stLetter (([] : List Stp), kn) c = ([], kn) := if_pos hc
      rw [e1, e2, ih ps kn]
    · have e1 : stLetter (ps, kn) c = (ps ++ [.cases c], kn ++ [c]) := if_neg hc
      have e2 : stLetter (([] : List Stp), kn) c = ([] ++ [.cases c], kn ++ [c]) := if_neg hc
      rw [e1, e2, ih (ps ++ [Stp.cases c]) (kn ++ [c]), ih ([] ++ [Stp.cases c]) (kn ++ [c])]
      simp
theorem stCol_shift (i : Nat) (s : WSum) (ps : List Stp) (kn : List Nat) (p : Nat) : stCol i s (ps, kn) p = (ps ++ (stCol i s ([], kn) p).1, (stCol i s ([], kn) p).2) := by
  unfold stCol
  rw [stLets_shift ps kn]
  simp
/-- the steps of some columns, and what is known behind them -/
def remCols (i : Nat) (s : WSum) : List Nat → List Nat → St2
  | [], kn => ([], kn)
  | p :: r, kn => ((stCol i s ([], kn) p).1 ++ (remCols i s r (stCol i s ([], kn) p).2).1, (remCols i s r (stCol i s ([], kn) p).2).2)
def remSums : List (WSum × Nat) → List Nat → List Stp
  | [], _ => [.answer]
  | (s, i) :: r, kn => (remCols i s (List.range (maxLen (s.1 ++ [s.2]))) kn).1 ++ .over i :: remSums r (remCols i s (List.range (maxLen (s.1 ++ [s.2]))) kn).2
theorem remCols_fold (i : Nat) (s : WSum) : ∀ (js : List Nat) (ps : List Stp) (kn : List Nat), js.foldl (stCol i s) (ps, kn) = (ps ++ (remCols i s js kn).1, (remCols i s js kn).2)
  | [], ps, kn => by simp [remCols]
  | p :: r, ps, kn => by
    rw [List.foldl_cons, stCol_shift, remCols_fold i s r]
    simp [remCols]
theorem remSums_fold : ∀ (l : List (WSum × Nat)) (ps : List Stp) (kn : List Nat), (l.foldl (fun st p => stSum p.2 p.1 st) (ps, kn)).1 ++ [.answer] = ps ++ remSums l kn
  | [], ps, kn => rfl
  | (s, i) :: r, ps, kn => by
    rw [List.foldl_cons]
    have e : stSum i s (ps, kn) = (ps ++ (remCols i s (List.range (maxLen (s.1 ++ [s.2]))) kn).1 ++ [.over i], (remCols i s (List.range (maxLen (s.1 ++ [s.2]))) kn).2) := by
      unfold stSum stCols
      rw [remCols_fold]
    show (List.foldl _ (stSum i s (ps, kn)) r).1 ++ _ = _
    rw [e, remSums_fold r]
    show _ = ps ++ (_ ++ .over i :: _)
    simp
/-- what is left at a column of a sum -/
def remAt (ss : List WSum) (at_ place : Nat) (kn : List Nat) : List Stp := match ss[at_]? with
  | none => [.answer]
  | some s => (remCols at_ s (List.range' place (maxLen (s.1 ++ [s.2]) - place)) kn).1 ++ .over at_ :: remSums (ss.zipIdx.drop (at_ + 1)) (remCols at_ s (List.range' place (maxLen (s.1 ++ [s.2]) - place)) kn).2
theorem zip_drop {ss : List WSum} {i : Nat} {s : WSum} (h : ss[i]? = some s) : ss.zipIdx.drop i = (s, i) :: ss.zipIdx.drop (i + 1) := by
  have hi : i < ss.length := (List.getElem?_eq_some_iff.mp h).1
  have hi' : i < ss.zipIdx.length := by rw [List.length_zipIdx]; exact hi
  rw [List.drop_eq_getElem_cons hi']
  congr 1
  rw [List.getElem_zipIdx]
  have : ss[i] = s := by rw [List.getElem?_eq_getElem hi] at h; exact Option.some.inj h
  simp [this]
theorem remSums_at (ss : List WSum) (i : Nat) (kn : List Nat) : remSums (ss.zipIdx.drop i) kn = remAt ss i 0 kn := by
  unfold remAt
  cases h : ss[i]? with
  | none =>
    have : ss.length ≤ i := List.getElem?_eq_none_iff.mp h
    rw [List.drop_eq_nil_iff.mpr (by rw [List.length_zipIdx]; exact this)] <;> rfl
  | some s =>
    rw [zip_drop h]
    dsimp only
    rw [Nat.sub_zero, ← List.range_eq_range'] <;> rfl
theorem stepsOf_rem (ss : List WSum) : stepsOf ss = remAt ss 0 0 [] := by
  unfold stepsOf stepsSt
  rw [remSums_fold, List.nil_append, ← remSums_at, List.drop_zero]
theorem rem_end {ss : List WSum} {i p : Nat} {kn : List Nat} (h : ss.length ≤ i) : remAt ss i p kn = [.answer] := by
  unfold remAt
  rw [List.getElem?_eq_none_iff.mpr h]
theorem rem_over {ss : List WSum} {i : Nat} {s : WSum} {kn : List Nat} (h : ss[i]? = some s) : remAt ss i (maxLen (s.1 ++ [s.2])) kn = .over i :: remAt ss (i + 1) 0 kn := by
  rw [← remSums_at]
  unfold remAt
  rw [h]
  dsimp only
  rw [Nat.sub_self] <;> rfl
theorem range'_cons {p m : Nat} (h : p < m) : List.range' p (m - p) = p :: List.range' (p + 1) (m - (p + 1)) := by
  have e : m - p = (m - (p + 1)) + 1 := by omega
  rw [e, List.range'_succ]
theorem rem_col {ss : List WSum} {i p : Nat} {s : WSum} {kn : List Nat} (h : ss[i]? = some s) (hp : p < maxLen (s.1 ++ [s.2])) : remAt ss i p kn = (stCol i s ([], kn) p).1 ++ remAt ss i (p + 1) (stCol i s ([], kn) p).2 := by
  unfold remAt
  rw [h]
  dsimp only
  rw [range'_cons hp]
  simp [remCols]
theorem stLets_known {kn cs : List Nat} (h : ∀ c ∈ cs, c ∈ kn) : stLets ([], kn) cs = ([], kn) := by
  unfold stLets
  induction cs with
  | nil => rfl
  | cons c r ih =>
    have e : stLetter (([] : List Stp), kn) c = ([], kn) := if_pos (h c List.mem_cons_self)
    rw [List.foldl_cons, e]
    exact ih fun d hd => h d (List.mem_cons_of_mem _ hd)
theorem stLets_append (st : St2) (a b : List Nat) : stLets st (a ++ b) = stLets (stLets st a) b := by
  unfold stLets
  rw [List.foldl_append]
/-- all letters of the column are known: it is compared or forced -/
theorem rem_known {ss : List WSum} {i p : Nat} {s : WSum} {kn : List Nat} (h : ss[i]? = some s) (hp : p < maxLen (s.1 ++ [s.2])) (hk : ∀ c ∈ col s.1 p, c ∈ kn) :
    remAt ss i p kn = .col (soOf (endOf s.2 p) kn) i p (col s.1 p) (endOf s.2 p) :: remAt ss i (p + 1) (addE kn (endOf s.2 p)) := by
  rw [rem_col h hp]
  unfold stCol
  rw [stLets_known hk] <;> rfl
/-- c is the column's first letter that is not known -/
theorem rem_first {ss : List WSum} {i p c : Nat} {s : WSum} {kn a r : List Nat} (h : ss[i]? = some s) (hp : p < maxLen (s.1 ++ [s.2])) (he : col s.1 p = a ++ c :: r) (hk : ∀ d ∈ a, d ∈ kn) (hc : c ∉ kn) :
    remAt ss i p kn = .cases c :: remAt ss i p (kn ++ [c]) := by
  rw [rem_col h hp, rem_col (kn := kn ++ [c]) h hp]
  have e1 : stLets ([], kn) (col s.1 p) = stLets ([.cases c], kn ++ [c]) r := by
    rw [he, stLets_append, stLets_known hk]
    unfold stLets
    rw [List.foldl_cons]
    have e : stLetter (([] : List Stp), kn) c = ([.cases c], kn ++ [c]) := if_neg hc
    rw [e]
  have e2 : stLets ([], kn ++ [c]) (col s.1 p) = stLets ([], kn ++ [c]) r := by
    rw [he, stLets_append, stLets_known (fun d hd => List.mem_append_left _ (hk d hd))]
    unfold stLets
    rw [List.foldl_cons]
    have e : stLetter (([] : List Stp), kn ++ [c]) c = ([], kn ++ [c]) := if_pos (List.mem_append_right _ List.mem_cons_self)
    rw [e]
  unfold stCol
  rw [e1, e2, stLets_shift [.cases c]]
  simp
end WS
set_option maxRecDepth 100000
set_option maxHeartbeats 4000000
namespace WS
open PySem L2 SetT RevS
mutual
def tsize : Tree → Nat
  | .cases _ rows => 1 + rsize rows
  | .so _ _ t => 1 + tsize t
  | .taken _ _ => 1
  | .off _ _ => 1
  | .over _ => 1
  | .answer => 1
def rsize : List (Int × Tree) → Nat
  | [] => 0
  | (_, t) :: r => tsize t + rsize r
end
theorem rsize_append : ∀ (a b : List (Int × Tree)), rsize (a ++ b) = rsize a + rsize b
  | [], b => by simp [rsize]
  | (x, t) :: r, b => by
    show tsize t + rsize (r ++ b) = tsize t + rsize r + rsize b
    rw [rsize_append r b]; omega
theorem tsize_pos (t : Tree) : 1 ≤ tsize t := by
  cases t <;> simp [tsize]
def wsize (ts : List Tree) : Nat := (ts.map tsize).sum
theorem wsize_append (a b : List Tree) : wsize (a ++ b) = wsize a + wsize b := by
  unfold wsize; rw [List.map_append, List.sum_append]
theorem wsize_rows : ∀ (rows : List (Int × Tree)), wsize (rows.map (·.2)) = rsize rows
  | [] => rfl
  | (x, t) :: r => by
    have := wsize_rows r
    unfold wsize at this ⊢
    show tsize t + _ = tsize t + rsize r
    rw [← this] <;> rfl
theorem wsize_len : ∀ (ts : List Tree), ts.length ≤ wsize ts
  | [] => Nat.le_refl _
  | t :: r => by
    have h1 := wsize_len r
    have h2 := tsize_pos t
    have e : wsize (t :: r) = tsize t + wsize r := rfl
    rw [e, List.length_cons]; omega
/-- trees, one by one -/
structure TreesAt (H : Hp) (vs : List V) (ts : List Tree) : Prop where
  len : vs.length = ts.length
  get : ∀ (i : Nat) (v : V) (t : Tree), vs[i]? = some v → ts[i]? = some t → TreeAt H v t
theorem TreesAt.same {H H' : Hp} (e : Same H H') {vs : List V} {ts : List Tree} (h : TreesAt H vs ts) : TreesAt H' vs ts := ⟨h.len, fun i v t a b => (h.get i v t a b).same e⟩
theorem TreesAt.mut {H H' : Hp} {f : Addr} (e : But f H H') (hf : ∃ xs, H f = some (.lst xs)) {vs : List V} {ts : List Tree} (h : TreesAt H vs ts) : TreesAt H' vs ts := ⟨h.len, fun i v t a b => (h.get i v t a b).mut e hf⟩
theorem TreesAt.append {H : Hp} {vs vs' : List V} {ts ts' : List Tree} (h : TreesAt H vs ts) (h' : TreesAt H vs' ts') : TreesAt H (vs ++ vs') (ts ++ ts') := by
  have hl := h.len
  refine ⟨by rw [List.length_append, List.length_append, h.len, h'.len], fun i v t a b => ?_⟩
  by_cases hi : i < vs.length
  · rw [List.getElem?_append_left hi] at a
    rw [List.getElem?_append_left (by omega)] at b
    exact h.get i v t a b
  · rw [List.getElem?_append_right (by omega)] at a
    rw [List.getElem?_append_right (by omega)] at b
    rw [← hl] at b
    exact h'.get _ v t a b
theorem TreesAt.one {H : Hp} {v : V} {t : Tree} (h : TreeAt H v t) : TreesAt H [v] [t] := ⟨rfl, fun i u s a b => by
  cases i with
  | zero => cases Option.some.inj a; cases Option.some.inj b; exact h
  | succ i => simp at a⟩
theorem TreesAt.last {H : Hp} {vs : List V} {v : V} {ts : List Tree} {t : Tree} (h : TreesAt H (vs ++ [v]) (ts ++ [t])) : TreesAt H vs ts ∧ TreeAt H v t := by
  have hl : vs.length = ts.length := by
    have := h.len
    rw [List.length_append, List.length_append] at this
    simpa using this
  refine ⟨⟨hl, fun i u s a b => ?_⟩, ?_⟩
  · have hi := (List.getElem?_eq_some_iff.mp a).1
    exact h.get i u s (by rw [List.getElem?_append_left hi]; exact a) (by rw [List.getElem?_append_left (by omega)]; exact b)
  · exact h.get vs.length v t (by simp) (by rw [hl]; simp)
theorem line10 {n : Nat} (h : n ≤ 10000000) : n < sizeLine := Nat.lt_of_le_of_lt h (by decide)
theorem rsize_len (rows : List (Int × Tree)) : rows.length ≤ rsize rows := by
  rw [← wsize_rows]
  have := wsize_len (rows.map (·.2))
  rwa [List.length_map] at this
end WS
set_option maxRecDepth 100000
set_option maxHeartbeats 8000000
namespace WS
open PySem L2 SetT RevS
def headOf : Tree → Str
  | .cases _ _ => "cases"
  | .so _ _ _ => "so"
  | .taken _ _ => "taken"
  | .off _ _ => "off"
  | .over _ => "over"
  | .answer => "answer"
def ownOf (z : Str) (t : Tree) : Nat := if z = ("" : Str) ∨ headOf t = z then 1 else 0
mutual
/-- how many cases of a word a table has; of the empty word: all -/
def tcount (z : Str) : Tree → Nat
  | .cases c rows => ownOf z (.cases c rows) + rcount z rows
  | .so i p t => ownOf z (.so i p t) + tcount z t
  | .taken i p => ownOf z (.taken i p)
  | .off i p => ownOf z (.off i p)
  | .over i => ownOf z (.over i)
  | .answer => ownOf z .answer
def rcount (z : Str) : List (Int × Tree) → Nat
  | [] => 0
  | (_, t) :: r => tcount z t + rcount z r
end
mutual
def tdepth : Tree → Nat
  | .cases _ rows => 1 + rdepth rows
  | .so _ _ t => 1 + tdepth t
  | .taken _ _ => 1
  | .off _ _ => 1
  | .over _ => 1
  | .answer => 1
def rdepth : List (Int × Tree) → Nat
  | [] => 0
  | (_, t) :: r => max (tdepth t) (rdepth r)
end
theorem rdepth_mem : ∀ {rows : List (Int × Tree)} {x : Int × Tree}, x ∈ rows → tdepth x.2 ≤ rdepth rows
  | (y, t) :: r, x, h => by
    have e : rdepth ((y, t) :: r) = max (tdepth t) (rdepth r) := by simp [rdepth]
    rw [e]
    rcases List.mem_cons.mp h with rfl | h
    · exact Nat.le_max_left _ _
    · exact Nat.le_trans (rdepth_mem h) (Nat.le_max_right _ _)
theorem rsize_mem : ∀ {rows : List (Int × Tree)} {x : Int × Tree}, x ∈ rows → tsize x.2 ≤ rsize rows
  | (y, t) :: r, x, h => by
    have e : rsize ((y, t) :: r) = tsize t + rsize r := by simp [rsize]
    rw [e]
    rcases List.mem_cons.mp h with rfl | h
    · exact Nat.le_add_right _ _
    · exact Nat.le_trans (rsize_mem h) (Nat.le_add_left _ _)
theorem rcount_sum (z : Str) : ∀ rows : List (Int × Tree), ((rows.map fun x => (tcount z x.2 : Int)).sum : Int) = (rcount z rows : Nat)
  | [] => by simp [rcount]
  | (y, t) :: r => by
    have e : rcount z ((y, t) :: r) = tcount z t + rcount z r := by simp [rcount]
    rw [e, List.map_cons, List.sum_cons, rcount_sum z r]
    show (tcount z t : Int) + _ = _
    omega
theorem count_all : ∀ t : Tree, tcount ("" : Str) t = tsize t := by
  have own : ∀ t, ownOf ("" : Str) t = 1 := fun t => if_pos (.inl rfl)
  intro t
  refine Tree.rec (motive_1 := fun t => tcount ("" : Str) t = tsize t) (motive_2 := fun rows => rcount ("" : Str) rows = rsize rows) (motive_3 := fun x => tcount ("" : Str) x.2 = tsize x.2) ?_ ?_ ?_ ?_ ?_ ?_ ?_ ?_ ?_ t
  · intro c rows ih
    simp [tcount, tsize, own, ih]
  · intro i p t ih
    simp [tcount, tsize, own, ih]
  · intro i p; simp [tcount, tsize, own]
  · intro i p; simp [tcount, tsize, own]
  · intro i; simp [tcount, tsize, own]
  · simp [tcount, tsize, own]
  · simp [rcount, rsize]
  · rintro ⟨v, t⟩ r h1 h2
    simp only [rcount, rsize]
    rw [h2]
    have : tcount ("" : Str) t = tsize t := h1
    rw [this]
  · intro v t h; exact h
theorem own_A {z : Str} {t : Tree} (c : decide (V.str z = V.str ("" : Str)) = true) : (if true = true then (1 : Int) else 0) = ((ownOf z t : Nat) : Int) := by
  have : z = ("" : Str) := V.str.inj (of_decide_eq_true c)
  unfold ownOf
  rw [if_pos rfl, if_pos (.inl this)] <;> rfl
theorem own_B {z : Str} {t : Tree} (c : ¬ decide (V.str z = V.str ("" : Str)) = true) : (if decide (V.str (headOf t) = V.str z) = true then (1 : Int) else 0) = ((ownOf z t : Nat) : Int) := by
  have h0 : ¬ z = ("" : Str) := fun e => c (by rw [e]; exact decide_eq_true rfl)
  unfold ownOf
  by_cases h : headOf t = z
  · have e1 : decide (V.str (headOf t) = V.str z) = true := by rw [h]; exact decide_eq_true rfl
    have e2 : z = ("" : Str) ∨ headOf t = z := .inr h
    rw [if_pos e1, if_pos e2] <;> rfl
  · have e1 : ¬ decide (V.str (headOf t) = V.str z) = true := fun h' => h (V.str.inj (of_decide_eq_true h'))
    have e2 : ¬ (z = ("" : Str) ∨ headOf t = z) := fun h' => h'.elim h0 h
    rw [if_neg e1, if_neg e2] <;> rfl
end WS
set_option maxRecDepth 100000
set_option maxHeartbeats 4000000
namespace WS
open PySem L2 SetT RevS
/-! ### sizes -/
theorem rdepth_le {n : Nat} : ∀ {rows : List (Int × Tree)}, (∀ x ∈ rows, tdepth x.2 ≤ n) → rdepth rows ≤ n
  | [], _ => Nat.zero_le _
  | (v, t) :: r, h => by
    have e : rdepth ((v, t) :: r) = max (tdepth t) (rdepth r) := by simp [rdepth]
    rw [e]
    exact Nat.max_le.mpr ⟨h _ List.mem_cons_self, rdepth_le fun x hx => h x (List.mem_cons_of_mem _ hx)⟩
theorem rsize_le {n : Nat} : ∀ {rows : List (Int × Tree)}, (∀ x ∈ rows, tsize x.2 ≤ n) → rsize rows ≤ rows.length * n
  | [], _ => Nat.zero_le _
  | (v, t) :: r, h => by
    have e : rsize ((v, t) :: r) = tsize t + rsize r := by simp [rsize]
    have h1 := h _ (List.mem_cons_self (a := (v, t)))
    have h2 := rsize_le fun x hx => h x (List.mem_cons_of_mem (v, t) hx)
    rw [e, List.length_cons, Nat.succ_mul]
    have h1 : tsize t ≤ n := h1
    omega
/-- the depth of a table is at most the number of steps -/
theorem read_depth {b : Int} {fs L : List Nat} : ∀ (ps : List Stp) (fg : Figs) (k : Int) (kn : List Nat), WfS L ps kn → tdepth (readT b fs ps fg k) ≤ ps.length
  | [], _, _, _, h => False.elim h
  | .cases c :: r, fg, k, kn, h => by
    have e : tdepth (readT b fs (.cases c :: r) fg k) = 1 + rdepth ((freeF b fs c fg).map fun v => (v, readT b fs r (fg ++ [(c, v)]) k)) := by simp [readT, tdepth]
    have := rdepth_le (n := r.length) (rows := (freeF b fs c fg).map fun v => (v, readT b fs r (fg ++ [(c, v)]) k)) fun x hx => by
      obtain ⟨v, _, rfl⟩ := List.mem_map.mp hx
      exact read_depth r _ _ _ h.2
    rw [e, List.length_cons]
    omega
  | .col false i p added en :: r, fg, k, kn, h => by
    have e1 : readT b fs (.col false i p added en :: r) fg k = if colSum fg k added % b = endFig fg en then readT b fs r fg (colSum fg k added / b) else .off i p := rfl
    rw [e1, List.length_cons]
    split
    · exact Nat.le_succ_of_le (read_depth r _ _ _ h.2.2)
    · simp [tdepth]
  | .col true i p added en :: r, fg, k, kn, h => by
    have e1 : readT b fs (.col true i p added en :: r) fg k = if colSum fg k added % b ∈ freeF b fs (en.getD 0) fg then .so i p (readT b fs r (fg ++ [(en.getD 0, colSum fg k added % b)]) (colSum fg k added / b)) else .taken i p := rfl
    rw [e1, List.length_cons]
    split
    · have := read_depth r (fg ++ [(en.getD 0, colSum fg k added % b)]) (colSum fg k added / b) _ h.2.2 (b := b) (fs := fs)
      simp only [tdepth]
      omega
    · simp [tdepth]
  | .over i :: r, fg, k, kn, h => by
    have e1 : readT b fs (.over i :: r) fg k = if k = 0 then readT b fs r fg 0 else .over i := rfl
    rw [e1, List.length_cons]
    split
    · exact Nat.le_succ_of_le (read_depth r _ _ _ (show WfS L r kn from h))
    · simp [tdepth]
  | .answer :: r, fg, k, kn, h => by
    show tdepth .answer ≤ _
    simp [tdepth]
end WS
set_option maxRecDepth 100000
set_option maxHeartbeats 4000000
namespace WS
open PySem L2 SetT RevS
def casesN : List Stp → Nat
  | [] => 0
  | .cases _ :: r => casesN r + 1
  | _ :: r => casesN r
theorem flat_le {n : Nat} {g : Int → List (List Int)} : ∀ {FF : List Int}, (∀ v ∈ FF, (g v).length ≤ n) → ((FF.map g).flatten).length ≤ FF.length * n
  | [], _ => Nat.zero_le _
  | v :: r, h => by
    have h1 := h v List.mem_cons_self
    have h2 := flat_le fun u hu => h u (List.mem_cons_of_mem v hu)
    rw [List.map_cons, List.flatten_cons, List.length_append, List.length_cons, Nat.succ_mul]
    omega
/-- reading finds few answers -/
theorem found_le {b : Int} {fs L : List Nat} (hb : 0 < b) : ∀ (ps : List Stp) (fg : Figs) (k : Int), (foundT b fs L ps fg k).length ≤ b.toNat ^ casesN ps
  | [], _, _ => Nat.zero_le _
  | .cases c :: r, fg, k => by
    have h := flat_le (g := fun v => foundT b fs L r (fg ++ [(c, v)]) k) (FF := freeF b fs c fg) fun v _ => found_le hb r (fg ++ [(c, v)]) k
    have h2 := freeF_le b fs c fg
    show ((freeF b fs c fg).map _).flatten.length ≤ b.toNat ^ (casesN r + 1)
    rw [Nat.pow_succ, Nat.mul_comm]
    exact Nat.le_trans h (Nat.mul_le_mul_right _ h2)
  | .col false i p added en :: r, fg, k => by
    have e2 : foundT b fs L (.col false i p added en :: r) fg k = if colSum fg k added % b = endFig fg en then foundT b fs L r fg (colSum fg k added / b) else [] := rfl
    rw [e2]
    split
    · exact found_le hb r _ _
    · exact Nat.zero_le _
  | .col true i p added en :: r, fg, k => by
    have e2 : foundT b fs L (.col true i p added en :: r) fg k = if colSum fg k added % b ∈ freeF b fs (en.getD 0) fg then foundT b fs L r (fg ++ [(en.getD 0, colSum fg k added % b)]) (colSum fg k added / b) else [] := rfl
    rw [e2]
    split
    · exact found_le hb r _ _
    · exact Nat.zero_le _
  | .over i :: r, fg, k => by
    have e2 : foundT b fs L (.over i :: r) fg k = if k = 0 then foundT b fs L r fg 0 else [] := rfl
    rw [e2]
    split
    · exact found_le hb r _ _
    · exact Nat.zero_le _
  | .answer :: r, fg, k => by
    show 1 ≤ _
    exact Nat.pow_pos (by omega)
/-- a table has few cases -/
theorem size_le {b : Int} {fs L : List Nat} (hb : 0 < b) : ∀ (ps : List Stp) (fg : Figs) (k : Int) (kn : List Nat), WfS L ps kn → tsize (readT b fs ps fg k) ≤ ps.length * b.toNat ^ casesN ps
  | [], _, _, _, h => False.elim h
  | .cases c :: r, fg, k, kn, h => by
    have e : tsize (readT b fs (.cases c :: r) fg k) = 1 + rsize ((freeF b fs c fg).map fun v => (v, readT b fs r (fg ++ [(c, v)]) k)) := by simp [readT, tsize]
    have h1 := rsize_le (n := r.length * b.toNat ^ casesN r) (rows := (freeF b fs c fg).map fun v => (v, readT b fs r (fg ++ [(c, v)]) k)) fun x hx => by
      obtain ⟨v, _, rfl⟩ := List.mem_map.mp hx
      exact size_le hb r _ _ _ h.2
    rw [List.length_map] at h1
    have h2 := Nat.mul_le_mul_right (r.length * b.toNat ^ casesN r) (freeF_le b fs c fg)
    have h3 : 1 ≤ b.toNat ^ (casesN r + 1) := Nat.pow_pos (by omega)
    have h4 : b.toNat * (r.length * b.toNat ^ casesN r) = r.length * b.toNat ^ (casesN r + 1) := by
      rw [Nat.pow_succ, Nat.mul_left_comm, Nat.mul_comm b.toNat]
    rw [e]
    show _ ≤ (r.length + 1) * b.toNat ^ (casesN r + 1)
    rw [Nat.succ_mul]
    omega
  | .col false i p added en :: r, fg, k, kn, h => by
    have e1 : readT b fs (.col false i p added en :: r) fg k = if colSum fg k added % b = endFig fg en then readT b fs r fg (colSum fg k added / b) else .off i p := rfl
    have h3 : 1 ≤ b.toNat ^ casesN r := Nat.pow_pos (by omega)
    rw [e1]
    show _ ≤ (r.length + 1) * b.toNat ^ casesN r
    rw [Nat.succ_mul]
    split
    · exact Nat.le_trans (size_le hb r _ _ _ h.2.2) (Nat.le_add_right _ _)
    · simp only [tsize]; omega
  | .col true i p added en :: r, fg, k, kn, h => by
    have e1 : readT b fs (.col true i p added en :: r) fg k = if colSum fg k added % b ∈ freeF b fs (en.getD 0) fg then .so i p (readT b fs r (fg ++ [(en.getD 0, colSum fg k added % b)]) (colSum fg k added / b)) else .taken i p := rfl
    have h3 : 1 ≤ b.toNat ^ casesN r := Nat.pow_pos (by omega)
    rw [e1]
    show _ ≤ (r.length + 1) * b.toNat ^ casesN r
    rw [Nat.succ_mul]
    split
    · have := size_le hb r (fg ++ [(en.getD 0, colSum fg k added % b)]) (colSum fg k added / b) _ h.2.2 (fs := fs)
      simp only [tsize]
      omega
    · simp only [tsize]; omega
  | .over i :: r, fg, k, kn, h => by
    have e1 : readT b fs (.over i :: r) fg k = if k = 0 then readT b fs r fg 0 else .over i := rfl
    have h3 : 1 ≤ b.toNat ^ casesN r := Nat.pow_pos (by omega)
    rw [e1]
    show _ ≤ (r.length + 1) * b.toNat ^ casesN r
    rw [Nat.succ_mul]
    split
    · exact Nat.le_trans (size_le hb r _ _ _ (show WfS L r kn from h)) (Nat.le_add_right _ _)
    · simp only [tsize]; omega
  | .answer :: r, fg, k, kn, h => by
    have h3 : 1 ≤ b.toNat ^ casesN r := Nat.pow_pos (by omega)
    show tsize .answer ≤ (r.length + 1) * b.toNat ^ casesN r
    rw [Nat.succ_mul]
    simp only [tsize]
    omega
end WS
set_option maxRecDepth 100000
set_option maxHeartbeats 4000000
namespace WS
open PySem L2 SetT RevS
theorem dpAll_sg (K : PySem.W.Frag) (H : Hp) : ∀ cs : List Nat, DpAll K H (cs.map sg) (cs.map fun c => PyData.str ⟨#[c]⟩)
  | [] => .nil
  | c :: r => .cons (.str _) (dpAll_sg K H r)
theorem shaped_sg {cs : List Nat} (h : ∀ c ∈ cs, c < 0x110000) : SeqAt.shaped (.list (cs.map fun c => PyData.str ⟨#[c]⟩)) = true := by
  have h1 : ∀ {cs : List Nat}, (∀ c ∈ cs, c < 0x110000) → PyData.canLayAll0 (cs.map fun c => PyData.str ⟨#[c]⟩) = true := by
    intro cs
    induction cs with
    | nil => intro _; rfl
    | cons c r ih =>
      intro h
      rw [List.map_cons]
      show (PyData.strOk _ && PyData.canLayAll0 _) = true
      rw [ih fun d hd => h d (List.mem_cons_of_mem _ hd), Bool.and_true]
      have := h c List.mem_cons_self
      unfold PyData.strOk
      simpa using this
  have h2 : ∀ cs : List Nat, PyData.depthAll (cs.map fun c => PyData.str ⟨#[c]⟩) = 0 := by
    intro cs
    induction cs with
    | nil => rfl
    | cons c r ih => rw [List.map_cons]; show max 0 _ = 0; rw [ih] <;> rfl
  unfold SeqAt.shaped
  have e1 : PyData.canLay0 (.list (cs.map fun c => PyData.str ⟨#[c]⟩)) = true := h1 h
  have e2 : PyData.depth (.list (cs.map fun c => PyData.str ⟨#[c]⟩)) = 1 := congrArg (· + 1) (h2 cs)
  rw [e1, e2] <;> rfl
theorem eqv_nil (cs : List Nat) : PyData.eqv (.list (cs.map fun c => PyData.str ⟨#[c]⟩)) (.list []) = cs.isEmpty := by
  cases cs with
  | nil => rfl
  | cons c r => rfl
theorem abc_low {c : Nat} (h : c ∈ abc.cps.toList) : c < 0x110000 := by
  have e : ∀ c ∈ abc.cps.toList, c < 0x110000 := by decide +kernel
  exact e c h
theorem kvsF_empty (fg : Figs) (z : Str) (hz : z.cps.size ≠ 1) : valV (kvsF fg) (Sum.inr z : Key) = none := by
  induction fg with
  | nil => rfl
  | cons p r ih =>
    show valV (((Sum.inr ⟨#[p.1]⟩ : Key), V.int p.2) :: kvsF r) _ = _
    rw [valV_neg (fun h => hz (by rw [← Sum.inr.inj h] <;> rfl)), ih]
end WS
set_option maxRecDepth 100000
set_option maxHeartbeats 4000000
namespace WS
open PySem L2 SetT RevS
def goodSum (b : Int) (fg : Nat → Int) (s : WSum) : Bool := noNought fg (firstsW (s.1 ++ [s.2])) && sumHolds b fg s
theorem keepsB_eq (b : Int) (ss : List WSum) (L : List Nat) (fg : Nat → Int) : keepsB b ss L fg = (!(badFigs b (L.map fg)) && ss.all (goodSum b fg)) := by
  unfold keepsB
  rw [Bool.and_assoc, keeps_sums] <;> rfl
theorem all_no {α : Type} {l : List α} {f : α → Bool} {x : α} (h : x ∈ l) (e : f x = false) : l.all f = false := by
  cases hl : l.all f with
  | false => rfl
  | true => rw [List.all_eq_true] at hl; rw [hl x h] at e; cases e
theorem figs_map : ∀ {L : List Nat} {vs : List Int}, L.Nodup → L.length = vs.length → L.map (fgOf L vs) = vs
  | [], [], _, _ => rfl
  | [], v :: vs, _, h => by simp at h
  | c :: L, [], _, h => by simp at h
  | c :: L, v :: vs, hn, h => by
    have e1 : fgOf (c :: L) (v :: vs) c = v := by
      have : valV (kvsOf (c :: L) (v :: vs)) (Sum.inr ⟨#[c]⟩ : Key) = some (.int v) := valV_pos rfl
      unfold fgOf; rw [this]
    have e2 : L.map (fgOf (c :: L) (v :: vs)) = L.map (fgOf L vs) := by
      apply List.map_congr_left
      intro d hd
      have hne : ¬ c = d := fun e => (List.nodup_cons.mp hn).1 (e ▸ hd)
      have : valV (kvsOf (c :: L) (v :: vs)) (Sum.inr ⟨#[d]⟩ : Key) = valV (kvsOf L vs) (Sum.inr ⟨#[d]⟩ : Key) := valV_neg fun e => hne (kv_inj (Sum.inr.inj e))
      unfold fgOf; rw [this]
    rw [List.map_cons, e1, e2, figs_map (List.nodup_cons.mp hn).2 (by simpa using h)]
theorem figs_has {L : List Nat} {vs : List Int} (h : L.length ≤ vs.length) : HasFigs (kvsOf L vs) (fgOf L vs) L := fun c hc => (fgOf_some hc h).1
theorem kvsOf_at {L : List Nat} {vs : List Int} {i : Nat} {k : Key} {y : V} (hl : L.length = vs.length) (h : (kvsOf L vs)[i]? = some (k, y)) : ∃ c v, L[i]? = some c ∧ vs[i]? = some v ∧ k = Sum.inr ⟨#[c]⟩ ∧ y = .int v := by
  unfold kvsOf at h
  rw [List.getElem?_map] at h
  cases e : (L.zip vs)[i]? with
  | none => rw [e] at h; cases h
  | some p =>
    rw [e] at h
    obtain ⟨h1, h2⟩ := List.getElem?_zip_eq_some.mp e
    have h3 := Option.some.inj h
    exact ⟨p.1, p.2, h1, h2, (congrArg Prod.fst h3).symm, (congrArg Prod.snd h3).symm⟩
theorem kvsOf_length {L : List Nat} {vs : List Int} (hl : L.length = vs.length) : (kvsOf L vs).length = L.length := by
  unfold kvsOf; rw [List.length_map, List.length_zip]; omega
theorem put_at : ∀ {kvs : List (Key × V)} {i : Nat} {k : Key} {y v : V}, (kvs.map (·.1)).Nodup → kvs[i]? = some (k, y) → putK kvs k v = kvs.set i (k, v) := by
  have aux : ∀ {kvs : List (Key × V)} {i : Nat} {k : Key} {y v : V}, (kvs.map (·.1)).Nodup → kvs[i]? = some (k, y) → (kvs.any fun kv => decide (kv.1 = k)) = true ∧ (kvs.map fun kv => if kv.1 = k then (kv.1, v) else kv) = kvs.set i (k, v) := by
    intro kvs
    induction kvs with
    | nil => intro i k y v _ h; simp at h
    | cons p r ih =>
      intro i k y v hn h
      rw [List.map_cons, List.nodup_cons] at hn
      rcases i with _ | i
      · have e : p = (k, y) := Option.some.inj h
        subst e
        have hr : (r.map fun kv => if kv.1 = k then (kv.1, v) else kv) = r := by
          have : ∀ kv ∈ r, (if kv.1 = k then (kv.1, v) else kv) = kv := fun kv hk => by
            rw [if_neg]
            intro e
            exact hn.1 (List.mem_map.mpr ⟨kv, hk, e⟩)
          rw [List.map_congr_left this, List.map_id']
        refine ⟨by simp, ?_⟩
        rw [List.map_cons, hr, if_pos rfl] <;> rfl
      · obtain ⟨h1, h2⟩ := ih (v := v) hn.2 h
        have hne : ¬ p.1 = k := fun e => hn.1 (List.mem_map.mpr ⟨(k, y), List.mem_of_getElem? h, e.symm⟩)
        refine ⟨by rw [List.any_cons, h1, Bool.or_true], ?_⟩
        rw [List.map_cons, h2, if_neg hne] <;> rfl
  intro kvs i k y v hn h
  obtain ⟨h1, h2⟩ := aux (v := v) hn h
  unfold putK
  rw [h1, if_pos rfl, h2]
theorem kvsOf_get {L : List Nat} {vs : List Int} {i c : Nat} {v : Int} (hc : L[i]? = some c) (hv : vs[i]? = some v) : (kvsOf L vs)[i]? = some ((Sum.inr ⟨#[c]⟩ : Key), V.int v) := by
  unfold kvsOf
  rw [List.getElem?_map, List.getElem?_zip_eq_some.mpr (show L[i]? = some (c, v).1 ∧ vs[i]? = some (c, v).2 from ⟨hc, hv⟩)] <;> rfl
theorem kvsOf_setE : ∀ {L : List Nat} {vs : List Int} {i c : Nat} {v : Int}, L[i]? = some c → (kvsOf L vs).set i ((Sum.inr ⟨#[c]⟩ : Key), V.int v) = kvsOf L (vs.set i v)
  | [], _, _, _, _, h => by simp at h
  | d :: L, [], i, c, v, h => by simp [kvsOf]
  | d :: L, y :: vs, 0, c, v, h => by
    have e : d = c := Option.some.inj h
    subst e
    rfl
  | d :: L, y :: vs, i + 1, c, v, h => by
    show ((Sum.inr ⟨#[d]⟩ : Key), V.int y) :: (kvsOf L vs).set i _ = ((Sum.inr ⟨#[d]⟩ : Key), V.int y) :: kvsOf L (vs.set i v)
    rw [kvsOf_setE (L := L) (vs := vs) (i := i) h]
theorem kvsOf_keys {L : List Nat} {vs : List Int} (hn : L.Nodup) (hl : L.length = vs.length) : ((kvsOf L vs).map (·.1)).Nodup := by
  have h1 : (L.zip vs).map Prod.fst = L := List.map_fst_zip (by omega)
  have h2 : (kvsOf L vs).map (·.1) = L.map fun c => (Sum.inr ⟨#[c]⟩ : Key) := by
    unfold kvsOf
    rw [List.map_map]
    show (L.zip vs).map ((fun c => (Sum.inr ⟨#[c]⟩ : Key)) ∘ Prod.fst) = _
    rw [← List.map_map, h1]
  rw [h2, List.Nodup, List.pairwise_map]
  exact List.Pairwise.imp (R := fun a b => a ≠ b) (fun hab e => hab (kv_inj (Sum.inr.inj e))) hn
theorem kvsOf_over {L : List Nat} {vs : List Int} {i c : Nat} {v : Int} (hn : L.Nodup) (hl : L.length = vs.length) (hc : L[i]? = some c) : putK (kvsOf L vs) (Sum.inr ⟨#[c]⟩ : Key) (.int v) = kvsOf L (vs.set i v) := by
  have hi : i < vs.length := by have := (List.getElem?_eq_some_iff.mp hc).1; omega
  rw [put_at (kvsOf_keys hn hl) (kvsOf_get hc (List.getElem?_eq_getElem hi)), kvsOf_setE hc]
theorem set_all {vs : List Int} {i : Nat} {v : Int} {p : Int → Prop} (h : ∀ x ∈ vs, p x) (hv : p v) : ∀ x ∈ vs.set i v, p x := fun x hx => by
  rcases List.mem_or_eq_of_mem_set hx with h' | h'
  · exact h x h'
  · rw [h']; exact hv
end WS
set_option maxRecDepth 100000
set_option maxHeartbeats 4000000
namespace WS
open PySem L2 SetT RevS
theorem metS_mem : ∀ (cs : List Nat) {c : Nat}, c ∈ cs → sign c ∈ metS cs := by
  have add : ∀ (xs : List Str) (x y : Str), y ∈ xs ∨ y = x → y ∈ addS xs x := fun xs x y h => by
    unfold addS
    split
    · rename_i hx
      rcases h with h | h
      · exact h
      · rw [h]; exact any_mem.mp hx
    · rcases h with h | h
      · exact List.mem_append_left _ h
      · exact List.mem_append_right _ (by simp [h])
  have : ∀ (r : List Nat) (a : List Str) (y : Str), (y ∈ a ∨ ∃ c ∈ r, y = sign c) → y ∈ r.foldl (fun a c => addS a (sign c)) a := by
    intro r
    induction r with
    | nil =>
      intro a y h
      rcases h with h | ⟨c, hc, _⟩
      · exact h
      · cases hc
    | cons c r ih =>
      intro a y h
      rw [List.foldl_cons]
      refine ih _ _ ?_
      rcases h with h | ⟨d, hd, e⟩
      · exact .inl (add _ _ _ (.inl h))
      · rcases List.mem_cons.mp hd with rfl | hd
        · exact .inl (add _ _ _ (.inr e))
        · exact .inr ⟨d, hd, e⟩
  intro cs c h
  exact this cs [] (sign c) (.inr ⟨c, h, rfl⟩)
theorem letters_sign {ss : List WSum} {c : Nat} (h : c ∈ lettersOf ss) : c ∈ signsOf (wordsOf ss) := by
  have h := dd_mem.mp h
  obtain ⟨l, hl, hc⟩ := List.mem_flatten.mp h
  obtain ⟨s, hs, rfl⟩ := List.mem_map.mp hl
  obtain ⟨l, hl, hc⟩ := List.mem_flatten.mp hc
  obtain ⟨p, _, rfl⟩ := List.mem_map.mp hl
  obtain ⟨z, hz, e⟩ := List.mem_filterMap.mp hc
  refine List.mem_flatten.mpr ⟨z.cps.toList, List.mem_map.mpr ⟨z, ?_, rfl⟩, List.mem_reverse.mp (List.mem_of_getElem? e)⟩
  exact mem_wordsOf hs ((List.mem_append.mp hz).elim .inl fun h => .inr (by simpa using h))
/-- a sheet has few letters -/
theorem lettersOf_le {b : Int} {ss : List WSum} (V : Valid b ss) : ((lettersOf ss).length : Int) ≤ b ∧ (lettersOf ss).length ≤ 8 := by
  have h := V.lets
  have hN : ((lettersOf ss).map sign).Nodup := by
    rw [List.Nodup, List.pairwise_map]
    exact List.Pairwise.imp (R := fun a b => a ≠ b) (fun {a b} hab e => hab (kv_inj e)) (dd_nodup _)
  have := nodup_le (m := metS (signsOf (wordsOf ss))) hN fun y hy => by
    obtain ⟨c, hc, rfl⟩ := List.mem_map.mp hy
    exact metS_mem _ (letters_sign hc)
  rw [List.length_map] at this
  omega
/-! ### how many cases reading parts -/
theorem casesN_append : ∀ (a b : List Stp), casesN (a ++ b) = casesN a + casesN b
  | [], b => by simp [casesN]
  | .cases c :: r, b => by
    show casesN (r ++ b) + 1 = casesN r + 1 + casesN b
    rw [casesN_append r b]; omega
  | .col _ _ _ _ _ :: r, b => casesN_append r b
  | .over _ :: r, b => casesN_append r b
  | .answer :: r, b => casesN_append r b
theorem stLetter_cases (st : St2) (c : Nat) : casesN (stLetter st c).1 + st.2.length = casesN st.1 + (stLetter st c).2.length := by
  unfold stLetter
  split
  · rfl
  · rw [casesN_append, List.length_append]
    show casesN st.1 + 1 + _ = _ + (_ + 1)
    omega
theorem stLets_cases (st : St2) (cs : List Nat) : casesN (stLets st cs).1 + st.2.length = casesN st.1 + (stLets st cs).2.length ∧ casesN (stLets st cs).1 ≤ casesN st.1 + cs.length := by
  unfold stLets
  induction cs generalizing st with
  | nil => exact ⟨rfl, Nat.le_refl _⟩
  | cons c r ih =>
    obtain ⟨h1, h2⟩ := ih (stLetter st c)
    have h3 := stLetter_cases st c
    have h4 : (stLetter st c).2.length ≤ st.2.length + 1 := by
      unfold stLetter
      split
      · exact Nat.le_succ _
      · rw [List.length_append] <;> exact Nat.le_refl _
    rw [List.foldl_cons, List.length_cons]
    omega
theorem stCol_cases (i : Nat) (s : WSum) (st : St2) (p : Nat) : casesN (stCol i s st p).1 + st.2.length ≤ casesN st.1 + (stCol i s st p).2.length ∧ casesN (stCol i s st p).1 ≤ casesN st.1 + (WS.col s.1 p).length := by
  obtain ⟨h1, h2⟩ := stLets_cases st (WS.col s.1 p)
  unfold stCol
  have e1 : casesN [Stp.col (soOf (endOf s.2 p) (stLets st (WS.col s.1 p)).2) i p (WS.col s.1 p) (endOf s.2 p)] = 0 := rfl
  have e2 : (stLets st (WS.col s.1 p)).2.length ≤ (addE (stLets st (WS.col s.1 p)).2 (endOf s.2 p)).length := by
    unfold addE addN
    split
    · exact Nat.le_refl _
    · split
      · exact Nat.le_refl _
      · rw [List.length_append]; exact Nat.le_add_right _ _
  rw [casesN_append, e1]
  dsimp only
  omega
theorem stCols_cases (i : Nat) (s : WSum) (st : St2) : ∀ j, casesN (stCols i s st j).1 + st.2.length ≤ casesN st.1 + (stCols i s st j).2.length ∧ casesN (stCols i s st j).1 ≤ casesN st.1 + ((List.range j).map fun p => (WS.col s.1 p).length).sum
  | 0 => by
    have e : stCols i s st 0 = st := rfl
    rw [e]
    exact ⟨Nat.le_refl _, Nat.le_add_right _ _⟩
  | j + 1 => by
    obtain ⟨h1, h2⟩ := stCols_cases i s st j
    obtain ⟨h3, h4⟩ := stCol_cases i s (stCols i s st j) j
    rw [stCols_succ, List.range_succ, List.map_append, List.sum_append]
    have e : ([j].map fun p => (WS.col s.1 p).length).sum = (WS.col s.1 j).length := by simp
    rw [e]
    omega
theorem stSum_cases (i : Nat) (s : WSum) (st : St2) : casesN (stSum i s st).1 + st.2.length ≤ casesN st.1 + (stSum i s st).2.length := by
  have h := (stCols_cases i s st (maxLen (s.1 ++ [s.2]))).1
  unfold stSum
  rw [casesN_append]
  show _ + 0 + _ ≤ _
  omega
theorem steps_cases {ss : List WSum} : casesN (stepsOf ss) ≤ (lettersOf ss).length := by
  have key : ∀ i, i ≤ ss.length → casesN (stepsSt (ss.take i)).1 ≤ (stepsSt (ss.take i)).2.length := by
    intro i
    induction i with
    | zero => intro _; exact Nat.le_refl _
    | succ i ih =>
      intro h
      have hs : ss[i]? = some ss[i] := List.getElem?_eq_getElem h
      rw [stepsSt_take hs]
      have h1 := ih (Nat.le_of_lt h)
      have h2 := stSum_cases i ss[i] (stepsSt (ss.take i))
      omega
  have h := key ss.length (Nat.le_refl _)
  have e := stepsSt_kn (ss := ss) ss.length (Nat.le_refl _)
  rw [List.take_length] at h e
  unfold stepsOf
  rw [casesN_append]
  rw [e] at h
  exact h
theorem sum_add {α : Type} (l : List α) (f g : α → Nat) : (l.map fun x => f x + g x).sum = (l.map f).sum + (l.map g).sum := by
  induction l with
  | nil => rfl
  | cons x r ih => simp only [List.map_cons, List.sum_cons, ih]; omega
theorem below_sum (n : Nat) : ∀ j, ((List.range j).map fun p => if p < n then 1 else 0).sum ≤ n ∧ ((List.range j).map fun p => if p < n then 1 else 0).sum ≤ j
  | 0 => ⟨Nat.zero_le _, Nat.le_refl _⟩
  | j + 1 => by
    obtain ⟨h1, h2⟩ := below_sum n j
    rw [List.range_succ, List.map_append, List.sum_append]
    have e : ([j].map fun p => if p < n then 1 else 0).sum = if j < n then 1 else 0 := by simp
    rw [e]
    split <;> omega
theorem cols_sum (ws : List Str) (j : Nat) : ((List.range j).map fun p => (WS.col ws p).length).sum ≤ (ws.map (·.length)).sum := by
  induction ws with
  | nil =>
    have e : ((List.range j).map fun p => (WS.col [] p).length) = (List.range j).map fun _ => 0 := List.map_congr_left fun p _ => rfl
    rw [e]
    have : ∀ l : List Nat, (l.map fun _ => 0).sum = 0 := fun l => by induction l with
      | nil => rfl
      | cons x r ih => rw [List.map_cons, List.sum_cons, ih]
    rw [this] <;> exact Nat.zero_le _
  | cons z r ih =>
    have ez : z.cps.toList.reverse.length = z.length := by rw [List.length_reverse] <;> exact Array.length_toList
    have e : ((List.range j).map fun p => (WS.col (z :: r) p).length) = (List.range j).map fun p => (if p < z.length then 1 else 0) + (WS.col r p).length := List.map_congr_left fun p _ => by
      unfold WS.col
      rw [List.filterMap_cons]
      by_cases hp : p < z.length
      · rw [if_pos hp]
        have : z.cps.toList.reverse[p]? = some z.cps.toList.reverse[p] := List.getElem?_eq_getElem (by omega)
        rw [this, List.length_cons]; omega
      · rw [if_neg hp]
        have : z.cps.toList.reverse[p]? = none := List.getElem?_eq_none (by omega)
        rw [this]; exact (Nat.zero_add _).symm
    rw [e, sum_add, List.map_cons, List.sum_cons]
    have := (below_sum z.length j).1
    omega
/-- one sum: at most as many cases as its addends have letters -/
theorem one_cases (s : WSum) : casesN (stepsOf [s]) ≤ (s.1.map (·.length)).sum := by
  have h := (stCols_cases 0 s ([], []) (maxLen (s.1 ++ [s.2]))).2
  have h2 := cols_sum s.1 (maxLen (s.1 ++ [s.2]))
  have e : stepsOf [s] = (stCols 0 s ([], []) (maxLen (s.1 ++ [s.2]))).1 ++ [.over 0] ++ [.answer] := rfl
  rw [e, casesN_append, casesN_append]
  have e0 : casesN (([], []) : St2).1 = 0 := rfl
  have e1 : casesN [Stp.over 0] = 0 := rfl
  have e2 : casesN [Stp.answer] = 0 := rfl
  omega
theorem stepsOf_31 {b : Int} {ss : List WSum} (V' : Valid b ss) : (stepsOf ss).length ≤ 31 * ss.length + 1 := by
  have h4 : ∀ s ∈ ss, s.1.length ≤ 4 ∧ maxLen (s.1 ++ [s.2]) ≤ 6 := fun s hs => ⟨(V'.many s hs).2, maxLen_bound fun z hz => (isWord_iff.mp (words_of V' hs z hz)).1.2⟩
  have g := (Good.all h4 ss.length (Nat.le_refl _)).len
  rw [List.take_length] at g
  unfold stepsOf
  rw [List.length_append]
  show _ + 1 ≤ _
  omega
/-- a drawn sheet, wide or not -/
structure WideOk (b : Int) (ss : List WSum) : Prop where
  valid : Valid b ss
  few : b.toNat ^ casesN (stepsOf ss) ≤ 262144
  small : (stepsOf ss).length * b.toNat ^ casesN (stepsOf ss) ≤ 10000000
  six : b ≤ 6 → SheetOk b ss
theorem SheetOk.wide {b : Int} {ss : List WSum} (S : SheetOk b ss) : WideOk b ss := by
  have V := S.valid
  obtain ⟨l1, l2⟩ := lettersOf_le V
  have hc := steps_cases (ss := ss)
  have h31 := stepsOf_31 V
  have hf := V.few
  by_cases h6 : b ≤ 6
  · have h1 : b.toNat ^ casesN (stepsOf ss) ≤ 6 ^ 6 := Nat.le_trans (Nat.pow_le_pow_left (by omega) _) (Nat.pow_le_pow_right (by decide) (by omega))
    have h2 : (stepsOf ss).length * b.toNat ^ casesN (stepsOf ss) ≤ 94 * 6 ^ 6 := Nat.mul_le_mul (by omega) h1
    exact ⟨V, Nat.le_trans h1 (by decide), Nat.le_trans h2 (by decide), fun _ => S⟩
  · have h1 := S.big (by omega)
    obtain ⟨s, rfl⟩ : ∃ s, ss = [s] := by
      rcases ss with _ | ⟨s, _ | ⟨t, r⟩⟩
      · simp at h1
      · exact ⟨s, rfl⟩
      · simp at h1
    obtain ⟨cs, N, ok⟩ := S.cs
    obtain ⟨g1, g2, g3⟩ := (ok s List.mem_cons_self).big (by omega)
    have h4 := one_cases s
    have h5 : (s.1.map (·.length)).sum ≤ 1 * s.1.length := sum_lens fun z hz => (g2 z hz).length.2
    have hb := V.b12
    have h1 : b.toNat ^ casesN (stepsOf [s]) ≤ 12 ^ 2 := Nat.le_trans (Nat.pow_le_pow_left (by omega) _) (Nat.pow_le_pow_right (by decide) (by omega))
    have h2 : (stepsOf [s]).length * b.toNat ^ casesN (stepsOf [s]) ≤ 94 * 12 ^ 2 := Nat.mul_le_mul (by omega) h1
    exact ⟨V, Nat.le_trans h1 (by decide), Nat.le_trans h2 (by decide), fun h => absurd h h6⟩
/-- one sum of two or three words of two signs -/
theorem wide_of {b : Int} {cs : List Nat} {ws : List Str} {tot : Str} (b8 : 8 ≤ b) (b12 : b ≤ 12) (N : NamesOk cs b) (h2 : 2 ≤ ws.length) (h3 : ws.length ≤ if b < 9 then 3 else 2) (hw : ∀ z ∈ ws, WordOk cs 2 z) (ht : WordOk cs 3 tot) (h8 : (metS (signsOf (ws ++ [tot]))).length ≤ 8) : WideOk b [(ws, tot)] := by
  have h3' : ws.length ≤ 3 := by split at h3 <;> omega
  have ew : wordsOf [(ws, tot)] = ws ++ [tot] := by unfold wordsOf; simp
  have V : Valid b [(ws, tot)] := by
    refine ⟨by omega, b12, ⟨Nat.le_refl _, by show 1 ≤ 3; decide⟩, fun s hs => ?_, fun z hz => ?_, ?_⟩
    · have : s = (ws, tot) := by simpa using hs
      rw [this]; show 1 ≤ ws.length ∧ ws.length ≤ 4; omega
    · rw [ew] at hz
      rcases List.mem_append.mp hz with hz | hz
      · exact isWord_ok N ((hw z hz).mono (by decide))
      · have : z = tot := by simpa using hz
        rw [this]; exact isWord_ok N (ht.mono (by decide))
    · rw [ew]
      have hcs : (metS (signsOf (ws ++ [tot]))).length ≤ cs.length := metS_few fun c hc => by
        obtain ⟨l, hl, hc⟩ := List.mem_flatten.mp hc
        obtain ⟨z, hz, rfl⟩ := List.mem_map.mp hl
        rcases List.mem_append.mp hz with hz | hz
        · exact (hw z hz).mem c hc
        · have : z = tot := by simpa using hz
          exact ht.mem c (this ▸ hc)
      have := N.len
      omega
  have h4 := one_cases (ws, tot)
  have h5 : (ws.map (·.length)).sum ≤ 2 * ws.length := sum_lens fun z hz => (hw z hz).length.2
  have h4 : casesN (stepsOf [(ws, tot)]) ≤ (ws.map (·.length)).sum := h4
  have h31 := stepsOf_31 V
  have h31' : (stepsOf [(ws, tot)]).length ≤ 32 := h31
  have key : b.toNat ^ casesN (stepsOf [(ws, tot)]) ≤ 262144 := by
    by_cases h9 : b < 9
    · rw [if_pos h9] at h3
      have e : b.toNat = 8 := by omega
      rw [e]
      exact Nat.le_trans (Nat.pow_le_pow_right (by decide) (show _ ≤ 6 by omega)) (by decide)
    · rw [if_neg h9] at h3
      exact Nat.le_trans (Nat.le_trans (Nat.pow_le_pow_left (show b.toNat ≤ 12 by omega) _) (Nat.pow_le_pow_right (by decide) (show _ ≤ 4 by omega))) (by decide)
  exact ⟨V, key, Nat.le_trans (Nat.mul_le_mul h31' key) (by decide), fun h => by omega⟩
end WS
set_option maxRecDepth 100000
set_option maxHeartbeats 4000000
namespace WS
open PySem L2 SetT RevS
/-- how many steps make a letter known -/
def knowN : List Stp → Nat
  | [] => 0
  | .cases _ :: r => knowN r + 1
  | .col true _ _ _ _ :: r => knowN r + 1
  | _ :: r => knowN r
theorem knowN_append : ∀ (a b : List Stp), knowN (a ++ b) = knowN a + knowN b
  | [], b => by simp [knowN]
  | .cases c :: r, b => by
    show knowN (r ++ b) + 1 = knowN r + 1 + knowN b
    rw [knowN_append r b]; omega
  | .col true _ _ _ _ :: r, b => by
    show knowN (r ++ b) + 1 = knowN r + 1 + knowN b
    rw [knowN_append r b]; omega
  | .col false _ _ _ _ :: r, b => knowN_append r b
  | .over _ :: r, b => knowN_append r b
  | .answer :: r, b => knowN_append r b
theorem stLetter_know {st : St2} (h : knowN st.1 = st.2.length) (c : Nat) : knowN (stLetter st c).1 = (stLetter st c).2.length := by
  unfold stLetter
  split
  · exact h
  · rw [knowN_append, List.length_append, h] <;> rfl
theorem stLets_know {st : St2} (h : knowN st.1 = st.2.length) (cs : List Nat) : knowN (stLets st cs).1 = (stLets st cs).2.length := by
  unfold stLets
  induction cs generalizing st with
  | nil => exact h
  | cons c r ih => rw [List.foldl_cons]; exact ih (stLetter_know h c)
theorem stCol_know {st : St2} (h : knowN st.1 = st.2.length) (i : Nat) (s : WSum) (p : Nat) : knowN (stCol i s st p).1 = (stCol i s st p).2.length := by
  have h1 := stLets_know h (WS.col s.1 p)
  unfold stCol
  rw [knowN_append, h1]
  dsimp only
  generalize stLets st (WS.col s.1 p) = st1
  cases e : endOf s.2 p with
  | none => rfl
  | some c =>
    by_cases hc : c ∈ st1.2
    · have e1 : soOf (some c) st1.2 = false := by unfold soOf; simp [hc]
      have e2 : addE st1.2 (some c) = st1.2 := by unfold addE addN; simp [hc]
      rw [e1, e2] <;> rfl
    · have e1 : soOf (some c) st1.2 = true := by unfold soOf; simp [hc]
      have e2 : addE st1.2 (some c) = st1.2 ++ [c] := by unfold addE addN; simp [hc]
      rw [e1, e2, List.length_append] <;> rfl
theorem stCols_know {st : St2} (h : knowN st.1 = st.2.length) (i : Nat) (s : WSum) : ∀ j, knowN (stCols i s st j).1 = (stCols i s st j).2.length
  | 0 => h
  | j + 1 => by rw [stCols_succ]; exact stCol_know (stCols_know h i s j) i s j
theorem stSum_know {st : St2} (h : knowN st.1 = st.2.length) (i : Nat) (s : WSum) : knowN (stSum i s st).1 = (stSum i s st).2.length := by
  have h := stCols_know h i s (maxLen (s.1 ++ [s.2]))
  unfold stSum
  rw [knowN_append, h] <;> rfl
/-- as many letters become known as there are -/
theorem steps_know {ss : List WSum} : knowN (stepsOf ss) = (lettersOf ss).length := by
  have key : ∀ i, i ≤ ss.length → knowN (stepsSt (ss.take i)).1 = (stepsSt (ss.take i)).2.length := by
    intro i
    induction i with
    | zero => intro _; rfl
    | succ i ih =>
      intro h
      have hs : ss[i]? = some ss[i] := List.getElem?_eq_getElem h
      rw [stepsSt_take hs]
      exact stSum_know (ih (Nat.le_of_lt h)) i ss[i]
  have h := key ss.length (Nat.le_refl _)
  have e := stepsSt_kn (ss := ss) ss.length (Nat.le_refl _)
  rw [List.take_length] at h e
  unfold stepsOf
  rw [knowN_append, h, e] <;> rfl
theorem read_know {b : Int} {fs L : List Nat} : ∀ (ps : List Stp) (fg : Figs) (k : Int), tdepth (readT b fs ps fg k) ≤ knowN ps + 1
  | [], _, _ => by simp [readT, tdepth]
  | .cases c :: r, fg, k => by
    have e : tdepth (readT b fs (.cases c :: r) fg k) = 1 + rdepth ((freeF b fs c fg).map fun v => (v, readT b fs r (fg ++ [(c, v)]) k)) := by simp [readT, tdepth]
    have := rdepth_le (n := knowN r + 1) (rows := (freeF b fs c fg).map fun v => (v, readT b fs r (fg ++ [(c, v)]) k)) fun x hx => by
      obtain ⟨v, _, rfl⟩ := List.mem_map.mp hx
      exact read_know (L := L) r _ _
    rw [e]
    show _ ≤ knowN r + 1 + 1
    omega
  | .col false i p added en :: r, fg, k => by
    have e1 : readT b fs (.col false i p added en :: r) fg k = if colSum fg k added % b = endFig fg en then readT b fs r fg (colSum fg k added / b) else .off i p := rfl
    rw [e1]
    show _ ≤ knowN r + 1
    split
    · exact read_know (L := L) r _ _
    · simp [tdepth]
  | .col true i p added en :: r, fg, k => by
    have e1 : readT b fs (.col true i p added en :: r) fg k = if colSum fg k added % b ∈ freeF b fs (en.getD 0) fg then .so i p (readT b fs r (fg ++ [(en.getD 0, colSum fg k added % b)]) (colSum fg k added / b)) else .taken i p := rfl
    rw [e1]
    show _ ≤ knowN r + 1 + 1
    split
    · have := read_know (L := L) r (fg ++ [(en.getD 0, colSum fg k added % b)]) (colSum fg k added / b) (b := b) (fs := fs)
      simp only [tdepth]
      omega
    · simp [tdepth]
  | .over i :: r, fg, k => by
    have e1 : readT b fs (.over i :: r) fg k = if k = 0 then readT b fs r fg 0 else .over i := rfl
    rw [e1]
    show _ ≤ knowN r + 1
    split
    · exact read_know (L := L) r _ _
    · simp [tdepth]
  | .answer :: r, fg, k => by
    show tdepth .answer ≤ _
    simp [tdepth]
/-- a table is at most nine deep -/
theorem table_depth {b : Int} {ss : List WSum} (V : Valid b ss) : tdepth (readT b (firstsOf ss) (stepsOf ss) [] 0) ≤ 9 := by
  have h := read_know (L := lettersOf ss) (b := b) (fs := firstsOf ss) (stepsOf ss) [] 0
  rw [steps_know] at h
  have := (lettersOf_le V).2
  omega
end WS
set_option maxRecDepth 100000
set_option maxHeartbeats 4000000
namespace WS
open PySem L2 SetT RevS
/-! ### reading finds just the answers, ascending -/
/-- whether the steps go through under figures, from a carry on -/
def runOk (b : Int) (f : Nat → Int) : List Stp → Int → Bool
  | [], _ => false
  | .cases _ :: r, k => runOk b f r k
  | .col _ _ _ added e :: r, k => decide ((k + (added.map f).sum) % b = (e.map f).getD 0) && runOk b f r ((k + (added.map f).sum) / b)
  | .over _ :: r, k => decide (k = 0) && runOk b f r 0
  | .answer :: _, _ => true
/-- the letters that steps make known -/
def metL : List Stp → List Nat
  | [] => []
  | .cases c :: r => c :: metL r
  | .col true _ _ _ e :: r => e.getD 0 :: metL r
  | .col false _ _ _ _ :: r => metL r
  | .over _ :: r => metL r
  | .answer :: _ => []
/-- the figures that are free for a letter behind others -/
def freeV (b : Int) (fs : List Nat) (c : Nat) (tk : List Int) : List Int := (upFrom (if c ∈ fs then 1 else 0) (b - (if c ∈ fs then 1 else 0)).toNat).filter fun v => !decide (v ∈ tk)
def fills (b : Int) (fs : List Nat) : List Nat → List Int → List (List Int)
  | [], _ => [[]]
  | c :: cs, tk => ((freeV b fs c tk).map fun v => (fills b fs cs (tk ++ [v])).map (v :: ·)).flatten
theorem upFrom_nodup (lo : Int) (n : Nat) : (upFrom lo n).Nodup := by
  unfold upFrom
  rw [List.Nodup, List.pairwise_map]
  have inj : ∀ a b : Nat, a ≠ b → lo + (a : Int) ≠ lo + (b : Int) := fun a b h e => h (by omega)
  exact List.Pairwise.imp (R := fun a b => a ≠ b) (fun {a b} h => inj a b h) (show (List.range n).Nodup from List.nodup_range)
theorem freeV_nodup (b : Int) (fs : List Nat) (c : Nat) (tk : List Int) : (freeV b fs c tk).Nodup := (upFrom_nodup _ _).sublist List.filter_sublist
theorem mem_upFrom {lo v : Int} {n : Nat} : v ∈ upFrom lo n ↔ lo ≤ v ∧ v < lo + n := by
  unfold upFrom
  rw [List.mem_map]
  constructor
  · rintro ⟨i, hi, rfl⟩
    have := List.mem_range.mp hi
    omega
  · rintro ⟨h1, h2⟩
    exact ⟨(v - lo).toNat, List.mem_range.mpr (by omega), by omega⟩
theorem mem_freeV {b : Int} (hb : 0 < b) {fs : List Nat} {c : Nat} {tk : List Int} {v : Int} : v ∈ freeV b fs c tk ↔ (0 ≤ v ∧ v < b ∧ (c ∈ fs → v ≠ 0)) ∧ v ∉ tk := by
  unfold freeV
  rw [List.mem_filter, mem_upFrom]
  simp only [Bool.not_eq_true', decide_eq_false_iff_not]
  by_cases hc : c ∈ fs
  · simp only [if_pos hc]
    constructor
    · rintro ⟨⟨h1, h2⟩, h3⟩
      exact ⟨⟨by omega, by omega, fun _ => by omega⟩, h3⟩
    · rintro ⟨⟨h1, h2, h3⟩, h4⟩
      have := h3 hc
      exact ⟨⟨by omega, by omega⟩, h4⟩
  · simp only [if_neg hc]
    constructor
    · rintro ⟨⟨h1, h2⟩, h3⟩
      exact ⟨⟨by omega, by omega, fun h => absurd h hc⟩, h3⟩
    · rintro ⟨⟨h1, h2, h3⟩, h4⟩
      exact ⟨⟨by omega, by omega⟩, h4⟩
theorem figAt_append {fg fg' : Figs} {c : Nat} (h : c ∈ keysF fg) : figAt (fg ++ fg') c = figAt fg c := by
  unfold figAt
  rw [List.find?_append]
  obtain ⟨p, hp, e⟩ := List.mem_map.mp h
  cases e2 : fg.find? fun p => decide (p.1 = c) with
  | none =>
    have := List.find?_eq_none.mp e2 p hp
    simp [e] at this
  | some q => rfl
theorem figAt_new {fg fg' : Figs} {c : Nat} {v : Int} (h : c ∉ keysF fg) : figAt (fg ++ (c, v) :: fg') c = v := by
  unfold figAt
  rw [List.find?_append]
  have : fg.find? (fun p => decide (p.1 = c)) = none := List.find?_eq_none.mpr fun q hq e => h (List.mem_map.mpr ⟨q, hq, of_decide_eq_true e⟩)
  rw [this, List.find?_cons, decide_eq_true rfl] <;> rfl
theorem figAt_vals : ∀ {fg : Figs}, (keysF fg).Nodup → (keysF fg).map (figAt fg) = valsF fg
  | [], _ => rfl
  | (c, v) :: r, h => by
    have hn : c ∉ keysF r ∧ (keysF r).Nodup := List.nodup_cons.mp h
    have e1 : figAt ((c, v) :: r) c = v := by unfold figAt; rw [List.find?_cons, decide_eq_true rfl] <;> rfl
    have e2 : (keysF r).map (figAt ((c, v) :: r)) = (keysF r).map (figAt r) := List.map_congr_left fun d hd => by
      unfold figAt
      rw [List.find?_cons, decide_eq_false (fun e => hn.1 (by have e' : c = d := e; rw [e']; exact hd))]
    show figAt ((c, v) :: r) c :: (keysF r).map (figAt ((c, v) :: r)) = v :: valsF r
    rw [e1, e2, figAt_vals hn.2]
theorem flatten_none {α β : Type} : ∀ {l : List α} {g : α → List β}, (∀ x ∈ l, g x = []) → (l.map g).flatten = []
  | [], _, _ => rfl
  | x :: r, g, h => by rw [List.map_cons, List.flatten_cons, h x List.mem_cons_self, flatten_none fun y hy => h y (List.mem_cons_of_mem _ hy)] <;> rfl
theorem flatten_single {β : Type} {v0 : Int} {g : Int → List β} : ∀ {l : List Int}, l.Nodup → (∀ v ∈ l, v ≠ v0 → g v = []) → (l.map g).flatten = if v0 ∈ l then g v0 else []
  | [], _, _ => by simp
  | x :: r, hn, h => by
    obtain ⟨h1, h2⟩ := List.nodup_cons.mp hn
    have ih := flatten_single (g := g) h2 fun v hv => h v (List.mem_cons_of_mem _ hv)
    rw [List.map_cons, List.flatten_cons]
    by_cases e : x = v0
    · subst e
      rw [if_pos List.mem_cons_self, ih, if_neg h1, List.append_nil]
    · rw [h x List.mem_cons_self e, List.nil_append, ih]
      have : (v0 ∈ x :: r) ↔ v0 ∈ r := by
        rw [List.mem_cons]
        exact ⟨fun h => h.elim (fun h => absurd h.symm e) id, .inr⟩
      by_cases hv : v0 ∈ r
      · rw [if_pos hv, if_pos (this.mpr hv)]
      · rw [if_neg hv, if_neg (fun h => hv (this.mp h))]
theorem filter_flatten {α : Type} (q : α → Bool) (ls : List (List α)) : ls.flatten.filter q = (ls.map (·.filter q)).flatten := by
  induction ls with
  | nil => rfl
  | cons l r ih => rw [List.flatten_cons, List.filter_append, ih, List.map_cons, List.flatten_cons]
theorem map_flatten' {α β : Type} (g : α → β) (ls : List (List α)) : ls.flatten.map g = (ls.map (·.map g)).flatten := by
  induction ls with
  | nil => rfl
  | cons l r ih => rw [List.flatten_cons, List.map_append, ih, List.map_cons, List.flatten_cons]
/-- reading finds, in their order, the ways to fill the letters by which its steps go through -/
theorem found_fills {b : Int} {fs L : List Nat} : ∀ (ps : List Stp) (fg : Figs) (k : Int), WfS L ps (keysF fg) → (keysF fg).Nodup → L = keysF fg ++ metL ps →
    foundT b fs L ps fg k = ((fills b fs (metL ps) (valsF fg)).filter fun vs => runOk b (figAt (fg ++ (metL ps).zip vs)) ps k).map (valsF fg ++ ·)
  | [], fg, k, h, _, _ => False.elim h
  | .answer :: r, fg, k, h, hn, hL => by
    have e1 : metL (.answer :: r) = [] := rfl
    rw [e1, List.append_nil] at hL
    show [L.map (figAt fg)] = _
    rw [e1, hL, figAt_vals hn]
    show [valsF fg] = ([[]].filter _).map _
    rw [List.filter_cons]
    show [valsF fg] = [valsF fg ++ []]
    rw [List.append_nil]
  | .over i :: r, fg, k, h, hn, hL => by
    have e1 : foundT b fs L (.over i :: r) fg k = if k = 0 then foundT b fs L r fg 0 else [] := rfl
    have e2 : metL (.over i :: r) = metL r := rfl
    rw [e1, e2]
    by_cases hk : k = 0
    · rw [if_pos hk, found_fills r fg 0 h hn hL]
      congr 1
      refine List.filter_congr fun vs _ => ?_
      show _ = (decide (k = 0) && _)
      rw [decide_eq_true hk, Bool.true_and]
    · rw [if_neg hk]
      have : (fills b fs (metL r) (valsF fg)).filter (fun vs => runOk b (figAt (fg ++ (metL r).zip vs)) (.over i :: r) k) = [] := by
        rw [List.filter_eq_nil_iff]
        intro vs _ h
        have h : (decide (k = 0) && _) = true := h
        rw [decide_eq_false hk, Bool.false_and] at h
        cases h
      rw [this] <;> rfl
  | .cases c :: r, fg, k, h, hn, hL => by
    obtain ⟨hc, hw⟩ := h
    have hn' : (keysF fg ++ [c]).Nodup := by
      rw [List.nodup_append]
      exact ⟨hn, by simp, fun x hx y hy e => hc (by rw [List.mem_singleton] at hy; rw [← hy, ← e]; exact hx)⟩
    have e1 : foundT b fs L (.cases c :: r) fg k = ((freeF b fs c fg).map fun v => foundT b fs L r (fg ++ [(c, v)]) k).flatten := rfl
    have e2 : fills b fs (metL (.cases c :: r)) (valsF fg) = ((freeV b fs c (valsF fg)).map fun v => (fills b fs (metL r) (valsF fg ++ [v])).map (v :: ·)).flatten := rfl
    have e3 : freeF b fs c fg = freeV b fs c (valsF fg) := rfl
    rw [e1, e2, e3, filter_flatten, map_flatten', List.map_map, List.map_map]
    congr 1
    refine List.map_congr_left fun v _ => ?_
    have ek : keysF (fg ++ [(c, v)]) = keysF fg ++ [c] := keysF_snoc fg c v
    have ev : valsF (fg ++ [(c, v)]) = valsF fg ++ [v] := by unfold valsF; rw [List.map_append] <;> rfl
    have ih := found_fills (b := b) (fs := fs) (L := L) r (fg ++ [(c, v)]) k (by rw [ek]; exact hw) (by rw [ek]; exact hn') (by rw [ek, hL, List.append_assoc] <;> rfl)
    rw [ih, ev]
    show _ = (((fills b fs (metL r) (valsF fg ++ [v])).map (v :: ·)).filter _).map _
    rw [List.filter_map, List.map_map]
    have ef : (fills b fs (metL r) (valsF fg ++ [v])).filter (fun vs => runOk b (figAt (fg ++ [(c, v)] ++ (metL r).zip vs)) r k) = (fills b fs (metL r) (valsF fg ++ [v])).filter ((fun vs => runOk b (figAt (fg ++ (metL (.cases c :: r)).zip vs)) (.cases c :: r) k) ∘ (v :: ·)) := by
      refine List.filter_congr fun vs _ => ?_
      show runOk b (figAt (fg ++ [(c, v)] ++ (metL r).zip vs)) r k = runOk b (figAt (fg ++ (c, v) :: (metL r).zip vs)) r k
      rw [List.append_assoc] <;> rfl
    rw [ef]
    refine List.map_congr_left fun vs _ => ?_
    show valsF fg ++ [v] ++ vs = valsF fg ++ v :: vs
    rw [List.append_assoc] <;> rfl
  | .col false i p added en :: r, fg, k, h, hn, hL => by
    obtain ⟨h1, h2, hw⟩ := h
    have e1 : foundT b fs L (.col false i p added en :: r) fg k = if colSum fg k added % b = endFig fg en then foundT b fs L r fg (colSum fg k added / b) else [] := rfl
    have e2 : metL (.col false i p added en :: r) = metL r := rfl
    have es : ∀ vs : List Int, k + (added.map (figAt (fg ++ (metL r).zip vs))).sum = colSum fg k added := fun vs => by
      unfold colSum
      congr 2
      exact List.map_congr_left fun c hc => figAt_append (h1 c hc)
    have ee : ∀ vs : List Int, (en.map (figAt (fg ++ (metL r).zip vs))).getD 0 = endFig fg en := fun vs => by
      cases en with
      | none => rfl
      | some c => exact figAt_append (h2 c rfl)
    have er : ∀ vs : List Int, runOk b (figAt (fg ++ (metL r).zip vs)) (.col false i p added en :: r) k = (decide (colSum fg k added % b = endFig fg en) && runOk b (figAt (fg ++ (metL r).zip vs)) r (colSum fg k added / b)) := fun vs => by
      show (decide _ && runOk b _ r _) = _
      rw [es, ee]
    rw [e1, e2]
    by_cases hc : colSum fg k added % b = endFig fg en
    · rw [if_pos hc, found_fills r fg _ hw hn hL]
      congr 1
      refine List.filter_congr fun vs _ => ?_
      rw [er, decide_eq_true hc, Bool.true_and]
    · rw [if_neg hc]
      have : (fills b fs (metL r) (valsF fg)).filter (fun vs => runOk b (figAt (fg ++ (metL r).zip vs)) (.col false i p added en :: r) k) = [] := by
        rw [List.filter_eq_nil_iff]
        intro vs _ h
        rw [er, decide_eq_false hc, Bool.false_and] at h
        cases h
      rw [this] <;> rfl
  | .col true i p added en :: r, fg, k, h, hn, hL => by
    obtain ⟨h1, ⟨c, rfl, hc⟩, hw⟩ := h
    have hn' : (keysF fg ++ [c]).Nodup := by
      rw [List.nodup_append]
      exact ⟨hn, by simp, fun x hx y hy e => hc (by rw [List.mem_singleton] at hy; rw [← hy, ← e]; exact hx)⟩
    have e1 : foundT b fs L (.col true i p added (some c) :: r) fg k = if colSum fg k added % b ∈ freeF b fs c fg then foundT b fs L r (fg ++ [(c, colSum fg k added % b)]) (colSum fg k added / b) else [] := rfl
    have e2 : fills b fs (metL (.col true i p added (some c) :: r)) (valsF fg) = ((freeV b fs c (valsF fg)).map fun v => (fills b fs (metL r) (valsF fg ++ [v])).map (v :: ·)).flatten := rfl
    have e3 : freeF b fs c fg = freeV b fs c (valsF fg) := rfl
    have er : ∀ (v : Int) (vs : List Int), runOk b (figAt (fg ++ (c, v) :: (metL r).zip vs)) (.col true i p added (some c) :: r) k = (decide (colSum fg k added % b = v) && runOk b (figAt (fg ++ [(c, v)] ++ (metL r).zip vs)) r (colSum fg k added / b)) := fun v vs => by
      have es : k + (added.map (figAt (fg ++ (c, v) :: (metL r).zip vs))).sum = colSum fg k added := by
        unfold colSum
        congr 2
        exact List.map_congr_left fun c hc => figAt_append (h1 c hc)
      have ee : ((some c).map (figAt (fg ++ (c, v) :: (metL r).zip vs))).getD 0 = v := figAt_new hc
      show (decide _ && runOk b _ r _) = _
      rw [es, ee, List.append_assoc] <;> rfl
    rw [e1, e2, e3, filter_flatten, map_flatten', List.map_map, List.map_map]
    have key : ∀ v : Int, (((fills b fs (metL r) (valsF fg ++ [v])).map (v :: ·)).filter fun vs => runOk b (figAt (fg ++ (metL (.col true i p added (some c) :: r)).zip vs)) (.col true i p added (some c) :: r) k).map (valsF fg ++ ·) =
        if colSum fg k added % b = v then foundT b fs L r (fg ++ [(c, v)]) (colSum fg k added / b) else [] := fun v => by
      rw [List.filter_map, List.map_map]
      have ef : (fills b fs (metL r) (valsF fg ++ [v])).filter ((fun vs => runOk b (figAt (fg ++ (metL (.col true i p added (some c) :: r)).zip vs)) (.col true i p added (some c) :: r) k) ∘ (v :: ·)) = (fills b fs (metL r) (valsF fg ++ [v])).filter fun vs => (decide (colSum fg k added % b = v) && runOk b (figAt (fg ++ [(c, v)] ++ (metL r).zip vs)) r (colSum fg k added / b)) :=
        List.filter_congr fun vs _ => er v vs
      rw [ef]
      by_cases hv : colSum fg k added % b = v
      · have ek : keysF (fg ++ [(c, v)]) = keysF fg ++ [c] := keysF_snoc fg c v
        have ev : valsF (fg ++ [(c, v)]) = valsF fg ++ [v] := by unfold valsF; rw [List.map_append] <;> rfl
        have ih := found_fills (b := b) (fs := fs) (L := L) r (fg ++ [(c, v)]) (colSum fg k added / b) (by rw [ek]; exact hw) (by rw [ek]; exact hn') (by rw [ek, hL, List.append_assoc] <;> rfl)
        rw [if_pos hv, ih, ev]
        have e5 : (fills b fs (metL r) (valsF fg ++ [v])).filter (fun vs => (decide (colSum fg k added % b = v) && runOk b (figAt (fg ++ [(c, v)] ++ (metL r).zip vs)) r (colSum fg k added / b))) = (fills b fs (metL r) (valsF fg ++ [v])).filter fun vs => runOk b (figAt (fg ++ [(c, v)] ++ (metL r).zip vs)) r (colSum fg k added / b) :=
          List.filter_congr fun vs _ => by rw [decide_eq_true hv, Bool.true_and]
        rw [e5]
        refine List.map_congr_left fun vs _ => ?_
        show valsF fg ++ v :: vs = valsF fg ++ [v] ++ vs
        rw [List.append_assoc] <;> rfl
      · rw [if_neg hv]
        have : (fills b fs (metL r) (valsF fg ++ [v])).filter (fun vs => (decide (colSum fg k added % b = v) && runOk b (figAt (fg ++ [(c, v)] ++ (metL r).zip vs)) r (colSum fg k added / b))) = [] := by
          rw [List.filter_eq_nil_iff]
          intro vs _ h
          rw [decide_eq_false hv, Bool.false_and] at h
          cases h
        rw [this] <;> rfl
    have e6 : (freeV b fs c (valsF fg)).map (((fun l : List (List Int) => l.map (valsF fg ++ ·)) ∘ fun l : List (List Int) => l.filter fun vs => runOk b (figAt (fg ++ (metL (.col true i p added (some c) :: r)).zip vs)) (.col true i p added (some c) :: r) k) ∘ fun v => (fills b fs (metL r) (valsF fg ++ [v])).map (v :: ·)) =
        (freeV b fs c (valsF fg)).map fun v => if colSum fg k added % b = v then foundT b fs L r (fg ++ [(c, v)]) (colSum fg k added / b) else [] := List.map_congr_left fun v _ => key v
    rw [e6, flatten_single (v0 := colSum fg k added % b) (freeV_nodup _ _ _ _) fun v _ hv => if_neg fun e => hv e.symm, if_pos rfl]
/-! ### the steps go through just where all sums hold -/
def dropS (b : Int) (f : Nat → Int) (ws : List Str) (p : Nat) : Int := (ws.map fun z => backOf b f (z.cps.toList.reverse.drop p)).sum
theorem back_drop (b : Int) (f : Nat → Int) (l : List Nat) (p : Nat) : backOf b f (l.drop p) = (l[p]?.map f).getD 0 + b * backOf b f (l.drop (p + 1)) := by
  rcases h : l[p]? with _ | c
  · have hl : l.length ≤ p := List.getElem?_eq_none_iff.mp h
    rw [List.drop_eq_nil_iff.mpr hl, List.drop_eq_nil_iff.mpr (by omega)]
    show (0 : Int) = 0 + b * 0
    simp
  · have hp : p < l.length := (List.getElem?_eq_some_iff.mp h).1
    rw [List.drop_eq_getElem_cons hp]
    have : l[p] = c := by
      rw [List.getElem?_eq_getElem hp] at h
      exact Option.some.inj h
    rw [this] <;> rfl
theorem dropS_step (b : Int) (f : Nat → Int) (ws : List Str) (p : Nat) : dropS b f ws p = ((WS.col ws p).map f).sum + b * dropS b f ws (p + 1) := by
  unfold dropS WS.col
  induction ws with
  | nil => simp
  | cons z r ih =>
    rw [List.map_cons, List.sum_cons, List.map_cons, List.sum_cons, List.filterMap_cons, back_drop, ih, Int.mul_add]
    cases z.cps.toList.reverse[p]? with
    | none =>
      simp only [Option.map_none, Option.getD_none]
      omega
    | some c =>
      simp only [Option.map_some, Option.getD_some, List.map_cons, List.sum_cons]
      omega
theorem dropS_end {b : Int} {f : Nat → Int} {ws : List Str} {p : Nat} (h : maxLen ws ≤ p) : dropS b f ws p = 0 := by
  have key : ∀ z ∈ ws, backOf b f (z.cps.toList.reverse.drop p) = 0 := fun z hz => by
    have h1 := maxLen_le hz
    have e : z.cps.toList.reverse.length = z.length := by rw [List.length_reverse] <;> exact Array.length_toList
    rw [List.drop_eq_nil_iff.mpr (by omega)] <;> rfl
  unfold dropS
  clear h
  induction ws with
  | nil => rfl
  | cons z r ih =>
    rw [List.map_cons, List.sum_cons, key z List.mem_cons_self, ih fun y hy => key y (List.mem_cons_of_mem _ hy)] <;> rfl
theorem dropS_zero (b : Int) (f : Nat → Int) (ws : List Str) : dropS b f ws 0 = (ws.map fun z => worthOf b f z.cps.toList).sum := by
  unfold dropS
  congr 1
  refine List.map_congr_left fun z _ => ?_
  rw [List.drop_zero, back_worth]
theorem carry_step {b k s a t b' : Int} (hb : 0 < b) (h0 : 0 ≤ t) (h1 : t < b) : (k + (s + b * a) = t + b * b') ↔ (k + s) % b = t ∧ (k + s) / b + a = b' := by
  have e := Int.emod_def (k + s) b
  have r0 := Int.emod_nonneg (k + s) (show b ≠ 0 by omega)
  have r1 := Int.emod_lt_of_pos (k + s) hb
  generalize (k + s) % b = r at *
  generalize (k + s) / b = q at *
  constructor
  · intro h
    have h2 : r - t = b * (b' - a - q) := by rw [Int.mul_sub, Int.mul_sub]; omega
    have h3 : b' - a - q = 0 := by
      rcases Int.lt_trichotomy (b' - a - q) 0 with h4 | h4 | h4
      · have : b * (b' - a - q) ≤ b * (-1) := Int.mul_le_mul_of_nonneg_left (by omega) (by omega)
        omega
      · exact h4
      · have : b * 1 ≤ b * (b' - a - q) := Int.mul_le_mul_of_nonneg_left (by omega) (by omega)
        omega
    rw [h3, Int.mul_zero] at h2
    exact ⟨by omega, by omega⟩
  · rintro ⟨rfl, rfl⟩
    rw [Int.mul_add]
    omega
theorem run_cases {b : Int} {f : Nat → Int} : ∀ {ps : List Stp} {X : List Stp} {k : Int}, (∀ p ∈ ps, ∃ c, p = .cases c) → runOk b f (ps ++ X) k = runOk b f X k
  | [], _, _, _ => rfl
  | p :: r, X, k, h => by
    obtain ⟨c, rfl⟩ := h p List.mem_cons_self
    show runOk b f (r ++ X) k = _
    exact run_cases fun q hq => h q (List.mem_cons_of_mem _ hq)
theorem stLets_cases_only (cs : List Nat) : ∀ (st : St2), (∀ p ∈ st.1, ∃ c, p = .cases c) → ∀ p ∈ (stLets st cs).1, ∃ c, p = .cases c := by
  unfold stLets
  induction cs with
  | nil => intro st h; exact h
  | cons c r ih =>
    intro st h
    rw [List.foldl_cons]
    refine ih _ fun p hp => ?_
    unfold stLetter at hp
    split at hp
    · exact h p hp
    · rcases List.mem_append.mp hp with hp | hp
      · exact h p hp
      · exact ⟨c, by simpa using hp⟩
/-- figures of the base for all letters of the words -/
def InBase (b : Int) (f : Nat → Int) (ss : List WSum) : Prop := ∀ s ∈ ss, ∀ z ∈ s.1 ++ [s.2], ∀ c ∈ z.cps.toList, 0 ≤ f c ∧ f c < b
theorem run_sum {b : Int} (hb : 0 < b) {f : Nat → Int} {ss : List WSum} (hf : InBase b f ss) {i : Nat} {s : WSum} (hs : ss[i]? = some s) (ih : ∀ kn, runOk b f (remAt ss (i + 1) 0 kn) 0 = (ss.drop (i + 1)).all (sumHolds b f)) :
    ∀ (n p : Nat), maxLen (s.1 ++ [s.2]) - p = n → p ≤ maxLen (s.1 ++ [s.2]) → ∀ (kn : List Nat) (k : Int), runOk b f (remAt ss i p kn) k = (decide (k + dropS b f s.1 p = backOf b f (s.2.cps.toList.reverse.drop p)) && (ss.drop (i + 1)).all (sumHolds b f))
  | 0, p, hn, hp, kn, k => by
    have e : p = maxLen (s.1 ++ [s.2]) := by omega
    subst e
    rw [rem_over hs]
    have h1 : dropS b f s.1 (maxLen (s.1 ++ [s.2])) = 0 := dropS_end (maxLen_bound fun z hz => maxLen_le (List.mem_append_left _ hz))
    have h2 : backOf b f (s.2.cps.toList.reverse.drop (maxLen (s.1 ++ [s.2]))) = 0 := by
      have := maxLen_le (ws := s.1 ++ [s.2]) (List.mem_append_right _ List.mem_cons_self)
      have e : s.2.cps.toList.reverse.length = s.2.length := by rw [List.length_reverse] <;> exact Array.length_toList
      rw [List.drop_eq_nil_iff.mpr (by omega)] <;> rfl
    show (decide (k = 0) && runOk b f _ 0) = _
    rw [h1, h2, Int.add_zero, ih]
  | n + 1, p, hn, hp, kn, k => by
    have hpl : p < maxLen (s.1 ++ [s.2]) := by omega
    rw [rem_col hs hpl]
    unfold stCol
    dsimp only
    rw [List.append_assoc, run_cases (stLets_cases_only _ _ fun p hp => by simp at hp)]
    generalize (stLets ([], kn) (WS.col s.1 p)).2 = kn1
    show (decide ((k + ((WS.col s.1 p).map f).sum) % b = ((endOf s.2 p).map f).getD 0) && runOk b f (remAt ss i (p + 1) _) ((k + ((WS.col s.1 p).map f).sum) / b)) = _
    rw [run_sum hb hf hs ih n (p + 1) (by omega) (by omega), ← Bool.and_assoc]
    congr 1
    have ht : 0 ≤ ((endOf s.2 p).map f).getD 0 ∧ ((endOf s.2 p).map f).getD 0 < b := by
      cases e : endOf s.2 p with
      | none => exact ⟨Int.le_refl _, hb⟩
      | some c => exact hf s (List.mem_of_getElem? hs) s.2 (List.mem_append_right _ List.mem_cons_self) c (List.mem_reverse.mp (List.mem_of_getElem? (show s.2.cps.toList.reverse[p]? = some c from e)))
    rw [Bool.eq_iff_iff, Bool.and_eq_true, decide_eq_true_iff, decide_eq_true_iff, decide_eq_true_iff, dropS_step b f s.1 p, back_drop b f _ p]
    exact (carry_step hb ht.1 ht.2).symm
theorem run_from {b : Int} (hb : 0 < b) {f : Nat → Int} {ss : List WSum} (hf : InBase b f ss) : ∀ (n i : Nat), ss.length - i = n → ∀ kn, runOk b f (remAt ss i 0 kn) 0 = (ss.drop i).all (sumHolds b f)
  | 0, i, hn, kn => by
    rw [rem_end (by omega), List.drop_eq_nil_iff.mpr (by omega)] <;> rfl
  | n + 1, i, hn, kn => by
    have hi : i < ss.length := by omega
    have hs : ss[i]? = some ss[i] := List.getElem?_eq_getElem hi
    rw [run_sum hb hf hs (run_from hb hf n (i + 1) (by omega)) _ 0 rfl (Nat.zero_le _), List.drop_eq_getElem_cons hi, List.all_cons]
    congr 1
    unfold sumHolds
    rw [dropS_zero, List.drop_zero, back_worth, Int.zero_add]
theorem run_all {b : Int} (hb : 0 < b) {f : Nat → Int} {ss : List WSum} (hf : InBase b f ss) : runOk b f (stepsOf ss) 0 = ss.all (sumHolds b f) := by
  rw [stepsOf_rem, run_from hb hf _ 0 rfl, List.drop_zero]
/-! ### trying all -/
def longer (b : Int) (rows : List (List Int)) : List (List Int) := (rows.map fun row => ((upFrom 0 b.toNat).filter fun v => !decide (v ∈ row)).map fun v => row ++ [v]).flatten
/-- all ways to give n letters unlike figures, ascending -/
def rowsN (b : Int) : Nat → List (List Int)
  | 0 => [[]]
  | n + 1 => longer b (rowsN b n)
theorem fills_snoc (b : Int) (fs : List Nat) : ∀ (cs : List Nat) (tk : List Int) (c : Nat), fills b fs (cs ++ [c]) tk = ((fills b fs cs tk).map fun vs => (freeV b fs c (tk ++ vs)).map fun v => vs ++ [v]).flatten
  | [], tk, c => by
    show ((freeV b fs c tk).map fun v => ([[]] : List (List Int)).map (v :: ·)).flatten = (([[]] : List (List Int)).map fun vs => (freeV b fs c (tk ++ vs)).map fun v => vs ++ [v]).flatten
    rw [List.map_cons, List.map_nil, List.append_nil, List.flatten_cons, List.flatten_nil, List.append_nil]
    induction freeV b fs c tk with
    | nil => rfl
    | cons v r ih => rw [List.map_cons, List.flatten_cons, ih] <;> rfl
  | d :: cs, tk, c => by
    show ((freeV b fs d tk).map fun u => (fills b fs (cs ++ [c]) (tk ++ [u])).map (u :: ·)).flatten = (((freeV b fs d tk).map fun u => (fills b fs cs (tk ++ [u])).map (u :: ·)).flatten.map fun vs => (freeV b fs c (tk ++ vs)).map fun v => vs ++ [v]).flatten
    rw [map_flatten', List.map_map]
    rw [show ∀ Z : List (List (List (List Int))), Z.flatten.flatten = (Z.map List.flatten).flatten from fun Z => List.flatten_flatten]
    rw [List.map_map]
    congr 1
    refine List.map_congr_left fun u _ => ?_
    rw [fills_snoc b fs cs (tk ++ [u]) c, map_flatten', List.map_map]
    show _ = ((List.map _ (List.map _ _)).flatten)
    rw [List.map_map]
    congr 1
    refine List.map_congr_left fun vs _ => ?_
    show ((freeV b fs c (tk ++ [u] ++ vs)).map fun v => vs ++ [v]).map (u :: ·) = (freeV b fs c (tk ++ u :: vs)).map fun v => (u :: vs) ++ [v]
    rw [List.map_map, List.append_assoc] <;> rfl
theorem freeV_all (b : Int) (c : Nat) (tk : List Int) : freeV b [] c tk = (upFrom 0 b.toNat).filter fun v => !decide (v ∈ tk) := by
  unfold freeV
  rw [if_neg (by simp), Int.sub_zero]
theorem rows_fills (b : Int) : ∀ (n : Nat) (cs : List Nat), cs.length = n → rowsN b n = fills b [] cs []
  | 0, cs, h => by
    rw [List.length_eq_zero_iff.mp h] <;> rfl
  | n + 1, cs, h => by
    have hne : cs ≠ [] := fun e => by rw [e] at h; simp at h
    have e := List.dropLast_concat_getLast hne
    rw [← e, fills_snoc]
    show longer b (rowsN b n) = _
    rw [rows_fills b n cs.dropLast (by rw [List.length_dropLast]; omega)]
    unfold longer
    congr 1
    refine List.map_congr_left fun vs _ => ?_
    rw [freeV_all, List.nil_append]
def nzB (fs : List Nat) : List Nat → List Int → Bool
  | c :: cs, v :: vs => (!decide (c ∈ fs) || !decide (v = 0)) && nzB fs cs vs
  | _, _ => true
theorem flatten_if {α β : Type} (q : α → Bool) (g : α → List β) : ∀ l : List α, ((l.filter q).map g).flatten = (l.map fun x => if q x = true then g x else []).flatten
  | [] => rfl
  | x :: r => by
    rw [List.filter_cons, List.map_cons, List.flatten_cons, ← flatten_if q g r]
    by_cases h : q x = true
    · rw [if_pos h, if_pos h, List.map_cons, List.flatten_cons]
    · rw [if_neg h, if_neg h, List.nil_append]
theorem freeV_filter {b : Int} (hb : 0 < b) (fs : List Nat) (c : Nat) (tk : List Int) : freeV b fs c tk = (freeV b [] c tk).filter fun v => !decide (c ∈ fs) || !decide (v = 0) := by
  by_cases hc : c ∈ fs
  · rw [freeV_all]
    unfold freeV
    rw [if_pos hc]
    obtain ⟨n, hn⟩ : ∃ n, b.toNat = n + 1 := ⟨b.toNat - 1, by omega⟩
    have e : (b - 1).toNat = n := by omega
    have ec : upFrom 0 (n + 1) = 0 :: upFrom 1 n := by
      unfold upFrom
      rw [List.range_succ_eq_map, List.map_cons, List.map_map]
      congr 1
      refine List.map_congr_left fun i _ => ?_
      show (0 : Int) + ((i + 1 : Nat) : Int) = 1 + (i : Int)
      omega
    rw [hn, e, ec, List.filter_filter, List.filter_cons]
    have e0 : ((!decide (c ∈ fs) || !decide ((0 : Int) = 0)) && !decide ((0 : Int) ∈ tk)) = false := by
      rw [decide_eq_true hc, decide_eq_true (rfl : (0 : Int) = 0)] <;> rfl
    rw [e0, if_neg Bool.false_ne_true]
    refine List.filter_congr fun v hv => ?_
    have h1 := (mem_upFrom.mp hv).1
    have e1 : decide (v = 0) = false := decide_eq_false (by omega)
    rw [e1, Bool.not_false, Bool.or_true, Bool.true_and]
  · have e1 : ∀ v : Int, (!decide (c ∈ fs) || !decide (v = 0)) = true := fun v => by rw [decide_eq_false hc] <;> rfl
    rw [freeV_all]
    unfold freeV
    rw [if_neg hc, Int.sub_zero]
    exact (List.filter_eq_self.mpr fun v _ => e1 v).symm
theorem fills_filter {b : Int} (hb : 0 < b) (fs : List Nat) : ∀ (cs : List Nat) (tk : List Int), fills b fs cs tk = (fills b [] cs tk).filter (nzB fs cs)
  | [], tk => rfl
  | c :: cs, tk => by
    show ((freeV b fs c tk).map fun v => (fills b fs cs (tk ++ [v])).map (v :: ·)).flatten = (((freeV b [] c tk).map fun v => (fills b [] cs (tk ++ [v])).map (v :: ·)).flatten).filter _
    rw [freeV_filter hb fs c tk, flatten_if, filter_flatten, List.map_map]
    congr 1
    refine List.map_congr_left fun v _ => ?_
    show _ = ((fills b [] cs (tk ++ [v])).map (v :: ·)).filter (nzB fs (c :: cs))
    rw [List.filter_map]
    by_cases h : (!decide (c ∈ fs) || !decide (v = 0)) = true
    · rw [if_pos h, fills_filter hb fs cs (tk ++ [v])]
      congr 1
      refine List.filter_congr fun vs _ => ?_
      show _ = ((!decide (c ∈ fs) || !decide (v = 0)) && nzB fs cs vs)
      rw [h, Bool.true_and]
    · rw [if_neg h]
      have : (fills b [] cs (tk ++ [v])).filter (nzB fs (c :: cs) ∘ (v :: ·)) = [] := by
        rw [List.filter_eq_nil_iff]
        intro vs _ h'
        have h' : ((!decide (c ∈ fs) || !decide (v = 0)) && nzB fs cs vs) = true := h'
        rw [Bool.eq_false_iff.mpr h, Bool.false_and] at h'
        cases h'
      rw [this] <;> rfl
theorem fills_mem {b : Int} (hb : 0 < b) {fs : List Nat} : ∀ {cs : List Nat} {tk : List Int} {row : List Int}, row ∈ fills b fs cs tk → row.length = cs.length ∧ (∀ v ∈ row, 0 ≤ v ∧ v < b) ∧ row.Nodup ∧ ∀ v ∈ row, v ∉ tk
  | [], tk, row, h => by
    have e : row = [] := by simpa using (show row ∈ ([[]] : List (List Int)) from h)
    subst e
    exact ⟨rfl, (fun v h => nomatch h), List.nodup_nil, fun v h => nomatch h⟩
  | c :: cs, tk, row, h => by
    obtain ⟨l, hl, hr⟩ := List.mem_flatten.mp (show row ∈ ((freeV b fs c tk).map fun v => (fills b fs cs (tk ++ [v])).map (v :: ·)).flatten from h)
    obtain ⟨v, hv, rfl⟩ := List.mem_map.mp hl
    obtain ⟨vs, hvs, rfl⟩ := List.mem_map.mp hr
    obtain ⟨h1, h2, h3, h4⟩ := fills_mem hb hvs
    obtain ⟨⟨g1, g2, _⟩, g3⟩ := (mem_freeV hb).mp hv
    refine ⟨by rw [List.length_cons, List.length_cons, h1], fun u hu => ?_, List.nodup_cons.mpr ⟨fun hm => h4 v hm (List.mem_append_right _ List.mem_cons_self), h3⟩, fun u hu => ?_⟩
    · rcases List.mem_cons.mp hu with rfl | hu
      · exact ⟨g1, g2⟩
      · exact h2 u hu
    · rcases List.mem_cons.mp hu with rfl | hu
      · exact g3
      · exact fun hm => h4 u hu (List.mem_append_left _ hm)
theorem rows_mem {b : Int} (hb : 0 < b) {n : Nat} {row : List Int} (h : row ∈ rowsN b n) : row.length = n ∧ (∀ v ∈ row, 0 ≤ v ∧ v < b) ∧ row.Nodup := by
  rw [rows_fills b n (List.replicate n 0) List.length_replicate] at h
  obtain ⟨h1, h2, h3, _⟩ := fills_mem hb h
  rw [List.length_replicate] at h1
  exact ⟨h1, h2, h3⟩
theorem wfP_met : ∀ {a : List Stp} {k k' : List Nat}, WfP a k k' → k' = k ++ metL a ∧ ∀ X, metL (a ++ X) = metL a ++ metL X
  | [], k, k', h => ⟨by rw [show metL [] = [] from rfl, List.append_nil]; exact h.symm, fun _ => rfl⟩
  | .cases c :: r, k, k', h => by
    obtain ⟨h1, h2⟩ := wfP_met h.2
    exact ⟨by rw [h1, List.append_assoc] <;> rfl, fun X => by show c :: metL (r ++ X) = _; rw [h2] <;> rfl⟩
  | .col false _ _ added e :: r, k, k', h => by
    obtain ⟨h1, h2⟩ := wfP_met h.2.2
    exact ⟨h1, fun X => h2 X⟩
  | .col true _ _ added e :: r, k, k', h => by
    obtain ⟨h1, h2⟩ := wfP_met h.2.2
    exact ⟨by rw [h1, List.append_assoc] <;> rfl, fun X => by show e.getD 0 :: metL (r ++ X) = _; rw [h2] <;> rfl⟩
  | .over _ :: r, k, k', h => by
    obtain ⟨h1, h2⟩ := wfP_met (a := r) h
    exact ⟨h1, fun X => h2 X⟩
  | .answer :: _, k, k', h => False.elim h
/-- the letters that reading meets are the sheet's, in their order -/
theorem steps_met {b : Int} {ss : List WSum} (V' : Valid b ss) : metL (stepsOf ss) = lettersOf ss := by
  have h4 : ∀ s ∈ ss, s.1.length ≤ 4 ∧ maxLen (s.1 ++ [s.2]) ≤ 6 := fun s hs => ⟨(V'.many s hs).2, maxLen_bound fun z hz => (isWord_iff.mp (words_of V' hs z hz)).1.2⟩
  have g := Good.all h4 ss.length (Nat.le_refl _)
  have e := stepsSt_kn (ss := ss) ss.length (Nat.le_refl _)
  rw [List.take_length] at g e
  obtain ⟨h1, h2⟩ := wfP_met g.wf
  unfold stepsOf
  rw [h2, show metL [.answer] = [] from rfl, List.append_nil]
  rw [List.nil_append] at h1
  rw [← h1, e] <;> rfl
theorem figAt_fgOf (L : List Nat) (vs : List Int) : figAt (L.zip vs) = fgOf L vs := by
  funext c
  have h := kvsF_look (L.zip vs) c
  have h2 : valV (kvsOf L vs) (Sum.inr ⟨#[c]⟩ : Key) = ((L.zip vs).find? fun p => decide (p.1 = c)).map fun p => V.int p.2 := h
  unfold fgOf figAt
  rw [h2]
  cases (L.zip vs).find? fun p => decide (p.1 = c) <;> rfl
theorem nzB_iff {fs : List Nat} : ∀ {cs : List Nat} {vs : List Int}, nzB fs cs vs = true ↔ ∀ (i : Nat) (c : Nat) (v : Int), cs[i]? = some c → vs[i]? = some v → c ∈ fs → v ≠ 0
  | [], vs => by simp [nzB]
  | c :: cs, [] => by simp [nzB]
  | c :: cs, v :: vs => by
    show ((!decide (c ∈ fs) || !decide (v = 0)) && nzB fs cs vs) = true ↔ _
    rw [Bool.and_eq_true, nzB_iff]
    constructor
    · rintro ⟨h1, h2⟩ i d u hd hu hm
      rcases i with _ | i
      · cases Option.some.inj hd
        cases Option.some.inj hu
        intro e
        rw [decide_eq_true hm, decide_eq_true e] at h1
        cases h1
      · exact h2 i d u hd hu hm
    · intro h
      refine ⟨?_, fun i d u hd hu hm => h (i + 1) d u hd hu hm⟩
      by_cases hm : c ∈ fs
      · rw [decide_eq_false (h 0 c v rfl rfl hm), Bool.not_false, Bool.or_true]
      · rw [decide_eq_false hm] <;> rfl
theorem distI_nodup {ns : List Int} (h : ns.Nodup) : distI ns = ns.length := by
  unfold distI
  rw [RZ.firstMet_nodup h ns.length (Nat.le_refl _), List.take_length]
/-- the answers are just the rows that keep -/
theorem answers_try {b : Int} {ss : List WSum} (V' : Valid b ss) : answersOf b ss = (rowsN b (lettersOf ss).length).filter fun row => keepsB b ss (lettersOf ss) (fgOf (lettersOf ss) row) := by
  have hb2 := V'.b2
  have hb : 0 < b := by omega
  obtain ⟨hwf, _⟩ := stepsOf_wf V'
  have hmet := steps_met V'
  have hN : (lettersOf ss).Nodup := dd_nodup _
  have h1 := found_fills (b := b) (fs := firstsOf ss) (L := lettersOf ss) (stepsOf ss) [] 0 hwf List.nodup_nil (by rw [hmet] <;> rfl)
  unfold answersOf
  rw [h1, hmet, show valsF [] = [] from rfl, fills_filter hb (firstsOf ss), ← rows_fills b _ (lettersOf ss) rfl, List.filter_filter]
  have e0 : ∀ l : List (List Int), l.map (([] : List Int) ++ ·) = l := fun l => by simp
  rw [e0]
  refine List.filter_congr fun row hrow => ?_
  obtain ⟨r1, r2, r3⟩ := rows_mem hb hrow
  have hmap := figs_map hN (by omega : (lettersOf ss).length = row.length)
  show (runOk b (figAt ((lettersOf ss).zip row)) (stepsOf ss) 0 && nzB (firstsOf ss) (lettersOf ss) row) = _
  rw [figAt_fgOf]
  have hin : ∀ c ∈ lettersOf ss, 0 ≤ fgOf (lettersOf ss) row c ∧ fgOf (lettersOf ss) row c < b := fun c hc => by
    refine r2 _ ?_
    rw [← hmap]
    exact List.mem_map.mpr ⟨c, hc, by rw [hmap]⟩
  rw [run_all hb fun s hs z hz c hc => hin c (mem_letters hs hz hc)]
  unfold keepsB badFigs
  rw [hmap, distI_nodup r3, decide_eq_false (Nat.lt_irrefl _), Bool.false_or]
  have e1 : row.any (fun x => decide (x < 0)) = false := by
    rw [List.any_eq_false]
    intro x hx h
    have := (r2 x hx).1
    have := of_decide_eq_true h
    omega
  have e2 : row.any (fun x => decide (b ≤ x)) = false := by
    rw [List.any_eq_false]
    intro x hx h
    have := (r2 x hx).2
    have := of_decide_eq_true h
    omega
  have e3 : nzB (firstsOf ss) (lettersOf ss) row = noNought (fgOf (lettersOf ss) row) (firstsOf ss) := by
    rw [Bool.eq_iff_iff, nzB_iff]
    unfold noNought
    rw [Bool.not_eq_true', List.any_eq_false]
    constructor
    · intro h c hc hz
      have hz := of_decide_eq_true hz
      obtain ⟨i, hi⟩ := List.mem_iff_getElem?.mp (firsts_in hc)
      refine h i c _ hi ?_ hc hz
      rw [← hmap, List.getElem?_map, hi, hmap] <;> rfl
    · intro h i c v hc hv hm e
      refine h c hm (decide_eq_true ?_)
      have h2 : row[i]? = some (fgOf (lettersOf ss) row c) := by
        have : ((lettersOf ss).map (fgOf (lettersOf ss) row))[i]? = some (fgOf (lettersOf ss) row c) := by rw [List.getElem?_map, hc] <;> rfl
        rwa [hmap] at this
      rw [h2] at hv
      rw [Option.some.inj hv, e]
  rw [e1, e2, e3, Bool.false_or, Bool.not_false, Bool.true_and, Bool.and_comm]
end WS
set_option maxRecDepth 100000
set_option maxHeartbeats 4000000
namespace WS
open PySem L2
/-- two values that are alike in kind and content, at most n deep: ints, texts, lists, tuples -/
def Alike (H : Hp) : Nat → V → V → Prop
  | 0, x, y => (∃ i, x = .int i ∧ y = .int i) ∨ (∃ z, x = .str z ∧ y = .str z)
  | n + 1, x, y => ((∃ i, x = .int i ∧ y = .int i) ∨ (∃ z, x = .str z ∧ y = .str z)) ∨
      ∃ (a b : Addr) (xs ys : List V), x = .ref a ∧ y = .ref b ∧ ((H a = some (.lst xs) ∧ H b = some (.lst ys)) ∨ (H a = some (.tup xs) ∧ H b = some (.tup ys))) ∧ xs.length = ys.length ∧ xs.length ≤ 10000000 ∧
        ∀ (i : Nat) (u v : V), xs[i]? = some u → ys[i]? = some v → Alike H n u v
theorem Alike.same {H H' : Hp} (e : Same H H') : ∀ {n : Nat} {x y : V}, Alike H n x y → Alike H' n x y
  | 0, x, y, h => h
  | n + 1, x, y, h => by
    rcases h with h | ⟨a, b, xs, ys, rfl, rfl, hh, hl, hz, hi⟩
    · exact .inl h
    · refine .inr ⟨a, b, xs, ys, rfl, rfl, ?_, hl, hz, fun i u v h1 h2 => (hi i u v h1 h2).same e⟩
      rcases hh with ⟨h1, h2⟩ | ⟨h1, h2⟩
      · exact .inl ⟨e _ _ h1, e _ _ h2⟩
      · exact .inr ⟨e _ _ h1, e _ _ h2⟩
end WS
set_option maxRecDepth 100000
set_option maxHeartbeats 4000000
namespace WS
open PySem L2 SetT RevS
theorem Alike.up {H : Hp} : ∀ {n : Nat} {x y : V}, Alike H n x y → Alike H (n + 1) x y
  | 0, x, y, h => .inl h
  | n + 1, x, y, h => by
    rcases h with h | ⟨a, b, xs, ys, e1, e2, hh, hl, hz, hi⟩
    · exact .inl h
    · exact .inr ⟨a, b, xs, ys, e1, e2, hh, hl, hz, fun i u v h1 h2 => (hi i u v h1 h2).up⟩
theorem Alike.le {H : Hp} {n m : Nat} {x y : V} (h : Alike H n x y) (hm : n ≤ m) : Alike H m x y := by
  induction hm with
  | refl => exact h
  | step _ ih => exact ih.up
theorem alike_str {H : Hp} (n : Nat) (z : Str) : Alike H n (.str z) (.str z) := Alike.le (n := 0) (.inr ⟨z, rfl, rfl⟩) (Nat.zero_le _)
theorem alike_int {H : Hp} (n : Nat) (i : Int) : Alike H n (.int i) (.int i) := Alike.le (n := 0) (.inl ⟨i, rfl, rfl⟩) (Nat.zero_le _)
theorem alike_tup {H : Hp} {n : Nat} {a b : Addr} {xs ys : List V} (h1 : H a = some (.tup xs)) (h2 : H b = some (.tup ys)) (hl : xs.length = ys.length) (hz : xs.length ≤ 10000000) (hi : ∀ (i : Nat) (u v : V), xs[i]? = some u → ys[i]? = some v → Alike H n u v) : Alike H (n + 1) (.ref a) (.ref b) :=
  .inr ⟨a, b, xs, ys, rfl, rfl, .inr ⟨h1, h2⟩, hl, hz, hi⟩
theorem tree_alike {H : Hp} : ∀ (n : Nat) {t : Tree} {x y : V}, TreeAt H x t → TreeAt H y t → tdepth t ≤ n → tsize t ≤ 10000000 → Alike H (3 * n) x y
  | 0, t, x, y, h1, h2, hd, hs => by cases t <;> simp [tdepth] at hd
  | n + 1, t, x, y, h1, h2, hd, hs => by
    have e3 : 3 * (n + 1) = 3 * n + 2 + 1 := by omega
    rw [e3]
    cases h1 with
    | answer a1 =>
      cases h2 with
      | answer a2 =>
        refine alike_tup a1 a2 rfl (by show 1 ≤ _; decide) fun i u v hu hv => ?_
        cases Option.some.inj (hu.symm.trans hv)
        match i, hu with
        | 0, hu => cases Option.some.inj hu; exact alike_str _ _
    | over a1 =>
      cases h2 with
      | over a2 =>
        refine alike_tup a1 a2 rfl (by show 2 ≤ _; decide) fun i u v hu hv => ?_
        cases Option.some.inj (hu.symm.trans hv)
        match i, hu with
        | 0, hu => cases Option.some.inj hu; exact alike_str _ _
        | 1, hu => cases Option.some.inj hu; exact alike_int _ _
    | off a1 =>
      cases h2 with
      | off a2 =>
        refine alike_tup a1 a2 rfl (by show 3 ≤ _; decide) fun i u v hu hv => ?_
        cases Option.some.inj (hu.symm.trans hv)
        match i, hu with
        | 0, hu => cases Option.some.inj hu; exact alike_str _ _
        | 1, hu => cases Option.some.inj hu; exact alike_int _ _
        | 2, hu => cases Option.some.inj hu; exact alike_int _ _
    | taken a1 =>
      cases h2 with
      | taken a2 =>
        refine alike_tup a1 a2 rfl (by show 3 ≤ _; decide) fun i u v hu hv => ?_
        cases Option.some.inj (hu.symm.trans hv)
        match i, hu with
        | 0, hu => cases Option.some.inj hu; exact alike_str _ _
        | 1, hu => cases Option.some.inj hu; exact alike_int _ _
        | 2, hu => cases Option.some.inj hu; exact alike_int _ _
    | @so a i p w1 t' a1 ht1 =>
      cases h2 with
      | @so b i p w2 t' a2 ht2 =>
        have e1 : tdepth (.so i p t') = 1 + tdepth t' := by simp [tdepth]
        have e2 : tsize (.so i p t') = 1 + tsize t' := by simp [tsize]
        have ih := (tree_alike n ht1 ht2 (by omega) (by omega)).le (m := 3 * n + 2) (by omega)
        refine alike_tup a1 a2 rfl (by show 4 ≤ _; decide) fun j u v hu hv => ?_
        match j, hu, hv with
        | 0, hu, hv => cases Option.some.inj hu; cases Option.some.inj hv; exact alike_str _ _
        | 1, hu, hv => cases Option.some.inj hu; cases Option.some.inj hv; exact alike_int _ _
        | 2, hu, hv => cases Option.some.inj hu; cases Option.some.inj hv; exact alike_int _ _
        | 3, hu, hv => cases Option.some.inj hu; cases Option.some.inj hv; exact ih
    | @cases a q c rs ws rows a1 hq1 hl1 hr1 hw1 =>
      cases h2 with
      | @cases b q2 c rs2 ws2 rows a2 hq2 hl2 hr2 hw2 =>
        have e1 : tdepth (.cases c rows) = 1 + rdepth rows := by simp [tdepth]
        have e2 : tsize (.cases c rows) = 1 + rsize rows := by simp [tsize]
        have hrl := rsize_len rows
        refine alike_tup a1 a2 rfl (by show 3 ≤ _; decide) fun j u v hu hv => ?_
        match j, hu, hv with
        | 0, hu, hv => cases Option.some.inj hu; cases Option.some.inj hv; exact alike_str _ _
        | 1, hu, hv => cases Option.some.inj hu; cases Option.some.inj hv; exact alike_str _ _
        | 2, hu, hv =>
          cases Option.some.inj hu; cases Option.some.inj hv
          refine alike_tup hq1 hq2 (by rw [List.length_map, List.length_map, hl1, hl2]) (by rw [List.length_map]; omega) fun i u v hu hv => ?_
          obtain ⟨r1, hr1', rfl⟩ := refs_at hu
          obtain ⟨r2, hr2', rfl⟩ := refs_at hv
          have hi : i < rows.length := by rw [← hl1]; exact (List.getElem?_eq_some_iff.mp hr1').1
          have hx : rows[i]? = some rows[i] := List.getElem?_eq_getElem hi
          have hxm : rows[i] ∈ rows := List.getElem_mem hi
          have d1 := rdepth_mem hxm
          have d2 := rsize_mem hxm
          refine alike_tup (hr1 i r1 _ hr1' hx) (hr2 i r2 _ hr2' hx) rfl (by show 2 ≤ _; decide) fun k u v hu hv => ?_
          match k, hu, hv with
          | 0, hu, hv => cases Option.some.inj hu; cases Option.some.inj hv; exact alike_int _ _
          | 1, hu, hv => cases Option.some.inj hu; cases Option.some.inj hv; exact tree_alike n (hw1 i _ hx) (hw2 i _ hx) (by omega) (by omega)
end WS
set_option maxRecDepth 100000
set_option maxHeartbeats 4000000
namespace WS
open PySem L2 SetT RevS
/-- a drawn sheet that is not wide has few ways to give its letters figures -/
theorem SheetOk.ways {b : Int} {ss : List WSum} (S : SheetOk b ss) : b.toNat ^ (lettersOf ss).length ≤ 50000 := by
  have V := S.valid
  obtain ⟨l1, l2⟩ := lettersOf_le V
  have hb := V.b12
  have hb2 := V.b2
  by_cases h6 : b ≤ 6
  · exact Nat.le_trans (Nat.le_trans (Nat.pow_le_pow_left (show b.toNat ≤ 6 by omega) _) (Nat.pow_le_pow_right (by decide) (show _ ≤ 6 by omega))) (by decide)
  · have h1 := S.big (by omega)
    obtain ⟨s, rfl⟩ : ∃ s, ss = [s] := by
      rcases ss with _ | ⟨s, _ | ⟨t, r⟩⟩
      · simp at h1
      · exact ⟨s, rfl⟩
      · simp at h1
    obtain ⟨cs, N, ok⟩ := S.cs
    obtain ⟨g1, g2, g3⟩ := (ok s List.mem_cons_self).big (by omega)
    have e : signsOf (wordsOf [s]) = signsOf s.1 ++ s.2.cps.toList := by
      have : wordsOf [s] = s.1 ++ [s.2] := by unfold wordsOf; simp
      rw [this, signsOf_append]
      unfold signsOf; simp
    have l1 := signsOf_len (m := 1) fun z hz => (g2 z hz).len
    have l2 := g3.len
    have h4 : (lettersOf [s]).length ≤ (signsOf (wordsOf [s])).length := nodup_le (dd_nodup _) fun c hc => letters_sign hc
    rw [e, List.length_append] at h4
    exact Nat.le_trans (Nat.le_trans (Nat.pow_le_pow_left (show b.toNat ≤ 12 by omega) _) (Nat.pow_le_pow_right (by decide) (show _ ≤ 4 by omega))) (by decide)
theorem ans_alike {H : Hp} {a c : Addr} {rs rs' : List Addr} {as : List (List Int)} (ha : H a = some (.lst (rs.map V.ref))) (hc : H c = some (.lst (rs'.map V.ref))) (h : AnsAt H rs as) (h' : AnsAt H rs' as) (hl : as.length ≤ 10000000) (h12 : ∀ x ∈ as, x.length ≤ 100) : Alike H 2 (.ref a) (.ref c) := by
  have l1 := h.len
  have l2 := h'.len
  refine .inr ⟨a, c, _, _, rfl, rfl, .inl ⟨ha, hc⟩, by rw [List.length_map, List.length_map]; omega, by rw [List.length_map]; omega, fun i u v hu hv => ?_⟩
  obtain ⟨r, hr, rfl⟩ := refs_at hu
  obtain ⟨r', hr', rfl⟩ := refs_at hv
  have hi : i < as.length := by rw [← l1]; exact (List.getElem?_eq_some_iff.mp hr).1
  have hx : as[i]? = some as[i] := List.getElem?_eq_getElem hi
  have hxm : as[i] ∈ as := List.getElem_mem hi
  refine alike_tup (h.get i r _ hr hx) (h'.get i r' _ hr' hx) rfl (by rw [List.length_map]; have := h12 _ hxm; omega) fun j u v hu hv => ?_
  cases Option.some.inj (hu.symm.trans hv)
  rw [List.getElem?_map] at hu
  cases e : as[i][j]? with
  | none => rw [e] at hu; cases hu
  | some n =>
    rw [e] at hu
    cases Option.some.inj hu
    exact alike_int _ _
/-- an answer has as many figures as there are letters -/
theorem ans_row {b : Int} {ss : List WSum} (V' : Valid b ss) {x : List Int} (h : x ∈ answersOf b ss) : x.length = (lettersOf ss).length ∧ (∀ v ∈ x, 0 ≤ v ∧ v < b) ∧ x.Nodup ∧ keepsB b ss (lettersOf ss) (fgOf (lettersOf ss) x) = true := by
  have hb2 := V'.b2
  rw [answers_try V', List.mem_filter] at h
  obtain ⟨h1, h2, h3⟩ := rows_mem (by omega) h.1
  exact ⟨h1, h2, h3, h.2⟩
theorem SheetOk.ans_le {b : Int} {ss : List WSum} (S : SheetOk b ss) : (answersOf b ss).length ≤ 262144 := by
  have hb := S.valid.b2
  exact Nat.le_trans (found_le (by omega) _ _ _) S.wide.few
theorem WideOk.ans_le {b : Int} {ss : List WSum} (S : WideOk b ss) : (answersOf b ss).length ≤ 262144 := by
  have hb := S.valid.b2
  exact Nat.le_trans (found_le (by omega) _ _ _) S.few
end WS
set_option maxRecDepth 100000
set_option maxHeartbeats 4000000
namespace WS
open PySem L2 SetT RevS
theorem dpAll_int (K : PySem.W.Frag) (H : Hp) : ∀ ns : List Int, DpAll K H (ns.map V.int) (ns.map PyData.int)
  | [] => .nil
  | n :: r => .cons (.int _) (dpAll_int K H r)
theorem shaped_int (ns : List Int) : SeqAt.shaped (.list (ns.map PyData.int)) = true := by
  have h1 : ∀ ns : List Int, PyData.canLayAll0 (ns.map PyData.int) = true := fun ns => by
    induction ns with
    | nil => rfl
    | cons c r ih => rw [List.map_cons]; show (true && PyData.canLayAll0 _) = true; rw [ih] <;> rfl
  have h2 : ∀ ns : List Int, PyData.depthAll (ns.map PyData.int) = 0 := fun ns => by
    induction ns with
    | nil => rfl
    | cons c r ih => rw [List.map_cons]; show max 0 _ = 0; rw [ih] <;> rfl
  unfold SeqAt.shaped
  have e1 : PyData.canLay0 (.list (ns.map PyData.int)) = true := h1 ns
  have e2 : PyData.depth (.list (ns.map PyData.int)) = 1 := congrArg (· + 1) (h2 ns)
  rw [e1, e2] <;> rfl
theorem eqv_nil_any (ds : List PyData) : PyData.eqv (.list ds) (.list []) = ds.isEmpty := by
  cases ds with
  | nil => rfl
  | cons c r => rfl
/-- answers as data -/
def rowD (x : List Int) : PyData := .tuple (x.map PyData.int)
def ansD (as : List (List Int)) : PyData := .list (as.map rowD)
theorem dp_row {K : PySem.W.Frag} {H : Hp} {r : Addr} {x : List Int} (h : H r = some (.tup (x.map V.int))) : Dp K H (.ref r) (rowD x) := .tup (SqT.of h) (dpAll_int K H x)
theorem dpAll_rows {K : PySem.W.Frag} {H : Hp} : ∀ {rs : List Addr} {as : List (List Int)}, AnsAt H rs as → DpAll K H (rs.map V.ref) (as.map rowD)
  | [], [], _ => .nil
  | [], _ :: _, h => by have := h.len; simp at this
  | _ :: _, [], h => by have := h.len; simp at this
  | r :: rs, x :: as, h => .cons (dp_row (h.get 0 r x rfl rfl)) (dpAll_rows ⟨by have := h.len; simpa using this, fun i r' x' a b => h.get (i + 1) r' x' a b⟩)
theorem dp_ans {K : PySem.W.Frag} {H : Hp} {fo : Addr} {rs : List Addr} {as : List (List Int)} (hf : H fo = some (.lst (rs.map V.ref))) (h : AnsAt H rs as) : Dp K H (.ref fo) (ansD as) := .lst (SqL.of hf) (dpAll_rows h)
theorem lay_ints : ∀ x : List Int, PyData.canLayAll0 (x.map PyData.int) = true ∧ PyData.depthAll (x.map PyData.int) = 0
  | [] => ⟨rfl, rfl⟩
  | n :: r => by
    obtain ⟨h1, h2⟩ := lay_ints r
    refine ⟨?_, ?_⟩
    · show (true && PyData.canLayAll0 (r.map PyData.int)) = true
      rw [h1] <;> rfl
    · show max 0 (PyData.depthAll (r.map PyData.int)) = 0
      rw [h2] <;> rfl
theorem lay_row (x : List Int) : (rowD x).canLay0 = true ∧ (rowD x).depth = 1 := ⟨(lay_ints x).1, congrArg (· + 1) (lay_ints x).2⟩
theorem lay_rows : ∀ as : List (List Int), PyData.canLayAll0 (as.map rowD) = true ∧ PyData.depthAll (as.map rowD) ≤ 1
  | [] => ⟨rfl, Nat.zero_le _⟩
  | x :: r => by
    obtain ⟨h1, h2⟩ := lay_rows r
    obtain ⟨g1, g2⟩ := lay_row x
    refine ⟨?_, ?_⟩
    · show ((rowD x).canLay0 && PyData.canLayAll0 (r.map rowD)) = true
      rw [h1, g1] <;> rfl
    · show max (rowD x).depth (PyData.depthAll (r.map rowD)) ≤ 1
      rw [g2]; omega
theorem shaped_row (x : List Int) : SeqAt.shaped (rowD x) = true := by
  obtain ⟨g1, g2⟩ := lay_row x
  unfold SeqAt.shaped
  rw [g1, g2] <;> rfl
theorem shaped_ans (as : List (List Int)) : SeqAt.shaped (ansD as) = true := by
  obtain ⟨h1, h2⟩ := lay_rows as
  have e1 : (ansD as).canLay0 = true := h1
  have e2 : (ansD as).depth ≤ 64 := by show PyData.depthAll (as.map rowD) + 1 ≤ 64; omega
  unfold SeqAt.shaped
  rw [e1, decide_eq_true e2] <;> rfl
theorem eqv_ints : ∀ x y : List Int, PyData.eqvAll (x.map PyData.int) (y.map PyData.int) = decide (x = y)
  | [], [] => rfl
  | [], _ :: _ => rfl
  | _ :: _, [] => rfl
  | m :: x, n :: y => by
    show ((m == n) && PyData.eqvAll (x.map PyData.int) (y.map PyData.int)) = _
    rw [eqv_ints x y, Bool.eq_iff_iff, Bool.and_eq_true, beq_iff_eq, decide_eq_true_iff, decide_eq_true_iff, List.cons.injEq]
theorem eqv_row (x y : List Int) : PyData.eqv (rowD x) (rowD y) = decide (x = y) := eqv_ints x y
theorem eqv_rows : ∀ x y : List (List Int), PyData.eqvAll (x.map rowD) (y.map rowD) = decide (x = y)
  | [], [] => rfl
  | [], _ :: _ => rfl
  | _ :: _, [] => rfl
  | m :: x, n :: y => by
    show (PyData.eqv (rowD m) (rowD n) && PyData.eqvAll (x.map rowD) (y.map rowD)) = _
    rw [eqv_rows x y, eqv_row, Bool.eq_iff_iff, Bool.and_eq_true, decide_eq_true_iff, decide_eq_true_iff, decide_eq_true_iff, List.cons.injEq]
theorem eqv_ans (x y : List (List Int)) : PyData.eqv (ansD x) (ansD y) = decide (x = y) := eqv_rows x y
theorem in_ans (x : List Int) (as : List (List Int)) : ((as.map rowD).any fun z => PyData.eqv z (rowD x)) = decide (x ∈ as) := by
  rw [List.any_map, Bool.eq_iff_iff, List.any_eq_true, decide_eq_true_iff]
  constructor
  · rintro ⟨y, hy, e⟩
    have e : PyData.eqv (rowD y) (rowD x) = true := e
    rw [eqv_row, decide_eq_true_iff] at e
    exact e ▸ hy
  · intro h
    exact ⟨x, h, by show PyData.eqv (rowD x) (rowD x) = true; rw [eqv_row, decide_eq_true rfl]⟩
end WS
set_option maxRecDepth 100000
set_option maxHeartbeats 4000000
namespace WS
open PySem L2 SetT RevS
mutual
theorem dp_same {K : PySem.W.Frag} {H H' : Hp} (e : Same H H') : ∀ {v : V} {d : PyData}, Dp K H v d → Dp K H' v d
  | _, _, .non => .non
  | _, _, .bl b => .bl b
  | _, _, .int i => .int i
  | _, _, .str x => .str x
  | _, _, .lst h a => .lst (sqL_same e h) (dpAll_same e a)
  | _, _, .tup h a => .tup (sqT_same e h) (dpAll_same e a)
theorem dpAll_same {K : PySem.W.Frag} {H H' : Hp} (e : Same H H') : ∀ {vs : List V} {ds : List PyData}, DpAll K H vs ds → DpAll K H' vs ds
  | _, _, .nil => .nil
  | _, _, .cons h r => .cons (dp_same e h) (dpAll_same e r)
end
theorem dpAll_append {K : PySem.W.Frag} {H : Hp} : ∀ {vs us : List V} {ds es : List PyData}, DpAll K H vs ds → DpAll K H us es → DpAll K H (vs ++ us) (ds ++ es)
  | _, _, _, _, .nil, h => h
  | _, _, _, _, .cons h r, h' => .cons h (dpAll_append r h')
theorem dpAll_of {K : PySem.W.Frag} {H : Hp} {bs : List (V × PyData)} (h : ∀ b ∈ bs, Dp K H b.1 b.2) : DpAll K H (bs.map (·.1)) (bs.map (·.2)) := by
  induction bs with
  | nil => exact .nil
  | cons b r ih => exact .cons (h b List.mem_cons_self) (ih fun c hc => h c (List.mem_cons_of_mem _ hc))
/-! shaped data, part by part -/
theorem canAll_of {ds : List PyData} (h : ∀ d ∈ ds, PyData.canLay0 d = true) : PyData.canLayAll0 ds = true := by
  induction ds with
  | nil => rfl
  | cons d r ih =>
    show (PyData.canLay0 d && PyData.canLayAll0 r) = true
    rw [h d List.mem_cons_self, ih fun c hc => h c (List.mem_cons_of_mem _ hc)] <;> rfl
theorem depthAll_le {ds : List PyData} {n : Nat} (h : ∀ d ∈ ds, d.depth ≤ n) : PyData.depthAll ds ≤ n := by
  induction ds with
  | nil => exact Nat.zero_le _
  | cons d r ih =>
    show max d.depth (PyData.depthAll r) ≤ n
    have h1 := h d List.mem_cons_self
    have h2 := ih fun c hc => h c (List.mem_cons_of_mem _ hc)
    omega
theorem can_list {ds : List PyData} (h : ∀ d ∈ ds, PyData.canLay0 d = true) : PyData.canLay0 (.list ds) = true := canAll_of h
theorem can_tuple {ds : List PyData} (h : ∀ d ∈ ds, PyData.canLay0 d = true) : PyData.canLay0 (.tuple ds) = true := canAll_of h
theorem depth_list {ds : List PyData} {n : Nat} (h : ∀ d ∈ ds, d.depth ≤ n) : (PyData.list ds).depth ≤ n + 1 := Nat.succ_le_succ (depthAll_le h)
theorem depth_tuple {ds : List PyData} {n : Nat} (h : ∀ d ∈ ds, d.depth ≤ n) : (PyData.tuple ds).depth ≤ n + 1 := Nat.succ_le_succ (depthAll_le h)
theorem shaped_of {d : PyData} (h : PyData.canLay0 d = true) (hd : d.depth ≤ 64) : SeqAt.shaped d = true := by
  unfold SeqAt.shaped
  rw [h, decide_eq_true hd] <;> rfl
theorem eqvAll_self {ds : List PyData} (h : ∀ d ∈ ds, PyData.eqv d d = true) : PyData.eqvAll ds ds = true := by
  induction ds with
  | nil => rfl
  | cons d r ih =>
    show (PyData.eqv d d && PyData.eqvAll r r) = true
    rw [h d List.mem_cons_self, ih fun c hc => h c (List.mem_cons_of_mem _ hc)] <;> rfl
theorem eqv_list {ds : List PyData} (h : ∀ d ∈ ds, PyData.eqv d d = true) : PyData.eqv (.list ds) (.list ds) = true := eqvAll_self h
theorem eqv_tuple {ds : List PyData} (h : ∀ d ∈ ds, PyData.eqv d d = true) : PyData.eqv (.tuple ds) (.tuple ds) = true := eqvAll_self h
theorem eqv_int (i : Int) : PyData.eqv (.int i) (.int i) = true := by
  show (i == i) = true
  exact beq_self_eq_true i
theorem eqv_str (x : Str) : PyData.eqv (.str x) (.str x) = true := by
  show (x == x) = true
  exact beq_self_eq_true x
end WS
set_option maxRecDepth 100000
set_option maxHeartbeats 4000000
namespace WS
open PySem L2 SetT RevS
/-! data that lean on tuples alone -/
mutual
inductive Tp (H : Hp) : V → PyData → Prop
  | int (i : Int) : Tp H (.int i) (.int i)
  | str (x : Str) : Tp H (.str x) (.str x)
  | tup {a : Addr} {xs : List V} {ds : List PyData} (h : H a = some (.tup xs)) (r : TpAll H xs ds) : Tp H (.ref a) (.tuple ds)
inductive TpAll (H : Hp) : List V → List PyData → Prop
  | nil : TpAll H [] []
  | cons {v : V} {vs : List V} {d : PyData} {ds : List PyData} (h : Tp H v d) (r : TpAll H vs ds) : TpAll H (v :: vs) (d :: ds)
end
/-- what was a tuple is one still -/
def TupK (H H' : Hp) : Prop := ∀ a xs, H a = some (.tup xs) → H' a = some (.tup xs)
theorem TupK.of {H H' : Hp} (e : Same H H') : TupK H H' := fun a xs h => e _ _ h
theorem TupK.trans {H H1 H2 : Hp} (a : TupK H H1) (b : TupK H1 H2) : TupK H H2 := fun c xs h => b _ _ (a _ _ h)
theorem TupK.lst {H : Hp} {l : Addr} {xs : List V} {o : HO} (hl : H l = some (.lst xs)) : TupK H (upd H l o) := fun a ys h => by
  rw [upd_ne fun z => by rw [z, hl] at h; cases h]
  exact h
mutual
theorem Tp.keep {H H' : Hp} (e : TupK H H') : ∀ {v : V} {d : PyData}, Tp H v d → Tp H' v d
  | _, _, .int i => .int i
  | _, _, .str x => .str x
  | _, _, .tup h r => .tup (e _ _ h) (TpAll.keep e r)
theorem TpAll.keep {H H' : Hp} (e : TupK H H') : ∀ {vs : List V} {ds : List PyData}, TpAll H vs ds → TpAll H' vs ds
  | _, _, .nil => .nil
  | _, _, .cons h r => .cons (Tp.keep e h) (TpAll.keep e r)
end
mutual
theorem Tp.dp (K : PySem.W.Frag) {H : Hp} : ∀ {v : V} {d : PyData}, Tp H v d → Dp K H v d
  | _, _, .int i => .int i
  | _, _, .str x => .str x
  | _, _, .tup h r => .tup (SqT.of h) (TpAll.dp K r)
theorem TpAll.dp (K : PySem.W.Frag) {H : Hp} : ∀ {vs : List V} {ds : List PyData}, TpAll H vs ds → DpAll K H vs ds
  | _, _, .nil => .nil
  | _, _, .cons h r => .cons (Tp.dp K h) (TpAll.dp K r)
end
theorem TpAll.len {H : Hp} : ∀ {vs : List V} {ds : List PyData}, TpAll H vs ds → vs.length = ds.length
  | _, _, .nil => rfl
  | _, _, .cons _ r => congrArg (· + 1) r.len
theorem TpAll.append {H : Hp} : ∀ {vs us : List V} {ds es : List PyData}, TpAll H vs ds → TpAll H us es → TpAll H (vs ++ us) (ds ++ es)
  | _, _, _, _, .nil, h => h
  | _, _, _, _, .cons h r, h' => .cons h (r.append h')
theorem tp_ints {H : Hp} : ∀ ns : List Int, TpAll H (ns.map V.int) (ns.map PyData.int)
  | [] => .nil
  | n :: r => .cons (.int n) (tp_ints r)
theorem tp_strs {H : Hp} : ∀ ws : List Str, TpAll H (ws.map V.str) (ws.map PyData.str)
  | [] => .nil
  | n :: r => .cons (.str n) (tp_strs r)
/-- rows, each of them there -/
theorem tp_list {H : Hp} {α : Type} {g : α → PyData} : ∀ {rs : List Addr} {xs : List α}, rs.length = xs.length → (∀ (i : Nat) (r : Addr) (x : α), rs[i]? = some r → xs[i]? = some x → Tp H (.ref r) (g x)) → TpAll H (rs.map V.ref) (xs.map g)
  | [], [], _, _ => .nil
  | [], _ :: _, h, _ => by cases h
  | _ :: _, [], h, _ => by cases h
  | r :: rs, x :: xs, h, k => .cons (k 0 r x rfl rfl) (tp_list (rs := rs) (xs := xs) (by simpa using h) fun i r' x' a b => k (i + 1) r' x' a b)
theorem tp_ans {H : Hp} {rs : List Addr} {as : List (List Int)} (h : AnsAt H rs as) : TpAll H (rs.map V.ref) (as.map rowD) :=
  tp_list h.len fun i r x a b => .tup (h.get i r x a b) (tp_ints x)
/-! a table as data -/
mutual
def treeD : Tree → PyData
  | .cases c rows => .tuple [.str "cases", .str ⟨#[c]⟩, .tuple (rowsTD rows)]
  | .so i p t => .tuple [.str "so", .int (i : Nat), .int (p : Nat), treeD t]
  | .taken i p => .tuple [.str "taken", .int (i : Nat), .int (p : Nat)]
  | .off i p => .tuple [.str "off", .int (i : Nat), .int (p : Nat)]
  | .over i => .tuple [.str "over", .int (i : Nat)]
  | .answer => .tuple [.str "answer"]
def rowsTD : List (Int × Tree) → List PyData
  | [] => []
  | (v, t) :: r => .tuple [.int v, treeD t] :: rowsTD r
end
theorem tp_rows {H : Hp} : ∀ {rows : List (Int × Tree)} {rs : List Addr} {ws : Nat → V}, rs.length = rows.length → (∀ (i : Nat) (r : Addr) (x : Int × Tree), rs[i]? = some r → rows[i]? = some x → H r = some (.tup [.int x.1, ws i])) →
    (∀ (i : Nat) (x : Int × Tree), rows[i]? = some x → Tp H (ws i) (treeD x.2)) → TpAll H (rs.map V.ref) (rowsTD rows)
  | [], [], _, _, _, _ => by simp only [rowsTD]; exact .nil
  | [], _ :: _, _, h, _, _ => by cases h
  | _ :: _, [], _, h, _, _ => by cases h
  | (v, t) :: rows, r :: rs, ws, h, hr, hw => by
    simp only [rowsTD]
    refine .cons (.tup (hr 0 r (v, t) rfl rfl) (.cons (.int v) (.cons (hw 0 (v, t) rfl) .nil))) ?_
    exact tp_rows (rows := rows) (rs := rs) (ws := fun i => ws (i + 1)) (by simpa using h) (fun i r' x a b => hr (i + 1) r' x a b) fun i x b => hw (i + 1) x b
theorem tp_tree {H : Hp} {v : V} {t : Tree} (h : TreeAt H v t) : Tp H v (treeD t) := by
  induction h with
  | answer h => simp only [treeD]; exact .tup h (.cons (.str _) .nil)
  | over h => simp only [treeD]; exact .tup h (.cons (.str _) (.cons (.int _) .nil))
  | off h => simp only [treeD]; exact .tup h (.cons (.str _) (.cons (.int _) (.cons (.int _) .nil)))
  | taken h => simp only [treeD]; exact .tup h (.cons (.str _) (.cons (.int _) (.cons (.int _) .nil)))
  | so h _ ih => simp only [treeD]; exact .tup h (.cons (.str _) (.cons (.int _) (.cons (.int _) (.cons ih .nil))))
  | cases h hq hl hr _ ih => simp only [treeD]; exact .tup h (.cons (.str _) (.cons (.str _) (.cons (.tup hq (tp_rows hl hr ih)) .nil)))
/-! its shape -/
theorem depth_cons {d : PyData} {ds : List PyData} : PyData.depthAll (d :: ds) = max d.depth (PyData.depthAll ds) := by simp [PyData.depthAll]
mutual
theorem treeD_depth : ∀ t : Tree, (treeD t).depth ≤ 3 * tdepth t
  | .cases c rows => by
    have := rowsTD_depth rows
    simp only [treeD, tdepth, PyData.depth, depth_cons, PyData.depthAll]
    omega
  | .so i p t => by
    have := treeD_depth t
    simp only [treeD, tdepth, PyData.depth, depth_cons, PyData.depthAll]
    omega
  | .taken i p => by simp [treeD, tdepth, PyData.depth, PyData.depthAll]
  | .off i p => by simp [treeD, tdepth, PyData.depth, PyData.depthAll]
  | .over i => by simp [treeD, tdepth, PyData.depth, PyData.depthAll]
  | .answer => by simp [treeD, tdepth, PyData.depth, PyData.depthAll]
theorem rowsTD_depth : ∀ rows : List (Int × Tree), PyData.depthAll (rowsTD rows) ≤ 3 * rdepth rows + 1
  | [] => by simp [rowsTD, PyData.depthAll]
  | (v, t) :: r => by
    have h1 := treeD_depth t
    have h2 := rowsTD_depth r
    simp only [rowsTD, rdepth, PyData.depth, depth_cons, PyData.depthAll]
    omega
end
mutual
theorem eqv_tree : ∀ t : Tree, PyData.eqv (treeD t) (treeD t) = true
  | .cases c rows => by
    have := eqv_rowsT rows
    simp [treeD, PyData.eqv, PyData.eqvAll, this]
  | .so i p t => by
    have := eqv_tree t
    simp [treeD, PyData.eqv, PyData.eqvAll, this]
  | .taken i p => by simp [treeD, PyData.eqv, PyData.eqvAll]
  | .off i p => by simp [treeD, PyData.eqv, PyData.eqvAll]
  | .over i => by simp [treeD, PyData.eqv, PyData.eqvAll]
  | .answer => by simp [treeD, PyData.eqv, PyData.eqvAll]
theorem eqv_rowsT : ∀ rows : List (Int × Tree), PyData.eqvAll (rowsTD rows) (rowsTD rows) = true
  | [] => by simp [rowsTD, PyData.eqvAll]
  | (v, t) :: r => by
    have h1 := eqv_tree t
    have h2 := eqv_rowsT r
    simp [rowsTD, PyData.eqv, PyData.eqvAll, h1, h2]
end
/-- its letters are low -/
def lowT : Tree → Prop
  | .cases c rows => c < 0x110000 ∧ lowR rows
  | .so _ _ t => lowT t
  | _ => True
where lowR : List (Int × Tree) → Prop
  | [] => True
  | (_, t) :: r => lowT t ∧ lowR r
theorem can_sg {c : Nat} (h : c < 0x110000) : PyData.canLay0 (.str ⟨#[c]⟩) = true := by
  show PyData.strOk _ = true
  unfold PyData.strOk
  simpa using h
theorem can_cases : PyData.canLay0 (.str "cases") = true := by decide +kernel
theorem can_so : PyData.canLay0 (.str "so") = true := by decide +kernel
theorem can_taken : PyData.canLay0 (.str "taken") = true := by decide +kernel
theorem can_off : PyData.canLay0 (.str "off") = true := by decide +kernel
theorem can_over : PyData.canLay0 (.str "over") = true := by decide +kernel
theorem can_answer : PyData.canLay0 (.str "answer") = true := by decide +kernel
theorem can_cons {d : PyData} {ds : List PyData} : PyData.canLayAll0 (d :: ds) = (d.canLay0 && PyData.canLayAll0 ds) := by simp [PyData.canLayAll0]
mutual
theorem treeD_can : ∀ t : Tree, lowT t → PyData.canLay0 (treeD t) = true
  | .cases c rows, h => by
    have h1 := rowsTD_can rows h.2
    have h2 := can_sg h.1
    show PyData.canLayAll0 [.str "cases", .str ⟨#[c]⟩, .tuple (rowsTD rows)] = true
    rw [can_cons, can_cons, can_cons, can_cases, h2, show PyData.canLay0 (.tuple (rowsTD rows)) = PyData.canLayAll0 (rowsTD rows) from rfl, h1] <;> rfl
  | .so i p t, h => by
    have h1 := treeD_can t h
    show PyData.canLayAll0 [.str "so", .int (i : Nat), .int (p : Nat), treeD t] = true
    rw [can_cons, can_cons, can_cons, can_cons, can_so, h1] <;> rfl
  | .taken i p, _ => by
    show PyData.canLayAll0 [.str "taken", .int (i : Nat), .int (p : Nat)] = true
    rw [can_cons, can_taken] <;> rfl
  | .off i p, _ => by
    show PyData.canLayAll0 [.str "off", .int (i : Nat), .int (p : Nat)] = true
    rw [can_cons, can_off] <;> rfl
  | .over i, _ => by
    show PyData.canLayAll0 [.str "over", .int (i : Nat)] = true
    rw [can_cons, can_over] <;> rfl
  | .answer, _ => by
    show PyData.canLayAll0 [.str "answer"] = true
    rw [can_cons, can_answer] <;> rfl
theorem rowsTD_can : ∀ rows : List (Int × Tree), lowT.lowR rows → PyData.canLayAll0 (rowsTD rows) = true
  | [], _ => by simp [rowsTD, PyData.canLayAll0]
  | (v, t) :: r, h => by
    have h1 := treeD_can t h.1
    have h2 := rowsTD_can r h.2
    simp only [rowsTD]
    rw [can_cons, h2, Bool.and_true]
    show PyData.canLayAll0 [.int v, treeD t] = true
    rw [can_cons, can_cons, h1] <;> rfl
end
theorem lowR_map {α : Type} {l : List α} {g : α → Int × Tree} (h : ∀ x ∈ l, lowT (g x).2) : lowT.lowR (l.map g) := by
  induction l with
  | nil => trivial
  | cons x r ih => exact ⟨h x List.mem_cons_self, ih fun y hy => h y (List.mem_cons_of_mem _ hy)⟩
theorem read_low {b : Int} {fs : List Nat} : ∀ (ps : List Stp) (fg : Figs) (k : Int), (∀ c ∈ metL ps, c < 0x110000) → lowT (readT b fs ps fg k)
  | [], _, _, _ => trivial
  | .cases c :: r, fg, k, h => ⟨h c (by simp [metL]), lowR_map fun v _ => read_low r _ _ fun d hd => h d (by simp [metL, hd])⟩
  | .col false i p added en :: r, fg, k, h => by
    have e1 : readT b fs (.col false i p added en :: r) fg k = if colSum fg k added % b = endFig fg en then readT b fs r fg (colSum fg k added / b) else .off i p := rfl
    rw [e1]
    split
    · exact read_low r _ _ fun d hd => h d (by simp [metL, hd])
    · trivial
  | .col true i p added en :: r, fg, k, h => by
    have e1 : readT b fs (.col true i p added en :: r) fg k = if colSum fg k added % b ∈ freeF b fs (en.getD 0) fg then .so i p (readT b fs r (fg ++ [(en.getD 0, colSum fg k added % b)]) (colSum fg k added / b)) else .taken i p := rfl
    rw [e1]
    split
    · exact read_low r _ _ fun d hd => h d (by simp [metL, hd])
    · trivial
  | .over i :: r, fg, k, h => by
    have e1 : readT b fs (.over i :: r) fg k = if k = 0 then readT b fs r fg 0 else .over i := rfl
    rw [e1]
    split
    · exact read_low r _ _ fun d hd => h d (by simp [metL, hd])
    · trivial
  | .answer :: r, fg, k, _ => trivial
theorem table_low {b : Int} {ss : List WSum} (V : Valid b ss) : lowT (tableOf b ss) := by
  unfold tableOf
  refine read_low _ _ _ fun c hc => ?_
  rw [steps_met V] at hc
  exact abc_low (lettersOf_abc V c (dd_mem.mp hc))
theorem tableD_shape {b : Int} {ss : List WSum} (V : Valid b ss) : PyData.canLay0 (treeD (tableOf b ss)) = true ∧ (treeD (tableOf b ss)).depth ≤ 27 := by
  refine ⟨treeD_can _ (table_low V), ?_⟩
  have h1 := treeD_depth (tableOf b ss)
  have h2 : tdepth (tableOf b ss) ≤ 9 := table_depth V
  omega
end WS
set_option maxRecDepth 100000
set_option maxHeartbeats 4000000
/-! sorted(xs) of lists that read as data, any number of items -/
namespace SortD
open PySem PySem.Spec PyProof.Rows L2
abbrev It := V × PyData
def sortB (bs : List It) : List It := bs.mergeSort (PySem.W.dataLe false (Prod.snd : It → PyData))
def rSortD (K : PySem.W.Frag) : List V → Hp → VK → Prop := fun vs H Q => ∃ (a : Addr) (bs : List It), vs = [V.ref a] ∧ SqL K H a (bs.map (·.1)) ∧ (∀ b ∈ bs, Dp K H b.1 b.2) ∧
  PySem.W.AllAlike (bs.map (·.2)) ∧ PySem.W.Sortable (bs.map (·.2)) ∧ (∀ b ∈ bs, b.2.depth ≤ 20) ∧ ∀ (p : Addr), H p = none → Q (.ref p) (upd H p (.lst ((sortB bs).map (·.1))))
theorem each_of_vals {α : Type} {f : α → V} : ∀ {bs : List α} {us : List Value}, Vals (bs.map f) us → PySem.W.EachIs (fun v b => RelV (f b) v) us bs
  | [], us, h => by cases h; exact .nil
  | b :: r, us, h => by
    cases h with
    | cons h1 h2 => exact .cons h1 (each_of_vals h2)
theorem vals_of_each {α : Type} {f : α → V} : ∀ {bs : List α} {us : List Value}, PySem.W.EachIs (fun v b => RelV (f b) v) us bs → Vals (bs.map f) us
  | _, _, .nil => .nil
  | _, _, .cons h1 h2 => .cons h1 (vals_of_each h2)
theorem each_and {α β : Type} {R S : α → β → Prop} : ∀ {as : List α} {bs : List β}, PySem.W.EachIs R as bs → (∀ b ∈ bs, ∀ a, R a b → S a b) → PySem.W.EachIs S as bs
  | _, _, .nil, _ => .nil
  | _, _, .cons h1 t, h => .cons (h _ List.mem_cons_self _ h1) (each_and t fun b hb => h b (List.mem_cons_of_mem _ hb))
section
variable {X : Cx}
theorem cr_sortD (hu : X.A.units + 64 < cLine) : CallR X (.builtin "sorted") (rSortD X.K) := by
  intro pins s σ H vs us Q I r h
  obtain ⟨a, bs, rfl, hs, hd, hal, hk, hdp, q⟩ := h
  obtain ⟨its, rv, hl, hz⟩ := I.list hs
  rw [Vals.ref1 r]
  have e0 := each_of_vals rv
  have er : PySem.W.EachIs (fun v (b : It) => ∃ as, Reads s.heap v b.2 as) its bs := each_and e0 fun b hb v hv => Dp.reads I b.2 b.1 v (hd b hb) hv
  have hlen : bs.length ≤ sizeLine := by rw [List.length_map] at hz; exact hz
  refine PySem.W.sorted_data (R := fun v (b : It) => RelV b.1 v) (enc := Prod.snd) hl.isList e0 er hal hk hlen (fun b hb => by have := hdp b hb; omega) fun out h1 h2 => ?_
  obtain ⟨ep, he'⟩ := PyProof.Rows.sortedAll_at s.heap its out.toArray
  have hlen2 : ((sortB bs).map (·.1)).length ≤ sizeLine := by
    unfold sortB
    rw [List.length_map, List.length_mergeSort]
    exact hlen
  exact ⟨.ref _, upd H (s.heap.objs.size + 1) (.lst ((sortB bs).map (·.1))), I.laid (t' := s.toks) (fun _ _ => PyProof.Rows.sortedAll_old) (Nat.le_succ _) ⟨hlen2, out, ep, vals_of_each h2, he'⟩, rfl, q _ (I.hok.fresh (Nat.le_succ _))⟩
end
/-- the data of what comes out, by the data alone -/
theorem sortB_data (bs : List It) : (sortB bs).map (·.2) = (bs.map (·.2)).mergeSort (PySem.W.dataLe false (id : PyData → PyData)) :=
  PySem.W.sort_maps (fun b : It => b.2) fun _ _ _ _ => rfl
theorem sortB_perm (bs : List It) : (sortB bs).Perm bs := List.mergeSort_perm _ _
/-- two lists of the same data, however they stand, come out alike -/
theorem sort_same {as bs : List PyData} (h : as.Perm bs) (inj : ∀ a ∈ as, ∀ b ∈ as, PySem.W.keyToks a = PySem.W.keyToks b → a = b) :
    as.mergeSort (PySem.W.dataLe false (id : PyData → PyData)) = bs.mergeSort (PySem.W.dataLe false (id : PyData → PyData)) := by
  have T := PySem.W.sortLe_total (PyProof.Rows.listOrd itemOrd) false (fun b : PyData => PySem.W.keyToks (id b))
  refine List.Perm.eq_of_pairwise (le := fun a b => PySem.W.dataLe false (id : PyData → PyData) a b = true) (fun a b ha hb h1 h2 => ?_) (PySem.W.sort_pairwise T as) (PySem.W.sort_pairwise T bs) (((List.mergeSort_perm _ _).trans h).trans (List.mergeSort_perm _ _).symm)
  have ha' := (List.mergeSort_perm _ _).subset ha
  have hb' := h.symm.subset ((List.mergeSort_perm _ _).subset hb)
  refine inj a ha' b hb' ((PyProof.Rows.listOrd itemOrd).total _ _ ?_ ?_)
  · have : (!(PyProof.Rows.listOrd itemOrd).blt (PySem.W.keyToks a) (PySem.W.keyToks b)) = true := h2
    simpa using this
  · have : (!(PyProof.Rows.listOrd itemOrd).blt (PySem.W.keyToks b) (PySem.W.keyToks a)) = true := h1
    simpa using this
end SortD
set_option maxRecDepth 100000
set_option maxHeartbeats 4000000
namespace WS
open PySem L2 SetT RevS
/-! ### as data, sorted -/
def pairD (p : Nat × Int) : PyData := .tuple [.str ⟨#[p.1]⟩, .int p.2]
def sortP (l : List (Nat × Int)) : List (Nat × Int) := l.mergeSort fun a b => PySem.W.dataLe false (id : PyData → PyData) (pairD a) (pairD b)
theorem sortP_data (l : List (Nat × Int)) : (l.map pairD).mergeSort (PySem.W.dataLe false (id : PyData → PyData)) = (sortP l).map pairD := (PySem.W.sort_maps pairD fun _ _ _ _ => rfl).symm
theorem sortP_perm (l : List (Nat × Int)) : (sortP l).Perm l := List.mergeSort_perm _ _
theorem toks_pair (p : Nat × Int) : PySem.W.keyToks (pairD p) = [.inl 1, .inr [p.1], .inl 1, .inl p.2, .inl 0] := rfl
theorem toks_inj {p q : Nat × Int} (h : PySem.W.keyToks (pairD p) = PySem.W.keyToks (pairD q)) : p = q := by
  rw [toks_pair, toks_pair] at h
  obtain ⟨a, b⟩ := p
  obtain ⟨c, d⟩ := q
  simp at h
  obtain ⟨rfl, rfl⟩ := h
  rfl
theorem toks_rows : ∀ {xs ys : List (Nat × Int)}, PySem.W.keyToks (.list (xs.map pairD)) = PySem.W.keyToks (.list (ys.map pairD)) → xs = ys
  | [], [], _ => rfl
  | [], y :: r, h => by
    have h' : ([.inl 0] : List (Int ⊕ List Nat)) = .inl 1 :: (PySem.W.keyToks (pairD y) ++ PySem.W.keyToksAll (r.map pairD)) := h
    have := (List.cons.inj h').1
    cases this
  | x :: r, [], h => by
    have h' : (.inl 1 :: (PySem.W.keyToks (pairD x) ++ PySem.W.keyToksAll (r.map pairD)) : List (Int ⊕ List Nat)) = [.inl 0] := h
    have := (List.cons.inj h').1
    cases this
  | x :: r, y :: t, h => by
    have h' : (.inl 1 :: (PySem.W.keyToks (pairD x) ++ PySem.W.keyToksAll (r.map pairD)) : List (Int ⊕ List Nat)) = .inl 1 :: (PySem.W.keyToks (pairD y) ++ PySem.W.keyToksAll (t.map pairD)) := h
    have h2 := (List.cons.inj h').2
    have h3 := List.append_inj h2 (by rw [toks_pair, toks_pair] <;> rfl)
    rw [toks_inj h3.1, toks_rows (xs := r) (ys := t) h3.2]
theorem sortP_same {xs ys : List (Nat × Int)} (h : xs.Perm ys) : sortP xs = sortP ys := by
  have e := SortD.sort_same (h.map pairD) fun a ha b hb k => by
    obtain ⟨p, _, rfl⟩ := List.mem_map.mp ha
    obtain ⟨q, _, rfl⟩ := List.mem_map.mp hb
    rw [toks_inj k]
  rw [sortP_data, sortP_data] at e
  have : ∀ {xs ys : List (Nat × Int)}, xs.map pairD = ys.map pairD → xs = ys := fun {xs ys} h => toks_rows (by rw [h])
  exact this e
end WS
set_option maxRecDepth 100000
set_option maxHeartbeats 4000000
namespace WS
open PySem L2 SetT RevS
open SortD (sortB sortB_data sortB_perm)
/-- tuples of a letter and its figure -/
structure PrAt (H : Hp) (ts : List Addr) (ps : List (Nat × Int)) : Prop where
  len : ts.length = ps.length
  get : ∀ (i : Nat) (t : Addr) (p : Nat × Int), ts[i]? = some t → ps[i]? = some p → H t = some (.tup [sg p.1, .int p.2])
section
variable {K : PySem.W.Frag} {H H' : Hp} {ts : List Addr} {ps : List (Nat × Int)}
theorem PrAt.same (h : PrAt H ts ps) (e : Same H H') : PrAt H' ts ps := ⟨h.len, fun i t p a b => e _ _ (h.get i t p a b)⟩
theorem PrAt.lstmut (h : PrAt H ts ps) {l : Addr} {xs : List V} {o : HO} (hl : H l = some (.lst xs)) : PrAt (upd H l o) ts ps := ⟨h.len, fun i t p a b => by
  have := h.get i t p a b
  rw [upd_ne fun z => by rw [z, hl] at this; cases this]
  exact this⟩
theorem PrAt.snoc (h : PrAt H ts ps) {t : Addr} {p : Nat × Int} (ht : H t = some (.tup [sg p.1, .int p.2])) : PrAt H (ts ++ [t]) (ps ++ [p]) := by
  refine ⟨by rw [List.length_append, List.length_append, h.len] <;> rfl, fun i t' p' a b => ?_⟩
  by_cases hi : i < ts.length
  · rw [List.getElem?_append_left hi] at a
    rw [List.getElem?_append_left (h.len ▸ hi)] at b
    exact h.get i t' p' a b
  · rw [List.getElem?_append_right (by omega)] at a
    rw [List.getElem?_append_right (by have := h.len; omega), ← h.len] at b
    rcases hj : i - ts.length with _ | j
    · rw [hj] at a b
      have e1 : t = t' := Option.some.inj a
      have e2 : p = p' := Option.some.inj b
      rw [← e1, ← e2]; exact ht
    · rw [hj] at a; simp at a
theorem PrAt.dpAll (K : PySem.W.Frag) : ∀ {ts : List Addr} {ps : List (Nat × Int)}, PrAt H ts ps → DpAll K H (ts.map V.ref) (ps.map pairD)
  | [], [], _ => .nil
  | [], _ :: _, h => by have := h.len; simp at this
  | _ :: _, [], h => by have := h.len; simp at this
  | t :: ts, p :: ps, h => .cons (.tup (SqT.of (h.get 0 t p rfl rfl)) (.cons (.str _) (.cons (.int _) .nil))) (PrAt.dpAll K (ts := ts) (ps := ps) ⟨by have := h.len; simpa using this, fun i t' p' a b => h.get (i + 1) t' p' a b⟩)
/-- the same as items -/
def prIt (ts : List Addr) (ps : List (Nat × Int)) : List SortD.It := (ts.zip ps).map fun q => (V.ref q.1, pairD q.2)
theorem prIt_fst (h : ts.length = ps.length) : (prIt ts ps).map (·.1) = ts.map V.ref := by
  unfold prIt
  rw [List.map_map]
  have : (ts.zip ps).map Prod.fst = ts := List.map_fst_zip (by omega)
  conv => rhs; rw [← this, List.map_map]
  rfl
theorem prIt_snd (h : ts.length = ps.length) : (prIt ts ps).map (·.2) = ps.map pairD := by
  unfold prIt
  rw [List.map_map]
  have : (ts.zip ps).map Prod.snd = ps := List.map_snd_zip (by omega)
  conv => rhs; rw [← this, List.map_map]
  rfl
theorem PrAt.item (h : PrAt H ts ps) {b : SortD.It} (hb : b ∈ prIt ts ps) : ∃ t p, b = (V.ref t, pairD p) ∧ H t = some (.tup [sg p.1, .int p.2]) := by
  obtain ⟨q, hq, rfl⟩ := List.mem_map.mp hb
  obtain ⟨i, hi⟩ := List.mem_iff_getElem?.mp hq
  refine ⟨q.1, q.2, rfl, ?_⟩
  rw [List.getElem?_zip_eq_some] at hi
  exact h.get i q.1 q.2 hi.1 hi.2
theorem pairD_inj {p q : Nat × Int} (h : pairD p = pairD q) : p = q := toks_inj (by rw [h])
theorem prAt_of : ∀ {bs : List SortD.It} {ps : List (Nat × Int)}, (∀ b ∈ bs, ∃ t p, b = (V.ref t, pairD p) ∧ H t = some (.tup [sg p.1, .int p.2])) → bs.map (·.2) = ps.map pairD → ∃ ts, bs.map (·.1) = ts.map V.ref ∧ PrAt H ts ps
  | [], [], _, _ => ⟨[], rfl, rfl, fun i t p a b => by simp at a⟩
  | [], _ :: _, _, e => by cases e
  | _ :: _, [], _, e => by cases e
  | b :: bs, p :: ps, h, e => by
    obtain ⟨ts, e1, h1⟩ := prAt_of (bs := bs) (ps := ps) (fun c hc => h c (List.mem_cons_of_mem _ hc)) (List.cons.inj e).2
    obtain ⟨t, p', rfl, ht⟩ := h b List.mem_cons_self
    have hp : p' = p := pairD_inj (List.cons.inj e).1
    subst hp
    refine ⟨t :: ts, by rw [List.map_cons, List.map_cons, e1], by rw [List.length_cons, List.length_cons, h1.len], fun i t' q a b => ?_⟩
    cases i with
    | zero => cases Option.some.inj a; cases Option.some.inj b; exact ht
    | succ i => exact h1.get i t' q a b
end
theorem alike_pair (p q : Nat × Int) : PySem.W.alike (pairD p) (pairD q) = true := rfl
theorem alike_rows : ∀ xs ys : List (Nat × Int), PySem.W.alikeAll (xs.map pairD) (ys.map pairD) = true
  | [], _ => by simp [PySem.W.alikeAll]
  | _ :: _, [] => by simp [PySem.W.alikeAll]
  | x :: xs, y :: ys => by
    show PySem.W.alikeAll (pairD x :: xs.map pairD) (pairD y :: ys.map pairD) = true
    rw [PySem.W.alikeAll, alike_rows xs ys, alike_pair] <;> rfl
theorem pair_depth (p : Nat × Int) : (pairD p).depth = 1 := rfl
end WS
set_option maxRecDepth 100000
set_option maxHeartbeats 4000000
/-! dicts whose keys are a number and a tuple of numbers, their values numbers -/
namespace ND
open PySem PySem.Spec PyProof.Rows L2
abbrev Way := Int × List Int
def nums (ns : List Int) : List NestedKey := ns.map .num
def nkey (x : Way) : NestedKey := .tup [.num x.1, .tup (nums x.2)]
theorem nums_inj : ∀ {a b : List Int}, nums a = nums b → a = b
  | [], [], _ => rfl
  | [], _ :: _, h => by cases h
  | _ :: _, [], h => by cases h
  | x :: a, y :: b, h => by
    have h : NestedKey.num x :: nums a = NestedKey.num y :: nums b := h
    injection h with h1 h2
    injection h1 with h1
    rw [h1, nums_inj h2]
theorem nkey_inj {x y : Way} (h : nkey x = nkey y) : x = y := by
  unfold nkey at h
  injection h with h
  injection h with h1 h2
  injection h1 with h1
  injection h2 with h2 _
  injection h2 with h2
  exact Prod.ext h1 (nums_inj h2)
theorem nums_depth : ∀ ns : List Int, NestedKey.depthAll (nums ns) = 0
  | [] => rfl
  | x :: r => by
    show max 0 (NestedKey.depthAll (nums r)) = 0
    rw [nums_depth r] <;> rfl
theorem nkey_depth (x : Way) : (nkey x).depth ≤ 8 := by
  show max 0 (max (NestedKey.depthAll (nums x.2) + 1) 0) + 1 ≤ 8
  rw [nums_depth]
  decide
abbrev Kvs := List (Way × Addr × Int)
/-- entry for entry -/
def RelN (p : Way × Addr × Int) (q : NestedKey × Addr × Value) : Prop := q.1 = nkey p.1 ∧ q.2.1 = p.2.1 ∧ ∃ t, q.2.2 = .int p.2.2 t
def DictN (P : Program) (w : World) (a : Addr) (kvs : Kvs) : HO := .ext fun h => kvs.length ≤ sizeLine ∧ (a == sysModules) = false ∧
  ∃ (xs : List (NestedKey × Addr × Value)) (o : Obj) (es : Array DictEntry) (ep : Nat), Paired RelN kvs xs ∧ h.get? a = some o ∧ o.ExactDict ∧ o.data = .dict es ep ∧ es.toList = xs.map (entryOfKey (nestedKind P w)) ∧ (xs.map (·.1)).Nodup
/-- the key's own tuples -/
def KeyAt (H : Hp) (x : Way) (b : Addr) : Prop := ∃ u, H b = some (.tup [.int x.1, .ref u]) ∧ H u = some (.tup (x.2.map V.int))
def KeysAt (H : Hp) (kvs : Kvs) : Prop := ∀ p ∈ kvs, KeyAt H p.1 p.2.1
theorem KeyAt.same {H H' : Hp} {x : Way} {b : Addr} (k : KeyAt H x b) (e : ∀ c xs, H c = some (.tup xs) → H' c = some (.tup xs)) : KeyAt H' x b := by
  obtain ⟨u, h1, h2⟩ := k
  exact ⟨u, e _ _ h1, e _ _ h2⟩
theorem KeysAt.same {H H' : Hp} {kvs : Kvs} (k : KeysAt H kvs) (e : ∀ c xs, H c = some (.tup xs) → H' c = some (.tup xs)) : KeysAt H' kvs := fun p hp => (k p hp).same e
def valN (kvs : Kvs) (x : Way) : Option Int := (kvs.find? fun p => decide (p.1 = x)).map (·.2.2)
def putN (kvs : Kvs) (x : Way) (b : Addr) (n : Int) : Kvs := if (valN kvs x).isSome then kvs.map fun p => if p.1 = x then (p.1, p.2.1, n) else p else kvs ++ [(x, b, n)]
theorem putN_len (kvs : Kvs) (x : Way) (b : Addr) (n : Int) : (putN kvs x b n).length ≤ kvs.length + 1 := by
  unfold putN
  split
  · rw [List.length_map]; omega
  · rw [List.length_append] <;> exact Nat.le_refl _
theorem vals_nums {h : Heap} : ∀ {ns : List Int} {us : List Value}, Vals (ns.map V.int) us → NestedAll h (nums ns) us
  | [], _, .nil => .nil
  | n :: r, _, .cons ⟨t, e⟩ rr => by
    rw [e]
    exact .cons (.int n t) (vals_nums rr)
section
variable {P : Program} {w : World} {H : Hp} {h : Heap}
theorem key_is (ok : HOk P w H h) {x : Way} {b : Addr} (k : KeyAt H x b) : (nestedKind P w).is h (nkey x) b := by
  obtain ⟨u, h1, h2⟩ := k
  obtain ⟨_, is1, r1, o1, e1, c1, n1, d1⟩ := (show ObjOk P w H h b (.tup _) from ok b _ h1)
  obtain ⟨_, is2, r2, o2, e2, c2, n2, d2⟩ := (show ObjOk P w H h u (.tup _) from ok u _ h2)
  refine ⟨.tup e1 c1 d1 ?_, nkey_depth x⟩
  have e0 : is1.toArray.toList = is1 := by simp
  rw [e0]
  cases r1 with
  | cons ra rr =>
    cases rr with
    | cons rb rc =>
      cases rc
      obtain ⟨t, rfl⟩ := ra
      cases rb
      exact .cons (.int _ t) (.cons (.tup e2 c2 d2 (by rw [show is2.toArray.toList = is2 by simp]; exact vals_nums r2)) .nil)
theorem relN_all {kvs : Kvs} {xs : List (NestedKey × Addr × Value)} (r : Paired RelN kvs xs) {q : NestedKey × Addr × Value} (hq : q ∈ xs) : ∃ p ∈ kvs, RelN p q := by
  induction r with
  | nil => cases hq
  | cons ra _ ih =>
    rcases List.mem_cons.mp hq with rfl | hq
    · exact ⟨_, List.mem_cons_self, ra⟩
    · obtain ⟨p, hp, r⟩ := ih hq
      exact ⟨p, List.mem_cons_of_mem _ hp, r⟩
/-- the dict in the heap -/
structure InHeap (P : Program) (w : World) (h : Heap) (a : Addr) (kvs : Kvs) (xs : List (NestedKey × Addr × Value)) : Prop where
  len : kvs.length ≤ sizeLine
  sys : (a == sysModules) = false
  rel : Paired RelN kvs xs
  dic : h.DictOfH (nestedKind P w) a xs
theorem inHeap (ok : HOk P w H h) {a : Addr} {kvs : Kvs} (e : Rd H a (DictN P w a kvs)) (k : KeysAt H kvs) : ∃ xs, InHeap P w h a kvs xs := by
  obtain ⟨⟨l, sy, xs, o, es, ep, r, h1, h2, h3, h4, h5⟩, _, _⟩ := (show ObjOk P w H h a (DictN P w a kvs) from e.ok ok)
  refine ⟨xs, l, sy, r, o, es, ep, h1, h2, h3, h4, fun q hq => ?_, h5⟩
  obtain ⟨p, hp, e1, e2, _⟩ := relN_all r hq
  rw [e1, e2]
  exact key_is ok (k p hp)
theorem objOk_N {a : Addr} {kvs : Kvs} {xs : List (NestedKey × Addr × Value)} (x : InHeap P w h a kvs xs) : ObjOk P w H h a (DictN P w a kvs) := by
  obtain ⟨l, sy, r, o, es, ep, h1, h2, h3, h4, _, h5⟩ := x
  exact ⟨⟨l, sy, xs, o, es, ep, r, h1, h2, h3, h4, h5⟩, ⟨o, h1⟩, fun g1 g2 ⟨l, sy, xs, o, es, ep, r, h1, h2, h3, h4, h5⟩ st => ⟨l, sy, xs, o, es, ep, r, st _ h1, h2, h3, h4, h5⟩⟩
end
theorem relN_at {kvs : Kvs} {xs : List (NestedKey × Addr × Value)} (r : Paired RelN kvs xs) (x : Way) : (valN kvs x).isSome = (atKey xs (nkey x)).isSome ∧ ∀ n, valN kvs x = some n → ∃ b t, atKey xs (nkey x) = some (b, .int n t) := by
  induction r with
  | nil => exact ⟨rfl, fun n h => by cases h⟩
  | @cons p q ps qs ra _ ih =>
    obtain ⟨e1, e2, t, e3⟩ := ra
    by_cases h : p.1 = x
    · have h1 : valN (p :: ps) x = some p.2.2 := by simp [valN, List.find?_cons, h]
      have h2 : atKey (q :: qs) (nkey x) = some q.2 := by simp [atKey, List.find?_cons, e1, h]
      rw [h1, h2]
      refine ⟨rfl, fun n hn => ⟨q.2.1, t, ?_⟩⟩
      cases hn
      rw [← e3]
    · have h1 : valN (p :: ps) x = valN ps x := by simp [valN, List.find?_cons, h]
      have hq : ¬ q.1 = nkey x := fun z => h (nkey_inj (e1.symm.trans z))
      have h2 : atKey (q :: qs) (nkey x) = atKey qs (nkey x) := by simp [atKey, List.find?_cons, hq]
      rw [h1, h2]
      exact ih
theorem relN_put {kvs : Kvs} {xs : List (NestedKey × Addr × Value)} (r : Paired RelN kvs xs) (x : Way) (b : Addr) (n : Int) (t : Tok) : Paired RelN (putN kvs x b n) (storedH xs (nkey x) b (.int n t)) := by
  have e := (relN_at r x).1
  unfold putN storedH
  rw [e]
  by_cases h : (atKey xs (nkey x)).isSome = true
  · rw [if_pos h, if_pos h]
    clear e h
    induction r with
    | nil => exact .nil
    | @cons p q ps qs ra _ ih =>
      rw [List.map_cons, List.map_cons]
      refine .cons ?_ ih
      obtain ⟨e1, e2, t', e3⟩ := ra
      unfold putAt
      by_cases hx : p.1 = x
      · rw [if_pos hx, if_pos (by rw [e1, hx])]
        exact ⟨e1, e2, t, rfl⟩
      · rw [if_neg hx, if_neg (fun z => hx (nkey_inj (e1.symm.trans z)))]
        exact ⟨e1, e2, t', e3⟩
  · rw [if_neg h, if_neg h]
    exact Paired.snoc r ⟨rfl, rfl, t, rfl⟩
theorem relN_get {kvs : Kvs} {xs : List (NestedKey × Addr × Value)} (r : Paired RelN kvs xs) : ∀ {i : Nat} {p : Way × Addr × Int}, kvs[i]? = some p → ∃ q, xs[i]? = some q ∧ RelN p q := by
  induction r with
  | nil => intro i p h; simp at h
  | cons ra _ ih =>
    intro i p h
    cases i with
    | zero => cases Option.some.inj h; exact ⟨_, rfl, ra⟩
    | succ i => exact ih h
/-! ### rules -/
section
variable {X : Cx}
def tDNewN (P : Program) (w : World) : TE := fun _ H Q => ∀ p, H p = none → Q (.ref p) (upd H p (DictN P w p []))
theorem pe_dnewN {pos : Pos} : PE X (.Dict [] [] pos) (tDNewN X.prog X.w) := by
  refine ⟨fun pins s σ H Q I h => wpAny_Dict_empty ?_⟩
  have x : InHeap X.prog X.w (s.heap.push { cls := .type "dict", data := .dict #[] }) s.heap.objs.size [] [] :=
    ⟨Nat.zero_le _, beq_eq_false_iff_ne.mpr (Ne.symm (Nat.ne_of_lt I.big)), .nil, Heap.DictOfH.new s.heap⟩
  exact ⟨.ref s.heap.objs.size, _, I.laid (a := s.heap.objs.size) (o := DictN X.prog X.w s.heap.objs.size []) (t' := s.toks) (fun b o q => Heap.get?_push_of_some _ q) (Nat.le_refl _) (objOk_N x), rfl, h _ (I.hok.fresh (Nat.le_refl _))⟩
/-- d.get(k, x) -/
def tDGet2N (P : Program) (w : World) (td ty tx : TE) : TE := fun σ H Q => td σ H fun x H1 => ∃ a kvs, x = .ref a ∧ H1 a = some (DictN P w a kvs) ∧ KeysAt H1 kvs ∧ ty σ H1 fun y H2 => H2 = H1 ∧ tx σ H1 fun z H3 => H3 = H1 ∧
  ∃ b wy m, y = .ref b ∧ z = .int m ∧ KeyAt H1 wy b ∧ Q (.int ((valN kvs wy).getD m)) H1
theorem pe_dget2N {o e f : Expr} {apos cpos : Pos} {td ty tx : TE} (hu : X.A.units + 64 < cLine) (ho : PE X o td) (he : PE X e ty) (hf : PE X f tx) (m : M2 X o "get" apos e f cpos) : PE X (.Call (.Attribute o "get" apos) [e, f] [] cpos) (tDGet2N X.prog X.w td ty tx) := by
  refine ⟨fun pins s σ H Q I h => ?_⟩
  refine wpAny_Call_method m.base m.few m.line PySem.F.plainAttrs_dict PySem.F.slot_dict_get PySem.F.type_dict_get (thn (ho.run pins s σ H _ I h) fun u s1 ⟨x, H1, I1, rx, a, kvs, ex, ha, hk, q1⟩ => ?_)
  subst ex
  obtain rfl : u = Value.ref a := rx
  obtain ⟨xs, IH⟩ := inHeap I1.hok (.of ha) hk
  refine ⟨IH.dic.typeIs, fun b z => ?_, ?_⟩
  · cases z
    obtain ⟨ob, _, _, g1, g2, _⟩ := IH.dic
    exact ⟨ob, g1, g2.2.1⟩
  rw [m.trees]
  refine Calls.callWith_builtin rfl (Calls.evalArgs_plain (Calls.spliced_cons (thn (he.run pins s1 σ H1 _ I1 q1) fun iv s2 ⟨y, H2, I2, ry, e2, q2⟩ => ?_)))
  subst e2
  refine Calls.spliced_cons (thn (hf.run pins s2 σ H2 _ I2 q2) fun fv s3 ⟨z, H3, I3, rz, e3, b, wy, n, ey, ez, kb, q3⟩ => Calls.spliced_nil ?_)
  subst e3 ey ez
  obtain rfl : iv = Value.ref b := ry
  obtain ⟨t, rfl⟩ := (show ∃ t, fv = Value.int n t from rz)
  obtain ⟨xs3, IH3⟩ := inHeap I3.hok (.of ha) hk
  obtain ⟨e4, e5⟩ := relN_at IH3.rel wy
  refine call_meetsIn PySem.F.slot_dict_get IH3.dic.typeIs PySem.F.entry_dict_get (PySem.F.args_dict_get_3 _ _ _) (meetsH_dict_get_default (nestedKind X.prog X.w) a b IH3.sys (.int n t)) ⟨(by show X.A.units + 1 + 8 < cLine; omega), nkey wy, xs3, key_is I3.hok kb, IH3.dic, ?_⟩
  refine ⟨_, H3, I3.tok _, ?_, q3⟩
  cases hv : valN kvs wy with
  | some c =>
    obtain ⟨b', t', e6⟩ := e5 c hv
    rw [e6]
    exact ⟨t', rfl⟩
  | none =>
    rw [hv] at e4
    have : atKey xs3 (nkey wy) = none := by
      cases hz : atKey xs3 (nkey wy) with
      | none => rfl
      | some z => rw [hz] at e4; cases e4
    rw [this]
    exact ⟨t, rfl⟩
/-- d[k] = v -/
def sDPutN (P : Program) (w : World) (td ty tv : TE) : TS := fun D σ H => tv σ H fun v H1 => td σ H1 fun x H2 => ty σ H2 fun y H3 => ∃ a kvs b wy n, x = .ref a ∧ y = .ref b ∧ v = .int n ∧ H3 a = some (DictN P w a kvs) ∧ KeysAt H3 kvs ∧ KeyAt H3 wy b ∧ kvs.length < sizeLine ∧
  D.nx σ (upd H3 a (DictN P w a (putN kvs wy b n)))
theorem ps_dputN {o i value : Expr} {pos pos' : Pos} {td ty tv : TE} (hu : X.A.units + 64 < cLine) (ho : PE X o td) (hi : PE X i ty) (hv : PE X value tv) (hs : swapsWith value (some (.Subscript o i pos')) pos.line X.env = pure false) :
    PS X (.Assign [.Subscript o i pos'] value pos) (sDPutN X.prog X.w td ty tv) := by
  refine ⟨fun pins s σ H D I h => ?_⟩
  refine wpAny_Assign_Subscript (thn (hv.run pins s σ H _ I h) fun r s1 ⟨v, H1, I1, rv, q1⟩ => thn (ho.run pins s1 σ H1 _ I1 q1) fun u s2 ⟨x, H2, I2, rx, q2⟩ => thn (hi.run pins s2 σ H2 _ I2 q2) fun iv s3 ⟨y, H3, I3, ry, a, kvs, b, wy, n, ex, ey, ev, ha, hk, kb, hl, q3⟩ => ?_) hs
  subst ex ey ev
  obtain rfl : u = Value.ref a := rx
  obtain rfl : iv = Value.ref b := ry
  obtain ⟨t, rfl⟩ := (show ∃ t, r = Value.int n t from rv)
  obtain ⟨xs, IH⟩ := inHeap I3.hok (.of ha) hk
  have hlx : kvs.length = xs.length := Paired.length IH.rel
  refine wpAny_setItem_heap (hsz := by omega) (by show X.A.units + 1 + 8 < cLine; omega) (key_is I3.hok kb) IH.dic fun h' dd' sb => ?_
  have hp := putN_len kvs wy b n
  have x' : InHeap X.prog X.w h' a (putN kvs wy b n) (storedH xs (nkey wy) b (.int n t)) := ⟨by omega, IH.sys, relN_put IH.rel wy b n t, dd'⟩
  obtain ⟨od, _, _, g1, _⟩ := id dd'
  refine ⟨σ, _, d_write (t' := _) I3 (by rw [ha]; exact True.intro) sb ⟨od, g1⟩ (objOk_N x'), q3⟩
end
end ND
set_option maxRecDepth 100000
set_option maxHeartbeats 4000000
namespace WS
open PySem L2 SetT RevS
/-! ### counting: how many ways letters with weights can be filled so that all sums come to nothing -/
def bitT (t f : Int) : Bool := t.toNat.testBit f.toNat
def setT (t f : Int) : Int := ((t.toNat ||| 2 ^ f.toNat : Nat) : Int)
theorem bit_set {t f g : Int} (hf : 0 ≤ f) (hg : 0 ≤ g) : bitT (setT t f) g = (bitT t g || decide (g = f)) := by
  unfold bitT setT
  rw [Int.toNat_natCast, Nat.testBit_or, Nat.testBit_two_pow]
  by_cases e : g = f
  · subst e; simp
  · have : ¬ f.toNat = g.toNat := by omega
    rw [decide_eq_false this, decide_eq_false e]
theorem set_set (t f g : Int) : setT (setT t f) g = setT (setT t g) f := by
  unfold setT
  rw [Int.toNat_natCast, Int.toNat_natCast, Nat.or_assoc, Nat.or_assoc, Nat.or_comm (2 ^ f.toNat)]
theorem set_nonneg (t f : Int) : 0 ≤ setT t f := Int.natCast_nonneg _
def addV (v : List Int) (f : Int) (w : List Int) : List Int := List.zipWith (fun n x => n + f * x) v w
theorem addV_len (v : List Int) (f : Int) {w : List Int} (h : v.length = w.length) : (addV v f w).length = v.length := by
  unfold addV
  rw [List.length_zipWith, h, Nat.min_self]
theorem addV_comm : ∀ (v : List Int) (f : Int) (w : List Int) (g : Int) (x : List Int), addV (addV v f w) g x = addV (addV v g x) f w
  | [], _, _, _, _ => by simp [addV]
  | n :: v, f, [], g, [] => by simp [addV]
  | n :: v, f, [], g, y :: x => by simp [addV]
  | n :: v, f, a :: w, g, [] => by simp [addV]
  | n :: v, f, a :: w, g, y :: x => by
    have ih := addV_comm v f w g x
    unfold addV at ih ⊢
    rw [List.zipWith_cons_cons, List.zipWith_cons_cons, List.zipWith_cons_cons, List.zipWith_cons_cons, ih]
    congr 1
    omega
abbrev WP := Nat × List Int
def figsOf (b : Int) (fs : List Nat) (c : Nat) : List Int := upFrom (if c ∈ fs then 1 else 0) (b - (if c ∈ fs then 1 else 0)).toNat
theorem mem_figsOf {b : Int} {fs : List Nat} {c : Nat} {f : Int} (h : f ∈ figsOf b fs c) : 0 ≤ f ∧ f < b := by
  have := mem_upFrom.mp h
  split at this <;> omega
def nought (v : List Int) : Bool := v.all fun x => decide (x = 0)
def comp (b : Int) (fs : List Nat) : List WP → Int → List Int → Int
  | [], _, v => if nought v then 1 else 0
  | p :: r, t, v => ((figsOf b fs p.1).map fun f => if bitT t f then 0 else comp b fs r (setT t f) (addV v f p.2)).sum
theorem sum_swap {α β : Type} (F : α → β → Int) (l' : List β) : ∀ l : List α, (l.map fun x => (l'.map (F x)).sum).sum = (l'.map fun y => (l.map fun x => F x y).sum).sum
  | [] => by
    have : (l'.map fun _ => (0 : Int)).sum = 0 := by
      induction l' with
      | nil => rfl
      | cons _ _ ih => rw [List.map_cons, List.sum_cons, ih] <;> rfl
    simpa using this.symm
  | x :: l => by
    rw [List.map_cons, List.sum_cons, sum_swap F l' l]
    have : ∀ (G H : β → Int), (l'.map G).sum + (l'.map H).sum = (l'.map fun y => G y + H y).sum := by
      intro G H
      induction l' with
      | nil => rfl
      | cons y r ih =>
        simp only [List.map_cons, List.sum_cons]
        rw [← ih]; omega
    rw [this]
    congr 1
theorem sum_if {β : Type} (c : Bool) (G : β → Int) (l : List β) : (if c = true then 0 else (l.map G).sum) = (l.map fun y => if c = true then 0 else G y).sum := by
  cases c
  · rfl
  · simp only [if_true]
    induction l with
    | nil => rfl
    | cons y r ih => rw [List.map_cons, List.sum_cons, ← ih] <;> rfl
theorem comp_swap (b : Int) (fs : List Nat) (p q : WP) (r : List WP) (t : Int) (v : List Int) : comp b fs (q :: p :: r) t v = comp b fs (p :: q :: r) t v := by
  show ((figsOf b fs q.1).map fun f => if bitT t f then 0 else ((figsOf b fs p.1).map fun g => if bitT (setT t f) g then 0 else comp b fs r (setT (setT t f) g) (addV (addV v f q.2) g p.2)).sum).sum
    = ((figsOf b fs p.1).map fun g => if bitT t g then 0 else ((figsOf b fs q.1).map fun f => if bitT (setT t g) f then 0 else comp b fs r (setT (setT t g) f) (addV (addV v g p.2) f q.2)).sum).sum
  simp only [sum_if]
  rw [sum_swap]
  congr 1
  refine List.map_congr_left fun g hg => ?_
  congr 1
  refine List.map_congr_left fun f hf => ?_
  have h1 := (mem_figsOf hf).1
  have h2 := (mem_figsOf hg).1
  rw [bit_set h1 h2, bit_set h2 h1, set_set t f g, addV_comm v f q.2 g p.2]
  by_cases e : g = f
  · subst e; cases bitT t g <;> simp
  · rw [decide_eq_false e, decide_eq_false (fun h => e h.symm), Bool.or_false, Bool.or_false]
    cases bitT t f <;> cases bitT t g <;> rfl
theorem comp_perm {b : Int} {fs : List Nat} {ps qs : List WP} (h : ps.Perm qs) : ∀ (t : Int) (v : List Int), comp b fs ps t v = comp b fs qs t v := by
  induction h with
  | nil => intro _ _; rfl
  | cons p _ ih =>
    intro t v
    show ((figsOf b fs p.1).map fun f => _).sum = ((figsOf b fs p.1).map fun f => _).sum
    congr 1
    refine List.map_congr_left fun f _ => ?_
    rw [ih]
  | swap p q r => intro t v; exact comp_swap b fs p q r t v
  | trans _ _ ih1 ih2 => intro t v; rw [ih1, ih2]
/-! the spans -/
def mostAt (b : Int) (ps : List WP) (j : Nat) : Int := (b - 1) * (ps.map fun p => max 0 ((p.2[j]?).getD 0)).sum
def leastAt (b : Int) (ps : List WP) (j : Nat) : Int := (b - 1) * (ps.map fun p => min 0 ((p.2[j]?).getD 0)).sum
def spansOf (b : Int) (ps : List WP) (m : Nat) : List (Int × Int) := (List.range m).map fun j => (-(mostAt b ps j), -(leastAt b ps j))
def within (v : List Int) (sp : List (Int × Int)) : Bool := (v.zip sp).all fun p => decide (p.2.1 ≤ p.1) && decide (p.1 ≤ p.2.2)
theorem sum_ne {α : Type} {F : α → Int} : ∀ {l : List α}, (l.map F).sum ≠ 0 → ∃ x ∈ l, F x ≠ 0
  | [], h => absurd rfl h
  | x :: l, h => by
    by_cases e : F x = 0
    · rw [List.map_cons, List.sum_cons, e, Int.zero_add] at h
      obtain ⟨y, hy, h2⟩ := sum_ne h
      exact ⟨y, List.mem_cons_of_mem _ hy, h2⟩
    · exact ⟨x, List.mem_cons_self, e⟩
theorem comp_bounds {b : Int} {fs : List Nat} : ∀ {ps : List WP} {t : Int} {v : List Int}, (∀ p ∈ ps, p.2.length = v.length) → comp b fs ps t v ≠ 0 → ∀ (j : Nat) (x : Int), v[j]? = some x → -(mostAt b ps j) ≤ x ∧ x ≤ -(leastAt b ps j)
  | [], t, v, _, h, j, x, hx => by
    have : nought v = true := by
      cases e : nought v
      · exact absurd (show comp b fs [] t v = 0 by show (if nought v then (1 : Int) else 0) = 0; rw [e]; rfl) h
      · rfl
    have hx0 := of_decide_eq_true (List.all_eq_true.mp this x (List.mem_of_getElem? hx))
    subst hx0
    unfold mostAt leastAt
    simp
  | p :: r, t, v, hl, h, j, x, hx => by
    obtain ⟨f, hf, h2⟩ := sum_ne (show ((figsOf b fs p.1).map fun f => if bitT t f then 0 else comp b fs r (setT t f) (addV v f p.2)).sum ≠ 0 from h)
    obtain ⟨f0, f1⟩ := mem_figsOf hf
    cases e : bitT t f
    · rw [e] at h2
      have h3 : comp b fs r (setT t f) (addV v f p.2) ≠ 0 := h2
      have hpl := hl p List.mem_cons_self
      have hjl := (List.getElem?_eq_some_iff.mp hx).1
      have hw : p.2[j]? = some p.2[j] := List.getElem?_eq_getElem (by omega)
      generalize hwg : p.2[j]'(by omega) = y at hw
      have ha : (addV v f p.2)[j]? = some (x + f * y) := by
        unfold addV
        rw [List.getElem?_zipWith, hx, hw]
      have ih := comp_bounds (ps := r) (fun q hq => by rw [addV_len v f hpl.symm]; exact hl q (List.mem_cons_of_mem _ hq)) h3 j _ ha
      unfold mostAt leastAt at ih ⊢
      rw [List.map_cons, List.sum_cons, List.map_cons, List.sum_cons, hw, Option.getD_some, Int.mul_add, Int.mul_add]
      have k1 : f * y ≤ (b - 1) * max 0 y := by
        by_cases hy : 0 ≤ y
        · rw [show max 0 y = y by omega]
          exact Int.mul_le_mul_of_nonneg_right (by omega) hy
        · rw [show max 0 y = 0 by omega, Int.mul_zero]
          have := Int.mul_nonneg f0 (show 0 ≤ -y by omega)
          rw [Int.mul_neg] at this
          omega
      have k2 : (b - 1) * min 0 y ≤ f * y := by
        by_cases hy : 0 ≤ y
        · rw [show min 0 y = 0 by omega, Int.mul_zero]
          exact Int.mul_nonneg f0 hy
        · rw [show min 0 y = y by omega]
          have := Int.mul_le_mul_of_nonneg_right (show f ≤ b - 1 by omega) (show 0 ≤ -y by omega)
          rw [Int.mul_neg, Int.mul_neg] at this
          omega
      generalize (b - 1) * max 0 y = A at *
      generalize (b - 1) * min 0 y = B at *
      generalize (b - 1) * (r.map fun p => max 0 (p.2[j]?.getD 0)).sum = C at *
      generalize (b - 1) * (r.map fun p => min 0 (p.2[j]?.getD 0)).sum = D at *
      generalize f * y = E at *
      omega
    · rw [e] at h2
      exact absurd rfl h2
theorem comp_out {b : Int} {fs : List Nat} {ps : List WP} {t : Int} {v : List Int} (hl : ∀ p ∈ ps, p.2.length = v.length) (h : within v (spansOf b ps v.length) = false) : comp b fs ps t v = 0 := by
  refine Decidable.byContradiction fun hne => ?_
  have hb := comp_bounds hl hne
  have : within v (spansOf b ps v.length) = true := by
    unfold within
    rw [List.all_eq_true]
    rintro ⟨x, lo, hi⟩ hm
    obtain ⟨j, hj⟩ := List.mem_iff_getElem?.mp hm
    rw [List.getElem?_zip_eq_some] at hj
    obtain ⟨h1, h2⟩ := hj
    unfold spansOf at h2
    rw [List.getElem?_map] at h2
    have hjl := (List.getElem?_eq_some_iff.mp h1).1
    rw [List.getElem?_range hjl] at h2
    have h3 := Option.some.inj h2
    obtain ⟨b1, b2⟩ := hb j x h1
    have e1 : lo = -(mostAt b ps j) := (congrArg Prod.fst h3).symm
    have e2 : hi = -(leastAt b ps j) := (congrArg Prod.snd h3).symm
    subst e1 e2
    show (decide _ && decide _) = true
    rw [decide_eq_true b1, decide_eq_true b2] <;> rfl
  rw [this] at h
  cases h
theorem within_end {v : List Int} {b : Int} (h : within v (spansOf b [] v.length) = true) : nought v = true := by
  unfold nought
  rw [List.all_eq_true]
  intro x hx
  obtain ⟨j, hj⟩ := List.mem_iff_getElem?.mp hx
  have hjl := (List.getElem?_eq_some_iff.mp hj).1
  unfold within at h
  rw [List.all_eq_true] at h
  have h2 := h (x, (-(mostAt b [] j), -(leastAt b [] j))) (List.mem_iff_getElem?.mpr ⟨j, by
    rw [List.getElem?_zip_eq_some]
    refine ⟨hj, ?_⟩
    unfold spansOf
    rw [List.getElem?_map, List.getElem?_range hjl] <;> rfl⟩)
  have e1 : mostAt b [] j = 0 := by unfold mostAt; simp
  have e2 : leastAt b [] j = 0 := by unfold leastAt; simp
  rw [e1, e2, Bool.and_eq_true] at h2
  have h3 : -0 ≤ x := of_decide_eq_true h2.1
  have h4 : x ≤ -0 := of_decide_eq_true h2.2
  exact decide_eq_true (by omega)
/-! from completions to rows -/
def finalV (W : Nat → List Int) : List Int → List Nat → List Int → List Int
  | v, c :: cs, f :: row => finalV W (addV v f (W c)) cs row
  | v, _, _ => v
theorem sum_filter {α : Type} (q : α → Bool) (F : α → Int) : ∀ l : List α, (l.map fun x => if q x = true then 0 else F x).sum = ((l.filter fun x => !q x).map F).sum
  | [] => rfl
  | x :: l => by
    rw [List.map_cons, List.sum_cons, sum_filter q F l, List.filter_cons]
    cases q x
    · rw [if_neg (show ¬ (false = true) by decide), if_pos (show (!false) = true from rfl), List.map_cons, List.sum_cons]
    · rw [if_pos (show true = true from rfl), if_neg (show ¬ ((!true) = true) by decide), Int.zero_add]
theorem len_flatten {α β : Type} (g : α → List β) : ∀ l : List α, (((l.map g).flatten.length : Nat) : Int) = (l.map fun x => ((g x).length : Int)).sum
  | [] => rfl
  | x :: l => by
    rw [List.map_cons, List.flatten_cons, List.length_append, List.map_cons, List.sum_cons, ← len_flatten g l]
    omega
theorem comp_fills {b : Int} {fs : List Nat} (W : Nat → List Int) : ∀ (cs : List Nat) (tk : List Int) (t : Int) (v : List Int), (∀ x ∈ tk, 0 ≤ x) → (∀ f : Int, 0 ≤ f → bitT t f = decide (f ∈ tk)) →
    comp b fs (cs.map fun c => (c, W c)) t v = ((fills b fs cs tk).filter fun row => nought (finalV W v cs row)).length
  | [], tk, t, v, _, _ => by
    show (if nought v then (1 : Int) else 0) = ((([[]] : List (List Int)).filter fun row => nought (finalV W v [] row)).length : Nat)
    rw [List.filter_cons]
    show (if nought v = true then (1 : Int) else 0) = (((if nought v = true then [[]] else []) : List (List Int)).length : Int)
    cases nought v <;> rfl
  | c :: cs, tk, t, v, h0, hb => by
    show ((figsOf b fs c).map fun f => if bitT t f then 0 else comp b fs (cs.map fun c => (c, W c)) (setT t f) (addV v f (W c))).sum = _
    rw [sum_filter]
    have e1 : (figsOf b fs c).filter (fun f => !bitT t f) = freeV b fs c tk := List.filter_congr fun f hf => by
      rw [hb f (mem_figsOf hf).1]
    rw [e1]
    show _ = (((((freeV b fs c tk).map fun f => (fills b fs cs (tk ++ [f])).map (f :: ·)).flatten).filter _).length : Int)
    rw [filter_flatten, List.map_map, len_flatten]
    congr 1
    refine List.map_congr_left fun f hf => ?_
    have hf0 : 0 ≤ f := by
      have h1 := List.mem_filter.mp hf
      exact (mem_figsOf h1.1).1
    rw [comp_fills W cs (tk ++ [f]) (setT t f) (addV v f (W c)) (fun x hx => by
      rcases List.mem_append.mp hx with hx | hx
      · exact h0 x hx
      · rw [List.mem_singleton.mp hx]; exact hf0) (fun g hg => by
      rw [bit_set hf0 hg, hb g hg, Bool.eq_iff_iff]
      simp)]
    show _ = ((((fills b fs cs (tk ++ [f])).map (f :: ·)).filter _).length : Int)
    rw [List.filter_map, List.length_map] <;> rfl
end WS
set_option maxRecDepth 100000
set_option maxHeartbeats 8000000
namespace WS
open PySem L2 SetT RevS
def spWorth : Sp := fun vs H Q _ => ∃ (z : Str) (d : Addr) (b : Int) (kvs : List (Key × V)) (fg : Nat → Int), vs = [.str z, .ref d, .int b] ∧ H d = some (.dK kvs) ∧ HasFigs kvs fg z.cps.toList ∧ -(2 ^ 62) < b ∧ b < 2 ^ 62 ∧ Q (.int (worthOf b fg z.cps.toList)) H
section
variable {P : Program} {w : World} {K : PySem.W.Frag} {mg : Str → Option Value} {base : Heap}
theorem scWorth : FnScope ["word", "figures", "base", "number", "letter"] ["word", "figures", "base"] (defScope sWorth) := ⟨rfl, rfl, rfl, by decide +kernel, rfl, by decide +kernel, by decide +kernel⟩
theorem ok_worth {f : Addr} {fd : FuncData} (F : Fun K "worth" "worth" sWorth f fd) : FnOk P w K mg base CX0 1 f fd ["word", "figures", "base"] spWorth := by
  refine F.ok scWorth (fun vs H Q E h => ?_) (fun cdv A outer s H vs Q E hr h => ?_)
  · obtain ⟨z, d, b, kvs, fg, rfl, _⟩ := h
    rfl
  · obtain ⟨z, d, b, kvs, fg, rfl, hd, hf, b0, b1, k⟩ := h
    have nd := scWorth.nd
    have hu := hu_of hr
    refine ⟨_, (pss_cons (ps_set (i := 3) nd rfl (.inl rfl) pe_int)
      (pss_cons (ps_for PassesOwn.never rfl (pi_str (pv 0)) (pg_name (i := 4) nd rfl (.inl rfl)) (pss_one (ps_set (i := 3) nd rfl (.inl rfl) (pe_op op_add (pe_op op_mul (pv 3) (pv 2)) (pe_dget hu (pv 1) (pv 4) (fun _ _ => rfl))))))
      (pss_one (ps_ret (pv 3))))), ?_⟩
    refine ⟨_, rfl, z, rfl, for_it walk_str (fun i σ H2 => H2 = H ∧ ∃ v, σ = [some (.str z), some (.ref d), some (.int b), some (.int (worthOf b fg (z.cps.toList.take i))), v])
      ⟨rfl, none, rfl⟩ (fun _ _ _ _ _ => trivial) ?_ ?_⟩
    · rintro i x σ H2 H3 hi ⟨rfl, v, rfl⟩ ⟨rfl, c, hc, rfl⟩
      have hc' : z.cps.toList[i]? = some c := by rw [Array.getElem?_toList]; exact hc
      have hg := hf c (List.mem_of_getElem? hc')
      refine ⟨_, rfl, _, rfl, _, _, rfl, rfl, .inr ⟨by omega, by omega⟩, _, rfl, _, rfl, d, .int (fg c), rfl, hg ▸ DGet.k (k := Sum.inr ⟨#[c]⟩) hd, _, _, rfl, rfl, rfl, some (sg c), ?_⟩
      rw [take_snoc hc', worthOf_snoc] <;> rfl
    · rintro σ H2 ⟨rfl, v, rfl⟩
      have e : z.cps.toList.take z.cps.size = z.cps.toList := List.take_of_length_le (by rw [Array.length_toList] <;> exact Nat.le_refl _)
      rw [e]
      exact ⟨_, rfl, k⟩
end
end WS
set_option maxRecDepth 100000
set_option maxHeartbeats 8000000
namespace WS
open PySem L2 SetT RevS
def surplusOf (b : Int) (fg : Nat → Int) (s : WSum) : Int := (s.1.map fun z => worthOf b fg z.cps.toList).sum - worthOf b fg s.2.cps.toList
def spSurplus : Sp := fun vs H Q _ => ∃ (u : Addr) (s : WSum) (d : Addr) (b : Int) (kvs : List (Key × V)) (fg : Nat → Int), vs = [.ref u, .str s.2, .ref d, .int b] ∧ H u = some (.tup (s.1.map V.str)) ∧ H d = some (.dK kvs) ∧ (∀ z ∈ s.1 ++ [s.2], HasFigs kvs fg z.cps.toList) ∧ s.1.length ≤ 1000 ∧ -(2 ^ 62) < b ∧ b < 2 ^ 62 ∧ ∀ H', Same H H' → Q (.int (surplusOf b fg s)) H'
section
variable {P : Program} {w : World} {K : PySem.W.Frag} {mg : Str → Option Value} {base : Heap}
theorem scSurplus : FnScope ["addends", "total", "figures", "base", "word"] ["addends", "total", "figures", "base"] (defScope sSurplus) := ⟨rfl, rfl, rfl, by decide +kernel, rfl, by decide +kernel, by decide +kernel⟩
theorem ok_surplus {f fW : Addr} {fd fdW : FuncData} (F : Fun K "surplus" "surplus" sSurplus f fd) (z_sum : mg "sum" = none) (S_worth : Site K mg "worth" fW fdW ["word", "figures", "base"]) (G_worth : FnOk P w K mg base CX0 1 fW fdW ["word", "figures", "base"] spWorth) :
    FnOk P w K mg base CX0 2 f fd ["addends", "total", "figures", "base"] spSurplus := by
  refine F.ok scSurplus (fun vs H Q E h => ?_) (fun cdv A outer s H vs Q E hr h => ?_)
  · obtain ⟨u, sm, d, b, kvs, fg, rfl, _⟩ := h
    rfl
  · obtain ⟨u, sm, d, b, kvs, fg, rfl, hu1, hd, hf, hn, b0, b1, k⟩ := h
    have nd := scSurplus.nd
    have hr_worth := hr
    refine ⟨_, (pss_one (ps_ret (pe_op op_sub (pe_callB (cr_sum rfl) (by rfl) z_sum (by decide +kernel) (pa_cons (pe_lc (own := [("word", 4)]) (g := (gName 4)) (tt := tYes) rfl nd (pi_tup (pv 0)) (blkOk_by (own := [("word", 4)]) (N := ["addends", "total", "figures", "base", "word"]) (sc := defScope sSurplus) (by decide +kernel)) (fun _ _ _ _ _ => (pg_name (i := 4) nd rfl (.inl rfl))) (fun _ _ _ _ _ => pts_nil) (fun _ _ _ _ _ => (pe_call G_worth hr_worth (by rfl) S_worth.g S_worth.k S_worth.b .nil pass0 (pa_cons (pv 4) (pa_cons (pv 2) (pa_cons (pv 3) pa_nil)))))) pa_nil)) (pe_call G_worth hr_worth (by rfl) S_worth.g S_worth.k S_worth.b .nil pass0 (pa_cons (pv 1) (pa_cons (pv 2) (pa_cons (pv 3) pa_nil))))))), ?_⟩
    refine ⟨_, rfl, u, rfl, ⟨_, SqT.of hu1⟩, fun D hD => ?_⟩
    have huD := ne_of_none hu1 hD
    have hdD := ne_of_none hd hD
    refine lc_tup (K := K) (a := u) (xs := sm.1.map V.str) (fun j H4 => H4 = upd H D (.lst (((sm.1.take j).map fun z => worthOf b fg z.cps.toList).map V.int))) rfl
      (fun j H4 _ e => by rw [e]; exact SqT.of ((upd_ne huD).trans hu1)) ?_ ?_
    · rintro j y H4 hj rfl
      obtain ⟨z, hz', rfl⟩ := strs_at' hj
      have hjl : j < sm.1.length := (List.getElem?_eq_some_iff.mp hz').1
      refine ⟨rfl, _, rfl, _, rfl, _, rfl, z, d, b, kvs, fg, rfl, (upd_ne hdD).trans hd, hf z (List.mem_append_left _ (List.mem_of_getElem? hz')), b0, b1, _, upd_same, ?_, ?_⟩
      · rw [List.length_map, List.length_map, List.length_take]
        exact line_lt (by omega)
      · have e : ((sm.1.take (j + 1)).map fun z => worthOf b fg z.cps.toList).map V.int = ((sm.1.take j).map fun z => worthOf b fg z.cps.toList).map V.int ++ [V.int (worthOf b fg z.cps.toList)] := by
          rw [take_snoc hz', List.map_append, List.map_append] <;> rfl
        rw [upd_upd, e]
    · rintro H4 rfl
      rw [List.length_map, List.take_length]
      refine ⟨D, _, rfl, SqL.of upd_same, ?_⟩
      refine ⟨_, rfl, _, rfl, _, rfl, sm.2, d, b, kvs, fg, rfl, (upd_ne hdD).trans hd, hf sm.2 (List.mem_append_right _ List.mem_cons_self), b0, b1, _, _, rfl, rfl, ?_⟩
      exact k _ (Same.new hD)
end
end WS
set_option maxRecDepth 100000
set_option maxHeartbeats 4000000
namespace WS
open PySem L2 SetT RevS
def dlt (c : Nat) : Nat → Int := fun d => if d = c then 1 else 0
theorem sumAddT {α : Type} (F G : α → Int) : ∀ l : List α, (l.map F).sum + (l.map G).sum = (l.map fun x => F x + G x).sum
  | [] => rfl
  | x :: l => by
    simp only [List.map_cons, List.sum_cons]
    rw [← sumAddT F G l]
    omega
theorem sumMulT {α : Type} (F : α → Int) (k : Int) : ∀ l : List α, (l.map F).sum * k = (l.map fun x => F x * k).sum
  | [] => by simp
  | x :: l => by
    simp only [List.map_cons, List.sum_cons]
    rw [Int.add_mul, sumMulT F k l]
theorem sumZeroT {α : Type} : ∀ l : List α, (l.map fun _ => (0 : Int)).sum = 0
  | [] => rfl
  | x :: l => by rw [List.map_cons, List.sum_cons, sumZeroT l] <;> rfl
theorem lin_dlt {L : List Nat} (f : Nat → Int) {d : Nat} : L.Nodup → d ∈ L → (L.map fun c => f c * dlt c d).sum = f d := by
  induction L with
  | nil => intro _ h; exact nomatch h
  | cons c L ih =>
    intro hN h
    rw [List.map_cons, List.sum_cons]
    have hN' := List.nodup_cons.mp hN
    by_cases e : d = c
    · subst e
      have : (L.map fun c => f c * dlt c d) = L.map fun _ => 0 := List.map_congr_left fun c hc => by
        have : d ≠ c := fun e => hN'.1 (e ▸ hc)
        unfold dlt
        rw [if_neg this, Int.mul_zero]
      rw [this, sumZeroT]
      unfold dlt
      rw [if_pos rfl]; omega
    · have hd : d ∈ L := by
        rcases List.mem_cons.mp h with h | h
        · exact absurd h e
        · exact h
      rw [ih hN'.2 hd]
      unfold dlt
      rw [if_neg e]; omega
theorem worth_lin {L : List Nat} (hN : L.Nodup) (b : Int) (f : Nat → Int) (cs : List Nat) (h : ∀ c ∈ cs, c ∈ L) : worthOf b f cs = (L.map fun c => f c * worthOf b (dlt c) cs).sum := by
  generalize hr : cs.reverse = r
  have : cs = r.reverse := by rw [← hr, List.reverse_reverse]
  subst this
  clear hr
  induction r with
  | nil =>
    show (0 : Int) = _
    have : (L.map fun c => f c * worthOf b (dlt c) ([] : List Nat).reverse) = L.map fun _ => 0 := List.map_congr_left fun c _ => by
      show f c * 0 = 0
      rw [Int.mul_zero]
    rw [this, sumZeroT]
  | cons d r ih =>
    rw [List.reverse_cons] at h ⊢
    rw [worthOf_snoc, ih (fun c hc => h c (List.mem_append_left _ hc))]
    have hd := h d (List.mem_append_right _ List.mem_cons_self)
    rw [← lin_dlt f hN hd, sumMulT, sumAddT]
    congr 1
    refine List.map_congr_left fun c _ => ?_
    rw [worthOf_snoc, Int.mul_add, Int.mul_assoc]
theorem sums_lin {L : List Nat} (hN : L.Nodup) (b : Int) (f : Nat → Int) : ∀ ws : List Str, (∀ z ∈ ws, ∀ c ∈ z.cps.toList, c ∈ L) → (ws.map fun z => worthOf b f z.cps.toList).sum = (L.map fun c => f c * (ws.map fun z => worthOf b (dlt c) z.cps.toList).sum).sum
  | [], _ => by
    have : (L.map fun c => f c * (([] : List Str).map fun z => worthOf b (dlt c) z.cps.toList).sum) = L.map fun _ => 0 := List.map_congr_left fun c _ => by
      show f c * 0 = 0
      rw [Int.mul_zero]
    rw [this, sumZeroT] <;> rfl
  | z :: ws, h => by
    rw [List.map_cons, List.sum_cons, sums_lin hN b f ws (fun y hy => h y (List.mem_cons_of_mem _ hy)), worth_lin hN b f _ (h z List.mem_cons_self), sumAddT]
    congr 1
    refine List.map_congr_left fun c _ => ?_
    rw [List.map_cons, List.sum_cons, Int.mul_add]
theorem surplus_lin {L : List Nat} (hN : L.Nodup) (b : Int) (f : Nat → Int) (s : WSum) (h : ∀ z ∈ s.1 ++ [s.2], ∀ c ∈ z.cps.toList, c ∈ L) : surplusOf b f s = (L.map fun c => f c * surplusOf b (dlt c) s).sum := by
  unfold surplusOf
  rw [sums_lin hN b f s.1 (fun z hz => h z (List.mem_append_left _ hz)), worth_lin hN b f _ (h s.2 (List.mem_append_right _ List.mem_cons_self))]
  have : ∀ A B : Int, A - B = A + B * (-1) := fun A B => by omega
  rw [this, sumMulT, sumAddT]
  congr 1
  refine List.map_congr_left fun c _ => ?_
  rw [Int.mul_sub]; omega
def weightOf (b : Int) (ss : List WSum) (c : Nat) : List Int := ss.map (surplusOf b (dlt c))
theorem weight_len (b : Int) (ss : List WSum) (c : Nat) : (weightOf b ss c).length = ss.length := List.length_map _
theorem finalV_at {W : Nat → List Int} (f : Nat → Int) (j : Nat) : ∀ (cs : List Nat) (v : List Int), (∀ c ∈ cs, (W c).length = v.length) → (finalV W v cs (cs.map f))[j]? = v[j]?.map fun x => x + (cs.map fun c => f c * ((W c)[j]?).getD 0).sum
  | [], v, _ => by
    show v[j]? = _
    cases v[j]? with
    | none => rfl
    | some x =>
      show some x = some (x + 0)
      rw [Int.add_zero]
  | c :: cs, v, h => by
    have h1 := h c List.mem_cons_self
    show (finalV W (addV v (f c) (W c)) cs (cs.map f))[j]? = _
    rw [finalV_at f j cs _ (fun d hd => by rw [addV_len v (f c) h1.symm]; exact h d (List.mem_cons_of_mem _ hd))]
    unfold addV
    rw [List.getElem?_zipWith, List.map_cons, List.sum_cons]
    cases hx : v[j]? with
    | none => rfl
    | some x =>
      have hjl := (List.getElem?_eq_some_iff.mp hx).1
      have hw : (W c)[j]? = some ((W c)[j]'(by omega)) := List.getElem?_eq_getElem (by omega)
      rw [hw]
      show some (x + f c * _ + _) = some (x + (f c * _ + _))
      rw [Int.add_assoc] <;> rfl
theorem final_nought {b : Int} {ss : List WSum} (V' : Valid b ss) (f : Nat → Int) : nought (finalV (weightOf b ss) (ss.map fun _ => 0) (lettersOf ss) ((lettersOf ss).map f)) = ss.all (sumHolds b f) := by
  have hN : (lettersOf ss).Nodup := dd_nodup _
  have hat := fun j => finalV_at (W := weightOf b ss) f j (lettersOf ss) (ss.map fun _ => 0) (fun c _ => by rw [weight_len, List.length_map])
  have hlen : (finalV (weightOf b ss) (ss.map fun _ => 0) (lettersOf ss) ((lettersOf ss).map f)) = ss.map (surplusOf b f) := by
    refine List.ext_getElem? fun j => ?_
    rw [hat j, List.getElem?_map, List.getElem?_map]
    cases hs : ss[j]? with
    | none => rfl
    | some s =>
      have hsm := List.mem_of_getElem? hs
      show some (0 + _) = some (surplusOf b f s)
      rw [Int.zero_add, surplus_lin hN b f s (fun z hz c hc => mem_letters hsm hz hc)]
      congr 2
      refine List.map_congr_left fun c _ => ?_
      unfold weightOf
      rw [List.getElem?_map, hs] <;> rfl
  rw [hlen]
  unfold nought
  rw [List.all_map]
  refine congrArg (fun q => ss.all q) (funext fun s => ?_)
  show decide (surplusOf b f s = 0) = sumHolds b f s
  unfold sumHolds surplusOf
  rw [Bool.eq_iff_iff, decide_eq_true_iff, decide_eq_true_iff]
  omega
theorem comp_answers {b : Int} {ss : List WSum} (V' : Valid b ss) : comp b (firstsOf ss) ((lettersOf ss).map fun c => (c, weightOf b ss c)) 0 (ss.map fun _ => 0) = ((answersOf b ss).length : Nat) := by
  have hb2 := V'.b2
  have hb : 0 < b := by omega
  obtain ⟨hwf, _⟩ := stepsOf_wf V'
  have hmet := steps_met V'
  have hN : (lettersOf ss).Nodup := dd_nodup _
  have h1 := found_fills (b := b) (fs := firstsOf ss) (L := lettersOf ss) (stepsOf ss) [] 0 hwf List.nodup_nil (by rw [hmet] <;> rfl)
  unfold answersOf
  rw [h1, hmet, show valsF [] = [] from rfl]
  rw [comp_fills (weightOf b ss) (lettersOf ss) [] 0 _ (fun x hx => nomatch hx) (fun f _ => by
    show Nat.testBit (0 : Int).toNat f.toNat = _
    simp)]
  rw [List.length_map]
  congr 2
  refine List.filter_congr fun row hrow => ?_
  obtain ⟨r1, r2, r3, _⟩ := fills_mem hb hrow
  have hmap := figs_map hN (by omega : (lettersOf ss).length = row.length)
  have hin : ∀ c ∈ lettersOf ss, 0 ≤ fgOf (lettersOf ss) row c ∧ fgOf (lettersOf ss) row c < b := fun c hc => by
    refine r2 _ ?_
    rw [← hmap]
    exact List.mem_map.mpr ⟨c, hc, by rw [hmap]⟩
  show nought _ = runOk b (figAt ((lettersOf ss).zip row)) (stepsOf ss) 0
  rw [figAt_fgOf, run_all hb fun s hs z hz c hc => hin c (mem_letters hs hz hc), ← final_nought V', hmap]
end WS
set_option maxRecDepth 100000
set_option maxHeartbeats 4000000
namespace ND
open PySem PySem.Spec PyProof.Rows L2
/-- what is known of a locked dict's object -/
structure LockN (P : Program) (w : World) (h : Heap) (d : Addr) (o : Obj) (kvs : Kvs) (es : Array DictEntry) (ep : Nat) : Prop where
  sys : (d == sysModules) = false
  len : kvs.length ≤ sizeLine
  raw : h.DictRaw d es ep
  at_ : h.get? d = some o
  dat : o.data = .dict es ep
  size : es.size = kvs.length
  ent : ∀ (i : Nat) (p : Way × Addr × Int), kvs[i]? = some p → ∃ e t, es[i]? = some e ∧ e.key = .ref p.2.1 ∧ e.val = .int p.2.2 t
theorem rawN {P : Program} {w : World} {H : Hp} {h : Heap} {d : Addr} {kvs : Kvs} (x : ObjOk P w H h d (DictN P w d kvs)) : ∃ o es ep, LockN P w h d o kvs es ep := by
  obtain ⟨⟨l, sy, xs, o, es, ep, r, h1, h2, h3, h4, h5⟩, _, _⟩ := x
  have hl : kvs.length = xs.length := Paired.length r
  have hs : es.size = xs.length := by
    have := congrArg List.length h4
    rwa [Array.length_toList, List.length_map] at this
  refine ⟨o, es, ep, sy, l, ⟨o, h1, h2, h3⟩, h1, h3, hs.trans hl.symm, fun i p hp => ?_⟩
  obtain ⟨q, hq, e1, e2, t, e3⟩ := relN_get r hp
  have e4 : es.toList[i]? = some (entryOfKey (nestedKind P w) q) := by rw [h4, List.getElem?_map, hq] <;> rfl
  rw [Array.getElem?_toList] at e4
  exact ⟨_, t, e4, by rw [← e2] <;> rfl, e3⟩
theorem lockN {X : Cx} {pins : List (Addr × Obj)} {σ : L2.St} {H : Hp} {s : Shared} {d : Addr} {o : Obj} {kvs : Kvs} (I : Inv X pins σ H s) (hd : H d = some (.frz o (DictN X.prog X.w d kvs))) : ∃ es ep, LockN X.prog X.w s.heap d o kvs es ep := by
  obtain ⟨ho, x⟩ := (show ObjOk X.prog X.w H s.heap d (.frz o (DictN X.prog X.w d kvs)) from I.hok d _ hd)
  obtain ⟨o', es, ep, L⟩ := rawN x
  have e : o' = o := by
    have := L.at_
    rw [ho] at this
    exact (Option.some.inj this).symm
  subst e
  exact ⟨es, ep, L⟩
/-- d.items(), d locked: a new pair of the key's tuple and the number -/
def ItN (P : Program) (w : World) (d : Addr) (o : Obj) (kvs : Kvs) : It :=
  ⟨fun i H => H d = some (.frz o (DictN P w d kvs)) ∧ i < kvs.length, fun i H x H' => ∃ T p, kvs[i]? = some p ∧ x = .ref T ∧ H T = none ∧ H' = upd H T (.tup [.ref p.2.1, .int p.2.2]), fun i H => H d = some (.frz o (DictN P w d kvs)) ∧ kvs.length ≤ i⟩
section
variable {P : Program} {w : World} {K : PySem.W.Frag} {d : Addr} {o : Obj} {es : Array DictEntry} {ep : Nat}
theorem turnN {kvs : Kvs} {elts : List Expr} {kk : Nat} {tpos : Pos} (it : Addr) (hod : o.data = .dict es ep) : Turn P w K (.Tuple elts kk tpos) (ItN P w d o kvs) [it] it (fun i h => ∃ ok ov, IsItemIter h it d i kvs.length ep ok ov) where
  mem := List.mem_cons_self
  obj := fun i h ⟨ok, ov, e⟩ b hb => by
    rw [List.mem_singleton.mp hb]
    exact ⟨_, e, fun v z => nomatch z⟩
  keep := fun i h h' ⟨ok, ov, e⟩ k => ⟨ok, ov, k it List.mem_cons_self _ e⟩
  item := by
    intro X e1 e2 e3 hc i pins s σ H E I hf ⟨ok, ov, st⟩ ⟨hd, hi⟩
    subst e1 e2 e3
    obtain ⟨es', ep', L⟩ := lockN I hd
    have hdd := L.dat
    rw [hod] at hdd
    cases hdd
    have hp : kvs[i]? = some kvs[i] := List.getElem?_eq_getElem hi
    generalize kvs[i] = p at hp
    obtain ⟨en, t, hen, hek, hev⟩ := L.ent i p hp
    have hlt : i < es.size := by rw [L.size]; exact hi
    have heq : es[i] = en := by
      rw [Array.getElem?_eq_getElem hlt] at hen
      exact Option.some.inj hen
    rw [← L.size] at st
    have hil : it < s.heap.objs.size := Heap.lt_size st
    refine wpAny_pyNext_items_item_raw st L.raw hlt fun h' ho hT hz hk => ⟨_, rfl, wpAny_letOwnedTupleGo_items (s := { s with heap := h' }) ho fun h'' he' sb => ?_⟩
    rw [heq, hek, hev] at hT
    have hT2 : h''.get? s.heap.objs.size = some { cls := .type "tuple", data := .seq #[Value.ref p.2.1, Value.int p.2.2 t] } := (sb.2 _ (Nat.ne_of_gt hil)).trans hT
    have new : ObjOk X.prog X.w (upd H s.heap.objs.size (.tup [.ref p.2.1, .int p.2.2])) h'' s.heap.objs.size (.tup [.ref p.2.1, .int p.2.2]) :=
      ⟨by show 2 ≤ sizeLine; decide, [Value.ref p.2.1, Value.int p.2.2 t], .cons rfl (.cons ⟨t, rfl⟩ .nil), ⟨_, hT2, rfl, _, rfl⟩⟩
    have one : ∀ b, b ∉ [it] → b ≠ it := fun b hb z => hb (by rw [z]; exact List.mem_cons_self)
    have I1 : Inv X pins σ (upd H s.heap.objs.size (.tup [.ref p.2.1, .int p.2.2])) { s with heap := h'' } :=
      I.turnedNew (t' := s.toks) (ch := [it]) (fun b ob hb e => (sb.2 b (one b hb)).trans (hk b ob (one b hb) e)) hf (Nat.le_refl _) new
    refine ⟨.ref s.heap.objs.size, _, I1, rfl, ⟨_, p, hp, rfl, I.hok.fresh (Nat.le_refl _), rfl⟩, ⟨es[i].key, es[i].val, ?_⟩, fun b hb => ?_⟩
    · rw [← L.size]; exact he'
    · rw [List.mem_singleton.mp hb, upd_ne (Nat.ne_of_lt hil)]
      exact (hf it List.mem_cons_self).1
  done := by
    intro X e1 e2 e3 hc i pins s σ H E I hf ⟨ok, ov, st⟩ ⟨hd, hi⟩
    subst e1 e2 e3
    obtain ⟨f0, f1, f2, f3, f4, f5⟩ := hf it List.mem_cons_self
    obtain ⟨es', ep', L⟩ := lockN I hd
    have hdd := L.dat
    rw [hod] at hdd
    cases hdd
    rw [← L.size] at st hi
    exact wpAny_pyNext_items_end_raw (I.ok.hd hc) st L.raw hi fun h' eb => ⟨rfl, I.turned (t' := s.toks) (fun b ob hb e => eb b ob hb e) f0 f1 f3 f4 f5⟩
  self := fun A i s Q E ⟨_, _, e⟩ h => wpAny_pyIter_itemiter e h
end
def iItemsN (P : Program) (w : World) (td : TE) : TI := fun σ H R => td σ H fun x H1 => ∃ d o kvs, x = .ref d ∧ H1 d = some (.frz o (DictN P w d kvs)) ∧ R (ItN P w d o kvs) H1
theorem walkN {P : Program} {w : World} {d : Addr} {o : Obj} {kvs : Kvs} : Walk (ItN P w d o kvs) kvs.length (fun H => H d = some (.frz o (DictN P w d kvs))) (fun i H x H' => ∃ T p, kvs[i]? = some p ∧ x = .ref T ∧ H T = none ∧ H' = upd H T (.tup [.ref p.2.1, .int p.2.2])) :=
  ⟨fun _ _ hi q => ⟨q, hi⟩, fun _ q => ⟨q, Nat.le_refl _⟩, fun _ _ _ _ _ _ y => y⟩
theorem vals_ents : ∀ {kvs : Kvs} {us : List Value}, kvs.length = us.length → (∀ (i : Nat) (q : Way × Addr × Int), kvs[i]? = some q → ∃ t, us[i]? = some (.int q.2.2 t)) → Vals (kvs.map fun q => V.int q.2.2) us
  | [], [], _, _ => .nil
  | [], _ :: _, h, _ => by cases h
  | _ :: _, [], h, _ => by cases h
  | q :: r, u :: us, hl, key => by
    obtain ⟨t, ht⟩ := key 0 q rfl
    cases Option.some.inj ht
    exact .cons ⟨t, rfl⟩ (vals_ents (by simpa using hl) fun i q' hq' => key (i + 1) q' hq')
section
variable {X : Cx} {e : Expr} {td : TE} {p apos cpos pos : Pos}
theorem pi_itemsN {elts : List Expr} {kk : Nat} {tpos : Pos} (he : PE X e td) (hbase : attributeBase e "items" X.env (eval e X.env) = eval e X.env := by rfl) (hline : (apos.endLine == cpos.line) = true := by rfl) :
    PI X (.Tuple elts kk tpos) (.Call (.Attribute e "items" apos) [] [] cpos) (iItemsN X.prog X.w td) := by
  refine ⟨fun pins s σ H R I h => ?_⟩
  refine wpAny_Call_method (id := "dict.items") (T := "dict") hbase rfl hline F.plainAttrs_dict F.slot_dict_items F.type_dict_items (thn (he.run pins s σ H _ I h) fun u s1 ⟨x, H1, I1, rx, d, o, kvs, ex, hd, q⟩ => ?_)
  subst ex
  obtain rfl : u = Value.ref d := rx
  obtain ⟨es, ep, L⟩ := lockN I1 hd
  obtain ⟨o', g1, g2, g3⟩ := L.raw
  have hot : o' = o := by
    rw [L.at_] at g1
    exact (Option.some.inj g1).symm
  subst hot
  refine ⟨⟨_, L.at_, g2.1⟩, fun b z => by cases z; exact ⟨_, L.at_, g2.2.1⟩, ?_⟩
  have I2 : Inv X pins σ H1 { s1 with heap := s1.heap.push { cls := .type "dict_items", data := .fields #[.ref d] } } := I1.kept (t' := s1.toks) fun b ob q => Heap.get?_push_of_some _ q
  have fin : wpAny (model X.prog X.w) X.A (pyIter (.ref s1.heap.objs.size)) (PIE X pins σ (.Tuple elts kk tpos) R) X.xe { s1 with heap := s1.heap.push { cls := .type "dict_items", data := .fields #[.ref d] } } := by
    refine wpAny_pyIter_items_raw (d := d) ⟨_, Heap.get?_push_size _ rfl, rfl, rfl⟩ (L.raw.at fun ob q => Heap.get?_push_of_some _ q) (pi_one (tk := s1.toks) I2 _ (turnN _ L.dat) ⟨.none, .none, ?_⟩ q)
    rw [← L.size]
    exact Heap.get?_push_size _ rfl
  show wpAny _ _ (callWith cpos (.builtin "dict.items") [.ref d] [] []) _ X.xe s1
  exact method_meetsIn F.slot_dict_items F.entry_dict_items rfl (PySem.evalArgs_none ⟨rfl, ⟨_, L.at_, g2.1⟩, F.args_dict_items_1 _, _, meets_dict_items_raw d L.sys, ⟨_, _, L.raw⟩, fin⟩)
/-- list(e.values()) -/
def tListValsN (P : Program) (w : World) (te : TE) : TE := fun σ H Q => te σ H fun x H1 => ∃ (d : Addr) (kvs : Kvs), x = .ref d ∧ H1 d = some (DictN P w d kvs) ∧ ∀ p, H1 p = none → Q (.ref p) (upd H1 p (.lst (kvs.map fun q => V.int q.2.2)))
theorem pe_listValsN (hg : Gl X "list") (hm : X.mg "list" = none) (he : PE X e td) (hc : X.calm = true := by rfl) (hbase : attributeBase e "values" X.env (eval e X.env) = eval e X.env := by rfl) (hline : (apos.endLine == cpos.line) = true := by rfl)
    (hs : starEach [.Call (.Attribute e "values" apos) [] [] cpos] X.env = (false, eval (.Call (.Attribute e "values" apos) [] [] cpos) X.env) :: starEach [] X.env := by rfl) :
    PE X (.Call (.Name "list" p) [.Call (.Attribute e "values" apos) [] [] cpos] [] pos) (tListValsN X.prog X.w td) := by
  refine ⟨fun pins s σ H Q I hq => wpAny_Call_Name_kw (ld_blt I hg hm PyProof.Rows.boot_list (PyProof.Rows.callWith_type1 ?_ hs rfl))⟩
  rw [hs]
  show wpAny _ _ (spliced ((false, eval (.Call (.Attribute e "values" apos) [] [] cpos) X.env) :: backTo pos (starEach [] X.env))) _ _ s
  refine Calls.spliced_cons (wpAny_Call_method (id := "dict.values") (T := "dict") hbase rfl hline F.plainAttrs_dict F.slot_dict_values F.type_dict_values (thn (he.run pins s σ H _ I hq) fun u s1 ⟨x, H1, I1, rx, d, kvs, ex, hd, q⟩ => ?_))
  subst ex
  obtain rfl : u = Value.ref d := rx
  obtain ⟨o, es, ep, L⟩ := rawN (I1.hok d _ hd)
  obtain ⟨o', g1, g2, g3⟩ := L.raw
  have I2 : Inv X pins σ H1 { s1 with heap := s1.heap.push { cls := .type "dict_values", data := .fields #[.ref d] } } := I1.kept (t' := s1.toks) fun b ob q => Heap.get?_push_of_some _ q
  refine ⟨⟨_, g1, g2.1⟩, fun b z => by cases z; exact ⟨_, g1, g2.2.1⟩, ?_⟩
  show wpAny _ _ (callWith cpos (.builtin "dict.values") [.ref d] [] []) _ X.xe s1
  refine method_meetsIn F.slot_dict_values F.entry_dict_values rfl (PySem.evalArgs_none ⟨rfl, ⟨_, g1, g2.1⟩, F.args_dict_values_1 _, _, meets_dict_values_raw d L.sys, ⟨_, _, L.raw⟩, Calls.spliced_nil ?_⟩)
  refine PySem.W.kdl_call (KdlSrc.rawValues (d := d) (es := es) (ep := ep)) (I1.ok.hd hc) ⟨⟨_, Heap.get?_push_size _ rfl, rfl, rfl⟩, L.raw.at fun ob q => Heap.get?_push_of_some _ q⟩ (by rw [L.size]; exact L.len) fun h' tk acc c hk hS hacc => ?_
  have hv : Vals (kvs.map fun q => V.int q.2.2) acc.toList := by
    have hsz : acc.size = kvs.length := hacc.1.trans L.size
    refine vals_ents (by rw [Array.length_toList]; exact hsz.symm) fun i q hq => ?_
    obtain ⟨en, t, hen, _, hev⟩ := L.ent i q hq
    have hia : i < acc.size := by
      rw [hsz]
      exact (List.getElem?_eq_some_iff.mp hq).1
    obtain ⟨hi, e⟩ := hacc.2 i acc[i] (Array.getElem?_eq_getElem hia)
    rw [Array.getElem?_eq_getElem hi] at hen
    cases hen
    refine ⟨t, ?_⟩
    rw [Array.getElem?_toList, Array.getElem?_eq_getElem hia, e, hev]
  refine ⟨.ref _, _, I2.laid (t' := tk) (o := .lst (kvs.map fun q => V.int q.2.2)) hk (Nat.le_refl _) ⟨by rw [List.length_map]; exact L.len, acc.toList, c, hv, by rw [Array.toArray_toList]; exact hS⟩, rfl, q _ (I2.hok.fresh (Nat.le_refl _))⟩
end
end ND
set_option maxRecDepth 100000
set_option maxHeartbeats 4000000
namespace ND
open PySem PySem.Spec PyProof.Rows L2
/-- {k: v} -/
def tDisp1N (P : Program) (w : World) (tk tv : TE) : TE := fun σ H Q => ∀ p, H p = none → tk σ (upd H p (DictN P w p [])) fun y H1 => tv σ H1 fun v H2 => H2 p = some (DictN P w p []) ∧ ∃ b wy n, y = .ref b ∧ v = .int n ∧ KeyAt H2 wy b ∧ Q (.ref p) (upd H2 p (DictN P w p [(wy, b, n)]))
theorem pe_disp1N {X : Cx} {k v : Expr} {pos : Pos} {tk tv : TE} (hu : X.A.units + 64 < cLine) (hk : PE X k tk) (hv : PE X v tv) (hshape : (evalEachOpt [some k] X.env).zip ((evalEach [v] X.env).map fun v => do let x ← v; standAt pos; pure x) = (pairTrees [some k] [v] X.env pos).map (fun p => (some p.1, p.2)) := by rfl) : PE X (.Dict [some k] [v] pos) (tDisp1N X.prog X.w tk tv) := by
  refine ⟨fun pins s σ H Q I q => ?_⟩
  have hn := I.hok.fresh (Nat.le_refl s.heap.objs.size)
  have x : InHeap X.prog X.w (s.heap.push { cls := .type "dict", data := .dict #[] }) s.heap.objs.size [] [] :=
    ⟨Nat.zero_le _, beq_eq_false_iff_ne.mpr (Ne.symm (Nat.ne_of_lt I.big)), .nil, Heap.DictOfH.new s.heap⟩
  have I1 := I.laid (a := s.heap.objs.size) (o := DictN X.prog X.w s.heap.objs.size []) (h' := s.heap.push { cls := .type "dict", data := .dict #[] }) (t' := s.toks) (fun _ _ q => Heap.get?_push_of_some _ q) (Nat.le_refl _) (objOk_N x)
  have one : (pairTrees [some k] [v] X.env pos) ≠ [] ∧ (pairTrees [some k] [v] X.env pos).length ≤ 15 := ⟨fun z => (by cases z), by show 1 ≤ 15; decide⟩
  rw [arm_eval_Dict, hshape, dictDisplay_pairs _ one.1 (by omega)]
  refine wpAny_bind (wpAny_standAt (wpAny_bind (wpAny_subDictH (knd := nestedKind X.prog X.w) (by show X.A.units + 8 < cLine; omega) one.2 (thn ((pps_cons hk hv pps_nil).run pins _ σ _ (fun ps H2 => match ps with
    | [(y, v)] => H2 s.heap.objs.size = some (DictN X.prog X.w s.heap.objs.size []) ∧ ∃ b wy n, y = .ref b ∧ v = .int n ∧ KeyAt H2 wy b ∧ Q (.ref s.heap.objs.size) (upd H2 s.heap.objs.size (DictN X.prog X.w s.heap.objs.size [(wy, b, n)]))
    | _ => False) I1 (q _ hn)) fun ws s2 ⟨ps, H2, I2, rel, q2⟩ => ?_))))
  cases ps with
  | nil => exact False.elim q2
  | cons c r =>
    obtain ⟨y, v⟩ := c
    cases r with
    | cons _ _ => exact False.elim q2
    | nil =>
      obtain ⟨e, b, wy, n, ey, ev, kb, q3⟩ := q2
      subst ey ev
      obtain ⟨z1, z2, rfl, r1, r2⟩ : ∃ z1 z2, ws = [(z1, z2)] ∧ RelV (.ref b) z1 ∧ RelV (.int n) z2 := by
        cases rel with
        | cons ra rr =>
          cases rr
          exact ⟨_, _, rfl, ra.1, ra.2⟩
      obtain rfl : z1 = Value.ref b := r1
      obtain ⟨t, rfl⟩ := (show ∃ t, z2 = Value.int n t from r2)
      obtain ⟨xs, IH⟩ := inHeap I2.hok (.of e) (fun p hp => by cases hp)
      have hx : xs = [] := by
        have := IH.rel
        cases this
        rfl
      subst hx
      refine ⟨[(nkey wy, b, .int n t)], ⟨rfl, rfl, key_is I2.hok kb, trivial⟩, IH.dic, fun h' tk dd sb => ?_⟩
      have x' : InHeap X.prog X.w h' s.heap.objs.size [(wy, b, n)] [(nkey wy, b, .int n t)] := ⟨by show 1 ≤ sizeLine; decide, IH.sys, .cons ⟨rfl, rfl, t, rfl⟩ .nil, dd⟩
      obtain ⟨od, _, _, g1, _⟩ := id dd
      exact wpAny_pure ⟨.ref s.heap.objs.size, _, d_write (t' := tk) I2 (by rw [e]; exact True.intro) sb ⟨od, g1⟩ (objOk_N x'), rfl, q3⟩
end ND
set_option maxRecDepth 100000
set_option maxHeartbeats 4000000
namespace WS
open PySem L2 SetT RevS ND
/-! ### the table of ways: its total, its keys, how many there are -/
def tot (g : Way → Int) (kvs : Kvs) : Int := (kvs.map fun p => p.2.2 * g p.1).sum
theorem valN_cons (p : Way × Addr × Int) (r : Kvs) (x : Way) : valN (p :: r) x = if p.1 = x then some p.2.2 else valN r x := by
  unfold valN
  rw [List.find?_cons]
  by_cases h : p.1 = x
  · rw [decide_eq_true h, if_pos h] <;> rfl
  · rw [decide_eq_false h, if_neg h]
theorem valN_none {kvs : Kvs} {x : Way} (h : valN kvs x = none) : x ∉ kvs.map (·.1) := by
  induction kvs with
  | nil => intro z; exact nomatch z
  | cons p r ih =>
    rw [valN_cons] at h
    by_cases e : p.1 = x
    · rw [if_pos e] at h; cases h
    · rw [if_neg e] at h
      intro z
      rcases List.mem_cons.mp z with z | z
      · exact e z.symm
      · exact ih h z
theorem valN_some {kvs : Kvs} {x : Way} {c : Int} (h : valN kvs x = some c) : x ∈ kvs.map (·.1) := by
  induction kvs with
  | nil => cases h
  | cons p r ih =>
    rw [valN_cons] at h
    by_cases e : p.1 = x
    · rw [← e]; exact List.mem_cons_self
    · rw [if_neg e] at h
      exact List.mem_cons_of_mem _ (ih h)
theorem map_same (g : Way → Int) {x : Way} {b : Addr} {n : Int} : ∀ {r : Kvs}, x ∉ r.map (·.1) → (r.map fun p => if p.1 = x then (p.1, p.2.1, n) else p) = r
  | [], _ => rfl
  | p :: r, h => by
    have e : ¬ p.1 = x := fun e => h (by rw [← e]; exact List.mem_cons_self)
    rw [List.map_cons, if_neg e, map_same g (b := b) fun z => h (List.mem_cons_of_mem _ z)]
theorem tot_map (g : Way → Int) {x : Way} {c n : Int} : ∀ {kvs : Kvs}, (kvs.map (·.1)).Nodup → valN kvs x = some c → tot g (kvs.map fun p => if p.1 = x then (p.1, p.2.1, c + n) else p) = tot g kvs + n * g x
  | [], _, h => by cases h
  | p :: r, hN, h => by
    rw [valN_cons] at h
    rw [List.map_cons] at hN
    have hN' := List.nodup_cons.mp hN
    unfold tot
    by_cases e : p.1 = x
    · rw [if_pos e] at h
      have hx : x ∉ r.map (·.1) := fun z => hN'.1 (by rw [e]; exact z)
      rw [List.map_cons, if_pos e, map_same g (b := p.2.1) hx, List.map_cons, List.sum_cons, List.map_cons, List.sum_cons, Option.some.inj h, ← e]
      show (c + n) * g p.1 + _ = c * g p.1 + _ + n * g p.1
      rw [Int.add_mul]; omega
    · rw [if_neg e] at h
      have ih := tot_map g (n := n) hN'.2 h
      unfold tot at ih
      rw [List.map_cons, if_neg e, List.map_cons, List.sum_cons, List.map_cons, List.sum_cons, ih]
      omega
theorem tot_put (g : Way → Int) {kvs : Kvs} {x : Way} {b : Addr} {n : Int} (hN : (kvs.map (·.1)).Nodup) : tot g (putN kvs x b ((valN kvs x).getD 0 + n)) = tot g kvs + n * g x := by
  unfold putN
  cases h : valN kvs x with
  | none =>
    rw [if_neg (by simp)]
    unfold tot
    rw [List.map_append, List.sum_append]
    show _ + ((0 + n) * g x + 0) = _
    rw [Int.zero_add, Int.add_zero]
  | some c =>
    rw [if_pos (by simp)]
    exact tot_map g hN h
theorem putN_keys (kvs : Kvs) (x : Way) (b : Addr) (n : Int) : (putN kvs x b n).map (·.1) = if (valN kvs x).isSome then kvs.map (·.1) else kvs.map (·.1) ++ [x] := by
  unfold putN
  cases h : valN kvs x with
  | none => rw [if_neg (by simp), if_neg (by simp), List.map_append] <;> rfl
  | some c =>
    rw [if_pos (by simp), if_pos (by simp), List.map_map]
    refine List.map_congr_left fun p _ => ?_
    show (if p.1 = x then (p.1, p.2.1, n) else p).1 = p.1
    by_cases e : p.1 = x
    · rw [if_pos e]
    · rw [if_neg e]
theorem putN_nodup {kvs : Kvs} {x : Way} {b : Addr} {n : Int} (hN : (kvs.map (·.1)).Nodup) : ((putN kvs x b n).map (·.1)).Nodup := by
  rw [putN_keys]
  cases h : valN kvs x with
  | none =>
    rw [if_neg (by simp)]
    refine List.nodup_append.mpr ⟨hN, by simp, fun a ha c hc e => ?_⟩
    rw [List.mem_singleton.mp hc] at e
    exact valN_none h (e ▸ ha)
  | some c => rw [if_pos (by simp)]; exact hN
theorem putN_mem {kvs : Kvs} {x : Way} {b : Addr} {n : Int} {k : Way} (h : k ∈ (putN kvs x b n).map (·.1)) : k ∈ kvs.map (·.1) ∨ k = x := by
  rw [putN_keys] at h
  cases hv : valN kvs x with
  | none =>
    rw [hv, if_neg (by simp)] at h
    rcases List.mem_append.mp h with h | h
    · exact .inl h
    · exact .inr (List.mem_singleton.mp h)
  | some c => rw [hv, if_pos (by simp)] at h; exact .inl h
theorem putN_at {kvs : Kvs} {x : Way} {b : Addr} {n : Int} {H : Hp} (h : KeysAt H kvs) (hb : KeyAt H x b) : KeysAt H (putN kvs x b n) := by
  unfold putN
  cases hv : (valN kvs x).isSome
  · rw [if_neg (by simp)]
    intro p hp
    rcases List.mem_append.mp hp with hp | hp
    · exact h p hp
    · rw [List.mem_singleton.mp hp]; exact hb
  · rw [if_pos rfl]
    intro p hp
    obtain ⟨q, hq, rfl⟩ := List.mem_map.mp hp
    have := h q hq
    by_cases e : q.1 = x
    · rw [if_pos e]; exact this
    · rw [if_neg e]; exact this
theorem nodup_len {α : Type} [DecidableEq α] : ∀ {l m : List α}, l.Nodup → (∀ x ∈ l, x ∈ m) → l.length ≤ m.length
  | [], _, _, _ => Nat.zero_le _
  | x :: l, m, hN, h => by
    have hN' := List.nodup_cons.mp hN
    have hx := h x List.mem_cons_self
    have ih := nodup_len (l := l) (m := m.erase x) hN'.2 fun y hy => (List.mem_erase_of_ne (fun e : y = x => hN'.1 (by rw [← e]; exact hy))).mpr (h y (List.mem_cons_of_mem _ hy))
    rw [List.length_erase_of_mem hx] at ih
    have := List.length_pos_of_mem hx
    rw [List.length_cons]
    omega
theorem filter_split {α : Type} (q : α → Bool) : ∀ l : List α, (l.filter q).length + (l.filter fun x => !q x).length = l.length
  | [] => rfl
  | x :: l => by
    have ih := filter_split q l
    rw [List.filter_cons, List.filter_cons]
    cases q x
    · rw [if_neg (by simp), if_pos (by simp), List.length_cons, List.length_cons]; omega
    · rw [if_pos rfl, if_neg (by simp), List.length_cons, List.length_cons]; omega
def fall (b : Nat) : Nat → Nat
  | 0 => 1
  | k + 1 => fall b k * (b - k)
theorem flatLe {α β : Type} {g : α → List β} {m : Nat} : ∀ {l : List α}, (∀ x ∈ l, (g x).length ≤ m) → (l.map g).flatten.length ≤ l.length * m
  | [], _ => by simp
  | x :: l, h => by
    rw [List.map_cons, List.flatten_cons, List.length_append, List.length_cons, Nat.succ_mul]
    have := h x List.mem_cons_self
    have := flatLe (l := l) fun y hy => h y (List.mem_cons_of_mem _ hy)
    omega
theorem rowsN_fall {b : Int} (hb : 0 < b) : ∀ k, (rowsN b k).length ≤ fall b.toNat k
  | 0 => Nat.le_refl _
  | k + 1 => by
    show (longer b (rowsN b k)).length ≤ fall b.toNat k * (b.toNat - k)
    unfold longer
    refine Nat.le_trans (flatLe (m := b.toNat - k) fun row hrow => ?_) (Nat.mul_le_mul_right _ (rowsN_fall hb k))
    obtain ⟨r1, r2, r3⟩ := rows_mem hb hrow
    rw [List.length_map]
    have h1 := filter_split (fun v => decide (v ∈ row)) (upFrom 0 b.toNat)
    have h2 := nodup_len (l := row) (m := (upFrom 0 b.toNat).filter fun v => decide (v ∈ row)) r3 fun v hv => List.mem_filter.mpr ⟨mem_upFrom.mpr (by have := r2 v hv; omega), decide_eq_true hv⟩
    have h3 : (upFrom 0 b.toNat).length = b.toNat := by unfold upFrom; rw [List.length_map, List.length_range]
    omega
theorem fall_le {b k : Nat} (hb : b ≤ 12) (hk : k ≤ 7) : fall b k ≤ 3991680 := by
  have : ∀ b : Fin 13, ∀ k : Fin 8, fall b.val k.val ≤ 3991680 := by decide +kernel
  exact this ⟨b, by omega⟩ ⟨k, by omega⟩
/-- the way that comes of giving letters figures -/
def keyOf : Way → List (List Int) → List Int → Way
  | x, w :: ws, f :: row => keyOf (setT x.1 f, addV x.2 f w) ws row
  | x, _, _ => x
theorem keyOf_snoc : ∀ (x : Way) (ws : List (List Int)) (row : List Int) (w : List Int) (f : Int), ws.length = row.length → keyOf x (ws ++ [w]) (row ++ [f]) = (setT (keyOf x ws row).1 f, addV (keyOf x ws row).2 f w)
  | x, [], [], w, f, _ => rfl
  | x, [], _ :: _, w, f, h => by simp at h
  | x, _ :: _, [], w, f, h => by simp at h
  | x, u :: ws, g :: row, w, f, h => keyOf_snoc (setT x.1 g, addV x.2 g u) ws row w f (by simpa using h)
theorem keyOf_bit : ∀ (ws : List (List Int)) (row : List Int) (x : Way) (tk : List Int), ws.length = row.length → (∀ v ∈ row, 0 ≤ v) → (∀ f : Int, 0 ≤ f → bitT x.1 f = decide (f ∈ tk)) → ∀ f : Int, 0 ≤ f → bitT (keyOf x ws row).1 f = decide (f ∈ tk ++ row)
  | [], [], x, tk, _, _, h, f, hf => by rw [List.append_nil]; exact h f hf
  | [], _ :: _, _, _, h, _, _, _, _ => by simp at h
  | _ :: _, [], _, _, h, _, _, _, _ => by simp at h
  | w :: ws, g :: row, x, tk, hl, h0, h, f, hf => by
    have hg := h0 g List.mem_cons_self
    have := keyOf_bit ws row (setT x.1 g, addV x.2 g w) (tk ++ [g]) (by simpa using hl) (fun v hv => h0 v (List.mem_cons_of_mem _ hv)) (fun e he => by
      show bitT (setT x.1 g) e = _
      rw [bit_set hg he, h e he, Bool.eq_iff_iff]
      simp) f hf
    rw [List.append_assoc] at this
    exact this
theorem bit_zero (f : Int) : bitT 0 f = decide (f ∈ ([] : List Int)) := by
  show Nat.testBit (0 : Int).toNat f.toNat = _
  simp
/-- a longer row's way -/
theorem way_longer {b : Int} (hb : 0 < b) {k : Nat} {ws : List (List Int)} {w : List Int} {x0 : List Int} {x : Way} {f : Int} (hw : ws.length = k) (hf : 0 ≤ f ∧ f < b) (hx : ∃ row ∈ rowsN b k, x = keyOf (0, x0) ws row) (ht : bitT x.1 f = false) :
    ∃ row ∈ rowsN b (k + 1), (setT x.1 f, addV x.2 f w) = keyOf (0, x0) (ws ++ [w]) row := by
  obtain ⟨row, hrow, rfl⟩ := hx
  obtain ⟨r1, r2, r3⟩ := rows_mem hb hrow
  have hl : ws.length = row.length := by omega
  refine ⟨row ++ [f], ?_, (keyOf_snoc _ _ _ _ _ hl).symm⟩
  show row ++ [f] ∈ longer b (rowsN b k)
  unfold longer
  rw [List.mem_flatten]
  refine ⟨_, List.mem_map.mpr ⟨row, hrow, rfl⟩, List.mem_map.mpr ⟨f, List.mem_filter.mpr ⟨mem_upFrom.mpr (by omega), ?_⟩, rfl⟩⟩
  have h1 := keyOf_bit ws row (0, x0) [] hl (fun v hv => (r2 v hv).1) (fun g _ => bit_zero g) f hf.1
  rw [List.nil_append] at h1
  rw [h1] at ht
  rw [ht] <;> rfl
/-! the bits -/
theorem band_shl {t f : Int} (ht : 0 ≤ t) (hf : 0 ≤ f) : decide (V.int (Builtin.bitAnd t (1 * 2 ^ f.toNat)) = V.int 0) = !bitT t f := by
  have e1 : ((1 : Int) * 2 ^ f.toNat) = ((2 ^ f.toNat : Nat) : Int) := by rw [Int.one_mul]; exact (Int.natCast_pow 2 f.toNat).symm
  have e2 : t = ((t.toNat : Nat) : Int) := by omega
  rw [e1, e2, PySem.W.os_band]
  unfold bitT
  rw [Int.toNat_natCast]
  have key : (t.toNat &&& 2 ^ f.toNat) = (t.toNat.testBit f.toNat).toNat * 2 ^ f.toNat := by
    refine Nat.eq_of_testBit_eq fun i => ?_
    rw [Nat.testBit_and, Nat.testBit_two_pow]
    cases hb : t.toNat.testBit f.toNat
    · show _ = Nat.testBit (0 * 2 ^ f.toNat) i
      rw [Nat.zero_mul, Nat.zero_testBit]
      by_cases e : f.toNat = i
      · subst e; rw [hb] <;> rfl
      · rw [decide_eq_false e, Bool.and_false]
    · show _ = Nat.testBit (1 * 2 ^ f.toNat) i
      rw [Nat.one_mul, Nat.testBit_two_pow]
      by_cases e : f.toNat = i
      · subst e; rw [hb, Bool.true_and]
      · rw [decide_eq_false e, Bool.and_false]
  rw [key]
  have hp : 0 < 2 ^ f.toNat := Nat.two_pow_pos _
  cases t.toNat.testBit f.toNat
  · exact decide_eq_true (by show V.int ((0 * 2 ^ f.toNat : Nat) : Int) = _; rw [Nat.zero_mul] <;> rfl)
  · refine decide_eq_false fun e => ?_
    have e3 := V.int.inj e
    have e4 : ((1 * 2 ^ f.toNat : Nat) : Int) = 0 := e3
    omega
theorem bor_shl {t f : Int} (ht : 0 ≤ t) (hf : 0 ≤ f) : Builtin.bitOr t (1 * 2 ^ f.toNat) = setT t f := by
  have e1 : ((1 : Int) * 2 ^ f.toNat) = ((2 ^ f.toNat : Nat) : Int) := by rw [Int.one_mul]; exact (Int.natCast_pow 2 f.toNat).symm
  have h1 : (0 : Int) ≤ 1 * 2 ^ f.toNat := by rw [e1]; exact Int.natCast_nonneg _
  rw [Bits.bitOr_pp ht h1, e1, Int.toNat_natCast] <;> rfl
end WS
set_option maxRecDepth 100000
set_option maxHeartbeats 4000000
/-! zip of a tuple and a list -/
namespace ZM
open PySem PySem.Spec PyProof.Rows L2
def ItM (K : PySem.W.Frag) (a b : Addr) : It :=
  ⟨fun i H => ∃ (xs ys : List V) (x y : V), SqT K H a xs ∧ SqL K H b ys ∧ xs[i]? = some x ∧ ys[i]? = some y,
    fun i H v H' => ∃ T x y, v = .ref T ∧ H T = none ∧ H' = upd H T (.tup [x, y]) ∧ (∀ xs, SqT K H a xs → xs[i]? = some x) ∧ ∀ ys, SqL K H b ys → ys[i]? = some y,
    fun i H => ∃ xs ys : List V, SqT K H a xs ∧ SqL K H b ys ∧ ((xs.length = i ∧ i ≤ ys.length) ∨ (ys.length = i ∧ i ≤ xs.length))⟩
section
variable {P : Program} {w : World} {K : PySem.W.Frag} {elts : List Expr} {kk : Nat} {tpos : Pos} {a b z TI TO i1 i2 : Addr}
theorem five {c z TI TO i1 i2 : Addr} (h : c ∈ [z, TI, TO, i1, i2]) : c = z ∨ c = TI ∨ c = TO ∨ c = i1 ∨ c = i2 := by simpa using h
theorem notFive {c z TI TO i1 i2 : Addr} (h : c ∉ [z, TI, TO, i1, i2]) : c ≠ z ∧ c ≠ TI ∧ c ≠ TO ∧ c ≠ i1 ∧ c ≠ i2 := by simpa using h
theorem turnM (D : ZipSep2 z TI TO i1 i2 [i1, a] [i2, b]) :
    Turn P w K (.Tuple elts kk tpos) (ItM K a b) [z, TI, TO, i1, i2] z (fun i h => IsZip h z TI TO .none ∧ IsTupOf2 h TI (.ref i1) (.ref i2) ∧ (∃ x y, IsTupOf2 h TO x y) ∧ h.IsTupleIter i1 a i ∧ h.IsListIter i2 b i) where
  mem := List.mem_cons_self
  obj := fun i h ⟨hz, hTI, ⟨x, y, hTO⟩, ⟨o1, e1, _, d1⟩, ⟨o2, e2, _, d2⟩⟩ c hc => by
    rcases five hc with rfl | rfl | rfl | rfl | rfl
    · exact ⟨_, hz, fun v q => nomatch q⟩
    · exact ⟨_, hTI, fun v q => nomatch q⟩
    · exact ⟨_, hTO, fun v q => nomatch q⟩
    · exact ⟨o1, e1, fun v q => by rw [d1] at q; cases q⟩
    · exact ⟨o2, e2, fun v q => by rw [d2] at q; cases q⟩
  keep := fun i h h' ⟨hz, hTI, ⟨x, y, hTO⟩, h1, h2⟩ k =>
    ⟨k z (by simp) _ hz, k TI (by simp) _ hTI, ⟨x, y, k TO (by simp) _ hTO⟩, h1.at fun o q => k i1 (by simp) o q, h2.at fun o q => k i2 (by simp) o q⟩
  item := by
    intro X e1 e2 e3 hc i pins s σ H E I hf ⟨hz, hTI, ⟨x0, y0, hTO⟩, h1, h2⟩ ⟨xs, ys, x, y, hqx, hqy, hx, hy⟩
    subst e1 e2 e3
    obtain ⟨its, rv, p, _⟩ := I.tuple hqx
    obtain ⟨its2, rv2, p2, _⟩ := I.list hqy
    obtain ⟨u, hu, ru⟩ := rv.get hx
    obtain ⟨u2, hu2, ru2⟩ := rv2.get hy
    have hzl : z < s.heap.objs.size := Heap.lt_size hz
    have hh1 : X.A.in1.handled = none := I.ok.hd hc
    have ne1 : a ≠ i1 := by
      rintro rfl
      obtain ⟨o1, q1, c1, _⟩ := h1
      obtain ⟨o2, q2, c2, _⟩ := p
      rw [q1] at q2
      cases q2
      rw [c1] at c2
      exact absurd c2 (by decide)
    have ne2 : b ≠ i2 := by
      rintro rfl
      obtain ⟨o1, q1, c1, _⟩ := h2
      obtain ⟨o2, q2, c2, _⟩ := p2.isList
      rw [q1] at q2
      cases q2
      rw [c1] at c2
      exact absurd c2 (by decide)
    have l1 : i < its.toArray.size := by
      have := (List.getElem?_eq_some_iff.mp hu).1
      simpa using this
    have l2 : i < its2.toArray.size := by
      have := (List.getElem?_eq_some_iff.mp hu2).1
      simpa using this
    refine wpAny_pyNext_zipD2_item D (.tuple (A := X.A.in1) hh1 i1 a ne1 its.toArray) (.list (A := X.A.in1) hh1 i2 b ne2 its2.toArray) hz hTI hTO ⟨h1, p⟩ ⟨h2, p2.isList⟩ l1 l2 fun v1 v2 h' tk g1 g2 z' TO' st1 st2 hT hsz hk => ?_
    have q1 : v1 = u := by
      have : its[i]? = some v1 := by simpa using g1
      rw [hu] at this
      exact (Option.some.inj this).symm
    have q2 : v2 = u2 := by
      have : its2[i]? = some v2 := by simpa using g2
      rw [hu2] at this
      exact (Option.some.inj this).symm
    subst q1 q2
    refine ⟨_, rfl, wpAny_letOwnedTupleGo_zip (s := { s with heap := h', toks := tk }) z' fun h'' z'' sb => ?_⟩
    have hT2 : h''.get? s.heap.objs.size = some { cls := .type "tuple", data := .seq #[v1, v2] } := (sb.2 _ (Nat.ne_of_gt hzl)).trans hT
    have new : ObjOk X.prog X.w (upd H s.heap.objs.size (.tup [x, y])) h'' s.heap.objs.size (.tup [x, y]) :=
      ⟨by show 2 ≤ sizeLine; decide, [v1, v2], .cons ru (.cons ru2 .nil), ⟨_, hT2, rfl, _, rfl⟩⟩
    have I1 : Inv X pins σ (upd H s.heap.objs.size (.tup [x, y])) { s with heap := h'', toks := tk } :=
      I.turnedNew (t' := tk) (ch := [z, TI, TO, i1, i2]) (fun c o hb q => by
        obtain ⟨n0, n1, n2, n3, n4⟩ := notFive hb
        exact (sb.2 c n0).trans (hk c o n0 n2 n3 n4 q)) hf (Nat.le_refl _) new
    have i1z : i1 ≠ z := fun e => D.zi1 e.symm
    have i2z : i2 ≠ z := fun e => D.zi2 e.symm
    refine ⟨.ref s.heap.objs.size, _, I1, rfl, ⟨_, x, y, rfl, I.hok.fresh (Nat.le_refl _), rfl, fun l hl => by rw [I.tuple_inj hl hqx]; exact hx, fun l hl => by rw [I.list_inj hl hqy]; exact hy⟩, ⟨z'', ?_, ⟨v1, v2, ?_⟩, ?_, ?_⟩, fun c hcm => ?_⟩
    · have nTI2 : TI ≠ i2 := D.TIi2
      exact (sb.2 _ D.TIz).trans (hk _ _ D.TIz D.TITO D.TIi1 nTI2 hTI)
    · exact (sb.2 _ D.TOz).trans TO'
    · exact st1.1.at fun o q => (sb.2 _ i1z).trans q
    · exact st2.1.at fun o q => (sb.2 _ i2z).trans q
    · have hlt : c < s.heap.objs.size := by
        rcases five hcm with rfl | rfl | rfl | rfl | rfl
        · exact hzl
        · exact Heap.lt_size hTI
        · exact Heap.lt_size hTO
        · obtain ⟨_, e1, _⟩ := h1; exact Heap.lt_size e1
        · obtain ⟨_, e2, _⟩ := h2; exact Heap.lt_size e2
      rw [upd_ne (Nat.ne_of_lt hlt)]
      exact (hf c hcm).1
  done := by
    intro X e1 e2 e3 hc i pins s σ H E I hf ⟨hz, hTI, ⟨x0, y0, hTO⟩, h1, h2⟩ ⟨xs, ys, hqx, hqy, hend⟩
    subst e1 e2 e3
    obtain ⟨its, rv, p, _⟩ := I.tuple hqx
    obtain ⟨its2, rv2, p2, _⟩ := I.list hqy
    have hh1 : X.A.in1.handled = none := I.ok.hd hc
    have ne1 : a ≠ i1 := by
      rintro rfl
      obtain ⟨o1, q1, c1, _⟩ := h1
      obtain ⟨o2, q2, c2, _⟩ := p
      rw [q1] at q2
      cases q2
      rw [c1] at c2
      exact absurd c2 (by decide)
    have ne2 : b ≠ i2 := by
      rintro rfl
      obtain ⟨o1, q1, c1, _⟩ := h2
      obtain ⟨o2, q2, c2, _⟩ := p2.isList
      rw [q1] at q2
      cases q2
      rw [c1] at c2
      exact absurd c2 (by decide)
    have l1 : its.toArray.size = xs.length := by rw [rv.length]; simp
    have l2 : its2.toArray.size = ys.length := by rw [rv2.length]; simp
    refine wpAny_pyNext_zipD2_end D (.tuple (A := X.A.in1) hh1 i1 a ne1 its.toArray) (.list (A := X.A.in1) hh1 i2 b ne2 its2.toArray) hz hTI hTO ⟨h1, p⟩ ⟨h2, p2.isList⟩ (by omega) (by omega) (by omega) fun h' tk hk => ⟨rfl, I.turnedL (t' := tk) (ch := [z, TI, TO, i1, i2]) (fun c o hb q => ?_) hf⟩
    obtain ⟨n0, n1, n2, n3, n4⟩ := notFive hb
    exact hk c o n0 n2 n3 n4 q
  self := fun A i s Q E st h => wpAny_pyIter_zip st.1 h
end
def iZipM (K : PySem.W.Frag) (ta : TA) : TI := fun σ H R => ta σ H fun vs H1 => ∃ a b xs ys, vs = [.ref a, .ref b] ∧ SqT K H1 a xs ∧ SqL K H1 b ys ∧ R (ItM K a b) H1
theorem walkM {K : PySem.W.Frag} {a b : Addr} {xs ys : List V} (hl : xs.length = ys.length) : Walk (ItM K a b) xs.length (fun H => SqT K H a xs ∧ SqL K H b ys) (YPair (fun i => xs[i]?) (fun i => ys[i]?)) := by
  refine ⟨fun i _ hi q => ?_, fun _ q => ⟨xs, ys, q.1, q.2, .inl ⟨rfl, Nat.le_of_eq hl⟩⟩, fun i H v H' _ q y => ?_⟩
  · exact ⟨xs, ys, xs[i], ys[i]'(by omega), q.1, q.2, List.getElem?_eq_getElem hi, List.getElem?_eq_getElem (by omega)⟩
  · obtain ⟨T, x, z, h1, h2, h3, h4, h5⟩ := y
    exact ⟨T, x, z, h1, h2, h3, h4 xs q.1, h5 ys q.2⟩
theorem pi_zipM {X : Cx} {e e2 : Expr} {ta : TA} {p pos tpos : Pos} {elts : List Expr} {kk : Nat} (hg : Gl X "zip") (hm : X.mg "zip" = none) (ha : PA X [e, e2] ta)
    (hs : starEach [e, e2] X.env = (false, eval e X.env) :: starEach [e2] X.env := by rfl) (hpl : (backTo pos (starEach [e2] X.env)).any (·.1) = false := by rfl) :
    PI X (.Tuple elts kk tpos) (.Call (.Name "zip" p) [e, e2] [] pos) (iZipM X.K ta) := by
  refine ⟨fun pins s σ H R I h => ?_⟩
  refine Call_ (ld_blt I hg hm PyProof.Rows.boot_zip (PyProof.Rows.callWith_type1 (thn (ha.run pos pins s σ H _ I h) fun us s1 ⟨vs, H1, I1, r1, a, b, xs, ys, ex, hqx, hqy, q⟩ => ?_) hs hpl))
  subst ex
  obtain ⟨u1, u2, rfl, r1', r2'⟩ := vals2 r1
  obtain rfl : u1 = Value.ref a := r1'
  obtain rfl : u2 = Value.ref b := r2'
  obtain ⟨its, rv, p1, _⟩ := I1.tuple hqx
  obtain ⟨its2, rv2, p2, _⟩ := I1.list hqy
  have la : a < s1.heap.objs.size := by obtain ⟨o, e, _⟩ := id p1; exact Heap.lt_size e
  have lb : b < s1.heap.objs.size := p2.lt
  refine zip_begins2 (begins_tuple a its.toArray) (begins_list b its2.toArray) p1 p2.isList fun h' hz hTI hTO g1 g2 hsz hk => wpAny_pyIter_zip hz ?_
  have I2 : Inv X pins σ H1 { s1 with heap := h' } := I1.kept (t' := s1.toks) hk
  have fresh5 : ∀ c, c ∈ [s1.heap.objs.size + 4, s1.heap.objs.size + 2, s1.heap.objs.size + 3, s1.heap.objs.size, s1.heap.objs.size + 1] → FpOk X pins H1 c := fun c hcm => by
    have hle : s1.heap.objs.size ≤ c := by
      rcases five hcm with rfl | rfl | rfl | rfl | rfl
      · exact Nat.le_add_right _ _
      · exact Nat.le_add_right _ _
      · exact Nat.le_add_right _ _
      · exact Nat.le_refl _
      · exact Nat.le_add_right _ _
    exact I1.fpOk hle (I1.hok.fresh hle)
  exact ⟨s1.heap.objs.size + 4, _, _, _, H1, rfl, I2, turnM (zip_sep2 (fp1 := [a]) (fp2 := [b]) (fun c hc => by rw [List.mem_singleton.mp hc]; exact la) (fun c hc => by rw [List.mem_singleton.mp hc]; exact lb)), ⟨hz, hTI, ⟨_, _, hTO⟩, ⟨_, g1, rfl, rfl⟩, ⟨_, g2, rfl, rfl⟩⟩, fresh5, q⟩
end ZM
set_option maxRecDepth 100000
set_option maxHeartbeats 4000000
namespace WS
open PySem L2
def spLaw (K : PySem.W.Frag) : Sp := fun vs H Q _ => ∃ (a : Addr) (ns : List Int), vs = [.ref a] ∧ SqL K H a (ns.map V.int) ∧ ∀ H', Q (.bl true) H'
theorem old_of {C x dx : Addr} {H H3 : Hp} (nx : H x = none) (ndx : H dx = none) (kp : ∀ a o, a ≠ x → (upd (upd H dx (.own x)) x (.ins C dx [])) a = some o → H3 a = some o) : Same H H3 := fun b o e => by
  have hbx := ne_of_none e nx
  have hbd := ne_of_none e ndx
  exact kp b o hbx (by rw [upd_ne hbx, upd_ne hbd]; exact e)
theorem refs_off {K : PySem.W.Frag} {H : Hp} {d a l : Addr} {ns : List Int} {ts : List Addr} (D : Dice K H d a ns) (hl : H l = some (.lst (ts.map V.ref))) : l ≠ d := by
  intro e
  subst e
  obtain ⟨i, m, c, h, _⟩ := D.ex
  rw [h] at hl
  have := HO.lst.inj (Option.some.inj hl)
  rcases ts with _ | ⟨x, _ | ⟨y, r⟩⟩
  · cases this
  · cases this
  · injection this with _ h2
    injection h2 with h3 _
    cases h3
end WS
set_option maxRecDepth 100000
set_option maxHeartbeats 8000000
namespace WS
open PySem L2 SetT RevS
/-- spans: pairs of two numbers each -/
structure SpAt (H : Hp) (ps : List Addr) (sp : List (Int × Int)) : Prop where
  len : ps.length = sp.length
  get : ∀ (i : Nat) (p : Addr) (x : Int × Int), ps[i]? = some p → sp[i]? = some x → H p = some (.tup [.int x.1, .int x.2])
theorem SpAt.same {H H' : Hp} (e : Same H H') {ps : List Addr} {sp : List (Int × Int)} (h : SpAt H ps sp) : SpAt H' ps sp := ⟨h.len, fun i p x a b => e _ _ (h.get i p x a b)⟩
def inSpan (p : Int × Int × Int) : Bool := decide (p.2.1 ≤ p.1) && decide (p.1 ≤ p.2.2)
def spWithin : Sp := fun vs H Q _ => ∃ (S R : Addr) (v : List Int) (ps : List Addr) (sp : List (Int × Int)), vs = [.ref S, .ref R] ∧ H S = some (.tup (v.map V.int)) ∧ H R = some (.lst (ps.map V.ref)) ∧ SpAt H ps sp ∧ sp.length = v.length ∧ v.length ≤ 1000 ∧ ∀ H', Same H H' → Q (.bl (within v sp)) H'
section
variable {P : Program} {w : World} {K : PySem.W.Frag} {mg : Str → Option Value} {base : Heap}
theorem scWithin : FnScope ["numbers", "spans", "number", "least", "most"] ["numbers", "spans"] (defScope sIsWithin) := ⟨rfl, rfl, rfl, by decide +kernel, rfl, by decide +kernel, by decide +kernel⟩
theorem ok_within {f : Addr} {fd : FuncData} (F : Fun K "is_within" "is_within" sIsWithin f fd) (z_all : mg "all" = none) (z_zip : mg "zip" = none) :
    FnOk P w K mg base CX0 1 f fd ["numbers", "spans"] spWithin := by
  refine F.ok scWithin (fun vs H Q E h => ?_) (fun cdv A outer s H vs Q E hr h => ?_)
  · obtain ⟨S, R, v, ps, sp, rfl, _⟩ := h
    rfl
  · obtain ⟨S, R, v, ps, sp, rfl, hS, hR, hsp, hl, hv, k⟩ := h
    have nd := scWithin.nd
    have hpl : ps.length = v.length := hsp.len.trans hl
    refine ⟨_, (pss_one (ps_ret (pe_callB (cr_all rfl) (by rfl) z_all (by decide +kernel) (pa_cons (pe_lc (own := [("number", 2), ("least", 3), ("most", 4)]) (g := (gTup K 2 (gCons (gName 2) (gCons (gTup K 2 (gCons (gName 3) (gCons (gName 4) gNil))) gNil)))) (tt := tYes) rfl nd (ZM.pi_zipM (by rfl) z_zip (pa_cons (pv 0) (pa_cons (pv 1) pa_nil))) (blkOk_by (own := [("number", 2), ("least", 3), ("most", 4)]) (N := ["numbers", "spans", "number", "least", "most"]) (sc := defScope sIsWithin) (by decide +kernel)) (fun _ _ _ _ _ => (pg_tup rfl (pgs_cons (pg_name (i := 2) nd rfl (.inl rfl)) (pgs_cons (pg_tup rfl (pgs_cons (pg_name (i := 3) nd rfl (.inl rfl)) (pgs_cons (pg_name (i := 4) nd rfl (.inl rfl)) pgs_nil))) pgs_nil)))) (fun _ _ _ _ _ => pts_nil) (fun _ _ _ _ _ => (pe_chain op_le op_le (pv 3) (pv 2) (pv 4)))) pa_nil)))), ?_⟩
    refine ⟨_, rfl, _, rfl, S, R, _, _, rfl, SqT.of hS, SqL.of hR, fun D hD => ?_⟩
    refine lc_it (ZM.walkM (xs := v.map V.int) (ys := ps.map V.ref) (by rw [List.length_map, List.length_map, hpl])) (fun j H4 => Same H H4 ∧ H4 D = some (.lst (((v.zip sp).take j).map fun p => V.bl (inSpan p))))
      ⟨Same.new hD, upd_same⟩ (fun j H4 _ ⟨s4, _⟩ => ⟨SqT.of (s4 _ _ hS), SqL.of (s4 _ _ hR)⟩) ?_ ?_
    · rintro j x H4 H5 hj ⟨s4, hD4⟩ ⟨T, x1, x2, rfl, hT, rfl, e1, e2⟩
      rw [List.length_map] at hj
      have hx : v[j]? = some v[j] := List.getElem?_eq_getElem hj
      generalize v[j] = x at hx
      have e1' : x1 = .int x := by
        have e3 : (v.map V.int)[j]? = some x1 := e1
        rw [List.getElem?_map, hx] at e3
        exact (Option.some.inj e3).symm
      subst e1'
      have hp : ps[j]? = some (ps[j]'(by omega)) := List.getElem?_eq_getElem (by omega)
      generalize ps[j]'(by omega) = p at hp
      have hq : sp[j]? = some (sp[j]'(by omega)) := List.getElem?_eq_getElem (by omega)
      generalize sp[j]'(by omega) = q at hq
      have e2' : x2 = .ref p := by
        have e3 : (ps.map V.ref)[j]? = some x2 := e2
        rw [List.getElem?_map, hp] at e3
        exact (Option.some.inj e3).symm
      subst e2'
      have s5 : Same H4 (upd H4 T (.tup [.int x, .ref p])) := Same.new hT
      have hT5 : (upd H4 T (.tup [.int x, .ref p])) T = some (.tup [.int x, .ref p]) := upd_same
      generalize upd H4 T (.tup [.int x, .ref p]) = H5 at s5 hT5
      have hp5 := s5 _ _ (s4 _ _ (hsp.get j p q hp hq))
      have hD5 := s5 _ _ hD4
      have hz : (v.zip sp)[j]? = some (x, q) := by rw [List.getElem?_zip_eq_some]; exact ⟨hx, hq⟩
      have fin : ∀ y : V, y = V.bl (inSpan (x, q)) → ∃ acc, H5 D = some (.lst acc) ∧ acc.length < sizeLine ∧ Same H (upd H5 D (.lst (acc ++ [y]))) ∧ (upd H5 D (.lst (acc ++ [y]))) D = some (.lst (((v.zip sp).take (j + 1)).map fun p => V.bl (inSpan p))) := by
        intro y hy
        subst hy
        refine ⟨_, hD5, ?_, Same.mut (s4.trans s5) hD, ?_⟩
        · rw [List.length_map, List.length_take]
          exact line_lt (by omega)
        · rw [upd_same, take_snoc hz, List.map_append] <;> rfl
      refine ⟨T, _, rfl, SqT.of hT5, rfl, _, _, rfl, _, _, rfl, p, _, rfl, SqT.of hp5, rfl, _, _, rfl, _, _, rfl, rfl, rfl, rfl, ?_⟩
      refine ⟨_, rfl, _, rfl, _, _, rfl, rfl, _, rfl, ite2 (fun h1 => ?_) (fun h1 => ?_)⟩
      · refine ⟨_, rfl, _, _, rfl, rfl, fin _ ?_⟩
        unfold inSpan
        rw [h1, Bool.true_and]
      · refine fin _ ?_
        unfold inSpan
        rw [eq_false_of_ne_true h1, Bool.false_and]
    · rintro H4 ⟨s4, hD4⟩
      rw [List.length_map] at hD4
      rw [List.take_of_length_le (by rw [List.length_zip]; omega)] at hD4
      refine ⟨D, (v.zip sp).map inSpan, rfl, SqL.of (by rw [hD4, List.map_map] <;> rfl), ?_⟩
      have e2 : ((v.zip sp).map inSpan).all id = within v sp := by
        rw [List.all_map]
        rfl
      rw [e2]
      exact k _ s4
end
end WS
set_option maxRecDepth 100000
set_option maxHeartbeats 8000000
namespace WS
open PySem L2 SetT RevS ND
/-- what the ways that come of a way tell, when one more letter gets one of some figures -/
def stepN (g : Way → Int) (ws : List Int) (x : Way) (n : Int) (fs : List Int) : Int := (fs.map fun f => if bitT x.1 f then 0 else n * g (setT x.1 f, addV x.2 f ws)).sum
def stepTot (g : Way → Int) (ws fs : List Int) (kvs : Kvs) : Int := (kvs.map fun p => stepN g ws p.1 p.2.2 fs).sum
/-- the ways that have come of some ways -/
structure Grown (m : Nat) (ws fs : List Int) (sp : List (Int × Int)) (kvs out : Kvs) : Prop where
  nd : (out.map (·.1)).Nodup
  from_ : ∀ k ∈ out.map (·.1), 0 ≤ k.1 ∧ k.2.length = m ∧ within k.2 sp = true ∧ ∃ p ∈ kvs, ∃ f ∈ fs, bitT p.1.1 f = false ∧ k = (setT p.1.1 f, addV p.1.2 f ws)
section
variable {P : Program} {w : World} {K : PySem.W.Frag} {mg : Str → Option Value} {base : Heap}
theorem scMore : FnScope ["ways", "weights", "figures", "spans", "grown", "taken", "more", "count", "figure", "sums", "way", "number", "weight"] ["ways", "weights", "figures", "spans"] (defScope sWithOneMore) := ⟨rfl, rfl, rfl, by decide +kernel, rfl, by decide +kernel, by decide +kernel⟩
def spOneMore (P : Program) (w : World) : Sp := fun vs H Q _ => ∃ (D W F R : Addr) (kvs : Kvs) (ws fs : List Int) (ps : List Addr) (sp : List (Int × Int)) (m : Nat) (M : List Way), vs = [.ref D, .ref W, .ref F, .ref R] ∧ H D = some (DictN P w D kvs) ∧ KeysAt H kvs ∧
  H W = some (.lst (ws.map V.int)) ∧ H F = some (.lst (fs.map V.int)) ∧ H R = some (.lst (ps.map V.ref)) ∧ SpAt H ps sp ∧ sp.length = m ∧ ws.length = m ∧ m ≤ 1000 ∧ (∀ p ∈ kvs, 0 ≤ p.1.1 ∧ p.1.2.length = m) ∧ (∀ f ∈ fs, 0 ≤ f ∧ f ≤ 1000) ∧
  M.length < sizeLine ∧ (∀ p ∈ kvs, ∀ f ∈ fs, bitT p.1.1 f = false → within (addV p.1.2 f ws) sp = true → (setT p.1.1 f, addV p.1.2 f ws) ∈ M) ∧
  ∀ q H' out, H q = none → Same H H' → H' q = some (DictN P w q out) → KeysAt H' out → Grown m ws fs sp kvs out → (∀ g : Way → Int, (∀ k : Way, k.2.length = m → within k.2 sp = false → g k = 0) → tot g out = stepTot g ws fs kvs) → Q (.ref q) H'
theorem ok_more {f fI : Addr} {fd fdI : FuncData} (F : Fun K "with_one_more" "with_one_more" sWithOneMore f fd) (z_tuple : mg "tuple" = none) (z_zip : mg "zip" = none)
    (S_is_within : Site K mg "is_within" fI fdI ["numbers", "spans"]) (G_is_within : FnOk P w K mg base CX0 1 fI fdI ["numbers", "spans"] spWithin) :
    FnOk P w K mg base CX0 2 f fd ["ways", "weights", "figures", "spans"] (spOneMore P w) := by
  refine F.ok scMore (fun vs H Q E h => ?_) (fun cdv A outer s H vs Q E hr h => ?_)
  · obtain ⟨D, W, F, R, kvs, ws, fs, ps, sp, m, M, rfl, _⟩ := h
    rfl
  · obtain ⟨D, W, F, R, kvs, ws, fs, ps, sp, m, M, rfl, hD, hK, hW, hF, hR, hsp, hsl, hwl, hm, hkv, hfs, hM, hin, k⟩ := h
    have nd := scMore.nd
    have hu64 : (A.deeper (PyProof.Rows.envOfC "with_one_more" (defScope sWithOneMore) s.heap.objs.size f cdv)).units + 64 < cLine := by have := hr.un; omega
    have hr_is_within : Room 1 _ := hr
    refine ⟨_, (pss_cons (ps_set (i := 4) nd rfl (.inl rfl) (ND.pe_dnewN))
      (pss_cons (ps_lock (ps_for PassesOwn.never rfl (ND.pi_itemsN (pv 0)) (pg_tup rfl (pgs_cons (pg_tup rfl (pgs_cons (pg_name (i := 5) nd rfl (.inl rfl)) (pgs_cons (pg_name (i := 6) nd rfl (.inl rfl)) pgs_nil))) (pgs_cons (pg_name (i := 7) nd rfl (.inl rfl)) pgs_nil))) (pss_one (ps_for PassesOwn.never rfl (pi_list (pv 2)) (pg_name (i := 8) nd rfl (.inr rfl)) (pss_cons (ps_set (i := 9) nd rfl (.inl rfl) (pe_callTy call_tuple_of (by rfl) z_tuple (by decide +kernel) (pa_cons (pe_lc (own := [("number", 11), ("weight", 12)]) (g := (gTup K 2 (gCons (gName 11) (gCons (gName 12) gNil)))) (tt := tYes) rfl nd (ZM.pi_zipM (by rfl) z_zip (pa_cons (pv 6) (pa_cons (pv 1) pa_nil))) (blkOk_by (own := [("number", 11), ("weight", 12)]) (N := ["ways", "weights", "figures", "spans", "grown", "taken", "more", "count", "figure", "sums", "way", "number", "weight"]) (sc := defScope sWithOneMore) (by decide +kernel)) (fun _ _ _ _ _ => (pg_tup rfl (pgs_cons (pg_name (i := 11) nd rfl (.inl rfl)) (pgs_cons (pg_name (i := 12) nd rfl (.inl rfl)) pgs_nil)))) (fun _ _ _ _ _ => pts_nil) (fun _ _ _ _ _ => (pe_op op_add (pv 11) (pe_op op_mul (pv 8) (pv 12))))) pa_nil)))
      (pss_one (ps_if (PW.pt (pw_and (pt_cmpR op_eq (pe_op op_and (pv 5) (pe_op op_shl pe_int (pv 8))) pe_int (nomark _)) (pw_and1 (pt_val (pe_call G_is_within hr_is_within (by rfl) S_is_within.g S_is_within.k S_is_within.b .nil pass0 (pa_cons (pv 9) (pa_cons (pv 3) pa_nil))))))) (pss_cons (ps_set (i := 10) nd rfl (.inl rfl) (pe_tup (pa_cons (pe_op op_or (pv 5) (pe_op op_shl pe_int (pv 8))) (pa_cons (pv 9) pa_nil))))
      (pss_one (ND.ps_dputN hu64 (pv 4) (pv 10) (pe_op op_add (ND.pe_dget2N hu64 (pv 4) (pv 10) pe_int ⟨rfl, rfl, rfl, rfl⟩) (pv 7)) rfl))) pss_nil)))))))
      (pss_one (ps_ret (pv 4))))), ?_⟩
    intro o ho
    have hoD : o ≠ D := fun e => by rw [e, hD] at ho; cases ho
    refine ⟨D, _, (upd_ne (Ne.symm hoD)).trans hD, trivial, fun od => ?_⟩
    have hB0 : (upd H D (.frz od (DictN P w D kvs))) o = none := (upd_ne hoD).trans ho
    have hBD : (upd H D (.frz od (DictN P w D kvs))) D = some (.frz od (DictN P w D kvs)) := upd_same
    have nDt : ∀ c u, H c = some u → (∀ z, u ≠ .ext z) → c ≠ D := fun c u e h z => by
      rw [z, hD] at e
      exact h _ (Option.some.inj e).symm
    have keepB : ∀ c u, H c = some u → c ≠ D → (upd H D (.frz od (DictN P w D kvs))) c = some u := fun c u e h => (upd_ne h).trans e
    have hWB := keepB W _ hW (nDt W _ hW fun z h => by cases h)
    have hFB := keepB F _ hF (nDt F _ hF fun z h => by cases h)
    have hRB := keepB R _ hR (nDt R _ hR fun z h => by cases h)
    have hspB : SpAt (upd H D (.frz od (DictN P w D kvs))) ps sp := ⟨hsp.len, fun i p x a b => keepB p _ (hsp.get i p x a b) (nDt p _ (hsp.get i p x a b) fun z h => by cases h)⟩
    have hKB : KeysAt (upd H D (.frz od (DictN P w D kvs))) kvs := hK.same fun c xs e => keepB c _ e (nDt c _ e fun z h => by cases h)
    have back : ∀ H4 : Hp, Same (upd H D (.frz od (DictN P w D kvs))) H4 → H4 D = some (.frz od (DictN P w D kvs)) ∧ Same H (upd H4 D (DictN P w D kvs)) := fun H4 s4 => ⟨s4 _ _ hBD, fun c u e => by
      by_cases h : c = D
      · subst h; rw [upd_same, ← hD]; exact e
      · rw [upd_ne h]; exact s4 _ _ ((upd_ne h).trans e)⟩
    have sB : Same (upd H D (.frz od (DictN P w D kvs))) (upd (upd H o (DictN P w o [])) D (.frz od (DictN P w D kvs))) := fun c u e => by
      by_cases h : c = D
      · subst h; rw [upd_same] at e ⊢; exact e
      · have hc : c ≠ o := fun z => by rw [z, hB0] at e; cases e
        rw [upd_ne h] at e
        rw [upd_ne h, upd_ne hc]; exact e
    have hoB : (upd (upd H o (DictN P w o [])) D (.frz od (DictN P w D kvs))) o = some (DictN P w o []) := (upd_ne hoD).trans upd_same
    refine ⟨_, rfl, D, od, kvs, rfl, upd_same, for_it ND.walkN (fun i σ H2 => ∃ v5 v6 v7 v8 v9 v10 out, σ = [some (.ref D), some (.ref W), some (.ref F), some (.ref R), some (.ref o), v5, v6, v7, v8, v9, v10, none, none] ∧ Same (upd H D (.frz od (DictN P w D kvs))) H2 ∧ H2 o = some (DictN P w o out) ∧ KeysAt H2 out ∧ Grown m ws fs sp kvs out ∧ (∀ y ∈ out.map (·.1), y ∈ M) ∧ ∀ g : Way → Int, (∀ y : Way, y.2.length = m → within y.2 sp = false → g y = 0) → tot g out = stepTot g ws fs (kvs.take i))
      ⟨none, none, none, none, none, none, [], rfl, sB, hoB, (fun p hp => nomatch hp), ⟨List.nodup_nil, fun y hy => nomatch hy⟩, (fun y hy => nomatch hy), fun g _ => rfl⟩ (fun i σ H2 _ ⟨_, _, _, _, _, _, _, _, s2, _⟩ => s2 _ _ hBD) ?_ ?_⟩
    · rintro i x σ H2 H3 hi ⟨v5, v6, v7, v8, v9, v10, out, rfl, s2, ho2, hK2, hG, hin2, ht⟩ ⟨T, p, hp, rfl, hT, rfl⟩
      have hpm := List.mem_of_getElem? hp
      have s3 : Same H2 (upd H2 T (.tup [.ref p.2.1, .int p.2.2])) := Same.new hT
      have hT3 : (upd H2 T (.tup [.ref p.2.1, .int p.2.2])) T = some (.tup [.ref p.2.1, .int p.2.2]) := upd_same
      have ho3 := s3 _ _ ho2
      have hK3 : KeysAt (upd H2 T (.tup [.ref p.2.1, .int p.2.2])) out := hK2.same fun c xs e => s3 _ _ e
      have sB3 := s2.trans s3
      generalize upd H2 T (.tup [.ref p.2.1, .int p.2.2]) = H3 at s3 hT3 ho3 hK3 sB3
      obtain ⟨u, hb, hu⟩ := hKB p hpm
      have hb3 := sB3 _ _ hb
      obtain ⟨hp0, hpl⟩ := hkv p hpm
      refine ⟨T, _, rfl, SqT.of hT3, rfl, _, _, rfl, p.2.1, _, rfl, SqT.of hb3, rfl, _, _, rfl, _, _, rfl, rfl, _, _, rfl, rfl, ?_⟩
      refine ⟨_, rfl, F, rfl, ⟨_, SqL.of (sB3 _ _ hFB)⟩, for_list (K := K) (a := F) (xs := fs.map V.int) (fun j σ H4 => ∃ v8 v9 v10 out, σ = [some (.ref D), some (.ref W), some (.ref F), some (.ref R), some (.ref o), some (.int p.1.1), some (.ref u), some (.int p.2.2), v8, v9, v10, none, none] ∧ Same (upd H D (.frz od (DictN P w D kvs))) H4 ∧ H4 o = some (DictN P w o out) ∧ KeysAt H4 out ∧ Grown m ws fs sp kvs out ∧ (∀ y ∈ out.map (·.1), y ∈ M) ∧ ∀ g : Way → Int, (∀ y : Way, y.2.length = m → within y.2 sp = false → g y = 0) → tot g out = stepTot g ws fs (kvs.take i) + stepN g ws p.1 p.2.2 (fs.take j))
        ⟨v8, v9, v10, out, rfl, sB3, ho3, hK3, hG, hin2, fun g hg => by rw [ht g hg]; show _ = _ + 0; rw [Int.add_zero]⟩ (fun j σ H4 _ ⟨_, _, _, _, _, s4, _⟩ => SqL.of (s4 _ _ hFB)) ?_ ?_⟩
      · rintro j x σ H4 hj ⟨v8, v9, v10, out, rfl, s4, ho4, hK4, hG, hin4, ht4⟩
        obtain ⟨f0, hf, rfl⟩ : ∃ f0, fs[j]? = some f0 ∧ x = .int f0 := by
          rw [List.getElem?_map] at hj
          cases e : fs[j]? with
          | none => rw [e] at hj; cases hj
          | some c => rw [e] at hj; exact ⟨c, rfl, (Option.some.inj hj).symm⟩
        have hfm := List.mem_of_getElem? hf
        obtain ⟨hf0, hf1⟩ := hfs f0 hfm
        have hu4 := s4 _ _ hu
        have hW4 := s4 _ _ hWB
        refine ⟨_, rfl, _, rfl, u, W, _, _, rfl, SqT.of hu4, SqL.of hW4, fun D' hD' => ?_⟩
        refine lc_it (ZM.walkM (xs := p.1.2.map V.int) (ys := ws.map V.int) (by rw [List.length_map, List.length_map, hpl, hwl])) (fun l H5 => Same H4 H5 ∧ H5 D' = some (.lst (((addV p.1.2 f0 ws).take l).map V.int)))
          ⟨Same.new hD', upd_same⟩ (fun l H5 _ ⟨s5, _⟩ => ⟨SqT.of (s5 _ _ hu4), SqL.of (s5 _ _ hW4)⟩) ?_ ?_
        · rintro l x H5 H6 hl ⟨s5, hD5⟩ ⟨T2, x1, x2, rfl, hT2, rfl, e1, e2⟩
          rw [List.length_map] at hl
          have hx : p.1.2[l]? = some p.1.2[l] := List.getElem?_eq_getElem hl
          generalize p.1.2[l] = x at hx
          have e1' : x1 = .int x := by
            have e3 : (p.1.2.map V.int)[l]? = some x1 := e1
            rw [List.getElem?_map, hx] at e3
            exact (Option.some.inj e3).symm
          subst e1'
          have hy : ws[l]? = some (ws[l]'(by omega)) := List.getElem?_eq_getElem (by omega)
          generalize ws[l]'(by omega) = y at hy
          have e2' : x2 = .int y := by
            have e3 : (ws.map V.int)[l]? = some x2 := e2
            rw [List.getElem?_map, hy] at e3
            exact (Option.some.inj e3).symm
          subst e2'
          have s6 : Same H5 (upd H5 T2 (.tup [.int x, .int y])) := Same.new hT2
          have hT6 : (upd H5 T2 (.tup [.int x, .int y])) T2 = some (.tup [.int x, .int y]) := upd_same
          generalize upd H5 T2 (.tup [.int x, .int y]) = H6 at s6 hT6
          have hz : (addV p.1.2 f0 ws)[l]? = some (x + f0 * y) := by
            unfold addV
            rw [List.getElem?_zipWith, hx, hy]
          refine ⟨T2, _, rfl, SqT.of hT6, rfl, _, _, rfl, _, _, rfl, rfl, rfl, ?_⟩
          refine ⟨_, rfl, _, rfl, _, rfl, _, _, rfl, rfl, .inl ⟨by omega, by omega⟩, _, _, rfl, rfl, _, s6 _ _ hD5, ?_, Same.mut (s5.trans s6) hD', ?_⟩
          · rw [List.length_map, List.length_take, addV_len _ _ (hpl.trans hwl.symm)]
            exact line_lt (by omega)
          · rw [upd_same, take_snoc hz, List.map_append] <;> rfl
        · rintro H5 ⟨s5, hD5⟩
          rw [List.length_map, List.take_of_length_le (by rw [addV_len _ _ (hpl.trans hwl.symm)]; exact Nat.le_refl _)] at hD5
          refine ⟨D', _, rfl, .inl ⟨SqL.of hD5, fun q hq => ?_⟩⟩
          have s6 : Same H5 (upd H5 q (.tup ((addV p.1.2 f0 ws).map V.int))) := Same.new hq
          have hq6 : (upd H5 q (.tup ((addV p.1.2 f0 ws).map V.int))) q = some (.tup ((addV p.1.2 f0 ws).map V.int)) := upd_same
          generalize upd H5 q (.tup ((addV p.1.2 f0 ws).map V.int)) = H6 at s6 hq6
          have s46 := s5.trans s6
          have sB6 := s4.trans s46
          have stepF : ∀ (z : Int), (if bitT p.1.1 f0 then 0 else z) = z → True := fun _ _ => trivial
          have grow : ∀ g : Way → Int, stepN g ws p.1 p.2.2 (fs.take (j + 1)) = stepN g ws p.1 p.2.2 (fs.take j) + (if bitT p.1.1 f0 then 0 else p.2.2 * g (setT p.1.1 f0, addV p.1.2 f0 ws)) := fun g => by
            unfold stepN
            rw [take_snoc hf, List.map_append, List.sum_append]
            show _ + ((if bitT p.1.1 f0 then 0 else p.2.2 * g (setT p.1.1 f0, addV p.1.2 f0 ws)) + 0) = _
            rw [Int.add_zero]
          have ho6 := s46 _ _ ho4
          have hK6 : KeysAt H6 out := hK4.same fun c xs e => s46 _ _ e
          refine ⟨_, rfl, _, rfl, _, _, rfl, rfl, ⟨hf0, by omega, by decide⟩, _, _, rfl, rfl, rfl, _, rfl, ?_⟩
          rw [band_shl hp0 hf0]
          cases hbit : bitT p.1.1 f0
          · refine iteT ?_
            refine ⟨_, rfl, _, rfl, q, R, addV p.1.2 f0 ws, ps, sp, rfl, hq6, sB6 _ _ hRB, hspB.same sB6, ?_, ?_, fun H7 s67 => ⟨_, rfl, ?_⟩⟩
            · rw [addV_len _ _ (hpl.trans hwl.symm)]; omega
            · rw [addV_len _ _ (hpl.trans hwl.symm)]; omega
            have ho7 := s67 _ _ ho6
            have hK7 : KeysAt H7 out := hK6.same fun c xs e => s67 _ _ e
            have sB7 := sB6.trans s67
            cases hwi : within (addV p.1.2 f0 ws) sp
            · refine iteF ?_
              refine ⟨_, _, _, out, rfl, sB7, ho7, hK7, hG, hin4, fun g hg => ?_⟩
              rw [grow, hbit, hg _ (show (addV p.1.2 f0 ws).length = m by rw [addV_len _ _ (hpl.trans hwl.symm)]; exact hpl) hwi, ht4 g hg]
              show _ = _ + (_ + p.2.2 * 0)
              rw [Int.mul_zero, Int.add_zero]
            · refine iteT ?_
              refine ⟨_, rfl, _, rfl, _, _, rfl, rfl, ⟨hf0, by omega, by decide⟩, _, _, rfl, rfl, _, rfl, by show 2 ≤ sizeLine; decide, fun r hr0 => ?_⟩
              generalize hg8 : upd H7 r _ = H8
              have s8 : Same H7 H8 := by rw [← hg8]; exact Same.new hr0
              have hr8 : H8 r = some (.tup [.int (setT p.1.1 f0), .ref q]) := by
                rw [← hg8, upd_same]
                exact congrArg (fun z => some (HO.tup [V.int z, V.ref q])) (bor_shl hp0 hf0)
              have ho8 := s8 _ _ ho7
              have hK8 : KeysAt H8 out := hK7.same fun c xs e => s8 _ _ e
              have sB8 := sB7.trans s8
              have hkey : KeyAt H8 (setT p.1.1 f0, addV p.1.2 f0 ws) r := ⟨q, hr8, s8 _ _ (s67 _ _ hq6)⟩
              have hsz : out.length < sizeLine := by
                have := nodup_len hG.nd hin4
                rw [List.length_map] at this
                omega
              refine ⟨_, rfl, o, out, rfl, ho8, hK8, _, rfl, rfl, rfl, r, (setT p.1.1 f0, addV p.1.2 f0 ws), 0, rfl, rfl, hkey, _, rfl, _, _, rfl, rfl, _, rfl, _, rfl, o, out, r, (setT p.1.1 f0, addV p.1.2 f0 ws), _, rfl, rfl, rfl, ho8, hK8, hkey, hsz, ?_⟩
              refine ⟨_, _, _, putN out (setT p.1.1 f0, addV p.1.2 f0 ws) r ((valN out (setT p.1.1 f0, addV p.1.2 f0 ws)).getD 0 + p.2.2), rfl, Same.mut sB8 hB0, upd_same, ?_, ⟨putN_nodup hG.nd, fun y hy => ?_⟩, fun y hy => ?_, fun g hg => ?_⟩
              · have h1 := putN_at (n := (valN out (setT p.1.1 f0, addV p.1.2 f0 ws)).getD 0 + p.2.2) hK8 hkey
                exact h1.same fun c xs e => (upd_ne fun z => by rw [z, ho8] at e; cases e).trans e
              · rcases putN_mem hy with h | h
                · exact hG.from_ y h
                · rw [h]
                  exact ⟨set_nonneg _ _, by rw [addV_len _ _ (hpl.trans hwl.symm)]; exact hpl, hwi, p, hpm, f0, hfm, hbit, rfl⟩
              · rcases putN_mem hy with h | h
                · exact hin4 y h
                · rw [h]
                  exact hin p hpm f0 hfm hbit hwi
              · rw [tot_put g hG.nd, ht4 g hg, grow, hbit]
                show _ = _ + (_ + p.2.2 * _)
                omega
          · refine iteF (iteF ?_)
            refine ⟨_, _, _, out, rfl, sB6, ho6, hK6, hG, hin4, fun g hg => ?_⟩
            rw [grow, hbit, ht4 g hg]
            show _ = _ + (_ + 0)
            rw [Int.add_zero]
      · rintro σ H4 ⟨v8, v9, v10, out, rfl, s4, ho4, hK4, hG, hin4, ht4⟩
        refine ⟨_, _, _, _, _, _, out, rfl, s4, ho4, hK4, hG, hin4, fun g hg => ?_⟩
        rw [ht4 g hg, List.length_map, List.take_length]
        unfold stepTot
        rw [take_snoc hp, List.map_append, List.sum_append]
        show _ = _ + (stepN g ws p.1 p.2.2 fs + 0)
        rw [Int.add_zero]
    · rintro σ H2 ⟨v5, v6, v7, v8, v9, v10, out, rfl, s2, ho2, hK2, hG, hin2, ht⟩
      rw [List.take_length] at ht
      obtain ⟨e1, s4⟩ := back H2 s2
      refine ⟨e1, _, rfl, k o _ out ho s4 ((upd_ne hoD).trans ho2) (hK2.same fun c xs e => (upd_ne fun z => by rw [z, e1] at e; cases e).trans e) hG ht⟩
end
end WS
set_option maxRecDepth 100000
set_option maxHeartbeats 8000000
namespace WS
open PySem L2 SetT RevS ND
/-- letters with their weights -/
structure WPAt (H : Hp) (rs : List Addr) (ps : List WP) : Prop where
  len : rs.length = ps.length
  get : ∀ (i : Nat) (r : Addr) (p : WP), rs[i]? = some r → ps[i]? = some p → ∃ wl, H r = some (.tup [sg p.1, .ref wl]) ∧ H wl = some (.lst (p.2.map V.int))
theorem WPAt.same {H H' : Hp} (e : Same H H') {rs : List Addr} {ps : List WP} (h : WPAt H rs ps) : WPAt H' rs ps := ⟨h.len, fun i r p a b => by
  obtain ⟨wl, h1, h2⟩ := h.get i r p a b
  exact ⟨wl, e _ _ h1, e _ _ h2⟩⟩
def spSpans (CS : Addr) : Sp := fun vs H Q _ => ∃ (wa sh : Addr) (rs : List Addr) (wps : List WP) (b : Int) (kl : Addr) (ts : List Addr), vs = [.ref wa, .ref sh] ∧ H wa = some (.lst (rs.map V.ref)) ∧ WPAt H rs wps ∧ ShAt CS H sh b kl ts ∧ ts.length ≤ 1000 ∧ wps.length ≤ 1000 ∧ (∀ p ∈ wps, p.2.length = ts.length) ∧ 0 ≤ b ∧ b ≤ 1000 ∧
  ∀ q H' ps, H q = none → Same H H' → H' q = some (.lst (ps.map V.ref)) → SpAt H' ps (spansOf b wps ts.length) → Q (.ref q) H'
section
variable {P : Program} {w : World} {K : PySem.W.Frag} {mg : Str → Option Value} {base : Heap}
theorem scSpans : FnScope ["waiting", "sheet", "highest", "spans", "at", "most", "least", "letter", "weights"] ["waiting", "sheet"] (defScope sSpansOf) := ⟨rfl, rfl, rfl, by decide +kernel, rfl, by decide +kernel, by decide +kernel⟩
theorem spansOf_succ (b : Int) (wps : List WP) (i : Nat) : spansOf b wps (i + 1) = spansOf b wps i ++ [(-(mostAt b wps i), -(leastAt b wps i))] := by
  unfold spansOf
  rw [List.range_succ, List.map_append] <;> rfl
theorem SpAt.snoc {H : Hp} {ps : List Addr} {sp : List (Int × Int)} {r : Addr} {x : Int × Int} (h : SpAt H ps sp) (hr : H r = some (.tup [.int x.1, .int x.2])) : SpAt H (ps ++ [r]) (sp ++ [x]) := by
  refine ⟨by rw [List.length_append, List.length_append, h.len] <;> rfl, fun i p y a b => ?_⟩
  by_cases hi : i < ps.length
  · rw [List.getElem?_append_left hi] at a
    rw [List.getElem?_append_left (h.len ▸ hi)] at b
    exact h.get i p y a b
  · rw [List.getElem?_append_right (by omega)] at a
    rw [List.getElem?_append_right (by have := h.len; omega), ← h.len] at b
    have h0 : i - ps.length = 0 := by
      have := (List.getElem?_eq_some_iff.mp a).1
      simp at this
      omega
    rw [h0] at a b
    cases Option.some.inj a
    cases Option.some.inj b
    exact hr
theorem ok_spans {f CS fS : Addr} {fd fdS : FuncData} (F : Fun K "spans_of" "spans_of" sSpansOf f fd) (T : SheetTxt K mg CS) (z_range : mg "range" = none) (z_len : mg "len" = none) (z_sum : mg "sum" = none) (z_max : mg "max" = none) (z_min : mg "min" = none)
    (mSs : Meth K CS "sums" fS) (bSs : Binds K fdS ["self"] []) (GSs : FnOk P w K mg base CX0 1 fS fdS ["self"] (spShSums CS)) :
    FnOk P w K mg base CX0 2 f fd ["waiting", "sheet"] (spSpans CS) := by
  refine F.ok scSpans (fun vs H Q E h => ?_) (fun cdv A outer s H vs Q E hr h => ?_)
  · obtain ⟨wa, sh, rs, wps, b, kl, ts, rfl, _⟩ := h
    rfl
  · obtain ⟨wa, sh, rs, wps, b, kl, ts, rfl, hwa, hwp, hsh, htl, hpl, hwl, hb0, hb1, k⟩ := h
    have nd := scSpans.nd
    obtain ⟨⟨dx, hshi⟩, hkl⟩ := id hsh
    refine ⟨_, (pss_cons (ps_set (i := 2) nd rfl (.inl rfl) (pe_op op_sub (pe_fld (pv 1) rfl) pe_int))
      (pss_cons (ps_set (i := 3) nd rfl (.inl rfl) (pe_lst pa_nil))
      (pss_cons (ps_for PassesOwn.never rfl (pi_range1 (by rfl) z_range (pa_cons (pe_callB call_len_seq (by rfl) z_len PySem.boot_len (pa_cons (pe_meth0 (pv 1) T.cl mSs GSs hr bSs .nil pass0) pa_nil)) pa_nil)) (pg_name (i := 4) nd rfl (.inr rfl)) (pss_cons (ps_set (i := 5) nd rfl (.inl rfl) (pe_op op_mul (pv 2) (pe_callB (cr_sum rfl) (by rfl) z_sum (by decide +kernel) (pa_cons (pe_lc (own := [("letter", 7), ("weights", 8)]) (g := (gTup K 2 (gCons (gName 7) (gCons (gName 8) gNil)))) (tt := tYes) rfl nd (pi_list (pv 0)) (blkOk_by (own := [("letter", 7), ("weights", 8)]) (N := ["waiting", "sheet", "highest", "spans", "at", "most", "least", "letter", "weights"]) (sc := defScope sSpansOf) (by decide +kernel)) (fun _ _ _ _ _ => (pg_tup rfl (pgs_cons (pg_name (i := 7) nd rfl (.inl rfl)) (pgs_cons (pg_name (i := 8) nd rfl (.inl rfl)) pgs_nil)))) (fun _ _ _ _ _ => pts_nil) (fun _ _ _ _ _ => (pe_callB (call_max2 rfl) (by rfl) z_max (by decide +kernel) (pa_cons pe_int (pa_cons (pe_ix (r := rIxL K) ix_list (pv 8) (pv 4) (fun _ _ => rfl)) pa_nil))))) pa_nil))))
      (pss_cons (ps_set (i := 6) nd rfl (.inl rfl) (pe_op op_mul (pv 2) (pe_callB (cr_sum rfl) (by rfl) z_sum (by decide +kernel) (pa_cons (pe_lc (own := [("letter", 7), ("weights", 8)]) (g := (gTup K 2 (gCons (gName 7) (gCons (gName 8) gNil)))) (tt := tYes) rfl nd (pi_list (pv 0)) (blkOk_by (own := [("letter", 7), ("weights", 8)]) (N := ["waiting", "sheet", "highest", "spans", "at", "most", "least", "letter", "weights"]) (sc := defScope sSpansOf) (by decide +kernel)) (fun _ _ _ _ _ => (pg_tup rfl (pgs_cons (pg_name (i := 7) nd rfl (.inl rfl)) (pgs_cons (pg_name (i := 8) nd rfl (.inl rfl)) pgs_nil)))) (fun _ _ _ _ _ => pts_nil) (fun _ _ _ _ _ => (pe_callB (call_min2 rfl) (by rfl) z_min (by decide +kernel) (pa_cons pe_int (pa_cons (pe_ix (r := rIxL K) ix_list (pv 8) (pv 4) (fun _ _ => rfl)) pa_nil))))) pa_nil))))
      (pss_one (ps_expr (pe_bm PySem.F.plainAttrs_list PySem.F.slot_list_append PySem.F.type_list_append mt_append (pv 3) (pa_cons (pe_tup (pa_cons (pe_un un_neg (pv 5)) (pa_cons (pe_un un_neg (pv 6)) pa_nil))) pa_nil)))))))
      (pss_one (ps_ret (pv 3)))))), ?_⟩
    refine ⟨_, rfl, sh, CS, dx, _, _, rfl, hshi, T.cl, T.nB, flds_base _ _, _, _, rfl, rfl, ?_⟩
    refine ⟨by show 0 ≤ sizeLine; decide, fun o ho => ?_⟩
    have s0 : Same H (upd H o (.lst [])) := Same.new ho
    have ho0 : (upd H o (.lst [])) o = some (.lst []) := upd_same
    refine ⟨_, rfl, sh, dx, _, rfl, s0 _ _ hshi, flds_no _ _ (by decide +kernel) (by decide +kernel), sh, b, kl, ts, rfl, hsh.same s0, htl, fun q H1 hq s1 hq1 => ?_⟩
    have s01 := s0.trans s1
    have ho1 := s1 _ _ ho0
    refine ⟨q, _, rfl, .inl (SqL.of hq1), _, rfl, by rw [List.length_map]; omega, by rw [List.length_map]; omega, for_range (lo := 0) (n := (((ts.map V.ref).length : Nat) : Int).toNat) (fun i σ H2 => ∃ v4 v5 v6 ps, σ = [some (.ref wa), some (.ref sh), some (.int (b - 1)), some (.ref o), v4, v5, v6, none, none] ∧ Same H H2 ∧ H2 o = some (.lst (ps.map V.ref)) ∧ SpAt H2 ps (spansOf b wps i))
      ⟨none, none, none, [], rfl, s01, ho1, ⟨rfl, fun i p x a _ => by simp at a⟩⟩ ?_ ?_⟩
    · rintro i σ H2 hi ⟨v4, v5, v6, ps, rfl, s2, ho2, hsp⟩
      have him : i < ts.length := by rw [List.length_map] at hi; omega
      have el : ∀ (H3 : Hp) (j : Nat) (r : Addr) (y : V), Same H H3 → (rs.map V.ref)[j]? = some y → ∃ (r wl : Addr) (p : WP) (v : Int), y = .ref r ∧ wps[j]? = some p ∧ H3 r = some (.tup [sg p.1, .ref wl]) ∧ H3 wl = some (.lst (p.2.map V.int)) ∧ p.2[i]? = some v := fun H3 j _ y s3 hj => by
        obtain ⟨r, hr, rfl⟩ := refs_at hj
        have hjl := (List.getElem?_eq_some_iff.mp hr).1
        have hp : wps[j]? = some (wps[j]'(by rw [← hwp.len]; exact hjl)) := List.getElem?_eq_getElem (by rw [← hwp.len]; exact hjl)
        generalize wps[j]'(by rw [← hwp.len]; exact hjl) = p at hp
        obtain ⟨wl, h1, h2⟩ := hwp.get j r p hr hp
        have hl := hwl p (List.mem_of_getElem? hp)
        exact ⟨r, wl, p, p.2[i]'(by omega), rfl, hp, s3 _ _ h1, s3 _ _ h2, List.getElem?_eq_getElem (by omega)⟩
      refine ⟨_, rfl, _, rfl, wa, rfl, ⟨_, SqL.of (s2 _ _ hwa)⟩, fun D hD => ?_⟩
      refine lc_list (K := K) (a := wa) (xs := rs.map V.ref) (fun j H3 => Same H2 H3 ∧ H3 D = some (.lst (((wps.take j).map fun p => max 0 ((p.2[i]?).getD 0)).map V.int))) ⟨Same.new hD, upd_same⟩ (fun j H3 _ ⟨s3, _⟩ => SqL.of ((s2.trans s3) _ _ hwa)) ?_ ?_
      · rintro j y H3 hj ⟨s3, hD3⟩
        obtain ⟨r, wl, p, v, rfl, hp, hr3, hw3, hv⟩ := el H3 j 0 y (s2.trans s3) hj
        refine ⟨r, _, rfl, SqT.of hr3, rfl, _, _, rfl, _, _, rfl, rfl, rfl, ?_⟩
        refine ⟨_, rfl, _, rfl, wl, _, _, .int v, rfl, rfl, SqL.of hw3, at_of (j := i) (by omega) (by rw [List.getElem?_map, hv] <;> rfl), _, _, rfl, _, hD3, ?_, Same.mut s3 hD, ?_⟩
        · rw [List.length_map, List.length_map, List.length_take]
          exact line_lt (by omega)
        · rw [upd_same, take_snoc hp, List.map_append, List.map_append, List.map_cons, List.map_nil, hv]
          have : (if v > 0 then v else 0) = max 0 v := by split <;> omega
          show some (HO.lst (_ ++ [V.int (if v > 0 then v else 0)])) = _
          rw [this] <;> rfl
      rintro H3 ⟨s3, hD3⟩
      rw [List.length_map, hwp.len, List.take_length] at hD3
      refine ⟨D, _, rfl, SqL.of hD3, _, _, rfl, rfl, .inl ⟨by omega, by omega⟩, ?_⟩
      have s23 := s2.trans s3
      have ho3 := s3 _ _ ho2
      have hsp3 := hsp.same s3
      refine ⟨_, rfl, _, rfl, wa, rfl, ⟨_, SqL.of (s23 _ _ hwa)⟩, fun D2 hD2 => ?_⟩
      refine lc_list (K := K) (a := wa) (xs := rs.map V.ref) (fun j H4 => Same H3 H4 ∧ H4 D2 = some (.lst (((wps.take j).map fun p => min 0 ((p.2[i]?).getD 0)).map V.int))) ⟨Same.new hD2, upd_same⟩ (fun j H4 _ ⟨s4, _⟩ => SqL.of ((s23.trans s4) _ _ hwa)) ?_ ?_
      · rintro j y H4 hj ⟨s4, hD4⟩
        obtain ⟨r, wl, p, v, rfl, hp, hr3, hw3, hv⟩ := el H4 j 0 y (s23.trans s4) hj
        refine ⟨r, _, rfl, SqT.of hr3, rfl, _, _, rfl, _, _, rfl, rfl, rfl, ?_⟩
        refine ⟨_, rfl, _, rfl, wl, _, _, .int v, rfl, rfl, SqL.of hw3, at_of (j := i) (by omega) (by rw [List.getElem?_map, hv] <;> rfl), _, _, rfl, _, hD4, ?_, Same.mut s4 hD2, ?_⟩
        · rw [List.length_map, List.length_map, List.length_take]
          exact line_lt (by omega)
        · rw [upd_same, take_snoc hp, List.map_append, List.map_append, List.map_cons, List.map_nil, hv]
          have : (if v < 0 then v else 0) = min 0 v := by split <;> omega
          show some (HO.lst (_ ++ [V.int (if v < 0 then v else 0)])) = _
          rw [this] <;> rfl
      rintro H4 ⟨s4, hD4⟩
      rw [List.length_map, hwp.len, List.take_length] at hD4
      refine ⟨D2, _, rfl, SqL.of hD4, _, _, rfl, rfl, .inl ⟨by omega, by omega⟩, ?_⟩
      have ho4 := s4 _ _ ho3
      refine ⟨_, rfl, .inl ⟨rfl, _, SqL.of ho4⟩, _, rfl, _, rfl, _, rfl, _, rfl, by show 2 ≤ sizeLine; decide, fun r hr0 => ?_⟩
      generalize hg5 : upd H4 r _ = H5
      have s5 : Same H4 H5 := by rw [← hg5]; exact Same.new hr0
      have hr5 : H5 r = some (.tup [.int (-(mostAt b wps i)), .int (-(leastAt b wps i))]) := by
        rw [← hg5, upd_same] <;> rfl
      have ho5 := s5 _ _ ho4
      have hsp5 := (hsp3.same s4).same s5
      refine ⟨o, _, _, rfl, rfl, ho5, ?_, ?_⟩
      · rw [List.length_map, hsp5.len]
        unfold spansOf
        rw [List.length_map, List.length_range]
        exact line_lt (by omega)
      refine ⟨_, _, _, ps ++ [r], rfl, Same.mut ((s23.trans s4).trans s5) ho, ?_, ?_⟩
      · rw [upd_same, List.map_append] <;> rfl
      · have h2 := SpAt.snoc (x := (-(mostAt b wps i), -(leastAt b wps i))) hsp5 hr5
        rw [← spansOf_succ] at h2
        exact ⟨h2.len, fun j p x a b => by
          have e := h2.get j p x a b
          have : p ≠ o := fun z => by rw [z, ho5] at e; cases e
          exact (upd_ne this).trans e⟩
    · rintro σ H2 ⟨v4, v5, v6, ps, rfl, s2, ho2, hsp⟩
      rw [List.length_map, Int.toNat_natCast] at hsp
      exact ⟨_, rfl, k o H2 ps ho s2 ho2 hsp⟩
end
end WS
set_option maxRecDepth 100000
set_option maxHeartbeats 4000000
/-! sorted(xs, key=lambda p: a whole number): the items in some order. The lambda captures nothing. -/
namespace LamK
open PySem PySem.Spec PyProof.Rows L2 LamX
/-- what changes at objects that the past did not know -/
theorem un_but {fs : List Addr} {H H' : Hp} {h h1 h2 : Heap} {k : Addr} (u : Un fs [] H H' h h1) (hk : h.objs.size ≤ k) (kp : ∀ b o, b ≠ k → h1.get? b = some o → h2.get? b = some o) : Un fs [] H H' h h2 := by
  have ne : ∀ b o, h.get? b = some o → b ≠ k := fun b o e => Nat.ne_of_lt (Nat.lt_of_lt_of_le (Heap.lt_size e) hk)
  refine ⟨fun b o e n hb hx => kp b o (ne b o e) (u.keep b o e n hb hx), fun b o e n hb hx => ?_, u.free, fun b o e hx => ?_, u.tups, u.frzs, u.tbls⟩
  · obtain ⟨sl, e1⟩ := u.slot b o e n hb hx
    exact ⟨sl, kp b _ (ne b o e) e1⟩
  · obtain ⟨o', e1⟩ := u.there b o e hx
    exact ⟨o', kp b _ (ne b o e) e1⟩
theorem hok_but {P : Program} {w : World} {H : Hp} {h1 h2 : Heap} {k : Addr} (x : HOk P w H h1) (n : H k = none) (kp : ∀ b o, b ≠ k → h1.get? b = some o → h2.get? b = some o) : HOk P w H h2 := fun a o e => (x a o e).stay (fun b u hb q => kp b u (by
    rcases hb with rfl | hb
    · exact ne_of_none e n
    · exact ne_of_none hb n) q) (fun _ q => q) fun _ _ q => q
section
variable {P : Program} {w : World} {K : PySem.W.Frag} {mg : Str → Option Value} {base : Heap} {A : Around} {outer : List Env} {s : Shared} {H : Hp}
/-- a lambda of one parameter, called -/
theorem lam_run {k : Nat} {N : List Str} {x q : Str} {f c' : Addr} {params : Arguments} {body : Expr} {scope : Scope} {pm ctv u : Value} {v : V} {tb : TE} {Q : VK} (S : FnScope N [x] scope) (hr : Room (k + 1) A) (e0 : Env0 P w K mg base A outer s H)
    (hf : s.heap.get? f = some (PySem.W.kla_obj "<lambda>" q params body scope [] pm c' ctv)) (hc : H c' = some (CodeO c' q))
    (hbind : bindArgs (PySem.W.kla_fn "<lambda>" q params body scope [] pm (.ref c') ctv) ⟨[u], []⟩ = pure [(x, u)]) (rv : RelV v u)
    (hbody : PE (cxOf CX0 P w K mg base N q scope f (.ref c') A outer s H E0) body tb) (hq : tb (L2.start N [v]) H Q) :
    codeAny (model P w) A (.call (.ref f) ⟨[u], []⟩) (CR CX0 outer P w H s Q E0) s := by
  obtain ⟨⟨oc, ws, t, hoc, hdc, hvc⟩, _, _⟩ := e0.hok c' _ hc
  have lim : s.heap.NoLimit := e0.mod.nolimit.keeps fun b o e => (e0.bs b o e).1
  have hkind : ∀ y ∈ ([x].zip [u]), scope.names.lookup y.1 = some .local ∨ (scope.names.lookup y.1 = some .cell ∧ ((cellsFrom (s.heap.objs.size + 1) scope.names []).lookup y.1).isSome = true) := fun ⟨n, v⟩ hy => by
    rcases S.par n (List.of_mem_zip hy).1 with q | q
    · exact .inl q
    · exact .inr ⟨q, PySem.W.cellsFrom_some _ _ _ (.inl q)⟩
  refine PySem.W.kla_callFunE hr.depth hf rfl S.co S.gen rfl ⟨c', oc, ws, t, rfl, hoc, hdc, hvc⟩ ?_
  rw [hbind]
  refine wpAny_pure (wpAny_newFunctionEnv_cells S.kind hkind fun env he s1 X => ?_)
  subst he
  refine ⟨lim.keeps X.toInCall.keep, ?_⟩
  have I : Inv (cxOf CX0 P w K mg base N q scope f (.ref c') A outer s H E0) [] (L2.start N [v]) H s1 := inv_start S hr.hd e0 rfl (.cons rv .nil) X
  show codeAny _ _ (.expr body (envOfC q scope s.heap.objs.size f (.ref c'))) _ _
  refine PySem.W.kla_codeExpr (wpAny_mono (hbody.run [] s1 _ H Q I hq) (fun z s' hz => ?_) fun e s' hz => hz)
  obtain ⟨v', H', J, rv', q'⟩ := hz
  exact ⟨v', H', J.os, J.bare, J.base, J.hok, rv', q'⟩
end
theorem vals_perm {vs' vs : List Value} (p : vs'.Perm vs) : ∀ {xs : List V}, Vals xs vs → ∃ ys, Vals ys vs' ∧ ys.Perm xs := by
  induction p with
  | nil => intro xs r; exact ⟨xs, r, .refl _⟩
  | cons x _ ih =>
    intro xs r
    cases r with
    | cons ra rr =>
      obtain ⟨ys, h1, h2⟩ := ih rr
      exact ⟨_ :: ys, .cons ra h1, h2.cons _⟩
  | swap x y l =>
    intro xs r
    cases r with
    | cons ra rr =>
      cases rr with
      | cons rb rc => exact ⟨_, .cons rb (.cons ra rc), .swap _ _ _⟩
  | trans _ _ ih1 ih2 =>
    intro xs r
    obtain ⟨ys, h1, h2⟩ := ih2 r
    obtain ⟨zs, h3, h4⟩ := ih1 h1
    exact ⟨zs, h3, h4.trans h2⟩
theorem sortVals_perm {κ : PyProof.Rows.KeyKind} {ks vs : List Value} (hl : ks.length = vs.length) : (PySem.W.sortVals κ false ks vs).Perm vs := by
  unfold PySem.W.sortVals
  have h1 := (List.mergeSort_perm (ks.zip vs) (PySem.W.sortLe κ.toKeyOrd false fun p : Keyed => PySem.W.keyD κ p.1)).map Prod.snd
  rwa [List.map_snd_zip (by omega)] at h1
theorem each_ints {h : Heap} : ∀ {vs : List Value} {ks : List Int}, PySem.W.EachIs (fun (v : Value) (k : Int) => ∃ t, v = .int k t) vs ks → PySem.W.EachIs (fun v d => ∃ as, Reads h v d as) vs (ks.map PyData.int)
  | _, _, .nil => .nil
  | _, _, .cons ⟨t, e⟩ r => .cons ⟨[], by rw [e]; exact .int _ _⟩ (each_ints r)
section
variable {X : Cx} {pins : List (Addr × Obj)} {σ : L2.St} {H : Hp} {s : Shared}
/-- what stands while the keys are made -/
structure Keying (X : Cx) (H : Hp) (s : Shared) (a kS : Addr) (e1 : Nat) (ks : List Int) (H' : Hp) (s' : Shared) : Prop where
  os : s'.os = s.os
  bare : AllBare s'.gens
  un : Un (frs X.stack) [] H H' s.heap s'.heap
  hok : HOk X.prog X.w H' s'.heap
  same : Same H H'
  na : H' a = none
  nk : H' kS = none
  oa : s'.heap.get? a = some (seqObj "list" #[] e1)
  ok : ∃ kA e, s'.heap.get? kS = some (seqObj "list" kA e) ∧ PySem.W.EachIs (fun (v : Value) (k : Int) => ∃ t, v = .int k t) kA.toList ks
theorem Keying.inv {a kS : Addr} {e1 : Nat} {ks : List Int} {H' : Hp} {s' : Shared} (k : Keying X H s a kS e1 ks H' s') (I : Inv X pins σ H s) : Inv X pins σ H' s' := I.call' (ch := []) k.os k.un k.hok k.bare fun b hb => absurd hb (by simp)
theorem sorted_lam {Q : VK} (I : Inv X pins σ H s) {l f : Addr} {xs : List V} {key : Nat → Int} (hs : SqL X.K H l xs) (hu : X.A.units + 200 < cLine)
    (turn : ∀ (i : Nat) (v : V) (u : Value) (s' : Shared) (H' : Hp), xs[i]? = some v → RelV v u → Inv X pins σ H' s' → Same H H' → Un (frs X.stack) [] H H' s.heap s'.heap →
      wpAny (model X.prog X.w) X.A.in1.in1 (call (.ref f) [u]) (fun z s'' => ∃ t H'', z = .int (key i) t ∧ s''.os = s'.os ∧ AllBare s''.gens ∧ Un (frs X.stack) [] H' H'' s'.heap s''.heap ∧ HOk X.prog X.w H'' s''.heap ∧ Same H' H'') (fun _ _ => False) s')
    (q : ∀ (ys : List V) (p : Addr) (H' : Hp), ys.Perm xs → Same H H' → H' p = none → H p = none → Q (.ref p) (upd H' p (.lst ys))) :
    wpAny (model X.prog X.w) X.A (call (.builtin "sorted") [.ref l] [(Str.ofString "key", .ref f)]) (EP X pins σ Q) X.xe s := by
  obtain ⟨its, rv, hl, hz⟩ := I.list hs
  have hlen := rv.length
  have hL : its.length ≤ sizeLine := by omega
  refine PySem.W.sorted_of_sort hl.isList hL (ksk_s1 _ _) (fun _ => ksk_l1 _ _) fun E' => ?_
  rw [ksk_t1]
  have ho := PySem.W.copyHeap_at s.heap its
  have old0 : ∀ b o, s.heap.get? b = some o → (PySem.W.copyHeap s.heap its).get? b = some o := fun b o e => PySem.W.copyHeap_old e
  have hfresh : s.heap.objs.size ≤ s.heap.objs.size + 1 := Nat.le_succ _
  generalize ha : s.heap.objs.size + 1 = a at ho hfresh ⊢
  generalize PySem.W.copyHeap s.heap its = hC at ho old0 ⊢
  have hsz0 : s.heap.objs.size ≤ hC.objs.size := Nat.le_of_lt (Nat.lt_of_le_of_lt hfresh (Heap.lt_size ho))
  have nea : ∀ b o, s.heap.get? b = some o → b ≠ a := fun b o e => Nat.ne_of_lt (Nat.lt_of_lt_of_le (Heap.lt_size e) hfresh)
  obtain ⟨e1, ho1⟩ : ∃ e1, (hC.update a (Obj.mapSeq fun _ => (#[] : Array Value))).get? a = some (seqObj "list" #[] e1) := ⟨_, get?_update_seq ho fun _ => #[]⟩
  have old1 : ∀ b o, s.heap.get? b = some o → (hC.update a (Obj.mapSeq fun _ => (#[] : Array Value))).get? b = some o := fun b o e => (Heap.get?_update_ne _ _ _ _ (nea b o e)).trans (old0 b o e)
  unfold ksk_tree
  refine wpAny_bind (listItems_at ho rfl ?_)
  refine wpAny_bind (listUpdate_at ho rfl ?_ (by rw [List.size_toArray]; exact hL) (Nat.zero_le _))
  refine wpAny_bind (seqEpoch_at ho1 rfl ?_)
  generalize hC.update a (Obj.mapSeq fun _ => (#[] : Array Value)) = hD at ho1 old1 ⊢
  have haD : a < hD.objs.size := Heap.lt_size ho1
  have hszD : s.heap.objs.size ≤ hD.objs.size := Nat.le_of_lt (Nat.lt_of_le_of_lt hfresh haD)
  refine wpAny_bind (wpAny_newTuple ?_ (by show its.length ≤ _; exact hL))
  refine wpAny_bind (wpAny_newList ?_ (Nat.zero_le _))
  refine wpAny_holding ?_
  have ek : (hD.push { cls := .type "tuple", data := .seq its.toArray }).objs.size = hD.objs.size + 1 := size_push' _ _
  have hok0 : ((hD.push { cls := .type "tuple", data := .seq its.toArray }).push (seqObj "list" #[] 0)).get? (hD.objs.size + 1) = some (seqObj "list" #[] 0) := by
    rw [← ek]; exact Heap.get?_push_size _ rfl
  have hoa0 : ((hD.push { cls := .type "tuple", data := .seq its.toArray }).push (seqObj "list" #[] 0)).get? a = some (seqObj "list" #[] e1) := Heap.get?_push_of_some _ (Heap.get?_push_of_some _ ho1)
  have old2 : ∀ b o, s.heap.get? b = some o → ((hD.push { cls := .type "tuple", data := .seq its.toArray }).push (seqObj "list" #[] 0)).get? b = some o := fun b o e => Heap.get?_push_of_some _ (Heap.get?_push_of_some _ (old1 b o e))
  show wpAny _ _ (ksk_rest a (Value.ref f) false its.toArray e1 (Value.ref (hD.push { cls := .type "tuple", data := .seq its.toArray }).objs.size)) _ _ { s with heap := (hD.push { cls := .type "tuple", data := .seq its.toArray }).push (seqObj "list" #[] 0) }
  rw [ek]
  have hka : hD.objs.size + 1 ≠ a := Nat.ne_of_gt (Nat.lt_succ_of_lt haD)
  have hkf : s.heap.objs.size ≤ hD.objs.size + 1 := Nat.le_succ_of_le hszD
  generalize hD.objs.size + 1 = kS at hok0 hka hkf ⊢
  generalize (hD.push { cls := .type "tuple", data := .seq its.toArray }).push (seqObj "list" #[] 0) = hE at hok0 hoa0 old2 ⊢
  have nofr : ∀ b, s.heap.objs.size ≤ b → b ∉ frs X.stack := fun b hb z => by
    rcases List.mem_cons.mp (I.stkSub _ z) with e | e
    · have h1 := I.lt
      rw [← e] at h1
      exact Nat.lt_irrefl _ (Nat.lt_of_lt_of_le h1 hb)
    · exact I.nofs hb e
  unfold ksk_rest
  refine wpAny_bind (wpAny_rule ?_)
  first
    | rw [List.forIn_toArray]
    | (rw [← Array.forIn_toList]; simp only [List.toList_toArray])
  refine wpAny_bind (ksk_fold (fun i s' => ∃ H', Keying X H s a kS e1 ((List.range i).map key) H' s') its 0 _ ?start ?step ?done)
  case start =>
    refine ⟨H, rfl, I.bare, Un.kept old2, I.hok.kept old2, Same.refl _, I.hok.fresh hfresh, I.hok.fresh hkf, hoa0, #[], 0, hok0, ?_⟩
    exact .nil
  case step =>
    rintro j u s' hx ⟨H', K1⟩
    simp only [Nat.zero_add] at K1 ⊢
    obtain ⟨v, hv, rvu⟩ : ∃ v, xs[j]? = some v ∧ L2.RelV v u := by
      have hj : j < xs.length := by rw [hlen]; exact (List.getElem?_eq_some_iff.mp hx).1
      obtain ⟨u', h1, h2⟩ := rv.get (List.getElem?_eq_getElem hj)
      rw [hx] at h1
      cases h1
      exact ⟨_, List.getElem?_eq_getElem hj, h2⟩
    refine wpAny_bind (wpAny_attempt (wpAny_mono (turn j v u s' H' hv rvu (K1.inv I) K1.same K1.un) (fun z s'' hz => ?_) fun _ _ hF => hF.elim))
    obtain ⟨t, H'', rfl, os, bare, un, hok, same⟩ := hz
    try dsimp only
    obtain ⟨kA, e, hk, hE2⟩ := K1.ok
    have oa := un.keep a _ K1.oa K1.na (nofr a hfresh) (by simp)
    have okk := un.keep kS _ hk K1.nk (nofr kS hkf) (by simp)
    have na := un.free a _ K1.oa K1.na (by simp)
    have nk := un.free kS _ hk K1.nk (by simp)
    have hkl : kA.size = j := by
      have := hE2.length
      rw [Array.length_toList, List.length_map, List.length_range] at this
      exact this
    have hj2 : j < its.length := (List.getElem?_eq_some_iff.mp hx).1
    have hup := get?_update_seq okk (·.push (Value.int (key j) t))
    have oth : ∀ b o, b ≠ kS → s''.heap.get? b = some o → (s''.heap.update kS (Obj.mapSeq (·.push (Value.int (key j) t)))).get? b = some o := fun b o hb eo => (Heap.get?_update_ne _ _ _ _ hb).trans eo
    refine wpAny_bind (listUpdate_at okk rfl ?_ (by omega) (by rw [Array.size_push]; omega))
    refine wpAny_pure ⟨rfl, H'', os.trans K1.os, bare, un_but (K1.un.trans un) hkf oth, hok_but hok nk oth, K1.same.trans same, na, nk, oth a _ (Ne.symm hka) oa, _, _, hup, ?_⟩
    rw [Array.toList_push, List.range_succ, List.map_append]
    exact PySem.W.each_snoc ⟨t, rfl⟩ hE2
  case done =>
    rintro s' ⟨H', K1⟩
    simp only [Nat.zero_add] at K1
    obtain ⟨kA, e, hk, hE2⟩ := K1.ok
    have hkl : kA.size = its.length := by
      have := hE2.length
      rw [Array.length_toList, List.length_map, List.length_range] at this
      exact this
    try dsimp only
    refine wpAny_bind (listItems_at hk rfl ?_)
    have hh : ∀ b o, b ≠ kS → s'.heap.get? b = some o → (PySem.W.hideAll s'.heap [kS]).get? b = some o := fun b o hb eo => PySem.W.hideAll_get _ eo (by simpa using hb)
    have hkp : PySem.W.KeepsBut a (PySem.W.hideAll s'.heap [kS]) s'.heap := fun b o hb eo => PySem.W.of_hideAll _ eo
    refine PySem.W.keyH_end (κ := PySem.W.dataKind s'.heap (((List.range its.length).map key).map PyData.int)) (h₁ := PySem.W.hideAll s'.heap [kS]) hkp (PySem.W.hideAll_none _ (by simp)) hk K1.oa hka
      (PySem.W.SortsAt.data (each_ints hE2) (fun d hd d' hd' => ?_) (.inr fun d hd => ?_) fun d hd => ?_) hkl hL fun h3 tk3 c k3 n3 => ⟨rfl, ?_⟩
    · obtain ⟨i, _, rfl⟩ := List.mem_map.mp hd
      obtain ⟨i', _, rfl⟩ := List.mem_map.mp hd'
      rfl
    · obtain ⟨i, _, rfl⟩ := List.mem_map.mp hd
      exact ⟨fun z => (by cases z), fun xs z => (by cases z)⟩
    · obtain ⟨i, _, rfl⟩ := List.mem_map.mp hd
      show X.A.units + 1 + 1 + PyData.depth (.int i) < cLine
      have : PyData.depth (.int i) ≤ 1 := by simp [PyData.depth]
      omega
    · obtain ⟨ys, ry, py⟩ := vals_perm (sortVals_perm (κ := PySem.W.dataKind s'.heap (((List.range its.length).map key).map PyData.int)) (ks := kA.toList) (vs := its) (by rw [Array.length_toList]; exact hkl)) rv
      have kp3 : ∀ b o, b ≠ kS → b ≠ a → s'.heap.get? b = some o → h3.get? b = some o := fun b o h1 h2 eo => k3 b o h2 (hh b o h1 eo)
      have oth : ∀ b o, s.heap.get? b = some o → b ≠ kS ∧ b ≠ a := fun b o e => ⟨Nat.ne_of_lt (Nat.lt_of_lt_of_le (Heap.lt_size e) hkf), nea b o e⟩
      have un3 : Un (frs X.stack) [] H H' s.heap h3 := by
        refine ⟨fun b o e n hb hx => kp3 b o (oth b o e).1 (oth b o e).2 (K1.un.keep b o e n hb hx), fun b o e n hb hx => ?_, K1.un.free, fun b o e hx => ?_, K1.un.tups, K1.un.frzs, K1.un.tbls⟩
        · obtain ⟨sl, e2⟩ := K1.un.slot b o e n hb hx
          exact ⟨sl, kp3 b _ (oth b o e).1 (oth b o e).2 e2⟩
        · obtain ⟨o', e2⟩ := K1.un.there b o e hx
          exact ⟨o', kp3 b _ (oth b o e).1 (oth b o e).2 e2⟩
      have hok3 : HOk X.prog X.w H' h3 := fun b o e => (K1.hok b o e).stay (fun d u hb q => kp3 d u (by
        rcases hb with rfl | hb
        · exact ne_of_none e K1.nk
        · exact ne_of_none hb K1.nk) (by
        rcases hb with rfl | hb
        · exact ne_of_none e K1.na
        · exact ne_of_none hb K1.na) q) (fun _ q => q) fun _ _ q => q
      have hyl : ys.length ≤ sizeLine := by rw [py.length_eq]; exact hz
      exact ⟨.ref a, _, L2.Inv.drained (out := ys) I hfresh hyl n3 ry ExOk.nil K1.os K1.bare un3 hok3 K1.na, rfl, q ys a H' py K1.same K1.na (I.hok.fresh hfresh)⟩
end
end LamK
set_option maxRecDepth 100000
set_option maxHeartbeats 4000000
namespace LamK
open PySem PySem.Spec PyProof.Rows L2 LamX
theorem cloFrom_none (cells : List (Str × Addr)) : ∀ (names : List (Str × NameKind)) (acc : List (Str × Addr)), (∀ y ∈ names, y.2 ≠ .free) → cloFrom cells names acc = acc
  | [], acc, _ => rfl
  | (x, k) :: r, acc, h => by
    have h1 : k ≠ .free := h (x, k) List.mem_cons_self
    have h2 := cloFrom_none cells r acc fun y hy => h y (List.mem_cons_of_mem _ hy)
    cases k <;> first | exact absurd rfl h1 | (unfold cloFrom; exact h2) | (rw [cloFrom]; exact h2) | (simp [cloFrom]; exact h2)
theorem tabS_one {H : Hp} {P : Addr} {q : Str} : Tabs [(P, q)] H ↔ TabS H P q := ⟨fun h => h (P, q) List.mem_cons_self, fun h p hp => by
  rw [List.mem_singleton.mp hp]; exact h⟩
theorem sqL_ext {K : PySem.W.Frag} {H H' : Hp} {a : Addr} {xs : List V} (e : ExtN H H') (h : SqL K H a xs) : SqL K H' a xs := by
  rcases h with (h | ⟨o, h⟩) | h
  · exact .inl (.inl (e _ _ h fun ps z => nomatch z))
  · exact .inl (.inr ⟨o, e _ _ h fun ps z => nomatch z⟩)
  · exact .inr h
def tSortL (K : PySem.W.Frag) (P : Addr) (q : Str) (N : List Str) (tb te : TE) : TE := fun σ H Q => te σ H fun v H1 => ∃ (l : Addr) (xs : List V) (key : Nat → Int), v = .ref l ∧ SqL K H1 l xs ∧ TabS H1 P q ∧
  (∀ (i : Nat) (v' : V) (H' : Hp), xs[i]? = some v' → ExtN H1 H' → tb (L2.start N [v']) H' fun z H'' => z = .int (key i) ∧ Same H' H'') ∧
  ∀ (ys : List V) (p : Addr) (H' : Hp), ys.Perm xs → ExtN H1 H' → TabS H' P q → H' p = none → Q (.ref p) (upd H' p (.lst ys))
section
variable {X : Cx}
theorem pe_sortLam {x y : Str} {c P : Addr} {k : Nat} {N : List Str} {params : Arguments} {body e : Expr} {scope : Scope} {tb te : TE} {p lpos kpos pos : Pos} (hg : Gl X x) (hm : X.mg x = none) (hv : bootBuiltins x = some (.builtin "sorted")) (ha0 : PA X [e] (tCons te tNil))
    (TB : TabB X.base X.mg c P) (hcode : X.env.code = .ref c) (S : FnScope N [y] scope) (hr : Room (k + 3) X.A) (hdef : defaultsOf params X.env = ([], []))
    (hbind : ∀ (q : Str) (pm cv ctv u : Value), bindArgs (PySem.W.kla_fn "<lambda>" q params body scope [] pm cv ctv) ⟨[u], []⟩ = pure [(y, u)])
    (hbody : ∀ (A : Around) (outer : List Env) (s : Shared) (H : Hp) (f c' : Addr), Room k (A.deeper (envOfC (X.env.qual ++ "<lambda>") scope s.heap.objs.size f (.ref c'))) → PE (cxOf CX0 X.prog X.w X.K X.mg X.base N (X.env.qual ++ "<lambda>") scope f (.ref c') A outer s H E0) body tb)
    (hn : x ≠ "__name__" := by decide) (hdb : (x == ("__debug__" : Str)) = false := by decide)
    (hst : backTo pos (starEach [e] X.env) = (false, eval e X.env) :: backTo pos (starEach [] X.env) := by rfl) (hpl : (backTo pos (starEach [e] X.env)).any (·.1) = false := by rfl)
    (hall : (backToKw pos (keywordEach [⟨some "key", .Lambda params body scope lpos, kpos⟩] X.env)).all (·.1.isSome) = true := by rfl) (hnone : (backToKw pos (keywordEach [⟨some "key", .Lambda params body scope lpos, kpos⟩] X.env)).any (·.1.isNone) = false := by rfl) :
    PE X (.Call (.Name x p) [e] [⟨some "key", .Lambda params body scope lpos, kpos⟩] pos) (tSortL X.K P (X.env.qual ++ "<lambda>") N tb te) := by
  refine ⟨fun pins s σ H Q I h => ?_⟩
  refine wpAny_Call_Name_kw (ld_blt I hg hm hv ?_ hn hdb)
  have ha := ha0.run pos pins s σ H (fun vs H1 => match vs with
    | [v] => ∃ (l : Addr) (xs : List V) (key : Nat → Int), v = .ref l ∧ SqL X.K H1 l xs ∧ TabS H1 P (X.env.qual ++ "<lambda>") ∧
        (∀ (i : Nat) (v' : V) (H' : Hp), xs[i]? = some v' → ExtN H1 H' → tb (L2.start N [v']) H' fun z H'' => z = .int (key i) ∧ Same H' H'') ∧
        ∀ (ys : List V) (p : Addr) (H' : Hp), ys.Perm xs → ExtN H1 H' → TabS H' P (X.env.qual ++ "<lambda>") → H' p = none → Q (.ref p) (upd H' p (.lst ys))
    | _ => False) I h
  refine PyProof.Rows.callWith_kw (thn ha fun us s1 ⟨vs, H1, I1, r1, q1⟩ => ?_) hst hpl hall hnone
  cases vs with
  | nil => exact False.elim q1
  | cons v vs =>
    cases vs with
    | cons _ _ => exact False.elim q1
    | nil =>
      obtain ⟨l, xs, key, e1, hsq, hT, htb, hq⟩ := q1
      subst e1
      obtain ⟨u, rfl, ru⟩ := r1.one
      cases ru
      have e0 : cloFrom X.env.cells scope.names [] = [] := cloFrom_none _ _ _ S.nofree
      show wpAny _ _ (evalAll [do let v ← eval (.Lambda params body scope lpos) X.env; standAt pos; pure v]) _ _ s1
      refine wpAny_evalAll_cons (wpAny_bind (lam_make2 (T := [(P, X.env.qual ++ "<lambda>")]) I1 TB hcode List.mem_cons_self (fun p hp _ => by rw [List.mem_singleton.mp hp]) (tabS_one.mpr hT) hdef (fun y hy z => absurd z (S.nofree y hy)) fun f c' pm ctv H2 s2 I2 eN T2 hf hfn hfr hco => ?_))
      rw [e0] at hf
      refine wpAny_bind (wpAny_standAt (wpAny_pure (wpAny_evalAll_nil ?_)))
      show wpAny _ _ (call (.builtin "sorted") [.ref l] [(Str.ofString "key", .ref f)]) _ _ s2
      refine sorted_lam (key := key) I2 (sqL_ext eN hsq) (by have := hr.un; omega) (fun i v u s' H' hx rvu I' same un => ?_) fun ys p H' hp same hpn _ => hq ys p H' hp (eN.trans (ExtN.of same)) ((tabS_one.mp T2).ext same) hpn
      have hf' := un.keep f _ hf hfn hfr (by simp)
      have hr2 : Room (k + 1) X.A.in1.in1 := hr.in1.in1
      refine wpAny_call (codeAny_mono (lam_run (tb := tb) (Q := fun z H'' => z = .int (key i) ∧ Same H' H'') S hr2 I'.env0.in1.in1 hf' (same _ _ hco) (hbind _ _ _ _ _) rvu (hbody _ _ _ _ _ _ (hr2.deeper _)) (htb i v H' hx (eN.trans (ExtN.of same)))) fun r s'' hq => ?_)
      cases r with
      | error e => exact (show False from hq).elim
      | ok fl =>
        cases fl with
        | next => exact False.elim hq
        | brk => exact False.elim hq
        | cont => exact False.elim hq
        | ret z =>
          obtain ⟨v', H'', os, bare, un2, hok2, rv2, e2, same2⟩ := hq
          subst e2
          obtain ⟨t, rfl⟩ := (show ∃ t, z = Value.int (key i) t from rv2)
          exact ⟨t, H'', rfl, os, bare, un2, hok2, same2⟩
end
end LamK
set_option maxRecDepth 100000
set_option maxHeartbeats 4000000
namespace DZip
open PySem
open PySem.Sem (wp)
section
variable {prog : Program} {w : World} {A : Around} {E : Value → Shared → Prop} {s : Shared} {z TI TO T i1 i2 : Addr} {fp1 fp2 : List Addr} {n1 n2 i : Nat} {P1 P2 : Nat → Value → Prop} {St1 St2 : Nat → Heap → Prop} {f : Bool} {oT : Obj}
/-- the next pair of a zip whose last pair is kept by another -/
theorem next_kept {Q : Value → Shared → Prop} (S : ZipSep2 z TI TO i1 i2 fp1 fp2) (D1 : Draws prog w A i1 fp1 n1 P1 St1) (D2 : Draws prog w A i2 fp2 n2 P2 St2) (hz : IsZipHeld s.heap z TI TO T f) (hT : s.heap.get? T = some oT) (hTI : IsTupOf2 s.heap TI (.ref i1) (.ref i2))
    (st1 : St1 i s.heap) (st2 : St2 i s.heap) (c1 : i < n1) (c2 : i < n2)
    (hQ : ∀ x1 x2 h' tk, P1 i x1 → P2 i x2 → IsZipHeld h' z TI TO T true → St1 (i + 1) h' → St2 (i + 1) h' → IsTupOf2 h' s.heap.objs.size x1 x2 →
      (∀ c o, c ≠ z → c ≠ i1 → c ≠ i2 → s.heap.get? c = some o → h'.get? c = some o) → Q (.ref s.heap.objs.size) { s with heap := h', toks := tk }) :
    wpAny (model prog w) A (Builtin.«zip.__next__» ⟨[.ref z], []⟩) (fun fin s' => ∃ v, fin = .done (.ret v) ∧ Q v s') E s := by
  obtain ⟨hp, g, dd, tk0, os⟩ := s
  show wpAny _ _ (field (.ref z) 2 >>= _) _ _ _
  apply wpAny_bind
  apply wpAny_field hz rfl (x := .bool false) rfl
  show wpAny _ _ (field (.ref z) 3 >>= _) _ _ _
  apply wpAny_bind
  apply wpAny_field hz rfl (x := .ref TI) rfl
  apply wpAny_bind
  apply wpAny_seqItems hTI rfl
  show wpAny _ _ (Builtin.SmallTypes.ownedTupleIsFree (.ref z) >>= _) _ _ _
  apply wpAny_bind
  refine wpAny_tupleHeld_zip hz hT fun ha hza sa => ?_
  simp only [Bool.false_eq_true, if_false]
  apply wpAny_bind
  rw [← Array.forIn_toList]
  simp only [List.forIn_cons, List.forIn_nil]
  apply wpAny_bind
  apply wpAny_bind
  apply wpAny_holding
  show wpAny _ _ (Builtin.SmallTypes.nextOf (.ref i1) >>= _) _ _ _
  apply wpAny_bind
  refine D1.item i ⟨ha, g, dd, tk0, os⟩ _ _ c1 (D1.over st1 sa S.zf1) fun x1 hb tb p1 st1b sb => wpAny_pure (wpAny_pure ?_)
  apply wpAny_bind
  apply wpAny_bind
  apply wpAny_holding
  show wpAny _ _ (Builtin.SmallTypes.nextOf (.ref i2) >>= _) _ _ _
  apply wpAny_bind
  refine D2.item i ⟨hb, g, dd, tb, os⟩ _ _ c2 (D2.over (D2.over st2 sa S.zf2) sb S.sep1_2) fun x2 hc tc p2 st2c sc => wpAny_pure (wpAny_pure (wpAny_pure ?_))
  show wpAny _ _ (newTuple [x1, x2] >>= _) _ _ _
  apply wpAny_bind
  refine wpAny_newTuple ?_
  have hsz : hc.objs.size = hp.objs.size := by rw [sc.1, sb.1, sa.1]
  have hzc : IsZipHeld hc z TI TO T true := sc.extBut _ _ S.zi2 (sb.extBut _ _ S.zi1 hza)
  have keep : ∀ c o, c ≠ z → c ≠ i1 → c ≠ i2 → hp.get? c = some o → hc.get? c = some o := fun c o n0 n1 n2 e => sc.extBut _ _ n2 (sb.extBut _ _ n1 (sa.extBut _ _ n0 e))
  have up : ∀ c o, hc.get? c = some o → (hc.push { cls := .type "tuple", data := .seq #[x1, x2] }).get? c = some o := fun c o e => Heap.get?_push_of_some _ e
  have hnew : IsTupOf2 (hc.push { cls := .type "tuple", data := .seq #[x1, x2] }) hc.objs.size x1 x2 := Heap.get?_push_size _ rfl
  refine wpAny_pure ⟨_, rfl, ?_⟩
  show Q (.ref hc.objs.size) _
  rw [hsz] at hnew ⊢
  exact hQ x1 x2 _ tc p1 p2 (up _ _ hzc) (D1.frame _ _ _ (D1.over st1b sc S.sep2_1) fun b _ o e => up _ _ e) (D2.frame _ _ _ st2c fun b _ o e => up _ _ e) hnew fun c o n0 n1 n2 e => up _ _ (keep c o n0 n1 n2 e)
/-- its end -/
theorem end_kept {Q : Fin → Shared → Prop} (S : ZipSep2 z TI TO i1 i2 fp1 fp2) (D1 : Draws prog w A i1 fp1 n1 P1 St1) (D2 : Draws prog w A i2 fp2 n2 P2 St2) (hz : IsZipHeld s.heap z TI TO T f) (hT : s.heap.get? T = some oT) (hTI : IsTupOf2 s.heap TI (.ref i1) (.ref i2))
    (st1 : St1 n1 s.heap)
    (hE : ∀ h' tk e, (∀ c o, c ≠ z → c ≠ i1 → s.heap.get? c = some o → h'.get? c = some o) → (∃ o, h'.get? e = some o ∧ o.cls = .type "StopIteration") → E (.ref e) { s with heap := h', toks := tk }) :
    wpAny (model prog w) A (Builtin.«zip.__next__» ⟨[.ref z], []⟩) Q E s := by
  obtain ⟨hp, g, dd, tk0, os⟩ := s
  show wpAny _ _ (field (.ref z) 2 >>= _) _ _ _
  apply wpAny_bind
  apply wpAny_field hz rfl (x := .bool false) rfl
  show wpAny _ _ (field (.ref z) 3 >>= _) _ _ _
  apply wpAny_bind
  apply wpAny_field hz rfl (x := .ref TI) rfl
  apply wpAny_bind
  apply wpAny_seqItems hTI rfl
  show wpAny _ _ (Builtin.SmallTypes.ownedTupleIsFree (.ref z) >>= _) _ _ _
  apply wpAny_bind
  refine wpAny_tupleHeld_zip hz hT fun ha hza sa => ?_
  simp only [Bool.false_eq_true, if_false]
  apply wpAny_bind
  rw [← Array.forIn_toList]
  simp only [List.forIn_cons, List.forIn_nil]
  apply wpAny_bind
  apply wpAny_bind
  apply wpAny_holding
  show wpAny _ _ (Builtin.SmallTypes.nextOf (.ref i1) >>= _) _ _ _
  apply wpAny_bind
  exact D1.done ⟨ha, g, dd, tk0, os⟩ _ _ (D1.over st1 sa S.zf1) fun h' e hk he => hE h' tk0 e (fun c o n0 n1 x => hk _ _ n1 (sa.extBut _ _ n0 x)) he
/-- what a list and a tuple give in pairs -/
def relLT (xs ys : Array Value) (i : Nat) (k v : Value) : Prop := xs[i]? = some k ∧ ys[i]? = some v
def okLT (z TI TO i1 i2 l1 l2 : Addr) (xs ys : Array Value) (h : Heap) : Prop := IsZip h z TI TO .none ∧ IsTupOf2 h TI (.ref i1) (.ref i2) ∧ (∃ a b, IsTupOf2 h TO a b) ∧ (h.IsListIter i1 l1 0 ∧ h.IsList l1 xs) ∧ h.IsTupleIter i2 l2 0 ∧ h.IsTuple l2 ys
/-- where such a zip stands when it has given i pairs, d being filled -/
def stLT (d z TI TO i1 i2 l1 l2 : Addr) (xs ys : Array Value) (i : Nat) (h : Heap) : Prop := IsTupOf2 h TI (.ref i1) (.ref i2) ∧ (h.IsListIter i1 l1 i ∧ h.IsList l1 xs) ∧ (h.IsTupleIter i2 l2 i ∧ h.IsTuple l2 ys) ∧
  ((IsZip h z TI TO .none ∧ ∃ a b, IsTupOf2 h TO a b) ∨ ∃ T f oT, IsZipHeld h z TI TO T f ∧ h.get? T = some oT ∧ T ≠ z ∧ T ≠ i1 ∧ T ≠ i2 ∧ T ≠ d)
theorem srcLT {d l1 l2 : Addr} {xs ys : Array Value} (hA : A.handled = none) (S : ZipSep2 z TI TO i1 i2 [i1, l1] [i2, l2]) (n1 : l1 ≠ i1) (n2 : l2 ≠ i2) (hsz : xs.size ≤ ys.size)
    (dz : d ≠ z) (dTI : d ≠ TI) (dTO : d ≠ TO) (d1 : d ≠ i1) (d2 : d ≠ i2) (e1 : d ≠ l1) (e2 : d ≠ l2) : PairSrc prog w A z d [z, TO, i1, i2] xs.size (relLT xs ys) (stLT d z TI TO i1 i2 l1 l2 xs ys) := by
  have D1 : Draws prog w A.in1 i1 [i1, l1] xs.size (fun i v => xs[i]? = some v) (fun i h => h.IsListIter i1 l1 i ∧ h.IsList l1 xs) := Draws.list (A := A.in1) hA i1 l1 n1 xs
  have D2 : Draws prog w A.in1 i2 [i2, l2] ys.size (fun i v => ys[i]? = some v) (fun i h => h.IsTupleIter i2 l2 i ∧ h.IsTuple l2 ys) := Draws.tuple (A := A.in1) hA i2 l2 n2 ys
  refine ⟨fun hm => ?_, fun i h h' st hk => ?_, fun i s Q E hi st hds hQ => ?_, fun s Q E st hQ => ?_⟩
  · simp [dz, dTO, d1, d2] at hm
  · obtain ⟨hTI, ⟨g1, g2⟩, ⟨g3, g4⟩, hz⟩ := st
    refine ⟨hk _ _ (Ne.symm dTI) hTI, ⟨g1.at fun o e => hk _ o (Ne.symm d1) e, g2.at fun o e => hk _ o (Ne.symm e1) e⟩, ⟨g3.at fun o e => hk _ o (Ne.symm d2) e, g4.at fun o e => hk _ o (Ne.symm e2) e⟩, ?_⟩
    rcases hz with ⟨hz, a, b, hTO⟩ | ⟨T, f, oT, hz, hT, r1, r2, r3, r4⟩
    · exact .inl ⟨hk _ _ (Ne.symm dz) hz, a, b, hk _ _ (Ne.symm dTO) hTO⟩
    · exact .inr ⟨T, f, oT, hk _ _ (Ne.symm dz) hz, hk _ _ r4 hT, r1, r2, r3, r4⟩
  · obtain ⟨hTI, st1, st2, hz⟩ := st
    have lt : ∀ {c o}, s.heap.get? c = some o → s.heap.objs.size ≠ c := fun e => Nat.ne_of_gt (Heap.lt_size e)
    have m1 : s.heap.objs.size ≠ i1 := let ⟨_, e⟩ := D1.live _ _ st1; lt e
    have m2 : s.heap.objs.size ≠ i2 := let ⟨_, e⟩ := D2.live _ _ st2; lt e
    rcases hz with ⟨hz, a, b, hTO⟩ | ⟨T, f, oT, hz, hT, r1, r2, r3, r4⟩
    · refine wpAny_pyNext_zipD2_item S D1 D2 hz hTI hTO st1 st2 hi (by omega) fun x1 x2 h' tk p1 p2 q1 _ q3 q4 q5 _ hk => ?_
      exact hQ s.heap.objs.size x1 x2 h' tk ⟨p1, p2⟩ (.inl ⟨_, q5, rfl, _, rfl⟩) ⟨hk _ _ S.TIz S.TITO S.TIi1 S.TIi2 hTI, q3, q4, .inr ⟨s.heap.objs.size, false, _, q1, q5, lt hz, m1, m2, Nat.ne_of_gt hds⟩⟩
        fun c o hc e => by
          simp only [List.mem_cons, List.not_mem_nil, or_false, not_or] at hc
          exact hk c o hc.1 hc.2.1 hc.2.2.1 hc.2.2.2 e
    · have hTy : s.TypeIs (.ref z) "zip" := ⟨_, hz, rfl⟩
      unfold pyNext
      apply wpAny_bind
      apply wpAny_attempt
      refine wpAny_callSpecial?_slot (name := Str.ofString "__next__") hTy F.slot_zip_next (wpAny_call_entry F.slot_zip_next hTy F.entry_zip_next (next_kept S D1 D2 hz hT hTI st1 st2 hi (by omega) fun x1 x2 h' tk p1 p2 q1 q3 q4 q5 hk => wpAny_pure ?_) (F.args_zip_next_1 _))
      exact hQ s.heap.objs.size x1 x2 h' tk ⟨p1, p2⟩ (.inl ⟨_, q5, rfl, _, rfl⟩) ⟨hk _ _ S.TIz S.TIi1 S.TIi2 hTI, q3, q4, .inr ⟨T, true, oT, q1, hk _ _ r1 r2 r3 hT, r1, r2, r3, r4⟩⟩
        fun c o hc e => by
          simp only [List.mem_cons, List.not_mem_nil, or_false, not_or] at hc
          exact hk c o hc.1 hc.2.2.1 hc.2.2.2 e
  · obtain ⟨hTI, st1, st2, hz⟩ := st
    rcases hz with ⟨hz, a, b, hTO⟩ | ⟨T, f, oT, hz, hT, r1, r2, r3, r4⟩
    · refine wpAny_pyNext_zipD2_end S D1 D2 hz hTI hTO st1 st2 (Nat.le_refl _) hsz (.inl rfl) fun h' tk hk => hQ h' tk fun c o hc e => by
        simp only [List.mem_cons, List.not_mem_nil, or_false, not_or] at hc
        exact hk c o hc.1 hc.2.1 hc.2.2.1 hc.2.2.2 e
    · have hTy : s.TypeIs (.ref z) "zip" := ⟨_, hz, rfl⟩
      unfold pyNext
      apply wpAny_bind
      apply wpAny_attempt
      refine wpAny_callSpecial?_slot (name := Str.ofString "__next__") hTy F.slot_zip_next (wpAny_call_entry F.slot_zip_next hTy F.entry_zip_next (end_kept S D1 D2 hz hT hTI st1 fun h' tk e hk he => ?_) (F.args_zip_next_1 _))
      obtain ⟨o, ho, hc⟩ := he
      apply wpAny_bind
      refine wpAny_isInstance (T := "StopIteration") (b := true) ⟨o, ho, hc⟩ isSubtype_stop ?_
      exact wpAny_pure (hQ _ _ fun c o hc e => by
        simp only [List.mem_cons, List.not_mem_nil, or_false, not_or] at hc
        exact hk c o hc.1 hc.2.2.1 e)
theorem argLT {l1 l2 : Addr} {xs ys : Array Value} (S : ZipSep2 z TI TO i1 i2 [i1, l1] [i2, l2]) (n1 : l1 ≠ i1) (n2 : l2 ≠ i2) (hsz : xs.size ≤ ys.size) :
    PairArg prog w "zip" z [z, TI, TO, i1, i2, l1, l2] [z, TO, i1, i2] xs.size (relLT xs ys) (okLT z TI TO i1 i2 l1 l2 xs ys) where
  type := fun s ok => ⟨_, ok.1, rfl⟩
  notDict := by decide
  keep := fun h h' ok hk => by
    obtain ⟨hz, hTI, ⟨a, b, hTO⟩, ⟨g1, g2⟩, g3, g4⟩ := ok
    exact ⟨hk _ _ hz, hk _ _ hTI, ⟨a, b, hk _ _ hTO⟩, ⟨g1.at fun o e => hk _ o e, g2.at fun o e => hk _ o e⟩, g3.at fun o e => hk _ o e, g4.at fun o e => hk _ o e⟩
  there := fun h ok b hb => by
    obtain ⟨hz, hTI, ⟨a, c, hTO⟩, ⟨⟨o1, g1, _⟩, ⟨o2, g2, _⟩⟩, ⟨o3, g3, _⟩, ⟨o4, g4, _⟩⟩ := ok
    simp only [List.mem_cons, List.not_mem_nil, or_false] at hb
    rcases hb with q | q | q | q | q | q | q
    · rw [q]; exact ⟨_, hz⟩
    · rw [q]; exact ⟨_, hTI⟩
    · rw [q]; exact ⟨_, hTO⟩
    · rw [q]; exact ⟨_, g1⟩
    · rw [q]; exact ⟨_, g3⟩
    · rw [q]; exact ⟨_, g2⟩
    · rw [q]; exact ⟨_, g4⟩
  sub := fun b hb => by
    simp only [List.mem_cons, List.not_mem_nil, or_false] at hb ⊢
    rcases hb with q | q | q | q <;> simp [q]
  noKeys := fun A s Q E hA ok h => getAttrOr_miss_zip ok.1 rfl rfl rfl zip_no_keys (by decide +kernel) hA h
  iter := fun A s d Q E hA ok hd hdf h => by
    obtain ⟨hz, hTI, ⟨a, b, hTO⟩, g1, g2⟩ := ok
    simp only [List.mem_cons, List.not_mem_nil, or_false, not_or] at hdf
    obtain ⟨dz, dTI, dTO, di1, di2, dl1, dl2⟩ := hdf
    exact wpAny_pyIter_zip hz (h z [z, TO, i1, i2] _ s.heap s.toks (srcLT hA S n1 n2 hsz dz dTI dTO di1 di2 dl1 dl2) ⟨hTI, g1, g2, .inl ⟨hz, a, b, hTO⟩⟩ (fun _ _ e => e) fun b hb => .inl hb)
end
open PySem PySem.Spec PyProof.Rows L2
/-- dict(zip(xs, t)): xs a list of keys, t a tuple of as many values -/
def tDictZip (K : PySem.W.Frag) (ta : TA) : TE := fun σ H Q => ta σ H fun vs H1 => ∃ (a b : Addr) (ks : List Key) (ys : List V), vs = [.ref a, .ref b] ∧ SqL K H1 a (ks.map kV) ∧ SqT K H1 b ys ∧ ks.length = ys.length ∧ ∀ p, H1 p = none → Q (.ref p) (upd H1 p (.dK (mergeK [] (ks.zip ys))))
theorem kv_zip {P : Program} {w : World} : ∀ {ks : List Key} {ys : List V} {us vs : List Value}, Vals (ks.map kV) us → Vals ys vs → ks.length = ys.length → KV (ks.zip ys) (ks.zip vs) ∧ (ks.zip vs).length = us.length ∧ ∀ (i : Nat) (k v : Value), us[i]? = some k → vs[i]? = some v → ∃ c, (ks.zip vs)[i]? = some (c, v) ∧ (mixKind P w).is c k = true
  | [], [], us, vs, r1, r2, _ => by
    cases r1
    cases r2
    exact ⟨.nil, rfl, fun i k v h => by simp at h⟩
  | [], _ :: _, _, _, _, _, h => by simp at h
  | _ :: _, [], _, _, _, _, h => by simp at h
  | c :: ks, y :: ys, us, vs, r1, r2, h => by
    rw [List.map_cons] at r1
    cases r1 with
    | cons a1 t1 =>
      cases r2 with
      | cons a2 t2 =>
        obtain ⟨g1, g2, g3⟩ := kv_zip (P := P) (w := w) t1 t2 (by simpa using h)
        refine ⟨.cons ⟨rfl, a2⟩ g1, congrArg (· + 1) g2, fun i k v e1 e2 => ?_⟩
        rcases i with _ | i
        · cases Option.some.inj e1
          cases Option.some.inj e2
          exact ⟨c, rfl, kV_is a1⟩
        · exact g3 i k v e1 e2
theorem pe_dictZip {X : Cx} {e e2 : Expr} {ta : TA} {p p2 pos pos2 : Pos} (hc : X.calm = true) (hg : Gl X "dict") (hm : X.mg "dict" = none) (hg2 : Gl X "zip") (hm2 : X.mg "zip" = none) (ha : PA X [e, e2] ta)
    (hs : starEach [e, e2] X.env = (false, eval e X.env) :: starEach [e2] X.env := by rfl) (hpl : (backTo pos2 (starEach [e2] X.env)).any (·.1) = false := by rfl)
    (hs1 : starEach [Expr.Call (.Name "zip" p2) [e, e2] [] pos2] X.env = [(false, eval (.Call (.Name "zip" p2) [e, e2] [] pos2) X.env)] := by rfl) :
    PE X (.Call (.Name "dict" p) [.Call (.Name "zip" p2) [e, e2] [] pos2] [] pos) (tDictZip X.K ta) := by
  refine ⟨fun pins s σ H Q I h => ?_⟩
  refine PySem.Call_name1 hs1 (ld_blt I hg hm PyProof.Rows.boot_dict (PySem.callWith_type1 ?_))
  refine Call_ (ld_blt I hg2 hm2 PyProof.Rows.boot_zip (PyProof.Rows.callWith_type1 (thn (ha.run pos2 pins s σ H _ I h) fun us s1 ⟨vs, H1, I1, r1, q1⟩ => ?_) hs hpl))
  obtain ⟨a, b, ks, ys, ex, hqa, hqb, hlen, q⟩ := q1
  subst ex
  cases r1 with
  | cons ra rr =>
    cases rr with
    | cons rb rr =>
      cases rr
      cases ra
      cases rb
      obtain ⟨its, rv, pl, hzl⟩ := I1.list hqa
      obtain ⟨its2, rv2, pt, _⟩ := I1.tuple hqb
      obtain ⟨g1, g2, g3⟩ := kv_zip (P := X.prog) (w := X.w) rv rv2 hlen
      have hl1 := rv.length
      have hl2 := rv2.length
      rw [List.length_map] at hl1 hzl
      have la : a < s1.heap.objs.size := pl.lt
      obtain ⟨ob, hob, _⟩ := id pt
      have lb : b < s1.heap.objs.size := Heap.lt_size hob
      have S : ZipSep2 (s1.heap.objs.size + 4) (s1.heap.objs.size + 2) (s1.heap.objs.size + 3) s1.heap.objs.size (s1.heap.objs.size + 1) [s1.heap.objs.size, a] [s1.heap.objs.size + 1, b] := by
        generalize s1.heap.objs.size = N at la lb
        have h1 : ∀ {x y : Nat}, x < y → (x : Addr) ≠ y := fun h => Nat.ne_of_lt h
        have h2 : ∀ {x y : Nat}, y < x → (x : Addr) ≠ y := fun h => Nat.ne_of_gt h
        have m : ∀ {x y z : Nat}, x ≠ y → x ≠ z → (x : Addr) ∉ ([y, z] : List Addr) := fun p q hm => by
          rcases List.mem_cons.mp hm with e | hm
          · exact p e
          · exact q (List.mem_singleton.mp hm)
        have la : Nat.lt a N := la
        have lb : Nat.lt b N := lb
        exact ⟨h1 (by omega), h1 (by omega), h1 (by omega), h2 (by omega), List.mem_cons_self, m (by omega) (Nat.ne_of_gt (Nat.lt_of_lt_of_le la (by omega))), m (by omega) (Nat.ne_of_gt (Nat.lt_of_lt_of_le la (by omega))), h2 (by omega), List.mem_cons_self, m (by omega) (Nat.ne_of_gt (Nat.lt_of_lt_of_le lb (by omega))), m (by omega) (Nat.ne_of_gt (Nat.lt_of_lt_of_le lb (by omega))), m (by omega) (Nat.ne_of_gt lb), m (by omega) (Nat.ne_of_gt (Nat.lt_of_lt_of_le la (by omega)))⟩
      refine zip_begins2 (begins_list a its.toArray) (begins_tuple b its2.toArray) pl.isList pt fun h' hz hTI hTO hi1 hi2 hsz hk => ?_
      have hb0 : ∀ {c : Addr} {o : Obj}, s1.heap.get? c = some o → c ∉ [s1.heap.objs.size + 4, s1.heap.objs.size + 3, s1.heap.objs.size, s1.heap.objs.size + 1] := fun e hm => by
        have lt := Heap.lt_size e
        simp only [List.mem_cons, List.not_mem_nil, or_false] at hm
        rcases hm with q | q | q | q
        · rw [q] at lt; exact absurd lt (Nat.not_lt.mpr (Nat.le_add_right _ _))
        · rw [q] at lt; exact absurd lt (Nat.not_lt.mpr (Nat.le_add_right _ _))
        · rw [q] at lt; exact absurd lt (Nat.lt_irrefl _)
        · rw [q] at lt; exact absurd lt (Nat.not_lt.mpr (Nat.le_add_right _ _))
      have hprs : (ks.zip its2).length = its.toArray.size := by rw [List.size_toArray, g2]
      refine PySem.call_dict_pairs (knd := mixKind X.prog X.w) (kvs := ks.zip its2) (argLT (xs := its.toArray) (ys := its2.toArray) S (Nat.ne_of_lt la) (Nat.ne_of_lt (Nat.lt_of_lt_of_le lb (Nat.le_add_right _ _))) (by rw [List.size_toArray, List.size_toArray]; omega)) (I.ok.hd hc)
        ⟨hz, hTI, ⟨_, _, hTO⟩, ⟨⟨_, hi1, rfl, rfl⟩, pl.isList.at fun o e => hk _ o e⟩, ⟨_, hi2, rfl, rfl⟩, (show s1.heap.IsTuple b its2.toArray from pt).at fun o e => hk _ o e⟩
        ⟨hprs, fun i k v r => g3 i k v (by simpa using r.1) (by simpa using r.2)⟩ (by rw [List.size_toArray]; omega) fun h'' tk hd' hk' => ?_
      have keep : ∀ c o, s1.heap.get? c = some o → h''.get? c = some o := fun c o e => hk' c o (hb0 e) (hk c o e)
      have hle : s1.heap.objs.size ≤ h'.objs.size := by rw [hsz]; exact Nat.le_add_right _ _
      have hm : (h'.objs.size == sysModules) = false := beq_eq_false_iff_ne.mpr (Nat.ne_of_gt (Nat.lt_of_lt_of_le I1.big hle))
      have hsl : (mergeK [] (ks.zip ys)).length ≤ sizeLine := by
        refine Nat.le_trans (length_mergeK (ks.zip ys) []) ?_
        rw [List.length_nil, Nat.zero_add, List.length_zip]
        omega
      exact ⟨.ref h'.objs.size, upd H1 h'.objs.size (.dK (mergeK [] (ks.zip ys))), I1.laid (t' := tk) keep hle (show ObjOk X.prog X.w _ _ _ (.dK (mergeK [] (ks.zip ys))) from ⟨hsl, hm, merged [] (ks.zip its2), KV.merge g1 .nil, hd'⟩), rfl, q _ (I1.hok.fresh hle)⟩
end DZip
set_option maxRecDepth 100000
set_option maxHeartbeats 4000000
namespace DcR
open PySem PySem.Spec PyProof.Rows L2
section
variable {X : Cx} {i : Nat} {y : Str} {py pos spos : Pos} {kx vx tg iter : Expr} {ifs : List Expr} {scope : Scope} {own : List (Str × Nat)} {wi : TI} {g : TG} {tt : TT} {tk tv : TE}
abbrev DcE (kx vx tg iter : Expr) (ifs : List Expr) (scope : Scope) (pos : Pos) : Expr := .DictComp kx vx [⟨tg, iter, ifs, 0⟩] scope pos
theorem sw_dc {env : Env} {l : Nat} (hk : env.scope.kind = .function) (hy : env.scope.names.lookup y = some .local) (hl : (py.line == pos.line) = true)
    (ha : (scope.names.any fun (n, k) => n == y && (k == .local || k == .cell)) = false) : swapsWith (DcE kx vx tg iter ifs scope pos) (some (.Name y py)) l env = pure true := by
  have k1 : env.kindOf y = some .local := hy
  have k2 : env.blockKind = .function := by
    unfold Env.blockKind
    rw [hk] <;> rfl
  unfold swapsWith
  simp only [k1, k2, ha, Expr.pos, hl] <;> rfl
/-- name = {k: v for ..} on one line, the name a local -/
theorem ps_setDc (hc : X.calm = true) (hN : X.N.Nodup) (hy : X.N[i]? = some y) (hyl : X.env.scope.names.lookup y = some .local)
    (hsw : swapsWith (DcE kx vx tg iter ifs scope pos) (some (.Name y py)) spos.line X.env = pure true) (hi : PI X tg iter wi) (ok : BlkOk X.N X.env.scope scope own)
    (hg : ∀ (s : Shared) (H : Hp) (C : Addr) (cl : List (Str × Addr)) (fp : List Addr), PG (X.blk s H scope (compEnvC scope cl C X.env) fp) tg g)
    (ht : ∀ (s : Shared) (H : Hp) (C : Addr) (cl : List (Str × Addr)) (fp : List Addr), PTs (X.blk s H scope (compEnvC scope cl C X.env) fp) ifs tt)
    (hkx : ∀ (s : Shared) (H : Hp) (C : Addr) (cl : List (Str × Addr)) (fp : List Addr), PE (X.blk s H scope (compEnvC scope cl C X.env) fp) kx tk)
    (hvx : ∀ (s : Shared) (H : Hp) (C : Addr) (cl : List (Str × Addr)) (fp : List Addr), PE (X.blk s H scope (compEnvC scope cl C X.env) fp) vx tv)
    (hs : ∀ x, foldedSetIterable iter X.env x = pure x := by intro _; rfl) :
    PS X (.Assign [.Name y py] (DcE kx vx tg iter ifs scope pos) spos) (tAsg (tDc wi g tt tk tv (own.map (·.2))) (gName i)) := by
  constructor
  intro pins s σ H D I h
  have h : tDc wi g tt tk tv (own.map (·.2)) σ H (fun x H1 => gName i x σ H1 D.nx) := h
  rw [exec_Assign_Name_used _ _ _ _ hsw]
  apply wpAny_bind
  apply wpAny_standAt
  apply wpAny_bind
  show wpAny _ X.A (do let _ ← comprehension (DcE kx vx tg iter ifs scope pos) scope X.env (firstIterPos [⟨tg, iter, ifs, 0⟩] pos) newDict false (eval iter X.env) (some (assign (.Name y py) X.env))) _ _ s
  apply wpAny_bind
  have core := dc_core (Q := fun x H1 => gName i x σ H1 D.nx) (Qf := fun _ s' => SP X pins D .next s') (pos := pos) (pos' := firstIterPos [⟨tg, iter, ifs, 0⟩] pos) (use := some (assign (.Name y py) X.env)) hc hN I hi ok hg ht hkx hvx hs h
  refine thn (core fun L C s' m H' I' q hn f => ?_) fun _ s' hq => wpAny_pure (wpAny_pure hq)
  obtain ⟨f0, f1, f2, f3, f4, f5⟩ := f
  show wpAny _ _ (assign (.Name y py) X.env (.ref L)) _ _ _
  refine wpAny_assign_Name (store_ok2 (v := V.ref L) I' hN hy (.inl hyl) rfl (fun s2 I2 z => ?_) (.inr hyl))
  obtain ⟨a, sb, ha⟩ := z
  have haC : C ≠ a := ha.elim (fun z => by rw [z]; exact f1) fun z e => f4 y a z e.symm
  exact ⟨m, hn.sameBut sb haC, fun h3 sb3 => ⟨_, H', I2.turned (t' := s2.toks) (fun b o hb e => (sb3.2 b hb).trans e) f0 f1 f3 f4 f5, q⟩⟩
end
end DcR
set_option maxRecDepth 100000
set_option maxHeartbeats 4000000
namespace WS
open PySem L2 SetT RevS
/-- the places of letters that are known, with their figures: of the first j letters -/
def askedUp (L : List Nat) (kf : Figs) (j : Nat) : List (Nat × Int) := (List.range j).filterMap fun i => (L[i]?).bind fun c => if c ∈ keysF kf then some (i, figAt kf c) else none
def askedOf (L : List Nat) (kf : Figs) : List (Nat × Int) := askedUp L kf L.length
def rowQ (p : Nat × Int) : List Int := [(p.1 : Int), p.2]
def agreesQ (qs : List (Nat × Int)) (x : List Int) : Bool := qs.all fun p => decide (x[p.1]? = some p.2)
def havingOf (L : List Nat) (kf : Figs) (as : List (List Int)) : List (List Int) := as.filter (agreesQ (askedOf L kf))
theorem askedUp_succ {L : List Nat} {kf : Figs} {j c : Nat} (h : L[j]? = some c) : askedUp L kf (j + 1) = askedUp L kf j ++ (if c ∈ keysF kf then [(j, figAt kf c)] else []) := by
  unfold askedUp
  rw [List.range_succ, List.filterMap_append, List.filterMap_cons, h]
  by_cases hc : c ∈ keysF kf
  · rw [if_pos hc]
    show _ = _ ++ [_]
    simp [hc]
  · rw [if_neg hc]
    simp [hc]
theorem askedUp_len (L : List Nat) (kf : Figs) (j : Nat) : (askedUp L kf j).length ≤ j := by
  have := List.length_filterMap_le (fun i => (L[i]?).bind fun c => if c ∈ keysF kf then some (i, figAt kf c) else none) (List.range j)
  rw [List.length_range] at this
  exact this
theorem askedUp_lt {L : List Nat} {kf : Figs} {j : Nat} {p : Nat × Int} (h : p ∈ askedUp L kf j) : p.1 < j ∧ ∃ c, L[p.1]? = some c ∧ c ∈ keysF kf ∧ p.2 = figAt kf c := by
  obtain ⟨i, hi, e⟩ := List.mem_filterMap.mp h
  cases hc : L[i]? with
  | none => rw [hc] at e; cases e
  | some c =>
    rw [hc] at e
    by_cases hk : c ∈ keysF kf
    · have e : some (i, figAt kf c) = some p := by simpa [hk] using e
      cases Option.some.inj e
      exact ⟨List.mem_range.mp hi, c, hc, hk, rfl⟩
    · simp [hk] at e
theorem having_nil (L : List Nat) (as : List (List Int)) : havingOf L [] as = as := by
  unfold havingOf
  have e : askedOf L [] = [] := by
    unfold askedOf askedUp
    refine List.filterMap_eq_nil_iff.mpr fun i _ => ?_
    cases L[i]? with
    | none => rfl
    | some c => simp [keysF]
  rw [e]
  exact List.filter_eq_self.mpr fun _ _ => rfl
theorem AnsAt.nil {H : Hp} : AnsAt H [] [] := ⟨rfl, fun i r x a b => by simp at a⟩
theorem AnsAt.one {H : Hp} {r : Addr} {x : List Int} (h : H r = some (.tup (x.map V.int))) : AnsAt H [r] [x] := ⟨rfl, fun i r' x' a b => by
  rcases i with _ | i
  · cases Option.some.inj a
    cases Option.some.inj b
    exact h
  · simp at a⟩
end WS
set_option maxRecDepth 100000
set_option maxHeartbeats 4000000
namespace WS
open PySem L2 SetT RevS
theorem rowsN_of {b : Int} (hb : 0 < b) : ∀ {n : Nat} {row : List Int}, row.length = n → (∀ v ∈ row, 0 ≤ v ∧ v < b) → row.Nodup → row ∈ rowsN b n
  | 0, row, h, _, _ => by
    rw [List.length_eq_zero_iff.mp h]
    exact List.mem_singleton.mpr rfl
  | n + 1, row, h, h1, h2 => by
    have hne : row ≠ [] := fun e => by rw [e] at h; simp at h
    have e := List.dropLast_concat_getLast hne
    have hm : ∀ v ∈ row.dropLast, v ∈ row := fun v hv => (List.dropLast_sublist row).subset hv
    have hl : row.getLast hne ∈ row := List.getLast_mem hne
    rw [← e] at h2
    obtain ⟨d1, d2, d3⟩ := List.nodup_append.mp h2
    have ih := rowsN_of hb (n := n) (row := row.dropLast) (by rw [List.length_dropLast]; omega) (fun v hv => h1 v (hm v hv)) d1
    refine List.mem_flatten.mpr ⟨_, List.mem_map.mpr ⟨row.dropLast, ih, rfl⟩, List.mem_map.mpr ⟨row.getLast hne, List.mem_filter.mpr ⟨mem_upFrom.mpr ⟨(h1 _ hl).1, ?_⟩, ?_⟩, e⟩⟩
    · have := (h1 _ hl).2
      omega
    · have : row.getLast hne ∉ row.dropLast := fun hx => d3 _ hx _ (List.mem_singleton.mpr rfl) rfl
      rw [decide_eq_false this] <;> rfl
theorem fold_prefix : ∀ (r a : List Nat), ∃ X, r.foldl addN a = a ++ X
  | [], a => ⟨[], by rw [List.append_nil] <;> rfl⟩
  | c :: r, a => by
    obtain ⟨X, e⟩ := fold_prefix r (addN a c)
    have e : (c :: r).foldl addN a = addN a c ++ X := e
    rw [e]
    unfold addN
    by_cases h : c ∈ a
    · rw [if_pos h]; exact ⟨X, rfl⟩
    · rw [if_neg h]; exact ⟨[c] ++ X, by rw [List.append_assoc]⟩
theorem rawOf_append (a b : List WSum) : rawOf (a ++ b) = rawOf a ++ rawOf b := by
  unfold rawOf
  rw [List.map_append, List.flatten_append]
theorem letters_prefix (a b : List WSum) : ∃ X, lettersOf (a ++ b) = lettersOf a ++ X := by
  unfold lettersOf
  rw [rawOf_append]
  unfold dd
  rw [List.foldl_append]
  exact fold_prefix _ _
theorem keysF_zip {L : List Nat} {vs : List Int} (h : L.length ≤ vs.length) : keysF (L.zip vs) = L := by
  unfold keysF
  rw [List.map_fst_zip h]
theorem fg_prefix {L X : List Nat} {vs : List Int} {c : Nat} (hl : L.length ≤ vs.length) (hc : c ∈ L) : fgOf (L ++ X) vs c = fgOf L (vs.take L.length) c := by
  have e : vs = vs.take L.length ++ vs.drop L.length := (List.take_append_drop _ _).symm
  have hlen : L.length = (vs.take L.length).length := by rw [List.length_take]; omega
  rw [← figAt_fgOf, ← figAt_fgOf]
  conv => lhs; rw [e]
  rw [List.zip_append hlen]
  exact figAt_append (by rw [keysF_zip (by omega)]; exact hc)
theorem worth_congr {b : Int} {f g : Nat → Int} {cs : List Nat} (h : ∀ c ∈ cs, f c = g c) : worthOf b f cs = worthOf b g cs := by
  have key : ∀ (cs : List Nat) (a : Int), (∀ c ∈ cs, f c = g c) → cs.foldl (fun a c => a * b + f c) a = cs.foldl (fun a c => a * b + g c) a := by
    intro cs
    induction cs with
    | nil => intro a _; rfl
    | cons c r ih =>
      intro a h
      show r.foldl _ (a * b + f c) = r.foldl _ (a * b + g c)
      rw [h c List.mem_cons_self]
      exact ih _ fun d hd => h d (List.mem_cons_of_mem _ hd)
  exact key cs 0 h
theorem sumHolds_congr {b : Int} {f g : Nat → Int} {s : WSum} (h : ∀ z ∈ s.1 ++ [s.2], ∀ c ∈ z.cps.toList, f c = g c) : sumHolds b f s = sumHolds b g s := by
  unfold sumHolds
  have e1 : (s.1.map fun z => worthOf b f z.cps.toList) = s.1.map fun z => worthOf b g z.cps.toList := List.map_congr_left fun z hz => worth_congr (h z (List.mem_append_left _ hz))
  rw [e1, worth_congr (h s.2 (List.mem_append_right _ List.mem_cons_self))]
theorem badFigs_no {b : Int} {ns : List Int} (h1 : ns.Nodup) (h2 : ∀ v ∈ ns, 0 ≤ v ∧ v < b) : badFigs b ns = false := by
  unfold badFigs
  rw [distI_nodup h1, decide_eq_false (Nat.lt_irrefl _), Bool.false_or, Bool.or_eq_false_iff]
  refine ⟨Bool.eq_false_iff.mpr fun h => ?_, Bool.eq_false_iff.mpr fun h => ?_⟩
  · obtain ⟨v, hv, e⟩ := List.any_eq_true.mp h
    have := of_decide_eq_true e
    have := h2 v hv
    omega
  · obtain ⟨v, hv, e⟩ := List.any_eq_true.mp h
    have := of_decide_eq_true e
    have := h2 v hv
    omega
theorem firstsOf_append (a b : List WSum) : firstsOf (a ++ b) = firstsOf a ++ firstsOf b := by
  unfold firstsOf
  rw [List.map_append, List.flatten_append]
theorem figs_map' {L : List Nat} {vs : List Int} (hN : L.Nodup) (hl : L.length = vs.length) : L.map (fgOf L vs) = vs := by
  rw [← figAt_fgOf]
  have := figAt_vals (fg := L.zip vs) (by rw [keysF_zip (by omega)]; exact hN)
  rw [keysF_zip (by omega)] at this
  rw [this]
  unfold valsF
  rw [List.map_snd_zip (by omega)]
/-- an answer of more sums is one of the first of them -/
theorem ans_prefix {b : Int} {s1 s2 : List WSum} (V1 : Valid b s1) (V2 : Valid b (s1 ++ s2)) {x : List Int} (h : x ∈ answersOf b (s1 ++ s2)) : x.take (lettersOf s1).length ∈ answersOf b s1 := by
  have hb2 := V1.b2
  obtain ⟨h1, h2, h3, h4⟩ := ans_row V2 h
  obtain ⟨X, eX⟩ := letters_prefix s1 s2
  have hle : (lettersOf s1).length ≤ x.length := by rw [h1, eX, List.length_append]; omega
  have hlt : (x.take (lettersOf s1).length).length = (lettersOf s1).length := by rw [List.length_take]; omega
  have hm : ∀ v ∈ x.take (lettersOf s1).length, 0 ≤ v ∧ v < b := fun v hv => h2 v (List.mem_of_mem_take hv)
  have hnd : (x.take (lettersOf s1).length).Nodup := h3.sublist (List.take_sublist _ _)
  rw [answers_try V1]
  refine List.mem_filter.mpr ⟨rowsN_of (by omega) hlt hm hnd, ?_⟩
  unfold keepsB at h4 ⊢
  rw [Bool.and_eq_true, Bool.and_eq_true] at h4 ⊢
  obtain ⟨⟨_, g2⟩, g3⟩ := h4
  have hfg : ∀ c ∈ lettersOf s1, fgOf (lettersOf (s1 ++ s2)) x c = fgOf (lettersOf s1) (x.take (lettersOf s1).length) c := fun c hc => by
    rw [eX]
    exact fg_prefix hle hc
  refine ⟨⟨?_, ?_⟩, ?_⟩
  · rw [figs_map' (L := lettersOf s1) (dd_nodup _) hlt.symm, badFigs_no hnd hm] <;> rfl
  · rw [firstsOf_append, noNought_append, Bool.and_eq_true] at g2
    have g2 := g2.1
    unfold noNought at g2 ⊢
    rw [Bool.not_eq_true', Bool.eq_false_iff] at g2 ⊢
    intro q
    obtain ⟨c, hc, e⟩ := List.any_eq_true.mp q
    refine g2 (List.any_eq_true.mpr ⟨c, hc, ?_⟩)
    rw [hfg c (firsts_in hc)]
    exact e
  · rw [List.all_append, Bool.and_eq_true] at g3
    refine List.all_eq_true.mpr fun s hs => ?_
    have := List.all_eq_true.mp g3.1 s hs
    rw [← this]
    exact sumHolds_congr fun z hz c hc => (hfg c (mem_letters hs hz hc)).symm
/-- a row of unlike figures is an answer just where it keeps the sheet -/
theorem ans_iff {b : Int} {ss : List WSum} (V' : Valid b ss) {x : List Int} (h1 : x.length = (lettersOf ss).length) (h2 : ∀ v ∈ x, 0 ≤ v ∧ v < b) (h3 : x.Nodup) : keepsB b ss (lettersOf ss) (fgOf (lettersOf ss) x) = decide (x ∈ answersOf b ss) := by
  have hb2 := V'.b2
  rw [answers_try V', Bool.eq_iff_iff, decide_eq_true_iff, List.mem_filter]
  exact ⟨fun h => ⟨rowsN_of (by omega) h1 h2 h3, h⟩, fun h => h.2⟩
/-! ### what is sure -/
def allSame (B : List (List Int)) (i : Nat) : Bool := B.all fun x => decide (x[i]? = (B.headD [])[i]?)
def sureUp (L : List Nat) (B : List (List Int)) (j : Nat) : Figs := (List.range j).filterMap fun i => (L[i]?).bind fun c => if allSame B i then some (c, ((B.headD [])[i]?).getD 0) else none
def sureOf (L : List Nat) (B : List (List Int)) : Figs := sureUp L B L.length
theorem sureUp_succ {L : List Nat} {B : List (List Int)} {j c : Nat} (h : L[j]? = some c) : sureUp L B (j + 1) = sureUp L B j ++ (if allSame B j then [(c, ((B.headD [])[j]?).getD 0)] else []) := by
  unfold sureUp
  rw [List.range_succ, List.filterMap_append, List.filterMap_cons, h]
  by_cases hc : allSame B j = true
  · simp [hc]
  · simp [hc]
theorem sureUp_mem {L : List Nat} {B : List (List Int)} {j c : Nat} {v : Int} : (c, v) ∈ sureUp L B j ↔ ∃ i, i < j ∧ L[i]? = some c ∧ allSame B i = true ∧ v = ((B.headD [])[i]?).getD 0 := by
  unfold sureUp
  rw [List.mem_filterMap]
  constructor
  · rintro ⟨i, hi, e⟩
    cases hc : L[i]? with
    | none => rw [hc] at e; cases e
    | some d =>
      rw [hc] at e
      by_cases hs : allSame B i = true
      · have e : some (d, ((B.headD [])[i]?).getD 0) = some (c, v) := by simpa [hs] using e
        cases Option.some.inj e
        exact ⟨i, List.mem_range.mp hi, hc, hs, rfl⟩
      · simp [hs] at e
  · rintro ⟨i, hi, hc, hs, rfl⟩
    exact ⟨i, List.mem_range.mpr hi, by rw [hc]; simp [hs]⟩
theorem sureUp_keys {L : List Nat} {B : List (List Int)} {j c : Nat} (h : c ∈ keysF (sureUp L B j)) : ∃ i, i < j ∧ L[i]? = some c := by
  obtain ⟨⟨c', v⟩, hm, rfl⟩ := List.mem_map.mp h
  obtain ⟨i, hi, hc, _⟩ := sureUp_mem.mp hm
  exact ⟨i, hi, hc⟩
theorem sureUp_len (L : List Nat) (B : List (List Int)) (j : Nat) : (sureUp L B j).length ≤ j := by
  have := List.length_filterMap_le (fun i => (L[i]?).bind fun c => if allSame B i then some (c, ((B.headD [])[i]?).getD 0) else none) (List.range j)
  rw [List.length_range] at this
  exact this
theorem sureUp_new {L : List Nat} (hN : L.Nodup) {B : List (List Int)} {j c : Nat} (h : L[j]? = some c) : c ∉ keysF (sureUp L B j) := by
  intro hc
  obtain ⟨i, hi, e⟩ := sureUp_keys hc
  obtain ⟨hi', e1⟩ := List.getElem?_eq_some_iff.mp e
  obtain ⟨hj', e2⟩ := List.getElem?_eq_some_iff.mp h
  have := List.pairwise_iff_getElem.mp hN i j hi' hj' hi
  exact this (e1.trans e2.symm)
theorem sureUp_nodup {L : List Nat} (hN : L.Nodup) (B : List (List Int)) : ∀ j, j ≤ L.length → (keysF (sureUp L B j)).Nodup
  | 0, _ => List.nodup_nil
  | j + 1, hj => by
    have hc : L[j]? = some L[j] := List.getElem?_eq_getElem (by omega)
    rw [sureUp_succ hc]
    have ih := sureUp_nodup hN B j (by omega)
    by_cases hs : allSame B j = true
    · rw [if_pos hs, keysF_snoc]
      refine List.nodup_append.mpr ⟨ih, by simp, fun a ha c hc' e => ?_⟩
      rw [List.mem_singleton] at hc'
      exact sureUp_new hN hc (by rw [← hc', ← e]; exact ha)
    · rw [if_neg hs, List.append_nil]
      exact ih
theorem figAt_mem : ∀ {fg : Figs} {c : Nat} {v : Int}, (keysF fg).Nodup → (c, v) ∈ fg → figAt fg c = v
  | (d, u) :: fg, c, v, hN, h => by
    have hN' := List.nodup_cons.mp (show (d :: keysF fg).Nodup from hN)
    unfold figAt
    rcases List.mem_cons.mp h with e | h
    · cases e
      simp
    · have hne : d ≠ c := fun e => hN'.1 (by rw [e]; exact List.mem_map.mpr ⟨(c, v), h, rfl⟩)
      have := figAt_mem hN'.2 h
      unfold figAt at this
      rw [List.find?_cons, decide_eq_false (show ¬ (d, u).1 = c from hne)]
      exact this
/-- what is sure of the first sums is sure of more, where there is an answer -/
theorem sure_prefix {b : Int} {s1 s2 : List WSum} (V1 : Valid b s1) (V2 : Valid b (s1 ++ s2)) (hne : answersOf b (s1 ++ s2) ≠ []) {c : Nat} {v : Int} (h : (c, v) ∈ sureOf (lettersOf s1) (answersOf b s1)) :
    (c, v) ∈ sureOf (lettersOf (s1 ++ s2)) (answersOf b (s1 ++ s2)) := by
  obtain ⟨i, hi, hc, hs, rfl⟩ := sureUp_mem.mp h
  obtain ⟨X, eX⟩ := letters_prefix s1 s2
  have key : ∀ x ∈ answersOf b (s1 ++ s2), x[i]? = ((answersOf b s1).headD [])[i]? := fun x hx => by
    have := of_decide_eq_true (List.all_eq_true.mp hs _ (ans_prefix V1 V2 hx))
    rw [List.getElem?_take_of_lt hi] at this
    exact this
  have hh : (answersOf b (s1 ++ s2)).headD [] ∈ answersOf b (s1 ++ s2) := by
    cases e : answersOf b (s1 ++ s2) with
    | nil => exact absurd e hne
    | cons x r => exact List.mem_cons_self
  refine sureUp_mem.mpr ⟨i, ?_, ?_, ?_, ?_⟩
  · rw [eX, List.length_append]; omega
  · rw [eX, List.getElem?_append_left hi]; exact hc
  · refine List.all_eq_true.mpr fun x hx => decide_eq_true ?_
    rw [key x hx, key _ hh]
  · rw [key _ hh]
end WS
set_option maxRecDepth 100000
set_option maxHeartbeats 4000000
namespace WS
open PySem L2 SetT RevS
/-- a dict's comprehension over what a walk yields -/
theorem dc_walk {J : It} {n : Nat} {G : Hp → Prop} {Y : Nat → Hp → V → Hp → Prop} (wk : Walk J n G Y) {g : TG} {tt : TT} {tk tv : TE} {vs : List Nat} {σ : L2.St} {H1 : Hp} {D : Addr} {Qd : Hp → Prop} (Pv : Nat → Hp → Prop) (h0 : Pv 0 (upd H1 D (.dK []))) (hG : ∀ i H, i ≤ n → Pv i H → G H)
    (hs : ∀ i x H H', i < n → Pv i H → Y i H x H' → g x (wipe σ vs) H' fun σ2 H2 => wipe σ2 vs = wipe σ vs ∧ tt σ2 H2 fun b H3 => if b = true then tk σ2 H3 fun y H4 => tv σ2 H4 fun z H5 => ∃ kvs k, y = kV k ∧ H5 D = some (.dK kvs) ∧ kvs.length < sizeLine ∧ Pv (i + 1) (upd H5 D (.dK (putK kvs k z))) else Pv (i + 1) H3)
    (hd : ∀ H, Pv n H → Qd H) : ∃ W : Nat → Nat → Hp → Prop, (∃ m, W 0 m (upd H1 D (.dK []))) ∧ ∀ i m H, W i m H → (J.stop i H ∧ Qd H) ∨ (J.go i H ∧ ∃ Nx : Hp → Prop, (∀ H', Nx H' → ∃ m', m' < m ∧ W (i + 1) m' H') ∧
      ∀ x H', J.yld i H x H' → g x (wipe σ vs) H' fun σ2 H2 => wipe σ2 vs = wipe σ vs ∧ tt σ2 H2 fun b H3 => if b = true then tk σ2 H3 fun y H4 => tv σ2 H4 fun z H5 => ∃ kvs k, y = kV k ∧ H5 D = some (.dK kvs) ∧ kvs.length < sizeLine ∧ Nx (upd H5 D (.dK (putK kvs k z))) else Nx H3) := by
  refine ⟨fun i m H => i ≤ n ∧ m + i = n ∧ Pv i H, ⟨n, Nat.zero_le _, Nat.add_zero _, h0⟩, fun i m H hw => ?_⟩
  obtain ⟨hi, hm, p⟩ := hw
  have gh := hG i H hi p
  rcases Nat.lt_or_ge i n with lt | ge
  · exact .inr ⟨wk.goes i H lt gh, Pv (i + 1), fun H' p' => ⟨m - 1, by omega, lt, by omega, p'⟩, fun x H' y => hs i x H H' lt p (wk.yields i H x H' lt gh y)⟩
  · have e : i = n := Nat.le_antisymm hi ge
    subst e
    exact .inl ⟨wk.stops H gh, hd H p⟩
/-- leaving one letter out, where the rest still leaves one answer -/
def withoutF (kf : Figs) (c : Nat) : Figs := kf.filter fun p => !decide (p.1 = c)
def stepG (L : List Nat) (A : List (List Int)) (kf : Figs) (c : Nat) : Figs := if (havingOf L (withoutF kf c) A).length = 1 then withoutF kf c else kf
def givF (L : List Nat) (A : List (List Int)) (x : List Int) (i : Nat) : Figs := (L.reverse.take i).foldl (stepG L A) (L.zip x)
def givensOf (L : List Nat) (A : List (List Int)) (x : List Int) : List Nat := keysF (givF L A x L.length)
theorem givF_succ {L : List Nat} {A : List (List Int)} {x : List Int} {i c : Nat} (h : L.reverse[i]? = some c) : givF L A x (i + 1) = stepG L A (givF L A x i) c := by
  unfold givF
  rw [take_snoc h, List.foldl_append]
  rfl
theorem without_sub (kf : Figs) (c : Nat) : List.Sublist (withoutF kf c) kf := List.filter_sublist
theorem stepG_sub (L : List Nat) (A : List (List Int)) (kf : Figs) (c : Nat) : List.Sublist (stepG L A kf c) kf := by
  unfold stepG
  split
  · exact without_sub kf c
  · exact List.Sublist.refl _
theorem givF_sub (L : List Nat) (A : List (List Int)) (x : List Int) : ∀ i, i ≤ L.length → List.Sublist (givF L A x i) (L.zip x)
  | 0, _ => List.Sublist.refl _
  | i + 1, hi => by
    have hc : L.reverse[i]? = some (L.reverse[i]'(by rw [List.length_reverse]; omega)) := List.getElem?_eq_getElem _
    rw [givF_succ hc]
    exact (stepG_sub _ _ _ _).trans (givF_sub L A x i (by omega))
theorem keysF_sub {a b : Figs} (h : List.Sublist a b) : List.Sublist (keysF a) (keysF b) := h.map _
theorem givF_nodup {L : List Nat} (hN : L.Nodup) {A : List (List Int)} {x : List Int} (hl : L.length = x.length) {i : Nat} (hi : i ≤ L.length) : (keysF (givF L A x i)).Nodup := by
  refine List.Nodup.sublist (keysF_sub (givF_sub L A x i hi)) ?_
  rw [keysF_zip (by omega)]
  exact hN
theorem givF_len {L : List Nat} {A : List (List Int)} {x : List Int} {i : Nat} (hi : i ≤ L.length) : (givF L A x i).length ≤ L.length := by
  have h1 := (givF_sub L A x i hi).length_le
  rw [List.length_zip] at h1
  omega
theorem without_take {kf : Figs} {c j : Nat} {p : Nat × Int} (h : kf[j]? = some p) : withoutF (kf.take (j + 1)) c = withoutF (kf.take j) c ++ (if p.1 = c then [] else [p]) := by
  unfold withoutF
  rw [take_snoc h, List.filter_append, List.filter_cons]
  by_cases e : p.1 = c
  · rw [if_pos e, decide_eq_true e] <;> rfl
  · rw [if_neg e, decide_eq_false e] <;> rfl
theorem without_new {kf : Figs} (hN : (keysF kf).Nodup) {c j : Nat} {p : Nat × Int} (h : kf[j]? = some p) : p.1 ∉ keysF (withoutF (kf.take j) c) := by
  intro hm
  have h1 : p.1 ∈ keysF (kf.take j) := (keysF_sub (without_sub _ _)).subset hm
  unfold keysF at h1 hN
  rw [List.map_take] at h1
  obtain ⟨i, hi⟩ := List.mem_iff_getElem?.mp h1
  rw [List.getElem?_take] at hi
  by_cases hij : i < j
  · rw [if_pos hij] at hi
    have hj : (kf.map (·.1))[j]? = some p.1 := by rw [List.getElem?_map, h] <;> rfl
    obtain ⟨a1, a2⟩ := List.getElem?_eq_some_iff.mp hi
    obtain ⟨b1, b2⟩ := List.getElem?_eq_some_iff.mp hj
    exact List.pairwise_iff_getElem.mp hN i j a1 b1 hij (a2.trans b2.symm)
  · rw [if_neg hij] at hi
    cases hi
theorem kvsF_at {kf : Figs} {j : Nat} {ky : Key} {y : V} (h : (kvsF kf)[j]? = some (ky, y)) : ∃ c v, kf[j]? = some (c, v) ∧ ky = Sum.inr ⟨#[c]⟩ ∧ y = V.int v := by
  unfold kvsF at h
  rw [List.getElem?_map] at h
  cases e : kf[j]? with
  | none => rw [e] at h; cases h
  | some cv =>
    rw [e] at h
    have := Option.some.inj h
    exact ⟨cv.1, cv.2, rfl, (congrArg Prod.fst this).symm, (congrArg Prod.snd this).symm⟩
theorem merge_figs : ∀ {fg acc : Figs}, (keysF (acc ++ fg)).Nodup → mergeK (kvsF acc) (kvsF fg) = kvsF (acc ++ fg)
  | [], acc, _ => by rw [List.append_nil] <;> rfl
  | (c, v) :: fg, acc, h => by
    have hn : c ∉ keysF acc := by
      unfold keysF at h ⊢
      rw [List.map_append, List.map_cons] at h
      intro hm
      exact (List.nodup_append.mp h).2.2 _ hm _ List.mem_cons_self rfl
    show mergeK (putK (kvsF acc) (Sum.inr ⟨#[c]⟩ : Key) (.int v)) (kvsF fg) = _
    rw [kvsF_put hn]
    have e : acc ++ (c, v) :: fg = (acc ++ [(c, v)]) ++ fg := by simp
    rw [e] at h ⊢
    exact merge_figs h
end WS
set_option maxRecDepth 100000
set_option maxHeartbeats 8000000
namespace WS
open PySem L2 SetT RevS ND LamX
/-- the scope of the lambda that a def's last statement hands over -/
def lamScope (st : Stmt) : Scope := match (defBody st).getLast? with
  | some (.Return (some (.Call _ _ [k] _)) _) => (match k.value with
    | .Lambda _ _ sc _ => sc
    | _ => defScope st)
  | _ => defScope st
def lamBody (st : Stmt) : Expr := match (defBody st).getLast? with
  | some (.Return (some (.Call _ _ [k] _)) _) => (match k.value with
    | .Lambda _ b _ _ => b
    | e => e)
  | _ => .Name "x" ⟨0, 0, 0, 0⟩
/-- a def whose code object is known -/
theorem okC {P : Program} {w : World} {K : PySem.W.Frag} {mg : Str → Option Value} {base : Heap} {x qual : Str} {st : Stmt} {f c : Addr} {N ps : List Str} {k : Nat} {sp : Sp} {oc : Value} {od an : Option Addr} {osl : Array (Option Value)} {kV doc pm ct : Value}
    (lk : K.lookup f = some ⟨oc, od, .func (PySem.W.fnOf x qual (defArgs st) (defBody st) (defScope st) .none kV doc pm an (.ref c) ct), osl⟩) (hcd : PySem.W.codeIn K (.ref c) qual = true) (S : FnScope N ps (defScope st)) (len : ∀ vs H Q E, sp vs H Q E → vs.length = ps.length)
    (hbody : ∀ (A : Around) (outer : List Env) (s : Shared) (H : Hp) (vs : List V) (Q : VK) (E : XK), Room k (A.deeper (PyProof.Rows.envOfC qual (defScope st) s.heap.objs.size f (.ref c))) → sp vs H Q E →
      ∃ t, PSs (cxOf CX0 P w K mg base N qual (defScope st) f (.ref c) A outer s H E).nox (defBody st) t ∧ t { nx := fun _ H' => Q .non H', rt := Q } (start N vs) H) :
    FnOk P w K mg base CX0 (k + 1) f (PySem.W.fnOf x qual (defArgs st) (defBody st) (defScope st) .none kV doc pm an (.ref c) ct) ps sp :=
  fn_of lk hcd S len fun A outer s H vs Q E hr hsp => by
    obtain ⟨t, h, q⟩ := hbody A outer s H vs Q E hr hsp
    exact ⟨t, h.nox, q⟩
theorem figAt_map (g : Nat → Int) {d : Nat} : ∀ {L : List Nat}, d ∈ L → figAt (L.map fun o => (o, g o)) d = g d
  | [], h => nomatch h
  | c :: L, h => by
    unfold figAt
    rw [List.map_cons, List.find?_cons]
    by_cases e : c = d
    · subst e
      show (Option.map _ (match decide (c = c) with | true => _ | false => _)).getD 0 = _
      rw [decide_eq_true rfl] <;> rfl
    · show (Option.map _ (match decide (c = d) with | true => _ | false => _)).getD 0 = _
      rw [decide_eq_false e]
      rcases List.mem_cons.mp h with h | h
      · exact absurd h.symm e
      · exact figAt_map g h
theorem keysF_map (g : Nat → Int) (L : List Nat) : keysF (L.map fun o => (o, g o)) = L := by
  unfold keysF
  rw [List.map_map]
  exact List.map_id L
theorem figs_dlt {g : Nat → Int} {L cs : List Nat} (h : ∀ c ∈ cs, c ∈ L) : HasFigs (kvsF (L.map fun o => (o, g o))) g cs := fun c hc => by
  rw [kvsF_some (by rw [keysF_map]; exact h c hc), figAt_map g (h c hc)]
theorem perm_map {α β : Type} {f : α → β} {ys xs : List β} (p : ys.Perm xs) : ∀ {l : List α}, xs = l.map f → ∃ l', List.Perm l' l ∧ ys = l'.map f := by
  induction p with
  | nil =>
    intro l e
    cases l with
    | nil => exact ⟨[], .refl _, rfl⟩
    | cons _ _ => cases e
  | cons x _ ih =>
    intro l e
    cases l with
    | nil => cases e
    | cons a l =>
      rw [List.map_cons] at e
      obtain ⟨l', h1, h2⟩ := ih (List.cons.inj e).2
      exact ⟨a :: l', h1.cons a, by rw [List.map_cons, ← h2, (List.cons.inj e).1]⟩
  | swap x y l =>
    intro l' e
    cases l' with
    | nil => cases e
    | cons a l' =>
      cases l' with
      | nil => cases e
      | cons b l' =>
        rw [List.map_cons, List.map_cons] at e
        obtain ⟨e1, e2⟩ := List.cons.inj e
        obtain ⟨e3, e4⟩ := List.cons.inj e2
        exact ⟨b :: a :: l', .swap _ _ _, by rw [List.map_cons, List.map_cons, ← e1, ← e3, ← e4]⟩
  | trans _ _ ih1 ih2 =>
    intro l e
    obtain ⟨l2, h1, h2⟩ := ih2 e
    obtain ⟨l3, h3, h4⟩ := ih1 h2
    exact ⟨l3, h3.trans h1, h4⟩
theorem SqL.ext {K : PySem.W.Frag} {H H' : Hp} {a : Addr} {xs : List V} (e : ExtN H H') (h : SqL K H a xs) : SqL K H' a xs := LamK.sqL_ext e h
theorem ext_lst {H H' : Hp} (e : ExtN H H') {a : Addr} {xs : List V} (h : H a = some (.lst xs)) : H' a = some (.lst xs) := e _ _ h fun ps z => nomatch z
theorem ext_tup {H H' : Hp} (e : ExtN H H') {a : Addr} {xs : List V} (h : H a = some (.tup xs)) : H' a = some (.tup xs) := e _ _ h fun ps z => nomatch z
theorem ext_ins {H H' : Hp} (e : ExtN H H') {a C d : Addr} {xs : List (Str × V)} (h : H a = some (.ins C d xs)) : H' a = some (.ins C d xs) := e _ _ h fun ps z => nomatch z
theorem WPAt.ext {H H' : Hp} (e : ExtN H H') {rs : List Addr} {ps : List WP} (h : WPAt H rs ps) : WPAt H' rs ps := ⟨h.len, fun i r p a b => by
  obtain ⟨wl, h1, h2⟩ := h.get i r p a b
  exact ⟨wl, ext_tup e h1, ext_lst e h2⟩⟩
theorem WPAt.snoc {H : Hp} {rs : List Addr} {ps : List WP} {r wl : Addr} {x : WP} (h : WPAt H rs ps) (hr : H r = some (.tup [sg x.1, .ref wl])) (hw : H wl = some (.lst (x.2.map V.int))) : WPAt H (rs ++ [r]) (ps ++ [x]) := by
  refine ⟨by rw [List.length_append, List.length_append, h.len] <;> rfl, fun i p y a b => ?_⟩
  by_cases hi : i < rs.length
  · rw [List.getElem?_append_left hi] at a
    rw [List.getElem?_append_left (h.len ▸ hi)] at b
    exact h.get i p y a b
  · rw [List.getElem?_append_right (by omega)] at a
    rw [List.getElem?_append_right (by have := h.len; omega), ← h.len] at b
    have h0 : i - rs.length = 0 := by
      have := (List.getElem?_eq_some_iff.mp a).1
      simp at this
      omega
    rw [h0] at a b
    cases Option.some.inj a
    cases Option.some.inj b
    exact ⟨wl, hr, hw⟩
open Classical in
noncomputable def topI (ns : List Int) : Int := if h : ∃ m, m ∈ ns ∧ ∀ y ∈ ns, y ≤ m then h.choose else 0
theorem topI_eq {ns : List Int} {m : Int} (h1 : m ∈ ns) (h2 : ∀ y ∈ ns, y ≤ m) : m = topI ns := by
  have h : ∃ m, m ∈ ns ∧ ∀ y ∈ ns, y ≤ m := ⟨m, h1, h2⟩
  unfold topI
  rw [dif_pos h]
  have a := h.choose_spec.2 m h1
  have b := h2 _ h.choose_spec.1
  omega
def absI (i : Int) : Int := if i < 0 then -i else i
/-- nothing but a table stood there -/
def FreshN (H : Hp) (q : Addr) : Prop := ∀ u, H q = some u → ∃ ps, u = .tbl ps
def wpsOf (b : Int) (ss : List WSum) : List WP := (lettersOf ss).map fun c => (c, weightOf b ss c)
def spByWeight (CS PT : Addr) : Sp := fun vs H Q _ => ∃ (sh : Addr) (b : Int) (kl : Addr) (ts : List Addr) (ss : List WSum), vs = [.ref sh] ∧ ShAt CS H sh b kl ts ∧ SumsAt H ts ss ∧ Valid b ss ∧ TabS H PT "by_weight.<locals>.<lambda>" ∧
  ∀ q H' rs wps, FreshN H q → ExtN H H' → TabS H' PT "by_weight.<locals>.<lambda>" → H' q = some (.lst (rs.map V.ref)) → wps.Perm (wpsOf b ss) → WPAt H' rs wps → Q (.ref q) H'
section
variable {P : Program} {w : World} {K : PySem.W.Frag} {mg : Str → Option Value} {base : Heap}
theorem scByWeight : FnScope ["sheet", "letters", "pairs", "letter", "figures", "weights", "other", "addends", "total"] ["sheet"] (defScope sByWeight) := ⟨rfl, rfl, rfl, by decide +kernel, rfl, by decide +kernel, by decide +kernel⟩
theorem scByLam : FnScope ["pair", "weight"] ["pair"] (lamScope sByWeight) := ⟨rfl, rfl, rfl, by decide +kernel, rfl, by decide +kernel, by decide +kernel⟩
theorem ok_byweight {f c CS PT fL fS fU : Addr} {fdL fdS fdU : FuncData} {oc : Value} {od an : Option Addr} {osl : Array (Option Value)} {kwV doc pm ct : Value}
    (lk : K.lookup f = some ⟨oc, od, .func (PySem.W.fnOf "by_weight" "by_weight" (defArgs sByWeight) (defBody sByWeight) (defScope sByWeight) .none kwV doc pm an (.ref c) ct), osl⟩) (hcd : PySem.W.codeIn K (.ref c) "by_weight" = true) (TB : TabB base mg c PT)
    (T : SheetTxt K mg CS) (z_sorted : mg "sorted" = none) (z_max : mg "max" = none) (z_abs : mg "abs" = none)
    (ML : Meth K CS "letters" fL) (bL : Binds K fdL ["self"] []) (GL : FnOk P w K mg base CX0 3 fL fdL ["self"] (spShLetters CS))
    (mSs : Meth K CS "sums" fS) (bSs : Binds K fdS ["self"] []) (GSs : FnOk P w K mg base CX0 1 fS fdS ["self"] (spShSums CS))
    (S_surplus : Site K mg "surplus" fU fdU ["addends", "total", "figures", "base"]) (G_surplus : FnOk P w K mg base CX0 2 fU fdU ["addends", "total", "figures", "base"] spSurplus) :
    FnOk P w K mg base CX0 4 f (PySem.W.fnOf "by_weight" "by_weight" (defArgs sByWeight) (defBody sByWeight) (defScope sByWeight) .none kwV doc pm an (.ref c) ct) ["sheet"] (spByWeight CS PT) := by
  refine okC lk hcd scByWeight (fun vs H Q E h => ?_) (fun A outer s H vs Q E hr h => ?_)
  · obtain ⟨sh, b, kl, ts, ss, rfl, _⟩ := h
    rfl
  · obtain ⟨sh, b, kl, ts, ss, rfl, hsh, hsa, V', hT, k⟩ := h
    have nd := scByWeight.nd
    have ndL := scByLam.nd
    have hu := hu_of hr
    have hr_surplus : Room 2 _ := hr.mono (by decide)
    have hr_sums : Room 1 _ := hr.mono (by decide)
    have hL : ∀ (A' : Around) (outer' : List Env) (s' : Shared) (H' : Hp) (f' c' : Addr), Room 0 (A'.deeper (PyProof.Rows.envOfC "by_weight.<locals>.<lambda>" (lamScope sByWeight) s'.heap.objs.size f' (.ref c'))) → PE (cxOf CX0 P w K mg base ["pair", "weight"] "by_weight.<locals>.<lambda>" (lamScope sByWeight) f' (.ref c') A' outer' s' H' E0) (lamBody sByWeight) (tCB (rMax K) (tCons (tLc (iList K (tOp (rIxT K) (tVar 0) (tC (V.int 1)))) (gName 1) tYes (tCB (fun xs H Q => ∃ i, xs = [V.int i] ∧ Q (V.int (if i < 0 then -i else i)) H) (tCons (tVar 1) tNil)) [1]) tNil)) :=
      fun _ _ _ _ _ _ _ => (pe_callB (cr_max rfl) (by rfl) z_max (by decide +kernel) (pa_cons (pe_lc (own := [("weight", 1)]) (g := (gName 1)) (tt := tYes) rfl ndL (pi_list (pe_ix (r := rIxT K) ix_tup (pv 0) pe_int (fun _ _ => rfl))) (blkOk_by (own := [("weight", 1)]) (N := ["pair", "weight"]) (sc := lamScope sByWeight) (by decide +kernel)) (fun _ _ _ _ _ => (pg_name (i := 1) ndL rfl (.inl rfl))) (fun _ _ _ _ _ => pts_nil) (fun _ _ _ _ _ => (pe_callB call_abs (by rfl) z_abs (by decide +kernel) (pa_cons (pv 1) pa_nil)))) pa_nil))
    refine ⟨_, (pss_cons (ps_set (i := 1) nd rfl (.inl rfl) (pe_meth0 (pv 0) T.cl ML GL hr bL .nil pass0))
      (pss_cons (ps_set (i := 2) nd rfl (.inl rfl) (pe_lst pa_nil))
      (pss_cons (ps_for PassesOwn.never rfl (pi_list (pv 1)) (pg_name (i := 3) nd rfl (.inr rfl)) (pss_cons (ps_set (i := 4) nd rfl (.inr rfl) (pe_dc (own := [("other", 6)]) (g := (gName 6)) (tt := tYes) rfl nd (pi_list (pv 1)) (blkOk_by (own := [("other", 6)]) (N := ["sheet", "letters", "pairs", "letter", "figures", "weights", "other", "addends", "total"]) (sc := defScope sByWeight) (by decide +kernel)) (fun _ _ _ _ _ => (pg_name (i := 6) nd rfl (.inl rfl))) (fun _ _ _ _ _ => pts_nil) (fun _ _ _ _ _ => (pv 6)) (fun _ _ _ _ _ => (pe_ifExp (pt_cmpR op_eq (pv 6) (pv 3) (nomark _)) pe_int pe_int))))
      (pss_cons (ps_setLc (i := 5) (own := [("addends", 7), ("total", 8)]) (g := (gTup K 2 (gCons (gName 7) (gCons (gName 8) gNil)))) (tt := tYes) rfl nd rfl rfl (sw_true rfl rfl rfl (by decide +kernel)) (pi_list (pe_meth0 (pv 0) T.cl mSs GSs hr_sums bSs .nil pass0)) (blkOk_by (own := [("addends", 7), ("total", 8)]) (N := ["sheet", "letters", "pairs", "letter", "figures", "weights", "other", "addends", "total"]) (sc := defScope sByWeight) (by decide +kernel)) (fun _ _ _ _ _ => (pg_tup rfl (pgs_cons (pg_name (i := 7) nd rfl (.inl rfl)) (pgs_cons (pg_name (i := 8) nd rfl (.inl rfl)) pgs_nil)))) (fun _ _ _ _ _ => pts_nil) (fun _ _ _ _ _ => (pe_call G_surplus hr_surplus (by rfl) S_surplus.g S_surplus.k S_surplus.b .nil pass0 (pa_cons (pv 7) (pa_cons (pv 8) (pa_cons (pv 4) (pa_cons (show PE _ _ (tFld K _ "base") from pe_fld (pv 0) rfl) pa_nil)))))))
      (pss_one (ps_expr (pe_bm PySem.F.plainAttrs_list PySem.F.slot_list_append PySem.F.type_list_append mt_append (pv 2) (pa_cons (pe_tup (pa_cons (pv 3) (pa_cons (pv 5) pa_nil))) pa_nil)))))))
      (pss_one (ps_ret (LamK.pe_sortLam (k := 0) (by rfl) z_sorted (by decide +kernel) (pa_cons (pv 2) pa_nil) TB rfl scByLam hr rfl (fun _ _ _ _ _ => rfl) hL)))))), ?_⟩
    obtain ⟨⟨dx, hshi⟩, hkl⟩ := id hsh
    have hN : (lettersOf ss).Nodup := dd_nodup _
    have hL8 := (lettersOf_le V').2
    have hb2 := V'.b2
    have hb12 := V'.b12
    have hfew := V'.few
    refine ⟨_, rfl, sh, dx, _, rfl, hshi, flds_no _ _ (by decide +kernel) (by decide +kernel), sh, b, kl, ts, ss, rfl, hsh, hsa, V', fun ol H1 hol s1 hol1 => ?_⟩
    refine ⟨by show 0 ≤ sizeLine; decide, fun o ho => ?_⟩
    have hoH := Same.free s1 ho
    have s0 : Same H1 (upd H1 o (.lst [])) := Same.new ho
    refine ⟨_, rfl, ol, rfl, ⟨_, SqL.of (s0 _ _ hol1)⟩, for_list (K := K) (a := ol) (xs := (lettersOf ss).map sg) (fun i σ H2 => ∃ v3 v4 v5 rs, σ = [some (.ref sh), some (.ref ol), some (.ref o), v3, v4, v5, none, none, none] ∧ Same H1 H2 ∧ H2 o = some (.lst (rs.map V.ref)) ∧ WPAt H2 rs ((wpsOf b ss).take i))
      ⟨none, none, none, [], rfl, s0, upd_same, ⟨rfl, fun i r p a _ => by simp at a⟩⟩ (fun i σ H2 _ ⟨_, _, _, _, _, s2, _⟩ => SqL.of (s2 _ _ hol1)) ?_ ?_⟩
    · rintro i x σ H2 hi ⟨v3, v4, v5, rs, rfl, s2, ho2, hw⟩
      obtain ⟨c, hc, rfl⟩ : ∃ c, (lettersOf ss)[i]? = some c ∧ x = sg c := by
        rw [List.getElem?_map] at hi
        cases e : (lettersOf ss)[i]? with
        | none => rw [e] at hi; cases hi
        | some c => rw [e] at hi; exact ⟨c, rfl, (Option.some.inj hi).symm⟩
      have hwi : (wpsOf b ss)[i]? = some (c, weightOf b ss c) := by
        unfold wpsOf
        rw [List.getElem?_map, hc] <;> rfl
      have hol2 := s2 _ _ hol1
      refine ⟨_, rfl, ol, rfl, ⟨_, SqL.of hol2⟩, fun D hD => ?_⟩
      refine dc_walk (walk_list (K := K) (a := ol) (xs := (lettersOf ss).map sg)) (fun j H3 => H3 = upd H2 D (.dK (kvsF (((lettersOf ss).take j).map fun o => (o, dlt c o))))) rfl (fun j H3 _ e => by rw [e]; exact SqL.of ((upd_ne (ne_of_none hol2 hD)).trans hol2)) ?_ ?_
      · rintro j x H3 H4 hj rfl ⟨rfl, hy⟩
        obtain ⟨d, hd, rfl⟩ : ∃ d, (lettersOf ss)[j]? = some d ∧ x = sg d := by
          rw [List.getElem?_map] at hy
          cases e : (lettersOf ss)[j]? with
          | none => rw [e] at hy; cases hy
          | some c => rw [e] at hy; exact ⟨c, rfl, (Option.some.inj hy).symm⟩
        have hnot : d ∉ keysF (((lettersOf ss).take j).map fun o => (o, dlt c o)) := by
          rw [keysF_map]
          intro hm
          obtain ⟨j', hj'⟩ := List.mem_iff_getElem?.mp hm
          rw [List.getElem?_take] at hj'
          by_cases hji : j' < j
          · rw [if_pos hji] at hj'
            have := nd_ix hN hj' hd
            omega
          · rw [if_neg hji] at hj'; cases hj'
        have fin : ∀ v : Int, v = dlt c d → ∃ kvs k, kV k = sg d ∧ (upd H2 D (.dK (kvsF (((lettersOf ss).take j).map fun o => (o, dlt c o))))) D = some (.dK kvs) ∧ kvs.length < sizeLine ∧ upd (upd H2 D (.dK (kvsF (((lettersOf ss).take j).map fun o => (o, dlt c o))))) D (.dK (putK kvs k (.int v))) = upd H2 D (.dK (kvsF (((lettersOf ss).take (j + 1)).map fun o => (o, dlt c o)))) := by
          rintro v rfl
          refine ⟨_, Sum.inr ⟨#[d]⟩, rfl, upd_same, ?_, ?_⟩
          · unfold kvsF
            rw [List.length_map, List.length_map, List.length_take]
            exact line_lt (by omega)
          · rw [upd_upd, kvsF_put hnot, take_snoc hd, List.map_append] <;> rfl
        refine ⟨rfl, _, rfl, _, rfl, _, rfl, rfl, _, rfl, ite2 (fun h => ?_) (fun h => ?_)⟩
        · obtain ⟨kvs, k0, e1, e2, e3, e4⟩ := fin 1 (by
            unfold dlt
            rw [if_pos (kv_inj (V.str.inj (of_decide_eq_true h)))])
          exact ⟨kvs, k0, e1.symm, e2, e3, e4⟩
        · obtain ⟨kvs, k0, e1, e2, e3, e4⟩ := fin 0 (by
            unfold dlt
            rw [if_neg fun e => h (decide_eq_true (by rw [e]))])
          exact ⟨kvs, k0, e1.symm, e2, e3, e4⟩
      rintro H3 rfl
      rw [List.length_map, List.take_length]
      have s3 : Same H2 (upd H2 D (.dK (kvsF ((lettersOf ss).map fun o => (o, dlt c o))))) := Same.new hD
      have hD3 : (upd H2 D (.dK (kvsF ((lettersOf ss).map fun o => (o, dlt c o))))) D = some (.dK (kvsF ((lettersOf ss).map fun o => (o, dlt c o)))) := upd_same
      generalize upd H2 D (.dK (kvsF ((lettersOf ss).map fun o => (o, dlt c o)))) = H3 at s3 hD3
      have s03 := s1.trans (s2.trans s3)
      have ho3 := s3 _ _ ho2
      have hsh3 := hsh.same s03
      have hsa3 := hsa.same s03
      obtain ⟨⟨dx3, hshi3⟩, hkl3⟩ := id hsh3
      have htl := hsa.len
      refine ⟨_, rfl, sh, dx3, _, rfl, hshi3, flds_no _ _ (by decide +kernel) (by decide +kernel), sh, b, kl, ts, rfl, hsh3, by omega, fun q H4 hq s4 hq4 => ⟨q, rfl, ⟨_, SqL.of hq4⟩, fun D2 hD2 => ?_⟩⟩
      have s04 := s03.trans s4
      refine lc_list (K := K) (a := q) (xs := ts.map V.ref) (fun j H5 => Same H4 H5 ∧ H5 D2 = some (.lst (((ss.take j).map (surplusOf b (dlt c))).map V.int))) ⟨Same.new hD2, upd_same⟩ (fun j H5 _ ⟨s5, _⟩ => SqL.of (s5 _ _ hq4)) ?_ ?_
      · rintro j y H5 hj ⟨s5, hD5⟩
        obtain ⟨t, ht, rfl⟩ := refs_at hj
        have hjl : j < ts.length := (List.getElem?_eq_some_iff.mp ht).1
        have hjs : j < ss.length := hsa.len ▸ hjl
        have hs : ss[j]? = some ss[j] := List.getElem?_eq_getElem hjs
        generalize hsg : ss[j] = sm at hs
        have hsm : sm ∈ ss := List.mem_of_getElem? hs
        have s05 := s04.trans s5
        obtain ⟨u, ht1, hu1⟩ := (hsa.get j t sm ht hs).same s05
        obtain ⟨⟨dx5, hp5⟩, _⟩ := id (hsh.same s05)
        obtain ⟨m1, m4⟩ := V'.many sm hsm
        refine ⟨t, _, rfl, SqT.of ht1, rfl, _, _, rfl, _, _, rfl, rfl, rfl, ?_⟩
        refine ⟨_, rfl, _, rfl, _, rfl, _, rfl, sh, CS, dx5, _, _, rfl, hp5, T.cl, T.nB, flds_base _ _, u, sm, D, b, _, dlt c, rfl, hu1, (s4.trans s5) _ _ hD3, fun z hz => figs_dlt fun d hd => mem_letters hsm hz hd, by omega, by omega, by omega, fun H6 s6 => ?_⟩
        refine ⟨_, s6 _ _ hD5, ?_, Same.mut (s5.trans s6) hD2, ?_⟩
        · rw [List.length_map, List.length_map, List.length_take]
          exact line_lt (by omega)
        · rw [upd_same, take_snoc hs, List.map_append, List.map_append] <;> rfl
      rintro H5 ⟨s5, hD5⟩
      rw [List.length_map, hsa.len, List.take_length] at hD5
      have s35 := s4.trans s5
      have ho5 := s35 _ _ ho3
      refine ⟨_, rfl, .inl ⟨rfl, _, SqL.of ho5⟩, _, rfl, _, rfl, by show 2 ≤ sizeLine; decide, fun r hr0 => ?_⟩
      have s6 : Same H5 (upd H5 r (.tup [sg c, .ref D2])) := Same.new hr0
      have hr6 : (upd H5 r (.tup [sg c, .ref D2])) r = some (.tup [sg c, .ref D2]) := upd_same
      generalize upd H5 r (.tup [sg c, .ref D2]) = H6 at s6 hr6
      have ho6 := s6 _ _ ho5
      have s16 := ((s2.trans s3).trans s35).trans s6
      have hw6 := hw.same ((s3.trans s35).trans s6)
      refine ⟨o, _, _, rfl, rfl, ho6, ?_, ?_⟩
      · rw [List.length_map, hw.len, List.length_take]
        unfold wpsOf
        rw [List.length_map]
        exact line_lt (by omega)
      refine ⟨_, _, _, rs ++ [r], rfl, Same.mut s16 ho, ?_, ?_⟩
      · rw [upd_same, List.map_append] <;> rfl
      · have h2 := WPAt.snoc (x := (c, weightOf b ss c)) hw6 hr6 (s6 _ _ hD5)
        rw [← take_snoc hwi] at h2
        exact ⟨h2.len, fun j p x a e => by
          obtain ⟨wl, h3, h4⟩ := h2.get j p x a e
          have n1 : p ≠ o := fun z => by rw [z, ho6] at h3; cases h3
          by_cases n2 : wl = o
          · exfalso
            subst n2
            rw [ho6] at h4
            have hpm := List.mem_of_mem_take (List.mem_of_getElem? e)
            unfold wpsOf at hpm
            obtain ⟨c', _, e'⟩ := List.mem_map.mp hpm
            have hpl : x.2.length = ss.length := by
              rw [← e']
              exact weight_len b ss c'
            have h5 : rs.map V.ref = x.2.map V.int := by
              have := Option.some.inj h4
              injection this
            cases hx2 : x.2 with
            | nil => rw [hx2] at hpl; have : 0 = ss.length := hpl; omega
            | cons v _ =>
              rw [hx2] at h5
              cases rs with
              | nil => cases h5
              | cons r0 _ =>
                have := (List.cons.inj h5).1
                cases this
          · exact ⟨wl, (upd_ne n1).trans h3, (upd_ne n2).trans h4⟩⟩
    · rintro σ H2 ⟨v3, v4, v5, rs, rfl, s2, ho2, hw⟩
      rw [List.length_map, List.take_of_length_le (by unfold wpsOf; rw [List.length_map]; exact Nat.le_refl _)] at hw
      have s02 := s1.trans s2
      refine ⟨_, rfl, o, _, fun i => topI ((((wpsOf b ss)[i]?.getD (0, [])).2).map absI), rfl, SqL.of ho2, hT.ext s02, ?_, ?_⟩
      · intro i v' H' hx hE
        obtain ⟨r, hr0, rfl⟩ := refs_at hx
        have hil := (List.getElem?_eq_some_iff.mp hr0).1
        obtain ⟨p, hp⟩ : ∃ p, (wpsOf b ss)[i]? = some p := ⟨_, List.getElem?_eq_getElem (by rw [← hw.len]; exact hil)⟩
        obtain ⟨wl, h1, h2⟩ := hw.get i r p hr0 hp
        have h1' := ext_tup hE h1
        have h2' := ext_lst hE h2
        have hpl : p.2.length = ss.length := by
          unfold wpsOf at hp
          obtain ⟨c, _, e⟩ := List.mem_map.mp (List.mem_of_getElem? hp)
          rw [← e]
          exact weight_len b ss c
        show _
        refine ⟨_, rfl, r, _, _, _, rfl, rfl, SqT.of h1', at_of (j := 1) rfl rfl, wl, rfl, ⟨_, SqL.of h2'⟩, fun D hD => ?_⟩
        refine lc_list (K := K) (a := wl) (xs := p.2.map V.int) (fun j H3 => H3 = upd H' D (.lst (((p.2.take j).map absI).map V.int))) rfl (fun j H3 _ e => by rw [e]; exact SqL.of ((upd_ne (ne_of_none h2' hD)).trans h2')) ?_ ?_
        · rintro j y H3 hj rfl
          obtain ⟨v, hv, rfl⟩ : ∃ v, p.2[j]? = some v ∧ y = .int v := by
            rw [List.getElem?_map] at hj
            cases e : p.2[j]? with
            | none => rw [e] at hj; cases hj
            | some c => rw [e] at hj; exact ⟨c, rfl, (Option.some.inj hj).symm⟩
          refine ⟨rfl, _, rfl, _, rfl, _, upd_same, ?_, ?_⟩
          · rw [List.length_map, List.length_map, List.length_take]
            exact line_lt (by omega)
          · rw [upd_upd, take_snoc hv, List.map_append, List.map_append] <;> rfl
        · rintro H3 rfl
          rw [List.length_map, List.take_length]
          refine ⟨D, _, rfl, SqL.of upd_same, by rw [List.length_map]; omega, fun m hm hle => ⟨?_, Same.new hD⟩⟩
          show V.int m = V.int (topI (List.map absI ((wpsOf b ss)[i]?.getD (0, [])).2))
          rw [hp]
          exact congrArg V.int (topI_eq hm hle)
      · intro ys q H' hys hE hT' hq
        obtain ⟨z', hz1, hz2⟩ := perm_map (f := fun p : Addr × WP => V.ref p.1) hys (l := rs.zip (wpsOf b ss)) (by
          rw [show (fun p : Addr × WP => V.ref p.1) = V.ref ∘ Prod.fst from rfl, ← List.map_map, List.map_fst_zip (Nat.le_of_eq hw.len)])
        have hEH : ExtN H H' := (ExtN.of s02).trans hE
        have sq : Same H' (upd H' q (.lst ys)) := Same.new hq
        refine k q _ (z'.map Prod.fst) (z'.map Prod.snd) (fun u hu => ?_) (hEH.trans (ExtN.of sq)) (hT'.ext sq) ?_ ?_ ?_
        · cases u with
          | tbl ps => exact ⟨ps, rfl⟩
          | _ =>
            have e := hEH q _ hu fun ps z => nomatch z
            rw [hq] at e
            cases e
        · rw [upd_same, hz2, List.map_map] <;> rfl
        · have h1 := hz1.map Prod.snd
          rwa [List.map_snd_zip (Nat.le_of_eq hw.len.symm)] at h1
        · refine ⟨by rw [List.length_map, List.length_map], fun i r p a e => ?_⟩
          rw [List.getElem?_map] at a e
          cases hzi : z'[i]? with
          | none => rw [hzi] at a; cases a
          | some y =>
            rw [hzi] at a e
            obtain ⟨j, hj⟩ := List.mem_iff_getElem?.mp (hz1.subset (List.mem_of_getElem? hzi))
            obtain ⟨j1, j2⟩ := List.getElem?_zip_eq_some.mp hj
            cases Option.some.inj a
            cases Option.some.inj e
            obtain ⟨wl, h1, h2⟩ := hw.get j _ _ j1 j2
            exact ⟨wl, sq _ _ (ext_tup hE h1), sq _ _ (ext_lst hE h2)⟩
end
end WS
set_option maxRecDepth 100000
set_option maxHeartbeats 8000000
namespace WS
open PySem L2 SetT RevS ND LamX
theorem ShAt.ext {C : Addr} {H H' : Hp} (e : ExtN H H') {p : Addr} {b : Int} {kl : Addr} {ts : List Addr} (h : ShAt C H p b kl ts) : ShAt C H' p b kl ts := by
  obtain ⟨⟨dx, h1⟩, h2⟩ := h
  exact ⟨⟨dx, ext_ins e h1⟩, ext_lst e h2⟩
theorem SumsAt.ext {H H' : Hp} (e : ExtN H H') {ts : List Addr} {ss : List WSum} (h : SumsAt H ts ss) : SumsAt H' ts ss := ⟨h.len, fun i t s a b => by
  obtain ⟨u, h1, h2⟩ := h.get i t s a b
  exact ⟨u, ext_tup e h1, ext_tup e h2⟩⟩
theorem WPAt.take {H : Hp} {rs : List Addr} {ps : List WP} (h : WPAt H rs ps) (n : Nat) : WPAt H (rs.take n) (ps.take n) := ⟨by rw [List.length_take, List.length_take, h.len], fun i r p a b => by
  rw [List.getElem?_take] at a b
  by_cases hi : i < n
  · rw [if_pos hi] at a b
    exact h.get i r p a b
  · rw [if_neg hi] at a; cases a⟩
theorem TabS.but {H H' : Hp} {PT l : Addr} {q : Str} {xs : List V} (t : TabS H PT q) (hl : H l = some (.lst xs)) (e : ∀ b o, b ≠ l → H b = some o → H' b = some o) : TabS H' PT q := by
  obtain ⟨ps, h1, h2, h3⟩ := t
  refine ⟨ps, e _ _ (fun z => by rw [z, hl] at h1; cases h1) h1, h2, fun pos cv hc => ?_⟩
  obtain ⟨c, e1, e2⟩ := h3 pos cv hc
  exact ⟨c, e1, e _ _ (fun z => by rw [z, hl] at e2; unfold CodeO at e2; cases e2) e2⟩
theorem rgV_upFrom (a b : Int) : rgV a b = (upFrom a (b - a).toNat).map V.int := by
  unfold rgV upFrom
  rw [List.map_map] <;> rfl
theorem nought_eq : ∀ {v : List Int} {ss : List WSum}, v.length = ss.length → nought v = true → v = ss.map fun _ => 0
  | [], [], _, _ => rfl
  | [], _ :: _, h, _ => by simp at h
  | _ :: _, [], h, _ => by simp at h
  | x :: v, s :: ss, h, hn => by
    unfold nought at hn
    rw [List.all_cons, Bool.and_eq_true] at hn
    rw [List.map_cons, of_decide_eq_true hn.1, nought_eq (v := v) (ss := ss) (by simpa using h) hn.2]
theorem set_lt {t f : Int} (ht : t < 4096) (ht0 : 0 ≤ t) (hf : f < 12) (hf0 : 0 ≤ f) : setT t f < 4096 := by
  unfold setT
  have h1 : t.toNat < 2 ^ 12 := by show t.toNat < 4096; omega
  have h2 : 2 ^ f.toNat < 2 ^ 12 := Nat.pow_lt_pow_right (by decide) (by omega)
  have := Nat.or_lt_two_pow h1 h2
  have e : (2 : Nat) ^ 12 = 4096 := by decide
  omega
theorem stepN_eq (g : Way → Int) (ws : List Int) (x : Way) (n : Int) : ∀ fs : List Int, stepN g ws x n fs = n * (fs.map fun f => if bitT x.1 f then 0 else g (setT x.1 f, addV x.2 f ws)).sum
  | [] => by
    show (0 : Int) = n * 0
    rw [Int.mul_zero]
  | f :: fs => by
    have ih := stepN_eq g ws x n fs
    unfold stepN at ih ⊢
    rw [List.map_cons, List.sum_cons, ih, List.map_cons, List.sum_cons, Int.mul_add]
    cases bitT x.1 f
    · rfl
    · show (0 : Int) + _ = n * 0 + _
      rw [Int.mul_zero]
theorem takeLst {α : Type} {l : List α} {n : Nat} {x : α} (h : l[n]? = some x) : l.take (n + 1) = l.take n ++ [x] := take_snoc h
theorem dropHd {α : Type} {l : List α} {n : Nat} {x : α} (h : l[n]? = some x) : l.drop n = x :: l.drop (n + 1) := by
  obtain ⟨h1, h2⟩ := List.getElem?_eq_some_iff.mp h
  rw [List.drop_eq_getElem_cons h1, h2]
theorem tC_if {c : Prop} [Decidable c] {σ : L2.St} {H : Hp} {Q : VK} (h : tC (.int (if c then 1 else 0)) σ H Q) : if decide c = true then tC (.int 1) σ H Q else tC (.int 0) σ H Q := by
  by_cases hc : c
  · rw [if_pos hc] at h
    rw [decide_eq_true hc, if_pos rfl]
    exact h
  · rw [if_neg hc] at h
    rw [decide_eq_false hc, if_neg (by decide)]
    exact h
/-- what the table of ways tells while some letters are waiting -/
structure Stand (b : Int) (ss : List WSum) (wps : List WP) (n : Nat) (kvs : Kvs) : Prop where
  nd : (kvs.map (·.1)).Nodup
  key : ∀ p ∈ kvs, 0 ≤ p.1.1 ∧ p.1.1 < 4096 ∧ p.1.2.length = ss.length
  row : ∀ p ∈ kvs, ∃ row ∈ rowsN b (wps.length - n), p.1 = keyOf (0, ss.map fun _ => 0) (((wps.drop n).reverse).map (·.2)) row
  tot : tot (fun k => comp b (firstsOf ss) (wps.take n) k.1 k.2) kvs = ((answersOf b ss).length : Nat)
  end_ : n = 0 → ∀ p ∈ kvs, nought p.1.2 = true
theorem stand_zero {b : Int} {ss : List WSum} {wps : List WP} {kvs : Kvs} (S : Stand b ss wps 0 kvs) : (kvs.map fun q => q.2.2).sum = ((answersOf b ss).length : Nat) := by
  rw [← S.tot]
  unfold WS.tot
  congr 1
  refine List.map_congr_left fun p hp => ?_
  show p.2.2 = p.2.2 * (if nought p.1.2 then 1 else 0)
  rw [S.end_ rfl p hp, if_pos rfl, Int.mul_one]
theorem stand_start {b : Int} {ss : List WSum} (V' : Valid b ss) {wps : List WP} (hp : wps.Perm (wpsOf b ss)) (r : Addr) : Stand b ss wps wps.length [((0, ss.map fun _ => 0), r, 1)] := by
  have hl : wps.length = (lettersOf ss).length := by rw [hp.length_eq]; unfold wpsOf; rw [List.length_map]
  have hne := letters_ne V'
  refine ⟨by simp, fun p h => ?_, fun p h => ?_, ?_, fun h => by omega⟩
  · rw [List.mem_singleton.mp h]
    exact ⟨(by decide : (0 : Int) ≤ 0), (by decide : (0 : Int) < 4096), by simp⟩
  · rw [List.mem_singleton.mp h]
    refine ⟨[], ?_, ?_⟩
    · rw [Nat.sub_self]; exact List.mem_singleton.mpr rfl
    · rw [List.drop_length] <;> rfl
  · unfold WS.tot
    rw [List.take_length]
    show (1 : Int) * comp b (firstsOf ss) wps 0 (ss.map fun _ => 0) + 0 = _
    rw [Int.one_mul, Int.add_zero, comp_perm hp]
    exact comp_answers V'
/-- the bound of the ways that come next -/
def mays (b : Int) (ss : List WSum) (wps : List WP) (n : Nat) : List Way := if n = 0 then (List.range 4096).map fun t : Nat => ((t : Int), ss.map fun _ => (0 : Int)) else (rowsN b (wps.length - n)).map (keyOf (0, ss.map fun _ => 0) (((wps.drop n).reverse).map (·.2)))
theorem mays_len {b : Int} {ss : List WSum} (V' : Valid b ss) {wps : List WP} (hl : wps.length = (lettersOf ss).length) (n : Nat) : (mays b ss wps n).length < sizeLine := by
  have hb2 := V'.b2
  have hb12 := V'.b12
  have h8 := (lettersOf_le V').2
  unfold mays
  by_cases h : n = 0
  · rw [if_pos h, List.length_map, List.length_range]
    decide
  · rw [if_neg h, List.length_map]
    refine Nat.lt_of_le_of_lt (Nat.le_trans (rowsN_fall (by omega) _) (fall_le (by omega) (by omega))) (by decide)
theorem row_next {b : Int} {ss : List WSum} (V' : Valid b ss) {wps : List WP} {n : Nat} {c : Nat} {w : List Int} (hn : wps[n]? = some (c, w)) {kvs : Kvs} (S : Stand b ss wps (n + 1) kvs) {p : Way × Addr × Int} (hp : p ∈ kvs) {f : Int} (hf : f ∈ figsOf b (firstsOf ss) c) (hb : bitT p.1.1 f = false) :
    ∃ row ∈ rowsN b (wps.length - n), (setT p.1.1 f, addV p.1.2 f w) = keyOf (0, ss.map fun _ => 0) (((wps.drop n).reverse).map (·.2)) row := by
  have hb2 := V'.b2
  have hnl := (List.getElem?_eq_some_iff.mp hn).1
  have h := way_longer (b := b) (by omega) (k := wps.length - (n + 1)) (ws := ((wps.drop (n + 1)).reverse).map (·.2)) (w := w) (by rw [List.length_map, List.length_reverse, List.length_drop]) (mem_figsOf hf) (S.row p hp) hb
  rw [dropHd hn, List.reverse_cons, List.map_append]
  rw [show wps.length - (n + 1) + 1 = wps.length - n by omega] at h
  exact h
theorem stand_next {b : Int} {ss : List WSum} (V' : Valid b ss) {wps : List WP} (hpm : wps.Perm (wpsOf b ss)) {n : Nat} {c : Nat} {w : List Int} (hn : wps[n]? = some (c, w)) {kvs out : Kvs} (S : Stand b ss wps (n + 1) kvs)
    (G : Grown ss.length w (figsOf b (firstsOf ss) c) (spansOf b (wps.take n) ss.length) kvs out)
    (ht : ∀ g : Way → Int, (∀ k : Way, k.2.length = ss.length → within k.2 (spansOf b (wps.take n) ss.length) = false → g k = 0) → tot g out = stepTot g w (figsOf b (firstsOf ss) c) kvs) : Stand b ss wps n out := by
  have hb12 := V'.b12
  have hwl : ∀ p ∈ wps, p.2.length = ss.length := fun p hp => by
    have h1 := hpm.subset hp
    unfold wpsOf at h1
    obtain ⟨c', _, e⟩ := List.mem_map.mp h1
    rw [← e]
    exact weight_len b ss c'
  have mem : ∀ p ∈ out, p.1 ∈ out.map (·.1) := fun p hp => List.mem_map.mpr ⟨p, hp, rfl⟩
  refine ⟨G.nd, fun p hp => ?_, fun p hp => ?_, ?_, fun h0 p hp => ?_⟩
  · obtain ⟨h1, h2, h3, p0, hp0, f, hf, hb, e⟩ := G.from_ _ (mem p hp)
    obtain ⟨k1, k2, k3⟩ := S.key p0 hp0
    obtain ⟨f1, f2⟩ := mem_figsOf hf
    refine ⟨h1, ?_, h2⟩
    rw [e]
    exact set_lt k2 k1 (by omega) f1
  · obtain ⟨h1, h2, h3, p0, hp0, f, hf, hb, e⟩ := G.from_ _ (mem p hp)
    rw [e]
    exact row_next V' hn S hp0 hf hb
  · rw [ht _ fun k hk hw => ?_]
    · rw [← S.tot]
      unfold stepTot WS.tot
      congr 1
      refine List.map_congr_left fun p _ => ?_
      rw [stepN_eq, takeLst hn]
      show _ = p.2.2 * comp b (firstsOf ss) (wps.take n ++ [(c, w)]) p.1.1 p.1.2
      have hpp : (wps.take n ++ [(c, w)]).Perm ((c, w) :: wps.take n) := List.perm_append_comm
      rw [comp_perm hpp] <;> rfl
    · rw [← hk] at hw
      exact comp_out (fun q hq => by rw [hk]; exact hwl q (List.mem_of_mem_take hq)) hw
  · obtain ⟨h1, h2, h3, _⟩ := G.from_ _ (mem p hp)
    subst h0
    rw [List.take_zero, ← h2] at h3
    exact within_end h3
def spHowMany (CS PT : Addr) : Sp := fun vs H Q _ => ∃ (sh : Addr) (b : Int) (kl : Addr) (ts : List Addr) (ss : List WSum), vs = [.ref sh] ∧ ShAt CS H sh b kl ts ∧ SumsAt H ts ss ∧ Valid b ss ∧ TabS H PT "by_weight.<locals>.<lambda>" ∧
  ∀ H', ExtN H H' → TabS H' PT "by_weight.<locals>.<lambda>" → Q (.int ((answersOf b ss).length : Nat)) H'
section
variable {P : Program} {w : World} {K : PySem.W.Frag} {mg : Str → Option Value} {base : Heap}
theorem scHowMany : FnScope ["sheet", "firsts", "waiting", "ways", "letter", "weights", "figures", "one"] ["sheet"] (defScope sHowMany) := ⟨rfl, rfl, rfl, by decide +kernel, rfl, by decide +kernel, by decide +kernel⟩
theorem ok_howmany {f CS PT fF fB fM fP fS : Addr} {fd fdF fdB fdM fdP fdS : FuncData} (F : Fun K "how_many" "how_many" sHowMany f fd) (T : SheetTxt K mg CS) (z_tuple : mg "tuple" = none) (z_list : mg "list" = none) (z_range : mg "range" = none) (z_sum : mg "sum" = none)
    (mSs : Meth K CS "sums" fS) (bSs : Binds K fdS ["self"] []) (GSs : FnOk P w K mg base CX0 1 fS fdS ["self"] (spShSums CS))
    (S_first_letters : Site K mg "first_letters" fF fdF ["sheet"]) (G_first_letters : FnOk P w K mg base CX0 2 fF fdF ["sheet"] (spFirsts CS))
    (S_by_weight : Site K mg "by_weight" fB fdB ["sheet"]) (G_by_weight : FnOk P w K mg base CX0 4 fB fdB ["sheet"] (spByWeight CS PT))
    (S_spans_of : Site K mg "spans_of" fP fdP ["waiting", "sheet"]) (G_spans_of : FnOk P w K mg base CX0 2 fP fdP ["waiting", "sheet"] (spSpans CS))
    (S_with_one_more : Site K mg "with_one_more" fM fdM ["ways", "weights", "figures", "spans"]) (G_with_one_more : FnOk P w K mg base CX0 2 fM fdM ["ways", "weights", "figures", "spans"] (spOneMore P w)) :
    FnOk P w K mg base CX0 5 f fd ["sheet"] (spHowMany CS PT) := by
  refine F.ok scHowMany (fun vs H Q E h => ?_) (fun cdv A outer s H vs Q E hr h => ?_)
  · obtain ⟨sh, b, kl, ts, ss, rfl, _⟩ := h
    rfl
  · obtain ⟨sh, b, kl, ts, ss, rfl, hsh, hsa, V', hT, k⟩ := h
    have nd := scHowMany.nd
    have hu := hu_of hr
    have hu64 : (A.deeper (PyProof.Rows.envOfC "how_many" (defScope sHowMany) s.heap.objs.size f cdv)).units + 64 < cLine := by have := hr.un; omega
    have hr_first_letters : Room 2 _ := hr.mono (by decide)
    have hr_by_weight : Room 4 _ := hr
    have hr_sums : Room 1 _ := hr.mono (by decide)
    have hr_spans_of : Room 2 _ := hr.mono (by decide)
    have hr_with_one_more : Room 2 _ := hr.mono (by decide)
    refine ⟨_, (pss_cons (ps_set (i := 1) nd rfl (.inl rfl) (pe_call G_first_letters hr_first_letters (by rfl) S_first_letters.g S_first_letters.k S_first_letters.b .nil pass0 (pa_cons (pv 0) pa_nil)))
      (pss_cons (ps_set (i := 2) nd rfl (.inl rfl) (pe_call G_by_weight hr_by_weight (by rfl) S_by_weight.g S_by_weight.k S_by_weight.b .nil pass0 (pa_cons (pv 0) pa_nil)))
      (pss_cons (ps_set (i := 3) nd rfl (.inl rfl) (ND.pe_disp1N hu64 (pe_tup (pa_cons pe_int (pa_cons (pe_callTy call_tuple_of (by rfl) z_tuple (by decide +kernel) (pa_cons (pe_lc (own := [("one", 7)]) (g := (gName 7)) (tt := tYes) rfl nd (pi_list (pe_meth0 (pv 0) T.cl mSs GSs hr_sums bSs .nil pass0)) (blkOk_by (own := [("one", 7)]) (N := ["sheet", "firsts", "waiting", "ways", "letter", "weights", "figures", "one"]) (sc := defScope sHowMany) (by decide +kernel)) (fun _ _ _ _ _ => (pg_name (i := 7) nd rfl (.inl rfl))) (fun _ _ _ _ _ => pts_nil) (fun _ _ _ _ _ => pe_int)) pa_nil)) pa_nil))) pe_int))
      (pss_cons (ps_while PassesOwn.never (pt_truth (pv 2) (by intro _; rfl)) (pss_cons (ps_asg (pe_bm0 PySem.F.plainAttrs_list PySem.F.slot_list_pop PySem.F.type_list_pop mt_pop (pv 2)) (pg_tup rfl (pgs_cons (pg_name (i := 4) nd rfl (.inl rfl)) (pgs_cons (pg_name (i := 5) nd rfl (.inl rfl)) pgs_nil))))
      (pss_cons (ps_set (i := 6) nd rfl (.inl rfl) (pe_listRg rfl (by rfl) z_list (prg_2 (by rfl) z_range (pe_ifExp (pt_cmpR op_in_seq (pv 4) (pv 1) (by rfl)) pe_int pe_int) (pe_fld (pv 0) rfl))))
      (pss_one (ps_set (i := 3) nd rfl (.inl rfl) (pe_call G_with_one_more hr_with_one_more (by rfl) S_with_one_more.g S_with_one_more.k S_with_one_more.b .nil pass0 (pa_cons (pv 3) (pa_cons (pv 5) (pa_cons (pv 6) (pa_cons (pe_call G_spans_of hr_spans_of (by rfl) S_spans_of.g S_spans_of.k S_spans_of.b .nil pass0 (pa_cons (pv 2) (pa_cons (pv 0) pa_nil))) pa_nil))))))))))
      (pss_one (ps_ret (pe_callB (cr_sum rfl) (by rfl) z_sum (by decide +kernel) (pa_cons (ND.pe_listValsN (by rfl) z_list (pv 3)) pa_nil)))))))), ?_⟩
    obtain ⟨⟨dx, hshi⟩, hkl⟩ := id hsh
    have hb2 := V'.b2
    have hb12 := V'.b12
    have hfew := V'.few
    refine ⟨_, rfl, sh, b, kl, ts, ss, rfl, hsh, hsa, V', fun fq H1 hfq s1 hfq1 => ?_⟩
    refine ⟨_, rfl, sh, b, kl, ts, ss, rfl, hsh.same s1, hsa.same s1, V', hT.ext s1, fun wq H2 rs wps hwq e2 hT2 hwq2 hperm hwp => ?_⟩
    obtain ⟨⟨dx2, hshi2⟩, hkl2⟩ := id ((hsh.same s1).ext e2)
    have e02 : ExtN H H2 := (ExtN.of s1).trans e2
    have hwN : ∀ a u, H a = some u → (∀ ps, u ≠ .tbl ps) → a ≠ wq := fun a u h n z => by
      subst z
      obtain ⟨ps, e⟩ := hwq u (s1 _ _ h)
      exact n ps e
    have hsh2 := hsh.ext e02
    have hsa2 := hsa.ext e02
    have htl := hsa.len
    have hwl : wps.length = (lettersOf ss).length := by rw [hperm.length_eq]; unfold wpsOf; rw [List.length_map]
    have hL8 := (lettersOf_le V').2
    have hwW : ∀ p ∈ wps, p.2.length = ss.length := fun p hp => by
      have h1 := hperm.subset hp
      unfold wpsOf at h1
      obtain ⟨c', _, e⟩ := List.mem_map.mp h1
      rw [← e]
      exact weight_len b ss c'
    have hfqN : fq ≠ wq := fun z => by
      subst z
      obtain ⟨ps, e⟩ := hwq _ hfq1
      cases e
    have hfq2 := ext_lst e2 hfq1
    -- letters and weights beside the list that waits
    have hwpB : ∀ H4, But wq H2 H4 → WPAt H4 rs wps := fun H4 b4 => ⟨hwp.len, fun i r p a e => by
      obtain ⟨wl, h1, h2⟩ := hwp.get i r p a e
      refine ⟨wl, b4 _ _ (fun z => by rw [z, hwq2] at h1; cases h1) h1, b4 _ _ (fun z => ?_) h2⟩
      rw [z, hwq2] at h2
      have h5 : rs.map V.ref = p.2.map V.int := by
        have := Option.some.inj h2
        injection this
      have hpl := hwW p (List.mem_of_getElem? e)
      cases hx2 : p.2 with
      | nil => rw [hx2] at hpl; have : 0 = ss.length := hpl; omega
      | cons v _ =>
        rw [hx2] at h5
        cases rs with
        | nil => cases h5
        | cons r0 _ =>
          have := (List.cons.inj h5).1
          cases this⟩
    have hshB : ∀ H4, But wq H2 H4 → ShAt CS H4 sh b kl ts := fun H4 b4 => by
      obtain ⟨⟨dx, h1⟩, h2⟩ := hsh2
      exact ⟨⟨dx, b4 _ _ (fun z => by rw [z, hwq2] at h1; cases h1) h1⟩, b4 _ _ (hwN kl _ hkl fun ps z => by cases z) h2⟩
    -- the first ways
    intro wy hwy0
    generalize hgy : upd H2 wy _ = H3
    have sy : Same H2 H3 := by rw [← hgy]; exact Same.new hwy0
    have hwy3 : H3 wy = some (DictN P w wy []) := by rw [← hgy]; exact upd_same
    obtain ⟨⟨dx3, hshi3⟩, _⟩ := id (hsh2.same sy)
    refine ⟨_, rfl, sh, dx3, _, rfl, hshi3, flds_no _ _ (by decide +kernel) (by decide +kernel), sh, b, kl, ts, rfl, hsh2.same sy, by omega, fun q H4 hq s4 hq4 => ⟨q, rfl, ⟨_, SqL.of hq4⟩, fun D hD => ?_⟩⟩
    refine lc_list (K := K) (a := q) (xs := ts.map V.ref) (fun j H5 => H5 = upd H4 D (.lst (((ss.take j).map fun _ => (0 : Int)).map V.int))) rfl (fun j H5 _ e => by rw [e]; exact SqL.of ((upd_ne (ne_of_none hq4 hD)).trans hq4)) ?_ ?_
    · rintro j y H5 hj rfl
      obtain ⟨t, ht, rfl⟩ := refs_at hj
      have hjl : j < ts.length := (List.getElem?_eq_some_iff.mp ht).1
      have hjs : j < ss.length := hsa.len ▸ hjl
      have hs : ss[j]? = some ss[j] := List.getElem?_eq_getElem hjs
      refine ⟨rfl, _, upd_same, ?_, ?_⟩
      · rw [List.length_map, List.length_map, List.length_take]
        exact line_lt (by omega)
      · rw [upd_upd, take_snoc hs, List.map_append, List.map_append] <;> rfl
    rintro H5 rfl
    rw [List.length_map, hsa.len, List.take_length]
    refine ⟨D, _, rfl, .inl ⟨SqL.of upd_same, fun u hu => ?_⟩⟩
    have s46 : Same H4 (upd (upd H4 D (.lst ((ss.map fun _ => (0 : Int)).map V.int))) u (.tup ((ss.map fun _ => (0 : Int)).map V.int))) := (Same.new hD).trans (Same.new hu)
    have hu6 : (upd (upd H4 D (.lst ((ss.map fun _ => (0 : Int)).map V.int))) u (.tup ((ss.map fun _ => (0 : Int)).map V.int))) u = some (.tup ((ss.map fun _ => (0 : Int)).map V.int)) := upd_same
    generalize upd (upd H4 D (.lst ((ss.map fun _ => (0 : Int)).map V.int))) u (.tup ((ss.map fun _ => (0 : Int)).map V.int)) = H6 at s46 hu6
    refine ⟨by show 2 ≤ sizeLine; decide, fun r hr0 => ?_⟩
    have s67 : Same H6 (upd H6 r (.tup [.int 0, .ref u])) := Same.new hr0
    have hr7 : (upd H6 r (.tup [.int 0, .ref u])) r = some (.tup [.int 0, .ref u]) := upd_same
    generalize upd H6 r (.tup [.int 0, .ref u]) = H7 at s67 hr7
    have s37 := (s4.trans s46).trans s67
    have hwy7 := s37 _ _ hwy3
    refine ⟨hwy7, r, (0, ss.map fun _ => 0), 1, rfl, rfl, ⟨u, hr7, s67 _ _ hu6⟩, ?_⟩
    have s28 : Same H2 (upd H7 wy (DictN P w wy [((0, ss.map fun _ => 0), r, 1)])) := Same.mut (sy.trans s37) hwy0
    have hK8 : KeysAt (upd H7 wy (DictN P w wy [((0, ss.map fun _ => 0), r, 1)])) [((0, ss.map fun _ => 0), r, 1)] := fun p hp => by
      rw [List.mem_singleton.mp hp]
      have nt : ∀ c xs, H7 c = some (.tup xs) → c ≠ wy := fun c xs e z => by rw [z, hwy7] at e; cases e
      exact ⟨u, (upd_ne (nt _ _ hr7)).trans hr7, (upd_ne (nt _ _ (s67 _ _ hu6))).trans (s67 _ _ hu6)⟩
    have hst := stand_start V' hperm r
    have hrl : rs.length = wps.length := hwp.len
    refine ⟨fun m σ H4 => ∃ v4 v5 v6 wy kvs, σ = [some (.ref sh), some (.ref fq), some (.ref wq), some (.ref wy), v4, v5, v6, none] ∧ m ≤ wps.length ∧ But wq H2 H4 ∧ H4 wq = some (.lst ((rs.take m).map V.ref)) ∧ H4 wy = some (DictN P w wy kvs) ∧ KeysAt H4 kvs ∧ Stand b ss wps m kvs,
      ⟨wps.length, none, none, none, wy, _, rfl, Nat.le_refl _, But.of s28, ?_, upd_same, hK8, hst⟩, ?_⟩
    · rw [← hrl, List.take_length]
      exact s28 _ _ hwq2
    clear hst hK8 s28 hwy7 s37 hr7 s67 hu6 s46 hwy3 sy hgy
    rintro m σ H4 ⟨v4, v5, v6, wy, kvs, rfl, hm, b4, hwq4, hwy4, hK4, S⟩
    refine ⟨_, rfl, _, .inl ⟨_, SqL.of hwq4, rfl⟩, ?_⟩
    rcases m with _ | n
    · refine iteF ?_
      refine ⟨_, rfl, wy, kvs, rfl, hwy4, fun q hq => ?_⟩
      refine ⟨q, (kvs.map fun p => p.2.2), rfl, SqL.of (by rw [upd_same, List.map_map] <;> rfl), ?_⟩
      rw [stand_zero S]
      have hE4 : ExtN H H4 := fun a u h n => b4 _ _ (hwN a u h n) (e02 a u h n)
      exact k _ (hE4.trans (ExtN.of (Same.new hq))) ((TabS.but hT2 hwq2 b4).ext (Same.new hq))
    · have hp : wps[n]? = some (wps[n]'(by omega)) := List.getElem?_eq_getElem (by omega)
      generalize wps[n]'(by omega) = p at hp
      have hr : rs[n]? = some (rs[n]'(by omega)) := List.getElem?_eq_getElem (by omega)
      generalize rs[n]'(by omega) = r at hr
      obtain ⟨c, w0⟩ := p
      have hne : (!((rs.take (n + 1)).map V.ref).isEmpty) = true := by
        rw [take_snoc hr, List.map_append]
        cases (rs.take n).map V.ref <;> rfl
      rw [hne]
      refine iteT ⟨fun σ H4 => ∃ v4 v5 v6 wy kvs, σ = [some (.ref sh), some (.ref fq), some (.ref wq), some (.ref wy), v4, v5, v6, none] ∧ n ≤ wps.length ∧ But wq H2 H4 ∧ H4 wq = some (.lst ((rs.take n).map V.ref)) ∧ H4 wy = some (DictN P w wy kvs) ∧ KeysAt H4 kvs ∧ Stand b ss wps n kvs, fun σ' H' h => ⟨n, Nat.lt_succ_self n, h⟩, ?_⟩
      have hlast : ((rs.take (n + 1)).map V.ref)[((rs.take (n + 1)).map V.ref).length - 1]? = some (V.ref r) := by
        have hl : ((rs.take (n + 1)).map V.ref).length - 1 = n := by rw [List.length_map, List.length_take]; omega
        rw [hl, List.getElem?_map, List.getElem?_take, if_pos (Nat.lt_succ_self n), hr] <;> rfl
      have hdl : ((rs.take (n + 1)).map V.ref).dropLast = (rs.take n).map V.ref := by
        rw [take_snoc hr, List.map_append]
        exact List.dropLast_concat
      refine ⟨_, rfl, .inl ⟨rfl, _, SqL.of hwq4⟩, wq, _, .ref r, rfl, rfl, hwq4, hlast, ?_⟩
      rw [hdl]
      have b5 : But wq H2 (upd H4 wq (.lst ((rs.take n).map V.ref))) := b4.trans But.upd
      have hwq5 : (upd H4 wq (.lst ((rs.take n).map V.ref))) wq = some (.lst ((rs.take n).map V.ref)) := upd_same
      have hwyN : wy ≠ wq := fun z => by rw [z, hwq4] at hwy4; cases hwy4
      have hwy5 : (upd H4 wq (.lst ((rs.take n).map V.ref))) wy = some (DictN P w wy kvs) := (upd_ne hwyN).trans hwy4
      have hK5 : KeysAt (upd H4 wq (.lst ((rs.take n).map V.ref))) kvs := hK4.same fun c xs e => (upd_ne fun z => by rw [z, hwq4] at e; cases e).trans e
      generalize upd H4 wq (.lst ((rs.take n).map V.ref)) = H5 at b5 hwq5 hwy5 hK5
      have hwp5 := hwpB H5 b5
      have hsh5 := hshB H5 b5
      obtain ⟨wl, hr5, hwl5⟩ := hwp5.get n r (c, w0) hr hp
      obtain ⟨⟨dx5, hshi5⟩, _⟩ := id hsh5
      have hfq5 := b5 _ _ hfqN hfq2
      refine ⟨r, _, rfl, SqT.of hr5, rfl, _, _, rfl, _, _, rfl, rfl, ?_⟩
      refine ⟨_, rfl, _, rfl, fq, _, rfl, .inl (SqL.of hfq5), rfl, flat_sg _, ?_⟩
      rw [inV_sg]
      refine ⟨_, rfl, tC_if ?_⟩
      have hlo : (0 : Int) ≤ (if c ∈ firstsOf ss then 1 else 0) ∧ (if c ∈ firstsOf ss then (1 : Int) else 0) ≤ 1 := by split <;> omega
      refine ⟨_, rfl, sh, CS, dx5, _, _, rfl, hshi5, T.cl, T.nB, flds_base _ _, _, _, rfl, rfl, RgOk.of_le (by exact hlo.1) (by omega) (by show (if c ∈ firstsOf ss then (1 : Int) else 0) ≤ 16777216; omega) (by omega), fun F hF => ?_⟩
      generalize hg6 : upd H5 F _ = H6
      have s6 : Same H5 H6 := by rw [← hg6]; exact Same.new hF
      have hF6 : H6 F = some (.lst ((figsOf b (firstsOf ss) c).map V.int)) := by
        rw [← hg6, upd_same]
        exact congrArg (fun z => some (HO.lst z)) (rgV_upFrom _ _)
      have hwq6 := s6 _ _ hwq5
      have hwy6 := s6 _ _ hwy5
      have hwl6 := s6 _ _ hwl5
      have hK6 : KeysAt H6 kvs := hK5.same fun c xs e => s6 _ _ e
      have hwl8 : wps.length ≤ 8 := by omega
      refine ⟨_, rfl, _, rfl, _, rfl, _, rfl, _, rfl, wq, sh, rs.take n, wps.take n, b, kl, ts, rfl, hwq6, (hwp5.take n).same s6, hsh5.same s6, by omega, by rw [List.length_take]; omega, fun q hq => by rw [htl]; exact hwW q (List.mem_of_mem_take hq), by omega, by omega, fun R H7 ps hR s7 hR7 hsp => ?_⟩
      rw [htl] at hsp
      have hm0 : (mays b ss wps n).length < sizeLine := mays_len V' hwl n
      have hw0l : w0.length = ss.length := hwW (c, w0) (List.mem_of_getElem? hp)
      refine ⟨wy, wl, F, R, kvs, w0, figsOf b (firstsOf ss) c, ps, spansOf b (wps.take n) ss.length, ss.length, mays b ss wps n, rfl, s7 _ _ hwy6, hK6.same fun c xs e => s7 _ _ e, s7 _ _ hwl6, s7 _ _ hF6, hR7, hsp, ?_, hw0l, by omega, fun q hq => ⟨(S.key q hq).1, (S.key q hq).2.2⟩, fun f hf => ?_, hm0, fun q hq f hf hbit hwi => ?_, fun y H8 out hy s8 hy8 hK8 hG ht => ?_⟩
      · unfold spansOf
        rw [List.length_map, List.length_range]
      · have := mem_figsOf hf
        omega
      · unfold mays
        by_cases h0 : n = 0
        · rw [if_pos h0]
          obtain ⟨k1, k2, k3⟩ := S.key q hq
          obtain ⟨f1, f2⟩ := mem_figsOf hf
          have hal : (addV q.1.2 f w0).length = ss.length := by rw [addV_len _ _ (k3.trans hw0l.symm)]; exact k3
          have hn0 : nought (addV q.1.2 f w0) = true := by
            rw [h0, List.take_zero, ← hal] at hwi
            exact within_end hwi
          have hlt := set_lt k2 k1 (f := f) (by omega) f1
          have hge := set_nonneg q.1.1 f
          refine List.mem_map.mpr ⟨(setT q.1.1 f).toNat, List.mem_range.mpr (by omega), ?_⟩
          rw [nought_eq hal hn0]
          exact congrArg (fun z : Int => ((z, ss.map fun _ => (0 : Int)) : Way)) (by omega)
        · rw [if_neg h0]
          obtain ⟨row, h1, h2⟩ := row_next V' hp S hq hf hbit
          exact List.mem_map.mpr ⟨row, h1, h2.symm⟩
      · exact ⟨_, _, _, y, out, rfl, by omega, b5.trans (But.of (s6.trans (s7.trans s8))), s8 _ _ (s7 _ _ hwq6), hy8, hK8, stand_next V' hperm hp S hG ht⟩
end
end WS
set_option maxRecDepth 100000
set_option maxHeartbeats 4000000
namespace WS
open PySem L2 SetT RevS
theorem upFrom_length (lo : Int) (n : Nat) : (upFrom lo n).length = n := by
  unfold upFrom; rw [List.length_map, List.length_range]
theorem longer_len' {b : Int} (rows : List (List Int)) : (longer b rows).length ≤ rows.length * b.toNat := by
  unfold longer
  induction rows with
  | nil => exact Nat.zero_le _
  | cons r rs ih =>
    rw [List.map_cons, List.flatten_cons, List.length_append, List.length_map, List.length_cons, Nat.succ_mul]
    have := List.length_filter_le (fun v => !decide (v ∈ r)) (upFrom 0 b.toNat)
    rw [upFrom_length] at this
    omega
theorem rowsN_len' {b : Int} : ∀ n, (rowsN b n).length ≤ b.toNat ^ n
  | 0 => Nat.le_refl _
  | n + 1 => by
    have h := longer_len' (b := b) (rowsN b n)
    have h2 := rowsN_len' (b := b) n
    rw [Nat.pow_succ]
    exact Nat.le_trans h (Nat.mul_le_mul_right _ h2)
theorem fold_mem : ∀ {r a : List Nat}, (∀ c ∈ r, c ∈ a) → r.foldl addN a = a
  | [], a, _ => rfl
  | c :: r, a, h => by
    show r.foldl addN (addN a c) = a
    have e : addN a c = a := by unfold addN; rw [if_pos (h c List.mem_cons_self)]
    rw [e]
    exact fold_mem fun d hd => h d (List.mem_cons_of_mem _ hd)
theorem letters_twice (s : List WSum) : lettersOf (s ++ s) = lettersOf s := by
  unfold lettersOf
  rw [rawOf_append]
  unfold dd
  rw [List.foldl_append]
  exact fold_mem fun c hc => ((dd_fold (rawOf s) [] List.nodup_nil).2 c).mpr (.inr hc)
theorem wordsOf_mem {ss : List WSum} {z : Str} (h : z ∈ wordsOf ss) : ∃ s ∈ ss, z ∈ s.1 ++ [s.2] := by
  unfold wordsOf at h
  obtain ⟨l, hl, hz⟩ := List.mem_flatten.mp h
  obtain ⟨s, hs, rfl⟩ := List.mem_map.mp hl
  exact ⟨s, hs, hz⟩
theorem valid_twice {b : Int} {s : WSum} (V : Valid b [s]) : Valid b ([s] ++ [s]) := by
  have hm : ∀ x ∈ [s] ++ [s], x ∈ [s] := fun x hx => (List.mem_append.mp hx).elim id id
  have hw : ∀ z ∈ wordsOf ([s] ++ [s]), z ∈ wordsOf [s] := fun z hz => by
    rw [wordsOf_append] at hz
    exact (List.mem_append.mp hz).elim id id
  have hL := lettersOf_le V
  have hf : (metS (signsOf (wordsOf ([s] ++ [s])))).length ≤ (lettersOf [s]).length := metS_few fun c hc => by
    unfold signsOf at hc
    obtain ⟨l, hl, hc⟩ := List.mem_flatten.mp hc
    obtain ⟨z, hz, rfl⟩ := List.mem_map.mp hl
    obtain ⟨s', hs', hz'⟩ := wordsOf_mem (hw z hz)
    exact mem_letters hs' hz' hc
  exact ⟨V.b2, V.b12, ⟨by show 1 ≤ 2; decide, by show 2 ≤ 3; decide⟩, fun x hx => V.many x (hm x hx), fun z hz => V.words z (hw z hz), by omega, by omega⟩
theorem ans_twice {b : Int} {s : WSum} (S : SheetOk b [s]) : (answersOf b ([s] ++ [s])).length ≤ 300000 := by
  have V := S.valid
  rw [answers_try (valid_twice V)]
  refine Nat.le_trans (List.length_filter_le _ _) (Nat.le_trans (rowsN_len' _) ?_)
  rw [letters_twice]
  have := S.ways
  omega
/-- the sums that the law asks about: all but the last, and all -/
theorem two_of {b : Int} {ss : List WSum} (S : SheetOk b ss) (h : ss.length ≠ 1) : ∃ s1 s, ss = s1 ++ [s] ∧ Valid b s1 ∧ Valid b (s1 ++ [s]) ∧ (answersOf b s1).length ≤ 300000 ∧ (answersOf b (s1 ++ [s])).length ≤ 300000 := by
  have hf := S.few
  have hne : ss ≠ [] := fun e => by rw [e] at hf; simp at hf
  have e := (List.dropLast_concat_getLast hne).symm
  have hl : ss.dropLast.length = ss.length - 1 := List.length_dropLast
  obtain ⟨cs, N, ok⟩ := S.cs
  have hb : ¬ 6 < b := fun h6 => h (S.big h6)
  have S1 : SheetOk b ss.dropLast := ⟨S.b2, S.b12, by omega, ⟨cs, N, fun s hs => ok s ((List.dropLast_sublist ss).subset hs)⟩, fun h6 => absurd h6 hb⟩
  have h1 := S1.ans_le
  have h2 := S.ans_le
  refine ⟨ss.dropLast, ss.getLast hne, e, S1.valid, e ▸ S.valid, by omega, by rw [← e]; omega⟩
theorem one_of {b : Int} {ss : List WSum} (S : SheetOk b ss) (h : ss.length = 1) : ∃ s, ss = [s] ∧ Valid b [s] ∧ Valid b ([s] ++ [s]) ∧ (answersOf b [s]).length ≤ 300000 ∧ (answersOf b ([s] ++ [s])).length ≤ 300000 := by
  obtain ⟨s, rfl⟩ : ∃ s, ss = [s] := by
    rcases ss with _ | ⟨s, _ | ⟨t, r⟩⟩
    · simp at h
    · exact ⟨s, rfl⟩
    · simp at h
  have h1 := S.ans_le
  exact ⟨s, rfl, S.valid, valid_twice S.valid, by omega, ans_twice S⟩
theorem cut_last (xs : List V) (y : V) : cutV (xs ++ [y]) none (some (-1)) = xs := by
  have e1 : HT.sIx (xs ++ [y]).length (xs ++ [y]).length (some (-1)) = xs.length := by
    show (if (-1 : Int) < 0 then ((-1 : Int) + ((xs ++ [y]).length : Int)).toNat else min (-1 : Int).toNat (xs ++ [y]).length) = _
    rw [if_pos (by decide), List.length_append, List.length_singleton]
    omega
  unfold cutV
  rw [e1]
  show (List.drop 0 (xs ++ [y])).take (xs.length - 0) = xs
  rw [List.drop_zero, Nat.sub_zero, List.take_left]
theorem cut_first (xs : List V) (n : Nat) (h : n ≤ xs.length) : cutV xs none (some (n : Int)) = xs.take n := by
  unfold cutV
  rw [HT.sIx_nat]
  show (List.drop 0 xs).take (min n xs.length - 0) = _
  rw [List.drop_zero, Nat.min_eq_left h, Nat.sub_zero]
theorem eqv_sgs : ∀ cs ds : List Nat, PyData.eqvAll (cs.map fun c => PyData.str ⟨#[c]⟩) (ds.map fun c => PyData.str ⟨#[c]⟩) = decide (cs = ds)
  | [], [] => rfl
  | [], _ :: _ => rfl
  | _ :: _, [] => rfl
  | c :: cs, d :: ds => by
    show (((⟨#[c]⟩ : Str) == ⟨#[d]⟩) && PyData.eqvAll (cs.map fun c => PyData.str ⟨#[c]⟩) (ds.map fun c => PyData.str ⟨#[c]⟩)) = _
    rw [eqv_sgs cs ds, Bool.eq_iff_iff, Bool.and_eq_true, beq_iff_eq, decide_eq_true_iff, decide_eq_true_iff, List.cons.injEq]
    constructor
    · rintro ⟨h, e⟩
      exact ⟨kv_inj h, e⟩
    · rintro ⟨rfl, e⟩
      exact ⟨rfl, e⟩
theorem eqv_lets (cs ds : List Nat) : PyData.eqv (.list (cs.map fun c => PyData.str ⟨#[c]⟩)) (.list (ds.map fun c => PyData.str ⟨#[c]⟩)) = decide (cs = ds) := eqv_sgs cs ds
theorem lets_low {b : Int} {ss : List WSum} (V : Valid b ss) : ∀ c ∈ lettersOf ss, c < 0x110000 := fun c hc => abc_low (lettersOf_abc V c (dd_mem.mp hc))
theorem nd_ix' {L : List Nat} (hN : L.Nodup) {i j c : Nat} (hi : L[i]? = some c) (hj : L[j]? = some c) : i = j := by
  obtain ⟨hi', e1⟩ := List.getElem?_eq_some_iff.mp hi
  obtain ⟨hj', e2⟩ := List.getElem?_eq_some_iff.mp hj
  rcases Nat.lt_trichotomy i j with h | h | h
  · exact absurd (e1.trans e2.symm) (List.pairwise_iff_getElem.mp hN i j hi' hj' h)
  · exact h
  · exact absurd (e2.trans e1.symm) (List.pairwise_iff_getElem.mp hN j i hj' hi' h)
theorem SumsAt.front {H : Hp} {ts : List Addr} {t : Addr} {ss : List WSum} {s : WSum} (h : SumsAt H (ts ++ [t]) (ss ++ [s])) : SumsAt H ts ss := by
  have hl : ts.length = ss.length := by
    have := h.len
    rw [List.length_append, List.length_append, List.length_singleton, List.length_singleton] at this
    omega
  refine ⟨hl, fun i t' s' a c => h.get i t' s' ?_ ?_⟩
  · rw [List.getElem?_append_left (List.getElem?_eq_some_iff.mp a).1]; exact a
  · rw [List.getElem?_append_left (List.getElem?_eq_some_iff.mp c).1]; exact c
end WS
set_option maxRecDepth 100000
set_option maxHeartbeats 4000000
namespace WS
open PySem L2 SetT RevS ND LamX
/-- lists of data that lean on tuples -/
structure RowsL (N : Addr → Prop) (H : Hp) (rs : List Addr) (D : List (List PyData)) : Prop where
  len : rs.length = D.length
  get : ∀ (i : Nat) (r : Addr) (d : List PyData), rs[i]? = some r → D[i]? = some d → N r ∧ ∃ its, H r = some (.lst its) ∧ TpAll H its d
section
variable {N N' : Addr → Prop} {H H' : Hp} {rs : List Addr} {D : List (List PyData)}
theorem RowsL.keep (h : RowsL N H rs D) (e : ∀ a xs, N a → H a = some (.lst xs) → H' a = some (.lst xs)) (t : TupK H H') : RowsL N H' rs D := ⟨h.len, fun i r d a b => by
  obtain ⟨n, its, h1, h2⟩ := h.get i r d a b
  exact ⟨n, its, e _ _ n h1, h2.keep t⟩⟩
theorem RowsL.same (h : RowsL N H rs D) (e : Same H H') : RowsL N H' rs D := h.keep (fun _ _ _ k => e _ _ k) (TupK.of e)
theorem RowsL.imp (h : RowsL N H rs D) (e : ∀ r its, r ∈ rs → H r = some (.lst its) → N r → N' r) : RowsL N' H rs D := ⟨h.len, fun i r d a b => by
  obtain ⟨n, its, h1, h2⟩ := h.get i r d a b
  exact ⟨e r its (List.mem_of_getElem? a) h1 n, its, h1, h2⟩⟩
theorem RowsL.mem (h : RowsL N H rs D) {r : Addr} (hr : r ∈ rs) : N r ∧ ∃ its, H r = some (.lst its) := by
  obtain ⟨i, hi⟩ := List.mem_iff_getElem?.mp hr
  have hl : i < D.length := h.len ▸ (List.getElem?_eq_some_iff.mp hi).1
  obtain ⟨n, its, h1, _⟩ := h.get i r _ hi (List.getElem?_eq_getElem hl)
  exact ⟨n, its, h1⟩
theorem RowsL.nil : RowsL N H [] [] := ⟨rfl, fun i r d a b => by simp at a⟩
theorem RowsL.snoc (h : RowsL N H rs D) {r : Addr} {d : List PyData} {its : List V} (n : N r) (h1 : H r = some (.lst its)) (h2 : TpAll H its d) : RowsL N H (rs ++ [r]) (D ++ [d]) := by
  refine ⟨by rw [List.length_append, List.length_append, h.len] <;> rfl, fun i r' d' a b => ?_⟩
  by_cases hi : i < rs.length
  · rw [List.getElem?_append_left hi] at a
    rw [List.getElem?_append_left (h.len ▸ hi)] at b
    exact h.get i r' d' a b
  · rw [List.getElem?_append_right (by omega)] at a
    rw [List.getElem?_append_right (by have := h.len; omega), ← h.len] at b
    rcases hj : i - rs.length with _ | j
    · rw [hj] at a b
      cases Option.some.inj a
      cases Option.some.inj b
      exact ⟨n, its, h1, h2⟩
    · rw [hj] at a; simp at a
theorem RowsL.dp (K : PySem.W.Frag) : ∀ {rs : List Addr} {D : List (List PyData)}, RowsL N H rs D → DpAll K H (rs.map V.ref) (D.map PyData.list)
  | [], [], _ => .nil
  | [], _ :: _, h => by have := h.len; simp at this
  | _ :: _, [], h => by have := h.len; simp at this
  | r :: rs, d :: D, h => by
    obtain ⟨_, its, h1, h2⟩ := h.get 0 r d rfl rfl
    exact .cons (.lst (SqL.of h1) (h2.dp K)) (RowsL.dp K (rs := rs) (D := D) ⟨by have := h.len; simpa using this, fun i r' d' a b => h.get (i + 1) r' d' a b⟩)
end
/-- what a heap did not know, but for a table -/
def NewN (H : Hp) (a : Addr) : Prop := ∀ u, H a = some u → ∃ ps, u = .tbl ps
theorem newN_none {H : Hp} {a : Addr} (h : H a = none) : NewN H a := fun u e => by rw [h] at e; cases e
theorem newN_back {H H' : Hp} {a : Addr} (e : ExtN H H') (h : NewN H' a) : NewN H a := fun u hu => by
  cases u with
  | tbl ps => exact ⟨ps, rfl⟩
  | _ => exact h _ (e _ _ hu (fun ps z => nomatch z))
theorem ext_mutN {H H' : Hp} {p : Addr} {o : HO} (e : ExtN H H') (hp : NewN H p) : ExtN H (upd H' p o) := fun b u h n => by
  have : b ≠ p := fun z => by
    rw [z] at h
    obtain ⟨ps, e⟩ := hp u h
    exact n ps e
  rw [upd_ne this]; exact e b u h n
theorem tupK_ext {H H' : Hp} (e : ExtN H H') : TupK H H' := fun a xs h => ext_tup e h
theorem RowsL.ext {N : Addr → Prop} {H H' : Hp} {rs : List Addr} {D : List (List PyData)} (h : RowsL N H rs D) (e : ExtN H H') : RowsL N H' rs D := h.keep (fun _ _ _ k => ext_lst e k) (tupK_ext e)
/-! what is told of a sheet -/
def sumD (s : WSum) : PyData := .tuple [.tuple (s.1.map PyData.str), .str s.2]
def lastD (b : Int) (ss : List WSum) : List PyData := match answersOf b ss with
  | [] => [treeD (tableOf b ss)]
  | [x] => [.tuple [rowD x, treeD (tableOf b ss)]]
  | x :: y :: _ => [rowD x, rowD y]
def moreD (b : Int) (ss : List WSum) : List (List PyData) := match answersOf b ss with
  | [] => []
  | x :: r => [(givensOf (lettersOf ss) (x :: r) x).map fun c => PyData.str ⟨#[c]⟩, (sortP (sureOf (lettersOf ss) (x :: r))).map pairD]
def toldD (b : Int) (ss : List WSum) : List (List PyData) :=
  [(lettersOf ss).map fun c => PyData.str ⟨#[c]⟩, ss.map sumD, (answersOf b ss).map rowD, [treeD (tableOf b ss), .int ((answersOf b ss).length : Nat)]] ++ moreD b ss ++ [lastD b ss]
theorem tp_sg {H : Hp} : ∀ cs : List Nat, TpAll H (cs.map sg) (cs.map fun c => PyData.str ⟨#[c]⟩)
  | [] => .nil
  | c :: r => .cons (.str _) (tp_sg r)
theorem tp_sums {H : Hp} {ts : List Addr} {ss : List WSum} (h : SumsAt H ts ss) : TpAll H (ts.map V.ref) (ss.map sumD) :=
  tp_list h.len fun i t s a b => by
    obtain ⟨u, h1, h2⟩ := h.get i t s a b
    exact .tup h1 (.cons (.tup h2 (tp_strs _)) (.cons (.str _) .nil))
theorem tp_pairs {H : Hp} {ts : List Addr} {ps : List (Nat × Int)} (h : PrAt H ts ps) : TpAll H (ts.map V.ref) (ps.map pairD) :=
  tp_list h.len fun i t p a b => .tup (h.get i t p a b) (.cons (.str _) (.cons (.int _) .nil))
/-! shape -/
def fine (d : PyData) : Prop := d.canLay0 = true ∧ d.depth ≤ 30 ∧ PyData.eqv d d = true
theorem fine_str {z : Str} (h : Abc z.cps.toList) : fine (.str z) := by
  refine ⟨?_, Nat.zero_le _, eqv_str z⟩
  show PyData.strOk _ = true
  unfold PyData.strOk
  rw [← Array.all_toList, List.all_eq_true]
  intro c hc
  have := abc_low (h c hc)
  simpa using this
theorem fine_sg {c : Nat} (h : c < 0x110000) : fine (.str ⟨#[c]⟩) := ⟨can_sg h, Nat.zero_le _, eqv_str _⟩
theorem fine_tup {ds : List PyData} (h : ∀ d ∈ ds, d.canLay0 = true ∧ d.depth ≤ 29 ∧ PyData.eqv d d = true) : fine (.tuple ds) :=
  ⟨can_tuple fun d hd => (h d hd).1, depth_tuple fun d hd => (h d hd).2.1, eqv_tuple fun d hd => (h d hd).2.2⟩
theorem row_fine (x : List Int) : (rowD x).canLay0 = true ∧ (rowD x).depth ≤ 1 ∧ PyData.eqv (rowD x) (rowD x) = true := by
  have hm : ∀ d ∈ x.map PyData.int, ∃ i, d = .int i := fun d hd => by
    obtain ⟨i, _, rfl⟩ := List.mem_map.mp hd
    exact ⟨i, rfl⟩
  refine ⟨can_tuple fun d hd => ?_, depth_tuple (n := 0) fun d hd => ?_, eqv_tuple fun d hd => ?_⟩
  · obtain ⟨i, rfl⟩ := hm d hd; rfl
  · obtain ⟨i, rfl⟩ := hm d hd; exact Nat.le_refl _
  · obtain ⟨i, rfl⟩ := hm d hd; exact eqv_int i
theorem givens_in {L : List Nat} {A : List (List Int)} {x : List Int} {c : Nat} (h : c ∈ givensOf L A x) : c ∈ L := by
  unfold givensOf at h
  obtain ⟨p, hp, rfl⟩ := List.mem_map.mp h
  have := (givF_sub L A x L.length (Nat.le_refl _)).subset hp
  exact (List.of_mem_zip this).1
theorem sure_len (L : List Nat) (A : List (List Int)) : (sureOf L A).length ≤ L.length := by
  unfold sureOf sureUp
  refine Nat.le_trans (List.length_filterMap_le _ _) ?_
  rw [List.length_range]
  exact Nat.le_refl _
theorem sure_keys {L : List Nat} {A : List (List Int)} {p : Nat × Int} (h : p ∈ sureOf L A) : p.1 ∈ L := by
  obtain ⟨i, _, h1, _⟩ := (sureUp_mem (c := p.1) (v := p.2)).mp h
  exact List.mem_of_getElem? h1
theorem told_fine {b : Int} {ss : List WSum} (V : Valid b ss) : ∀ d ∈ toldD b ss, ∀ e ∈ d, fine e := by
  have hlow := lets_low V
  obtain ⟨t1, t2⟩ := tableD_shape V
  have t3 := eqv_tree (tableOf b ss)
  have hrow : ∀ x, fine (rowD x) := fun x => ⟨(row_fine x).1, Nat.le_trans (row_fine x).2.1 (by decide), (row_fine x).2.2⟩
  have hlets : ∀ cs : List Nat, (∀ c ∈ cs, c ∈ lettersOf ss) → ∀ e ∈ cs.map fun c => PyData.str ⟨#[c]⟩, fine e := fun cs hcs e he => by
    obtain ⟨c, hc, rfl⟩ := List.mem_map.mp he
    exact fine_sg (hlow c (hcs c hc))
  have hfirst : ∀ d ∈ [(lettersOf ss).map fun c => PyData.str ⟨#[c]⟩, ss.map sumD, (answersOf b ss).map rowD, [treeD (tableOf b ss), .int ((answersOf b ss).length : Nat)]], ∀ e ∈ d, fine e := by
    intro d hd e he
    simp only [List.mem_cons, List.not_mem_nil, or_false] at hd
    rcases hd with rfl | rfl | rfl | rfl
    · exact hlets _ (fun c hc => hc) e he
    · obtain ⟨s, hs, rfl⟩ := List.mem_map.mp he
      have hw : ∀ z ∈ s.1 ++ [s.2], Abc z.cps.toList := fun z hz => (isWord_iff.mp (words_of V hs z hz)).2
      have hin : fine (.tuple (s.1.map PyData.str)) := fine_tup fun d hd => by
        obtain ⟨z, hz, rfl⟩ := List.mem_map.mp hd
        obtain ⟨f1, f2, f3⟩ := fine_str (hw z (List.mem_append_left _ hz))
        exact ⟨f1, Nat.zero_le _, f3⟩
      refine fine_tup fun d hd => ?_
      simp only [List.mem_cons, List.not_mem_nil, or_false] at hd
      rcases hd with rfl | rfl
      · refine ⟨hin.1, Nat.le_trans (depth_tuple (n := 0) fun d hd => ?_) (by decide), hin.2.2⟩
        obtain ⟨z, _, rfl⟩ := List.mem_map.mp hd
        exact Nat.le_refl _
      · obtain ⟨f1, f2, f3⟩ := fine_str (hw s.2 (by simp))
        exact ⟨f1, Nat.zero_le _, f3⟩
    · obtain ⟨x, _, rfl⟩ := List.mem_map.mp he
      exact hrow x
    · simp only [List.mem_cons, List.not_mem_nil, or_false] at he
      rcases he with rfl | rfl
      · exact ⟨t1, by omega, t3⟩
      · exact ⟨rfl, Nat.zero_le _, eqv_int _⟩
  intro d hd e he
  unfold toldD at hd
  rcases List.mem_append.mp hd with hd | hd
  · rcases List.mem_append.mp hd with hd | hd
    · exact hfirst d hd e he
    · unfold moreD at hd
      cases hA : answersOf b ss with
      | nil => rw [hA] at hd; cases hd
      | cons x r =>
        rw [hA] at hd
        simp only [List.mem_cons, List.not_mem_nil, or_false] at hd
        rcases hd with rfl | rfl
        · refine hlets _ (fun c hc => ?_) e he
          exact givens_in hc
        · obtain ⟨p, hp, rfl⟩ := List.mem_map.mp he
          have hc := sure_keys ((sortP_perm _).subset hp)
          refine fine_tup fun d hd => ?_
          simp only [List.mem_cons, List.not_mem_nil, or_false] at hd
          rcases hd with rfl | rfl
          · exact ⟨can_sg (hlow _ hc), Nat.zero_le _, eqv_str _⟩
          · exact ⟨rfl, Nat.zero_le _, eqv_int _⟩
  · rw [List.mem_singleton.mp hd] at he
    unfold lastD at he
    cases hA : answersOf b ss with
    | nil =>
      rw [hA] at he
      rw [List.mem_singleton.mp he]
      exact ⟨t1, by omega, t3⟩
    | cons x r =>
      rw [hA] at he
      cases r with
      | nil =>
        rw [List.mem_singleton.mp he]
        refine fine_tup fun d hd => ?_
        simp only [List.mem_cons, List.not_mem_nil, or_false] at hd
        rcases hd with rfl | rfl
        · exact ⟨(row_fine x).1, Nat.le_trans (row_fine x).2.1 (by decide), (row_fine x).2.2⟩
        · exact ⟨t1, by omega, t3⟩
      | cons y r =>
        simp only [List.mem_cons, List.not_mem_nil, or_false] at he
        rcases he with rfl | rfl <;> exact hrow _
theorem shaped_told {b : Int} {ss : List WSum} (V : Valid b ss) : SeqAt.shaped (.list ((toldD b ss).map PyData.list)) = true := by
  have h := told_fine V
  refine shaped_of (can_list fun d hd => ?_) (Nat.le_trans (depth_list (n := 31) fun d hd => ?_) (by decide))
  · obtain ⟨e, he, rfl⟩ := List.mem_map.mp hd
    exact can_list fun x hx => (h e he x hx).1
  · obtain ⟨e, he, rfl⟩ := List.mem_map.mp hd
    exact depth_list fun x hx => (h e he x hx).2.1
theorem eqv_told {b : Int} {ss : List WSum} (V : Valid b ss) : PyData.eqv (.list ((toldD b ss).map PyData.list)) (.list ((toldD b ss).map PyData.list)) = true := eqv_list fun d hd => by
  obtain ⟨e, he, rfl⟩ := List.mem_map.mp hd
  exact eqv_list fun x hx => (told_fine V e he x hx).2.2
theorem toldD_len (b : Int) (ss : List WSum) : (toldD b ss).length ≤ 7 := by
  unfold toldD moreD
  cases answersOf b ss with
  | nil => simp
  | cons x r => simp
end WS
set_option maxRecDepth 100000
set_option maxHeartbeats 8000000
namespace WS
open PySem L2 SetT RevS
def spThrough (CS : Addr) : Sp := fun vs H Q _ => ∃ (sh : Addr) (b : Int) (kl : Addr) (ts : List Addr) (ss : List WSum), vs = [.ref sh] ∧ ShAt CS H sh b kl ts ∧ SumsAt H ts ss ∧ Valid b ss ∧ (answersOf b ss).length ≤ 900000 ∧
  ∀ q v fo rs H', H q = none → H fo = none → Same H H' → H' q = some (.tup [v, .ref fo]) → H' fo = some (.lst (rs.map V.ref)) → TreeAt H' v (tableOf b ss) → AnsAt H' rs (answersOf b ss) → Q (.ref q) H'
section
variable {P : Program} {w : World} {K : PySem.W.Frag} {mg : Str → Option Value} {base : Heap}
theorem scThrough : FnScope ["sheet", "reader", "table"] ["sheet"] (defScope sThrough) := ⟨rfl, rfl, rfl, by decide +kernel, rfl, by decide +kernel, by decide +kernel⟩
theorem ok_through {f C CS fI fC : Addr} {fd fdI fdC : FuncData} (F : Fun K "read_through" "read_through" sThrough f fd) (T : ReaderTxt K mg C)
    (M : Mk K C fI) (bI : Binds K fdI ["self", "sheet"] []) (GI : FnOk P w K mg base CX0 4 fI fdI ["self", "sheet"] (spRdInit C CS))
    (mC : Meth K C "case_from" fC) (bC : Binds K fdC ["self", "turn", "figures", "carried"] [])
    (GC : ∀ (b : Int) (L fs : List Nat) (ps : List Stp), StOk b L fs ps → FnOk P w K mg base CX0 (2 * 94 + 3) fC fdC ["self", "turn", "figures", "carried"] (spCase C b L fs ps 94 fun _ => True)) :
    FnOk P w K mg base CX0 192 f fd ["sheet"] (spThrough CS) := by
  refine F.ok scThrough (fun vs H Q E h => ?_) (fun cdv A outer s H vs Q E hr h => ?_)
  · obtain ⟨sh, b, kl, ts, ss, rfl, _⟩ := h
    rfl
  · obtain ⟨sh, b, kl, ts, ss, rfl, A', hsa, V', hsm, k⟩ := h
    have nd := scThrough.nd
    have hr5 : Room 5 _ := hr.mono (by decide)
    obtain ⟨hwf, O⟩ := stepsOf_wf V'
    have GC := GC _ _ _ _ O
    refine ⟨_, (pss_cons (ps_set (i := 1) nd rfl (.inl rfl) (pe_make M GI hr5 (by rfl) T.g bI .nil pass0 (pa_cons (pv 0) pa_nil)))
      (pss_cons (ps_set (i := 2) nd rfl (.inl rfl) (pe_meth (pv 1) T.cl mC GC hr bC .nil pass0 (pa_cons pe_int (pa_cons pe_dnewK (pa_cons pe_int pa_nil)))))
      (pss_one (ps_ret (pe_tup (pa_cons (pv 2) (pa_cons (pe_fld (pv 1) rfl) pa_nil))))))), ?_⟩
    refine ⟨_, rfl, fun p dx hp hdx hne => ?_⟩
    have s1 : Same H (upd (upd H dx (.own p)) p (.ins C dx [])) := Same.mut (Same.new hdx) hp
    refine ⟨p, dx, sh, b, kl, ts, ss, rfl, upd_same, A'.same s1, hsa.same s1, V', fun fo H2 hfo hfo2 R keep => ⟨rfl, ?_⟩⟩
    have s2 : Same H H2 := fun a o h => keep a o (ne_of_none h hp) (s1 _ _ h)
    have hfo0 : H fo = none := Same.free s1 hfo
    have hp2 : ∃ dx' fl, H2 p = some (.ins C dx' fl) ∧ fl.lookup ("case_from" : Str) = none := by
      obtain ⟨dx', ol, fq, sq, rs, RI⟩ := R
      exact ⟨dx', _, (off_at RI.ob).2, rf_no _ _ _ _ _ (by decide +kernel) (by decide +kernel) (by decide +kernel) (by decide +kernel) (by decide +kernel)⟩
    obtain ⟨dx', fl, hp2, hno⟩ := hp2
    refine ⟨_, rfl, p, dx', _, rfl, hp2, hno, fun d hd => ?_⟩
    have s3 : Same H2 (upd H2 d (.dK [])) := Same.new hd
    have hd3 : (upd H2 d (.dK [])) d = some (.dK []) := upd_same
    generalize upd H2 d (.dK []) = H3 at s3 hd3
    refine ⟨p, d, fo, 0, 0, [], [], rfl, R.but (But.of s3), hd3, s3 _ _ hfo2, by rw [List.drop_zero]; exact stepsOf_len V', List.nodup_nil, Nat.le_refl _, by rw [List.drop_zero]; exact hwf, by rw [List.drop_zero, List.length_nil, Nat.zero_add]; exact hsm, ?_, ?_⟩
    · rw [List.drop_zero]
      obtain ⟨x, y, e⟩ := hwf.ne
      exact ⟨x, y, e, trivial⟩
    rw [List.drop_zero]
    intro v H4 rs e4 hfo4 ht4 ha4
    have hpfo : p ≠ fo := by
      obtain ⟨dx', ol, fq, sq, rs, RI⟩ := R
      exact (off_at RI.ob).1
    have s4 : Same H H4 := fun a o h => e4 a o (ne_of_none h hfo0) (s3 _ _ (s2 _ _ h))
    have R4 := (R.but (But.of s3)).but e4
    obtain ⟨dx4, ol, fq, sq, rs4, RI4⟩ := R4
    have hp4 := (off_at RI4.ob).2
    refine ⟨_, rfl, _, rfl, p, C, dx4, _, _, rfl, hp4, T.cl, T.nD, rf_found _ _ _ _ _, by show 2 ≤ sizeLine; decide, fun q hq => ?_⟩
    have s5 : Same H4 (upd H4 q (.tup [v, .ref fo])) := Same.new hq
    exact k q v fo rs _ (Same.free s4 hq) hfo0 (s4.trans s5) upd_same (s5 _ _ hfo4) (ht4.same s5) (ha4.same s5)
end
end WS
set_option maxRecDepth 100000
set_option maxHeartbeats 4000000
namespace WS
open PySem L2
/-- the class of the exception that is raised where nothing fits -/
structure NotOneTxt (K : PySem.W.Frag) (mg : Str → Option Value) (C : Addr) : Prop where
  x : PySem.W.excIn K C [.type "ValueError", .type "Exception", .type "BaseException", .type "object"] "ValueError.__new__" = true
  g : mg "NotOne" = some (.ref C)
  k : PySem.W.keepIn K (.ref C) = true
  b : PySem.W.subIn K (.ref C) (.type "BaseException") = some true
  t : PySem.W.typeIn K (.ref C) = some (.type "type")
section
variable {P : Program} {w : World} {K : PySem.W.Frag} {mg : Str → Option Value} {base : Heap}
/-- a def that may raise, its exceptions without a context -/
theorem okN {x qual : Str} {st : Stmt} {f : Addr} {fd : FuncData} {N ps : List Str} {k : Nat} {sp : Sp} (F : Fun K x qual st f fd) (S : FnScope N ps (defScope st)) (len : ∀ vs H Q E, sp vs H Q E → vs.length = ps.length)
    (hbody : ∀ (cdv : Value) (A : Around) (outer : List Env) (s : Shared) (H : Hp) (vs : List V) (Q : VK) (E : XK), Room k (A.deeper (PyProof.Rows.envOfC qual (defScope st) s.heap.objs.size f cdv)) → sp vs H Q E →
      ∃ t, PSs (cxOf (L2N.CX P w) P w K mg base N qual (defScope st) f cdv A outer s H E) (defBody st) t ∧ t { nx := fun _ H' => Q .non H', rt := Q } (L2.start N vs) H) : FnOk P w K mg base (L2N.CX P w) (k + 1) f fd ps sp := by
  obtain ⟨oc, od, kV, doc, pm, an, cdv, ct, osl, rfl, lk, hcd⟩ := F.ex
  exact fn_of lk hcd S len fun A outer s H vs Q E hr hsp => hbody cdv A outer s H vs Q E hr hsp
end
end WS
set_option maxRecDepth 100000
set_option maxHeartbeats 4000000
/-! an own error class whose __init__ calls that of an own base class without one -/
namespace WS
open PySem PySem.Spec PyProof.Rows L2
/-- what the written part says of the own base class B: its __init__ is ValueError's -/
structure BaseC (K : PySem.W.Frag) (B : Addr) : Prop where
  rd : PySem.W.readsIn K B (.type "type") = true
  ga : PySem.W.specialIn K (.ref B) "__getattribute__" = some (some (.builtin "type.__getattribute__"))
  it : PySem.W.findCls K (.ref B) (.type "type") "__init__" = some (.val (.builtin "ValueError.__init__"))
section
variable {X : Cx} {e : Expr} {es : List Expr} {ta : TA} {x : Str} {B C : Addr} {p p1 p2 pos : Pos}
theorem pe_baseinit {pl : Sem Bool} (hg : Gl X x) (hm : X.mg x = some (.ref B)) (T : BaseC X.K B) (ha : PA X (e :: es) ta) (hdb : (x == ("__debug__" : Str)) = false := by decide)
    (hc : eval (.Call (.Attribute (.Name x p1) "__init__" p2) (e :: es) [] pos) X.env = (do
      let ov ← eval (.Name x p1) X.env
      standAt p2.atName
      let (f, first) ← holding [ov] (getMethod ov "__init__" pl)
      callWith pos f first (backTo pos (starEach (e :: es) X.env)) (backToKw pos (keywordEach [] X.env))) := by rfl)
    (he : starEach (e :: es) X.env = (false, eval e X.env) :: starEach es X.env := by rfl) (hpl : (backTo pos (starEach es X.env)).any (·.1) = false := by rfl) :
    PE X (.Call (.Attribute (.Name x p1) "__init__" p2) (e :: es) [] pos) (tVeI X.K ta) := by
  refine ⟨fun pins s σ H Q I h => ?_⟩
  refine PySem.W.methodCall_KW (ld_glob I hg hm ?_ hdb) hc
  refine PySem.W.method_cls I.kIn T.ga (PySem.W.cls_value I.kIn T.rd T.it (by decide +kernel) ?_)
  show wpAny _ _ (callWith pos (Value.builtin "ValueError.__init__") [] (backTo pos (starEach (e :: es) X.env)) []) _ _ _
  refine PyProof.Rows.callWith_method1 (thn (ha.run pos pins _ σ H _ (I.tok _) h) fun us s1 ⟨vs, H1, I1, r1, a, C, ws, ev, hl, T, ea, q⟩ => ?_) he hpl
  subst ev
  cases r1 with
  | @cons _ u0 _ ur ra rw' =>
    obtain rfl : u0 = Value.ref a := ra
    have hlen : ur.length ≤ sizeLine := by
      rw [← Paired.length rw', sizeLine_eq]
      omega
    exact oinit_ok T I1 ea hlen fun s' J => ⟨.non, H1, J, rfl, q⟩
end
end WS
namespace L2N
open PySem PySem.Spec PyProof.Rows L2
section
variable {X : Cx} {e : Expr} {es : List Expr} {ta : TA}
theorem pmk_oex {CX : CXT} {x : Str} {C fI : Addr} {k : Nat} {fd : FuncData} {ps : List Str} {sp : Sp} {ds : List Value} {dvs : List V} {p pos : Pos} (T : OexC X.K C) (iC : PySem.W.findIn X.K (.ref C) "__init__" = some (some (.ref fI))) (tI : PySem.W.typeIn X.K (.ref fI) = some (.type "function"))
    (F1 : FnOk X.prog X.w X.K X.mg X.base CX k fI fd ps sp) (hr : Room (k + 1) X.A) (hb : Binds X.K fd ps ds) (hd : Vals dvs ds) (hx : Passes CX X (fun _ _ _ => False)) (hg : Gl X x) (hm : X.mg x = some (.ref C)) (ha : PA X (e :: es) ta)
    (hdb : (x == ("__debug__" : Str)) = false := by decide) (he : starEach (e :: es) X.env = (false, eval e X.env) :: starEach es X.env := by rfl) (hpl : (backTo pos (starEach es X.env)).any (·.1) = false := by rfl) :
    L2N.PMk X (.Call (.Name x p) (e :: es) [] pos) (tMkO C sp dvs ta) := by
  obtain ⟨nm, q, N, bs, bm, sn, sub, ab, col, dd, k0, k1, k2, k3, k5, hC, hbm⟩ := T.cls
  intro pins s σ H Q I h
  refine wpAny_Call_Name_kw (ld_glob I hg hm (PySem.W.callWith_K (h₀ := X.base) I.ok.mod.kin T.kC (thn (ha.run pos pins s σ H _ I h) fun us s1 hs1 => ?_) he hpl) hdb)
  obtain ⟨vs, H1, I1, r1, hz, q1⟩ := hs1
  refine ⟨I1.kIn, ?_⟩
  show wpAny _ _ (call (.ref C) us) _ _ _
  obtain ⟨hp, g, dr, tk, os⟩ := s1
  -- where the tuple of its arguments and itself are laid
  have up : hp.objs.size ≤ hp.objs.size + 1 := Nat.le_succ _
  have hq := q1 (hp.objs.size + 1) (I1.hok.fresh up)
  have keep : ∀ b o, hp.get? b = some o → ((hp.push (PySem.W.kdv_tup us)).push (PySem.HandSPX.excO C hp.objs.size)).get? b = some o := fun b o e => Heap.get?_push_of_some _ (Heap.get?_push_of_some _ e)
  have I2 : Inv X pins σ (upd H1 (hp.objs.size + 1) (exo (hp.objs.size + 1) C none)) ⟨(hp.push (PySem.W.kdv_tup us)).push (PySem.HandSPX.excO C hp.objs.size), g, dr, tk, os⟩ :=
    I1.laid (t' := tk) (a := hp.objs.size + 1) (o := exo (hp.objs.size + 1) C none) (h' := (hp.push (PySem.W.kdv_tup us)).push (PySem.HandSPX.excO C hp.objs.size)) keep up (exo_ok (by heap_get))
  have r2 : Vals (V.ref (hp.objs.size + 1) :: (vs ++ dvs)) (Value.ref (hp.objs.size + 1) :: (us ++ ds)) := .cons rfl (r1.append hd)
  have hl : (Value.ref (hp.objs.size + 1) :: us ++ ds).length = ps.length := r2.length.symm.trans (F1.len _ _ _ _ hq)
  have hus : us.length ≤ sizeLine := by
    have := Paired.length r1
    rw [sizeLine_eq]
    omega
  have body := F1.run _ X.stack _ _ ⟨Value.ref (hp.objs.size + 1) :: us, []⟩ (Value.ref (hp.objs.size + 1) :: (us ++ ds)) _ _ (fun _ _ _ => False) (hr.make C us []) (I2.env0.make C us []) (hb _ (Value.ref (hp.objs.size + 1) :: us) I2.kIn hl) r2 hq
  refine wpAny_call (PySem.HandSPX.call_own F.excBase_ValueError (fun Y => PySem.HandSPX.refsVE_contains Y bm hbm) (I1.kIn _ _ hC) (PySem.W.looks_findIn I1.kIn iC) (fun self => PySem.W.bind_fn I1.kIn self tI) hus (codeAny_mono body fun r s' hq' => ?_))
  match r, hq' with
  | .error er, hq' => exact hx pins σ _ _ er s' I2 hq'
  | .ok .next, hq' => exact False.elim hq'
  | .ok .brk, hq' => exact False.elim hq'
  | .ok .cont, hq' => exact False.elim hq'
  | .ok (.ret u), hq' =>
    obtain ⟨v, H2, os2, bare2, un2, hok2, rv, ev, d, fs, ea, ed, hd1, q2⟩ := hq'
    subst ev
    obtain ⟨h2, g2, d2, t2, os'⟩ := s'
    obtain ⟨t0, G, J, kG, ge, hoe, na⟩ := mk_end0 (d2 := d2) (t2 := t2) I1 up keep un2 hok2 os2 bare2 ea ed hd1
    exact ⟨rv, ⟨hp.objs.size + 1, _, _, ⟨G, g2, d2, t2, os'⟩, _, .ref C, some d, rfl, J, kG, ge, hoe, ⟨rfl, rfl, fun vs hv => by cases hv; rfl⟩, rfl, rfl, na, rfl, bare2, raises_own T.exC T.tyC, q2⟩⟩
end
end L2N
set_option maxRecDepth 100000
set_option maxHeartbeats 8000000
namespace WS
open PySem L2
def spNaInit (C : Addr) : Sp := fun vs H Q _ => ∃ (a : Addr) (v : V), vs = [.ref a, v] ∧ H a = some (exo a C none) ∧
  ∀ d, H d = none → d ≠ a → Q .non (upd (upd H d (exd d [("table", v)])) a (exo a C (some d)))
def spMaInit (K : PySem.W.Frag) (C : Addr) : Sp := fun vs H Q _ => ∃ (a l : Addr) (xs : List V), vs = [.ref a, .ref l] ∧ H a = some (exo a C none) ∧ H l = some (.lst xs) ∧
  ∀ p d, H p = none → (upd H p (.lst xs)) d = none → d ≠ a → Q .non (upd (upd (upd H p (.lst xs)) d (exd d [("two", .ref p)])) a (exo a C (some d)))
section
variable {P : Program} {w : World} {K : PySem.W.Frag} {mg : Str → Option Value} {base : Heap}
theorem scNaInit : FnScope ["self", "table"] ["self", "table"] (defScope sNaInit) := ⟨rfl, rfl, rfl, by decide +kernel, rfl, by decide +kernel, by decide +kernel⟩
theorem ok_nainit {f C B : Addr} {fd : FuncData} (F : Fun K "__init__" "NoAnswer.__init__" sNaInit f fd) (T : OexC K C) (g_SumError : mg "SumError" = some (.ref B)) (TB : BaseC K B)
    (n_table : PySem.W.findIn K (.ref C) "table" = some none) : FnOk P w K mg base CX0 1 f fd ["self", "table"] (spNaInit C) := by
  refine F.ok scNaInit (fun vs H Q E h => ?_) (fun cdv A outer s H vs Q E hr h => ?_)
  · obtain ⟨a, v, rfl, _⟩ := h
    rfl
  · obtain ⟨a, v, rfl, ha, k⟩ := h
    have nd := scNaInit.nd
    refine ⟨_, pss_cons (ps_expr (pe_baseinit (by rfl) g_SumError TB (pa_cons (pv 0) (pa_cons pe_str pa_nil)))) (pss_one (ps_ost (pv 0) (pv 1))), ?_⟩
    refine ⟨_, rfl, a, C, [_], rfl, by show 1 ≤ 1000; decide, T, ha, ?_⟩
    exact ⟨_, rfl, _, rfl, a, C, rfl, T, n_table, .inl ⟨ha, k⟩⟩
theorem scMaInit : FnScope ["self", "two"] ["self", "two"] (defScope sMaInit) := ⟨rfl, rfl, rfl, by decide +kernel, rfl, by decide +kernel, by decide +kernel⟩
theorem ok_mainit {f C B : Addr} {fd : FuncData} (F : Fun K "__init__" "ManyAnswers.__init__" sMaInit f fd) (T : OexC K C) (g_SumError : mg "SumError" = some (.ref B)) (TB : BaseC K B) (z_list : mg "list" = none)
    (n_two : PySem.W.findIn K (.ref C) "two" = some none) : FnOk P w K mg base CX0 1 f fd ["self", "two"] (spMaInit K C) := by
  refine F.ok scMaInit (fun vs H Q E h => ?_) (fun cdv A outer s H vs Q E hr h => ?_)
  · obtain ⟨a, l, xs, rfl, _⟩ := h
    rfl
  · obtain ⟨a, l, xs, rfl, ha, hl, k⟩ := h
    have nd := scMaInit.nd
    refine ⟨_, pss_cons (ps_expr (pe_baseinit (by rfl) g_SumError TB (pa_cons (pv 0) (pa_cons pe_str pa_nil)))) (pss_one (ps_ost (pv 0) (pe_callTy call_list_of (by rfl) z_list (by decide +kernel) (pa_cons (pv 1) pa_nil)))), ?_⟩
    refine ⟨_, rfl, a, C, [_], rfl, by show 1 ≤ 1000; decide, T, ha, ?_⟩
    refine ⟨_, rfl, l, _, rfl, .inl (SqL.of hl), fun p hp => ?_⟩
    have hpa : a ≠ p := ne_of_none ha hp
    exact ⟨_, rfl, a, C, rfl, T, n_two, .inl ⟨(upd_ne hpa).trans ha, fun d hd hne => k p d hp hd hne⟩⟩
end
/-- an exception that tells the table -/
def noneE (C : Addr) (H : Hp) (E : XK) (v : V) : Prop := ∀ (d : Addr) (H' : Hp), H d = none → Same H H' → H' d = some (.xd [("table", v)]) → E (.ref C) (some d) H'
/-- an exception that tells a list of these -/
def manyE (C : Addr) (H : Hp) (E : XK) (xs : List V) : Prop := ∀ (d p : Addr) (H' : Hp), H d = none → H p = none → p ≠ d → Same H H' → H' p = some (.lst xs) → H' d = some (.xd [("two", .ref p)]) → E (.ref C) (some d) H'
theorem raise_none {C : Addr} {H : Hp} {E : XK} {v : V} (h : noneE C H E v) (a : Addr) (ha : H a = none) :
    spNaInit C [.ref a, v] (upd H a (exo a C none)) (fun v H2 => v = .non ∧ ∃ (d : Addr) (fs : List (Str × V)), H2 a = some (exo a C (some d)) ∧ H2 d = some (exd d fs) ∧ H d = none ∧ E (.ref C) (some d) (upd (del H2 a) d (.xd fs))) (fun _ _ _ => False) := by
  refine ⟨a, v, rfl, upd_same, fun d hd hne => ?_⟩
  have hd0 : H d = none := by rw [upd_ne hne] at hd; exact hd
  refine ⟨rfl, d, _, upd_same, (upd_ne hne).trans upd_same, hd0, h d _ hd0 (fun c o e => ?_) upd_same⟩
  have hcd : c ≠ d := ne_of_none e hd0
  have hca : c ≠ a := ne_of_none e ha
  rw [upd_ne hcd, del_ne hca, upd_ne hca, upd_ne hcd, upd_ne hca]
  exact e
theorem raise_many {K : PySem.W.Frag} {C l : Addr} {H : Hp} {E : XK} {xs : List V} (h : manyE C H E xs) (hl : H l = some (.lst xs)) (a : Addr) (ha : H a = none) :
    spMaInit K C [.ref a, .ref l] (upd H a (exo a C none)) (fun v H2 => v = .non ∧ ∃ (d : Addr) (fs : List (Str × V)), H2 a = some (exo a C (some d)) ∧ H2 d = some (exd d fs) ∧ H d = none ∧ E (.ref C) (some d) (upd (del H2 a) d (.xd fs))) (fun _ _ _ => False) := by
  have hla : l ≠ a := ne_of_none hl ha
  refine ⟨a, l, xs, rfl, upd_same, (upd_ne hla).trans hl, fun p d hp hd hne => ?_⟩
  have hpa : p ≠ a := fun z => by rw [z, upd_same] at hp; cases hp
  have hp0 : H p = none := by rw [upd_ne hpa] at hp; exact hp
  have hdp : d ≠ p := fun z => by rw [z, upd_same] at hd; cases hd
  have hd0 : H d = none := by rw [upd_ne hdp, upd_ne hne] at hd; exact hd
  refine ⟨rfl, d, _, upd_same, (upd_ne hne).trans upd_same, hd0, h d p _ hd0 hp0 (Ne.symm hdp) (fun c o e => ?_) ?_ upd_same⟩
  · have hcd : c ≠ d := ne_of_none e hd0
    have hca : c ≠ a := ne_of_none e ha
    have hcp : c ≠ p := ne_of_none e hp0
    rw [upd_ne hcd, del_ne hca, upd_ne hca, upd_ne hcd, upd_ne hcp, upd_ne hca]
    exact e
  · rw [upd_ne (Ne.symm hdp), del_ne hpa, upd_ne hpa, upd_ne (Ne.symm hdp), upd_same]
theorem noneE.same {C : Addr} {H H1 : Hp} {E : XK} {v : V} (h : noneE C H E v) (e : Same H H1) : noneE C H1 E v := fun d H' hd s hx => h d H' (Same.free e hd) (e.trans s) hx
theorem manyE.same {C : Addr} {H H1 : Hp} {E : XK} {xs : List V} (h : manyE C H E xs) (e : Same H H1) : manyE C H1 E xs := fun d p H' hd hp ne s hx hy => h d p H' (Same.free e hd) (Same.free e hp) ne (e.trans s) hx hy
structure NoneTxt (P : Program) (w : World) (K : PySem.W.Frag) (mg : Str → Option Value) (base : Heap) (C f : Addr) (fd : FuncData) : Prop where
  T : OexC K C
  iC : PySem.W.findIn K (.ref C) "__init__" = some (some (.ref f))
  tI : PySem.W.typeIn K (.ref f) = some (.type "function")
  F1 : FnOk P w K mg base CX0 1 f fd ["self", "table"] (spNaInit C)
  b : Binds K fd ["self", "table"] []
  g : mg "NoAnswer" = some (.ref C)
structure ManyTxt (P : Program) (w : World) (K : PySem.W.Frag) (mg : Str → Option Value) (base : Heap) (C f : Addr) (fd : FuncData) : Prop where
  T : OexC K C
  iC : PySem.W.findIn K (.ref C) "__init__" = some (some (.ref f))
  tI : PySem.W.typeIn K (.ref f) = some (.type "function")
  F1 : FnOk P w K mg base CX0 1 f fd ["self", "two"] (spMaInit K C)
  b : Binds K fd ["self", "two"] []
  g : mg "ManyAnswers" = some (.ref C)
end WS
set_option maxRecDepth 100000
set_option maxHeartbeats 8000000
namespace WS
open PySem L2 SetT RevS
def spOnly (CS cNA cMA : Addr) : Sp := fun vs H Q E => ∃ (sh : Addr) (b : Int) (kl : Addr) (ts : List Addr) (ss : List WSum), vs = [.ref sh] ∧ ShAt CS H sh b kl ts ∧ SumsAt H ts ss ∧ Valid b ss ∧ (answersOf b ss).length ≤ 900000 ∧
  (answersOf b ss = [] → ∀ v H', Same H H' → TreeAt H' v (tableOf b ss) → noneE cNA H' E v) ∧
  (1 < (answersOf b ss).length → ∀ rs H', Same H H' → AnsAt H' rs (answersOf b ss) → manyE cMA H' E ((rs.take 2).map V.ref)) ∧
  (∀ x, answersOf b ss = [x] → ∀ q r v H', H q = none → Same H H' → H' q = some (.tup [.ref r, v]) → H' r = some (.tup (x.map V.int)) → TreeAt H' v (tableOf b ss) → Q (.ref q) H')
section
variable {P : Program} {w : World} {K : PySem.W.Frag} {mg : Str → Option Value} {base : Heap}
theorem scOnly : FnScope ["sheet", "table", "told"] ["sheet"] (defScope sOnly) := ⟨rfl, rfl, rfl, by decide +kernel, rfl, by decide +kernel, by decide +kernel⟩
theorem ok_only {f CS cNA cMA fT fN fM : Addr} {fd fdT fdN fdM : FuncData} (F : Fun K "only" "only" sOnly f fd) (z_len : mg "len" = none) (RN : NoneTxt P w K mg base cNA fN fdN) (RM : ManyTxt P w K mg base cMA fM fdM)
    (S_read_through : Site K mg "read_through" fT fdT ["sheet"]) (G_read_through : FnOk P w K mg base CX0 192 fT fdT ["sheet"] (spThrough CS)) :
    FnOk P w K mg base (L2N.CX P w) 193 f fd ["sheet"] (spOnly CS cNA cMA) := by
  refine okN F scOnly (fun vs H Q E h => ?_) (fun cdv A outer s H vs Q E hr h => ?_)
  · obtain ⟨sh, b, kl, ts, ss, rfl, _⟩ := h
    rfl
  · obtain ⟨sh, b, kl, ts, ss, rfl, hsh, hsa, V', hfd, k0, k2, k1⟩ := h
    have nd := scOnly.nd
    have hr_read_through : Room 192 _ := hr
    have hrI : Room (1 + 1) _ := hr.mono (by decide)
    refine ⟨_, (pss_cons (ps_asg (pe_call G_read_through hr_read_through (by rfl) S_read_through.g S_read_through.k S_read_through.b .nil pass0 (pa_cons (pv 0) pa_nil)) (pg_tup rfl (pgs_cons (pg_name (i := 1) nd rfl (.inl rfl)) (pgs_cons (pg_name (i := 2) nd rfl (.inl rfl)) pgs_nil))))
      (pss_cons (ps_if (pt_not (pt_truth (pv 2) (by intro _; rfl))) (pss_one (L2N.ps_raise rfl (L2N.takes_of rfl rfl rfl rfl) (L2N.pmk_oex RN.T RN.iC RN.tI RN.F1 hrI RN.b .nil pass0 (by rfl) RN.g (pa_cons (pv 1) pa_nil)))) pss_nil)
      (pss_cons (ps_if (pt_cmpR op_gt (pe_callB call_len_seq (by rfl) z_len PySem.boot_len (pa_cons (pv 2) pa_nil)) pe_int (nomark _)) (pss_one (L2N.ps_raise rfl (L2N.takes_of rfl rfl rfl rfl) (L2N.pmk_oex RM.T RM.iC RM.tI RM.F1 hrI RM.b .nil pass0 (by rfl) RM.g (pa_cons (pe_slice sl_list (pv 2) po_none (po_some pe_int)) pa_nil)))) pss_nil)
      (pss_one (ps_ret (pe_tup (pa_cons (pe_ix (r := rIxL K) ix_list (pv 2) pe_int (fun _ _ => rfl)) (pa_cons (pv 1) pa_nil)))))))), ?_⟩
    refine ⟨_, rfl, sh, b, kl, ts, ss, rfl, hsh, hsa, V', hfd, fun q v fo rs H1 hq hfo s1 hq1 hfo1 ht ha => ?_⟩
    refine ⟨q, _, rfl, SqT.of hq1, rfl, _, _, rfl, _, _, rfl, rfl, ?_⟩
    have hrl := ha.len
    refine ⟨_, rfl, _, .inl ⟨_, SqL.of hfo1, rfl⟩, ?_⟩
    by_cases hne : answersOf b ss = []
    · have hrn : rs = [] := by
        rw [hne] at hrl
        exact List.length_eq_zero_iff.mp hrl
      have hemp : (!(rs.map V.ref).isEmpty) = false := by rw [hrn] <;> rfl
      rw [hemp]
      exact iteT ⟨_, rfl, by show 1 ≤ 1000; decide, fun a ha' => raise_none (k0 hne v H1 s1 ht) a ha'⟩
    have hemp : (!(rs.map V.ref).isEmpty) = true := by
      cases rs with
      | nil => exact absurd (List.length_eq_zero_iff.mp hrl.symm) hne
      | cons r rr => rfl
    rw [hemp]
    refine iteF ⟨_, rfl, fo, _, rfl, .inl (SqL.of hfo1), _, _, rfl, rfl, _, rfl, ?_⟩
    rw [List.length_map, hrl]
    refine ite2 (fun h => ?_) (fun h => ?_)
    · have h1 : 1 < (answersOf b ss).length := by
        have := of_decide_eq_true h
        omega
      refine ⟨_, rfl, 2, rfl, fo, _, rfl, SqL.of hfo1, fun p hp => ?_⟩
      have e : cutV (rs.map V.ref) none (some 2) = (rs.take 2).map V.ref := by
        have := cut_first (rs.map V.ref) 2 (by rw [List.length_map]; omega)
        rw [List.map_take]
        exact this
      rw [e]
      have s2 : Same H1 (upd H1 p (.lst ((rs.take 2).map V.ref))) := Same.new hp
      exact ⟨by show 1 ≤ 1000; decide, fun a ha' => raise_many (k2 h1 rs _ (s1.trans s2) (ha.same s2)) upd_same a ha'⟩
    · have h1 : (answersOf b ss).length = 1 := by
        have h2 : ¬ 1 < (answersOf b ss).length := fun z => h (decide_eq_true (by omega))
        have h3 : (answersOf b ss).length ≠ 0 := fun z => hne (List.length_eq_zero_iff.mp z)
        omega
      obtain ⟨x, hx⟩ : ∃ x, answersOf b ss = [x] := List.length_eq_one_iff.mp h1
      rw [hx] at ha
      obtain ⟨r, rfl⟩ : ∃ r, rs = [r] := List.length_eq_one_iff.mp ha.len
      refine ⟨_, rfl, fo, _, 0, _, rfl, rfl, SqL.of hfo1, at_of (j := 0) rfl rfl, _, rfl, by show 2 ≤ sizeLine; decide, fun q2 hq2 => ?_⟩
      have s2 : Same H1 (upd H1 q2 (.tup [.ref r, v])) := Same.new hq2
      exact k1 x hx q2 r v _ (Same.free s1 hq2) (s1.trans s2) upd_same (s2 _ _ (ha.get 0 r x rfl rfl)) (ht.same s2)
end
end WS
set_option maxRecDepth 100000
set_option maxHeartbeats 4000000
/-! try with several clauses, each of them with the one name -/
namespace TryAs
open PySem PySem.Spec PyProof.Rows L2 L2N
abbrev Wish := Value × (Addr → Value → Option Addr → TS)
inductive Clauses (X : Cx) (nm : Str) : List ExceptHandler → List Wish → Prop
  | done : Clauses X nm [] []
  | more {y : Str} {kc : Value} {su : Addr → Value → Option Addr → TS} {b1 : Stmt} {bs : List Stmt} {p1 p2 : Pos} {rest : List ExceptHandler} {ws : List Wish} (hy : Names X y kc)
      (hsuite : ∀ (e : Addr) (oe : Obj) (kl : Value) (dd : Option Addr) (pn : List (Addr × Obj)), Zn kl dd oe → (∃ fs, oe.data = .fields fs) → PSs (X.suite e ((e, oe) :: pn)) (b1 :: bs) (su e kl dd))
      (hrest : Clauses X nm rest ws) : Clauses X nm (.ExceptHandler (some (.Name y p1)) (some nm) (b1 :: bs) p2 :: rest) ((kc, su) :: ws)
def wClauses (K : PySem.W.Frag) (j : Nat) (W0 : WX) (D : Ends) : List Wish → WX
  | [] => W0
  | (kc, su) :: ws => wAs K kc j su (wClauses K j W0 D ws) D
section
variable {X : Cx} {nm : Str} {j : Nat} {body : List Stmt} {c1 : ExceptHandler} {cs : List ExceptHandler} {ws : List Wish} {pos : Pos} {tb : WX → TS} {W0 : WX}
theorem ps_try_clauses (hstk : X.stack = X.env :: X.outer) (hfrm : X.env.frame = some X.env.locals) (hNd : X.N.Nodup) (hj : X.N[j]? = some nm) (hkind : X.env.kindOf nm = some .local) (tk0 : L2N.Takes X W0)
    (hbody : ∀ (V : WX) (pn : List (Addr × Obj)) (xe : Value → Shared → Prop), L2N.Takes (X.tr pn xe) V → PassesOwn (model X.prog X.w) X.A X.env xe → PSs (X.tr pn xe) body (tb V))
    (hcl : Clauses X nm (c1 :: cs) ws) : PS X (.Try body (c1 :: cs) [] [] pos) (fun D σ H => tb (wClauses X.K j W0 D ws) D σ H) := by
  refine ⟨fun pins s0 σ H D I hD => ?_⟩
  have okX := I.ok
  have hfrs : X.A.frames = some (X.env :: X.outer) := okX.frames.trans (congrArg some hstk)
  have hlocal : Loc X.env.scope nm := Or.inl hkind
  refine wpAny_Try_except ?_
  let caught : Value → Shared → Prop := fun u z => wpAny (model X.prog X.w) X.A (noteFrame u X.env) (fun _ z2 => wpAny (model X.prog X.w) X.A (setFlight u none) (fun _ z3 => wpAny (model X.prog X.w) X.A (handleBy u X.env (c1 :: cs)) (SP X pins D) X.xe z3) X.xe z2) X.xe z
  have tkC : L2N.Takes (X.tr (X.pn ++ pins) caught) (wClauses X.K j W0 D ws) := fun u z xx => by
    obtain ⟨e, B, zI, pins1, σ1, H1, kl, dd, rfl, I1', nb, up, sky, ne, os, ag, hw⟩ := xx
    have I1 : Inv X pins σ1 H1 zI := I1'.ofTry okX
    show wpAny (model X.prog X.w) X.A (noteFrame (.ref e) X.env) _ _ _
    refine Sky.land Zn.steady hfrs hfrm (hstk ▸ sky) fun g3 fly3 up3 => ?_
    have I3 : Inv X pins σ1 H1 { z with heap := g3 } := I1.landed nb fly3.1 (up.trans up3) os ag
    obtain ⟨oe3, fs3, there3, isZ3, dat3⟩ := fly3.there
    have offFrames : e ∉ frs (X.env :: X.outer) := fun hm => by
      obtain ⟨_, ob, hob, hnf⟩ := fly3.2.2.1.mem hm
      cases there3.symm.trans hob
      exact hnf _ dat3
    have offLoc : e ≠ X.env.locals := fun hz => offFrames (List.mem_filterMap.mpr ⟨X.env, List.mem_cons_self, hfrm.trans (congrArg some hz.symm)⟩)
    have offFs : e ∉ X.fs := fun hm => by
      obtain ⟨en, hen, hq⟩ := List.mem_filterMap.mp hm
      exact offFrames (List.mem_filterMap.mpr ⟨en, List.mem_cons_of_mem _ hen, hq⟩)
    have Su3 := I3.suite there3 dat3 ne offLoc offFs
    -- from clause to clause
    have walk : ∀ {hs : List ExceptHandler} {vs : List Wish}, Clauses X nm hs vs → wClauses X.K j W0 D vs kl dd σ1 H1 → wpAny (model X.prog X.w) X.A (handleBy (.ref e) X.env hs) (SP X pins D) X.xe { z with heap := g3 } := by
      intro hs vs hcls
      induction hcls with
      | done =>
        intro hW
        refine wpAny_handleBy_nil ?_
        obtain ⟨u1, u2, u3, oe, fs, T, oT, tsT, gE, gZ, gD, g1, gR⟩ := id fly3
        unfold PySem.passOn
        refine wpAny_bind (wpAny_field gE gD g1 ?_)
        rw [if_neg (by simp : ¬ (Value.ref T == Value.none) = true)]
        have out : wpAny (model X.prog X.w) X.A (setFlight (.ref e) X.env.frame) (fun _ z4 => wpAny (model X.prog X.w) X.A (throw (.ref e) : Sem Flow) (SP X pins D) X.xe z4) X.xe { z with heap := g3 } := by
          rw [hfrm]
          refine HandSPX.setFlight_upZ fly3 fun g4 held4 up4 => wpAny_throw (tk0 _ _ ⟨e, B, zI, pins, σ1, H1, kl, dd, rfl, I1, nb, (up.trans up3).trans up4, Or.inr (Or.inr (hstk.symm ▸ held4)), ne, os, ag, hW⟩)
        first
          | exact wpAny_bind (wpAny_pure (wpAny_bind out))
          | exact wpAny_bind out
      | @more y kc su b1 bs p1 p2 rest vs hy hsuite hrest ih =>
        intro hW
        obtain ⟨yes, hex, hyes, hno⟩ := hW
        refine wpAny_handleBy_cons (codeAny_handlers_test ?_) (fun hq => by cases hq)
        have looks : PySem.W.Looks (model X.prog X.w) g3 (typeOf (.ref e)) kl := fun A' Q' E' zz kp qq => wpAny_typeOf_ref (kp _ _ there3) (by rw [isZ3.1]; exact qq)
        have isOne := PySem.W.exm_one (M := model X.prog X.w) I3.kIn looks hex
        have named : ∀ {Q' : Value → Shared → Prop} {E' : Value → Shared → Prop}, Q' kc { z with heap := g3 } → wpAny (model X.prog X.w) (X.A.mark (some (.ref e))) (eval (.Name y p1) X.env) Q' E' { z with heap := g3 } := fun {Q' E'} qq => by
          obtain ⟨hgl, hdb, hmg | ⟨hmg, hbo, hnn⟩⟩ := hy
          · exact ld_glob (X := X.suite e ((e, oe3) :: (X.pn ++ pins))) Su3 hgl hmg qq hdb
          · exact ld_blt (X := X.suite e ((e, oe3) :: (X.pn ++ pins))) Su3 hgl hmg hbo qq hnn hdb
        refine named (isOne.here ?_)
        cases yes with
        | false =>
          show wpAny _ X.A (handleBy (.ref e) X.env rest) _ _ _
          exact ih (hno rfl)
        | true =>
          refine codeAny_handlers_suite_as ?_
          refine HandSPX.lands_againZ fly3 fun g4 fly4 up4 => ?_
          have I4 : Inv X pins σ1 H1 { z with heap := g4 } := I1.landed nb fly4.1 ((up.trans up3).trans up4) os ag
          obtain ⟨oe4, fs4, there4, isZ4, dat4⟩ := fly4.there
          have Su4 := I4.suite there4 dat4 ne offLoc offFs
          refine store_ok (X := X.suite e ((e, oe4) :: (X.pn ++ pins))) (v := .ref e) Su4 hNd hj hlocal rfl (fun z5 Su5 => ?_) (Or.inr hkind)
          have ran := (hsuite e oe4 kl dd (X.pn ++ pins) isZ4 ⟨_, dat4⟩).run [] z5 _ H1 _ Su5 (hyes rfl e ne)
          refine wpAny_mono ran (fun fl z6 hz => ?_) fun _ _ hx => False.elim hx
          have forget : ∀ {σ6 : L2.St} {H6 : Hp} {R : Shared → Prop}, Inv (X.suite e ((e, oe4) :: (X.pn ++ pins))) [] σ6 H6 z6 → (∀ z7, Inv X pins (σ6.set j none) H6 z7 → R z7) → wpAny (model X.prog X.w) X.A (do bindName X.env nm .none; unbindBehindTheSuite X.env nm p2) (fun _ z7 => R z7) X.xe z6 := fun {σ6 H6 R} S6 hR => gone_ok (S6.unsuite okX) hNd hj hkind hR
          cases fl with
          | next => obtain ⟨σ6, H6, S6, q6⟩ := hz; exact forget S6 fun z7 I7 => ⟨_, _, I7, q6⟩
          | brk => obtain ⟨σ6, H6, S6, q6⟩ := hz; exact forget S6 fun z7 I7 => ⟨_, _, I7, q6⟩
          | cont => obtain ⟨σ6, H6, S6, q6⟩ := hz; exact forget S6 fun z7 I7 => ⟨_, _, I7, q6⟩
          | ret u => obtain ⟨v6, σ6, H6, S6, r6, q6⟩ := hz; exact forget S6 fun z7 I7 => ⟨_, _, _, I7, r6, q6⟩
    exact walk hcl hw
  have inside := (hbody (wClauses X.K j W0 D ws) (X.pn ++ pins) caught tkC PassesOwn.looking).run [] s0 σ H D (I.toTry _) hD
  refine wpAny_mono inside (fun fl z hz => ?_) fun _ _ he => he
  cases fl with
  | next => obtain ⟨σ1, H1, I1, q1⟩ := hz; exact wpAny_execs_nil ⟨σ1, H1, I1.ofTry okX, q1⟩
  | brk => obtain ⟨σ1, H1, I1, q1⟩ := hz; exact ⟨σ1, H1, I1.ofTry okX, q1⟩
  | cont => obtain ⟨σ1, H1, I1, q1⟩ := hz; exact ⟨σ1, H1, I1.ofTry okX, q1⟩
  | ret u => obtain ⟨v1, σ1, H1, I1, r1, q1⟩ := hz; exact ⟨v1, σ1, H1, I1.ofTry okX, r1, q1⟩
end
end TryAs
set_option maxRecDepth 100000
set_option maxHeartbeats 8000000
/-! d.items() of a dict from signs to numbers, and it sorted -/
namespace WS
open PySem PySem.Spec PyProof.Rows L2 L2.DX
def rItemsK : V → List V → Hp → VK → Prop := fun x xs H Q => ∃ (a : Addr) (kvs : List (Key × V)), x = .ref a ∧ xs = [] ∧ H a = some (.dK kvs) ∧ ∀ p, H p = none → Q (.ref p) (upd H p (itemsO p a))
section
variable {X : Cx}
theorem mt_itemsK : MtR X "dict.items" rItemsK := by
  intro pins s σ H x xs v us Q I rx rxs hq
  obtain ⟨a, kvs, rfl, rfl, ha, q⟩ := hq
  cases rx
  cases rxs
  obtain ⟨_, hsm, vs, _, ob, es, ep, hob, hex, hdat, _⟩ := dk_of I.hok ha
  refine DT.callItems (es := es) (ep := ep) hsm ⟨ob, hob, hex, hdat⟩ ?_
  have hn : H s.heap.objs.size = none := I.hok.fresh (Nat.le_refl _)
  refine ⟨.ref s.heap.objs.size, upd H s.heap.objs.size (itemsO s.heap.objs.size a), ?_, rfl, q _ hn⟩
  exact I.laid (t' := s.toks) (fun _ _ k => Heap.get?_push_of_some _ k) (Nat.le_refl _) (itemsO_ok (Heap.get?_push_size _ rfl))
end
theorem pairs_at {prog : Program} {w : World} : ∀ {es : List DictEntry} {vs : List (Key × Value)}, Pairs (mixKind prog w) es vs → ∀ (j : Nat) (e : DictEntry), es[j]? = some e → ∃ kv, vs[j]? = some kv ∧ keyIs kv.1 e.key = true ∧ e.val = kv.2
  | _, _, .nil, j, e, h => by simp at h
  | _, _, .cons h1 h2 r, 0, e, h => by
    cases Option.some.inj h
    exact ⟨_, rfl, h1, h2⟩
  | _, _, .cons h1 h2 r, j + 1, e, h => pairs_at r j e h
theorem kvs_at : ∀ {fg : Figs} {vs : List (Key × Value)}, KV (kvsF fg) vs → vs.length = fg.length ∧ ∀ (j : Nat) (p : Nat × Int), fg[j]? = some p → ∃ t, vs[j]? = some (Sum.inr ⟨#[p.1]⟩, .int p.2 t)
  | [], _, h => by
    cases h
    exact ⟨rfl, fun j p h => by simp at h⟩
  | p :: fg, _, h => by
    cases h with
    | @cons _ q _ qs h1 h2 =>
      obtain ⟨e1, ⟨t, e2⟩⟩ := h1
      obtain ⟨l, ih⟩ := kvs_at (fg := fg) h2
      refine ⟨by rw [List.length_cons, List.length_cons, l], fun j p' hj => ?_⟩
      cases j with
      | zero =>
        cases Option.some.inj hj
        refine ⟨t, ?_⟩
        show some q = _
        obtain ⟨k, v⟩ := q
        cases e1
        cases e2
        rfl
      | succ j => exact ih j p' hj
/-- sorted(d.items()), d from signs to numbers -/
def rSortItems : List V → Hp → VK → Prop := fun vs H Q => ∃ (p a : Addr) (fg : Figs), vs = [.ref p] ∧ H p = some (itemsO p a) ∧ H a = some (.dK (kvsF fg)) ∧ fg.length ≤ 1000 ∧
  ∀ (l : Addr) (H' : Hp) (ts : List Addr), H l = none → Same H H' → H' l = some (.lst (ts.map V.ref)) → PrAt H' ts (sortP fg) → Q (.ref l) H'
section
variable {X : Cx}
theorem cr_sortItems (hc : X.calm = true) (hu : X.A.units + 64 < cLine) : CallR X (.builtin "sorted") rSortItems := by
  intro pins s σ H xs us Q I r hq
  obtain ⟨p, a, fg, rfl, hp, ha, hl, q⟩ := hq
  obtain rfl := Vals.ref1 r
  have view : s.heap.IsItemsView p a := (show ObjOk X.prog X.w H s.heap p (itemsO p a) from I.hok p _ hp).1
  obtain ⟨_, _, vs, kv, ob, es, ep, hob, hex, hdat, _, hps, _⟩ := dk_of I.hok ha
  obtain ⟨hvl, hvs⟩ := kvs_at kv
  have hes : es.size = fg.length := by
    have := hps.length
    rw [Array.length_toList] at this
    omega
  refine DT.sortedI (es := es) (ep := ep) (I.ok.hd hc) view ⟨ob, hob, hex, hdat⟩ (by rw [sizeLine_eq]; omega) fun h' tk as hk hlt hal hG => ?_
  have lak : as.length = fg.length := by omega
  have nd : as.Nodup := hG.rise.imp fun h => Nat.ne_of_lt h
  have pr : ∀ (j : Nat) (b : Addr), as[j]? = some b → ∃ (c : Nat × Int) (t1 t2 : Tok), fg[j]? = some c ∧ h'.get? b = some { cls := .type "tuple", data := .seq #[.str ⟨#[c.1]⟩ t1, .int c.2 t2] } := by
    intro j b hj
    obtain ⟨en, he, hg⟩ := hG.pairs j b hj
    have hjl : j < fg.length := by rw [← lak]; exact (List.getElem?_eq_some_iff.mp hj).1
    have hc' : fg[j]? = some fg[j] := List.getElem?_eq_getElem hjl
    generalize fg[j] = c at hc'
    rw [← Array.getElem?_toList] at he
    obtain ⟨kv', e1, e2, e3⟩ := pairs_at hps j en he
    obtain ⟨t2, e4⟩ := hvs j c hc'
    cases Option.some.inj (e1.symm.trans e4)
    obtain ⟨t1, e5⟩ := Value.isStrOf_shape (show Value.isStrOf ⟨#[c.1]⟩ en.key = true from e2)
    refine ⟨c, t1, t2, hc', ?_⟩
    rw [hg, e5, e3]
  -- the sort itself
  have hob2 : (h'.push { cls := .type "list", data := .seq (as.map Value.ref).toArray }).get? h'.objs.size = some (seqObj "list" (as.map Value.ref).toArray 0) := Heap.get?_push_size _ rfl
  have ka : ∀ b o, h'.get? b = some o → (h'.push { cls := .type "list", data := .seq (as.map Value.ref).toArray }).get? b = some o := fun b o e => Heap.get?_push_of_some _ e
  have ne0 : ∀ b o, h'.get? b = some o → b ≠ h'.objs.size := fun b o e => Nat.ne_of_lt (Heap.lt_size e)
  generalize h'.push { cls := .type "list", data := .seq (as.map Value.ref).toArray } = h2 at hob2 ka ⊢
  have items : ∀ {as' : List Addr} {fg' : Figs}, as'.length = fg'.length → (∀ (j : Nat) (b : Addr) (c : Nat × Int), as'[j]? = some b → fg'[j]? = some c → ∃ t1 t2, h2.get? b = some { cls := .type "tuple", data := .seq #[.str ⟨#[c.1]⟩ t1, .int c.2 t2] }) →
      PySem.W.EachIs (fun v (b : Addr × Nat × Int) => v = .ref b.1) (as'.map Value.ref) (as'.zip fg') ∧ PySem.W.EachIs (fun v (b : Addr × Nat × Int) => ∃ ws, Reads h2 v (pairD b.2) ws ∧ h'.objs.size ∉ ws) (as'.map Value.ref) (as'.zip fg') := by
    intro as'
    induction as' with
    | nil => intro fg' hl _; exact ⟨.nil, .nil⟩
    | cons b as' ih =>
      intro fg' hl hx
      cases fg' with
      | nil => cases hl
      | cons c fg' =>
        obtain ⟨g1, g2⟩ := ih (fg' := fg') (by simpa using hl) fun j b' c' e1 e2 => hx (j + 1) b' c' e1 e2
        obtain ⟨t1, t2, hb⟩ := hx 0 b c rfl rfl
        refine ⟨.cons rfl g1, .cons ⟨[] ++ ([] ++ []), ?_, fun z => nomatch z⟩ g2⟩
        exact Reads.tuple hb rfl rfl (.cons (.str _ _) (.cons (.int _ _) .nil))
  obtain ⟨e0, e1⟩ := items lak fun j b c hj hc' => by
    obtain ⟨c2, t1, t2, h1, h2'⟩ := pr j b hj
    cases Option.some.inj (h1.symm.trans hc')
    exact ⟨t1, t2, ka _ _ h2'⟩
  have hzl : (as.zip fg).length = fg.length := by rw [List.length_zip, lak, Nat.min_self]
  refine PySem.W.list_sort_data (s := { s with heap := h2, toks := tk }) (enc := fun b : Addr × Nat × Int => pairD b.2) hob2 e0 e1 (PySem.W.AllAlike.of fun _ _ => rfl) (PySem.W.Sortable.tuples fun b => ⟨_, _, rfl⟩) (by rw [hzl]; exact line_of (by omega)) (fun b hb => ?_) fun out ho hout => ?_
  · show X.A.in1.units + 1 + 1 < cLine
    have : X.A.in1.units = X.A.units + 1 := rfl
    omega
  show EP X pins σ Q (.ref h'.objs.size) { s with heap := sortedHeap h2 h'.objs.size (as.map Value.ref) out.toArray, toks := tk }
  generalize hzs : (as.zip fg).mergeSort (PySem.W.dataLe false fun b : Addr × Nat × Int => pairD b.2) = zs at hout
  have hperm : zs.Perm (as.zip fg) := by rw [← hzs]; exact List.mergeSort_perm _ _
  have hsnd : zs.map (·.2) = sortP fg := by
    rw [← hzs]
    have e : ((as.zip fg).mergeSort (PySem.W.dataLe false fun b : Addr × Nat × Int => pairD b.2)).map (fun b => b.2) = ((as.zip fg).map fun b => b.2).mergeSort fun a b => PySem.W.dataLe false (id : PyData → PyData) (pairD a) (pairD b) := PySem.W.sort_maps (fun b : Addr × Nat × Int => b.2) fun _ _ _ _ => rfl
    rw [e, show (as.zip fg).map (fun b => b.2) = fg from List.map_snd_zip (by omega)] <;> rfl
  have hout2 : out = zs.map fun b => Value.ref b.1 := by
    clear ho hzs hperm hsnd
    induction hout with
    | nil => rfl
    | cons h1 _ ih => rw [List.map_cons, h1, ih]
  have kF : ∀ b o, b ≠ h'.objs.size → h2.get? b = some o → (sortedHeap h2 h'.objs.size (as.map Value.ref) out.toArray).get? b = some o := fun b o hb e => (PyProof.Rows.sortedHeap_old hb (Heap.lt_size e)).trans e
  have kS : ∀ b o, s.heap.get? b = some o → (sortedHeap h2 h'.objs.size (as.map Value.ref) out.toArray).get? b = some o := fun b o e => kF b o (ne0 _ _ (hk b o e)) (ka b o (hk b o e))
  obtain ⟨eF, heF⟩ := PyProof.Rows.sortedHeap_at (vs := as.map Value.ref) (out := out.toArray) hob2
  generalize sortedHeap h2 h'.objs.size (as.map Value.ref) out.toArray = hF at kF kS heF ⊢
  have J1 : Inv X pins σ H { s with heap := hF, toks := tk } := I.kept (t' := tk) kS
  have hL0 : H h'.objs.size = none := I.hok.fresh (Nat.le_of_lt hlt)
  have hzlen : zs.length = fg.length := by rw [hperm.length_eq, hzl]
  have rvs : Vals (zs.map fun b => V.ref b.1) out := by
    rw [hout2]
    clear hout hout2 ho heF hzs hperm hsnd hzlen
    induction zs with
    | nil => exact .nil
    | cons b r ih => exact .cons rfl ih
  have J2 : Inv X pins σ (upd H h'.objs.size (.lst (zs.map fun b => V.ref b.1))) { s with heap := hF, toks := tk } :=
    J1.take (h' := hF) (t' := tk) (fun b ob _ e => e) (I.fpOk (Nat.le_of_lt hlt) hL0) ⟨by rw [List.length_map, hzlen]; exact line_of (by omega), out, eF, rvs, heF⟩
  obtain ⟨H2, J3, g, qt⟩ := takeT (P := fun b vs => ∃ (j : Nat) (c : Nat × Int), as[j]? = some b ∧ fg[j]? = some c ∧ vs = [sg c.1, V.int c.2]) I as _ J2 nd fun b hb => by
    obtain ⟨j, hj⟩ := List.mem_iff_getElem?.mp hb
    obtain ⟨c, t1, t2, h1, h3⟩ := pr j b hj
    have hbl : s.heap.objs.size ≤ b := Nat.le_of_lt (hG.above b hb)
    refine ⟨hbl, ?_, [sg c.1, V.int c.2], ⟨j, c, hj, h1, rfl⟩, fun H3 => ⟨by rw [sizeLine_eq]; show 2 ≤ 16777216; omega, [_, _], .cons ⟨t1, rfl⟩ (.cons ⟨t2, rfl⟩ .nil), ⟨_, kF _ _ (ne0 _ _ h3) (ka _ _ h3), rfl, 0, rfl⟩⟩⟩
    rw [upd_ne (ne0 _ _ h3)]
    exact I.hok.fresh hbl
  refine ⟨.ref h'.objs.size, H2, J3, rfl, q _ H2 (zs.map (·.1)) hL0 (fun b o e => g b o ((upd_ne (ne_of_none e hL0)).trans e)) ?_ ?_⟩
  · rw [List.map_map]
    exact g _ _ upd_same
  · rw [← hsnd]
    refine ⟨by rw [List.length_map, List.length_map], fun i t p' e1 e2 => ?_⟩
    rw [List.getElem?_map] at e1 e2
    cases ez : zs[i]? with
    | none => rw [ez] at e1; cases e1
    | some z =>
      rw [ez] at e1 e2
      cases Option.some.inj e1
      cases Option.some.inj e2
      have hzm := hperm.subset (List.mem_of_getElem? ez)
      obtain ⟨j, hj⟩ := List.mem_iff_getElem?.mp hzm
      rw [List.getElem?_zip_eq_some] at hj
      obtain ⟨vs', ⟨j2, c2, k1, k2, rfl⟩, k3⟩ := qt z.1 (List.mem_of_getElem? hj.1)
      obtain ⟨hj1, ej1⟩ := List.getElem?_eq_some_iff.mp hj.1
      obtain ⟨hj2, ej2⟩ := List.getElem?_eq_some_iff.mp k1
      have : j = j2 := (List.getElem_inj (h₀ := hj1) (h₁ := hj2) nd).mp (ej1.trans ej2.symm)
      subst this
      cases Option.some.inj (hj.2.symm.trans k2)
      exact k3
end
end WS
set_option maxRecDepth 100000
set_option maxHeartbeats 8000000
namespace WS
open PySem L2 SetT RevS
def spTable (CS : Addr) : Sp := fun vs H Q _ => ∃ (sh : Addr) (b : Int) (kl : Addr) (ts : List Addr) (ss : List WSum), vs = [.ref sh] ∧ ShAt CS H sh b kl ts ∧ SumsAt H ts ss ∧ Valid b ss ∧ (answersOf b ss).length ≤ 900000 ∧
  ∀ v H', Same H H' → TreeAt H' v (tableOf b ss) → Q v H'
section
variable {P : Program} {w : World} {K : PySem.W.Frag} {mg : Str → Option Value} {base : Heap}
theorem scTable : FnScope ["sheet"] ["sheet"] (defScope sTable) := ⟨rfl, rfl, rfl, by decide +kernel, rfl, by decide +kernel, by decide +kernel⟩
theorem ok_table {f CS fT : Addr} {fd fdT : FuncData} (F : Fun K "table_of" "table_of" sTable f fd) (S_read_through : Site K mg "read_through" fT fdT ["sheet"]) (G_read_through : FnOk P w K mg base CX0 192 fT fdT ["sheet"] (spThrough CS)) :
    FnOk P w K mg base CX0 193 f fd ["sheet"] (spTable CS) := by
  refine F.ok scTable (fun vs H Q E h => ?_) (fun cdv A outer s H vs Q E hr h => ?_)
  · obtain ⟨sh, b, kl, ts, ss, rfl, _⟩ := h
    rfl
  · obtain ⟨sh, b, kl, ts, ss, rfl, A', hsa, V', hsm, k⟩ := h
    have hr_read_through := hr
    refine ⟨_, (pss_one (ps_ret (pe_ix (r := rIxT K) ix_tup (pe_call G_read_through hr_read_through (by rfl) S_read_through.g S_read_through.k S_read_through.b .nil pass0 (pa_cons (pv 0) pa_nil)) pe_int (fun _ _ => rfl)))), ?_⟩
    refine ⟨_, rfl, sh, b, kl, ts, ss, rfl, A', hsa, V', hsm, fun q v fo rs H' hq hfo s1 hq1 hfo1 ht ha => ?_⟩
    exact ⟨q, _, 0, _, rfl, rfl, SqT.of hq1, at_of (j := 0) rfl rfl, k v H' s1 ht⟩
end
end WS
set_option maxRecDepth 100000
set_option maxHeartbeats 8000000
namespace WS
open PySem L2 SetT RevS
def spAnswers (CS : Addr) : Sp := fun vs H Q _ => ∃ (sh : Addr) (b : Int) (kl : Addr) (ts : List Addr) (ss : List WSum), vs = [.ref sh] ∧ ShAt CS H sh b kl ts ∧ SumsAt H ts ss ∧ Valid b ss ∧ (answersOf b ss).length ≤ 900000 ∧
  ∀ fo rs H', H fo = none → Same H H' → H' fo = some (.lst (rs.map V.ref)) → AnsAt H' rs (answersOf b ss) → Q (.ref fo) H'
section
variable {P : Program} {w : World} {K : PySem.W.Frag} {mg : Str → Option Value} {base : Heap}
theorem scAnswers : FnScope ["sheet"] ["sheet"] (defScope sAnswers) := ⟨rfl, rfl, rfl, by decide +kernel, rfl, by decide +kernel, by decide +kernel⟩
theorem ok_answers {f CS fT : Addr} {fd fdT : FuncData} (F : Fun K "answers" "answers" sAnswers f fd) (S_read_through : Site K mg "read_through" fT fdT ["sheet"]) (G_read_through : FnOk P w K mg base CX0 192 fT fdT ["sheet"] (spThrough CS)) :
    FnOk P w K mg base CX0 193 f fd ["sheet"] (spAnswers CS) := by
  refine F.ok scAnswers (fun vs H Q E h => ?_) (fun cdv A outer s H vs Q E hr h => ?_)
  · obtain ⟨sh, b, kl, ts, ss, rfl, _⟩ := h
    rfl
  · obtain ⟨sh, b, kl, ts, ss, rfl, A', hsa, V', hsm, k⟩ := h
    have hr_read_through := hr
    refine ⟨_, (pss_one (ps_ret (pe_ix (r := rIxT K) ix_tup (pe_call G_read_through hr_read_through (by rfl) S_read_through.g S_read_through.k S_read_through.b .nil pass0 (pa_cons (pv 0) pa_nil)) pe_int (fun _ _ => rfl)))), ?_⟩
    refine ⟨_, rfl, sh, b, kl, ts, ss, rfl, A', hsa, V', hsm, fun q v fo rs H' hq hfo s1 hq1 hfo1 ht ha => ?_⟩
    exact ⟨q, _, 1, _, rfl, rfl, SqT.of hq1, at_of (j := 1) rfl rfl, k fo rs H' hfo s1 hfo1 ha⟩
end
end WS
set_option maxRecDepth 100000
set_option maxHeartbeats 4000000
namespace WS
open PySem L2
/-- a comprehension within a comprehension's block -/
theorem blkOk_in {N : List Str} {sc scope1 scope : Scope} {env : Env} {cl : List (Str × Addr)} {C : Addr} {own : List (Str × Nat)} (hs : env.scope = sc) (h : blkC N (relS scope1 sc) scope own = true) : BlkOk N (compEnvC scope1 cl C env).scope scope own := by
  subst hs
  exact blkOk_by h
theorem boot_all : bootBuiltins "all" = some (.builtin "all") := by decide +kernel
theorem boot_max : bootBuiltins "max" = some (.builtin "max") := by decide +kernel
theorem boot_sum : bootBuiltins "sum" = some (.builtin "sum") := by decide +kernel
end WS
set_option maxRecDepth 100000
set_option maxHeartbeats 8000000
namespace WS
open PySem L2 SetT RevS
def spHaving : Sp := fun vs H Q _ => ∃ (fo lp d : Addr) (rs : List Addr) (as : List (List Int)) (L : List Nat) (kf : Figs), vs = [.ref fo, .ref lp, .ref d] ∧ H fo = some (.lst (rs.map V.ref)) ∧ AnsAt H rs as ∧ H lp = some (.lst (L.map sg)) ∧ H d = some (.dK (kvsF kf)) ∧
  L.length ≤ 100 ∧ as.length ≤ 900000 ∧ (∀ x ∈ as, x.length = L.length) ∧
  ∀ q rs' H', H q = none → Same H H' → H' q = some (.lst (rs'.map V.ref)) → AnsAt H' rs' (havingOf L kf as) → Q (.ref q) H'
section
variable {P : Program} {w : World} {K : PySem.W.Frag} {mg : Str → Option Value} {base : Heap}
theorem scHaving : FnScope ["told", "letters", "known", "asked", "place", "letter", "answer", "figure"] ["told", "letters", "known"] (defScope sHaving) := ⟨rfl, rfl, rfl, by decide +kernel, rfl, by decide +kernel, by decide +kernel⟩
theorem ok_having {f : Addr} {fd : FuncData} (F : Fun K "having" "having" sHaving f fd) (z_enumerate : mg "enumerate" = none) (z_all : mg "all" = none) :
    FnOk P w K mg base CX0 1 f fd ["told", "letters", "known"] spHaving := by
  refine F.ok scHaving (fun vs H Q E h => ?_) (fun cdv A outer s H vs Q E hr h => ?_)
  · obtain ⟨fo, lp, d, rs, as, L, kf, rfl, _⟩ := h
    rfl
  · obtain ⟨fo, lp, d, rs, as, L, kf, rfl, hfo, ha, hlp, hd, hL, hn, hx, k⟩ := h
    have nd := scHaving.nd
    have hu := hu_of hr
    refine ⟨_, (pss_cons (ps_set (i := 3) nd rfl (.inr rfl) (pe_lc (own := [("place", 4), ("letter", 5)]) (g := (gTup K 2 (gCons (gName 4) (gCons (gName 5) gNil))))  rfl nd (pi_enum (by rfl) z_enumerate (pa_cons (pv 1) pa_nil)) (blkOk_by (own := [("place", 4), ("letter", 5)]) (N := ["told", "letters", "known", "asked", "place", "letter", "answer", "figure"]) (sc := defScope sHaving) (by decide +kernel)) (fun _ _ _ _ _ => (pg_tup rfl (pgs_cons (pg_name (i := 4) nd rfl (.inl rfl)) (pgs_cons (pg_name (i := 5) nd rfl (.inl rfl)) pgs_nil)))) (fun _ _ _ _ _ => pts_one (pt_cmp (pc_din hu (pv 5) (pv 2)))) (fun _ _ _ _ _ => (pe_tup (pa_cons (pv 4) (pa_cons (pe_dget hu (pv 2) (pv 5) (fun _ _ => rfl)) pa_nil))))))
      (pss_one (ps_ret (pe_lc (own := [("answer", 6)]) (g := (gName 6))  rfl nd (pi_list (pv 0)) (blkOk_by (own := [("answer", 6)]) (N := ["told", "letters", "known", "asked", "place", "letter", "answer", "figure"]) (sc := defScope sHaving) (by decide +kernel)) (fun _ _ _ _ _ => (pg_name (i := 6) nd rfl (.inr rfl))) (fun _ _ _ _ _ => pts_one (pt_val (pe_callB (r := rAll K) (cr_all rfl) (by rfl) z_all WS.boot_all (pa_cons (pe_lc (own := [("place", 4), ("figure", 7)]) (g := (gTup K 2 (gCons (gName 4) (gCons (gName 7) gNil)))) (tt := tYes) rfl nd (show PI _ _ _ (iList K _) from pi_list (pv 3)) (blkOk_in (own := [("place", 4), ("figure", 7)]) (N := ["told", "letters", "known", "asked", "place", "letter", "answer", "figure"]) (sc := defScope sHaving) rfl (by decide +kernel)) (fun _ _ _ _ _ => (pg_tup rfl (pgs_cons (pg_name (i := 4) nd rfl (.inl rfl)) (pgs_cons (pg_name (i := 7) nd rfl (.inl rfl)) pgs_nil)))) (fun _ _ _ _ _ => pts_nil) (fun _ _ _ _ _ => (pe_cmpR op_eq (pe_ix (r := rIxT K) ix_tup (pv 6) (pv 4) (fun _ _ => rfl)) (pv 7) (nomark _)))) pa_nil)))) (fun _ _ _ _ _ => (pv 6)))))), ?_⟩
    refine ⟨_, rfl, lp, _, rfl, SqL.of hlp, fun D hD => ?_⟩
    refine lc_it (walk_enum (xs := L.map sg)) (fun j H4 => ∃ ps, Same H H4 ∧ H4 D = some (.lst (ps.map V.ref)) ∧ AnsAt H4 ps ((askedUp L kf j).map rowQ))
      ⟨[], Same.new hD, upd_same, AnsAt.nil⟩ (fun j H4 _ ⟨_, s4, _⟩ => SqL.of (s4 _ _ hlp)) ?_ ?_
    · rintro j x H4 H5 hj ⟨ps, s4, hD4, hps⟩ ⟨T, x1, x2, rfl, hT, rfl, e1, e2⟩
      rw [List.length_map] at hj
      have e1' : x1 = .int (j : Nat) := (Option.some.inj e1).symm
      subst e1'
      have hc : L[j]? = some L[j] := List.getElem?_eq_getElem hj
      generalize hcg : L[j] = c at hc
      have e2' : x2 = sg c := by
        have e3 : (L.map sg)[j]? = some x2 := e2
        rw [List.getElem?_map, hc] at e3
        exact (Option.some.inj e3).symm
      subst e2'
      have s5 : Same H4 (upd H4 T (.tup [.int (j : Nat), sg c])) := Same.new hT
      have hT5 : (upd H4 T (.tup [.int (j : Nat), sg c])) T = some (.tup [.int (j : Nat), sg c]) := upd_same
      generalize upd H4 T (.tup [.int (j : Nat), sg c]) = H5 at s5 hT5
      have hd5 := s5 _ _ (s4 _ _ hd)
      have hD5 := s5 _ _ hD4
      have hps5 := hps.same s5
      refine ⟨T, _, rfl, SqT.of hT5, rfl, _, _, rfl, _, _, rfl, rfl, rfl, ?_⟩
      refine ⟨_, rfl, _, rfl, d, _, rfl, DGet.k (k := Sum.inr ⟨#[c]⟩) hd5, ?_⟩
      by_cases hk : c ∈ keysF kf
      · rw [kvsF_some hk]
        refine ⟨_, rfl, ?_⟩
        refine ⟨_, rfl, _, rfl, _, rfl, d, .int (figAt kf c), rfl, (kvsF_some hk) ▸ DGet.k (k := Sum.inr ⟨#[c]⟩) hd5, by show 2 ≤ sizeLine; decide, fun r hr0 => ?_⟩
        have s6 : Same H5 (upd H5 r (.tup [.int (j : Nat), .int (figAt kf c)])) := Same.new hr0
        have hr6 : (upd H5 r (.tup [.int (j : Nat), .int (figAt kf c)])) r = some (.tup ((rowQ (j, figAt kf c)).map V.int)) := upd_same
        generalize upd H5 r (.tup [.int (j : Nat), .int (figAt kf c)]) = H6 at s6 hr6
        refine ⟨_, s6 _ _ hD5, ?_, ps ++ [r], ?_, ?_, ?_⟩
        · rw [List.length_map, hps.len, List.length_map]
          have := askedUp_len L kf j
          exact line_lt (by omega)
        · exact Same.mut (s4.trans (s5.trans s6)) hD
        · rw [upd_same, List.map_append] <;> rfl
        · rw [askedUp_succ hc, if_pos hk, List.map_append]
          exact ((hps5.same s6).append (AnsAt.one hr6)).mut But.upd ⟨_, s6 _ _ hD5⟩
      · rw [kvsF_none hk]
        refine ⟨_, rfl, ?_⟩
        refine ⟨ps, s4.trans s5, hD5, ?_⟩
        rw [askedUp_succ hc, if_neg hk, List.append_nil]
        exact hps5
    · rintro H4 ⟨ps, s4, hD4, hps⟩
      rw [List.length_map] at hps
      have hqs : ∀ p ∈ askedOf L kf, p.1 < L.length := fun p hp => (askedUp_lt hp).1
      have hql : (askedOf L kf).length ≤ 100 := Nat.le_trans (askedUp_len _ _ _) hL
      have hps : AnsAt H4 ps ((askedOf L kf).map rowQ) := hps
      unfold havingOf at k
      generalize askedOf L kf = qs at hqs hql hps k
      have hfo4 := s4 _ _ hfo
      refine ⟨_, rfl, fo, rfl, ⟨_, SqL.of hfo4⟩, fun D2 hD2 => ?_⟩
      have hD2' : H D2 = none := Same.free s4 hD2
      refine lc_list (K := K) (a := fo) (xs := rs.map V.ref) (fun i H5 => ∃ rs', Same H4 H5 ∧ H5 D2 = some (.lst (rs'.map V.ref)) ∧ AnsAt H5 rs' ((as.take i).filter (agreesQ qs)))
        ⟨[], Same.new hD2, upd_same, AnsAt.nil⟩ (fun i H5 _ ⟨_, s5, _⟩ => SqL.of (s5 _ _ hfo4)) ?_ ?_
      · rintro i y H5 hi ⟨rs', s5, hD5, hrs'⟩
        obtain ⟨r, hr', rfl⟩ := refs_at hi
        have hil : i < rs.length := (List.getElem?_eq_some_iff.mp hr').1
        have hia : i < as.length := ha.len ▸ hil
        have hxi : as[i]? = some as[i] := List.getElem?_eq_getElem hia
        generalize hxg : as[i] = x at hxi
        have hxl := hx x (List.mem_of_getElem? hxi)
        have hrx := ha.get i r x hr' hxi
        have hrx5 := s5 _ _ (s4 _ _ hrx)
        have hDp5 := s5 _ _ hD4
        refine ⟨rfl, _, rfl, D, rfl, ⟨_, SqL.of hDp5⟩, fun D3 hD3 => ?_⟩
        have hDD3 := ne_of_none hDp5 hD3
        have hrD3 := ne_of_none hrx5 hD3
        have s6 : Same H5 (upd H5 D3 (.lst ((qs.map fun p => decide (x[p.1]? = some p.2)).map V.bl))) := Same.new hD3
        refine lc_list (K := K) (a := D) (xs := ps.map V.ref) (fun m H6 => H6 = upd H5 D3 (.lst (((qs.take m).map fun p => decide (x[p.1]? = some p.2)).map V.bl))) rfl
          (fun m H6 _ e => by rw [e]; exact SqL.of ((upd_ne hDD3).trans hDp5)) ?_ ?_
        · rintro m y H6 hm rfl
          obtain ⟨q, hq, rfl⟩ := refs_at hm
          have hml : m < ps.length := (List.getElem?_eq_some_iff.mp hq).1
          have hmq : m < qs.length := by have := hps.len; rw [List.length_map] at this; omega
          have hpm : qs[m]? = some qs[m] := List.getElem?_eq_getElem hmq
          generalize hpg : qs[m] = p at hpm
          have hpl := hqs p (List.mem_of_getElem? hpm)
          have hqt : H4 q = some (.tup [V.int (p.1 : Nat), V.int p.2]) := hps.get m q (rowQ p) hq (by rw [List.getElem?_map, hpm] <;> rfl)
          have hqt5 := s5 _ _ hqt
          have hqD3 := ne_of_none hqt5 hD3
          have hv : x[p.1]? = some x[p.1] := List.getElem?_eq_getElem (by omega)
          generalize hvg : x[p.1]'(by omega) = v at hv
          refine ⟨q, _, rfl, SqT.of ((upd_ne hqD3).trans hqt5), rfl, _, _, rfl, _, _, rfl, rfl, rfl, ?_⟩
          refine ⟨_, rfl, _, rfl, r, _, (p.1 : Int), .int v, rfl, rfl, SqT.of ((upd_ne hrD3).trans hrx5), at_of (j := p.1) rfl (by rw [List.getElem?_map, hv] <;> rfl), _, rfl, rfl, _, upd_same, ?_, ?_⟩
          · rw [List.length_map, List.length_map, List.length_take]
            exact line_lt (by omega)
          · have e : ((qs.take (m + 1)).map fun p => decide (x[p.1]? = some p.2)).map V.bl = ((qs.take m).map fun p => decide (x[p.1]? = some p.2)).map V.bl ++ [V.bl (decide (V.int v = V.int p.2))] := by
              rw [take_snoc hpm, List.map_append, List.map_append, List.map_cons, List.map_nil, hv]
              have : decide (some v = some p.2) = decide (V.int v = V.int p.2) := by
                by_cases e : v = p.2
                · rw [decide_eq_true (congrArg some e), decide_eq_true (congrArg V.int e)]
                · rw [decide_eq_false fun h => e (Option.some.inj h), decide_eq_false fun h => e (V.int.inj h)]
              rw [this] <;> rfl
            rw [upd_upd, e]
        · rintro H6 rfl
          have e0 : (qs.take (ps.map V.ref).length) = qs := by
            have := hps.len
            rw [List.length_map] at this
            rw [List.length_map, this, List.take_length]
          rw [e0]
          refine ⟨D3, _, rfl, SqL.of upd_same, ?_⟩
          have hb : (qs.map fun p => decide (x[p.1]? = some p.2)).all id = agreesQ qs x := by
            unfold agreesQ
            rw [List.all_map] <;> rfl
          rw [hb]
          have hD6 := s6 _ _ hD5
          have hrs6 := hrs'.same s6
          have hrx6 := s6 _ _ hrx5
          have hle := List.length_filter_le (agreesQ qs) (as.take i)
          rw [List.length_take] at hle
          generalize upd H5 D3 (.lst ((qs.map fun p => decide (x[p.1]? = some p.2)).map V.bl)) = H6 at s6 hD6 hrs6 hrx6 ⊢
          cases hag : agreesQ qs x
          · refine ⟨_, rfl, ?_⟩
            refine ⟨rs', s5.trans s6, hD6, ?_⟩
            rw [take_snoc hxi, List.filter_append, List.filter_cons, hag]
            simpa using hrs6
          · refine ⟨_, rfl, ?_⟩
            refine ⟨_, rfl, _, hD6, ?_, rs' ++ [r], ?_, ?_, ?_⟩
            · rw [List.length_map, hrs'.len]
              exact line_lt (by omega)
            · exact Same.mut (s5.trans s6) hD2
            · rw [upd_same, List.map_append] <;> rfl
            · rw [take_snoc hxi, List.filter_append, List.filter_cons, hag]
              exact (hrs6.append (AnsAt.one hrx6)).mut But.upd ⟨_, hD6⟩
      · rintro H5 ⟨rs', s5, hD5, hrs'⟩
        rw [List.length_map, ha.len, List.take_length] at hrs'
        exact k D2 rs' H5 hD2' (s4.trans s5) hD5 hrs'
end
end WS
set_option maxRecDepth 100000
set_option maxHeartbeats 8000000
namespace WS
open PySem L2 SetT RevS
def spGivens (CS : Addr) : Sp := fun vs H Q _ => ∃ (sh xa : Addr) (b : Int) (kl : Addr) (ts : List Addr) (ss : List WSum) (x : List Int), vs = [.ref sh, .ref xa] ∧ ShAt CS H sh b kl ts ∧ SumsAt H ts ss ∧ Valid b ss ∧ (answersOf b ss).length ≤ 900000 ∧ H xa = some (.tup (x.map V.int)) ∧ x ∈ answersOf b ss ∧
  ∀ q H', H q = none → Same H H' → H' q = some (.lst ((givensOf (lettersOf ss) (answersOf b ss) x).map sg)) → Q (.ref q) H'
section
variable {P : Program} {w : World} {K : PySem.W.Frag} {mg : Str → Option Value} {base : Heap}
theorem scGivens : FnScope ["sheet", "answer", "letters", "told", "given", "letter", "fewer", "other"] ["sheet", "answer"] (defScope sGivens) := ⟨rfl, rfl, rfl, by decide +kernel, rfl, by decide +kernel, by decide +kernel⟩
theorem ok_givens {f CS fL fA fH : Addr} {fd fdL fdA fdH : FuncData} (F : Fun K "givens" "givens" sGivens f fd) (TS : SheetTxt K mg CS) (z_dict : mg "dict" = none) (z_zip : mg "zip" = none) (z_reversed : mg "reversed" = none) (z_len : mg "len" = none) (z_list : mg "list" = none)
    (ML : Meth K CS "letters" fL) (bL : Binds K fdL ["self"] []) (GL : FnOk P w K mg base CX0 3 fL fdL ["self"] (spShLetters CS))
    (S_answers : Site K mg "answers" fA fdA ["sheet"]) (G_answers : FnOk P w K mg base CX0 193 fA fdA ["sheet"] (spAnswers CS))
    (S_having : Site K mg "having" fH fdH ["told", "letters", "known"]) (G_having : FnOk P w K mg base CX0 1 fH fdH ["told", "letters", "known"] spHaving) :
    FnOk P w K mg base CX0 194 f fd ["sheet", "answer"] (spGivens CS) := by
  refine F.ok scGivens (fun vs H Q E h => ?_) (fun cdv A outer s H vs Q E hr h => ?_)
  · obtain ⟨sh, xa, b, kl, ts, ss, x, rfl, _⟩ := h
    rfl
  · obtain ⟨sh, xa, b, kl, ts, ss, x, rfl, hsh, hsa, V', hfd, hxa, hxm, k⟩ := h
    have nd := scGivens.nd
    have hu := hu_of hr
    have hu65 : (A.deeper (PyProof.Rows.envOfC "givens" (defScope sGivens) s.heap.objs.size f cdv)).units + 65 < cLine := by have := hr.un; omega
    have hr_answers : Room 193 _ := hr
    have hr_having : Room 1 _ := hr.mono (by decide)
    have hr_letters : Room 3 _ := hr.mono (by decide)
    refine ⟨_, (pss_cons (ps_set (i := 2) nd rfl (.inl rfl) (pe_meth0 (pv 0) TS.cl ML GL hr_letters bL .nil pass0))
      (pss_cons (ps_set (i := 3) nd rfl (.inl rfl) (pe_call G_answers hr_answers (by rfl) S_answers.g S_answers.k S_answers.b .nil pass0 (pa_cons (pv 0) pa_nil)))
      (pss_cons (ps_if (pt_cmpR (op_notInD hu65) (pv 1) (pv 3) (by rfl)) (pss_one ps_never) pss_nil)
      (pss_cons (ps_set (i := 4) nd rfl (.inr rfl) (DZip.pe_dictZip rfl (by rfl) z_dict (by rfl) z_zip (pa_cons (pv 2) (pa_cons (pv 1) pa_nil))))
      (pss_cons (ps_for PassesOwn.never rfl (pi_reversed (by rfl) z_reversed (pa_cons (pv 2) pa_nil)) (pg_name (i := 5) nd rfl (.inr rfl)) (pss_cons (ps_lock (DcR.ps_setDc (i := 6) (own := [("other", 7)]) (g := (gName 7))  rfl nd rfl rfl (DcR.sw_dc rfl rfl rfl (by decide +kernel)) (pi_keys (pv 4)) (blkOk_by (own := [("other", 7)]) (N := ["sheet", "answer", "letters", "told", "given", "letter", "fewer", "other"]) (sc := defScope sGivens) (by decide +kernel)) (fun _ _ _ _ _ => (pg_name (i := 7) nd rfl (.inl rfl))) (fun _ _ _ _ _ => pts_one (pt_cmpR op_ne (pv 7) (pv 5) (nomark _))) (fun _ _ _ _ _ => (pv 7)) (fun _ _ _ _ _ => (pe_dget hu (pv 4) (pv 7) (fun _ _ => rfl)))))
      (pss_one (ps_if (pt_cmpR op_eq (pe_callB call_len_seq (by rfl) z_len PySem.boot_len (pa_cons (pe_call G_having hr_having (by rfl) S_having.g S_having.k S_having.b .nil pass0 (pa_cons (pv 3) (pa_cons (pv 2) (pa_cons (pv 6) pa_nil)))) pa_nil)) pe_int (nomark _)) (pss_one (ps_set (i := 4) nd rfl (.inr rfl) (pv 6))) pss_nil))))
      (pss_one (ps_ret (pe_callTy (call_list_dK rfl) (by rfl) z_list (by decide +kernel) (pa_cons (pv 4) pa_nil))))))))), ?_⟩
    obtain ⟨⟨dxs, hshi⟩, hkl⟩ := id hsh
    refine ⟨_, rfl, sh, dxs, _, rfl, hshi, flds_no _ _ (by decide +kernel) (by decide +kernel), sh, b, kl, ts, ss, rfl, hsh, hsa, V', fun ol H1 hol s1 hol1 => ?_⟩
    refine ⟨_, rfl, sh, b, kl, ts, ss, rfl, hsh.same s1, hsa.same s1, V', hfd, fun fo rs H2 hfo s2 hfo2 ha => ?_⟩
    have s02 := s1.trans s2
    have hL8 := (lettersOf_le V').2
    have hN : (lettersOf ss).Nodup := dd_nodup _
    have hxl : ∀ x ∈ answersOf b ss, x.length = (lettersOf ss).length := fun x hx => (ans_row V' hx).1
    have hx0 := hxl x hxm
    have hol2 := s2 _ _ hol1
    have hxa2 := s02 _ _ hxa
    generalize answersOf b ss = B at hfd hxm hxl ha k
    generalize lettersOf ss = L at hL8 hN hxl hx0 k hol2
    refine ⟨_, rfl, _, rfl, rowD x, B.map rowD, dp_row hxa2, dp_ans hfo2 ha, shaped_row _, shaped_ans _, _, rfl, ?_⟩
    rw [in_ans, decide_eq_true hxm]
    refine iteF ?_
    refine ⟨_, rfl, _, rfl, ol, xa, L.map (fun c => (Sum.inr ⟨#[c]⟩ : Key)), x.map V.int, rfl, SqL.of (by rw [List.map_map]; exact hol2), SqT.of hxa2, by rw [List.length_map, List.length_map, hx0], fun gd0 hgd0 => ?_⟩
    have hmg : mergeK [] ((L.map (fun c => (Sum.inr ⟨#[c]⟩ : Key))).zip (x.map V.int)) = kvsF (L.zip x) := by
      have e1 : (L.map (fun c => (Sum.inr ⟨#[c]⟩ : Key))).zip (x.map V.int) = kvsF (L.zip x) := by
        rw [List.zip_map]
        rfl
      rw [e1]
      exact merge_figs (acc := []) (by show (keysF (L.zip x)).Nodup; rw [keysF_zip (by omega)]; exact hN)
    rw [hmg]
    refine ⟨_, rfl, ol, _, rfl, SqL.of ((upd_ne (ne_of_none hol2 hgd0)).trans hol2), for_it walk_rev (fun i σ H4 => ∃ gd v5 v6, σ = [some (.ref sh), some (.ref xa), some (.ref ol), some (.ref fo), some (.ref gd), v5, v6, none] ∧ Same H2 H4 ∧ H4 gd = some (.dK (kvsF (givF L B x i))))
      ⟨gd0, none, none, rfl, Same.new hgd0, upd_same⟩ (fun i σ H4 _ ⟨_, _, _, _, s4, _⟩ => SqL.of (s4 _ _ hol2)) ?_ ?_⟩
    · rintro i y σ H4 H5 hi ⟨gd, v5, v6, rfl, s4, hgd⟩ ⟨rfl, hy⟩
      rw [List.length_map] at hi hy
      have hcr : L.reverse[i]? = some (L.reverse[i]'(by rw [List.length_reverse]; exact hi)) := List.getElem?_eq_getElem _
      generalize L.reverse[i]'(by rw [List.length_reverse]; exact hi) = c at hcr
      have hyc : y = sg c := by
        rw [List.getElem?_map] at hy
        rw [List.getElem?_reverse hi] at hcr
        rw [hcr] at hy
        exact (Option.some.inj hy).symm
      subst hyc
      rw [givF_succ hcr]
      have hkN : (keysF (givF L B x i)).Nodup := givF_nodup hN hx0.symm (Nat.le_of_lt hi)
      have hkl8 : (givF L B x i).length ≤ L.length := givF_len (Nat.le_of_lt hi)
      generalize givF L B x i = kf at hgd hkN hkl8
      refine ⟨gd, _, hgd, trivial, fun od => ⟨_, rfl, gd, od, rfl, .inl ⟨_, upd_same, fun D hD => ?_⟩⟩⟩
      have hgD : gd ≠ D := fun e => by rw [← e, upd_same] at hD; cases hD
      have hD0 : H5 D = none := by rw [upd_ne (Ne.symm hgD)] at hD; exact hD
      refine dc_walk walk_keys (fun j H6 => H6 = upd (upd H5 gd (.frz od (.dK (kvsF kf)))) D (.dK (kvsF (withoutF (kf.take j) c)))) rfl (fun j H6 _ e => by rw [e]; exact (upd_ne hgD).trans upd_same) ?_ ?_
      · rintro j x' H6 H7 hj rfl ⟨rfl, ky, y, hky, rfl⟩
        obtain ⟨c', v, hcv, rfl, rfl⟩ := kvsF_at hky
        have hv := figAt_mem hkN (List.mem_of_getElem? hcv)
        have hg := kvsF_some (fg := kf) (c := c') (List.mem_map.mpr ⟨(c', v), List.mem_of_getElem? hcv, rfl⟩)
        rw [hv] at hg
        refine ⟨rfl, _, rfl, _, rfl, rfl, _, rfl, ?_⟩
        rw [without_take hcv]
        by_cases e : c' = c
        · subst e
          rw [decide_eq_true (show kV (Sum.inr ⟨#[c']⟩ : Key) = sg c' from rfl), if_pos rfl, List.append_nil]
          exact iteF rfl
        · have hne : ¬ (kV (Sum.inr ⟨#[c']⟩ : Key) = sg c) := fun h => e (kv_inj (V.str.inj h))
          rw [decide_eq_false hne, if_neg e]
          refine iteT ⟨_, rfl, _, rfl, _, rfl, gd, .int v, rfl, .inl ⟨_, Sum.inr ⟨#[c']⟩, .inr ⟨od, (upd_ne hgD).trans upd_same⟩, rfl, hg.symm⟩, _, Sum.inr ⟨#[c']⟩, rfl, upd_same, ?_, ?_⟩
          · have h1 : (withoutF (kf.take j) c).length ≤ (kf.take j).length := (without_sub _ _).length_le
            rw [List.length_take] at h1
            unfold kvsF
            rw [List.length_map]
            exact line_lt (by omega)
          · rw [upd_upd, kvsF_put (without_new hkN hcv)]
      · rintro H6 rfl
        have hkt : kf.take (kvsF kf).length = kf := by
          unfold kvsF
          rw [List.length_map, List.take_length]
        rw [hkt]
        refine ⟨(upd_ne hgD).trans upd_same, ?_⟩
        have s5 : Same H5 (upd (upd (upd H5 gd (.frz od (.dK (kvsF kf)))) D (.dK (kvsF (withoutF kf c)))) gd (.dK (kvsF kf))) := fun a o h => by
          by_cases e : a = gd
          · subst e; rw [upd_same]; rw [hgd] at h; exact h
          · rw [upd_ne e, upd_ne (ne_of_none h hD0), upd_ne e]; exact h
        have hD5 : (upd (upd (upd H5 gd (.frz od (.dK (kvsF kf)))) D (.dK (kvsF (withoutF kf c)))) gd (.dK (kvsF kf))) D = some (.dK (kvsF (withoutF kf c))) := (upd_ne (Ne.symm hgD)).trans upd_same
        generalize upd (upd (upd H5 gd (.frz od (.dK (kvsF kf)))) D (.dK (kvsF (withoutF kf c)))) gd (.dK (kvsF kf)) = H7 at s5 hD5
        have s27 := s4.trans s5
        refine ⟨_, rfl, _, rfl, _, rfl, fo, ol, D, rs, B, L, withoutF kf c, rfl, s27 _ _ hfo2, ha.same s27, s27 _ _ hol2, hD5, by omega, hfd, hxl, fun tq rs' H8 htq s8 htq8 ha8 => ?_⟩
        refine ⟨tq, _, rfl, .inl (SqL.of htq8), rfl, _, rfl, ?_⟩
        rw [List.length_map, ha8.len]
        have hgd8 := s8 _ _ (s5 _ _ hgd)
        have hD8 := s8 _ _ hD5
        unfold stepG
        by_cases h1 : (havingOf L (withoutF kf c) B).length = 1
        · rw [if_pos h1, h1, decide_eq_true (show V.int ((1 : Nat) : Int) = V.int 1 from rfl)]
          exact iteT ⟨_, rfl, D, _, _, rfl, s27.trans s8, hD8⟩
        · have hne : ¬ (V.int (((havingOf L (withoutF kf c) B).length : Nat) : Int) = V.int 1) := fun e => h1 (by have := V.int.inj e; omega)
          rw [if_neg h1, decide_eq_false hne]
          exact iteF ⟨gd, _, _, rfl, s27.trans s8, hgd8⟩
    · rintro σ H4 ⟨gd, v5, v6, rfl, s4, hgd⟩
      rw [List.length_map] at hgd
      refine ⟨_, rfl, gd, _, rfl, hgd, fun q hq => ?_⟩
      have s04 := s02.trans s4
      refine k q _ (Same.free s04 hq) (s04.trans (Same.new hq)) ?_
      rw [upd_same]
      unfold givensOf kvsF keysF
      rw [List.map_map, List.map_map] <;> rfl
end
end WS
set_option maxRecDepth 100000
set_option maxHeartbeats 8000000
namespace WS
open PySem L2 SetT RevS
def spSure (CS : Addr) : Sp := fun vs H Q _ => ∃ (sh d : Addr) (b : Int) (kl : Addr) (ts : List Addr) (ss : List WSum) (kf : Figs), vs = [.ref sh, .ref d] ∧ ShAt CS H sh b kl ts ∧ SumsAt H ts ss ∧ Valid b ss ∧ (answersOf b ss).length ≤ 900000 ∧ H d = some (.dK (kvsF kf)) ∧
  havingOf (lettersOf ss) kf (answersOf b ss) ≠ [] ∧
  ∀ q H', H q = none → Same H H' → H' q = some (.dK (kvsF (sureOf (lettersOf ss) (havingOf (lettersOf ss) kf (answersOf b ss))))) → Q (.ref q) H'
section
variable {P : Program} {w : World} {K : PySem.W.Frag} {mg : Str → Option Value} {base : Heap}
theorem scSure : FnScope ["sheet", "known", "letters", "told", "same", "place", "letter", "figure", "answer"] ["sheet", "known"] (defScope sSure) := ⟨rfl, rfl, rfl, by decide +kernel, rfl, by decide +kernel, by decide +kernel⟩
theorem ok_sure {f CS fL fA fH : Addr} {fd fdL fdA fdH : FuncData} (F : Fun K "sure" "sure" sSure f fd) (TS : SheetTxt K mg CS) (z_enumerate : mg "enumerate" = none) (z_all : mg "all" = none)
    (ML : Meth K CS "letters" fL) (bL : Binds K fdL ["self"] []) (GL : FnOk P w K mg base CX0 3 fL fdL ["self"] (spShLetters CS))
    (S_answers : Site K mg "answers" fA fdA ["sheet"]) (G_answers : FnOk P w K mg base CX0 193 fA fdA ["sheet"] (spAnswers CS))
    (S_having : Site K mg "having" fH fdH ["told", "letters", "known"]) (G_having : FnOk P w K mg base CX0 1 fH fdH ["told", "letters", "known"] spHaving) :
    FnOk P w K mg base CX0 194 f fd ["sheet", "known"] (spSure CS) := by
  refine F.ok scSure (fun vs H Q E h => ?_) (fun cdv A outer s H vs Q E hr h => ?_)
  · obtain ⟨sh, d, b, kl, ts, ss, kf, rfl, _⟩ := h
    rfl
  · obtain ⟨sh, d, b, kl, ts, ss, kf, rfl, hsh, hsa, V', hfd, hd, hne, k⟩ := h
    have nd := scSure.nd
    have hu := hu_of hr
    have hr_answers : Room 193 _ := hr
    have hr_having : Room 1 _ := hr.mono (by decide)
    have hr_letters : Room 3 _ := hr.mono (by decide)
    refine ⟨_, (pss_cons (ps_set (i := 2) nd rfl (.inl rfl) (pe_meth0 (pv 0) TS.cl ML GL hr_letters bL .nil pass0))
      (pss_cons (ps_set (i := 3) nd rfl (.inl rfl) (pe_call G_having hr_having (by rfl) S_having.g S_having.k S_having.b .nil pass0 (pa_cons (pe_call G_answers hr_answers (by rfl) S_answers.g S_answers.k S_answers.b .nil pass0 (pa_cons (pv 0) pa_nil)) (pa_cons (pv 2) (pa_cons (pv 1) pa_nil)))))
      (pss_cons (ps_if (pt_not (pt_truth (pv 3) (by intro _; rfl))) (pss_one ps_never) pss_nil)
      (pss_cons (ps_set (i := 4) nd rfl (.inl rfl) pe_dnewK)
      (pss_cons (ps_for PassesOwn.never rfl (pi_enum (by rfl) z_enumerate (pa_cons (pv 2) pa_nil)) (pg_tup rfl (pgs_cons (pg_name (i := 5) nd rfl (.inr rfl)) (pgs_cons (pg_name (i := 6) nd rfl (.inl rfl)) pgs_nil))) (pss_cons (ps_set (i := 7) nd rfl (.inr rfl) (pe_ix (r := rIxT K) ix_tup (pe_ix (r := rIxL K) ix_list (pv 3) pe_int (fun _ _ => rfl)) (pv 5) (fun _ _ => rfl)))
      (pss_one (ps_if (pt_val (pe_callB (cr_all rfl) (by rfl) z_all (by decide +kernel) (pa_cons (pe_lc (own := [("answer", 8)]) (g := (gName 8)) (tt := tYes) rfl nd (pi_list (pv 3)) (blkOk_by (own := [("answer", 8)]) (N := ["sheet", "known", "letters", "told", "same", "place", "letter", "figure", "answer"]) (sc := defScope sSure) (by decide +kernel)) (fun _ _ _ _ _ => (pg_name (i := 8) nd rfl (.inl rfl))) (fun _ _ _ _ _ => pts_nil) (fun _ _ _ _ _ => (pe_cmpR op_eq (pe_ix (r := rIxT K) ix_tup (pv 8) (pv 5) (fun _ _ => rfl)) (pv 7) (nomark _)))) pa_nil))) (pss_one (ps_dput hu (pv 4) (pv 6) (pv 7) rfl)) pss_nil))))
      (pss_one (ps_ret (pv 4)))))))), ?_⟩
    obtain ⟨⟨dxs, hshi⟩, hkl⟩ := id hsh
    refine ⟨_, rfl, sh, dxs, _, rfl, hshi, flds_no _ _ (by decide +kernel) (by decide +kernel), sh, b, kl, ts, ss, rfl, hsh, hsa, V', fun ol H1 hol s1 hol1 => ?_⟩
    refine ⟨_, rfl, sh, b, kl, ts, ss, rfl, hsh.same s1, hsa.same s1, V', hfd, fun fo rs H2 hfo s2 hfo2 ha => ?_⟩
    have hL8 := (lettersOf_le V').2
    have hN : (lettersOf ss).Nodup := dd_nodup _
    have hxl : ∀ x ∈ answersOf b ss, x.length = (lettersOf ss).length := fun x hx => (ans_row V' hx).1
    refine ⟨_, rfl, _, rfl, fo, ol, d, rs, _, lettersOf ss, kf, rfl, hfo2, ha, s2 _ _ hol1, s2 _ _ (s1 _ _ hd), by omega, hfd, hxl, fun tq rs' H3 htq s3 htq3 ha3 => ?_⟩
    have hBl : (havingOf (lettersOf ss) kf (answersOf b ss)).length ≤ 900000 := Nat.le_trans (List.length_filter_le _ _) hfd
    have hBx : ∀ x ∈ havingOf (lettersOf ss) kf (answersOf b ss), x.length = (lettersOf ss).length := fun x hx => hxl x (List.mem_filter.mp hx).1
    have s03 : Same H H3 := (s1.trans s2).trans s3
    have hol3 := s3 _ _ (s2 _ _ hol1)
    generalize havingOf (lettersOf ss) kf (answersOf b ss) = B at hBl hBx hne ha3 k
    generalize lettersOf ss = L at hL8 hN hBx k hol3
    obtain ⟨x0, hx0⟩ : ∃ x0, B[0]? = some x0 := by
      cases B with
      | nil => exact absurd rfl hne
      | cons x r => exact ⟨x, rfl⟩
    have hhd : B.headD [] = x0 := by
      cases B with
      | nil => exact absurd rfl hne
      | cons x r => exact Option.some.inj hx0
    have hx0l := hBx x0 (List.mem_of_getElem? hx0)
    have hrl := ha3.len
    obtain ⟨r0, hr0⟩ : ∃ r0, rs'[0]? = some r0 := by
      have h1 := (List.getElem?_eq_some_iff.mp hx0).1
      exact ⟨rs'[0]'(by omega), List.getElem?_eq_getElem (by omega)⟩
    have hr03 := ha3.get 0 r0 x0 hr0 hx0
    refine ⟨_, rfl, _, .inl ⟨_, SqL.of htq3, rfl⟩, ?_⟩
    have hemp : (!(rs'.map V.ref).isEmpty) = true := by
      cases rs' with
      | nil => simp at hr0
      | cons r q => rfl
    rw [hemp]
    refine iteF ?_
    intro o ho
    refine ⟨_, rfl, ol, _, rfl, SqL.of ((upd_ne (ne_of_none hol3 ho)).trans hol3), for_it (walk_enum (xs := L.map sg)) (fun i σ H4 => ∃ v5 v6 v7, σ = [some (.ref sh), some (.ref d), some (.ref ol), some (.ref tq), some (.ref o), v5, v6, v7, none] ∧ Same H3 H4 ∧ H4 o = some (.dK (kvsF (sureUp L B i))))
      ⟨none, none, none, rfl, Same.new ho, upd_same⟩ (fun i σ H4 _ ⟨_, _, _, _, s4, _⟩ => SqL.of (s4 _ _ hol3)) ?_ ?_⟩
    · rintro i x σ H4 H5 hi ⟨v5, v6, v7, rfl, s4, ho4⟩ ⟨T, x1, x2, rfl, hT, rfl, e1, e2⟩
      rw [List.length_map] at hi
      have e1' : x1 = .int (i : Nat) := (Option.some.inj e1).symm
      subst e1'
      have hc : L[i]? = some L[i] := List.getElem?_eq_getElem hi
      generalize hcg : L[i] = c at hc
      have e2' : x2 = sg c := by
        have e3 : (L.map sg)[i]? = some x2 := e2
        rw [List.getElem?_map, hc] at e3
        exact (Option.some.inj e3).symm
      subst e2'
      have s5 : Same H4 (upd H4 T (.tup [.int (i : Nat), sg c])) := Same.new hT
      have hT5 : (upd H4 T (.tup [.int (i : Nat), sg c])) T = some (.tup [.int (i : Nat), sg c]) := upd_same
      have ho5 := s5 _ _ ho4
      have s35 := s4.trans s5
      generalize upd H4 T (.tup [.int (i : Nat), sg c]) = H5 at s5 hT5 ho5 s35
      have hv0 : x0[i]? = some x0[i] := List.getElem?_eq_getElem (by omega)
      generalize hv0g : x0[i]'(by omega) = v0 at hv0
      have htq5 := s35 _ _ htq3
      refine ⟨T, _, rfl, SqT.of hT5, rfl, _, _, rfl, _, _, rfl, rfl, ?_⟩
      refine ⟨_, rfl, tq, _, 0, _, rfl, rfl, SqL.of htq5, at_of (j := 0) rfl (by rw [List.getElem?_map, hr0] <;> rfl), _, rfl, r0, _, (i : Int), .int v0, rfl, rfl, SqT.of (s35 _ _ hr03), at_of (j := i) rfl (by rw [List.getElem?_map, hv0] <;> rfl), ?_⟩
      refine ⟨_, rfl, tq, rfl, ⟨_, SqL.of htq5⟩, fun D hD => ?_⟩
      have htD := ne_of_none htq5 hD
      refine lc_list (K := K) (a := tq) (xs := rs'.map V.ref) (fun m H6 => H6 = upd H5 D (.lst (((B.take m).map fun x => decide (x[i]? = some v0)).map V.bl))) rfl
        (fun m H6 _ e => by rw [e]; exact SqL.of ((upd_ne htD).trans htq5)) ?_ ?_
      · rintro m y H6 hm rfl
        obtain ⟨r, hr', rfl⟩ := refs_at hm
        have hml : m < rs'.length := (List.getElem?_eq_some_iff.mp hr').1
        have hmB : m < B.length := by omega
        have hxm : B[m]? = some B[m] := List.getElem?_eq_getElem hmB
        generalize hxg : B[m] = x at hxm
        have hxl' := hBx x (List.mem_of_getElem? hxm)
        have hrx := s35 _ _ (ha3.get m r x hr' hxm)
        have hv : x[i]? = some x[i] := List.getElem?_eq_getElem (by omega)
        generalize hvg : x[i]'(by omega) = v at hv
        refine ⟨rfl, _, rfl, _, rfl, r, _, (i : Int), .int v, rfl, rfl, SqT.of ((upd_ne (ne_of_none hrx hD)).trans hrx), at_of (j := i) rfl (by rw [List.getElem?_map, hv] <;> rfl), _, rfl, rfl, _, upd_same, ?_, ?_⟩
        · rw [List.length_map, List.length_map, List.length_take]
          exact line_lt (by omega)
        · have e : ((B.take (m + 1)).map fun x => decide (x[i]? = some v0)).map V.bl = ((B.take m).map fun x => decide (x[i]? = some v0)).map V.bl ++ [V.bl (decide (V.int v = V.int v0))] := by
            rw [take_snoc hxm, List.map_append, List.map_append, List.map_cons, List.map_nil, hv]
            have : decide (some v = some v0) = decide (V.int v = V.int v0) := by
              by_cases e : v = v0
              · rw [decide_eq_true (congrArg some e), decide_eq_true (congrArg V.int e)]
              · rw [decide_eq_false fun h => e (Option.some.inj h), decide_eq_false fun h => e (V.int.inj h)]
            rw [this] <;> rfl
          rw [upd_upd, e]
      · rintro H6 rfl
        rw [List.length_map, hrl, List.take_length]
        refine ⟨D, _, rfl, SqL.of upd_same, _, rfl, ?_⟩
        have hb : (B.map fun x => decide (x[i]? = some v0)).all id = allSame B i := by
          unfold allSame
          rw [List.all_map, hhd, hv0] <;> rfl
        rw [hb]
        have s6 : Same H5 (upd H5 D (.lst ((B.map fun x => decide (x[i]? = some v0)).map V.bl))) := Same.new hD
        have ho6 := s6 _ _ ho5
        generalize upd H5 D (.lst ((B.map fun x => decide (x[i]? = some v0)).map V.bl)) = H6 at s6 ho6
        have hsl := sureUp_len L B i
        cases hag : allSame B i
        · refine iteF ?_
          refine ⟨_, _, _, rfl, s35.trans s6, ?_⟩
          rw [sureUp_succ hc, hag]
          simpa using ho6
        · refine iteT ?_
          refine ⟨_, rfl, _, rfl, _, rfl, o, _, rfl, DPut.k (k := Sum.inr ⟨#[c]⟩) ho6 ?_, ?_⟩
          · unfold kvsF
            rw [List.length_map]
            exact line_lt (by omega)
          · refine ⟨_, _, _, rfl, Same.mut (s35.trans s6) ho, ?_⟩
            rw [upd_same, kvsF_put (sureUp_new hN hc), sureUp_succ hc, hag, hhd, hv0] <;> rfl
    · rintro σ H4 ⟨v5, v6, v7, rfl, s4, ho4⟩
      rw [List.length_map] at ho4
      exact ⟨_, rfl, k o H4 (Same.free s03 ho) (s03.trans s4) ho4⟩
end
end WS
set_option maxRecDepth 100000
set_option maxHeartbeats 4000000
namespace WS
open PySem PySem.Spec PyProof.Rows L2 LamX
section
variable {P : Program} {w : World} {K : PySem.W.Frag} {mg : Str → Option Value} {base : Heap} {k : Nat} {f : Addr} {fd : FuncData} {ps : List Str} {sp sp' : Sp} {CX : CXT}
/-- a def that lets nothing out, where one that may is asked for -/
theorem fnok_up (F : FnOk P w K mg base CX0 k f fd ps sp) : FnOk P w K mg base CX k f fd ps sp :=
  ⟨F.len, fun A outer s H args us vs Q E hr he hb hv hs => codeAny_mono (F.run A outer s H args us vs Q E hr he hb hv hs) fun r s' h => by
    match r, h with
    | .ok (.ret u), h => exact h
    | .ok .next, h => exact False.elim h
    | .ok .brk, h => exact False.elim h
    | .ok .cont, h => exact False.elim h
    | .error e, h => exact False.elim h⟩
/-- two promises of one def -/
theorem fnok_or (F : FnOk P w K mg base CX k f fd ps sp) (G : FnOk P w K mg base CX k f fd ps sp') : FnOk P w K mg base CX k f fd ps (fun vs H Q E => sp vs H Q E ∨ sp' vs H Q E) :=
  ⟨fun vs H Q E h => h.elim (F.len vs H Q E) (G.len vs H Q E), fun A outer s H args us vs Q E hr he hb hv h => h.elim (F.run A outer s H args us vs Q E hr he hb hv) (G.run A outer s H args us vs Q E hr he hb hv)⟩
end
theorem ext_mut {H H' : Hp} {p : Addr} {o : HO} (e : ExtN H H') (hp : H p = none) : ExtN H (upd H' p o) := fun b u h n => by
  rw [upd_ne (ne_of_none h hp)]; exact e b u h n
theorem AnsAt.ext {H H' : Hp} {rs : List Addr} {as : List (List Int)} (h : AnsAt H rs as) (e : ExtN H H') : AnsAt H' rs as :=
  ⟨h.len, fun i r x p q => ext_tup e (h.get i r x p q)⟩
/-- a list that grows keeps the rows -/
theorem AnsAt.lstmut {H : Hp} {rs : List Addr} {as : List (List Int)} {l : Addr} {xs : List V} {o : HO} (h : AnsAt H rs as) (hl : H l = some (.lst xs)) : AnsAt (upd H l o) rs as :=
  ⟨h.len, fun i r x p q => by
    have := h.get i r x p q
    rw [upd_ne fun z => by rw [z, hl] at this; cases this]
    exact this⟩
end WS
set_option maxRecDepth 100000
set_option maxHeartbeats 4000000
/-! a list's comprehension in a def that is called while an exception is handled -/
namespace HotL
open PySem PySem.Spec PyProof.Rows L2 HotX L2H
section
variable {prog : Program} {w : World} {A : Around} {E : Value → Shared → Prop} {s : Shared}
theorem end_hot {it l x1 : Addr} {i : Nat} {items : Array Value} {Q : Option Value → Shared → Prop} (hot : HotAt A x1 s.heap) (hne : x1 ≠ it) (hit : s.heap.IsListIter it l i) (hl : s.heap.IsList l items) (hx : items[i]? = none)
    (hQ : ∀ h', Heap.ExtBut it s.heap h' → Q none { s with heap := h' }) : wpAny (model prog w) A (pyNext (.ref it)) Q E s := by
  obtain ⟨hh, o1, vs1, h1, d1, c1⟩ := hot
  have hT := hit.typeIs
  obtain ⟨o, ho, hc, hd⟩ := id hit
  obtain ⟨ol, hol, _, nl, hdl⟩ := hl
  unfold pyNext
  apply wpAny_bind
  apply wpAny_attempt
  refine wpAny_callSpecial?_slot (name := Str.ofString "__next__") hT slot_listiter_next (wpAny_call_entry slot_listiter_next hT entry_listiter_next ?_ (args_listiter_next _))
  show wpAny _ _ (field (.ref it) 0 >>= _) _ _ s
  apply wpAny_bind
  apply wpAny_field ho hd (x := .ref l) rfl
  show wpAny _ _ (if (Value.ref l == Value.none) = true then _ else _) _ _ s
  rw [if_neg (show ¬ ((Value.ref l == Value.none) = true) from Bool.false_ne_true)]
  show wpAny _ _ (field (.ref it) 1 >>= _) _ _ s
  apply wpAny_bind
  apply wpAny_field ho hd (x := .int i 0) rfl
  show wpAny _ _ (seqItems? (.ref l) >>= _) _ _ s
  apply wpAny_bind
  apply wpAny_seqItems hol hdl
  simp only [Int.toNat_natCast, hx]
  apply wpAny_bind
  apply wpAny_rule
  apply wpAny_bind
  refine wpAny_setField ho hd (by simp) ?_
  show wpAny _ _ (newExc (.type "StopIteration") [] >>= _) _ _ _
  apply wpAny_bind
  simp only [newExc, newTuple]
  apply wpAny_bind
  refine wpAny_newObj_type ?_ (by size_fits)
  refine wpAny_bind (m := firstArgMember _ _) (wpAny_of_eq (a := Value.none) (by first | rfl | (simp only [firstArgMember]; rfl)) ?_)
  refine wpAny_newObj_type ?_ (by size_fits)
  have g1 : (s.heap.update it (Obj.mapFields (·.setIfInBounds 0 .none))).get? x1 = some o1 := by
    rw [Heap.get?_update_other _ _ (Ne.symm hne)]
    exact h1
  refine raiseNew_hot ⟨hh, o1, vs1, Heap.get?_push_of_some _ (Heap.get?_push_of_some _ g1), d1, c1⟩ (Nat.ne_of_lt (Heap.lt_size (Heap.get?_push_of_some _ g1))) (Heap.get?_push_size _ rfl) rfl (by first | (simp; done) | (simp; omega)) ?_
  apply wpAny_bind
  refine wpAny_isInstance (T := "StopIteration") (b := true) ⟨_, Heap.get?_update_self _ (Heap.get?_push_size _ rfl) rfl, rfl⟩ isSubtype_stop ?_
  refine wpAny_pure (hQ _ fun b o hb e => ?_)
  have e1 : (s.heap.update it (Obj.mapFields (·.setIfInBounds 0 .none))).get? b = some o := by
    rw [Heap.get?_update_other _ _ (Ne.symm hb)]
    exact e
  rw [Heap.get?_update_other _ _ (Nat.ne_of_gt (Heap.lt_size (Heap.get?_push_of_some _ e1)))]
  exact Heap.get?_push_of_some _ (Heap.get?_push_of_some _ e1)
end
section
variable {X : Cx} {elt tg iter : Expr} {ifs : List Expr} {scope : Scope} {own : List (Str × Nat)} {pos : Pos} {ti te : TE} {g : TG} {tt : TT}
theorem pe_lcH (hc : HotC X) (hN : X.N.Nodup) (hi : PE X iter ti) (ok : BlkOk X.N X.env.scope scope own)
    (hg : ∀ (s : Shared) (H : Hp) (C : Addr) (cl : List (Str × Addr)) (fp : List Addr), PG (X.blk s H scope (compEnvC scope cl C X.env) fp) tg g)
    (ht : ∀ (s : Shared) (H : Hp) (C : Addr) (cl : List (Str × Addr)) (fp : List Addr), PTs (X.blk s H scope (compEnvC scope cl C X.env) fp) ifs tt)
    (he : ∀ (s : Shared) (H : Hp) (C : Addr) (cl : List (Str × Addr)) (fp : List Addr), PE (X.blk s H scope (compEnvC scope cl C X.env) fp) elt te)
    (hs : ∀ x, foldedSetIterable iter X.env x = pure x := by intro _; rfl) : PE X (.ListComp elt [⟨tg, iter, ifs, 0⟩] scope pos) (tLc (iList X.K ti) g tt te (own.map (·.2))) := by
  constructor
  intro pins s σ H Q I h
  obtain ⟨p, ⟨ph, v1, pd, pc⟩, hp⟩ := hc
  have hfree : ∀ y ∈ scope.names, y.2 = .free → ∃ c, X.env.cells.lookup y.1 = some c := fun y hy e => I.ok.has _ (ok.free y hy e)
  rw [eval_ListComp]
  refine wpAny_comprehension_free (use := none) rfl hs (closure_ok hfree) ok.kind (fun y hy e => by rw [ok.uniq y hy, e]) (thn (hi.run pins s σ H _ I h) fun xv s1 hx => ?_)
  obtain ⟨x, H2, I1, r1, a, ex, ⟨xs0, hq0⟩, q⟩ := hx
  subst ex
  cases r1
  obtain ⟨its0, _, pl0, _⟩ := I1.list hq0
  apply wpAny_pyIter_list pl0.isList
  -- the iterator at it
  have I2 : Inv X pins σ H2 { s1 with heap := s1.heap.push { cls := .type "list_iterator", data := .fields #[.ref a, .int 0 0] } } := I1.kept (t' := s1.toks) fun b o e => Heap.get?_push_of_some _ e
  have st2 : Heap.IsListIter (s1.heap.push { cls := .type "list_iterator", data := .fields #[.ref a, .int 0 0] }) s1.heap.objs.size a 0 := ⟨_, Heap.get?_push_size _ rfl, rfl, rfl⟩
  have f2 := I1.fpOk (Nat.le_refl _) (I1.hok.fresh (Nat.le_refl _))
  have lit : s1.heap.objs.size < (s1.heap.push { cls := .type "list_iterator", data := .fields #[.ref a, .int 0 0] }).objs.size := by rw [Heap.size_push]; exact Nat.lt_succ_self _
  generalize s1.heap.objs.size = it at st2 f2 lit
  generalize hsh2 : ({ s1 with heap := s1.heap.push { cls := .type "list_iterator", data := .fields #[.ref a, .int 0 0] } } : Shared) = s2 at I2
  have hh2 : s1.heap.push { cls := .type "list_iterator", data := .fields #[.ref a, .int 0 0] } = s2.heap := by rw [← hsh2]
  rw [hh2] at st2 lit
  clear hsh2 hh2
  refine wpAny_newObj_type (newEnv_comp ?_) (by show 0 ≤ sizeLine; decide)
  generalize hD : s2.heap.objs.size = D
  have hDn : H2 D = none := I2.hok.fresh (Nat.le_of_eq hD)
  obtain ⟨W, ⟨m0, w0⟩, turn⟩ := q D hDn
  -- the new list
  have I3 : Inv X pins σ (upd H2 D (.lst [])) { s2 with heap := s2.heap.push { cls := .type "list", data := .seq ([] : List Value).toArray } } :=
    I2.laid (t' := s2.toks) (fun b o e => Heap.get?_push_of_some _ e) (Nat.le_of_eq hD) ⟨Nat.zero_le _, [], 0, .nil, by rw [← hD]; exact Heap.get?_push_size _ rfl⟩
  have st3 : Heap.IsListIter (s2.heap.push { cls := .type "list", data := .seq ([] : List Value).toArray }) it a 0 := st2.at fun o e => Heap.get?_push_of_some _ e
  have lt3 : it < (s2.heap.push { cls := .type "list", data := .seq ([] : List Value).toArray }).objs.size := by rw [Heap.size_push]; exact Nat.lt_succ_of_lt lit
  have f3 : FpOk X pins (upd H2 D (.lst [])) it := ⟨by rw [upd_ne (by rw [← hD]; exact Nat.ne_of_lt lit)]; exact f2.1, f2.2⟩
  generalize hH3 : upd H2 D (.lst []) = H3 at I3 f3 w0
  generalize hs3 : ({ s2 with heap := s2.heap.push { cls := .type "list", data := .seq ([] : List Value).toArray } } : Shared) = s3 at I3
  have hh3 : s2.heap.push { cls := .type "list", data := .seq ([] : List Value).toArray } = s3.heap := by rw [← hs3]
  rw [hh3] at st3 lt3
  obtain ⟨p1, p2, p3, p4, p5⟩ := I3.pin p (List.mem_append_left _ hp)
  have f3all : ∀ b ∈ [it], FpOk X pins H3 b ∧ b < s3.heap.objs.size := fun b hb => by
    rw [List.mem_singleton.mp hb]
    exact ⟨f3, lt3⟩
  have pit : p.1 ≠ it := f3.2.2.2.2.2 p (List.mem_append_left _ hp)
  have I4 := block_start I3 ok hN f3all
  have pg := hg s3 H3 s3.heap.objs.size (cellsFrom (s3.heap.objs.size + 1) scope.names (cloFrom X.env.cells scope.names [])) [it]
  have pt := ht s3 H3 s3.heap.objs.size (cellsFrom (s3.heap.objs.size + 1) scope.names (cloFrom X.env.cells scope.names [])) [it]
  have pe := he s3 H3 s3.heap.objs.size (cellsFrom (s3.heap.objs.size + 1) scope.names (cloFrom X.env.cells scope.names [])) [it]
  show codeAny _ _ (.compStart (.ListComp elt [⟨tg, iter, ifs, 0⟩] scope pos) 0 (.ref it) (.ref D) (compEnvC scope (cellsFrom (s3.heap.objs.size + 1) scope.names (cloFrom X.env.cells scope.names [])) s3.heap.objs.size X.env)) (compPost (model X.prog X.w) X.A X.xe none (EP X pins σ Q) (.ref D) s3.heap.objs.size) { s3 with heap := pushCells (s3.heap.push { cls := .type "dict", data := .dict #[] }) scope.names }
  generalize hce : compEnvC scope (cellsFrom (s3.heap.objs.size + 1) scope.names (cloFrom X.env.cells scope.names [])) s3.heap.objs.size X.env = ce at I4 pg pt pe ⊢
  have cL : ce.locals = s3.heap.objs.size := by rw [← hce] <;> rfl
  have up4 : ∀ b o, s3.heap.get? b = some o → (pushCells (s3.heap.push { cls := .type "dict", data := .dict #[] }) scope.names).get? b = some o := fun b o e => pushCells_keeps _ _ _ _ (Heap.get?_push_of_some _ e)
  have st4 : Heap.IsListIter (pushCells (s3.heap.push { cls := .type "dict", data := .dict #[] }) scope.names) it a 0 := st3.at fun o e => up4 _ o e
  have P4 := up4 _ _ p1
  generalize hs4 : ({ s3 with heap := pushCells (s3.heap.push { cls := .type "dict", data := .dict #[] }) scope.names } : Shared) = s4 at I4 ⊢
  have hh4 : pushCells (s3.heap.push { cls := .type "dict", data := .dict #[] }) scope.names = s4.heap := by rw [← hs4]
  rw [hh4] at st4 P4
  have nfs : p.1 ∉ frs X.stack := fun hm => by
    rcases List.mem_cons.mp (I3.stkSub p.1 hm) with e | hm
    · exact p3 e
    · exact p4 hm
  have nloc : p.1 ≠ ce.locals := by rw [cL]; exact Nat.ne_of_lt (Heap.lt_size p1)
  have J4 : Inv (X.blk s3 H3 scope ce [it]) [p] (wipe σ (own.map (·.2))) H3 s4 := I4.pins_of fun q hq => by
    rw [List.mem_singleton.mp hq]
    exact ⟨P4, p2, nloc, nfs, p5⟩
  have stat : ∀ {σ' : L2.St} {H' : Hp} {s' : Shared}, Inv (X.blk s3 H3 scope ce [it]) [p] σ' H' s' → H' it = none → FpOk (X.blk s3 H3 scope ce [it]) [p] H' it := fun {σ' H' s'} I' hn =>
    ⟨hn, (I'.ok.exf it (List.mem_singleton.mpr rfl)).1, I'.ok.exfs it (List.mem_singleton.mpr rfl), .inl (List.mem_singleton.mpr rfl), fun x c e => (I'.ok.exf it (List.mem_singleton.mpr rfl)).2 x c e, fun q hq => by
      have hq : q ∈ ([] : List (Addr × Obj)) ++ [p] := hq
      rw [List.nil_append] at hq
      rw [List.mem_singleton.mp hq]
      exact pit⟩
  have loop : codeAny (model X.prog X.w) X.A (.compLoop (.ListComp elt [⟨tg, iter, ifs, 0⟩] scope pos) 0 (.ref it) (.ref D) ce) (compPost (model X.prog X.w) X.A X.xe none (EP X pins σ Q) (.ref D) s3.heap.objs.size) s4 := by
    refine compLoop_any (fun n s' => ∃ i H', Inv (X.blk s3 H3 scope ce [it]) [p] (wipe σ (own.map (·.2))) H' s' ∧ s'.heap.IsListIter it a i ∧ H' it = none ∧ W i n H') ?_ m0 ⟨0, H3, J4, st4, f3.1, w0⟩
    rintro n s5 ⟨i, H5, I5, st5, n5, w5⟩
    obtain ⟨g0, g1, g2, g3, g4, g5⟩ := stat I5 n5
    rcases turn i n H5 w5 with ⟨stop, qq⟩ | ⟨go, Nx, hNx, step⟩
    · obtain ⟨xs, hq, hx⟩ := stop
      obtain ⟨its, rv, pl, hz⟩ := I5.list hq
      have hl := rv.length
      have P5 := (I5.pin p (List.mem_append_right _ (List.mem_singleton.mpr rfl))).1
      refine end_hot (x1 := p.1) ⟨ph, p.2, v1, P5, pd, pc⟩ pit st5 pl.isList (by simp; omega) fun h' eb => ?_
      have I6 : Inv (X.blk s3 H3 scope ce [it]) [p] (wipe σ (own.map (·.2))) H5 { s5 with heap := h' } := I5.turned (t' := s5.toks) (fun b o hb e => eb b o hb e) g0 g1 g3 g4 g5
      have I7 : Inv X pins σ H5 { s5 with heap := h' } := I3.call' (ch := [it]) I6.os I6.base I6.hok I6.bare fun b hb => by
        rw [List.mem_singleton.mp hb]
        exact ⟨f3.2.2.2.1, f3.2.1, f3.2.2.2.2.1, f3.2.2.2.2.2⟩
      have nC : H5 s3.heap.objs.size = none := by
        have z : H5 ce.locals = none := I6.free
        rw [cL] at z
        exact z
      obtain ⟨m, hn, _⟩ := I6.loc
      have hn : Heap.Ns h' ce.locals m := hn
      rw [cL] at hn
      obtain ⟨k0, k1, k2, k3, k4, k5⟩ := I3.fpOk (Nat.le_refl _) nC
      exact ⟨m, hn, fun h'' sb => ⟨.ref D, H5, I7.turned (t' := s5.toks) (fun b o hb e => (sb.2 b hb).trans e) k0 k1 k3 k4 k5, rfl, qq⟩⟩
    · obtain ⟨xs, x, hq, hx⟩ := go
      obtain ⟨its, rv, pl, hz⟩ := I5.list hq
      obtain ⟨u, hu, ru⟩ := rv.get hx
      refine wpAny_pyNext_list_item st5 pl.isList (x := u) (by simpa using hu) fun h6 st6 sb => ?_
      have I6 : Inv (X.blk s3 H3 scope ce [it]) [p] (wipe σ (own.map (·.2))) H5 { s5 with heap := h6 } := I5.turned (t' := s5.toks) (fun b o hb e => (sb.2 b hb).trans e) g0 g1 g3 g4 g5
      have yl : (Itl X.K a).yld i H5 x H5 := ⟨rfl, fun ys hy => by rw [I5.list_inj hy hq]; exact hx⟩
      obtain ⟨o6, ho6, hc6, hd6⟩ := id st6
      refine thnF (go_of (s := { s5 with heap := h6 }) ho6 hc6 hd6 (by decide) (Q := fun _ s' => s' = { s5 with heap := h6 }) rfl) fun _ s7 h7 => ?_
      subst h7
      have hobj : ∀ b ∈ [it], ∃ o, h6.get? b = some o ∧ ∀ v, o.data ≠ .cell v := fun b hb => by
        rw [List.mem_singleton.mp hb]
        exact ⟨o6, ho6, fun v z => by rw [hd6] at z; cases z⟩
      have I7 := I6.pinned (fp := [it]) (fun b hb => by rw [List.mem_singleton.mp hb]; exact stat I6 n5) hobj
      refine thnF (pg.run _ { s5 with heap := h6 } _ H5 x u _ I7 ru (step x H5 yl)) fun _ s8 ⟨σ8, H8, I8, hw8, q8⟩ => ?_
      refine thnF (pt.run _ s8 σ8 H8 _ I8 q8) fun b s9 ⟨H9, I9, q9⟩ => ?_
      have fin : ∀ {s' : Shared} {H' : Hp}, Inv (X.blk s3 H3 scope ce [it]) ([p] ++ pinsAt [it] h6) σ8 H' s' → Nx H' → ∃ m, m < n ∧ ∃ i H', Inv (X.blk s3 H3 scope ce [it]) [p] (wipe σ (own.map (·.2))) H' s' ∧ s'.heap.IsListIter it a i ∧ H' it = none ∧ W i m H' := fun {s' H'} I' nx => by
        obtain ⟨m', hm, w'⟩ := hNx H' nx
        have z := I'.pin (it, o6) (List.mem_append_right _ (List.mem_append_right _ (mem_pinsAt (List.mem_singleton.mpr rfl) ho6)))
        have hl : (wipe σ (own.map (·.2))).length = σ8.length := by rw [← hw8, wipe_length]
        refine ⟨m', hm, i + 1, H', (I'.unpinned (pins := [p])).weak hl (fun j v e => ?_), ⟨o6, z.1, hc6, hd6⟩, z.2.1, w'⟩
        rw [← hw8] at e
        exact (wipe_some e).1
      cases b with
      | false =>
        simp only [Bool.false_eq_true, if_false] at q9 ⊢
        exact fin I9 q9
      | true =>
        simp only [if_true] at q9 ⊢
        refine thnF (pe.run _ s9 σ8 H9 _ I9 q9) fun z s10 ⟨yv, H10, I10, r10, acc, hD10, hz10, nx⟩ => ?_
        exact app_ok (X := X.blk s3 H3 scope ce [it]) I10 hD10 hz10 r10 fun s11 I11 => fin I11 nx
  exact codeAny_compStart_list loop (wpAny_pyIter_listiter st4 loop)
end
end HotL
set_option maxRecDepth 100000
set_option maxHeartbeats 4000000
/-! a def that is handed the exception that is handled -/
namespace HotL
open PySem PySem.Spec PyProof.Rows L2 HotX L2H
/-- what a def promises while p is handled -/
structure FnP (p : Addr × Obj) (P : Program) (w : World) (K : PySem.W.Frag) (mg : Str → Option Value) (base : Heap) (k : Nat) (f : Addr) (fd : FuncData) (ps : List Str) (sp : Sp) : Prop where
  len : ∀ vs H Q E, sp vs H Q E → vs.length = ps.length
  run : ∀ (A : Around) (outer : List Env) (s : Shared) (H : Hp) (args : Args) (us : List Value) (vs : List V) (Q : VK) (E : XK), RoomH k A → Hot1 A p → PinOk outer H s p → Env0 P w K mg base A outer s H → BindsTo s fd args (ps.zip us) → Vals vs us → sp vs H Q E →
    codeAny (model P w) A (.call (.ref f) args) (CR CX0 outer P w H s Q E) s
section
variable {p : Addr × Obj} {P : Program} {w : World} {K : PySem.W.Frag} {mg : Str → Option Value} {base : Heap} {k : Nat} {f : Addr}
theorem fn_ofP {name qual : Str} {params : Arguments} {body : List Stmt} {scope : Scope} {dV kV doc pm cdv ct oc : Value} {an od : Option Addr} {osl : Array (Option Value)} {N ps : List Str} {sp : Sp}
    (lk : K.lookup f = some ⟨oc, od, .func (PySem.W.fnOf name qual params body scope dV kV doc pm an cdv ct), osl⟩) (hcd : PySem.W.codeIn K cdv qual = true) (S : FnScope N ps scope) (len : ∀ vs H Q E, sp vs H Q E → vs.length = ps.length)
    (hbody : ∀ (A : Around) (outer : List Env) (s : Shared) (H : Hp) (vs : List V) (Q : VK) (E : XK), Hot1 A p → RoomH k (A.deeper (envOfC qual scope s.heap.objs.size f cdv)) → sp vs H Q E →
      ∃ t, PSs (cxH CX0 P w K mg base N qual scope f cdv A outer s H E p) body t ∧ t { nx := fun _ H' => Q .non H', rt := Q } (L2.start N vs) H) :
    FnP p P w K mg base (k + 1) f (PySem.W.fnOf name qual params body scope dV kV doc pm an cdv ct) ps sp := by
  constructor
  · exact len
  intro A outer s H args us vs Q E hr hot hpin e0 hb r hsp
  have hl := len _ _ _ _ hsp
  have up : ∀ b o, base.get? b = some o → s.heap.get? b = some o := fun b o e => (e0.bs b o e).1
  have KX := e0.mod.kin.keeps up
  have lim := e0.mod.nolimit.keeps up
  have hkind : ∀ y ∈ ps.zip us, scope.names.lookup y.1 = some .local ∨ (scope.names.lookup y.1 = some .cell ∧ ((cellsFrom (s.heap.objs.size + 1) scope.names []).lookup y.1).isSome = true) := by
    rintro ⟨n, v⟩ hy
    exact (S.par n (List.of_mem_zip hy).1).elim .inl fun q => .inr ⟨q, PySem.W.cellsFrom_some _ _ _ (.inl q)⟩
  refine codeAny_call_function hr.depth (KX _ _ lk) rfl S.co S.gen rfl (PySem.W.codeRec_of KX hcd) (hb _ _ _ _ ?_)
  refine wpAny_newFunctionEnv_cells S.kind hkind fun env he s1 x => ?_
  subst he
  refine ⟨lim.keeps x.toInCall.keep, codeAny_func ?_⟩
  obtain ⟨t, ht, hq⟩ := hbody A outer s H vs Q E hot (hr.deeper _) hsp
  have I := inv_startH (CX := CX0) (K := K) (mg := mg) (base := base) (E := E) S hpin e0 hl r x
  refine wpAny_mono (ht.run [] s1 (L2.start N vs) H _ I hq) (fun fl s' hs => ?_) fun _ _ z => z
  cases fl with
  | ret u =>
    obtain ⟨v, σ', H', J, rv, q⟩ := hs
    exact ⟨v, H', J.os, J.bare, J.base, J.hok, rv, q⟩
  | next =>
    obtain ⟨σ', H', J, q⟩ := hs
    exact ⟨V.non, H', J.os, J.bare, J.base, J.hok, rfl, q⟩
  | brk =>
    obtain ⟨_, _, _, q⟩ := hs
    exact q.elim
  | cont =>
    obtain ⟨_, _, _, q⟩ := hs
    exact q.elim
end
section
variable {p : Addr × Obj} {X : Cx} {k : Nat} {f : Addr} {fd : FuncData} {ps : List Str} {sp : Sp} {x : Str} {q pos : Pos} {e : Expr} {es : List Expr} {t : TA}
theorem pe_callP (F : FnP p X.prog X.w X.K X.mg X.base k f fd ps sp) (hr : RoomH k X.A) (hot : Hot1 X.A p) (hp : p ∈ X.pn) (hg : Gl X x) (hm : X.mg x = some (.ref f)) (hk : PySem.W.keepIn X.K (.ref f) = true) (hb : Binds X.K fd ps [])
    (ha : PA X (e :: es) t) (hdb : (x == ("__debug__" : Str)) = false := by decide) (he : starEach (e :: es) X.env = (false, eval e X.env) :: starEach es X.env := by rfl) (hpl : (backTo pos (starEach es X.env)).any (·.1) = false := by rfl) :
    PE X (.Call (.Name x q) (e :: es) [] pos) (tCallS sp (fun _ => E0) t) := by
  constructor
  intro pins s σ H Q I h
  refine wpAny_Call_Name_kw (ld_glob I hg hm ?_ hdb)
  refine PySem.W.callWith_K (h₀ := X.base) I.ok.mod.kin hk (thn (ha.run pos pins s σ H _ I h) fun us s1 z => ?_) he hpl
  obtain ⟨vs, H1, I1, r, sq⟩ := z
  refine ⟨I1.kIn, ?_⟩
  have hl : us.length = ps.length := by rw [← r.length]; exact F.len _ _ _ _ sq
  have b := hb s1 us I1.kIn (by rw [List.append_nil]; exact hl)
  rw [List.append_nil] at b
  obtain ⟨p1, p2, p3, p4, p5⟩ := I1.pin p (List.mem_append_left _ hp)
  have hpin : PinOk X.stack H1 s1 p := ⟨p1, p2, fun hm => (List.mem_cons.mp (I1.stkSub p.1 hm)).elim p3 p4, p5⟩
  refine wpAny_call (codeAny_mono (F.run X.A X.stack s1 H1 ⟨us, []⟩ us vs Q E0 hr hot hpin I1.env0 b r sq) fun r s' hq => ?_)
  cases r with
  | error e => exact hq.elim
  | ok fl =>
    cases fl with
    | ret u => exact I1.after hq
    | next => exact hq.elim
    | brk => exact hq.elim
    | cont => exact hq.elim
/-- isinstance of the exception that is handled -/
theorem call_isP {D : Addr} (C : ExcC X.K D) (hp : p ∈ X.pn) (hz : Zc (.ref D) none p.2) (hf : ∃ vs, p.2.data = .fields vs) : CallR X (.builtin "isinstance") (rIsE X.K D p.1) := by
  intro pins s σ H xs us Q I r h
  obtain ⟨c, cv, b, rfl, hcv, e, q⟩ := h
  cases r with
  | cons rx rr =>
    cases rr with
    | cons rt rr =>
      cases rr
      cases rx
      cases hcv _ rt
      have hget := (I.pin p (List.mem_append_left _ hp)).1
      obtain ⟨vs, hv⟩ := hf
      obtain ⟨pa, oc, od, oda, osl⟩ := p
      obtain ⟨h1, h2⟩ := hz
      dsimp only at h1 h2 hv hget
      subst h1 h2 hv
      exact PySem.W.kia_one (PySem.W.handS_kitx_exc C.hg C.hk C.hs C.hd C.ha C.hn C.ht C.hm) I.kIn ⟨hget, rfl, rfl, trivial⟩ e (fun z => nomatch z) fun tk => ⟨.bl b, H, I.kept (t' := tk) fun _ _ z => z, rfl, q⟩
end
end HotL
set_option maxRecDepth 100000
set_option maxHeartbeats 8000000
namespace WS
open PySem L2 L2H
/-- the classes of exceptions, as the law asks of one of them -/
structure ErrTxt (K : PySem.W.Frag) (mg : Str → Option Value) (D cBS cNA cMA cNO cBT : Addr) : Prop where
  ec : ExcC K D
  gBS : mg "BadSheet" = some (.ref cBS)
  gNA : mg "NoAnswer" = some (.ref cNA)
  gMA : mg "ManyAnswers" = some (.ref cMA)
  gNO : mg "NotOne" = some (.ref cNO)
  gBT : mg "BadText" = some (.ref cBT)
  gVE : mg "ValueError" = none
def kindOf (K : PySem.W.Frag) (D cBS cNA cMA cNO cBT : Addr) (b1 b2 b3 b4 b5 : Bool) : Prop :=
  PySem.W.kitOne K (.ref D) (.ref cBS) = some b1 ∧ PySem.W.kitOne K (.ref D) (.ref cNA) = some b2 ∧ PySem.W.kitOne K (.ref D) (.ref cMA) = some b3 ∧ PySem.W.kitOne K (.ref D) (.ref cNO) = some b4 ∧ PySem.W.kitOne K (.ref D) (.ref cBT) = some b5 ∧ PySem.W.kitOne K (.ref D) (.type "ValueError") = some true
def spIs (p : Addr × Obj) : Sp := fun vs H Q _ => vs = [.ref p.1, .str "not"] ∧ ∀ H', Same H H' → Q (.bl true) H'
section
variable {p : Addr × Obj} {P : Program} {w : World} {K : PySem.W.Frag} {mg : Str → Option Value} {base : Heap}
end
end WS
set_option maxRecDepth 100000
set_option maxHeartbeats 4000000
namespace WS
open PySem PySem.Spec PyProof.Rows L2 L2H
/-- around a body nothing is let out -/
theorem takes0N {X : Cx} : L2N.Takes X (fun _ _ _ _ => False) := fun _ _ x => by
  obtain ⟨_, _, _, _, _, _, _, _, _, _, _, _, _, _, _, _, z⟩ := x
  exact z.elim
/-- what a suite asks of _law_is(e, "not") -/
def tIsS (C a : Addr) (cls : Value) (d : Option Addr) (t : TA) : TE := fun σ H Q => cls = .ref C ∧ d = none ∧ t σ H fun vs H1 => vs = [.ref a, .str "not"] ∧ ∀ H', Same H1 H' → Q (.bl true) H'
section
variable {X : Cx} {C a f : Addr} {fd : FuncData} {k : Nat} {x : Str} {q pos : Pos} {e : Expr} {es : List Expr} {t : TA} {oe : Obj} {cls : Value} {d : Option Addr} {pn : List (Addr × Obj)}
theorem pe_isS (hz : L2N.Zn cls d oe) (hf : ∃ vs, oe.data = .fields vs)
    (G : ∀ p : Addr × Obj, Zc (.ref C) none p.2 → (∃ vs, p.2.data = .fields vs) → HotL.FnP p X.prog X.w X.K X.mg X.base k f fd ["_law_e", "_law_word_here"] (spIs p))
    (hr : Room k X.A) (hg : Gl (X.suite a ((a, oe) :: pn)) x) (hm : X.mg x = some (.ref f)) (hk : PySem.W.keepIn X.K (.ref f) = true) (hb : Binds X.K fd ["_law_e", "_law_word_here"] [])
    (ha : PA (X.suite a ((a, oe) :: pn)) (e :: es) t) (hdb : (x == ("__debug__" : Str)) = false := by decide) (he : starEach (e :: es) X.env = (false, eval e X.env) :: starEach es X.env := by rfl) (hpl : (backTo pos (starEach es X.env)).any (·.1) = false := by rfl) :
    PE (X.suite a ((a, oe) :: pn)) (.Call (.Name x q) (e :: es) [] pos) (tIsS C a cls d t) := by
  constructor
  intro pins s σ H Q I h
  obtain ⟨hc, hd, h⟩ := h
  subst hc hd
  obtain ⟨vs, hv⟩ := id hf
  have hrh : RoomH k (X.suite a ((a, oe) :: pn)).A := ⟨hr.dp, hr.un⟩
  have hot : Hot1 (X.suite a ((a, oe) :: pn)).A (a, oe) := ⟨rfl, vs, hv, hz.2.2 vs hv⟩
  exact (HotL.pe_callP (X := X.suite a ((a, oe) :: pn)) (p := (a, oe)) (G (a, oe) hz.zc hf) hrh hot List.mem_cons_self hg hm hk hb ha hdb he hpl).run pins s σ H Q I h
end
end WS
set_option maxRecDepth 100000
set_option maxHeartbeats 4000000
/-! isinstance of the handled exception, where it has a dict -/
namespace HotL
open PySem PySem.Spec PyProof.Rows L2 HotX L2H
def rIsED (K : PySem.W.Frag) (D a dd : Addr) : List V → Hp → VK → Prop := fun xs H Q => ∃ (c : V) (cv : Value) (b : Bool) (fs : List (Str × V)), xs = [.ref a, c] ∧ (∀ u, RelV c u → u = cv) ∧ PySem.W.kitOne K (.ref D) cv = some b ∧ H dd = some (.xd fs) ∧ Q (.bl b) H
section
variable {p : Addr × Obj} {X : Cx}
theorem call_isPD {D dd : Addr} (C : ExcC X.K D) (hp : p ∈ X.pn) (hz : Zc (.ref D) (some dd) p.2) (hf : ∃ vs, p.2.data = .fields vs) : CallR X (.builtin "isinstance") (rIsED X.K D p.1 dd) := by
  intro pins s σ H xs us Q I r h
  obtain ⟨c, cv, b, fs, rfl, hcv, e, hd, q⟩ := h
  cases r with
  | cons rx rr =>
    cases rr with
    | cons rt rr =>
      cases rr
      cases rx
      cases hcv _ rt
      have hget := (I.pin p (List.mem_append_left _ hp)).1
      obtain ⟨vs, hv⟩ := hf
      have hx : ObjOk X.prog X.w H s.heap dd (.xd fs) := I.hok dd _ hd
      obtain ⟨mA, hns, _⟩ := hx
      obtain ⟨od, ho, _⟩ := lookIn_ns hns
      have J : PySem.W.InstAt s.heap p.1 p.2 D (some od) := ⟨hget, hz.1, by unfold PySem.W.notCls; rw [hv] <;> rfl, by rw [hz.2]; exact ho⟩
      have hcl : (PySem.W.clsIn X.K D).isSome = true := by
        obtain ⟨cd, hc, _⟩ := PySem.W.any_some C.hd
        rw [hc] <;> rfl
      exact PySem.W.kia_one (PySem.W.kitx_exc hcl C.hg C.hk C.hs C.ha C.hn C.ht C.hm) I.kIn J e (fun z => nomatch z) fun tk => ⟨.bl b, H, I.kept (t' := tk) fun _ _ z => z, rfl, q⟩
end
end HotL
set_option maxRecDepth 100000
set_option maxHeartbeats 8000000
namespace WS
open PySem L2 L2H
def kindW (K : PySem.W.Frag) (D cBS cNA cMA cNO cBT : Addr) (wd : Str) (b1 b2 b3 b4 b5 : Bool) : Prop :=
  kindOf K D cBS cNA cMA cNO cBT b1 b2 b3 b4 b5 ∧ ((["sheet", "none", "many", "not", "text"] : List Str).map fun z => V.bl (decide (V.str wd = V.str z))) = [.bl b1, .bl b2, .bl b3, .bl b4, .bl b5]
def spIsW (p : Addr × Obj) (dd : Addr) (wd : Str) : Sp := fun vs H Q _ => vs = [.ref p.1, .str wd] ∧ (∃ fs, H dd = some (.xd fs)) ∧ ∀ H', Same H H' → Q (.bl true) H'
section
variable {p : Addr × Obj} {P : Program} {w : World} {K : PySem.W.Frag} {mg : Str → Option Value} {base : Heap}
end
end WS
set_option maxRecDepth 100000
set_option maxHeartbeats 8000000
namespace WS
open PySem L2 SetT RevS ND LamX
def spTold (C PT : Addr) : Sp := fun vs H Q _ => ∃ (p : Addr) (b : Int) (kl : Addr) (ts : List Addr) (ss : List WSum), vs = [.ref p] ∧ ShAt C H p b kl ts ∧ SumsAt H ts ss ∧ Valid b ss ∧ (answersOf b ss).length ≤ 900000 ∧ TabS H PT "by_weight.<locals>.<lambda>" ∧
  ∀ q rs H', NewN H q → ExtN H H' → TabS H' PT "by_weight.<locals>.<lambda>" → H' q = some (.lst (rs.map V.ref)) → RowsL (fun r => NewN H r ∧ r ≠ q) H' rs (toldD b ss) → Q (.ref q) H'
section
variable {P : Program} {w : World} {K : PySem.W.Frag} {mg : Str → Option Value} {base : Heap}
theorem scTold : FnScope ["_law_sheet_here", "_law_found", "e"] ["_law_sheet_here"] (defScope sLTold) := ⟨rfl, rfl, rfl, by decide +kernel, rfl, by decide +kernel, by decide +kernel⟩
theorem ok_told {f C cNA cMA PT fL fSs fA fT fH fG fS fO : Addr} {fd fdL fdSs fdA fdT fdH fdG fdS fdO : FuncData} (F : Fun K "_law_told" "_law_told" sLTold f fd) (T : SheetTxt K mg C) (z_sorted : mg "sorted" = none)
    (gNA : mg "NoAnswer" = some (.ref cNA)) (gMA : mg "ManyAnswers" = some (.ref cMA)) (xNN : PySem.W.exmOne K (.ref cNA) (.ref cNA) = some true) (xMN : PySem.W.exmOne K (.ref cMA) (.ref cNA) = some false) (xMM : PySem.W.exmOne K (.ref cMA) (.ref cMA) = some true)
    (TN : XfC K cNA) (TM : XfC K cMA) (n_table : PySem.W.findIn K (.ref cNA) "table" = some none) (n_two : PySem.W.findIn K (.ref cMA) "two" = some none)
    (ML : Meth K C "letters" fL) (bL : Binds K fdL ["self"] []) (GL : FnOk P w K mg base CX0 3 fL fdL ["self"] (spShLetters C))
    (mSs : Meth K C "sums" fSs) (bSs : Binds K fdSs ["self"] []) (GSs : FnOk P w K mg base CX0 1 fSs fdSs ["self"] (spShSums C))
    (S_answers : Site K mg "answers" fA fdA ["sheet"]) (G_answers : FnOk P w K mg base CX0 193 fA fdA ["sheet"] (spAnswers C))
    (S_table_of : Site K mg "table_of" fT fdT ["sheet"]) (G_table_of : FnOk P w K mg base CX0 193 fT fdT ["sheet"] (spTable C))
    (S_how_many : Site K mg "how_many" fH fdH ["sheet"]) (G_how_many : FnOk P w K mg base CX0 5 fH fdH ["sheet"] (spHowMany C PT))
    (S_givens : Site K mg "givens" fG fdG ["sheet", "answer"]) (G_givens : FnOk P w K mg base CX0 194 fG fdG ["sheet", "answer"] (spGivens C))
    (S_sure : Site K mg "sure" fS fdS ["sheet", "known"]) (G_sure : FnOk P w K mg base CX0 194 fS fdS ["sheet", "known"] (spSure C))
    (S_only : Site K mg "only" fO fdO ["sheet"]) (G_only : FnOk P w K mg base (L2N.CX P w) 193 fO fdO ["sheet"] (spOnly C cNA cMA)) :
    FnOk P w K mg base CX0 195 f fd ["_law_sheet_here"] (spTold C PT) := by
  refine F.ok scTold (fun vs H Q E h => ?_) (fun cdv A outer s H vs Q E hr h => ?_)
  · obtain ⟨p, b, kl, ts, ss, rfl, _⟩ := h
    rfl
  · obtain ⟨p, b, kl, ts, ss, rfl, hsh, hsa, V', hfd, hT, k⟩ := h
    have nd := scTold.nd
    have hu := hu_of hr
    have hu64 := hr.units
    have hr_letters : Room 3 _ := hr.mono (by decide)
    have hr_sums : Room 1 _ := hr.mono (by decide)
    have hr_answers : Room 193 _ := hr.mono (by decide)
    have hr_table_of : Room 193 _ := hr.mono (by decide)
    have hr_how_many : Room 5 _ := hr.mono (by decide)
    have hr_givens : Room 194 _ := hr
    have hr_sure : Room 194 _ := hr
    have hr_only : Room 193 _ := hr.mono (by decide)
    refine ⟨_, (pss_cons (ps_set (i := 1) nd rfl (.inl rfl) (pe_lst (pa_cons (pe_meth0 (pv 0) T.cl ML GL hr_letters bL .nil pass0) (pa_cons (pe_meth0 (pv 0) T.cl mSs GSs hr_sums bSs .nil pass0) (pa_cons (pe_call G_answers hr_answers (by rfl) S_answers.g S_answers.k S_answers.b .nil pass0 (pa_cons (pv 0) pa_nil)) (pa_cons (pe_lst (pa_cons (pe_call G_table_of hr_table_of (by rfl) S_table_of.g S_table_of.k S_table_of.b .nil pass0 (pa_cons (pv 0) pa_nil)) (pa_cons (pe_call G_how_many hr_how_many (by rfl) S_how_many.g S_how_many.k S_how_many.b .nil pass0 (pa_cons (pv 0) pa_nil)) pa_nil))) pa_nil))))))
      (Evl.pss_cut (ps_if (pt_cmpR (op_neD hu64) (pe_ix (r := rIxL K) ix_list (pv 1) pe_int (fun _ _ => rfl)) (pe_lst pa_nil) (nomark _)) (pss_one (ps_set (i := 1) nd rfl (.inl rfl) (pe_op op_cat (pv 1) (pe_lst (pa_cons (pe_call G_givens hr_givens (by rfl) S_givens.g S_givens.k S_givens.b .nil pass0 (pa_cons (pv 0) (pa_cons (pe_ix (r := rIxL K) ix_list (pe_ix (r := rIxL K) ix_list (pv 1) pe_int (fun _ _ => rfl)) pe_int (fun _ _ => rfl)) pa_nil))) (pa_cons (pe_callB (cr_sortItems rfl hu64) (by rfl) z_sorted (by decide +kernel) (pa_cons (pe_bm0 PySem.F.plainAttrs_dict PySem.F.slot_dict_items PySem.F.type_dict_items mt_itemsK (pe_call G_sure hr_sure (by rfl) S_sure.g S_sure.k S_sure.b .nil pass0 (pa_cons (pv 0) (pa_cons pe_dnewK pa_nil)))) pa_nil)) pa_nil)))))) pss_nil)
      (pss_cons (TryAs.ps_try_clauses (j := 2) rfl rfl nd rfl rfl takes0N (fun W pn xe tk _ => pss_one (ps_expr (show PE _ _ (tBM K _ _ _ _) from pe_bm PySem.F.plainAttrs_list PySem.F.slot_list_append PySem.F.type_list_append mt_append (pv 1) (pa_cons (pe_lst (pa_cons (pe_callS G_only hr_only (by rfl) S_only.g S_only.k S_only.b (fun σ => L2N.passAt tk σ) (pa_cons (pv 0) pa_nil)) pa_nil)) pa_nil)))) (.more (kc := .ref cNA) ⟨by rfl, by decide +kernel, .inl gNA⟩ (fun a oe cls d pn hz hf => pss_one (ps_expr (show PE _ _ (tBM K _ _ _ _) from pe_bm PySem.F.plainAttrs_list PySem.F.slot_list_append PySem.F.type_list_append mt_append (pv 1) (pa_cons (pe_lst (pa_cons (pe_xf TN n_table hz.zc hf (pv 2)) pa_nil)) pa_nil)))) (.more (kc := .ref cMA) ⟨by rfl, by decide +kernel, .inl gMA⟩ (fun a oe cls d pn hz hf => pss_one (ps_expr (show PE _ _ (tBM K _ _ _ _) from pe_bm PySem.F.plainAttrs_list PySem.F.slot_list_append PySem.F.type_list_append mt_append (pv 1) (pa_cons (pe_xf TM n_two hz.zc hf (pv 2)) pa_nil)))) .done)))
      (pss_one (ps_ret (pv 1)))))), ?_⟩
    obtain ⟨⟨dx, hp⟩, hkl⟩ := id hsh
    have few := V'.few
    have hL8 := (lettersOf_le V').2
    have hN : (lettersOf ss).Nodup := dd_nodup _
    refine ⟨_, rfl, p, dx, _, rfl, hp, flds_no _ _ (by decide +kernel) (by decide +kernel), p, b, kl, ts, ss, rfl, hsh, hsa, V', fun lq H1 hlq s1 hlq1 => ?_⟩
    refine ⟨_, rfl, p, dx, _, rfl, s1 _ _ hp, flds_no _ _ (by decide +kernel) (by decide +kernel), p, b, kl, ts, rfl, hsh.same s1, by have := hsa.len; omega, fun sq H2 hsq s2 hsq2 => ?_⟩
    have s02 := s1.trans s2
    refine ⟨_, rfl, p, b, kl, ts, ss, rfl, hsh.same s02, hsa.same s02, V', hfd, fun fo rs H3 hfo s3 hfo3 ha => ?_⟩
    have s03 := s02.trans s3
    refine ⟨_, rfl, p, b, kl, ts, ss, rfl, hsh.same s03, hsa.same s03, V', hfd, fun tv H4 s4 ht4 => ?_⟩
    have s04 := s03.trans s4
    refine ⟨_, rfl, p, b, kl, ts, ss, rfl, hsh.same s04, hsa.same s04, V', hT.ext s04, fun H5 e5 hT5 => ?_⟩
    have e05 : ExtN H H5 := (ExtN.of s04).trans e5
    refine ⟨by show 2 ≤ sizeLine; decide, fun tq htq => ?_⟩
    have s6 : Same H5 (upd H5 tq (.lst [tv, .int ((answersOf b ss).length : Nat)])) := Same.new htq
    have htq6 : (upd H5 tq (.lst [tv, .int ((answersOf b ss).length : Nat)])) tq = some (.lst [tv, .int ((answersOf b ss).length : Nat)]) := upd_same
    generalize upd H5 tq (.lst [tv, .int ((answersOf b ss).length : Nat)]) = H6 at s6 htq6
    have e06 : ExtN H H6 := e05.trans (ExtN.of s6)
    have htp6 : Tp H6 tv (treeD (tableOf b ss)) := (tp_tree ht4).keep ((tupK_ext e5).trans (TupK.of s6))
    have hlq6 : H6 lq = _ := s6 _ _ (ext_lst e5 (s4 _ _ (s3 _ _ (s2 _ _ hlq1))))
    have hsq6 : H6 sq = _ := s6 _ _ (ext_lst e5 (s4 _ _ (s3 _ _ hsq2)))
    have hfo6 : H6 fo = _ := s6 _ _ (ext_lst e5 (s4 _ _ hfo3))
    have ha6 : AnsAt H6 rs (answersOf b ss) := ((ha.same s4).ext e5).same s6
    have hsa6 := hsa.ext e06
    have hsh6 := hsh.ext e06
    have hT6 := hT5.ext s6
    -- the four rows
    have R4 : RowsL (NewN H) H6 [lq, sq, fo, tq] [(lettersOf ss).map fun c => PyData.str ⟨#[c]⟩, ss.map sumD, (answersOf b ss).map rowD, [treeD (tableOf b ss), .int ((answersOf b ss).length : Nat)]] := by
      refine RowsL.snoc (RowsL.snoc (RowsL.snoc (RowsL.snoc RowsL.nil (newN_none hlq) hlq6 (tp_sg _)) (newN_none (Same.free s1 hsq)) hsq6 (tp_sums hsa6)) (newN_none (Same.free s02 hfo)) hfo6 (tp_ans ha6)) (newN_back e05 (newN_none htq)) htq6 (.cons htp6 (.cons (.int _) .nil))
    refine ⟨by show 4 ≤ sizeLine; decide, fun q hq => ?_⟩
    have s7 : Same H6 (upd H6 q (.lst [.ref lq, .ref sq, .ref fo, .ref tq])) := Same.new hq
    have hq7 : (upd H6 q (.lst [.ref lq, .ref sq, .ref fo, .ref tq])) q = some (.lst ([lq, sq, fo, tq].map V.ref)) := upd_same
    generalize upd H6 q (.lst [.ref lq, .ref sq, .ref fo, .ref tq]) = H7 at s7 hq7
    have e07 := e06.trans (ExtN.of s7)
    have R7 : RowsL (fun r => NewN H r ∧ r ≠ q) H7 [lq, sq, fo, tq] _ := (R4.imp (fun r its _ h n => ⟨n, ne_of_none h hq⟩)).same s7
    have hqN : NewN H q := newN_back e06 (newN_none hq)
    have ha7 := ha6.same s7
    have hfo7 := s7 _ _ hfo6
    have hsh7 := hsh6.same s7
    have hsa7 := hsa6.same s7
    have hT7 := hT6.ext s7
    have htp7 := htp6.keep (TupK.of s7)
    have hrl := ha7.len
    clear R4 hlq6 hsq6 hfo6 ha6 hsa6 hsh6 hT6 htp6 htq6 hT5 ht4 ha hfo3 hsq2 hlq1
    -- what must be given, what is sure
    refine ⟨fun σ H8 => ∃ q' rs', σ = [some (.ref p), some (.ref q'), none] ∧ Same H7 H8 ∧ NewN H q' ∧ H8 q' = some (.lst (rs'.map V.ref)) ∧ rs'.length ≤ 7 ∧ RowsL (fun r => NewN H r ∧ r ≠ q') H8 rs' ([(lettersOf ss).map fun c => PyData.str ⟨#[c]⟩, ss.map sumD, (answersOf b ss).map rowD, [treeD (tableOf b ss), .int ((answersOf b ss).length : Nat)]] ++ moreD b ss), ?_, ?_⟩
    · refine ⟨_, rfl, q, _, 2, _, rfl, rfl, SqL.of hq7, at_of (j := 2) rfl rfl, by show 0 ≤ sizeLine; decide, fun e1 he1 => ?_⟩
      have s8 : Same H7 (upd H7 e1 (.lst [])) := Same.new he1
      have he8 : (upd H7 e1 (.lst [])) e1 = some (.lst []) := upd_same
      generalize upd H7 e1 (.lst []) = H8 at s8 he8
      refine ⟨ansD (answersOf b ss), .list [], dp_ans (s8 _ _ hfo7) (ha7.same s8), .lst (SqL.of he8) .nil, shaped_ans _, by decide, _, rfl, ?_⟩
      rw [show PyData.eqv (ansD (answersOf b ss)) (.list []) = ((answersOf b ss).map rowD).isEmpty from eqv_nil_any _]
      cases hA : answersOf b ss with
      | nil =>
        refine iteF ⟨q, _, rfl, s8, hqN, s8 _ _ hq7, by show 4 ≤ 7; decide, ?_⟩
        rw [hA] at R7
        unfold moreD
        rw [hA]
        exact R7.same s8
      | cons x r =>
        rw [hA] at R7 ha7 hrl hfd
        refine iteT ?_
        obtain ⟨r0, rr, rfl⟩ : ∃ r0 rr, rs = r0 :: rr := by
          cases rs with
          | nil => cases hrl
          | cons r0 rr => exact ⟨r0, rr, rfl⟩
        have hx : H7 r0 = some (.tup (x.map V.int)) := ha7.get 0 r0 x rfl rfl
        refine ⟨_, rfl, _, rfl, _, rfl, q, _, 2, _, rfl, rfl, SqL.of (s8 _ _ hq7), at_of (j := 2) rfl rfl, fo, _, 0, _, rfl, rfl, SqL.of (s8 _ _ hfo7), at_of (j := 0) rfl rfl, p, r0, b, kl, ts, ss, x, rfl, hsh7.same s8, hsa7.same s8, V', by rw [hA]; exact hfd, s8 _ _ hx, by rw [hA]; exact List.mem_cons_self, fun gq H9 hgq s9 hgq9 => ?_⟩
        refine ⟨_, rfl, fun d hd => ?_⟩
        have s10 : Same H9 (upd H9 d (.dK [])) := Same.new hd
        have hd10 : (upd H9 d (.dK [])) d = some (.dK (kvsF [])) := upd_same
        generalize upd H9 d (.dK []) = H10 at s10 hd10
        have s710 := (s8.trans s9).trans s10
        refine ⟨p, d, b, kl, ts, ss, [], rfl, hsh7.same s710, hsa7.same s710, V', by rw [hA]; exact hfd, hd10, by rw [having_nil, hA]; exact (fun h => nomatch h), fun uq H11 huq s11 huq11 => ?_⟩
        rw [having_nil, hA] at huq11
        rw [hA] at hgq9
        refine ⟨.inr (.inr (.inl ⟨rfl, .inl ⟨_, huq11⟩⟩)), uq, _, rfl, rfl, huq11, fun vq hvq => ?_⟩
        have s12 : Same H11 (upd H11 vq (L2.DX.itemsO vq uq)) := Same.new hvq
        have hvq12 : (upd H11 vq (L2.DX.itemsO vq uq)) vq = some (L2.DX.itemsO vq uq) := upd_same
        generalize upd H11 vq (L2.DX.itemsO vq uq) = H12 at s12 hvq12
        refine ⟨vq, uq, sureOf (lettersOf ss) (x :: r), rfl, hvq12, s12 _ _ huq11, Nat.le_trans (sure_len _ _) (by omega), fun l H13 tz hl s13 hl13 hz => ?_⟩
        have s913 := ((s10.trans s11).trans s12).trans s13
        have s713 := (s8.trans s9).trans s913
        refine ⟨by show 2 ≤ sizeLine; decide, fun nl hnl => ?_⟩
        have s14 : Same H13 (upd H13 nl (.lst [.ref gq, .ref l])) := Same.new hnl
        have hnl14 : (upd H13 nl (.lst [.ref gq, .ref l])) nl = some (.lst [.ref gq, .ref l]) := upd_same
        generalize upd H13 nl (.lst [.ref gq, .ref l]) = H14 at s14 hnl14
        have s714 := s713.trans s14
        refine ⟨q, nl, _, _, rfl, rfl, s714 _ _ hq7, hnl14, by show 6 ≤ sizeLine; decide, fun q2 hq2 => ?_⟩
        have s15 : Same H14 (upd H14 q2 (.lst ([lq, sq, fo, tq].map V.ref ++ [.ref gq, .ref l]))) := Same.new hq2
        have hq215 : (upd H14 q2 (.lst ([lq, sq, fo, tq].map V.ref ++ [.ref gq, .ref l]))) q2 = some (.lst ([lq, sq, fo, tq, gq, l].map V.ref)) := upd_same
        generalize upd H14 q2 (.lst ([lq, sq, fo, tq].map V.ref ++ [.ref gq, .ref l])) = H15 at s15 hq215
        have s715 := s714.trans s15
        have hgq13 : H14 gq = _ := s14 _ _ (s913 _ _ hgq9)
        have hl14 := s14 _ _ hl13
        have R14 : RowsL (NewN H) H14 [lq, sq, fo, tq, gq, l] ([(lettersOf ss).map fun c => PyData.str ⟨#[c]⟩, ss.map sumD, (x :: r).map rowD, [treeD (tableOf b ss), .int ((x :: r).length : Nat)], (givensOf (lettersOf ss) (x :: r) x).map fun c => PyData.str ⟨#[c]⟩, (sortP (sureOf (lettersOf ss) (x :: r))).map pairD]) := by
          refine RowsL.snoc (RowsL.snoc ((R7.imp fun _ _ _ _ n => n.1).same s714) ?_ hgq13 (tp_sg _)) ?_ hl14 (tp_pairs (hz.same s14))
          · exact newN_back (e07.trans (ExtN.of s8)) (newN_none hgq)
          · exact newN_back (e07.trans (ExtN.of ((s8.trans s9).trans ((s10.trans s11).trans s12)))) (newN_none hl)
        refine ⟨q2, [lq, sq, fo, tq, gq, l], rfl, s715, newN_back (e07.trans (ExtN.of s714)) (newN_none hq2), hq215, by show 6 ≤ 7; decide, ?_⟩
        unfold moreD
        rw [hA]
        exact (R14.imp (fun r' its _ h n => ⟨n, ne_of_none h hq2⟩)).same s15
    rintro σ H8 ⟨q', rs', rfl, s8, hqN', hq8, hr7, R8⟩
    have hsh8 := hsh7.same s8
    have hsa8 := hsa7.same s8
    have hT8 := hT7.ext s8
    have e08 := e07.trans (ExtN.of s8)
    have hlen : (rs'.map V.ref).length < sizeLine := by
      rw [List.length_map]
      exact line_lt (by omega)
    have fin : ∀ (H9 : Hp) (nl : Addr) (its : List V), Same H8 H9 → NewN H nl → nl ≠ q' → H9 nl = some (.lst its) → TpAll H9 its (lastD b ss) → Q (.ref q') (upd H9 q' (.lst (rs'.map V.ref ++ [.ref nl]))) := fun H9 nl its s9 hn hne h1 h2 => by
      have hq9 := s9 _ _ hq8
      refine k q' (rs' ++ [nl]) _ hqN' (ext_mutN (e08.trans (ExtN.of s9)) hqN') (TabS.but (hT8.ext s9) hq9 fun b' o n h => (upd_ne n).trans h) (by rw [upd_same, List.map_append] <;> rfl) ?_
      unfold toldD
      exact ((R8.same s9).keep (fun a xs n h => (upd_ne n.2).trans h) (TupK.lst hq9)).snoc ⟨hn, hne⟩ ((upd_ne hne).trans h1) (h2.keep (TupK.lst hq9))
    refine ⟨_, rfl, .inl ⟨rfl, _, SqL.of hq8⟩, _, rfl, p, b, kl, ts, ss, rfl, hsh8, hsa8, V', hfd, fun hA v H9 s9 ht => ?_, fun hA rs2 H9 s9 ha9 => ?_, fun x hA q3 r0 v H9 hq3 s9 h1 h2 ht => ?_⟩
    · -- none
      intro d H10 hd s10 hx
      refine ⟨true, xNN, fun _ a ha => ?_, fun h => nomatch h⟩
      have s810 := s9.trans s10
      refine ⟨_, rfl, .inl ⟨rfl, _, SqL.of (s810 _ _ hq8)⟩, _, rfl, rfl, rfl, d, _, _, rfl, hx, rfl, by show 1 ≤ sizeLine; decide, fun nl hnl => ?_⟩
      have s11 : Same H10 (upd H10 nl (.lst [v])) := Same.new hnl
      have hnl11 : (upd H10 nl (.lst [v])) nl = some (.lst [v]) := upd_same
      generalize upd H10 nl (.lst [v]) = H11 at s11 hnl11
      have s811 := s810.trans s11
      have hneq : nl ≠ q' := fun z => by rw [z, s810 _ _ hq8] at hnl; cases hnl
      refine ⟨q', _, _, rfl, rfl, s811 _ _ hq8, hlen, _, rfl, fin H11 nl [v] s811 (newN_back (e08.trans (ExtN.of s810)) (newN_none hnl)) hneq hnl11 ?_⟩
      unfold lastD
      rw [hA]
      exact .cons ((tp_tree ht).keep (TupK.of (s10.trans s11))) .nil
    · -- more than one
      intro d p2 H10 hd hp2 hpd s10 hp210 hx
      refine ⟨false, xMN, (fun h => nomatch h), fun _ => ⟨true, xMM, fun _ a ha => ?_, fun h => nomatch h⟩⟩
      have s810 := s9.trans s10
      have hneq : p2 ≠ q' := fun z => by rw [z, s9 _ _ hq8] at hp2; cases hp2
      refine ⟨_, rfl, .inl ⟨rfl, _, SqL.of (s810 _ _ hq8)⟩, _, rfl, rfl, rfl, d, _, _, rfl, hx, rfl, q', _, _, rfl, rfl, s810 _ _ hq8, hlen, _, rfl, fin H10 p2 _ s810 (newN_back (e08.trans (ExtN.of s9)) (newN_none hp2)) hneq hp210 ?_⟩
      unfold lastD
      obtain ⟨x, y, r, hxy⟩ : ∃ x y r, answersOf b ss = x :: y :: r := by
        cases e : answersOf b ss with
        | nil => rw [e] at hA; simp at hA
        | cons x r =>
          cases r with
          | nil => rw [e] at hA; simp at hA
          | cons y r => exact ⟨x, y, r, rfl⟩
      rw [hxy]
      rw [hxy] at ha9
      have hl9 := ha9.len
      obtain ⟨r0, r1, rr, rfl⟩ : ∃ r0 r1 rr, rs2 = r0 :: r1 :: rr := by
        rcases rs2 with _ | ⟨r0, _ | ⟨r1, rr⟩⟩
        · simp at hl9
        · simp at hl9
        · exact ⟨r0, r1, rr, rfl⟩
      exact .cons (.tup (s10 _ _ (ha9.get 0 r0 x rfl rfl)) (tp_ints x)) (.cons (.tup (s10 _ _ (ha9.get 1 r1 y rfl rfl)) (tp_ints y)) .nil)
    · -- just one
      refine ⟨by show 1 ≤ sizeLine; decide, fun nl hnl => ?_⟩
      have s10 : Same H9 (upd H9 nl (.lst [.ref q3])) := Same.new hnl
      have hnl10 : (upd H9 nl (.lst [.ref q3])) nl = some (.lst [.ref q3]) := upd_same
      generalize upd H9 nl (.lst [.ref q3]) = H10 at s10 hnl10
      have s810 := s9.trans s10
      have hneq : nl ≠ q' := fun z => by rw [z, s9 _ _ hq8] at hnl; cases hnl
      refine ⟨q', _, _, rfl, rfl, s810 _ _ hq8, hlen, _, rfl, fin H10 nl _ s810 (newN_back (e08.trans (ExtN.of s9)) (newN_none hnl)) hneq hnl10 ?_⟩
      unfold lastD
      rw [hA]
      exact .cons (.tup (s10 _ _ h1) (.cons (.tup (s10 _ _ h2) (tp_ints x)) (.cons ((tp_tree ht).keep (TupK.of s10)) .nil))) .nil
end
end WS
set_option maxRecDepth 100000
set_option maxHeartbeats 8000000
namespace WS
open PySem L2 SetT RevS ND LamX
def spLawT (K : PySem.W.Frag) (PT : Addr) : Sp := fun vs H Q _ => ∃ (a : Addr) (ns : List Int), vs = [.ref a] ∧ SqL K H a (ns.map V.int) ∧ TabS H PT "by_weight.<locals>.<lambda>" ∧ ∀ H', Q (.bl true) H'
def rListOf (K : PySem.W.Frag) : List V → Hp → VK → Prop := fun xs H Q => ∃ p ys, xs = [V.ref p] ∧ (SqL K H p ys ∨ SqT K H p ys) ∧ ∀ l : Addr, H l = none → Q (V.ref l) (upd H l (HO.lst ys))
theorem told_small {b : Int} {ss : List WSum} (V : Valid b ss) (h : (answersOf b ss).length ≤ 900000) : ∀ d ∈ toldD b ss, d.length ≤ 900000 := by
  have hL := (lettersOf_le V).2
  have hs := V.few.2
  intro d hd
  unfold toldD at hd
  rcases List.mem_append.mp hd with hd | hd
  · rcases List.mem_append.mp hd with hd | hd
    · simp only [List.mem_cons, List.not_mem_nil, or_false] at hd
      rcases hd with rfl | rfl | rfl | rfl
      · rw [List.length_map]; omega
      · rw [List.length_map]; omega
      · rw [List.length_map]; exact h
      · show 2 ≤ 900000; decide
    · unfold moreD at hd
      cases hA : answersOf b ss with
      | nil => rw [hA] at hd; cases hd
      | cons x r =>
        rw [hA] at hd
        simp only [List.mem_cons, List.not_mem_nil, or_false] at hd
        rcases hd with rfl | rfl
        · rw [List.length_map]
          have h1 : (givensOf (lettersOf ss) (x :: r) x).length ≤ (lettersOf ss).length := by
            unfold givensOf keysF
            rw [List.length_map]
            exact givF_len (Nat.le_refl _)
          omega
        · rw [List.length_map, (sortP_perm _).length_eq]
          have := sure_len (lettersOf ss) (x :: r)
          omega
  · rw [List.mem_singleton.mp hd]
    unfold lastD
    split
    · show 1 ≤ 900000; decide
    · show 1 ≤ 900000; decide
    · show 2 ≤ 900000; decide
section
variable {P : Program} {w : World} {K : PySem.W.Frag} {mg : Str → Option Value} {base : Heap}
theorem scLaw19 : FnScope ["_law_script", "_law_d", "_law_base", "_law_sums", "_law_other", "_law_sheet_here", "_law_told_here", "_law_row", "_law_first"] ["_law_script"] (defScope sLaw) := ⟨rfl, rfl, rfl, by decide +kernel, rfl, by decide +kernel, by decide +kernel⟩
theorem ok_law19 {f C PT fD fW fI fT : Addr} {fd fdD fdW fdI fdT : FuncData} (F : Fun K "law" "law" sLaw f fd) (T : SheetTxt K mg C) (z_list : mg "list" = none)
    (S__law_dice : Site K mg "_law_dice" fD fdD ["_law_script"]) (G__law_dice : FnOk P w K mg base CX0 1 fD fdD ["_law_script"] (spDice K))
    (S__law_sheet : Site K mg "_law_sheet" fW fdW ["_law_d"]) (G__law_sheet : FnOk P w K mg base CX0 3 fW fdW ["_law_d"] (spSheet K))
    (M : Mk K C fI) (bI : Binds K fdI ["self", "base", "sums"] []) (GI : FnOk P w K mg base CX0 3 fI fdI ["self", "base", "sums"] (spShInit C))
    (S__law_told : Site K mg "_law_told" fT fdT ["_law_sheet_here"]) (G__law_told : FnOk P w K mg base CX0 195 fT fdT ["_law_sheet_here"] (spTold C PT)) :
    FnOk P w K mg base CX0 196 f fd ["_law_script"] (spLawT K PT) := by
  refine F.ok scLaw19 (fun vs H Q E h => ?_) (fun cdv A outer s H vs Q E hr h => ?_)
  · obtain ⟨a, ns, rfl, _⟩ := h
    rfl
  · obtain ⟨a, ns, rfl, hsq, hT, k⟩ := h
    have nd := scLaw19.nd
    have hu := hu_of hr
    have hu64 := hr.units
    have hr__law_dice : Room 1 _ := hr.mono (by decide)
    have hr__law_sheet : Room 3 _ := hr.mono (by decide)
    have hr_sheet : Room 4 _ := hr.mono (by decide)
    have hr__law_told : Room 195 _ := hr
    refine ⟨_, (pss_cons (ps_set (i := 1) nd rfl (.inl rfl) (pe_call G__law_dice hr__law_dice (by rfl) S__law_dice.g S__law_dice.k S__law_dice.b .nil pass0 (pa_cons (pv 0) pa_nil)))
      (pss_cons (ps_asg (pe_call G__law_sheet hr__law_sheet (by rfl) S__law_sheet.g S__law_sheet.k S__law_sheet.b .nil pass0 (pa_cons (pv 1) pa_nil)) (pg_tup rfl (pgs_cons (pg_name (i := 2) nd rfl (.inl rfl)) (pgs_cons (pg_name (i := 3) nd rfl (.inl rfl)) pgs_nil))))
      (pss_cons (ps_set (i := 4) nd rfl (.inl rfl) (pe_call G__law_sheet hr__law_sheet (by rfl) S__law_sheet.g S__law_sheet.k S__law_sheet.b .nil pass0 (pa_cons (pv 1) pa_nil)))
      (pss_cons (ps_set (i := 5) nd rfl (.inl rfl) (pe_make M GI hr_sheet (by rfl) T.g bI .nil pass0 (pa_cons (pv 2) (pa_cons (pv 3) pa_nil))))
      (pss_cons (ps_set (i := 6) nd rfl (.inl rfl) (pe_call G__law_told hr__law_told (by rfl) S__law_told.g S__law_told.k S__law_told.b .nil pass0 (pa_cons (pv 5) pa_nil)))
      (pss_cons (ps_setLc (i := 8) (own := [("_law_row", 7)]) (g := (gName 7)) (tt := tYes) rfl nd rfl rfl (sw_true rfl rfl rfl (by decide +kernel)) (pi_list (pv 6)) (blkOk_by (own := [("_law_row", 7)]) (N := ["_law_script", "_law_d", "_law_base", "_law_sums", "_law_other", "_law_sheet_here", "_law_told_here", "_law_row", "_law_first"]) (sc := defScope sLaw) (by decide +kernel)) (fun _ _ _ _ _ => (pg_name (i := 7) nd rfl (.inl rfl))) (fun _ _ _ _ _ => pts_nil) (fun _ _ _ _ _ => (pe_callTy (show CallR _ (.type "list") (rListOf K) from call_list_of) (by rfl) z_list (by decide +kernel) (pa_cons (pv 7) pa_nil))))
      (pss_cons (ps_for PassesOwn.never rfl (pi_list (pv 6)) (pg_name (i := 7) nd rfl (.inl rfl)) (pss_one (ps_expr (pe_bm PySem.F.plainAttrs_list PySem.F.slot_list_append PySem.F.type_list_append mt_append (pv 7) (pa_cons (pe_tup (pa_cons pe_str pa_nil)) pa_nil)))))
      (pss_cons (ps_expr (pe_call G__law_told hr__law_told (by rfl) S__law_told.g S__law_told.k S__law_told.b .nil pass0 (pa_cons (pe_make M GI hr_sheet (by rfl) T.g bI .nil pass0 (pa_cons (pe_ix (r := rIxT K) ix_tup (pv 4) pe_int (fun _ _ => rfl)) (pa_cons (pe_ix (r := rIxT K) ix_tup (pv 4) pe_int (fun _ _ => rfl)) pa_nil))) pa_nil)))
      (pss_one (ps_ret (pe_cmpR (op_eqD hu64) (pe_call G__law_told hr__law_told (by rfl) S__law_told.g S__law_told.k S__law_told.b .nil pass0 (pa_cons (pv 5) pa_nil)) (pv 8) (nomark _)))))))))))), ?_⟩
    refine ⟨_, rfl, a, ns, rfl, hsq, fun d H1 hd0 s1 D1 => ?_⟩
    have hT1 := hT.ext s1
    obtain ⟨di, dm, dc, hd1, _⟩ := id D1.ex
    refine ⟨_, rfl, d, a, ns, rfl, D1, fun t sl ts H2 b ss ht0 hsl0 D2 b2 ht hsl hsa ok => ?_⟩
    refine ⟨t, _, rfl, SqT.of ht, rfl, _, _, rfl, _, _, rfl, rfl, ?_⟩
    refine ⟨_, rfl, d, a, ns, rfl, D2, fun t' sl' ts' H3 b' ss' ht0' hsl0' D3 b3 ht' hsl' hsa' ok' => ?_⟩
    have V' := ok.valid
    have W' := ok'.valid
    have hfd : (answersOf b ss).length ≤ 900000 := Nat.le_trans ok.ans_le (by decide)
    have hfd' : (answersOf b' ss').length ≤ 900000 := Nat.le_trans ok'.ans_le (by decide)
    have hsl3 := b3 _ _ (refs_off D2 hsl) hsl
    have hsa3 := hsa.but D2 b3
    have hT3 := TabS.but hT1 hd1 (b2.trans b3)
    refine ⟨_, rfl, _, rfl, fun x dx nx ndx nex => ?_⟩
    have s0 : Same H3 (upd (upd H3 dx (.own x)) x (.ins C dx [])) := fun c o e => by
      rw [upd_ne (ne_of_none e nx), upd_ne (ne_of_none e ndx)]; exact e
    refine ⟨x, dx, b, sl, ts, ss, rfl, upd_same, s0 _ _ hsl3, hsa3.same s0, V', fun kl H4 hkl A4 kp => ⟨rfl, ?_⟩⟩
    have s34 : Same H3 H4 := old_of nx ndx kp
    have hsa4 := hsa3.same s34
    have hT4 := hT3.ext s34
    have hsa4' := hsa'.same s34
    have ht4' := s34 _ _ ht'
    have hsl4' := s34 _ _ hsl'
    refine ⟨_, rfl, x, b, kl, ts, ss, rfl, A4, hsa4, V', hfd, hT4, fun q rs H5 hqN e45 hT5 hq5 R5 => ?_⟩
    have hDl := toldD_len b ss
    have hrl := R5.len
    have small := told_small V' hfd
    -- the first telling is kept
    refine ⟨_, rfl, q, rfl, ⟨_, SqL.of hq5⟩, fun F hF => ?_⟩
    have hFq : q ≠ F := ne_of_none hq5 hF
    refine lc_list (K := K) (a := q) (xs := rs.map V.ref) (fun j H6 => ∃ fs, H6 F = some (.lst (fs.map V.ref)) ∧ Same H5 H6 ∧ RowsL (fun g => H5 g = none ∧ g ≠ F) H6 fs ((toldD b ss).take j))
      ⟨[], upd_same, Same.new hF, ⟨by simp, fun i r d a b => by simp at a⟩⟩ (fun j H6 _ ⟨_, _, s6, _⟩ => SqL.of (s6 _ _ hq5)) ?_ ?_
    · rintro j y H6 hj ⟨fs, hF6, s6, R6⟩
      obtain ⟨r, hr', rfl⟩ := refs_at hj
      have hjD : j < (toldD b ss).length := hrl ▸ (List.getElem?_eq_some_iff.mp hr').1
      have hd' : (toldD b ss)[j]? = some (toldD b ss)[j] := List.getElem?_eq_getElem hjD
      generalize (toldD b ss)[j] = dd' at hd'
      obtain ⟨_, its, h1, h2⟩ := R5.get j r dd' hr' hd'
      refine ⟨rfl, _, rfl, r, _, rfl, .inl (SqL.of (s6 _ _ h1)), fun g hg => ?_⟩
      have s7 : Same H6 (upd H6 g (.lst its)) := Same.new hg
      have hg7 : (upd H6 g (.lst its)) g = some (.lst its) := upd_same
      have hgF : g ≠ F := fun z => by rw [z, hF6] at hg; cases hg
      generalize upd H6 g (.lst its) = H7 at s7 hg7
      have hF7 := s7 _ _ hF6
      refine ⟨_, hF7, ?_, fs ++ [g], ?_, Same.mut (s6.trans s7) hF, ?_⟩
      · rw [List.length_map, R6.len, List.length_take]
        exact line_lt (by omega)
      · rw [upd_same, List.map_append] <;> rfl
      · rw [take_snoc hd']
        exact ((R6.same s7).keep (fun a xs n h => (upd_ne n.2).trans h) (TupK.lst hF7)).snoc ⟨Same.free s6 hg, hgF⟩ ((upd_ne hgF).trans hg7) (h2.keep ((TupK.of (s6.trans s7)).trans (TupK.lst hF7)))
    rintro H6 ⟨fs, hF6, s6, R6⟩
    rw [List.length_map, hrl, List.take_length] at R6
    have hrow : ∀ r ∈ rs, ∃ xs, H5 r = some (.lst xs) ∧ xs.length ≤ 900000 ∧ NewN H4 r ∧ r ≠ q := fun r hr => by
      obtain ⟨i, hi⟩ := List.mem_iff_getElem?.mp hr
      have hl : i < (toldD b ss).length := hrl ▸ (List.getElem?_eq_some_iff.mp hi).1
      obtain ⟨n, its, h1, h2⟩ := R5.get i r _ hi (List.getElem?_eq_getElem hl)
      exact ⟨its, h1, by rw [h2.len]; exact small _ (List.getElem_mem hl), n⟩
    -- what was told is changed
    refine ⟨_, rfl, q, rfl, ⟨_, SqL.of (s6 _ _ hq5)⟩, for_list (K := K) (a := q) (xs := rs.map V.ref) (fun i σ H7 => ∃ v7, σ = [some (.ref a), some (.ref d), some (.int b), some (.ref sl), some (.ref t'), some (.ref x), some (.ref q), v7, some (.ref F)] ∧ ExtN H4 H7 ∧ TabS H7 PT "by_weight.<locals>.<lambda>" ∧ H7 q = some (.lst (rs.map V.ref)) ∧ (∀ r ∈ rs, ∃ xs, H7 r = some (.lst xs) ∧ xs.length ≤ 900000 + i) ∧ H7 F = some (.lst (fs.map V.ref)) ∧ RowsL (fun g => H5 g = none ∧ g ≠ F) H7 fs (toldD b ss))
      ⟨none, rfl, e45.trans (ExtN.of s6), hT5.ext s6, s6 _ _ hq5, fun r hr => by
        obtain ⟨xs, h1, h2, _⟩ := hrow r hr
        exact ⟨xs, s6 _ _ h1, h2⟩, hF6, R6⟩ (fun i σ H7 _ ⟨_, _, _, _, h, _⟩ => SqL.of h) ?_ ?_⟩
    · rintro i y σ H7 hi ⟨v7, rfl, e7, hT7, hq7, hr7, hF7, R7⟩
      obtain ⟨r, hr', rfl⟩ := refs_at hi
      have hil : i < rs.length := (List.getElem?_eq_some_iff.mp hr').1
      have hrm := List.mem_of_getElem? hr'
      obtain ⟨xs, hx7, hxl⟩ := hr7 r hrm
      obtain ⟨ys, hy5, _, hrN, hrq⟩ := hrow r hrm
      have hrF : F ≠ r := fun z => by rw [z, hy5] at hF; cases hF
      refine ⟨_, rfl, .inl ⟨rfl, _, SqL.of hx7⟩, by show 1 ≤ sizeLine; decide, fun u hu => ?_⟩
      have s8 : Same H7 (upd H7 u (.tup [.str "a"])) := Same.new hu
      generalize upd H7 u (.tup [.str "a"]) = H8 at s8
      have hx8 := s8 _ _ hx7
      refine ⟨r, _, _, rfl, rfl, hx8, line_lt (by omega), ?_⟩
      refine ⟨_, rfl, ext_mutN (e7.trans (ExtN.of s8)) hrN, TabS.but (hT7.ext s8) hx8 fun b' o n h => (upd_ne n).trans h, (upd_ne (Ne.symm hrq)).trans (s8 _ _ hq7), fun r2 hr2 => ?_, (upd_ne hrF).trans (s8 _ _ hF7), (R7.same s8).keep (fun g zs n h => ?_) (TupK.lst hx8)⟩
      · by_cases h2 : r2 = r
        · subst h2
          exact ⟨_, upd_same, by rw [List.length_append]; show xs.length + 1 ≤ _; omega⟩
        · obtain ⟨zs, k1, k2⟩ := hr7 r2 hr2
          exact ⟨zs, (upd_ne h2).trans (s8 _ _ k1), by omega⟩
      · have : g ≠ r := fun z => by
          have := n.1
          rw [z, hy5] at this
          cases this
        exact (upd_ne this).trans h
    rintro σ H7 ⟨v7, rfl, e7, hT7, hq7, hr7, hF7, R7⟩
    -- another sheet
    refine ⟨_, rfl, t', _, 0, _, rfl, rfl, SqT.of (ext_tup e7 ht4'), at_of (j := 0) rfl rfl, _, rfl, t', _, 1, _, rfl, rfl, SqT.of (ext_tup e7 ht4'), at_of (j := 1) rfl rfl, fun x2 dx2 nx2 ndx2 nex2 => ?_⟩
    have s0' : Same H7 (upd (upd H7 dx2 (.own x2)) x2 (.ins C dx2 [])) := fun c o e => by
      rw [upd_ne (ne_of_none e nx2), upd_ne (ne_of_none e ndx2)]; exact e
    refine ⟨x2, dx2, b', sl', ts', ss', rfl, upd_same, s0' _ _ (ext_lst e7 hsl4'), (hsa4'.ext e7).same s0', W', fun kl2 H8 hkl2 A8 kp2 => ⟨rfl, ?_⟩⟩
    have s78 : Same H7 H8 := old_of nx2 ndx2 kp2
    refine ⟨x2, b', kl2, ts', ss', rfl, A8, (hsa4'.ext e7).same s78, W', hfd', hT7.ext s78, fun q2 rs2 H9 hq2N e89 hT9 hq29 R9 => ?_⟩
    have e79 : ExtN H7 H9 := (ExtN.of s78).trans e89
    have e49 := e7.trans e79
    -- the first one again
    refine ⟨_, rfl, x, b, kl, ts, ss, rfl, A4.ext e49, hsa4.ext e49, V', hfd, hT9, fun q3 rs3 HA hq3N e9A hTA hq3A RA => ?_⟩
    have e7A := e79.trans e9A
    refine ⟨_, rfl, _, _, .lst (SqL.of hq3A) (RA.dp K), .lst (SqL.of (ext_lst e7A hF7)) ((R7.ext e7A).dp K), shaped_told V', shaped_told V', ?_⟩
    rw [eqv_told V']
    exact k _
end
end WS
set_option maxRecDepth 100000
set_option maxHeartbeats 8000000
namespace WS
open PySem L2
theorem all_mk {l : PySem.W.OpenLaw} {w : World} {K : PySem.W.Frag} {h : Heap} {mg : Str → Option Value} {fa C_Sheet C_Reader C_SumError C_NoAnswer C_ManyAnswers cA PT : Addr} (X : K.In h) (G : h.Ns mainGlobals mg) (hfa : mg "law" = some (.ref fa))
    {f_check_counts : Addr} {od_check_counts an_check_counts : Option Addr} {sl_check_counts : Array (Option Value)} {oc_check_counts kV_check_counts dc_check_counts pm_check_counts cd_check_counts ct_check_counts : Value}
    {f_check_sums : Addr} {od_check_sums an_check_sums : Option Addr} {sl_check_sums : Array (Option Value)} {oc_check_sums kV_check_sums dc_check_sums pm_check_sums cd_check_sums ct_check_sums : Value}
    {f_is_word : Addr} {od_is_word an_is_word : Option Addr} {sl_is_word : Array (Option Value)} {oc_is_word kV_is_word dc_is_word pm_is_word cd_is_word ct_is_word : Value}
    {f_column_count : Addr} {od_column_count an_column_count : Option Addr} {sl_column_count : Array (Option Value)} {oc_column_count kV_column_count dc_column_count pm_column_count cd_column_count ct_column_count : Value}
    {f_letter_at : Addr} {od_letter_at an_letter_at : Option Addr} {sl_letter_at : Array (Option Value)} {oc_letter_at kV_letter_at dc_letter_at pm_letter_at cd_letter_at ct_letter_at : Value}
    {f_column_of : Addr} {od_column_of an_column_of : Option Addr} {sl_column_of : Array (Option Value)} {oc_column_of kV_column_of dc_column_of pm_column_of cd_column_of ct_column_of : Value}
    {f_first_letters : Addr} {od_first_letters an_first_letters : Option Addr} {sl_first_letters : Array (Option Value)} {oc_first_letters kV_first_letters dc_first_letters pm_first_letters cd_first_letters ct_first_letters : Value}
    {f_worth : Addr} {od_worth an_worth : Option Addr} {sl_worth : Array (Option Value)} {oc_worth kV_worth dc_worth pm_worth cd_worth ct_worth : Value}
    {f_surplus : Addr} {od_surplus an_surplus : Option Addr} {sl_surplus : Array (Option Value)} {oc_surplus kV_surplus dc_surplus pm_surplus cd_surplus ct_surplus : Value}
    {f_steps_of : Addr} {od_steps_of an_steps_of : Option Addr} {sl_steps_of : Array (Option Value)} {oc_steps_of kV_steps_of dc_steps_of pm_steps_of cd_steps_of ct_steps_of : Value}
    {f_free_figures : Addr} {od_free_figures an_free_figures : Option Addr} {sl_free_figures : Array (Option Value)} {oc_free_figures kV_free_figures dc_free_figures pm_free_figures cd_free_figures ct_free_figures : Value}
    {f_read_through : Addr} {od_read_through an_read_through : Option Addr} {sl_read_through : Array (Option Value)} {oc_read_through kV_read_through dc_read_through pm_read_through cd_read_through ct_read_through : Value}
    {f_table_of : Addr} {od_table_of an_table_of : Option Addr} {sl_table_of : Array (Option Value)} {oc_table_of kV_table_of dc_table_of pm_table_of cd_table_of ct_table_of : Value}
    {f_answers : Addr} {od_answers an_answers : Option Addr} {sl_answers : Array (Option Value)} {oc_answers kV_answers dc_answers pm_answers cd_answers ct_answers : Value}
    {f_how_many : Addr} {od_how_many an_how_many : Option Addr} {sl_how_many : Array (Option Value)} {oc_how_many kV_how_many dc_how_many pm_how_many cd_how_many ct_how_many : Value}
    {f_by_weight : Addr} {od_by_weight an_by_weight : Option Addr} {sl_by_weight : Array (Option Value)} {oc_by_weight kV_by_weight dc_by_weight pm_by_weight  ct_by_weight : Value}
    {f_spans_of : Addr} {od_spans_of an_spans_of : Option Addr} {sl_spans_of : Array (Option Value)} {oc_spans_of kV_spans_of dc_spans_of pm_spans_of cd_spans_of ct_spans_of : Value}
    {f_with_one_more : Addr} {od_with_one_more an_with_one_more : Option Addr} {sl_with_one_more : Array (Option Value)} {oc_with_one_more kV_with_one_more dc_with_one_more pm_with_one_more cd_with_one_more ct_with_one_more : Value}
    {f_is_within : Addr} {od_is_within an_is_within : Option Addr} {sl_is_within : Array (Option Value)} {oc_is_within kV_is_within dc_is_within pm_is_within cd_is_within ct_is_within : Value}
    {f_only : Addr} {od_only an_only : Option Addr} {sl_only : Array (Option Value)} {oc_only kV_only dc_only pm_only cd_only ct_only : Value}
    {f_sure : Addr} {od_sure an_sure : Option Addr} {sl_sure : Array (Option Value)} {oc_sure kV_sure dc_sure pm_sure cd_sure ct_sure : Value}
    {f_givens : Addr} {od_givens an_givens : Option Addr} {sl_givens : Array (Option Value)} {oc_givens kV_givens dc_givens pm_givens cd_givens ct_givens : Value}
    {f_having : Addr} {od_having an_having : Option Addr} {sl_having : Array (Option Value)} {oc_having kV_having dc_having pm_having cd_having ct_having : Value}
    {f__law_dice : Addr} {od__law_dice an__law_dice : Option Addr} {sl__law_dice : Array (Option Value)} {oc__law_dice kV__law_dice dc__law_dice pm__law_dice cd__law_dice ct__law_dice : Value}
    {f__law_next : Addr} {od__law_next an__law_next : Option Addr} {sl__law_next : Array (Option Value)} {oc__law_next kV__law_next dc__law_next pm__law_next cd__law_next ct__law_next : Value}
    {f__law_word : Addr} {od__law_word an__law_word : Option Addr} {sl__law_word : Array (Option Value)} {oc__law_word kV__law_word dc__law_word pm__law_word cd__law_word ct__law_word : Value}
    {f__law_names : Addr} {od__law_names an__law_names : Option Addr} {sl__law_names : Array (Option Value)} {oc__law_names kV__law_names dc__law_names pm__law_names cd__law_names ct__law_names : Value}
    {f__law_sum : Addr} {od__law_sum an__law_sum : Option Addr} {sl__law_sum : Array (Option Value)} {oc__law_sum kV__law_sum dc__law_sum pm__law_sum cd__law_sum ct__law_sum : Value}
    {f__law_sheet : Addr} {od__law_sheet an__law_sheet : Option Addr} {sl__law_sheet : Array (Option Value)} {oc__law_sheet kV__law_sheet dc__law_sheet pm__law_sheet cd__law_sheet ct__law_sheet : Value}
    {f__law_told : Addr} {od__law_told an__law_told : Option Addr} {sl__law_told : Array (Option Value)} {oc__law_told kV__law_told dc__law_told pm__law_told cd__law_told ct__law_told : Value}
    {f_law : Addr} {od_law an_law : Option Addr} {sl_law : Array (Option Value)} {oc_law kV_law dc_law pm_law cd_law ct_law : Value}
    {f_NoAnswer_init : Addr} {od_NoAnswer_init an_NoAnswer_init : Option Addr} {sl_NoAnswer_init : Array (Option Value)} {oc_NoAnswer_init kV_NoAnswer_init dc_NoAnswer_init pm_NoAnswer_init cd_NoAnswer_init ct_NoAnswer_init : Value}
    {f_ManyAnswers_init : Addr} {od_ManyAnswers_init an_ManyAnswers_init : Option Addr} {sl_ManyAnswers_init : Array (Option Value)} {oc_ManyAnswers_init kV_ManyAnswers_init dc_ManyAnswers_init pm_ManyAnswers_init cd_ManyAnswers_init ct_ManyAnswers_init : Value}
    {f_Sheet_init : Addr} {od_Sheet_init an_Sheet_init : Option Addr} {sl_Sheet_init : Array (Option Value)} {oc_Sheet_init kV_Sheet_init dc_Sheet_init pm_Sheet_init cd_Sheet_init ct_Sheet_init : Value}
    {f_Sheet_sums : Addr} {od_Sheet_sums an_Sheet_sums : Option Addr} {sl_Sheet_sums : Array (Option Value)} {oc_Sheet_sums kV_Sheet_sums dc_Sheet_sums pm_Sheet_sums cd_Sheet_sums ct_Sheet_sums : Value}
    {f_Sheet_letters : Addr} {od_Sheet_letters an_Sheet_letters : Option Addr} {sl_Sheet_letters : Array (Option Value)} {oc_Sheet_letters kV_Sheet_letters dc_Sheet_letters pm_Sheet_letters cd_Sheet_letters ct_Sheet_letters : Value}
    {f_Reader_init : Addr} {od_Reader_init an_Reader_init : Option Addr} {sl_Reader_init : Array (Option Value)} {oc_Reader_init kV_Reader_init dc_Reader_init pm_Reader_init cd_Reader_init ct_Reader_init : Value}
    {f_Reader_case_from : Addr} {od_Reader_case_from an_Reader_case_from : Option Addr} {sl_Reader_case_from : Array (Option Value)} {oc_Reader_case_from kV_Reader_case_from dc_Reader_case_from pm_Reader_case_from cd_Reader_case_from ct_Reader_case_from : Value}
    {f_Reader_parted : Addr} {od_Reader_parted an_Reader_parted : Option Addr} {sl_Reader_parted : Array (Option Value)} {oc_Reader_parted kV_Reader_parted dc_Reader_parted pm_Reader_parted cd_Reader_parted ct_Reader_parted : Value}
    {f_Reader_forced : Addr} {od_Reader_forced an_Reader_forced : Option Addr} {sl_Reader_forced : Array (Option Value)} {oc_Reader_forced kV_Reader_forced dc_Reader_forced pm_Reader_forced cd_Reader_forced ct_Reader_forced : Value}
    {f_Reader_compared : Addr} {od_Reader_compared an_Reader_compared : Option Addr} {sl_Reader_compared : Array (Option Value)} {oc_Reader_compared kV_Reader_compared dc_Reader_compared pm_Reader_compared cd_Reader_compared ct_Reader_compared : Value}
    {f_Reader_column_end : Addr} {od_Reader_column_end an_Reader_column_end : Option Addr} {sl_Reader_column_end : Array (Option Value)} {oc_Reader_column_end kV_Reader_column_end dc_Reader_column_end pm_Reader_column_end cd_Reader_column_end ct_Reader_column_end : Value}
    {t_LEAST_BASE : Tok}
    {t_MOST_BASE : Tok}
    {t_MOST_SUMS : Tok}
    {t_MOST_ADDENDS : Tok}
    {t_MOST_IN_WORD : Tok}
    {t_MOST_LETTERS : Tok}
    {t_SMALL_LETTERS : Tok}
    (a_Sheet : PySem.W.nsIn K mainGlobals "Sheet" = some (some (.ref C_Sheet)))
    (a_Reader : PySem.W.nsIn K mainGlobals "Reader" = some (some (.ref C_Reader)))
    (a_check_counts : PySem.W.nsIn K mainGlobals "check_counts" = some (some (.ref f_check_counts))) (l_check_counts : K.lookup f_check_counts = some ⟨oc_check_counts, od_check_counts, .func (PySem.W.fnOf "check_counts" "check_counts" (defArgs sCounts) (defBody sCounts) (defScope sCounts) .none kV_check_counts dc_check_counts pm_check_counts an_check_counts cd_check_counts ct_check_counts), sl_check_counts⟩) (c_check_counts : PySem.W.codeIn K cd_check_counts "check_counts" = true) (k_check_counts : PySem.W.keepIn K (.ref f_check_counts) = true)
    (a_check_sums : PySem.W.nsIn K mainGlobals "check_sums" = some (some (.ref f_check_sums))) (l_check_sums : K.lookup f_check_sums = some ⟨oc_check_sums, od_check_sums, .func (PySem.W.fnOf "check_sums" "check_sums" (defArgs sCheck) (defBody sCheck) (defScope sCheck) .none kV_check_sums dc_check_sums pm_check_sums an_check_sums cd_check_sums ct_check_sums), sl_check_sums⟩) (c_check_sums : PySem.W.codeIn K cd_check_sums "check_sums" = true) (k_check_sums : PySem.W.keepIn K (.ref f_check_sums) = true)
    (a_is_word : PySem.W.nsIn K mainGlobals "is_word" = some (some (.ref f_is_word))) (l_is_word : K.lookup f_is_word = some ⟨oc_is_word, od_is_word, .func (PySem.W.fnOf "is_word" "is_word" (defArgs sIsWord) (defBody sIsWord) (defScope sIsWord) .none kV_is_word dc_is_word pm_is_word an_is_word cd_is_word ct_is_word), sl_is_word⟩) (c_is_word : PySem.W.codeIn K cd_is_word "is_word" = true) (k_is_word : PySem.W.keepIn K (.ref f_is_word) = true)
    (a_column_count : PySem.W.nsIn K mainGlobals "column_count" = some (some (.ref f_column_count))) (l_column_count : K.lookup f_column_count = some ⟨oc_column_count, od_column_count, .func (PySem.W.fnOf "column_count" "column_count" (defArgs sColCount) (defBody sColCount) (defScope sColCount) .none kV_column_count dc_column_count pm_column_count an_column_count cd_column_count ct_column_count), sl_column_count⟩) (c_column_count : PySem.W.codeIn K cd_column_count "column_count" = true) (k_column_count : PySem.W.keepIn K (.ref f_column_count) = true)
    (a_letter_at : PySem.W.nsIn K mainGlobals "letter_at" = some (some (.ref f_letter_at))) (l_letter_at : K.lookup f_letter_at = some ⟨oc_letter_at, od_letter_at, .func (PySem.W.fnOf "letter_at" "letter_at" (defArgs sLetterAt) (defBody sLetterAt) (defScope sLetterAt) .none kV_letter_at dc_letter_at pm_letter_at an_letter_at cd_letter_at ct_letter_at), sl_letter_at⟩) (c_letter_at : PySem.W.codeIn K cd_letter_at "letter_at" = true) (k_letter_at : PySem.W.keepIn K (.ref f_letter_at) = true)
    (a_column_of : PySem.W.nsIn K mainGlobals "column_of" = some (some (.ref f_column_of))) (l_column_of : K.lookup f_column_of = some ⟨oc_column_of, od_column_of, .func (PySem.W.fnOf "column_of" "column_of" (defArgs sColOf) (defBody sColOf) (defScope sColOf) .none kV_column_of dc_column_of pm_column_of an_column_of cd_column_of ct_column_of), sl_column_of⟩) (c_column_of : PySem.W.codeIn K cd_column_of "column_of" = true) (k_column_of : PySem.W.keepIn K (.ref f_column_of) = true)
    (a_first_letters : PySem.W.nsIn K mainGlobals "first_letters" = some (some (.ref f_first_letters))) (l_first_letters : K.lookup f_first_letters = some ⟨oc_first_letters, od_first_letters, .func (PySem.W.fnOf "first_letters" "first_letters" (defArgs sFirsts) (defBody sFirsts) (defScope sFirsts) .none kV_first_letters dc_first_letters pm_first_letters an_first_letters cd_first_letters ct_first_letters), sl_first_letters⟩) (c_first_letters : PySem.W.codeIn K cd_first_letters "first_letters" = true) (k_first_letters : PySem.W.keepIn K (.ref f_first_letters) = true)
    (a_worth : PySem.W.nsIn K mainGlobals "worth" = some (some (.ref f_worth))) (l_worth : K.lookup f_worth = some ⟨oc_worth, od_worth, .func (PySem.W.fnOf "worth" "worth" (defArgs sWorth) (defBody sWorth) (defScope sWorth) .none kV_worth dc_worth pm_worth an_worth cd_worth ct_worth), sl_worth⟩) (c_worth : PySem.W.codeIn K cd_worth "worth" = true) (k_worth : PySem.W.keepIn K (.ref f_worth) = true)
    (a_surplus : PySem.W.nsIn K mainGlobals "surplus" = some (some (.ref f_surplus))) (l_surplus : K.lookup f_surplus = some ⟨oc_surplus, od_surplus, .func (PySem.W.fnOf "surplus" "surplus" (defArgs sSurplus) (defBody sSurplus) (defScope sSurplus) .none kV_surplus dc_surplus pm_surplus an_surplus cd_surplus ct_surplus), sl_surplus⟩) (c_surplus : PySem.W.codeIn K cd_surplus "surplus" = true) (k_surplus : PySem.W.keepIn K (.ref f_surplus) = true)
    (a_steps_of : PySem.W.nsIn K mainGlobals "steps_of" = some (some (.ref f_steps_of))) (l_steps_of : K.lookup f_steps_of = some ⟨oc_steps_of, od_steps_of, .func (PySem.W.fnOf "steps_of" "steps_of" (defArgs sStepsOf) (defBody sStepsOf) (defScope sStepsOf) .none kV_steps_of dc_steps_of pm_steps_of an_steps_of cd_steps_of ct_steps_of), sl_steps_of⟩) (c_steps_of : PySem.W.codeIn K cd_steps_of "steps_of" = true) (k_steps_of : PySem.W.keepIn K (.ref f_steps_of) = true)
    (a_free_figures : PySem.W.nsIn K mainGlobals "free_figures" = some (some (.ref f_free_figures))) (l_free_figures : K.lookup f_free_figures = some ⟨oc_free_figures, od_free_figures, .func (PySem.W.fnOf "free_figures" "free_figures" (defArgs sFree) (defBody sFree) (defScope sFree) .none kV_free_figures dc_free_figures pm_free_figures an_free_figures cd_free_figures ct_free_figures), sl_free_figures⟩) (c_free_figures : PySem.W.codeIn K cd_free_figures "free_figures" = true) (k_free_figures : PySem.W.keepIn K (.ref f_free_figures) = true)
    (a_read_through : PySem.W.nsIn K mainGlobals "read_through" = some (some (.ref f_read_through))) (l_read_through : K.lookup f_read_through = some ⟨oc_read_through, od_read_through, .func (PySem.W.fnOf "read_through" "read_through" (defArgs sThrough) (defBody sThrough) (defScope sThrough) .none kV_read_through dc_read_through pm_read_through an_read_through cd_read_through ct_read_through), sl_read_through⟩) (c_read_through : PySem.W.codeIn K cd_read_through "read_through" = true) (k_read_through : PySem.W.keepIn K (.ref f_read_through) = true)
    (a_table_of : PySem.W.nsIn K mainGlobals "table_of" = some (some (.ref f_table_of))) (l_table_of : K.lookup f_table_of = some ⟨oc_table_of, od_table_of, .func (PySem.W.fnOf "table_of" "table_of" (defArgs sTable) (defBody sTable) (defScope sTable) .none kV_table_of dc_table_of pm_table_of an_table_of cd_table_of ct_table_of), sl_table_of⟩) (c_table_of : PySem.W.codeIn K cd_table_of "table_of" = true) (k_table_of : PySem.W.keepIn K (.ref f_table_of) = true)
    (a_answers : PySem.W.nsIn K mainGlobals "answers" = some (some (.ref f_answers))) (l_answers : K.lookup f_answers = some ⟨oc_answers, od_answers, .func (PySem.W.fnOf "answers" "answers" (defArgs sAnswers) (defBody sAnswers) (defScope sAnswers) .none kV_answers dc_answers pm_answers an_answers cd_answers ct_answers), sl_answers⟩) (c_answers : PySem.W.codeIn K cd_answers "answers" = true) (k_answers : PySem.W.keepIn K (.ref f_answers) = true)
    (a_how_many : PySem.W.nsIn K mainGlobals "how_many" = some (some (.ref f_how_many))) (l_how_many : K.lookup f_how_many = some ⟨oc_how_many, od_how_many, .func (PySem.W.fnOf "how_many" "how_many" (defArgs sHowMany) (defBody sHowMany) (defScope sHowMany) .none kV_how_many dc_how_many pm_how_many an_how_many cd_how_many ct_how_many), sl_how_many⟩) (c_how_many : PySem.W.codeIn K cd_how_many "how_many" = true) (k_how_many : PySem.W.keepIn K (.ref f_how_many) = true)
    (a_by_weight : PySem.W.nsIn K mainGlobals "by_weight" = some (some (.ref f_by_weight))) (l_by_weight : K.lookup f_by_weight = some ⟨oc_by_weight, od_by_weight, .func (PySem.W.fnOf "by_weight" "by_weight" (defArgs sByWeight) (defBody sByWeight) (defScope sByWeight) .none kV_by_weight dc_by_weight pm_by_weight an_by_weight (.ref cA) ct_by_weight), sl_by_weight⟩) (c_by_weight : PySem.W.codeIn K (.ref cA) "by_weight" = true) (k_by_weight : PySem.W.keepIn K (.ref f_by_weight) = true)
    (a_spans_of : PySem.W.nsIn K mainGlobals "spans_of" = some (some (.ref f_spans_of))) (l_spans_of : K.lookup f_spans_of = some ⟨oc_spans_of, od_spans_of, .func (PySem.W.fnOf "spans_of" "spans_of" (defArgs sSpansOf) (defBody sSpansOf) (defScope sSpansOf) .none kV_spans_of dc_spans_of pm_spans_of an_spans_of cd_spans_of ct_spans_of), sl_spans_of⟩) (c_spans_of : PySem.W.codeIn K cd_spans_of "spans_of" = true) (k_spans_of : PySem.W.keepIn K (.ref f_spans_of) = true)
    (a_with_one_more : PySem.W.nsIn K mainGlobals "with_one_more" = some (some (.ref f_with_one_more))) (l_with_one_more : K.lookup f_with_one_more = some ⟨oc_with_one_more, od_with_one_more, .func (PySem.W.fnOf "with_one_more" "with_one_more" (defArgs sWithOneMore) (defBody sWithOneMore) (defScope sWithOneMore) .none kV_with_one_more dc_with_one_more pm_with_one_more an_with_one_more cd_with_one_more ct_with_one_more), sl_with_one_more⟩) (c_with_one_more : PySem.W.codeIn K cd_with_one_more "with_one_more" = true) (k_with_one_more : PySem.W.keepIn K (.ref f_with_one_more) = true)
    (a_is_within : PySem.W.nsIn K mainGlobals "is_within" = some (some (.ref f_is_within))) (l_is_within : K.lookup f_is_within = some ⟨oc_is_within, od_is_within, .func (PySem.W.fnOf "is_within" "is_within" (defArgs sIsWithin) (defBody sIsWithin) (defScope sIsWithin) .none kV_is_within dc_is_within pm_is_within an_is_within cd_is_within ct_is_within), sl_is_within⟩) (c_is_within : PySem.W.codeIn K cd_is_within "is_within" = true) (k_is_within : PySem.W.keepIn K (.ref f_is_within) = true)
    (a_only : PySem.W.nsIn K mainGlobals "only" = some (some (.ref f_only))) (l_only : K.lookup f_only = some ⟨oc_only, od_only, .func (PySem.W.fnOf "only" "only" (defArgs sOnly) (defBody sOnly) (defScope sOnly) .none kV_only dc_only pm_only an_only cd_only ct_only), sl_only⟩) (c_only : PySem.W.codeIn K cd_only "only" = true) (k_only : PySem.W.keepIn K (.ref f_only) = true)
    (a_sure : PySem.W.nsIn K mainGlobals "sure" = some (some (.ref f_sure))) (l_sure : K.lookup f_sure = some ⟨oc_sure, od_sure, .func (PySem.W.fnOf "sure" "sure" (defArgs sSure) (defBody sSure) (defScope sSure) .none kV_sure dc_sure pm_sure an_sure cd_sure ct_sure), sl_sure⟩) (c_sure : PySem.W.codeIn K cd_sure "sure" = true) (k_sure : PySem.W.keepIn K (.ref f_sure) = true)
    (a_givens : PySem.W.nsIn K mainGlobals "givens" = some (some (.ref f_givens))) (l_givens : K.lookup f_givens = some ⟨oc_givens, od_givens, .func (PySem.W.fnOf "givens" "givens" (defArgs sGivens) (defBody sGivens) (defScope sGivens) .none kV_givens dc_givens pm_givens an_givens cd_givens ct_givens), sl_givens⟩) (c_givens : PySem.W.codeIn K cd_givens "givens" = true) (k_givens : PySem.W.keepIn K (.ref f_givens) = true)
    (a_having : PySem.W.nsIn K mainGlobals "having" = some (some (.ref f_having))) (l_having : K.lookup f_having = some ⟨oc_having, od_having, .func (PySem.W.fnOf "having" "having" (defArgs sHaving) (defBody sHaving) (defScope sHaving) .none kV_having dc_having pm_having an_having cd_having ct_having), sl_having⟩) (c_having : PySem.W.codeIn K cd_having "having" = true) (k_having : PySem.W.keepIn K (.ref f_having) = true)
    (a__law_dice : PySem.W.nsIn K mainGlobals "_law_dice" = some (some (.ref f__law_dice))) (l__law_dice : K.lookup f__law_dice = some ⟨oc__law_dice, od__law_dice, .func (PySem.W.fnOf "_law_dice" "_law_dice" (defArgs sDice) (defBody sDice) (defScope sDice) .none kV__law_dice dc__law_dice pm__law_dice an__law_dice cd__law_dice ct__law_dice), sl__law_dice⟩) (c__law_dice : PySem.W.codeIn K cd__law_dice "_law_dice" = true) (k__law_dice : PySem.W.keepIn K (.ref f__law_dice) = true)
    (a__law_next : PySem.W.nsIn K mainGlobals "_law_next" = some (some (.ref f__law_next))) (l__law_next : K.lookup f__law_next = some ⟨oc__law_next, od__law_next, .func (PySem.W.fnOf "_law_next" "_law_next" (defArgs sNext) (defBody sNext) (defScope sNext) .none kV__law_next dc__law_next pm__law_next an__law_next cd__law_next ct__law_next), sl__law_next⟩) (c__law_next : PySem.W.codeIn K cd__law_next "_law_next" = true) (k__law_next : PySem.W.keepIn K (.ref f__law_next) = true)
    (a__law_word : PySem.W.nsIn K mainGlobals "_law_word" = some (some (.ref f__law_word))) (l__law_word : K.lookup f__law_word = some ⟨oc__law_word, od__law_word, .func (PySem.W.fnOf "_law_word" "_law_word" (defArgs sWord) (defBody sWord) (defScope sWord) .none kV__law_word dc__law_word pm__law_word an__law_word cd__law_word ct__law_word), sl__law_word⟩) (c__law_word : PySem.W.codeIn K cd__law_word "_law_word" = true) (k__law_word : PySem.W.keepIn K (.ref f__law_word) = true)
    (a__law_names : PySem.W.nsIn K mainGlobals "_law_names" = some (some (.ref f__law_names))) (l__law_names : K.lookup f__law_names = some ⟨oc__law_names, od__law_names, .func (PySem.W.fnOf "_law_names" "_law_names" (defArgs sNames) (defBody sNames) (defScope sNames) .none kV__law_names dc__law_names pm__law_names an__law_names cd__law_names ct__law_names), sl__law_names⟩) (c__law_names : PySem.W.codeIn K cd__law_names "_law_names" = true) (k__law_names : PySem.W.keepIn K (.ref f__law_names) = true)
    (a__law_sum : PySem.W.nsIn K mainGlobals "_law_sum" = some (some (.ref f__law_sum))) (l__law_sum : K.lookup f__law_sum = some ⟨oc__law_sum, od__law_sum, .func (PySem.W.fnOf "_law_sum" "_law_sum" (defArgs sSum) (defBody sSum) (defScope sSum) .none kV__law_sum dc__law_sum pm__law_sum an__law_sum cd__law_sum ct__law_sum), sl__law_sum⟩) (c__law_sum : PySem.W.codeIn K cd__law_sum "_law_sum" = true) (k__law_sum : PySem.W.keepIn K (.ref f__law_sum) = true)
    (a__law_sheet : PySem.W.nsIn K mainGlobals "_law_sheet" = some (some (.ref f__law_sheet))) (l__law_sheet : K.lookup f__law_sheet = some ⟨oc__law_sheet, od__law_sheet, .func (PySem.W.fnOf "_law_sheet" "_law_sheet" (defArgs sSheet) (defBody sSheet) (defScope sSheet) .none kV__law_sheet dc__law_sheet pm__law_sheet an__law_sheet cd__law_sheet ct__law_sheet), sl__law_sheet⟩) (c__law_sheet : PySem.W.codeIn K cd__law_sheet "_law_sheet" = true) (k__law_sheet : PySem.W.keepIn K (.ref f__law_sheet) = true)
    (a__law_told : PySem.W.nsIn K mainGlobals "_law_told" = some (some (.ref f__law_told))) (l__law_told : K.lookup f__law_told = some ⟨oc__law_told, od__law_told, .func (PySem.W.fnOf "_law_told" "_law_told" (defArgs sLTold) (defBody sLTold) (defScope sLTold) .none kV__law_told dc__law_told pm__law_told an__law_told cd__law_told ct__law_told), sl__law_told⟩) (c__law_told : PySem.W.codeIn K cd__law_told "_law_told" = true) (k__law_told : PySem.W.keepIn K (.ref f__law_told) = true)
    (a_law : PySem.W.nsIn K mainGlobals "law" = some (some (.ref f_law))) (l_law : K.lookup f_law = some ⟨oc_law, od_law, .func (PySem.W.fnOf "law" "law" (defArgs sLaw) (defBody sLaw) (defScope sLaw) .none kV_law dc_law pm_law an_law cd_law ct_law), sl_law⟩) (c_law : PySem.W.codeIn K cd_law "law" = true) (k_law : PySem.W.keepIn K (.ref f_law) = true)
    (a_NoAnswer_init : PySem.W.findIn K (.ref C_NoAnswer) "__init__" = some (some (.ref f_NoAnswer_init))) (i_NoAnswer_init : PySem.W.isFn K (.ref f_NoAnswer_init) = true) (l_NoAnswer_init : K.lookup f_NoAnswer_init = some ⟨oc_NoAnswer_init, od_NoAnswer_init, .func (PySem.W.fnOf "__init__" "NoAnswer.__init__" (defArgs sNaInit) (defBody sNaInit) (defScope sNaInit) .none kV_NoAnswer_init dc_NoAnswer_init pm_NoAnswer_init an_NoAnswer_init cd_NoAnswer_init ct_NoAnswer_init), sl_NoAnswer_init⟩) (c_NoAnswer_init : PySem.W.codeIn K cd_NoAnswer_init "NoAnswer.__init__" = true) (k_NoAnswer_init : PySem.W.keepIn K (.ref f_NoAnswer_init) = true)
    (a_ManyAnswers_init : PySem.W.findIn K (.ref C_ManyAnswers) "__init__" = some (some (.ref f_ManyAnswers_init))) (i_ManyAnswers_init : PySem.W.isFn K (.ref f_ManyAnswers_init) = true) (l_ManyAnswers_init : K.lookup f_ManyAnswers_init = some ⟨oc_ManyAnswers_init, od_ManyAnswers_init, .func (PySem.W.fnOf "__init__" "ManyAnswers.__init__" (defArgs sMaInit) (defBody sMaInit) (defScope sMaInit) .none kV_ManyAnswers_init dc_ManyAnswers_init pm_ManyAnswers_init an_ManyAnswers_init cd_ManyAnswers_init ct_ManyAnswers_init), sl_ManyAnswers_init⟩) (c_ManyAnswers_init : PySem.W.codeIn K cd_ManyAnswers_init "ManyAnswers.__init__" = true) (k_ManyAnswers_init : PySem.W.keepIn K (.ref f_ManyAnswers_init) = true)
    (a_Sheet_init : PySem.W.findIn K (.ref C_Sheet) "__init__" = some (some (.ref f_Sheet_init))) (i_Sheet_init : PySem.W.isFn K (.ref f_Sheet_init) = true) (l_Sheet_init : K.lookup f_Sheet_init = some ⟨oc_Sheet_init, od_Sheet_init, .func (PySem.W.fnOf "__init__" "Sheet.__init__" (defArgs sShInit) (defBody sShInit) (defScope sShInit) .none kV_Sheet_init dc_Sheet_init pm_Sheet_init an_Sheet_init cd_Sheet_init ct_Sheet_init), sl_Sheet_init⟩) (c_Sheet_init : PySem.W.codeIn K cd_Sheet_init "Sheet.__init__" = true) (k_Sheet_init : PySem.W.keepIn K (.ref f_Sheet_init) = true)
    (a_Sheet_sums : PySem.W.findIn K (.ref C_Sheet) "sums" = some (some (.ref f_Sheet_sums))) (i_Sheet_sums : PySem.W.isFn K (.ref f_Sheet_sums) = true) (l_Sheet_sums : K.lookup f_Sheet_sums = some ⟨oc_Sheet_sums, od_Sheet_sums, .func (PySem.W.fnOf "sums" "Sheet.sums" (defArgs sShSums) (defBody sShSums) (defScope sShSums) .none kV_Sheet_sums dc_Sheet_sums pm_Sheet_sums an_Sheet_sums cd_Sheet_sums ct_Sheet_sums), sl_Sheet_sums⟩) (c_Sheet_sums : PySem.W.codeIn K cd_Sheet_sums "Sheet.sums" = true) (k_Sheet_sums : PySem.W.keepIn K (.ref f_Sheet_sums) = true)
    (a_Sheet_letters : PySem.W.findIn K (.ref C_Sheet) "letters" = some (some (.ref f_Sheet_letters))) (i_Sheet_letters : PySem.W.isFn K (.ref f_Sheet_letters) = true) (l_Sheet_letters : K.lookup f_Sheet_letters = some ⟨oc_Sheet_letters, od_Sheet_letters, .func (PySem.W.fnOf "letters" "Sheet.letters" (defArgs sShLetters) (defBody sShLetters) (defScope sShLetters) .none kV_Sheet_letters dc_Sheet_letters pm_Sheet_letters an_Sheet_letters cd_Sheet_letters ct_Sheet_letters), sl_Sheet_letters⟩) (c_Sheet_letters : PySem.W.codeIn K cd_Sheet_letters "Sheet.letters" = true) (k_Sheet_letters : PySem.W.keepIn K (.ref f_Sheet_letters) = true)
    (a_Reader_init : PySem.W.findIn K (.ref C_Reader) "__init__" = some (some (.ref f_Reader_init))) (i_Reader_init : PySem.W.isFn K (.ref f_Reader_init) = true) (l_Reader_init : K.lookup f_Reader_init = some ⟨oc_Reader_init, od_Reader_init, .func (PySem.W.fnOf "__init__" "Reader.__init__" (defArgs sRdInit) (defBody sRdInit) (defScope sRdInit) .none kV_Reader_init dc_Reader_init pm_Reader_init an_Reader_init cd_Reader_init ct_Reader_init), sl_Reader_init⟩) (c_Reader_init : PySem.W.codeIn K cd_Reader_init "Reader.__init__" = true) (k_Reader_init : PySem.W.keepIn K (.ref f_Reader_init) = true)
    (a_Reader_case_from : PySem.W.findIn K (.ref C_Reader) "case_from" = some (some (.ref f_Reader_case_from))) (i_Reader_case_from : PySem.W.isFn K (.ref f_Reader_case_from) = true) (l_Reader_case_from : K.lookup f_Reader_case_from = some ⟨oc_Reader_case_from, od_Reader_case_from, .func (PySem.W.fnOf "case_from" "Reader.case_from" (defArgs sRdCaseFrom) (defBody sRdCaseFrom) (defScope sRdCaseFrom) .none kV_Reader_case_from dc_Reader_case_from pm_Reader_case_from an_Reader_case_from cd_Reader_case_from ct_Reader_case_from), sl_Reader_case_from⟩) (c_Reader_case_from : PySem.W.codeIn K cd_Reader_case_from "Reader.case_from" = true) (k_Reader_case_from : PySem.W.keepIn K (.ref f_Reader_case_from) = true)
    (a_Reader_parted : PySem.W.findIn K (.ref C_Reader) "parted" = some (some (.ref f_Reader_parted))) (i_Reader_parted : PySem.W.isFn K (.ref f_Reader_parted) = true) (l_Reader_parted : K.lookup f_Reader_parted = some ⟨oc_Reader_parted, od_Reader_parted, .func (PySem.W.fnOf "parted" "Reader.parted" (defArgs sRdParted) (defBody sRdParted) (defScope sRdParted) .none kV_Reader_parted dc_Reader_parted pm_Reader_parted an_Reader_parted cd_Reader_parted ct_Reader_parted), sl_Reader_parted⟩) (c_Reader_parted : PySem.W.codeIn K cd_Reader_parted "Reader.parted" = true) (k_Reader_parted : PySem.W.keepIn K (.ref f_Reader_parted) = true)
    (a_Reader_forced : PySem.W.findIn K (.ref C_Reader) "forced" = some (some (.ref f_Reader_forced))) (i_Reader_forced : PySem.W.isFn K (.ref f_Reader_forced) = true) (l_Reader_forced : K.lookup f_Reader_forced = some ⟨oc_Reader_forced, od_Reader_forced, .func (PySem.W.fnOf "forced" "Reader.forced" (defArgs sRdForced) (defBody sRdForced) (defScope sRdForced) .none kV_Reader_forced dc_Reader_forced pm_Reader_forced an_Reader_forced cd_Reader_forced ct_Reader_forced), sl_Reader_forced⟩) (c_Reader_forced : PySem.W.codeIn K cd_Reader_forced "Reader.forced" = true) (k_Reader_forced : PySem.W.keepIn K (.ref f_Reader_forced) = true)
    (a_Reader_compared : PySem.W.findIn K (.ref C_Reader) "compared" = some (some (.ref f_Reader_compared))) (i_Reader_compared : PySem.W.isFn K (.ref f_Reader_compared) = true) (l_Reader_compared : K.lookup f_Reader_compared = some ⟨oc_Reader_compared, od_Reader_compared, .func (PySem.W.fnOf "compared" "Reader.compared" (defArgs sRdCompared) (defBody sRdCompared) (defScope sRdCompared) .none kV_Reader_compared dc_Reader_compared pm_Reader_compared an_Reader_compared cd_Reader_compared ct_Reader_compared), sl_Reader_compared⟩) (c_Reader_compared : PySem.W.codeIn K cd_Reader_compared "Reader.compared" = true) (k_Reader_compared : PySem.W.keepIn K (.ref f_Reader_compared) = true)
    (a_Reader_column_end : PySem.W.findIn K (.ref C_Reader) "column_end" = some (some (.ref f_Reader_column_end))) (i_Reader_column_end : PySem.W.isFn K (.ref f_Reader_column_end) = true) (l_Reader_column_end : K.lookup f_Reader_column_end = some ⟨oc_Reader_column_end, od_Reader_column_end, .func (PySem.W.fnOf "column_end" "Reader.column_end" (defArgs sRdColumnEnd) (defBody sRdColumnEnd) (defScope sRdColumnEnd) .none kV_Reader_column_end dc_Reader_column_end pm_Reader_column_end an_Reader_column_end cd_Reader_column_end ct_Reader_column_end), sl_Reader_column_end⟩) (c_Reader_column_end : PySem.W.codeIn K cd_Reader_column_end "Reader.column_end" = true) (k_Reader_column_end : PySem.W.keepIn K (.ref f_Reader_column_end) = true)
    (pg_Sheet : PySem.W.plainGet K C_Sheet Str.empty = true) (hd_Sheet : PySem.W.hasDictIn K C_Sheet = true) (po_Sheet : PySem.W.plainOver K C_Sheet = true) (sa_Sheet : PySem.W.findIn K (.ref C_Sheet) "__setattr__" = some (some (.builtin "object.__setattr__")))
    (mk_Sheet : PySem.W.makesIn K C_Sheet = true) (kc_Sheet : PySem.W.keepIn K (.ref C_Sheet) = true)
    (n_Sheet_base : PySem.W.findIn K (.ref C_Sheet) "base" = some none)
    (n_Sheet_kept : PySem.W.findIn K (.ref C_Sheet) "kept" = some none)
    (pg_Reader : PySem.W.plainGet K C_Reader Str.empty = true) (hd_Reader : PySem.W.hasDictIn K C_Reader = true) (po_Reader : PySem.W.plainOver K C_Reader = true) (sa_Reader : PySem.W.findIn K (.ref C_Reader) "__setattr__" = some (some (.builtin "object.__setattr__")))
    (mk_Reader : PySem.W.makesIn K C_Reader = true) (kc_Reader : PySem.W.keepIn K (.ref C_Reader) = true)
    (n_Reader_base : PySem.W.findIn K (.ref C_Reader) "base" = some none)
    (n_Reader_order : PySem.W.findIn K (.ref C_Reader) "order" = some none)
    (n_Reader_firsts : PySem.W.findIn K (.ref C_Reader) "firsts" = some none)
    (n_Reader_steps : PySem.W.findIn K (.ref C_Reader) "steps" = some none)
    (n_Reader_found : PySem.W.findIn K (.ref C_Reader) "found" = some none)
    (y_abs : PySem.W.nsIn K mainGlobals "abs" = some none)
    (y_all : PySem.W.nsIn K mainGlobals "all" = some none)
    (y_dict : PySem.W.nsIn K mainGlobals "dict" = some none)
    (y_divmod : PySem.W.nsIn K mainGlobals "divmod" = some none)
    (y_enumerate : PySem.W.nsIn K mainGlobals "enumerate" = some none)
    (y_int : PySem.W.nsIn K mainGlobals "int" = some none)
    (y_len : PySem.W.nsIn K mainGlobals "len" = some none)
    (y_list : PySem.W.nsIn K mainGlobals "list" = some none)
    (y_max : PySem.W.nsIn K mainGlobals "max" = some none)
    (y_min : PySem.W.nsIn K mainGlobals "min" = some none)
    (y_range : PySem.W.nsIn K mainGlobals "range" = some none)
    (y_reversed : PySem.W.nsIn K mainGlobals "reversed" = some none)
    (y_set : PySem.W.nsIn K mainGlobals "set" = some none)
    (y_sorted : PySem.W.nsIn K mainGlobals "sorted" = some none)
    (y_sum : PySem.W.nsIn K mainGlobals "sum" = some none)
    (y_tuple : PySem.W.nsIn K mainGlobals "tuple" = some none)
    (y_zip : PySem.W.nsIn K mainGlobals "zip" = some none)
    (x_LEAST_BASE : PySem.W.nsIn K mainGlobals "LEAST_BASE" = some (some (.int 2 t_LEAST_BASE)))
    (x_MOST_BASE : PySem.W.nsIn K mainGlobals "MOST_BASE" = some (some (.int 12 t_MOST_BASE)))
    (x_MOST_SUMS : PySem.W.nsIn K mainGlobals "MOST_SUMS" = some (some (.int 3 t_MOST_SUMS)))
    (x_MOST_ADDENDS : PySem.W.nsIn K mainGlobals "MOST_ADDENDS" = some (some (.int 4 t_MOST_ADDENDS)))
    (x_MOST_IN_WORD : PySem.W.nsIn K mainGlobals "MOST_IN_WORD" = some (some (.int 6 t_MOST_IN_WORD)))
    (x_MOST_LETTERS : PySem.W.nsIn K mainGlobals "MOST_LETTERS" = some (some (.int 8 t_MOST_LETTERS)))
    (x_SMALL_LETTERS : PySem.W.nsIn K mainGlobals "SMALL_LETTERS" = some (some (.str abc t_SMALL_LETTERS)))
    {nmX0 qX0 : Str} {NX0 : Addr} {bsX0 bmX0 : List Value} {snX0 : List Str} {subX0 : List Value} {abX0 : Bool} {colX0 : Option Bool} {ddX0 : Option Addr} {k0X0 k1X0 k2X0 k3X0 k5X0 : Option Value} {nmX1 qX1 : Str} {NX1 : Addr} {bsX1 bmX1 : List Value} {snX1 : List Str} {subX1 : List Value} {abX1 : Bool} {colX1 : Option Bool} {ddX1 : Option Addr} {k0X1 k1X1 k2X1 k3X1 k5X1 : Option Value}
    (a_SumError : PySem.W.nsIn K mainGlobals "SumError" = some (some (.ref C_SumError)))
    (a_NoAnswer : PySem.W.nsIn K mainGlobals "NoAnswer" = some (some (.ref C_NoAnswer)))
    (a_ManyAnswers : PySem.W.nsIn K mainGlobals "ManyAnswers" = some (some (.ref C_ManyAnswers)))
    (sb_SumError : PySem.W.subIn K (.ref C_SumError) (.type "BaseException") = some true)
    (hd_SumError : PySem.W.hasDictIn K C_SumError = true)
    (ty_SumError : PySem.W.typeIn K (.ref C_SumError) = some (.type "type"))
    (rd_SumError : PySem.W.readsIn K C_SumError (.type "type") = true)
    (ga_SumError : PySem.W.specialIn K (.ref C_SumError) "__getattribute__" = some (some (.builtin "type.__getattribute__")))
    (it_SumError : PySem.W.findCls K (.ref C_SumError) (.type "type") "__init__" = some (.val (.builtin "ValueError.__init__")))
    (cl_NoAnswer : K.lookup C_NoAnswer = some (excClassObj nmX0 qX0 C_NoAnswer NX0 bsX0 bmX0 true snX0 subX0 abX0 colX0 ddX0 k0X0 k1X0 k2X0 k3X0 k5X0 "ValueError.__new__"))
    (rv_NoAnswer : PySem.HandSPX.refsVE bmX0 = true)
    (st_NoAnswer : PySem.W.findIn K (.ref C_NoAnswer) "__setattr__" = some (some (.builtin "object.__setattr__")))
    (kp_NoAnswer : PySem.W.keepIn K (.ref C_NoAnswer) = true)
    (sb_NoAnswer : PySem.W.subIn K (.ref C_NoAnswer) (.type "BaseException") = some true)
    (ty_NoAnswer : PySem.W.typeIn K (.ref C_NoAnswer) = some (.type "type"))
    (tf_NoAnswer : PySem.W.typeIn K (.ref f_NoAnswer_init) = some (.type "function"))
    (n_NoAnswer_table : PySem.W.findIn K (.ref C_NoAnswer) "table" = some none)
    (sn_NoAnswer : PySem.W.subIn K (.ref C_NoAnswer) (.ref C_SumError) = some true)
    (hg_NoAnswer : PySem.W.findIn K (.ref C_NoAnswer) "__getattribute__" = some (some (.builtin "BaseException.__getattribute__")))
    (hk_NoAnswer : PySem.W.findIn K (.ref C_NoAnswer) "__getattr__" = some none)
    (hd_NoAnswer : PySem.W.hasDictIn K C_NoAnswer = true)
    (ss_NoAnswer : PySem.W.subIn K (.ref C_NoAnswer) (.ref C_NoAnswer) = some true)
    (cl_ManyAnswers : K.lookup C_ManyAnswers = some (excClassObj nmX1 qX1 C_ManyAnswers NX1 bsX1 bmX1 true snX1 subX1 abX1 colX1 ddX1 k0X1 k1X1 k2X1 k3X1 k5X1 "ValueError.__new__"))
    (rv_ManyAnswers : PySem.HandSPX.refsVE bmX1 = true)
    (st_ManyAnswers : PySem.W.findIn K (.ref C_ManyAnswers) "__setattr__" = some (some (.builtin "object.__setattr__")))
    (kp_ManyAnswers : PySem.W.keepIn K (.ref C_ManyAnswers) = true)
    (sb_ManyAnswers : PySem.W.subIn K (.ref C_ManyAnswers) (.type "BaseException") = some true)
    (ty_ManyAnswers : PySem.W.typeIn K (.ref C_ManyAnswers) = some (.type "type"))
    (tf_ManyAnswers : PySem.W.typeIn K (.ref f_ManyAnswers_init) = some (.type "function"))
    (n_ManyAnswers_two : PySem.W.findIn K (.ref C_ManyAnswers) "two" = some none)
    (sn_ManyAnswers : PySem.W.subIn K (.ref C_ManyAnswers) (.ref C_SumError) = some true)
    (hg_ManyAnswers : PySem.W.findIn K (.ref C_ManyAnswers) "__getattribute__" = some (some (.builtin "BaseException.__getattribute__")))
    (hk_ManyAnswers : PySem.W.findIn K (.ref C_ManyAnswers) "__getattr__" = some none)
    (hd_ManyAnswers : PySem.W.hasDictIn K C_ManyAnswers = true)
    (ss_ManyAnswers : PySem.W.subIn K (.ref C_ManyAnswers) (.ref C_ManyAnswers) = some true)
    (sx_ManyNone : PySem.W.subIn K (.ref C_ManyAnswers) (.ref C_NoAnswer) = some false)
    (tb_lam : PySem.W.codeHdIn K cA PT = true) (nt_lam : K.lookup PT = none)
    : (K.lookup PT = none ∧ PySem.W.codeHdIn K cA PT = true) ∧ ∃ fd : FuncData, (∀ (s : Shared) (v : Value), BindsTo s fd ⟨[v], []⟩ [("_law_script", v)]) ∧ ∀ base : Heap, K.In base → base.Ns mainGlobals mg → LamX.TabB base mg cA PT → FnOk l.prog w K mg base CX0 196 fa fd ["_law_script"] (spLawT K PT) := by
  have e := hfa.symm.trans (PySem.W.mg_of X G a_law)
  cases e
  have T_Sheet : SheetTxt K mg C_Sheet := ⟨⟨pg_Sheet, hd_Sheet, po_Sheet, sa_Sheet⟩, n_Sheet_base, n_Sheet_kept, PySem.W.mg_of X G a_Sheet⟩
  have T_Reader : ReaderTxt K mg C_Reader := ⟨⟨pg_Reader, hd_Reader, po_Reader, sa_Reader⟩, n_Reader_base, n_Reader_order, n_Reader_firsts, n_Reader_steps, n_Reader_found, PySem.W.mg_of X G a_Reader⟩
  have F_check_counts := fun_mk (st := sCounts) l_check_counts c_check_counts k_check_counts
  have b_check_counts := F_check_counts.binds (ps := ["base", "sums"]) fun _ _ _ _ _ _ us hl => match us, hl with | [_, _], _ => rfl
  have S_check_counts : Site K mg "check_counts" f_check_counts _ ["base", "sums"] := ⟨PySem.W.mg_of X G a_check_counts, k_check_counts, b_check_counts⟩
  have F_check_sums := fun_mk (st := sCheck) l_check_sums c_check_sums k_check_sums
  have b_check_sums := F_check_sums.binds (ps := ["base", "sums"]) fun _ _ _ _ _ _ us hl => match us, hl with | [_, _], _ => rfl
  have S_check_sums : Site K mg "check_sums" f_check_sums _ ["base", "sums"] := ⟨PySem.W.mg_of X G a_check_sums, k_check_sums, b_check_sums⟩
  have F_is_word := fun_mk (st := sIsWord) l_is_word c_is_word k_is_word
  have b_is_word := F_is_word.binds (ps := ["text"]) fun _ _ _ _ _ _ us hl => match us, hl with | [_], _ => rfl
  have S_is_word : Site K mg "is_word" f_is_word _ ["text"] := ⟨PySem.W.mg_of X G a_is_word, k_is_word, b_is_word⟩
  have F_column_count := fun_mk (st := sColCount) l_column_count c_column_count k_column_count
  have b_column_count := F_column_count.binds (ps := ["addends", "total"]) fun _ _ _ _ _ _ us hl => match us, hl with | [_, _], _ => rfl
  have S_column_count : Site K mg "column_count" f_column_count _ ["addends", "total"] := ⟨PySem.W.mg_of X G a_column_count, k_column_count, b_column_count⟩
  have F_letter_at := fun_mk (st := sLetterAt) l_letter_at c_letter_at k_letter_at
  have b_letter_at := F_letter_at.binds (ps := ["word", "place"]) fun _ _ _ _ _ _ us hl => match us, hl with | [_, _], _ => rfl
  have S_letter_at : Site K mg "letter_at" f_letter_at _ ["word", "place"] := ⟨PySem.W.mg_of X G a_letter_at, k_letter_at, b_letter_at⟩
  have F_column_of := fun_mk (st := sColOf) l_column_of c_column_of k_column_of
  have b_column_of := F_column_of.binds (ps := ["words", "place"]) fun _ _ _ _ _ _ us hl => match us, hl with | [_, _], _ => rfl
  have S_column_of : Site K mg "column_of" f_column_of _ ["words", "place"] := ⟨PySem.W.mg_of X G a_column_of, k_column_of, b_column_of⟩
  have F_first_letters := fun_mk (st := sFirsts) l_first_letters c_first_letters k_first_letters
  have b_first_letters := F_first_letters.binds (ps := ["sheet"]) fun _ _ _ _ _ _ us hl => match us, hl with | [_], _ => rfl
  have S_first_letters : Site K mg "first_letters" f_first_letters _ ["sheet"] := ⟨PySem.W.mg_of X G a_first_letters, k_first_letters, b_first_letters⟩
  have F_worth := fun_mk (st := sWorth) l_worth c_worth k_worth
  have b_worth := F_worth.binds (ps := ["word", "figures", "base"]) fun _ _ _ _ _ _ us hl => match us, hl with | [_, _, _], _ => rfl
  have S_worth : Site K mg "worth" f_worth _ ["word", "figures", "base"] := ⟨PySem.W.mg_of X G a_worth, k_worth, b_worth⟩
  have F_surplus := fun_mk (st := sSurplus) l_surplus c_surplus k_surplus
  have b_surplus := F_surplus.binds (ps := ["addends", "total", "figures", "base"]) fun _ _ _ _ _ _ us hl => match us, hl with | [_, _, _, _], _ => rfl
  have S_surplus : Site K mg "surplus" f_surplus _ ["addends", "total", "figures", "base"] := ⟨PySem.W.mg_of X G a_surplus, k_surplus, b_surplus⟩
  have F_steps_of := fun_mk (st := sStepsOf) l_steps_of c_steps_of k_steps_of
  have b_steps_of := F_steps_of.binds (ps := ["sheet"]) fun _ _ _ _ _ _ us hl => match us, hl with | [_], _ => rfl
  have S_steps_of : Site K mg "steps_of" f_steps_of _ ["sheet"] := ⟨PySem.W.mg_of X G a_steps_of, k_steps_of, b_steps_of⟩
  have F_free_figures := fun_mk (st := sFree) l_free_figures c_free_figures k_free_figures
  have b_free_figures := F_free_figures.binds (ps := ["letter", "figures", "firsts", "base"]) fun _ _ _ _ _ _ us hl => match us, hl with | [_, _, _, _], _ => rfl
  have S_free_figures : Site K mg "free_figures" f_free_figures _ ["letter", "figures", "firsts", "base"] := ⟨PySem.W.mg_of X G a_free_figures, k_free_figures, b_free_figures⟩
  have F_read_through := fun_mk (st := sThrough) l_read_through c_read_through k_read_through
  have b_read_through := F_read_through.binds (ps := ["sheet"]) fun _ _ _ _ _ _ us hl => match us, hl with | [_], _ => rfl
  have S_read_through : Site K mg "read_through" f_read_through _ ["sheet"] := ⟨PySem.W.mg_of X G a_read_through, k_read_through, b_read_through⟩
  have F_table_of := fun_mk (st := sTable) l_table_of c_table_of k_table_of
  have b_table_of := F_table_of.binds (ps := ["sheet"]) fun _ _ _ _ _ _ us hl => match us, hl with | [_], _ => rfl
  have S_table_of : Site K mg "table_of" f_table_of _ ["sheet"] := ⟨PySem.W.mg_of X G a_table_of, k_table_of, b_table_of⟩
  have F_answers := fun_mk (st := sAnswers) l_answers c_answers k_answers
  have b_answers := F_answers.binds (ps := ["sheet"]) fun _ _ _ _ _ _ us hl => match us, hl with | [_], _ => rfl
  have S_answers : Site K mg "answers" f_answers _ ["sheet"] := ⟨PySem.W.mg_of X G a_answers, k_answers, b_answers⟩
  have F_how_many := fun_mk (st := sHowMany) l_how_many c_how_many k_how_many
  have b_how_many := F_how_many.binds (ps := ["sheet"]) fun _ _ _ _ _ _ us hl => match us, hl with | [_], _ => rfl
  have S_how_many : Site K mg "how_many" f_how_many _ ["sheet"] := ⟨PySem.W.mg_of X G a_how_many, k_how_many, b_how_many⟩
  have F_by_weight := fun_mk (st := sByWeight) l_by_weight c_by_weight k_by_weight
  have b_by_weight := F_by_weight.binds (ps := ["sheet"]) fun _ _ _ _ _ _ us hl => match us, hl with | [_], _ => rfl
  have S_by_weight : Site K mg "by_weight" f_by_weight _ ["sheet"] := ⟨PySem.W.mg_of X G a_by_weight, k_by_weight, b_by_weight⟩
  have F_spans_of := fun_mk (st := sSpansOf) l_spans_of c_spans_of k_spans_of
  have b_spans_of := F_spans_of.binds (ps := ["waiting", "sheet"]) fun _ _ _ _ _ _ us hl => match us, hl with | [_, _], _ => rfl
  have S_spans_of : Site K mg "spans_of" f_spans_of _ ["waiting", "sheet"] := ⟨PySem.W.mg_of X G a_spans_of, k_spans_of, b_spans_of⟩
  have F_with_one_more := fun_mk (st := sWithOneMore) l_with_one_more c_with_one_more k_with_one_more
  have b_with_one_more := F_with_one_more.binds (ps := ["ways", "weights", "figures", "spans"]) fun _ _ _ _ _ _ us hl => match us, hl with | [_, _, _, _], _ => rfl
  have S_with_one_more : Site K mg "with_one_more" f_with_one_more _ ["ways", "weights", "figures", "spans"] := ⟨PySem.W.mg_of X G a_with_one_more, k_with_one_more, b_with_one_more⟩
  have F_is_within := fun_mk (st := sIsWithin) l_is_within c_is_within k_is_within
  have b_is_within := F_is_within.binds (ps := ["numbers", "spans"]) fun _ _ _ _ _ _ us hl => match us, hl with | [_, _], _ => rfl
  have S_is_within : Site K mg "is_within" f_is_within _ ["numbers", "spans"] := ⟨PySem.W.mg_of X G a_is_within, k_is_within, b_is_within⟩
  have F_only := fun_mk (st := sOnly) l_only c_only k_only
  have b_only := F_only.binds (ps := ["sheet"]) fun _ _ _ _ _ _ us hl => match us, hl with | [_], _ => rfl
  have S_only : Site K mg "only" f_only _ ["sheet"] := ⟨PySem.W.mg_of X G a_only, k_only, b_only⟩
  have F_sure := fun_mk (st := sSure) l_sure c_sure k_sure
  have b_sure := F_sure.binds (ps := ["sheet", "known"]) fun _ _ _ _ _ _ us hl => match us, hl with | [_, _], _ => rfl
  have S_sure : Site K mg "sure" f_sure _ ["sheet", "known"] := ⟨PySem.W.mg_of X G a_sure, k_sure, b_sure⟩
  have F_givens := fun_mk (st := sGivens) l_givens c_givens k_givens
  have b_givens := F_givens.binds (ps := ["sheet", "answer"]) fun _ _ _ _ _ _ us hl => match us, hl with | [_, _], _ => rfl
  have S_givens : Site K mg "givens" f_givens _ ["sheet", "answer"] := ⟨PySem.W.mg_of X G a_givens, k_givens, b_givens⟩
  have F_having := fun_mk (st := sHaving) l_having c_having k_having
  have b_having := F_having.binds (ps := ["told", "letters", "known"]) fun _ _ _ _ _ _ us hl => match us, hl with | [_, _, _], _ => rfl
  have S_having : Site K mg "having" f_having _ ["told", "letters", "known"] := ⟨PySem.W.mg_of X G a_having, k_having, b_having⟩
  have F__law_dice := fun_mk (st := sDice) l__law_dice c__law_dice k__law_dice
  have b__law_dice := F__law_dice.binds (ps := ["_law_script"]) fun _ _ _ _ _ _ us hl => match us, hl with | [_], _ => rfl
  have S__law_dice : Site K mg "_law_dice" f__law_dice _ ["_law_script"] := ⟨PySem.W.mg_of X G a__law_dice, k__law_dice, b__law_dice⟩
  have F__law_next := fun_mk (st := sNext) l__law_next c__law_next k__law_next
  have b__law_next := F__law_next.binds (ps := ["_law_dice_here", "_law_many"]) fun _ _ _ _ _ _ us hl => match us, hl with | [_, _], _ => rfl
  have S__law_next : Site K mg "_law_next" f__law_next _ ["_law_dice_here", "_law_many"] := ⟨PySem.W.mg_of X G a__law_next, k__law_next, b__law_next⟩
  have F__law_word := fun_mk (st := sWord) l__law_word c__law_word k__law_word
  have b__law_word := F__law_word.binds (ps := ["_law_number", "_law_base", "_law_names_here"]) fun _ _ _ _ _ _ us hl => match us, hl with | [_, _, _], _ => rfl
  have S__law_word : Site K mg "_law_word" f__law_word _ ["_law_number", "_law_base", "_law_names_here"] := ⟨PySem.W.mg_of X G a__law_word, k__law_word, b__law_word⟩
  have F__law_names := fun_mk (st := sNames) l__law_names c__law_names k__law_names
  have b__law_names := F__law_names.binds (ps := ["_law_d", "_law_base"]) fun _ _ _ _ _ _ us hl => match us, hl with | [_, _], _ => rfl
  have S__law_names : Site K mg "_law_names" f__law_names _ ["_law_d", "_law_base"] := ⟨PySem.W.mg_of X G a__law_names, k__law_names, b__law_names⟩
  have F__law_sum := fun_mk (st := sSum) l__law_sum c__law_sum k__law_sum
  have b__law_sum := F__law_sum.binds (ps := ["_law_d", "_law_base", "_law_names_here"]) fun _ _ _ _ _ _ us hl => match us, hl with | [_, _, _], _ => rfl
  have S__law_sum : Site K mg "_law_sum" f__law_sum _ ["_law_d", "_law_base", "_law_names_here"] := ⟨PySem.W.mg_of X G a__law_sum, k__law_sum, b__law_sum⟩
  have F__law_sheet := fun_mk (st := sSheet) l__law_sheet c__law_sheet k__law_sheet
  have b__law_sheet := F__law_sheet.binds (ps := ["_law_d"]) fun _ _ _ _ _ _ us hl => match us, hl with | [_], _ => rfl
  have S__law_sheet : Site K mg "_law_sheet" f__law_sheet _ ["_law_d"] := ⟨PySem.W.mg_of X G a__law_sheet, k__law_sheet, b__law_sheet⟩
  have F__law_told := fun_mk (st := sLTold) l__law_told c__law_told k__law_told
  have b__law_told := F__law_told.binds (ps := ["_law_sheet_here"]) fun _ _ _ _ _ _ us hl => match us, hl with | [_], _ => rfl
  have S__law_told : Site K mg "_law_told" f__law_told _ ["_law_sheet_here"] := ⟨PySem.W.mg_of X G a__law_told, k__law_told, b__law_told⟩
  have F_law := fun_mk (st := sLaw) l_law c_law k_law
  have b_law := F_law.binds (ps := ["_law_script"]) fun _ _ _ _ _ _ us hl => match us, hl with | [_], _ => rfl
  have F_NoAnswer_init := fun_mk (st := sNaInit) l_NoAnswer_init c_NoAnswer_init k_NoAnswer_init
  have b_NoAnswer_init := F_NoAnswer_init.binds (ps := ["self", "table"]) fun _ _ _ _ _ _ us hl => match us, hl with | [_, _], _ => rfl
  have F_ManyAnswers_init := fun_mk (st := sMaInit) l_ManyAnswers_init c_ManyAnswers_init k_ManyAnswers_init
  have b_ManyAnswers_init := F_ManyAnswers_init.binds (ps := ["self", "two"]) fun _ _ _ _ _ _ us hl => match us, hl with | [_, _], _ => rfl
  have F_Sheet_init := fun_mk (st := sShInit) l_Sheet_init c_Sheet_init k_Sheet_init
  have b_Sheet_init := F_Sheet_init.binds (ps := ["self", "base", "sums"]) fun _ _ _ _ _ _ us hl => match us, hl with | [_, _, _], _ => rfl
  have K_Sheet : Mk K C_Sheet f_Sheet_init := ⟨mk_Sheet, a_Sheet_init, i_Sheet_init, kc_Sheet⟩
  have F_Sheet_sums := fun_mk (st := sShSums) l_Sheet_sums c_Sheet_sums k_Sheet_sums
  have b_Sheet_sums := F_Sheet_sums.binds (ps := ["self"]) fun _ _ _ _ _ _ us hl => match us, hl with | [_], _ => rfl
  have M_Sheet_sums : Meth K C_Sheet "sums" f_Sheet_sums := ⟨a_Sheet_sums, i_Sheet_sums, k_Sheet_sums⟩
  have F_Sheet_letters := fun_mk (st := sShLetters) l_Sheet_letters c_Sheet_letters k_Sheet_letters
  have b_Sheet_letters := F_Sheet_letters.binds (ps := ["self"]) fun _ _ _ _ _ _ us hl => match us, hl with | [_], _ => rfl
  have M_Sheet_letters : Meth K C_Sheet "letters" f_Sheet_letters := ⟨a_Sheet_letters, i_Sheet_letters, k_Sheet_letters⟩
  have F_Reader_init := fun_mk (st := sRdInit) l_Reader_init c_Reader_init k_Reader_init
  have b_Reader_init := F_Reader_init.binds (ps := ["self", "sheet"]) fun _ _ _ _ _ _ us hl => match us, hl with | [_, _], _ => rfl
  have K_Reader : Mk K C_Reader f_Reader_init := ⟨mk_Reader, a_Reader_init, i_Reader_init, kc_Reader⟩
  have F_Reader_case_from := fun_mk (st := sRdCaseFrom) l_Reader_case_from c_Reader_case_from k_Reader_case_from
  have b_Reader_case_from := F_Reader_case_from.binds (ps := ["self", "turn", "figures", "carried"]) fun _ _ _ _ _ _ us hl => match us, hl with | [_, _, _, _], _ => rfl
  have M_Reader_case_from : Meth K C_Reader "case_from" f_Reader_case_from := ⟨a_Reader_case_from, i_Reader_case_from, k_Reader_case_from⟩
  have F_Reader_parted := fun_mk (st := sRdParted) l_Reader_parted c_Reader_parted k_Reader_parted
  have b_Reader_parted := F_Reader_parted.binds (ps := ["self", "turn", "figures", "carried"]) fun _ _ _ _ _ _ us hl => match us, hl with | [_, _, _, _], _ => rfl
  have M_Reader_parted : Meth K C_Reader "parted" f_Reader_parted := ⟨a_Reader_parted, i_Reader_parted, k_Reader_parted⟩
  have F_Reader_forced := fun_mk (st := sRdForced) l_Reader_forced c_Reader_forced k_Reader_forced
  have b_Reader_forced := F_Reader_forced.binds (ps := ["self", "turn", "figures", "carried"]) fun _ _ _ _ _ _ us hl => match us, hl with | [_, _, _, _], _ => rfl
  have M_Reader_forced : Meth K C_Reader "forced" f_Reader_forced := ⟨a_Reader_forced, i_Reader_forced, k_Reader_forced⟩
  have F_Reader_compared := fun_mk (st := sRdCompared) l_Reader_compared c_Reader_compared k_Reader_compared
  have b_Reader_compared := F_Reader_compared.binds (ps := ["self", "turn", "figures", "carried"]) fun _ _ _ _ _ _ us hl => match us, hl with | [_, _, _, _], _ => rfl
  have M_Reader_compared : Meth K C_Reader "compared" f_Reader_compared := ⟨a_Reader_compared, i_Reader_compared, k_Reader_compared⟩
  have F_Reader_column_end := fun_mk (st := sRdColumnEnd) l_Reader_column_end c_Reader_column_end k_Reader_column_end
  have b_Reader_column_end := F_Reader_column_end.binds (ps := ["self", "added", "figures", "carried"]) fun _ _ _ _ _ _ us hl => match us, hl with | [_, _, _, _], _ => rfl
  have M_Reader_column_end : Meth K C_Reader "column_end" f_Reader_column_end := ⟨a_Reader_column_end, i_Reader_column_end, k_Reader_column_end⟩
  have z_abs := PySem.W.mg_none_of X G y_abs
  have z_all := PySem.W.mg_none_of X G y_all
  have z_dict := PySem.W.mg_none_of X G y_dict
  have z_divmod := PySem.W.mg_none_of X G y_divmod
  have z_enumerate := PySem.W.mg_none_of X G y_enumerate
  have z_int := PySem.W.mg_none_of X G y_int
  have z_len := PySem.W.mg_none_of X G y_len
  have z_list := PySem.W.mg_none_of X G y_list
  have z_max := PySem.W.mg_none_of X G y_max
  have z_min := PySem.W.mg_none_of X G y_min
  have z_range := PySem.W.mg_none_of X G y_range
  have z_reversed := PySem.W.mg_none_of X G y_reversed
  have z_set := PySem.W.mg_none_of X G y_set
  have z_sorted := PySem.W.mg_none_of X G y_sorted
  have z_sum := PySem.W.mg_none_of X G y_sum
  have z_tuple := PySem.W.mg_none_of X G y_tuple
  have z_zip := PySem.W.mg_none_of X G y_zip
  have m_LEAST_BASE := PySem.W.mg_of X G x_LEAST_BASE
  have m_MOST_BASE := PySem.W.mg_of X G x_MOST_BASE
  have m_MOST_SUMS := PySem.W.mg_of X G x_MOST_SUMS
  have m_MOST_ADDENDS := PySem.W.mg_of X G x_MOST_ADDENDS
  have m_MOST_IN_WORD := PySem.W.mg_of X G x_MOST_IN_WORD
  have m_MOST_LETTERS := PySem.W.mg_of X G x_MOST_LETTERS
  have m_SMALL_LETTERS := PySem.W.mg_of X G x_SMALL_LETTERS
  have B_SumError : BaseC K C_SumError := ⟨rd_SumError, ga_SumError, it_SumError⟩
  have g_SumError := PySem.W.mg_of X G a_SumError
  have O_NoAnswer : OexC K C_NoAnswer := ⟨⟨nmX0, qX0, NX0, bsX0, bmX0, snX0, subX0, abX0, colX0, ddX0, k0X0, k1X0, k2X0, k3X0, k5X0, cl_NoAnswer, rv_NoAnswer⟩, st_NoAnswer, sb_NoAnswer, ty_NoAnswer, kp_NoAnswer⟩
  have g_NoAnswer := PySem.W.mg_of X G a_NoAnswer
  have X_NoAnswer : XfC K C_NoAnswer := ⟨hg_NoAnswer, hk_NoAnswer, sb_NoAnswer, hd_NoAnswer⟩
  have e_NoAnswer := PySem.W.exm_ref sb_NoAnswer hd_NoAnswer ty_NoAnswer ss_NoAnswer
  have O_ManyAnswers : OexC K C_ManyAnswers := ⟨⟨nmX1, qX1, NX1, bsX1, bmX1, snX1, subX1, abX1, colX1, ddX1, k0X1, k1X1, k2X1, k3X1, k5X1, cl_ManyAnswers, rv_ManyAnswers⟩, st_ManyAnswers, sb_ManyAnswers, ty_ManyAnswers, kp_ManyAnswers⟩
  have g_ManyAnswers := PySem.W.mg_of X G a_ManyAnswers
  have X_ManyAnswers : XfC K C_ManyAnswers := ⟨hg_ManyAnswers, hk_ManyAnswers, sb_ManyAnswers, hd_ManyAnswers⟩
  have e_ManyAnswers := PySem.W.exm_ref sb_ManyAnswers hd_ManyAnswers ty_ManyAnswers ss_ManyAnswers
  have e_ManyNone := PySem.W.exm_ref sb_NoAnswer hd_NoAnswer ty_NoAnswer sx_ManyNone
  refine ⟨⟨nt_lam, tb_lam⟩, PySem.W.fnOf "law" "law" (defArgs sLaw) (defBody sLaw) (defScope sLaw) .none kV_law dc_law pm_law an_law cd_law ct_law, fun s v => .of_eq rfl, fun base _ _ TB => ?_⟩
  have G__law_dice := ok_dice (P := l.prog) (w := w) (mg := mg) (base := base) F__law_dice z_len z_int
  have G__law_next := ok_next (P := l.prog) (w := w) (mg := mg) (base := base) F__law_next z_len
  have G__law_names := ok_names (P := l.prog) (w := w) (mg := mg) (base := base) F__law_names z_range S__law_next G__law_next
  have G__law_word := ok_word (P := l.prog) (w := w) (mg := mg) (base := base) F__law_word
  have G__law_sum := ok_sum (P := l.prog) (w := w) (mg := mg) (base := base) F__law_sum z_range z_tuple z_sum S__law_next G__law_next S__law_word G__law_word
  have G__law_sheet := ok_sheet (P := l.prog) (w := w) (mg := mg) (base := base) F__law_sheet z_range z_int S__law_next G__law_next S__law_names G__law_names S__law_sum G__law_sum
  have G_check_counts := ok_counts (P := l.prog) (w := w) (mg := mg) (base := base) F_check_counts z_len m_LEAST_BASE m_MOST_BASE m_MOST_SUMS
  have G_is_word := ok_isword (P := l.prog) (w := w) (mg := mg) (base := base) F_is_word z_len z_all m_MOST_IN_WORD m_SMALL_LETTERS
  have G_check_sums := ok_check (P := l.prog) (w := w) (mg := mg) (base := base) F_check_sums z_len z_set z_all z_min z_enumerate m_MOST_ADDENDS m_MOST_LETTERS S_is_word G_is_word
  have G_Sheet_init := ok_shinit (P := l.prog) (w := w) (mg := mg) (base := base) F_Sheet_init T_Sheet z_list S_check_counts G_check_counts S_check_sums G_check_sums
  have G_column_count := ok_colcount (P := l.prog) (w := w) (mg := mg) (base := base) F_column_count z_len z_max
  have G_letter_at := ok_letterat (P := l.prog) (w := w) (mg := mg) (base := base) F_letter_at z_len
  have G_column_of := ok_colof (P := l.prog) (w := w) (mg := mg) (base := base) F_column_of z_len S_letter_at G_letter_at
  have G_Sheet_letters := ok_shletters (P := l.prog) (w := w) (mg := mg) (base := base) F_Sheet_letters T_Sheet z_list z_range S_column_count G_column_count S_column_of G_column_of
  have G_Sheet_sums := ok_shsums (P := l.prog) (w := w) (mg := mg) (base := base) F_Sheet_sums T_Sheet z_list
  have G_first_letters := ok_firsts (P := l.prog) (w := w) (mg := mg) (base := base) F_first_letters T_Sheet z_len M_Sheet_sums b_Sheet_sums G_Sheet_sums
  have G_steps_of := ok_steps (P := l.prog) (w := w) (mg := mg) (base := base) F_steps_of T_Sheet z_range z_enumerate M_Sheet_sums b_Sheet_sums G_Sheet_sums S_column_count G_column_count S_column_of G_column_of S_letter_at G_letter_at
  have G_Reader_init := ok_rdinit (P := l.prog) (w := w) (mg := mg) (base := base) F_Reader_init T_Reader T_Sheet M_Sheet_letters b_Sheet_letters G_Sheet_letters S_first_letters G_first_letters S_steps_of G_steps_of
  have G_free_figures := ok_free (P := l.prog) (w := w) (mg := mg) (base := base) F_free_figures z_range z_list
  have G_Reader_column_end := ok_colend (P := l.prog) (w := w) (mg := mg) (base := base) F_Reader_column_end T_Reader z_divmod z_sum
  have G_Reader_case_from := fun (b : Int) (L fs : List Nat) (ps : List Stp) (O : StOk b L fs ps) => ok_case (P := l.prog) (w := w) (mg := mg) (base := base) O T_Reader z_tuple F_Reader_case_from F_Reader_parted F_Reader_forced F_Reader_compared S_free_figures G_free_figures M_Reader_column_end b_Reader_column_end G_Reader_column_end M_Reader_case_from b_Reader_case_from M_Reader_parted b_Reader_parted M_Reader_forced b_Reader_forced M_Reader_compared b_Reader_compared 94
  have G_read_through := ok_through (P := l.prog) (w := w) (mg := mg) (base := base) F_read_through T_Reader K_Reader b_Reader_init G_Reader_init M_Reader_case_from b_Reader_case_from G_Reader_case_from
  have G_answers := ok_answers (P := l.prog) (w := w) (mg := mg) (base := base) F_answers S_read_through G_read_through
  have G_table_of := ok_table (P := l.prog) (w := w) (mg := mg) (base := base) F_table_of S_read_through G_read_through
  have G_worth := ok_worth (P := l.prog) (w := w) (mg := mg) (base := base) F_worth
  have G_surplus := ok_surplus (P := l.prog) (w := w) (mg := mg) (base := base) F_surplus z_sum S_worth G_worth
  have G_by_weight := ok_byweight (P := l.prog) (w := w) (mg := mg) (base := base) l_by_weight c_by_weight TB T_Sheet z_sorted z_max z_abs M_Sheet_letters b_Sheet_letters G_Sheet_letters M_Sheet_sums b_Sheet_sums G_Sheet_sums S_surplus G_surplus
  have G_spans_of := ok_spans (P := l.prog) (w := w) (mg := mg) (base := base) F_spans_of T_Sheet z_range z_len z_sum z_max z_min M_Sheet_sums b_Sheet_sums G_Sheet_sums
  have G_is_within := ok_within (P := l.prog) (w := w) (mg := mg) (base := base) F_is_within z_all z_zip
  have G_with_one_more := ok_more (P := l.prog) (w := w) (mg := mg) (base := base) F_with_one_more z_tuple z_zip S_is_within G_is_within
  have G_how_many := ok_howmany (P := l.prog) (w := w) (mg := mg) (base := base) F_how_many T_Sheet z_tuple z_list z_range z_sum M_Sheet_sums b_Sheet_sums G_Sheet_sums S_first_letters G_first_letters S_by_weight G_by_weight S_spans_of G_spans_of S_with_one_more G_with_one_more
  have G_having := ok_having (P := l.prog) (w := w) (mg := mg) (base := base) F_having z_enumerate z_all
  have G_givens := ok_givens (P := l.prog) (w := w) (mg := mg) (base := base) F_givens T_Sheet z_dict z_zip z_reversed z_len z_list M_Sheet_letters b_Sheet_letters G_Sheet_letters S_answers G_answers S_having G_having
  have G_sure := ok_sure (P := l.prog) (w := w) (mg := mg) (base := base) F_sure T_Sheet z_enumerate z_all M_Sheet_letters b_Sheet_letters G_Sheet_letters S_answers G_answers S_having G_having
  have G_only := ok_only (P := l.prog) (w := w) (mg := mg) (base := base) F_only z_len (show NoneTxt l.prog w K mg base C_NoAnswer f_NoAnswer_init _ from ⟨O_NoAnswer, a_NoAnswer_init, tf_NoAnswer, ok_nainit (P := l.prog) (w := w) (mg := mg) (base := base) F_NoAnswer_init O_NoAnswer g_SumError B_SumError n_NoAnswer_table, b_NoAnswer_init, g_NoAnswer⟩) (show ManyTxt l.prog w K mg base C_ManyAnswers f_ManyAnswers_init _ from ⟨O_ManyAnswers, a_ManyAnswers_init, tf_ManyAnswers, ok_mainit (P := l.prog) (w := w) (mg := mg) (base := base) F_ManyAnswers_init O_ManyAnswers g_SumError B_SumError z_list n_ManyAnswers_two, b_ManyAnswers_init, g_ManyAnswers⟩) S_read_through G_read_through
  have G__law_told := ok_told (P := l.prog) (w := w) (mg := mg) (base := base) F__law_told T_Sheet z_sorted g_NoAnswer g_ManyAnswers e_NoAnswer e_ManyNone e_ManyAnswers X_NoAnswer X_ManyAnswers n_NoAnswer_table n_ManyAnswers_two M_Sheet_letters b_Sheet_letters G_Sheet_letters M_Sheet_sums b_Sheet_sums G_Sheet_sums S_answers G_answers S_table_of G_table_of S_how_many G_how_many S_givens G_givens S_sure G_sure S_only G_only
  exact ok_law19 F_law T_Sheet z_list S__law_dice G__law_dice S__law_sheet G__law_sheet K_Sheet b_Sheet_init G_Sheet_init S__law_told G__law_told
theorem walk {l : PySem.W.OpenLaw} {q : Program} {loose : List Str} {XP : (Str → Option Value) → Heap → Prop} {YP : World → Heap → Prop} {d : DefRec} {K : Params → PySem.W.Frag} {cA PT : Addr} (hn : l.most = some 63) (hdf : d.params.defaults = [])
    (hY : ∀ (w : World) (h : Heap), YP w h → (K w.params).In h) (hP : ∀ (w : World) (h : Heap), YP w h → h.get? PT = some { cls := .none, data := .fields #[] })
    (F : ∀ (w : World) (mg : Str → Option Value) (fa : Addr) (h : Heap), (K w.params).In h → h.Ns mainGlobals mg → mg d.name = some (.ref fa) →
      ((K w.params).lookup PT = none ∧ PySem.W.codeHdIn (K w.params) cA PT = true) ∧ ∃ fd : FuncData, (∀ (s : Shared) (u : Value), BindsTo s fd ⟨[u], []⟩ [("_law_script", u)]) ∧ ∀ base : Heap, (K w.params).In base → base.Ns mainGlobals mg → LamX.TabB base mg cA PT → FnOk l.prog w (K w.params) mg base CX0 196 fa fd ["_law_script"] (spLawT (K w.params) PT)) :
    PySem.W.WalkO q loose XP YP l.row.toRowW d [] (fun f vs => PySem.call f vs) :=
  LamX.walk_ofTs (n := 63) (k := 196) (x := "_law_script") (CX := fun _ => CX0) (K := K) hn (by decide) hdf ⟨rfl, by decide, by decide⟩ hY (fun w mg fa h Y KX G hm => by
    obtain ⟨⟨h1, h2⟩, fd, hb, hF⟩ := F w mg fa h KX G hm
    refine ⟨fd, [(cA, PT)], spLawT (K w.params) PT, fun p hp => ?_, fun p hp => ?_, fun p hp => ?_, hb, fun H a ns hl _ hT hS => ⟨a, ns, rfl, hS, LamX.TabS.nil (hT (cA, PT) List.mem_cons_self), fun _ => rfl⟩, fun base hK hG hT => hF base hK hG (hT (cA, PT) List.mem_cons_self)⟩
    · rw [List.mem_singleton.mp hp]; exact hP w h Y
    · rw [List.mem_singleton.mp hp]; exact h1
    · rw [List.mem_singleton.mp hp]; exact PySem.W.codeHd_of_K KX h2) fun _ _ _ _ _ z => z
end WS
open PySem PySem.W PyProof.Rows
set_option maxRecDepth 100000 in
set_option maxHeartbeats 0 in
theorem PySem.Challenge.cw_wordsums_k19_asked_again_holds : PySem.Challenge.rw_wordsums_k19_asked_again.Holds := by
  w_on; o_law; k_head; (case hw => w_witness2)
  k_fill
  refine WS.walk (l := PySem.Challenge.rw_wordsums_k19_asked_again) (cA := ?cA) rfl rfl (fun w h Y => PySem.W.km_in_of Y) (fun w h Y => PySem.W.km_tabs_of Y _ List.mem_cons_self) ?F
  case F =>
    intro w mg fa h KX G hmg
    refine' WS.all_mk KX G hmg ?a_Sheet ?a_Reader ?a_check_counts ?l_check_counts ?c_check_counts ?k_check_counts ?a_check_sums ?l_check_sums ?c_check_sums ?k_check_sums ?a_is_word ?l_is_word ?c_is_word ?k_is_word ?a_column_count ?l_column_count ?c_column_count ?k_column_count ?a_letter_at ?l_letter_at ?c_letter_at ?k_letter_at ?a_column_of ?l_column_of ?c_column_of ?k_column_of ?a_first_letters ?l_first_letters ?c_first_letters ?k_first_letters ?a_worth ?l_worth ?c_worth ?k_worth ?a_surplus ?l_surplus ?c_surplus ?k_surplus ?a_steps_of ?l_steps_of ?c_steps_of ?k_steps_of ?a_free_figures ?l_free_figures ?c_free_figures ?k_free_figures ?a_read_through ?l_read_through ?c_read_through ?k_read_through ?a_table_of ?l_table_of ?c_table_of ?k_table_of ?a_answers ?l_answers ?c_answers ?k_answers ?a_how_many ?l_how_many ?c_how_many ?k_how_many ?a_by_weight ?l_by_weight ?c_by_weight ?k_by_weight ?a_spans_of ?l_spans_of ?c_spans_of ?k_spans_of ?a_with_one_more ?l_with_one_more ?c_with_one_more ?k_with_one_more ?a_is_within ?l_is_within ?c_is_within ?k_is_within ?a_only ?l_only ?c_only ?k_only ?a_sure ?l_sure ?c_sure ?k_sure ?a_givens ?l_givens ?c_givens ?k_givens ?a_having ?l_having ?c_having ?k_having ?a__law_dice ?l__law_dice ?c__law_dice ?k__law_dice ?a__law_next ?l__law_next ?c__law_next ?k__law_next ?a__law_word ?l__law_word ?c__law_word ?k__law_word ?a__law_names ?l__law_names ?c__law_names ?k__law_names ?a__law_sum ?l__law_sum ?c__law_sum ?k__law_sum ?a__law_sheet ?l__law_sheet ?c__law_sheet ?k__law_sheet ?a__law_told ?l__law_told ?c__law_told ?k__law_told ?a_law ?l_law ?c_law ?k_law ?a_NoAnswer_init ?i_NoAnswer_init ?l_NoAnswer_init ?c_NoAnswer_init ?k_NoAnswer_init ?a_ManyAnswers_init ?i_ManyAnswers_init ?l_ManyAnswers_init ?c_ManyAnswers_init ?k_ManyAnswers_init ?a_Sheet_init ?i_Sheet_init ?l_Sheet_init ?c_Sheet_init ?k_Sheet_init ?a_Sheet_sums ?i_Sheet_sums ?l_Sheet_sums ?c_Sheet_sums ?k_Sheet_sums ?a_Sheet_letters ?i_Sheet_letters ?l_Sheet_letters ?c_Sheet_letters ?k_Sheet_letters ?a_Reader_init ?i_Reader_init ?l_Reader_init ?c_Reader_init ?k_Reader_init ?a_Reader_case_from ?i_Reader_case_from ?l_Reader_case_from ?c_Reader_case_from ?k_Reader_case_from ?a_Reader_parted ?i_Reader_parted ?l_Reader_parted ?c_Reader_parted ?k_Reader_parted ?a_Reader_forced ?i_Reader_forced ?l_Reader_forced ?c_Reader_forced ?k_Reader_forced ?a_Reader_compared ?i_Reader_compared ?l_Reader_compared ?c_Reader_compared ?k_Reader_compared ?a_Reader_column_end ?i_Reader_column_end ?l_Reader_column_end ?c_Reader_column_end ?k_Reader_column_end ?pg_Sheet ?hd_Sheet ?po_Sheet ?sa_Sheet ?mk_Sheet ?kc_Sheet ?n_Sheet_base ?n_Sheet_kept ?pg_Reader ?hd_Reader ?po_Reader ?sa_Reader ?mk_Reader ?kc_Reader ?n_Reader_base ?n_Reader_order ?n_Reader_firsts ?n_Reader_steps ?n_Reader_found ?y_abs ?y_all ?y_dict ?y_divmod ?y_enumerate ?y_int ?y_len ?y_list ?y_max ?y_min ?y_range ?y_reversed ?y_set ?y_sorted ?y_sum ?y_tuple ?y_zip ?x_LEAST_BASE ?x_MOST_BASE ?x_MOST_SUMS ?x_MOST_ADDENDS ?x_MOST_IN_WORD ?x_MOST_LETTERS ?x_SMALL_LETTERS ?a_SumError ?a_NoAnswer ?a_ManyAnswers ?sb_SumError ?hd_SumError ?ty_SumError ?rd_SumError ?ga_SumError ?it_SumError ?cl_NoAnswer ?rv_NoAnswer ?st_NoAnswer ?kp_NoAnswer ?sb_NoAnswer ?ty_NoAnswer ?tf_NoAnswer ?n_NoAnswer_table ?sn_NoAnswer ?hg_NoAnswer ?hk_NoAnswer ?hd_NoAnswer ?ss_NoAnswer ?cl_ManyAnswers ?rv_ManyAnswers ?st_ManyAnswers ?kp_ManyAnswers ?sb_ManyAnswers ?ty_ManyAnswers ?tf_ManyAnswers ?n_ManyAnswers_two ?sn_ManyAnswers ?hg_ManyAnswers ?hk_ManyAnswers ?hd_ManyAnswers ?ss_ManyAnswers ?sx_ManyNone ?tb_lam ?nt_lam
    (case a_SumError => k_is); (case a_NoAnswer => k_is); (case a_ManyAnswers => k_is); (case a_Sheet => k_is); (case a_Reader => k_is); (case a_check_counts => k_is); (case l_check_counts => k_is); (case c_check_counts => k_is)
    (case k_check_counts => k_is); (case a_check_sums => k_is); (case l_check_sums => k_is); (case c_check_sums => k_is); (case k_check_sums => k_is); (case a_is_word => k_is); (case l_is_word => k_is); (case c_is_word => k_is)
    (case k_is_word => k_is); (case a_column_count => k_is); (case l_column_count => k_is); (case c_column_count => k_is); (case k_column_count => k_is); (case a_letter_at => k_is); (case l_letter_at => k_is); (case c_letter_at => k_is)
    (case k_letter_at => k_is); (case a_column_of => k_is); (case l_column_of => k_is); (case c_column_of => k_is); (case k_column_of => k_is); (case a_first_letters => k_is); (case l_first_letters => k_is); (case c_first_letters => k_is)
    (case k_first_letters => k_is); (case a_worth => k_is); (case l_worth => k_is); (case c_worth => k_is); (case k_worth => k_is); (case a_surplus => k_is); (case l_surplus => k_is); (case c_surplus => k_is)
    (case k_surplus => k_is); (case a_steps_of => k_is); (case l_steps_of => k_is); (case c_steps_of => k_is); (case k_steps_of => k_is); (case a_free_figures => k_is); (case l_free_figures => k_is); (case c_free_figures => k_is)
    (case k_free_figures => k_is); (case a_read_through => k_is); (case l_read_through => k_is); (case c_read_through => k_is); (case k_read_through => k_is); (case a_table_of => k_is); (case l_table_of => k_is); (case c_table_of => k_is)
    (case k_table_of => k_is); (case a_answers => k_is); (case l_answers => k_is); (case c_answers => k_is); (case k_answers => k_is); (case a_how_many => k_is); (case l_how_many => k_is); (case c_how_many => k_is)
    (case k_how_many => k_is); (case a_by_weight => k_is); (case l_by_weight => k_is); (case c_by_weight => k_is); (case k_by_weight => k_is); (case a_spans_of => k_is); (case l_spans_of => k_is); (case c_spans_of => k_is)
    (case k_spans_of => k_is); (case a_with_one_more => k_is); (case l_with_one_more => k_is); (case c_with_one_more => k_is); (case k_with_one_more => k_is); (case a_is_within => k_is); (case l_is_within => k_is); (case c_is_within => k_is)
    (case k_is_within => k_is); (case a_only => k_is); (case l_only => k_is); (case c_only => k_is); (case k_only => k_is); (case a_sure => k_is); (case l_sure => k_is); (case c_sure => k_is)
    (case k_sure => k_is); (case a_givens => k_is); (case l_givens => k_is); (case c_givens => k_is); (case k_givens => k_is); (case a_having => k_is); (case l_having => k_is); (case c_having => k_is)
    (case k_having => k_is); (case a__law_dice => k_is); (case l__law_dice => k_is); (case c__law_dice => k_is); (case k__law_dice => k_is); (case a__law_next => k_is); (case l__law_next => k_is); (case c__law_next => k_is)
    (case k__law_next => k_is); (case a__law_word => k_is); (case l__law_word => k_is); (case c__law_word => k_is); (case k__law_word => k_is); (case a__law_names => k_is); (case l__law_names => k_is); (case c__law_names => k_is)
    (case k__law_names => k_is); (case a__law_sum => k_is); (case l__law_sum => k_is); (case c__law_sum => k_is); (case k__law_sum => k_is); (case a__law_sheet => k_is); (case l__law_sheet => k_is); (case c__law_sheet => k_is)
    (case k__law_sheet => k_is); (case a__law_told => k_is); (case l__law_told => k_is); (case c__law_told => k_is); (case k__law_told => k_is); (case a_law => k_is); (case l_law => k_is); (case c_law => k_is)
    (case k_law => k_is); (case a_NoAnswer_init => k_is); (case i_NoAnswer_init => k_is); (case l_NoAnswer_init => k_is); (case c_NoAnswer_init => k_is); (case k_NoAnswer_init => k_is); (case a_ManyAnswers_init => k_is); (case i_ManyAnswers_init => k_is)
    (case l_ManyAnswers_init => k_is); (case c_ManyAnswers_init => k_is); (case k_ManyAnswers_init => k_is); (case a_Sheet_init => k_is); (case i_Sheet_init => k_is); (case l_Sheet_init => k_is); (case c_Sheet_init => k_is); (case k_Sheet_init => k_is)
    (case a_Sheet_sums => k_is); (case i_Sheet_sums => k_is); (case l_Sheet_sums => k_is); (case c_Sheet_sums => k_is); (case k_Sheet_sums => k_is); (case a_Sheet_letters => k_is); (case i_Sheet_letters => k_is); (case l_Sheet_letters => k_is)
    (case c_Sheet_letters => k_is); (case k_Sheet_letters => k_is); (case a_Reader_init => k_is); (case i_Reader_init => k_is); (case l_Reader_init => k_is); (case c_Reader_init => k_is); (case k_Reader_init => k_is); (case a_Reader_case_from => k_is)
    (case i_Reader_case_from => k_is); (case l_Reader_case_from => k_is); (case c_Reader_case_from => k_is); (case k_Reader_case_from => k_is); (case a_Reader_parted => k_is); (case i_Reader_parted => k_is); (case l_Reader_parted => k_is); (case c_Reader_parted => k_is)
    (case k_Reader_parted => k_is); (case a_Reader_forced => k_is); (case i_Reader_forced => k_is); (case l_Reader_forced => k_is); (case c_Reader_forced => k_is); (case k_Reader_forced => k_is); (case a_Reader_compared => k_is); (case i_Reader_compared => k_is)
    (case l_Reader_compared => k_is); (case c_Reader_compared => k_is); (case k_Reader_compared => k_is); (case a_Reader_column_end => k_is); (case i_Reader_column_end => k_is); (case l_Reader_column_end => k_is); (case c_Reader_column_end => k_is); (case k_Reader_column_end => k_is)
    (case pg_Sheet => k_is); (case hd_Sheet => k_is); (case po_Sheet => k_is); (case sa_Sheet => k_is); (case mk_Sheet => k_is); (case kc_Sheet => k_is); (case n_Sheet_base => k_is); (case n_Sheet_kept => k_is)
    (case pg_Reader => k_is); (case hd_Reader => k_is); (case po_Reader => k_is); (case sa_Reader => k_is); (case mk_Reader => k_is); (case kc_Reader => k_is); (case n_Reader_base => k_is); (case n_Reader_order => k_is)
    (case n_Reader_firsts => k_is); (case n_Reader_steps => k_is); (case n_Reader_found => k_is); (case y_abs => k_is); (case y_all => k_is); (case y_dict => k_is); (case y_divmod => k_is); (case y_enumerate => k_is)
    (case y_int => k_is); (case y_len => k_is); (case y_list => k_is); (case y_max => k_is); (case y_min => k_is); (case y_range => k_is); (case y_reversed => k_is); (case y_set => k_is)
    (case y_sorted => k_is); (case y_sum => k_is); (case y_tuple => k_is); (case y_zip => k_is); (case x_LEAST_BASE => k_is); (case x_MOST_BASE => k_is); (case x_MOST_SUMS => k_is); (case x_MOST_ADDENDS => k_is)
    (case x_MOST_IN_WORD => k_is); (case x_MOST_LETTERS => k_is); (case x_SMALL_LETTERS => k_is); (case sb_SumError => k_is); (case hd_SumError => k_is); (case ty_SumError => k_is); (case rd_SumError => k_is); (case ga_SumError => k_is)
    (case it_SumError => k_is); (case cl_NoAnswer => k_is); (case rv_NoAnswer => first | rfl | decide +kernel); (case st_NoAnswer => k_is); (case kp_NoAnswer => k_is); (case sb_NoAnswer => k_is); (case ty_NoAnswer => k_is); (case tf_NoAnswer => k_is)
    (case n_NoAnswer_table => k_is); (case sn_NoAnswer => k_is); (case hg_NoAnswer => k_is); (case hk_NoAnswer => k_is); (case hd_NoAnswer => k_is); (case ss_NoAnswer => k_is); (case cl_ManyAnswers => k_is); (case rv_ManyAnswers => first | rfl | decide +kernel)
    (case st_ManyAnswers => k_is); (case kp_ManyAnswers => k_is); (case sb_ManyAnswers => k_is); (case ty_ManyAnswers => k_is); (case tf_ManyAnswers => k_is); (case n_ManyAnswers_two => k_is); (case sn_ManyAnswers => k_is); (case hg_ManyAnswers => k_is)
    (case hk_ManyAnswers => k_is); (case hd_ManyAnswers => k_is); (case ss_ManyAnswers => k_is); (case sx_ManyNone => k_is); (case tb_lam => first | rfl | decide +kernel); (case nt_lam => first | rfl | decide +kernel)
