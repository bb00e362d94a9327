import PyProof.Rows.All
import Wide.All
import OpenK.AllK
import Wide.FinOn
import HandS.ForMost
import HandS.Star
import HandS.Zip
import HandS.IsInst
import HandS.Conv
import HandS.Wide
import HandS.Evl
import HandS.Walk
import PyProof.Rows.SetFrom
import PyProof.StrWalks
import HandS.Strs
import HandS.Style
import PyProof.Rows.StrStep
import KE.KRevSl
import HandS.HotCalls
import HandS.ExcIs
import KE.KExcIs
import HandS.ExcField
import HandS.ExcCtx
import HandS.WordsExc
import HandS.ExcInit
import HandS.FStr
import HandS.ExcOwn
import HandS.TupMul
import PySem.Challenge.RW_wordsums_k01_sheets_refused
set_option Elab.async false
set_option linter.all false
set_option maxRecDepth 100000
set_option maxHeartbeats 4000000
namespace WS
open PySem L2
def top (i : Nat) : Stmt := PySem.Challenge.pw_wordsums_k01_sheets_refused.main.body.getD i (.Pass ⟨0, 0, 0, 0⟩)
abbrev sBsInit : Stmt := inClass (top 2) 0
abbrev sNaInit : Stmt := inClass (top 3) 0
abbrev sMaInit : Stmt := inClass (top 4) 0
abbrev sBtInit : Stmt := inClass (top 6) 0
abbrev sShInit : Stmt := inClass (top 15) 0
abbrev sShSums : Stmt := inClass (top 15) 1
abbrev sShLetters : Stmt := inClass (top 15) 2
abbrev sCounts : Stmt := top 16
abbrev sCheck : Stmt := top 17
abbrev sIsWord : Stmt := top 18
abbrev sColCount : Stmt := top 19
abbrev sLetterAt : Stmt := top 20
abbrev sColOf : Stmt := top 21
abbrev sDice : Stmt := top 23
abbrev sNext : Stmt := top 24
abbrev sWhole : Stmt := top 25
abbrev sLike : Stmt := top 26
abbrev sWord : Stmt := top 27
abbrev sNames : Stmt := top 28
abbrev sSum : Stmt := top 29
abbrev sSheet : Stmt := top 30
abbrev sWide : Stmt := top 31
abbrev sLIs : Stmt := top 32
abbrev sLWrong : Stmt := top 33
abbrev sLRefused : Stmt := top 34
abbrev sLaw : Stmt := top 35
end WS
set_option maxRecDepth 100000
set_option maxHeartbeats 4000000
namespace WS
open PySem L2
/-- all that was tracked, but what stands at d, is as it was -/
def But (d : Addr) (H H' : Hp) : Prop := ∀ b o, b ≠ d → H b = some o → H' b = some o
theorem But.refl (d : Addr) (H : Hp) : But d H H := fun _ _ _ h => h
theorem But.trans {d : Addr} {H H1 H2 : Hp} (a : But d H H1) (b : But d H1 H2) : But d H H2 := fun c o n h => b c o n (a c o n h)
theorem But.of {d : Addr} {H H' : Hp} (a : Same H H') : But d H H' := fun b o _ h => a b o h
theorem But.upd {d : Addr} {H : Hp} {o : HO} : But d H (upd H d o) := fun b u n h => by
  rw [upd_ne n]; exact h
theorem Same.new {H : Hp} {p : Addr} {o : HO} (hp : H p = none) : Same H (upd H p o) := fun b u h => by
  rw [upd_ne (ne_of_none h hp)]; exact h
theorem But.new {d : Addr} {H : Hp} {p : Addr} {o : HO} (hp : H p = none) : But d H (L2.upd H p o) := .of (Same.new hp)
/-- an object that H did not know may change -/
theorem But.mut {d : Addr} {H H' : Hp} {p : Addr} {o : HO} (e : But d H H') (hp : H p = none) : But d H (L2.upd H' p o) := fun b u n h => by
  rw [upd_ne (ne_of_none h hp)]; exact e b u n h
theorem Same.mut {H H' : Hp} {p : Addr} {o : HO} (e : Same H H') (hp : H p = none) : Same H (L2.upd H' p o) := fun b u h => by
  rw [upd_ne (ne_of_none h hp)]; exact e b u h
theorem But.free {d : Addr} {H H' : Hp} (e : But d H H') {p : Addr} (hd : H' d ≠ none) (h : H' p = none) : H p = none := by
  cases q : H p with
  | none => rfl
  | some o =>
    by_cases n : p = d
    · subst n; exact absurd h hd
    · rw [e p o n q] at h; cases h
theorem rd_but {d : Addr} {H H' : Hp} {a : Addr} {u : HO} (e : But d H H') (n : a ≠ d) (h : Rd H a u) : Rd H' a u := by
  rcases h with h | ⟨o, h⟩
  · exact .inl (e a _ n h)
  · exact .inr ⟨o, e a _ n h⟩
theorem sqL_but {K : PySem.W.Frag} {d : Addr} {H H' : Hp} {a : Addr} {xs : List V} (e : But d H H') (n : a ≠ d) (h : SqL K H a xs) : SqL K H' a xs := by
  rcases h with h | h
  · exact .inl (rd_but e n h)
  · exact .inr h
theorem sqL_same {K : PySem.W.Frag} {H H' : Hp} {a : Addr} {xs : List V} (e : Same H H') (h : SqL K H a xs) : SqL K H' a xs := e.seq h
theorem sqT_same {K : PySem.W.Frag} {H H' : Hp} {a : Addr} {xs : List V} (e : Same H H') (h : SqT K H a xs) : SqT K H' a xs := by
  rcases h with (h | ⟨o, h⟩) | h
  · exact .inl (.inl (e _ _ h))
  · exact .inl (.inr ⟨o, e _ _ h⟩)
  · exact .inr h
theorem line_of {n : Nat} (h : n ≤ 1000000) : n ≤ sizeLine := Nat.le_trans h (by decide)
theorem line_lt {n : Nat} (h : n < 1000000) : n < sizeLine := Nat.lt_of_lt_of_le h (by decide)
/-! ### the dice -/
/-- the heap without what stands at d -/
def off (H : Hp) (d : Addr) : Hp := fun b => if b = d then none else H b
theorem off_at {H : Hp} {d b : Addr} {o : HO} (h : off H d b = some o) : b ≠ d ∧ H b = some o := by
  unfold off at h
  by_cases e : b = d
  · rw [if_pos e] at h; cases h
  · rw [if_neg e] at h; exact ⟨e, h⟩
theorem off_ne {H : Hp} {d b : Addr} (n : b ≠ d) : off H d b = H b := by
  unfold off; rw [if_neg n]
theorem off_in (H : Hp) (d : Addr) : Same (off H d) H := fun b o h => (off_at h).2
theorem But.off {d : Addr} {H H' : Hp} (e : But d H H') : Same (WS.off H d) (WS.off H' d) := fun b o h => by
  obtain ⟨n, h⟩ := off_at h
  rw [off_ne n]; exact e b o n h
/-- the dice at d: the script at a, how many are taken, the mixed number, what is left of a great one -/
structure Dice (K : PySem.W.Frag) (H : Hp) (d a : Addr) (ns : List Int) : Prop where
  ex : ∃ (i : Nat) (m c : Int), H d = some (.lst [.ref a, .int i, .int m, .int c]) ∧ 0 ≤ m ∧ m < 2147483647
  sqo : SqL K (off H d) a (ns.map V.int)
section
variable {K : PySem.W.Frag} {H H' H0 : Hp} {d a p : Addr} {ns : List Int} {o : HO}
theorem Dice.sq (D : Dice K H d a ns) : SqL K H a (ns.map V.int) := sqL_same (off_in H d) D.sqo
theorem Dice.ne (D : Dice K H d a ns) : H d ≠ none := by
  obtain ⟨i, m, c, h, _⟩ := D.ex
  rw [h]; intro z; cases z
theorem Dice.upd {i : Nat} {m c : Int} (D : Dice K H d a ns) (h0 : 0 ≤ m) (h1 : m < 2147483647) : Dice K (L2.upd H d (.lst [.ref a, .int i, .int m, .int c])) d a ns :=
  ⟨⟨i, m, c, upd_same, h0, h1⟩, sqL_same (But.off But.upd) D.sqo⟩
theorem Dice.same (D : Dice K H d a ns) (e : Same H H') : Dice K H' d a ns := by
  obtain ⟨i, m, c, h, h0, h1⟩ := D.ex
  exact ⟨⟨i, m, c, e _ _ h, h0, h1⟩, sqL_same (But.of e).off D.sqo⟩
theorem Dice.new (D : Dice K H d a ns) (hp : H p = none) : Dice K (L2.upd H p o) d a ns := D.same (Same.new hp)
theorem Dice.neOf (D : Dice K H d a ns) (hp : H p = none) : p ≠ d := fun e => D.ne (e ▸ hp)
/-- an object that was not there when the dice stood at H0 may change -/
theorem Dice.mut (D0 : Dice K H0 d a ns) (e : But d H0 H) (D : Dice K H d a ns) (hp : H0 p = none) : Dice K (L2.upd H p o) d a ns := by
  obtain ⟨i, m, c, h, h0, h1⟩ := D.ex
  exact ⟨⟨i, m, c, (by rw [upd_ne (Ne.symm (D0.neOf hp))]; exact h), h0, h1⟩, sqL_same (e.mut hp).off D0.sqo⟩
end
/-- where a def of the text stands, as its callers need it -/
structure Site (K : PySem.W.Frag) (mg : Str → Option Value) (x : Str) (f : Addr) (fd : FuncData) (ps : List Str) : Prop where
  g : mg x = some (.ref f)
  k : PySem.W.keepIn K (.ref f) = true
  b : Binds K fd ps []
section
variable {K : PySem.W.Frag}
theorem isi_ok {H : Hp} {Q : VK} {x : V} {T0 T : String} {b : Bool} (ty : TyX K H x (.type T0)) (e : kitB T0 T = some b) (q : Q (.bl b) H) : rIsi K [x, .ty T] H Q :=
  ⟨x, .ty T, .type T0, .type T, b, rfl, .ty T, ty, kit_ty e, q⟩
theorem tyInt {H : Hp} (i : Int) : TyX K H (.int i) (.type "int") := .base (.int i)
theorem tyStr {H : Hp} (z : Str) : TyX K H (.str z) (.type "str") := .base (.str z)
theorem tyLst {H : Hp} {a : Addr} {xs : List V} (h : H a = some (.lst xs)) : TyX K H (.ref a) (.type "list") := .base (.lst h)
theorem tyTup {H : Hp} {a : Addr} {xs : List V} (h : H a = some (.tup xs)) : TyX K H (.ref a) (.type "tuple") := .base (.tup h)
end
end WS
set_option maxRecDepth 100000
set_option maxHeartbeats 4000000
namespace WS
open PySem L2
/-- _law_next(d, many): some number below many; of the heap the dice alone is changed -/
def spNext (K : PySem.W.Frag) : Sp := fun vs H Q _ => ∃ (d a : Addr) (ns : List Int) (m : Int), vs = [.ref d, .int m] ∧ Dice K H d a ns ∧ 0 < m ∧ m < 1073741824 ∧
  ∀ (v : Int) (H' : Hp), 0 ≤ v → v < m → Dice K H' d a ns → But d H H' → (∀ b, b ≠ d → H' b = H b) → Q (.int v) H'
section
variable {P : Program} {w : World} {K : PySem.W.Frag} {mg : Str → Option Value} {base : Heap}
theorem scNext : FnScope ["_law_dice_here", "_law_many", "_law_found", "_law_cell"] ["_law_dice_here", "_law_many"] (defScope sNext) := ⟨rfl, rfl, rfl, by decide +kernel, rfl, by decide +kernel, by decide +kernel⟩
theorem ok_next {f : Addr} {fd : FuncData} (F : Fun K "_law_next" "_law_next" sNext f fd) (z_len : mg "len" = none) : FnOk P w K mg base CX0 1 f fd ["_law_dice_here", "_law_many"] (spNext K) := by
  refine F.ok scNext (fun vs H Q E h => ?_) (fun cdv A outer s H vs Q E hr h => ?_)
  · obtain ⟨d, a, ns, m, rfl, _⟩ := h
    rfl
  · obtain ⟨d, a, ns, m, rfl, D, h0, h1, k⟩ := h
    obtain ⟨i, mx, c, hd, m0, m1⟩ := id D.ex
    have nd := scNext.nd
    refine ⟨_, (pss_cons (ps_if (pt_cmpR op_gt (pe_ix (r := rIxL K) ix_list (pv 0) pe_int (fun _ _ => rfl)) pe_int (nomark _)) (pss_cons (ps_set (i := 2) nd rfl (.inl rfl) (pe_op op_mod (pe_ix (r := rIxL K) ix_list (pv 0) pe_int (fun _ _ => rfl)) (pv 1)))
      (pss_cons (ps_asg (pe_op op_fdiv (pe_ix (r := rIxL K) ix_list (pv 0) pe_int (fun _ _ => rfl)) (pv 1)) (pg_sub (pv 0) pe_int set_list))
      (pss_one (ps_ret (pv 2))))) pss_nil)
      (pss_cons (ps_asg (pe_op op_add (pe_ix (r := rIxL K) ix_list (pv 0) pe_int (fun _ _ => rfl)) pe_int) (pg_sub (pv 0) pe_int set_list))
      (pss_cons (ps_if (pt_cmpR op_le (pe_ix (r := rIxL K) ix_list (pv 0) pe_int (fun _ _ => rfl)) (pe_callB call_len_seq (by rfl) z_len PySem.boot_len (pa_cons (pe_ix (r := rIxL K) ix_list (pv 0) pe_int (fun _ _ => rfl)) pa_nil)) (nomark _)) (pss_cons (ps_set (i := 3) nd rfl (.inl rfl) (pe_ix (r := rIxL K) ix_list (pe_ix (r := rIxL K) ix_list (pv 0) pe_int (fun _ _ => rfl)) (pe_op op_sub (pe_ix (r := rIxL K) ix_list (pv 0) pe_int (fun _ _ => rfl)) pe_int) (fun _ _ => rfl)))
      (pss_cons (ps_asg (pe_ifExp (pt_cmpR op_ge (pv 3) (pe_op op_pow pe_int pe_int) (nomark _)) (pe_op op_fdiv (pv 3) (pv 1)) pe_int) (pg_sub (pv 0) pe_int set_list))
      (pss_one (ps_ret (pe_op op_mod (pv 3) (pv 1)))))) pss_nil)
      (pss_cons (ps_asg (pe_op op_mod (pe_op op_mul (pe_ix (r := rIxL K) ix_list (pv 0) pe_int (fun _ _ => rfl)) pe_int) pe_int) (pg_sub (pv 0) pe_int set_list))
      (pss_one (ps_ret (pe_op op_mod (pe_op op_fdiv (pe_ix (r := rIxL K) ix_list (pv 0) pe_int (fun _ _ => rfl)) pe_int) (pv 1)))))))), ?_⟩
    have hmod : ∀ x : Int, 0 ≤ x % m ∧ x % m < m := fun x => ⟨Int.emod_nonneg x (by omega), Int.emod_lt_of_pos x h0⟩
    refine ⟨_, rfl, d, _, 3, _, rfl, rfl, SqL.of hd, rfl, _, _, rfl, rfl, _, rfl, ?_⟩
    refine ite2 (fun _ => ?_) (fun _ => ?_)
    · refine ⟨_, rfl, d, _, 3, _, rfl, rfl, SqL.of hd, rfl, _, rfl, _, _, rfl, rfl, h0, ?_⟩
      refine ⟨_, rfl, d, _, 3, _, rfl, rfl, SqL.of hd, rfl, _, rfl, _, _, rfl, rfl, ⟨h0, h1⟩, _, rfl, d, _, 3, 3, rfl, rfl, hd, rfl, _, rfl, ?_⟩
      exact k _ _ (hmod _).1 (hmod _).2 (D.upd m0 m1) But.upd (fun b hb => upd_ne hb)
    · refine ⟨_, rfl, d, _, 1, _, rfl, rfl, SqL.of hd, rfl, _, _, rfl, rfl, _, rfl, d, _, 1, 1, rfl, rfl, hd, rfl, ?_⟩
      have D1 : Dice K (upd H d (.lst [.ref a, .int ((i + 1 : Nat) : Int), .int mx, .int c])) d a ns := D.upd m0 m1
      show tSeq _ _ _ _ (upd H d (.lst [.ref a, .int ((i + 1 : Nat) : Int), .int mx, .int c]))
      have e1 : ∀ b, b ≠ d → (upd H d (.lst [.ref a, .int ((i + 1 : Nat) : Int), .int mx, .int c])) b = H b := fun b hb => upd_ne hb
      have hd1 : (upd H d (.lst [.ref a, .int ((i + 1 : Nat) : Int), .int mx, .int c])) d = some (.lst [.ref a, .int ((i + 1 : Nat) : Int), .int mx, .int c]) := upd_same
      generalize upd H d (.lst [.ref a, .int ((i + 1 : Nat) : Int), .int mx, .int c]) = H1 at D1 e1 hd1
      have b1 : But d H H1 := fun b o n h => by rw [e1 b n]; exact h
      refine ⟨_, rfl, d, _, 1, _, rfl, rfl, SqL.of hd1, rfl, _, rfl, d, _, 0, _, rfl, rfl, SqL.of hd1, rfl, a, _, rfl, .inl D1.sq, _, _, rfl, rfl, _, rfl, ?_⟩
      refine ite2 (fun hle => ?_) (fun _ => ?_)
      · have hle' : i < ns.length := by
          have := of_decide_eq_true hle
          rw [List.length_map] at this
          omega
        have hx : (ns.map V.int)[i]? = some (.int ns[i]) := by
          rw [List.getElem?_map, List.getElem?_eq_getElem hle'] <;> rfl
        refine ⟨_, rfl, d, _, 0, _, rfl, rfl, SqL.of hd1, rfl, _, rfl, d, _, 1, _, rfl, rfl, SqL.of hd1, rfl, _, _, rfl, rfl, a, _, _, _, rfl, rfl, D1.sq, at_of (j := i) (by omega) hx, ?_⟩
        refine ⟨_, rfl, _, _, rfl, rfl, ⟨by decide, by decide, by decide⟩, _, _, rfl, rfl, _, rfl, ?_⟩
        refine ite2 (fun _ => ?_) (fun _ => ?_)
        · refine ⟨_, rfl, _, rfl, _, _, rfl, rfl, ⟨h0, h1⟩, _, rfl, d, _, 3, 3, rfl, rfl, hd1, rfl, _, rfl, _, rfl, _, _, rfl, rfl, h0, ?_⟩
          exact k _ _ (hmod _).1 (hmod _).2 (D1.upd m0 m1) (b1.trans But.upd) (fun b hb => (upd_ne hb).trans (e1 b hb))
        · refine ⟨_, rfl, d, _, 3, 3, rfl, rfl, hd1, rfl, _, rfl, _, rfl, _, _, rfl, rfl, h0, ?_⟩
          exact k _ _ (hmod _).1 (hmod _).2 (D1.upd m0 m1) (b1.trans But.upd) (fun b hb => (upd_ne hb).trans (e1 b hb))
      · refine ⟨_, rfl, d, _, 2, _, rfl, rfl, SqL.of hd1, rfl, _, _, rfl, rfl, .inl ⟨by omega, by omega⟩, _, _, rfl, rfl, (by show (0 : Int) < 2147483647; decide), _, rfl, d, _, 2, 2, rfl, rfl, hd1, rfl, ?_⟩
        refine ⟨_, rfl, d, _, 2, _, rfl, rfl, SqL.of upd_same, rfl, _, _, rfl, rfl, ⟨by decide, by decide⟩, _, rfl, _, _, rfl, rfl, h0, ?_⟩
        exact k _ _ (hmod _).1 (hmod _).2 (D1.upd (Int.emod_nonneg _ (by decide)) (Int.emod_lt_of_pos _ (by decide))) (b1.trans But.upd) (fun b hb => (upd_ne hb).trans (e1 b hb))
end
end WS
set_option maxRecDepth 100000
set_option maxHeartbeats 4000000
namespace WS
open PySem L2
theorem ints_at {ns : List Int} {i : Nat} {y : V} (h : (ns.map V.int)[i]? = some y) : ∃ z, ns[i]? = some z ∧ y = V.int z := by
  rw [List.getElem?_map] at h
  cases e : ns[i]? with
  | none =>
    rw [e] at h
    cases h
  | some z =>
    rw [e] at h
    exact ⟨z, rfl, (Option.some.inj h).symm⟩
/-- _law_dice(script): new dice over it -/
def spDice (K : PySem.W.Frag) : Sp := fun vs H Q _ => ∃ (a : Addr) (ns : List Int), vs = [.ref a] ∧ SqL K H a (ns.map V.int) ∧ ∀ (p : Addr) (H' : Hp), H p = none → Same H H' → Dice K H' p a ns → Q (.ref p) H'
section
variable {P : Program} {w : World} {K : PySem.W.Frag} {mg : Str → Option Value} {base : Heap}
theorem scDice : FnScope ["_law_script", "_law_mixed", "_law_cell"] ["_law_script"] (defScope sDice) := ⟨rfl, rfl, rfl, by decide +kernel, rfl, by decide +kernel, by decide +kernel⟩
theorem ok_dice {f : Addr} {fd : FuncData} (F : Fun K "_law_dice" "_law_dice" sDice f fd) (z_len : mg "len" = none) (z_int : mg "int" = none) : FnOk P w K mg base CX0 1 f fd ["_law_script"] (spDice K) := by
  refine F.ok scDice (fun vs H Q E h => ?_) (fun cdv A outer s H vs Q E hr h => ?_)
  · obtain ⟨a, ns, rfl, _⟩ := h
    rfl
  · obtain ⟨a, ns, rfl, hs, k⟩ := h
    have nd := scDice.nd
    refine ⟨_, (pss_cons (ps_set (i := 1) nd rfl (.inl rfl) pe_int)
      (pss_cons (ps_for PassesOwn.never rfl (pi_list (pv 0)) (pg_name (i := 2) nd rfl (.inl rfl)) (pss_one (ps_set (i := 1) nd rfl (.inl rfl) (pe_op op_mod (pe_op op_add (pe_op op_add (pe_op op_mul (pv 1) pe_int) (pe_op op_mul (pe_op op_mod (pv 2) pe_int) pe_int)) pe_int) pe_int))))
      (pss_one (ps_ret (pe_lst (pa_cons (pv 0) (pa_cons pe_int (pa_cons (pe_op op_mul (pv 1) (pe_callTy call_int1 (by rfl) z_int (by decide +kernel) (pa_cons (pe_cmpR op_gt (pe_callB call_len_seq (by rfl) z_len PySem.boot_len (pa_cons (pv 0) pa_nil)) pe_int (nomark _)) pa_nil))) (pa_cons pe_int pa_nil))))))))), ?_⟩
    refine ⟨_, rfl, a, rfl, ⟨_, hs⟩, for_list (K := K) (a := a) (xs := ns.map V.int) (fun i σ H2 => H2 = H ∧ ∃ (m : Int) (v : Option V), σ = [some (.ref a), some (.int m), v] ∧ 0 ≤ m ∧ m < 2147483647)
      ⟨rfl, 0, none, rfl, by decide, by decide⟩ (fun i σ H2 _ ⟨e, _⟩ => e ▸ hs) ?_ ?_⟩
    · rintro i y σ H2 hi ⟨rfl, m, v, rfl, m0, m1⟩
      obtain ⟨z, hz, rfl⟩ := ints_at hi
      refine ⟨_, rfl, _, _, rfl, rfl, .inl ⟨by omega, by omega⟩, _, rfl, _, _, rfl, rfl, (by show (0 : Int) < 2147483647; decide), _, _, rfl, rfl, .inl ⟨?_, ?_⟩, _, _, rfl, rfl, _, _, rfl, rfl, _, _, rfl, rfl, (by show (0 : Int) < 2147483647; decide), ?_⟩
      · have := Int.emod_nonneg z (by decide : (2147483647 : Int) ≠ 0); omega
      · have := Int.emod_lt_of_pos z (by decide : (0 : Int) < 2147483647); omega
      · exact ⟨rfl, _, _, rfl, Int.emod_nonneg _ (by decide), Int.emod_lt_of_pos _ (by decide)⟩
    · rintro σ H2 ⟨rfl, m, v, rfl, m0, m1⟩
      refine ⟨_, rfl, _, rfl, _, rfl, a, _, rfl, .inl hs, _, _, rfl, rfl, .inr ⟨_, rfl, _, _, rfl, rfl, .inl ⟨by omega, by omega⟩, (by show 4 ≤ sizeLine; decide), fun p hp => ?_⟩⟩
      have so : SqL K (off (upd H2 p (.lst [.ref a, .int 0, .int (m * (if decide ((2 : Int) < ((ns.map V.int).length : Nat)) = true then 1 else 0)), .int 0])) p) a (ns.map V.int) :=
        sqL_same (fun b o h => by rw [off_ne (ne_of_none h hp), upd_ne (ne_of_none h hp)]; exact h) hs
      refine k p _ hp (Same.new hp) ⟨⟨0, m * (if decide ((2 : Int) < ((ns.map V.int).length : Nat)) = true then 1 else 0), 0, upd_same, ?_, ?_⟩, so⟩
      · split <;> omega
      · split <;> omega
end
end WS
set_option maxRecDepth 100000
set_option maxHeartbeats 4000000
namespace WS
open PySem L2
/-- a text of one sign -/
def sg (c : Nat) : V := .str ⟨#[c]⟩
theorem sg_at {cs : List Nat} {i : Nat} (h : i < cs.length) : (cs.map sg)[i]? = some (sg cs[i]) := by
  rw [List.getElem?_map, List.getElem?_eq_getElem h] <;> rfl
/-- a word of at most L signs, each one of cs -/
structure WordOk (cs : List Nat) (L : Nat) (z : Str) : Prop where
  ne : z.cps.toList ≠ []
  len : z.cps.toList.length ≤ L
  mem : ∀ c ∈ z.cps.toList, c ∈ cs
theorem WordOk.length {cs : List Nat} {L : Nat} {z : Str} (h : WordOk cs L z) : 1 ≤ z.length ∧ z.length ≤ L := by
  have e : z.cps.toList.length = z.length := Array.length_toList
  have a := h.len
  have b := List.length_pos_iff.mpr h.ne
  omega
theorem wordOne {cs : List Nat} {L : Nat} {c : Nat} (hL : 1 ≤ L) (h : c ∈ cs) : WordOk cs L ⟨#[c]⟩ :=
  ⟨by simp, hL, fun x hx => by
    have : x = c := by simpa using hx
    rw [this]; exact h⟩
theorem wordCons {cs : List Nat} {L : Nat} {c : Nat} {z : Str} (h : WordOk cs L z) (hc : c ∈ cs) (hl : z.cps.toList.length + 1 ≤ L) : WordOk cs L ((⟨#[c]⟩ : Str) ++ z) := by
  have e : ((⟨#[c]⟩ : Str) ++ z).cps.toList = c :: z.cps.toList := by
    rw [PySem.Str.cps_append, Array.toList_append] <;> rfl
  refine ⟨by rw [e]; simp, by rw [e]; exact hl, fun x hx => ?_⟩
  rw [e] at hx
  rcases List.mem_cons.mp hx with rfl | hx
  · exact hc
  · exact h.mem x hx
def spWord (K : PySem.W.Frag) : Sp := fun vs H Q _ => ∃ (n b : Int) (l : Addr) (cs : List Nat) (L : Nat), vs = [.int n, .int b, .ref l] ∧ SqL K H l (cs.map sg) ∧ (cs.length : Int) = b ∧ 2 ≤ b ∧ b < 1073741824 ∧ 0 ≤ n ∧ n < b ^ L ∧ 1 ≤ L ∧ L ≤ 1000 ∧
  ∀ z, WordOk cs L z → Q (.str z) H
section
variable {P : Program} {w : World} {K : PySem.W.Frag} {mg : Str → Option Value} {base : Heap}
theorem scWord : FnScope ["_law_number", "_law_base", "_law_names_here", "_law_word_here"] ["_law_number", "_law_base", "_law_names_here"] (defScope sWord) := ⟨rfl, rfl, rfl, by decide +kernel, rfl, by decide +kernel, by decide +kernel⟩
theorem pow_step {b n : Int} {k : Nat} (hb : 2 ≤ b) (hn : b ≤ n) (h : n < b ^ k) : 2 ≤ k ∧ n / b < b ^ (k - 1) := by
  have h2 : 2 ≤ k := by
    rcases k with _ | _ | k
    · simp at h; omega
    · have e : b ^ (0 + 1) = b := by rw [Int.pow_succ, Int.pow_zero, Int.one_mul]
      omega
    · omega
  refine ⟨h2, Int.ediv_lt_of_lt_mul (by omega) ?_⟩
  obtain ⟨j, rfl⟩ : ∃ j, k = j + 1 := ⟨k - 1, by omega⟩
  rw [Int.pow_succ] at h
  exact h
theorem ok_word {f : Addr} {fd : FuncData} (F : Fun K "_law_word" "_law_word" sWord f fd) : FnOk P w K mg base CX0 1 f fd ["_law_number", "_law_base", "_law_names_here"] (spWord K) := by
  refine F.ok scWord (fun vs H Q E h => ?_) (fun cdv A outer s H vs Q E hr h => ?_)
  · obtain ⟨n, b, l, cs, L, rfl, _⟩ := h
    rfl
  · obtain ⟨n, b, l, cs, L, rfl, hs, hc, b2, b3, n0, n1, hL, L1, k⟩ := h
    have nd := scWord.nd
    refine ⟨_, (pss_cons (ps_set (i := 3) nd rfl (.inl rfl) (pe_ix (r := rIxL K) ix_list (pv 2) (pe_op op_mod (pv 0) (pv 1)) (fun _ _ => rfl)))
      (pss_cons (ps_while PassesOwn.never (pt_cmpR op_ge (pv 0) (pv 1) (nomark _)) (pss_cons (ps_set (i := 0) nd rfl (.inl rfl) (pe_op op_fdiv (pv 0) (pv 1)))
      (pss_one (ps_set (i := 3) nd rfl (.inl rfl) (pe_op op_add_str (pe_ix (r := rIxL K) ix_list (pv 2) (pe_op op_mod (pv 0) (pv 1)) (fun _ _ => rfl)) (pv 3))))))
      (pss_one (ps_ret (pv 3))))), ?_⟩
    have pick : ∀ x : Int, 0 ≤ x → ∃ c, c ∈ cs ∧ atI (cs.map sg) (x % b) = some (sg c) := fun x hx => by
      have h0 := Int.emod_nonneg x (by omega : b ≠ 0)
      have h1 := Int.emod_lt_of_pos x (by omega : 0 < b)
      have hi : (x % b).toNat < cs.length := by omega
      exact ⟨cs[(x % b).toNat], List.getElem_mem hi, at_of (j := (x % b).toNat) (by omega) (sg_at hi)⟩
    obtain ⟨c, hcm, hcx⟩ := pick n n0
    refine ⟨_, rfl, _, rfl, _, rfl, _, _, rfl, rfl, (by show (0 : Int) < b; omega), l, _, _, _, rfl, rfl, hs, hcx, ?_⟩
    refine while_by (fun σ H2 => H2 = H ∧ ∃ (n' : Int) (z : Str), σ = [some (.int n'), some (.int b), some (.ref l), some (.str z)] ∧ 0 ≤ n' ∧ WordOk cs L z ∧ n' < b ^ (L + 1 - z.cps.toList.length))
      (fun σ _ => match σ with | some (.int n') :: _ => n'.toNat | _ => 0) ⟨rfl, n, _, rfl, n0, wordOne hL hcm, n1⟩ ?_ ?_
    · rintro σ H2 ⟨rfl, n', z, rfl, h0, hz, hb⟩
      refine ⟨_, rfl, _, rfl, _, _, rfl, rfl, _, rfl, ite2 (fun hge => ?_) (fun _ => ?_)⟩
      · have hge' : b ≤ n' := of_decide_eq_true hge
        obtain ⟨h2, hlt⟩ := pow_step b2 hge' hb
        have hd0 : 0 ≤ n' / b := Int.ediv_nonneg h0 (by omega)
        have hdl : n' / b < n' := Int.ediv_lt_of_lt_mul (by omega) (by have := Int.mul_le_mul_of_nonneg_left b2 h0; omega)
        obtain ⟨c', hcm', hcx'⟩ := pick (n' / b) hd0
        have hzl := hz.len
        refine ⟨_, rfl, _, rfl, _, _, rfl, rfl, ⟨by omega, b3⟩, _, rfl, _, rfl, _, rfl, _, _, rfl, rfl, (by show (0 : Int) < b; omega), l, _, _, _, rfl, rfl, hs, hcx', _, rfl, _, _, rfl, rfl, ?_, ?_⟩
        · have e : z.cps.toList.length = z.length := Array.length_toList
          show 1 + z.length ≤ sizeLine
          exact line_of (by omega)
        · refine ⟨⟨rfl, _, _, rfl, hd0, wordCons hz hcm' (by omega), ?_⟩, ?_⟩
          · have e : ((⟨#[c']⟩ : Str) ++ z).cps.toList.length = z.cps.toList.length + 1 := by
              rw [PySem.Str.cps_append, Array.toList_append, List.length_append, Nat.add_comm] <;> rfl
            rw [e]
            have e2 : L + 1 - (z.cps.toList.length + 1) = L + 1 - z.cps.toList.length - 1 := by omega
            rw [e2]
            exact hlt
          · show (n' / b).toNat < n'.toNat
            omega
      · exact ⟨_, rfl, k z hz⟩
    · rintro σ H2 Q1 Q2 hq ⟨x, hx, y, hy, i, j, e1, e2, c, e3, h⟩
      exact ⟨x, hx, y, hy, i, j, e1, e2, c, e3, hq _ _ h⟩
end
end WS
set_option maxRecDepth 100000
set_option maxHeartbeats 4000000
namespace WS
open PySem L2
theorem at_ofG {α : Type} {xs : List α} {z : Int} {j : Nat} {v : α} (e : z = (j : Int)) (h : xs[j]? = some v) : atI xs z = some v := by
  rw [e]; exact atI_nat h
/-- the letters that a sheet's words are made of -/
structure NamesOk (cs : List Nat) (b : Int) : Prop where
  len : (cs.length : Int) = b
  nd : cs.Nodup
  low : ∀ c ∈ cs, 97 ≤ c ∧ c ≤ 122
def abc : Str := "abcdefghijklmnopqrstuvwxyz"
theorem abc_len : abc.length = 26 := by decide +kernel
theorem abc_all : ∀ i : Nat, i < 26 → abc.cps.toList[i]? = some (97 + i) := by decide +kernel
def letter (t s : Int) (i : Nat) : Nat := 97 + ((t + s * (0 + (i : Int))) % 26).toNat
theorem steps_six {j : Nat} (h : j < 6) : ∃ s : Int, ([V.int 1, .int 3, .int 5, .int 7, .int 9, .int 11])[j]? = some (.int s) ∧ (s = 1 ∨ s = 3 ∨ s = 5 ∨ s = 7 ∨ s = 9 ∨ s = 11) := by
  rcases j with _ | _ | _ | _ | _ | _ | j
  · exact ⟨1, rfl, by decide⟩
  · exact ⟨3, rfl, by decide⟩
  · exact ⟨5, rfl, by decide⟩
  · exact ⟨7, rfl, by decide⟩
  · exact ⟨9, rfl, by decide⟩
  · exact ⟨11, rfl, by decide⟩
  · omega
theorem letter_inj {t s : Int} {i j : Nat} (hs : s = 1 ∨ s = 3 ∨ s = 5 ∨ s = 7 ∨ s = 9 ∨ s = 11) (hi : i < 12) (hj : j < 12) (h : letter t s i = letter t s j) : i = j := by
  unfold letter at h
  rcases hs with rfl | rfl | rfl | rfl | rfl | rfl <;> omega
theorem names_ok {t s : Int} {n : Nat} (hs : s = 1 ∨ s = 3 ∨ s = 5 ∨ s = 7 ∨ s = 9 ∨ s = 11) (hn : n ≤ 12) : NamesOk ((List.range n).map (letter t s)) n := by
  refine ⟨by rw [List.length_map, List.length_range], ?_, fun c hc => ?_⟩
  · rw [List.Nodup, List.pairwise_map]
    refine List.Pairwise.imp_of_mem (R := fun a b => a ≠ b) (fun {a b} ha hb hab e => ?_) (show (List.range n).Nodup from List.nodup_range)
    have := List.mem_range.mp ha
    have := List.mem_range.mp hb
    exact hab (letter_inj hs (by omega) (by omega) e)
  · obtain ⟨i, _, rfl⟩ := List.mem_map.mp hc
    unfold letter
    omega
/-- _law_names(d, base) -/
def spNames (K : PySem.W.Frag) : Sp := fun vs H Q _ => ∃ (d a : Addr) (ns : List Int) (b : Int), vs = [.ref d, .int b] ∧ Dice K H d a ns ∧ 2 ≤ b ∧ b ≤ 12 ∧
  ∀ (p : Addr) (H' : Hp) (cs : List Nat), H p = none → Dice K H' d a ns → But d H H' → H' p = some (.lst (cs.map sg)) → NamesOk cs b → Q (.ref p) H'
section
variable {P : Program} {w : World} {K : PySem.W.Frag} {mg : Str → Option Value} {base : Heap}
theorem scNames : FnScope ["_law_d", "_law_base", "_law_turn", "_law_step", "_law_k"] ["_law_d", "_law_base"] (defScope sNames) := ⟨rfl, rfl, rfl, by decide +kernel, rfl, by decide +kernel, by decide +kernel⟩
theorem ok_names {f fN : Addr} {fd fdN : FuncData} (F : Fun K "_law_names" "_law_names" sNames f fd) (z_range : mg "range" = none) (S__law_next : Site K mg "_law_next" fN fdN ["_law_dice_here", "_law_many"])
    (G__law_next : FnOk P w K mg base CX0 1 fN fdN ["_law_dice_here", "_law_many"] (spNext K)) : FnOk P w K mg base CX0 2 f fd ["_law_d", "_law_base"] (spNames K) := by
  refine F.ok scNames (fun vs H Q E h => ?_) (fun cdv A outer s H vs Q E hr h => ?_)
  · obtain ⟨d, a, ns, b, rfl, _⟩ := h
    rfl
  · obtain ⟨d, a, ns, b, rfl, D, b2, b12, k⟩ := h
    have nd := scNames.nd
    have hr__law_next := hr
    refine ⟨_, (pss_cons (ps_set (i := 2) nd rfl (.inr rfl) (pe_call G__law_next hr__law_next (by rfl) S__law_next.g S__law_next.k S__law_next.b .nil pass0 (pa_cons (pv 0) (pa_cons pe_int pa_nil))))
      (pss_cons (ps_set (i := 3) nd rfl (.inr rfl) (pe_ix (r := rIxL K) ix_list (pe_lst (pa_cons pe_int (pa_cons pe_int (pa_cons pe_int (pa_cons pe_int (pa_cons pe_int (pa_cons pe_int pa_nil))))))) (pe_call G__law_next hr__law_next (by rfl) S__law_next.g S__law_next.k S__law_next.b .nil pass0 (pa_cons (pv 0) (pa_cons pe_int pa_nil))) (fun _ _ => rfl)))
      (pss_one (ps_ret (pe_lc (own := [("_law_k", 4)]) (g := (gName 4)) (tt := tYes) rfl nd (pi_range1 (by rfl) z_range (pa_cons (pv 1) pa_nil)) (blkOk_by (own := [("_law_k", 4)]) (N := ["_law_d", "_law_base", "_law_turn", "_law_step", "_law_k"]) (sc := defScope sNames) (by decide +kernel)) (fun _ _ _ _ _ => (pg_name (i := 4) nd rfl (.inl rfl))) (fun _ _ _ _ _ => pts_nil) (fun _ _ _ _ _ => (pe_ix (r := rIxS) ix_str pe_str (pe_op op_mod (pe_op op_add (pv 2) (pe_op op_mul (pv 3) (pv 4))) pe_int) (fun _ _ => rfl)))))))), ?_⟩
    refine ⟨_, rfl, d, a, ns, 26, rfl, D, by decide, by decide, fun t H1 t0 t1 D1 b1 _ => ?_⟩
    refine ⟨by show 6 ≤ sizeLine; decide, fun q hq => ?_⟩
    refine ⟨_, rfl, d, a, ns, 6, rfl, D1.new hq, by decide, by decide, fun j H2 j0 j1 D2 b2' e2 => ?_⟩
    have hqd : q ≠ d := D1.neOf hq
    obtain ⟨st, hst, hs6⟩ := steps_six (j := j.toNat) (by omega)
    refine ⟨q, _, j, _, rfl, rfl, SqL.of ((e2 q hqd).trans upd_same), at_of (j := j.toNat) (by omega) hst, ?_⟩
    have b3 : But d H H2 := (b1.trans (But.new hq)).trans b2'
    refine ⟨_, rfl, b, rfl, by omega, by omega, fun p hp => ?_⟩
    have hp0 : H p = none := b3.free D2.ne hp
    refine lc_range (lo := 0) (n := b.toNat) (fun i H3 => H3 = upd H2 p (.lst (((List.range i).map (letter t st)).map sg))) rfl ?_ ?_
    · rintro i H3 hi rfl
      refine ⟨rfl, _, rfl, _, rfl, _, rfl, _, _, rfl, rfl, .inl ⟨by omega, by omega⟩, _, _, rfl, rfl, _, _, rfl, rfl, (by show (0 : Int) < 26; decide), ?_⟩
      have h0 := Int.emod_nonneg (t + st * (0 + (i : Int))) (by decide : (26 : Int) ≠ 0)
      have h1 := Int.emod_lt_of_pos (t + st * (0 + (i : Int))) (by decide : (0 : Int) < 26)
      refine ⟨abc, (t + st * (0 + (i : Int))) % 26, letter t st i, rfl, rfl, (by rw [abc_len]; decide), ?_, ?_⟩
      · show atI abc.cps.toList ((t + st * (0 + (i : Int))) % 26) = some (letter t st i)
        have := abc_all ((t + st * (0 + (i : Int))) % 26).toNat (by omega)
        exact at_ofG (j := ((t + st * (0 + (i : Int))) % 26).toNat) (by omega) this
      · refine ⟨_, upd_same, ?_, ?_⟩
        · rw [List.length_map, List.length_map, List.length_range]
          exact line_lt (by omega)
        · rw [upd_upd, List.range_succ, List.map_append, List.map_append]
          rfl
    · rintro H3 rfl
      refine k p _ ((List.range b.toNat).map (letter t st)) hp0 (D2.new hp) (b3.trans (But.new hp)) upd_same ?_
      have := names_ok (t := t) hs6 (n := b.toNat) (by omega)
      rw [Int.toNat_of_nonneg (by omega)] at this
      exact this
end
end WS
set_option maxRecDepth 100000
set_option maxHeartbeats 4000000
namespace WS
open PySem L2
/-! ### what a drawn sum is -/
structure SumOk (cs : List Nat) (b : Int) (ws : List Str) (tot : Str) : Prop where
  many : 1 ≤ ws.length ∧ ws.length ≤ 4
  adds : ∀ w ∈ ws, WordOk cs 6 w
  total : WordOk cs 6 tot
  big : 6 < b → ws.length = 2 ∧ (∀ w ∈ ws, WordOk cs 1 w) ∧ WordOk cs 2 tot
theorem WordOk.mono {cs : List Nat} {L L' : Nat} {z : Str} (h : WordOk cs L z) (l : L ≤ L') : WordOk cs L' z := ⟨h.ne, Nat.le_trans h.len l, h.mem⟩
theorem join_empty : ∀ xs : List Str, (Str.join Str.empty xs).cps.toList = (xs.map (·.cps.toList)).flatten
  | [] => rfl
  | [x] => by show x.cps.toList = x.cps.toList ++ []; rw [List.append_nil]
  | x :: y :: r => by
    show (x ++ Str.empty ++ Str.join Str.empty (y :: r)).cps.toList = x.cps.toList ++ ((y :: r).map (·.cps.toList)).flatten
    rw [← join_empty (y :: r), PySem.Str.cps_append, Array.toList_append, PySem.Str.cps_append, Array.toList_append]
    show x.cps.toList ++ [] ++ _ = _
    rw [List.append_nil]
theorem join_signs (cs : List Nat) : (Str.join Str.empty (cs.map fun c => (⟨#[c]⟩ : Str))).cps.toList = cs := by
  rw [join_empty, List.map_map]
  induction cs with
  | nil => rfl
  | cons c r ih =>
    show [c] ++ (r.map _).flatten = c :: r
    rw [ih] <;> rfl
theorem word_join {cs xs : List Nat} {L : Nat} (h0 : xs ≠ []) (h1 : xs.length ≤ L) (h2 : ∀ c ∈ xs, c ∈ cs) : WordOk cs L (Str.join Str.empty (xs.map fun c => (⟨#[c]⟩ : Str))) :=
  ⟨by rw [join_signs]; exact h0, by rw [join_signs]; exact h1, by rw [join_signs]; exact h2⟩
theorem sg_strs (xs : List Nat) : xs.map sg = (xs.map fun c => (⟨#[c]⟩ : Str)).map V.str := by
  rw [List.map_map] <;> rfl
theorem cutV_1 (xs : List V) (h : 1 ≤ xs.length) : cutV xs (some 1) none = xs.drop 1 := by
  unfold cutV
  have e : HT.sIx xs.length 0 (some 1) = 1 := by
    have := HT.sIx_nat xs.length 0 1
    rw [show ((1 : Nat) : Int) = 1 from rfl] at this
    rw [this]; omega
  rw [e, HT.sIx_none]
  exact List.take_of_length_le (by rw [List.length_drop] <;> exact Nat.le_refl _)
/-- the limits of the numbers that are drawn -/
def limOf (b : Int) : Int := if 6 < b then b else if b < 5 then b * b * b * b else b * b * b
def lengthOf (b : Int) : Nat := if 6 < b then 1 else 4
theorem lim_facts {b : Int} (h2 : 2 ≤ b) (h12 : b ≤ 12) : 0 < limOf b ∧ limOf b < 1073741824 ∧ limOf b ≤ b ^ lengthOf b ∧ 4 * limOf b ≤ b ^ 6 ∧ (6 < b → 2 * limOf b ≤ b ^ 2) := by
  have e : b = 2 ∨ b = 3 ∨ b = 4 ∨ b = 5 ∨ b = 6 ∨ b = 7 ∨ b = 8 ∨ b = 9 ∨ b = 10 ∨ b = 11 ∨ b = 12 := by omega
  rcases e with rfl | rfl | rfl | rfl | rfl | rfl | rfl | rfl | rfl | rfl | rfl <;> decide
theorem sum_le : ∀ {xs : List Int} {m : Int}, (∀ x ∈ xs, 0 ≤ x ∧ x < m) → 0 ≤ xs.sum ∧ xs.sum ≤ xs.length * (m - 1)
  | [], m, _ => by simp
  | x :: r, m, h => by
    obtain ⟨a, b⟩ := sum_le (xs := r) fun y hy => h y (List.mem_cons_of_mem _ hy)
    obtain ⟨c, d⟩ := h x List.mem_cons_self
    rw [List.sum_cons, List.length_cons]
    refine ⟨by omega, ?_⟩
    have : ((r.length + 1 : Nat) : Int) * (m - 1) = r.length * (m - 1) + (m - 1) := by
      rw [Int.natCast_add, Int.add_mul]; simp
    rw [this]; omega
theorem sum_lim {b : Int} (h2 : 2 ≤ b) (h12 : b ≤ 12) {xs : List Int} (h : ∀ x ∈ xs, 0 ≤ x ∧ x < limOf b) (hl : xs.length ≤ 4) : 0 ≤ xs.sum ∧ xs.sum < b ^ 6 ∧ (6 < b → xs.length = 2 → xs.sum < b ^ 2) := by
  obtain ⟨a, c⟩ := sum_le h
  obtain ⟨l0, _, _, l4, l2⟩ := lim_facts h2 h12
  have hm : (xs.length : Int) * (limOf b - 1) ≤ 4 * (limOf b - 1) := Int.mul_le_mul_of_nonneg_right (by omega) (by omega)
  refine ⟨a, by omega, fun hb he => ?_⟩
  have := l2 hb
  rw [he] at c
  omega
end WS
set_option maxRecDepth 100000
set_option maxHeartbeats 8000000
namespace WS
open PySem L2
theorem names_off {K : PySem.W.Frag} {H : Hp} {d a l : Addr} {ns : List Int} {cs : List Nat} (D : Dice K H d a ns) (hl : H l = some (.lst (cs.map sg))) : l ≠ d := by
  intro e
  subst e
  obtain ⟨i, m, c, h, _⟩ := D.ex
  rw [h] at hl
  have := HO.lst.inj (Option.some.inj hl)
  rcases cs with _ | ⟨x, r⟩
  · cases this
  · injection this with h1 _
    cases h1
/-- _law_sum(d, base, names): one sum -/
def spSum (K : PySem.W.Frag) : Sp := fun vs H Q _ => ∃ (d a : Addr) (ns : List Int) (b : Int) (l : Addr) (cs : List Nat), vs = [.ref d, .int b, .ref l] ∧ Dice K H d a ns ∧ 2 ≤ b ∧ b ≤ 12 ∧ H l = some (.lst (cs.map sg)) ∧ (cs.length : Int) = b ∧
  ∀ (t u : Addr) (H' : Hp) (ws : List Str) (tot : Str), H t = none → H u = none → Dice K H' d a ns → But d H H' → H' t = some (.tup [.ref u, .str tot]) → H' u = some (.tup (ws.map V.str)) → SumOk cs b ws tot → Q (.ref t) H'
section
variable {P : Program} {w : World} {K : PySem.W.Frag} {mg : Str → Option Value} {base : Heap}
theorem scSum : FnScope ["_law_d", "_law_base", "_law_names_here", "_law_limit", "_law_many", "_law_words", "_law_k", "_law_size", "_law_numbers", "_law_j", "_law_number"] ["_law_d", "_law_base", "_law_names_here"] (defScope sSum) := ⟨rfl, rfl, rfl, by decide +kernel, rfl, by decide +kernel, by decide +kernel⟩
theorem ok_sum {f fN fW : Addr} {fd fdN fdW : FuncData} (F : Fun K "_law_sum" "_law_sum" sSum f fd) (z_range : mg "range" = none) (z_tuple : mg "tuple" = none) (z_sum : mg "sum" = none)
    (S__law_next : Site K mg "_law_next" fN fdN ["_law_dice_here", "_law_many"]) (G__law_next : FnOk P w K mg base CX0 1 fN fdN ["_law_dice_here", "_law_many"] (spNext K))
    (S__law_word : Site K mg "_law_word" fW fdW ["_law_number", "_law_base", "_law_names_here"]) (G__law_word : FnOk P w K mg base CX0 1 fW fdW ["_law_number", "_law_base", "_law_names_here"] (spWord K)) :
    FnOk P w K mg base CX0 2 f fd ["_law_d", "_law_base", "_law_names_here"] (spSum K) := by
  refine F.ok scSum (fun vs H Q E h => ?_) (fun cdv A outer s H vs Q E hr h => ?_)
  · obtain ⟨d, a, ns, b, l, cs, rfl, _⟩ := h
    rfl
  · obtain ⟨d, a, ns, b, l, cs, rfl, D, b2, b12, hl, hcs, k⟩ := h
    have nd := scSum.nd
    have hr__law_next := hr
    have hr__law_word := hr
    have hld := names_off D hl
    obtain ⟨l0, l30, lL, l4, l2⟩ := lim_facts b2 b12
    have pick : ∀ v : Int, 0 ≤ v → v < b → ∃ c, c ∈ cs ∧ atI (cs.map sg) v = some (sg c) := fun v h0 h1 => by
      have hi : v.toNat < cs.length := by omega
      exact ⟨cs[v.toNat], List.getElem_mem hi, at_of (j := v.toNat) (by omega) (sg_at hi)⟩
    refine ⟨_, (pss_cons (ps_set (i := 3) nd rfl (.inr rfl) (pe_op op_mul (pe_op op_mul (pv 1) (pv 1)) (pv 1)))
      (Evl.pss_cut (ps_if (pt_cmpR op_lt (pv 1) pe_int (nomark _)) (pss_one (ps_set (i := 3) nd rfl (.inr rfl) (pe_op op_mul (pv 3) (pv 1)))) pss_nil)
      (pss_cons (ps_set (i := 4) nd rfl (.inl rfl) (pe_op op_add pe_int (pe_call G__law_next hr__law_next (by rfl) S__law_next.g S__law_next.k S__law_next.b .nil pass0 (pa_cons (pv 0) (pa_cons pe_int pa_nil)))))
      (Evl.pss_cut (ps_if (pt_cmpR op_gt (pv 1) pe_int (nomark _)) (pss_cons (ps_set (i := 3) nd rfl (.inr rfl) (pv 1))
      (pss_one (ps_set (i := 4) nd rfl (.inl rfl) pe_int))) pss_nil)
      (Evl.pss_cut (ps_if (PW.pt (pw_and (pt_cmpR op_eq (pe_call G__law_next hr__law_next (by rfl) S__law_next.g S__law_next.k S__law_next.b .nil pass0 (pa_cons (pv 0) (pa_cons pe_int pa_nil))) pe_int (nomark _)) (pw_and1 (pt_cmpR op_lt (pv 1) pe_int (nomark _))))) (pss_cons (ps_set (i := 5) nd rfl (.inl rfl) (pe_lst pa_nil))
      (pss_cons (ps_for PassesOwn.never rfl (pi_range1 (by rfl) z_range (pa_cons (pe_op op_add (pv 4) pe_int) pa_nil)) (pg_name (i := 6) nd rfl (.inl rfl)) (pss_cons (ps_set (i := 7) nd rfl (.inl rfl) (pe_op op_add pe_int (pe_call G__law_next hr__law_next (by rfl) S__law_next.g S__law_next.k S__law_next.b .nil pass0 (pa_cons (pv 0) (pa_cons pe_int pa_nil)))))
      (Evl.pss_cut (ps_if (PW.pt (pw_and (pt_cmpR op_lt (pv 1) pe_int (nomark _)) (pw_and1 (pt_cmpR op_eq (pe_call G__law_next hr__law_next (by rfl) S__law_next.g S__law_next.k S__law_next.b .nil pass0 (pa_cons (pv 0) (pa_cons pe_int pa_nil))) pe_int (nomark _))))) (pss_one (ps_set (i := 7) nd rfl (.inl rfl) (pe_op op_add pe_int (pe_call G__law_next hr__law_next (by rfl) S__law_next.g S__law_next.k S__law_next.b .nil pass0 (pa_cons (pv 0) (pa_cons pe_int pa_nil)))))) pss_nil)
      (pss_one (ps_expr (pe_bm PySem.F.plainAttrs_list PySem.F.slot_list_append PySem.F.type_list_append mt_append (pv 5) (pa_cons (pe_join pe_str (pe_lc (own := [("_law_j", 9)]) (g := (gName 9)) (tt := tYes) rfl nd (pi_range1 (by rfl) z_range (pa_cons (pv 7) pa_nil)) (blkOk_by (own := [("_law_j", 9)]) (N := ["_law_d", "_law_base", "_law_names_here", "_law_limit", "_law_many", "_law_words", "_law_k", "_law_size", "_law_numbers", "_law_j", "_law_number"]) (sc := defScope sSum) (by decide +kernel)) (fun _ _ _ _ _ => (pg_name (i := 9) nd rfl (.inl rfl))) (fun _ _ _ _ _ => pts_nil) (fun _ _ _ _ _ => (pe_ix (r := rIxL K) ix_list (pv 2) (pe_call G__law_next hr__law_next (by rfl) S__law_next.g S__law_next.k S__law_next.b .nil pass0 (pa_cons (pv 0) (pa_cons (pv 1) pa_nil))) (fun _ _ => rfl))))) pa_nil)))))))
      (pss_one (ps_ret (pe_tup (pa_cons (pe_callTy call_tuple_of (by rfl) z_tuple (by decide +kernel) (pa_cons (pe_slice sl_list (pv 5) (po_some pe_int) po_none) pa_nil)) (pa_cons (pe_ix (r := rIxL K) ix_list (pv 5) pe_int (fun _ _ => rfl)) pa_nil))))))) pss_nil)
      (pss_cons (ps_setLc (i := 8) (own := [("_law_k", 6)]) (g := (gName 6)) (tt := tYes) rfl nd rfl rfl (sw_true rfl rfl rfl (by decide +kernel)) (pi_range1 (by rfl) z_range (pa_cons (pv 4) pa_nil)) (blkOk_by (own := [("_law_k", 6)]) (N := ["_law_d", "_law_base", "_law_names_here", "_law_limit", "_law_many", "_law_words", "_law_k", "_law_size", "_law_numbers", "_law_j", "_law_number"]) (sc := defScope sSum) (by decide +kernel)) (fun _ _ _ _ _ => (pg_name (i := 6) nd rfl (.inl rfl))) (fun _ _ _ _ _ => pts_nil) (fun _ _ _ _ _ => (pe_call G__law_next hr__law_next (by rfl) S__law_next.g S__law_next.k S__law_next.b .nil pass0 (pa_cons (pv 0) (pa_cons (pv 3) pa_nil)))))
      (pss_one (ps_ret (pe_tup (pa_cons (pe_callTy call_tuple_of (by rfl) z_tuple (by decide +kernel) (pa_cons (pe_lc (own := [("_law_number", 10)]) (g := (gName 10)) (tt := tYes) rfl nd (pi_list (pv 8)) (blkOk_by (own := [("_law_number", 10)]) (N := ["_law_d", "_law_base", "_law_names_here", "_law_limit", "_law_many", "_law_words", "_law_k", "_law_size", "_law_numbers", "_law_j", "_law_number"]) (sc := defScope sSum) (by decide +kernel)) (fun _ _ _ _ _ => (pg_name (i := 10) nd rfl (.inl rfl))) (fun _ _ _ _ _ => pts_nil) (fun _ _ _ _ _ => (pe_call G__law_word hr__law_word (by rfl) S__law_word.g S__law_word.k S__law_word.b .nil pass0 (pa_cons (pv 10) (pa_cons (pv 1) (pa_cons (pv 2) pa_nil)))))) pa_nil)) (pa_cons (pe_call G__law_word hr__law_word (by rfl) S__law_word.g S__law_word.k S__law_word.b .nil pass0 (pa_cons (pe_callB (cr_sum rfl) (by rfl) z_sum (by decide +kernel) (pa_cons (pv 8) pa_nil)) (pa_cons (pv 1) (pa_cons (pv 2) pa_nil)))) pa_nil))))))))))), ?_⟩
    refine ⟨_, rfl, _, rfl, _, _, rfl, rfl, .inl ⟨by omega, by omega⟩, _, rfl, _, _, rfl, rfl, .inr ⟨by omega, by omega⟩, ?_⟩
    refine ⟨fun σ H1 => H = H1 ∧ σ = [some (.ref d), some (.int b), some (.ref l), some (.int (if b < 5 then b * b * b * b else b * b * b)), none, none, none, none, none, none, none], ?_, ?_⟩
    · refine ⟨_, rfl, _, _, rfl, rfl, _, rfl, ite2 (fun c => ?_) (fun c => ?_)⟩
      · refine ⟨_, rfl, _, rfl, _, _, rfl, rfl, .inr ⟨by omega, by omega⟩, rfl, ?_⟩
        rw [if_pos (of_decide_eq_true c)] <;> rfl
      · refine ⟨rfl, ?_⟩
        rw [if_neg (fun h => c (decide_eq_true h))] <;> rfl
    · rintro σ H1 ⟨rfl, rfl⟩
      refine ⟨_, rfl, d, a, ns, 4, rfl, D, by decide, by decide, fun v H1' v0 v1 D1 b1 _ => ?_⟩
      refine ⟨_, _, rfl, rfl, ?_⟩
      refine ⟨fun σ H2 => H2 = H1' ∧ ∃ m : Int, σ = [some (.ref d), some (.int b), some (.ref l), some (.int (limOf b)), some (.int m), none, none, none, none, none, none] ∧ 1 ≤ m ∧ m ≤ 4 ∧ (6 < b → m = 2), ?_, ?_⟩
      · refine ⟨_, rfl, _, _, rfl, rfl, _, rfl, ite2 (fun c => ?_) (fun c => ?_)⟩
        · refine ⟨_, rfl, rfl, 2, ?_, by decide, by decide, fun _ => rfl⟩
          have e : limOf b = b := by unfold limOf; rw [if_pos (of_decide_eq_true c)]
          rw [e] <;> rfl
        · refine ⟨rfl, 1 + v, ?_, by omega, by omega, fun h => absurd (decide_eq_true h) c⟩
          have e : limOf b = if b < 5 then b * b * b * b else b * b * b := by unfold limOf; rw [if_neg (fun h => c (decide_eq_true h))]
          rw [e] <;> rfl
      · rintro σ H2 ⟨rfl, m, rfl, m0, m4, mb⟩
        refine ⟨fun σ H3 => σ = [some (.ref d), some (.int b), some (.ref l), some (.int (limOf b)), some (.int m), none, none, none, none, none, none] ∧ Dice K H3 d a ns ∧ But d H H3, ?_, ?_⟩
        · refine ⟨_, rfl, d, a, ns, 4, rfl, D1, by decide, by decide, fun v' H3 v0' v1' D3 b3 _ => ?_⟩
          refine ⟨rfl, _, rfl, ite2 (fun c => ?_) (fun c => iteF ?_)⟩
          · refine ⟨_, rfl, _, _, rfl, rfl, _, rfl, ite2 (fun c => ?_) (fun c => ?_)⟩
            · -- the words' branch
              have hb7 : b < 7 := of_decide_eq_true c
              have b3' := b1.trans b3
              refine ⟨by show 0 ≤ sizeLine; decide, fun wl hwl => ?_⟩
              have hw0 : H wl = none := b3'.free D3.ne hwl
              have hwd : wl ≠ d := D3.neOf hwl
              refine ⟨_, rfl, _, _, rfl, rfl, _, rfl, by omega, by omega, for_range (lo := 0) (n := (m + 1).toNat) (fun i σ H4 => ∃ (ws : List Str) (v6 v7 : Option V), σ = [some (.ref d), some (.int b), some (.ref l), some (.int (limOf b)), some (.int m), some (.ref wl), v6, v7, none, none, none] ∧
                  Dice K H4 d a ns ∧ But d H H4 ∧ H4 wl = some (.lst (ws.map V.str)) ∧ ws.length = i ∧ ∀ w ∈ ws, WordOk cs 6 w)
                ⟨[], none, none, rfl, D3.new hwl, b3'.trans (But.new hwl), upd_same, rfl, fun w hw => nomatch hw⟩ ?_ ?_⟩
              · rintro i σ H4 hi ⟨ws, v6, v7, rfl, D4, b4, hws, hwn, hwo⟩
                refine ⟨_, rfl, d, a, ns, 3, rfl, D4, by decide, by decide, fun v H5 v0 v1 D5 b5 e5 => ?_⟩
                refine ⟨_, _, rfl, rfl, ?_⟩
                refine ⟨fun σ H6 => ∃ sz : Int, σ = [some (.ref d), some (.int b), some (.ref l), some (.int (limOf b)), some (.int m), some (.ref wl), some (.int (0 + (i : Int))), some (.int sz), none, none, none] ∧ 1 ≤ sz ∧ sz ≤ 6 ∧
                    Dice K H6 d a ns ∧ But d H H6 ∧ H6 wl = some (.lst (ws.map V.str)), ?_, ?_⟩
                · have out : ∃ sz : Int, [some (V.ref d), some (V.int b), some (V.ref l), some (V.int (limOf b)), some (V.int m), some (V.ref wl), some (V.int (0 + (i : Int))), some (V.int (1 + v)), none, none, none] = [some (.ref d), some (.int b), some (.ref l), some (.int (limOf b)), some (.int m), some (.ref wl), some (.int (0 + (i : Int))), some (.int sz), none, none, none] ∧ 1 ≤ sz ∧ sz ≤ 6 ∧
                    Dice K H5 d a ns ∧ But d H H5 ∧ H5 wl = some (.lst (ws.map V.str)) := ⟨1 + v, rfl, by omega, by omega, D5, b4.trans b5, (e5 wl hwd).trans hws⟩
                  refine ⟨_, rfl, _, _, rfl, rfl, _, rfl, ite2 (fun _ => ?_) (fun _ => iteF out)⟩
                  refine ⟨_, rfl, d, a, ns, 4, rfl, D5, by decide, by decide, fun v2 H6 _ _ D6 b6 e6 => ?_⟩
                  refine ⟨rfl, _, rfl, ite2 (fun _ => ?_) (fun _ => ?_)⟩
                  · refine ⟨_, rfl, d, a, ns, 6, rfl, D6, by decide, by decide, fun v3 H7 v30 v31 D7 b7 e7 => ?_⟩
                    exact ⟨_, _, rfl, rfl, 1 + v3, rfl, by omega, by omega, D7, ((b4.trans b5).trans b6).trans b7, (e7 wl hwd).trans ((e6 wl hwd).trans ((e5 wl hwd).trans hws))⟩
                  · exact ⟨1 + v, rfl, by omega, by omega, D6, (b4.trans b5).trans b6, (e6 wl hwd).trans ((e5 wl hwd).trans hws)⟩
                · rintro σ H6 ⟨sz, rfl, sz1, sz6, D6, b6, hw6⟩
                  refine ⟨_, rfl, .inl ⟨rfl, _, SqL.of hw6⟩, ⟨_, rfl⟩, _, rfl, sz, rfl, by omega, by omega, fun D' hD' => ?_⟩
                  have hD0 : H D' = none := b6.free D6.ne hD'
                  have hDd : D' ≠ d := D6.neOf hD'
                  have hDw : wl ≠ D' := ne_of_none hw6 hD'
                  refine lc_range (lo := 0) (n := sz.toNat) (fun j H7 => ∃ xs : List Nat, H7 D' = some (.lst (xs.map sg)) ∧ xs.length = j ∧ (∀ c ∈ xs, c ∈ cs) ∧ Dice K H7 d a ns ∧ But d H H7 ∧ H7 wl = some (.lst (ws.map V.str)))
                    ⟨[], upd_same, rfl, (fun c hc => nomatch hc), D6.new hD', b6.trans (But.new hD'), (upd_ne hDw).trans hw6⟩ ?_ ?_
                  · rintro j H7 hj ⟨xs, hx, hxn, hxc, D7, b7, hw7⟩
                    refine ⟨rfl, _, rfl, _, rfl, _, rfl, d, a, ns, b, rfl, D7, by omega, by omega, fun v H8 v0 v1 D8 b8 e8 => ?_⟩
                    obtain ⟨cc, hcm, hcx⟩ := pick v v0 v1
                    refine ⟨l, _, v, _, rfl, rfl, SqL.of ((b7.trans b8) l _ hld hl), hcx, xs.map sg, (e8 D' hDd).trans hx, by rw [List.length_map]; exact line_lt (by omega), xs ++ [cc], ?_, ?_, ?_, D.mut (b7.trans b8) D8 hD0, (b7.trans b8).mut hD0, ?_⟩
                    · rw [upd_same, List.map_append] <;> rfl
                    · rw [List.length_append, hxn] <;> rfl
                    · intro y hy
                      rcases List.mem_append.mp hy with hy | hy
                      · exact hxc y hy
                      · have : y = cc := by simpa using hy
                        rw [this]; exact hcm
                    · rw [upd_ne hDw]; exact (e8 wl hwd).trans hw7
                  · rintro H7 ⟨xs, hx, hxn, hxc, D7, b7, hw7⟩
                    have hsum : ((xs.map fun c => (⟨#[c]⟩ : Str)).map (·.length)).sum = xs.length := by
                      rw [List.map_map]
                      clear hx hxn hxc
                      induction xs with
                      | nil => rfl
                      | cons c r ih =>
                        rw [List.map_cons, List.sum_cons, ih, List.length_cons, Nat.add_comm] <;> rfl
                    refine ⟨_, D', xs.map fun c => (⟨#[c]⟩ : Str), rfl, rfl, .inl (SqL.of (by rw [← sg_strs]; exact hx)), ?_, ?_⟩
                    · rw [hsum]
                      show xs.length + _ * 0 ≤ 16777216
                      omega
                    · refine ⟨wl, _, _, rfl, rfl, hw7, by rw [List.length_map]; exact line_lt (by omega), ?_⟩
                      have hok : WordOk cs 6 (Txt.join ("" : Str) (xs.map fun c => (⟨#[c]⟩ : Str))) := by
                        have e : Txt.join ("" : Str) (xs.map fun c => (⟨#[c]⟩ : Str)) = Str.join Str.empty (xs.map fun c => (⟨#[c]⟩ : Str)) := StrLaws.glued_eq_join _ _
                        rw [e]
                        exact word_join (fun e => by rw [e] at hxn; simp at hxn; omega) (by omega) hxc
                      refine ⟨ws ++ [Txt.join ("" : Str) (xs.map fun c => (⟨#[c]⟩ : Str))], _, _, rfl, D.mut b7 D7 hw0, b7.mut hw0, ?_, ?_, ?_⟩
                      · rw [upd_same, List.map_append] <;> rfl
                      · rw [List.length_append, hwn] <;> rfl
                      · intro y hy
                        rcases List.mem_append.mp hy with hy | hy
                        · exact hwo y hy
                        · have : y = _ := List.mem_singleton.mp hy
                          rw [this]; exact hok
              · rintro σ H4 ⟨ws, v6, v7, rfl, D4, b4, hws, hwn, hwo⟩
                obtain ⟨w0, wr, rfl⟩ : ∃ w0 wr, ws = w0 :: wr := by
                  rcases ws with _ | ⟨w0, wr⟩
                  · simp at hwn; omega
                  · exact ⟨w0, wr, rfl⟩
                refine ⟨_, rfl, _, rfl, wl, _, rfl, SqL.of hws, fun p hp => ?_⟩
                refine ⟨p, _, rfl, .inl ⟨SqL.of upd_same, fun u hu => ?_⟩⟩
                have hwp : wl ≠ p := ne_of_none hws hp
                have hpu : p ≠ u := fun e => by
                  rw [e, upd_same] at hu
                  cases hu
                have hu4 : H4 u = none := by
                  rw [upd_ne (Ne.symm hpu)] at hu
                  exact hu
                have hwu : wl ≠ u := ne_of_none hws hu4
                refine ⟨_, rfl, wl, (w0 :: wr).map V.str, 0, V.str w0, rfl, rfl, SqL.of ?_, at_of (j := 0) rfl rfl, by show 2 ≤ sizeLine; decide, fun t ht => ?_⟩
                · rw [upd_ne hwu, upd_ne hwp]; exact hws
                · have hut : u ≠ t := ne_of_none upd_same ht
                  have ht4 : H4 t = none := by
                    rw [upd_ne (Ne.symm hut)] at ht
                    by_cases e : t = p
                    · rw [e, upd_same] at ht; cases ht
                    · rw [upd_ne e] at ht; exact ht
                  have n3 : ∀ {o o' o'' : HO}, Same H4 (upd (upd (upd H4 p o) u o') t o'') := fun b' o h => by
                    rw [upd_ne (ne_of_none h ht4), upd_ne (ne_of_none h hu4), upd_ne (ne_of_none h hp)]; exact h
                  refine k t u _ wr w0 (b4.free D4.ne ht4) (b4.free D4.ne hu4) (D4.same n3) (b4.trans (But.of n3)) upd_same ?_ ?_
                  · rw [upd_ne hut, upd_same, cutV_1 _ (by rw [List.length_map, List.length_cons]; omega)]
                    rfl
                  · have hl' : wr.length + 1 = (m + 1).toNat := hwn
                    exact ⟨by omega, fun w hw => hwo w (List.mem_cons_of_mem _ hw), hwo w0 List.mem_cons_self, fun h => by omega⟩
            · exact ⟨rfl, D3, b1.trans b3⟩
          · exact ⟨rfl, D3, b1.trans b3⟩
        · rintro σ H3 ⟨rfl, D3, b3⟩
          -- the numbers' branch
          refine ⟨_, rfl, m, rfl, by omega, by omega, fun D' hD' => ?_⟩
          have hD0 : H D' = none := b3.free D3.ne hD'
          have hDd : D' ≠ d := D3.neOf hD'
          refine lc_range (lo := 0) (n := m.toNat) (fun j H7 => ∃ xs : List Int, H7 D' = some (.lst (xs.map V.int)) ∧ xs.length = j ∧ (∀ x ∈ xs, 0 ≤ x ∧ x < limOf b) ∧ Dice K H7 d a ns ∧ But d H H7)
            ⟨[], upd_same, rfl, (fun c hc => nomatch hc), D3.new hD', b3.trans (But.new hD')⟩ ?_ ?_
          · rintro j H7 hj ⟨xs, hx, hxn, hxc, D7, b7⟩
            refine ⟨rfl, _, rfl, _, rfl, d, a, ns, limOf b, rfl, D7, l0, l30, fun v H8 v0 v1 D8 b8 e8 => ?_⟩
            refine ⟨xs.map V.int, (e8 D' hDd).trans hx, by rw [List.length_map]; exact line_lt (by omega), xs ++ [v], ?_, ?_, ?_, D.mut (b7.trans b8) D8 hD0, (b7.trans b8).mut hD0⟩
            · rw [upd_same, List.map_append] <;> rfl
            · rw [List.length_append, hxn] <;> rfl
            · intro y hy
              rcases List.mem_append.mp hy with hy | hy
              · exact hxc y hy
              · have : y = v := by simpa using hy
                rw [this]; exact ⟨v0, v1⟩
          · rintro H7 ⟨xs, hx, hxn, hxc, D7, b7⟩
            obtain ⟨s0, s6, s2⟩ := sum_lim b2 b12 hxc (by omega)
            have hl7 : H7 l = some (.lst (cs.map sg)) := b7 l _ hld hl
            refine ⟨_, rfl, D', rfl, ⟨_, SqL.of hx⟩, fun D2 hD2 => ?_⟩
            have hD2x : D' ≠ D2 := ne_of_none hx hD2
            have hD2l : l ≠ D2 := ne_of_none hl7 hD2
            refine lc_list (K := K) (a := D') (xs := xs.map V.int) (fun j H8 => ∃ ws : List Str, H8 = upd H7 D2 (.lst (ws.map V.str)) ∧ ws.length = j ∧ ∀ w ∈ ws, WordOk cs (lengthOf b) w)
              ⟨[], rfl, rfl, fun w hw => nomatch hw⟩ (fun j H8 _ ⟨ws, e, _⟩ => by rw [e]; exact SqL.of ((upd_ne hD2x).trans hx)) ?_ ?_
            · rintro j y H8 hj ⟨ws, rfl, hwn, hwo⟩
              obtain ⟨z, hz, rfl⟩ := ints_at hj
              obtain ⟨z0, z1⟩ := hxc z (List.mem_of_getElem? hz)
              have hjl : j < xs.length := (List.getElem?_eq_some_iff.mp hz).1
              have hL : 1 ≤ lengthOf b ∧ lengthOf b ≤ 4 := by unfold lengthOf; split <;> omega
              refine ⟨rfl, _, rfl, _, rfl, _, rfl, z, b, l, cs, lengthOf b, rfl, SqL.of ((upd_ne hD2l).trans hl7), hcs, b2, by omega, z0, by omega, hL.1, by omega, fun zz hzz => ?_⟩
              refine ⟨ws.map V.str, upd_same, by rw [List.length_map]; exact line_lt (by omega), ws ++ [zz], ?_, ?_, ?_⟩
              · rw [upd_upd, List.map_append] <;> rfl
              · rw [List.length_append, hwn] <;> rfl
              · intro y hy
                rcases List.mem_append.mp hy with hy | hy
                · exact hwo y hy
                · have : y = zz := by simpa using hy
                  rw [this]; exact hzz
            · rintro H8 ⟨ws, rfl, hwn, hwo⟩
              rw [List.length_map] at hwn
              refine ⟨D2, _, rfl, .inl ⟨SqL.of upd_same, fun u hu => ?_⟩⟩
              have hu2 : u ≠ D2 := fun e => by
                rw [e, upd_same] at hu
                cases hu
              have hu7 : H7 u = none := by
                rw [upd_ne hu2] at hu
                exact hu
              have sm : ∀ {o o' : HO}, Same H7 (upd (upd H7 D2 o) u o') := fun b' o h => by
                rw [upd_ne (ne_of_none h hu7), upd_ne (ne_of_none h hD2)]; exact h
              refine ⟨_, rfl, D', xs, rfl, SqL.of (sm _ _ hx), _, rfl, _, rfl, xs.sum, b, l, cs, if 6 < b then 2 else 6, rfl, SqL.of (sm _ _ hl7), hcs, b2, by omega, s0, ?_, by split <;> omega, by split <;> omega, fun tot htot => ?_⟩
              · split
                · rename_i h
                  exact s2 h (by have := mb h; omega)
                · exact s6
              · refine ⟨by show 2 ≤ sizeLine; decide, fun t ht => ?_⟩
                have hut : u ≠ t := ne_of_none upd_same ht
                have ht7 : H7 t = none := by
                  rw [upd_ne (Ne.symm hut)] at ht
                  by_cases e : t = D2
                  · rw [e, upd_same] at ht; cases ht
                  · rw [upd_ne e] at ht; exact ht
                have n3 : ∀ {o o' o'' : HO}, Same H7 (upd (upd (upd H7 D2 o) u o') t o'') := fun b' o h => by
                  rw [upd_ne (ne_of_none h ht7), upd_ne (ne_of_none h hu7), upd_ne (ne_of_none h hD2)]; exact h
                refine k t u _ ws tot (b7.free D7.ne ht7) (b7.free D7.ne hu7) (D7.same n3) (b7.trans (But.of n3)) upd_same ((upd_ne hut).trans upd_same) ?_
                have hL : lengthOf b ≤ 6 := by unfold lengthOf; split <;> omega
                refine ⟨by omega, fun w hw => (hwo w hw).mono hL, htot.mono (by split <;> omega), fun h => ?_⟩
                have e1 : lengthOf b = 1 := by unfold lengthOf; rw [if_pos h]
                rw [if_pos h] at htot
                have := mb h
                exact ⟨by omega, fun w hw => e1 ▸ hwo w hw, htot⟩
end
end WS
set_option maxRecDepth 100000
set_option maxHeartbeats 8000000
namespace WS
open PySem L2
abbrev WSum := List Str × Str
/-- a sum at t: a tuple of its addends' tuple and its total -/
def SumAt (H : Hp) (t : Addr) (s : WSum) : Prop := ∃ u, H t = some (.tup [.ref u, .str s.2]) ∧ H u = some (.tup (s.1.map V.str))
structure SumsAt (H : Hp) (ts : List Addr) (ss : List WSum) : Prop where
  len : ts.length = ss.length
  get : ∀ (i : Nat) (t : Addr) (s : WSum), ts[i]? = some t → ss[i]? = some s → SumAt H t s
theorem SumAt.same {H H' : Hp} {t : Addr} {s : WSum} (e : Same H H') (h : SumAt H t s) : SumAt H' t s := by
  obtain ⟨u, h1, h2⟩ := h
  exact ⟨u, e _ _ h1, e _ _ h2⟩
theorem SumsAt.same {H H' : Hp} {ts : List Addr} {ss : List WSum} (e : Same H H') (h : SumsAt H ts ss) : SumsAt H' ts ss := ⟨h.len, fun i t s a b => (h.get i t s a b).same e⟩
theorem tup_ne {K : PySem.W.Frag} {H : Hp} {d a u : Addr} {ns : List Int} {xs : List V} (D : Dice K H d a ns) (h : H u = some (.tup xs)) : u ≠ d := by
  obtain ⟨i, m, c, hd, _⟩ := D.ex
  exact ne_of h hd (fun z => by cases z)
theorem SumAt.but {K : PySem.W.Frag} {H H' : Hp} {d a t : Addr} {ns : List Int} {s : WSum} (D : Dice K H d a ns) (e : But d H H') (h : SumAt H t s) : SumAt H' t s := by
  obtain ⟨u, h1, h2⟩ := h
  exact ⟨u, e _ _ (tup_ne D h1) h1, e _ _ (tup_ne D h2) h2⟩
theorem SumsAt.but {K : PySem.W.Frag} {H H' : Hp} {d a : Addr} {ns : List Int} {ts : List Addr} {ss : List WSum} (D : Dice K H d a ns) (e : But d H H') (h : SumsAt H ts ss) : SumsAt H' ts ss := ⟨h.len, fun i t s a b => (h.get i t s a b).but D e⟩
theorem SumAt.mut {H H' : Hp} {t p : Addr} {s : WSum} {o : HO} (h : SumAt H t s) (hp : ∃ xs, H p = some (.lst xs)) : SumAt (upd H p o) t s := by
  obtain ⟨u, h1, h2⟩ := h
  obtain ⟨xs, hp⟩ := hp
  exact ⟨u, (upd_ne (ne_of h1 hp (fun z => by cases z))).trans h1, (upd_ne (ne_of h2 hp (fun z => by cases z))).trans h2⟩
theorem SumsAt.mut {H : Hp} {p : Addr} {ts : List Addr} {ss : List WSum} {o : HO} (h : SumsAt H ts ss) (hp : ∃ xs, H p = some (.lst xs)) : SumsAt (upd H p o) ts ss := ⟨h.len, fun i t s a b => (h.get i t s a b).mut (H' := H) hp⟩
theorem SumsAt.snoc {H : Hp} {ts : List Addr} {ss : List WSum} {t : Addr} {s : WSum} (h : SumsAt H ts ss) (ht : SumAt H t s) : SumsAt H (ts ++ [t]) (ss ++ [s]) := by
  refine ⟨by rw [List.length_append, List.length_append, h.len] <;> rfl, fun i t' s' a b => ?_⟩
  by_cases hi : i < ts.length
  · rw [List.getElem?_append_left hi] at a
    rw [List.getElem?_append_left (h.len ▸ hi)] at b
    exact h.get i t' s' a b
  · rw [List.getElem?_append_right (by omega)] at a
    rw [List.getElem?_append_right (by have := h.len; omega)] at b
    rw [← h.len] at b
    rcases hj : i - ts.length with _ | j
    · rw [hj] at a b
      have e1 : t = t' := Option.some.inj a
      have e2 : s = s' := Option.some.inj b
      rw [← e1, ← e2]; exact ht
    · rw [hj] at a; simp at a
theorem SumsAt.append {H : Hp} {ts ts' : List Addr} {ss ss' : List WSum} (h : SumsAt H ts ss) (h' : SumsAt H ts' ss') : SumsAt H (ts ++ ts') (ss ++ ss') := by
  refine ⟨by rw [List.length_append, List.length_append, h.len, h'.len], fun i t s a b => ?_⟩
  by_cases hi : i < ts.length
  · rw [List.getElem?_append_left hi] at a
    rw [List.getElem?_append_left (h.len ▸ hi)] at b
    exact h.get i t s a b
  · rw [List.getElem?_append_right (by omega)] at a
    rw [List.getElem?_append_right (by have := h.len; omega)] at b
    rw [← h.len] at b
    exact h'.get _ t s a b
/-- a sheet that is drawn -/
structure SheetOk (b : Int) (ss : List WSum) : Prop where
  b2 : 2 ≤ b
  b12 : b ≤ 12
  few : 1 ≤ ss.length ∧ ss.length ≤ 3
  cs : ∃ cs, NamesOk cs b ∧ ∀ s ∈ ss, SumOk cs b s.1 s.2
  big : 6 < b → ss.length = 1
theorem two_at {x y : V} (c : Bool) : atI [x, y] (if c = true then 1 else 0) = some (if c = true then y else x) := by
  cases c <;> rfl
theorem four_at {j : Nat} (h : j < 4) : ∃ s : Int, ([V.int 0, .int 0, .int 1, .int 2])[j]? = some (.int s) ∧ 0 ≤ s ∧ s ≤ 2 := by
  rcases j with _ | _ | _ | _ | j
  · exact ⟨0, rfl, by decide⟩
  · exact ⟨0, rfl, by decide⟩
  · exact ⟨1, rfl, by decide⟩
  · exact ⟨2, rfl, by decide⟩
  · omega
/-- _law_sheet(d) -/
def spSheet (K : PySem.W.Frag) : Sp := fun vs H Q _ => ∃ (d a : Addr) (ns : List Int), vs = [.ref d] ∧ Dice K H d a ns ∧
  ∀ (t sl : Addr) (ts : List Addr) (H' : Hp) (b : Int) (ss : List WSum), H t = none → H sl = none → Dice K H' d a ns → But d H H' → H' t = some (.tup [.int b, .ref sl]) → H' sl = some (.lst (ts.map V.ref)) → SumsAt H' ts ss → SheetOk b ss → Q (.ref t) H'
section
variable {P : Program} {w : World} {K : PySem.W.Frag} {mg : Str → Option Value} {base : Heap}
theorem scSheet : FnScope ["_law_d", "_law_base", "_law_names_here", "_law_sums", "_law_k"] ["_law_d"] (defScope sSheet) := ⟨rfl, rfl, rfl, by decide +kernel, rfl, by decide +kernel, by decide +kernel⟩
theorem ok_sheet {f fN fM fS : Addr} {fd fdN fdM fdS : FuncData} (F : Fun K "_law_sheet" "_law_sheet" sSheet f fd) (z_range : mg "range" = none) (z_int : mg "int" = none)
    (S__law_next : Site K mg "_law_next" fN fdN ["_law_dice_here", "_law_many"]) (G__law_next : FnOk P w K mg base CX0 1 fN fdN ["_law_dice_here", "_law_many"] (spNext K))
    (S__law_names : Site K mg "_law_names" fM fdM ["_law_d", "_law_base"]) (G__law_names : FnOk P w K mg base CX0 2 fM fdM ["_law_d", "_law_base"] (spNames K))
    (S__law_sum : Site K mg "_law_sum" fS fdS ["_law_d", "_law_base", "_law_names_here"]) (G__law_sum : FnOk P w K mg base CX0 2 fS fdS ["_law_d", "_law_base", "_law_names_here"] (spSum K)) :
    FnOk P w K mg base CX0 3 f fd ["_law_d"] (spSheet K) := by
  refine F.ok scSheet (fun vs H Q E h => ?_) (fun cdv A outer s H vs Q E hr h => ?_)
  · obtain ⟨d, a, ns, rfl, _⟩ := h
    rfl
  · obtain ⟨d, a, ns, rfl, D, k⟩ := h
    have nd := scSheet.nd
    have hr__law_next : Room 1 _ := hr.mono (by decide)
    have hr__law_names := hr
    have hr__law_sum := hr
    refine ⟨_, (pss_cons (ps_set (i := 1) nd rfl (.inr rfl) (pe_ix (r := rIxL K) ix_list (pe_lst (pa_cons (pe_op op_add pe_int (pe_call G__law_next hr__law_next (by rfl) S__law_next.g S__law_next.k S__law_next.b .nil pass0 (pa_cons (pv 0) (pa_cons pe_int pa_nil)))) (pa_cons (pe_op op_add pe_int (pe_call G__law_next hr__law_next (by rfl) S__law_next.g S__law_next.k S__law_next.b .nil pass0 (pa_cons (pv 0) (pa_cons pe_int pa_nil)))) pa_nil))) (pe_callTy call_int1 (by rfl) z_int (by decide +kernel) (pa_cons (pe_cmpR op_eq (pe_call G__law_next hr__law_next (by rfl) S__law_next.g S__law_next.k S__law_next.b .nil pass0 (pa_cons (pv 0) (pa_cons pe_int pa_nil))) pe_int (nomark _)) pa_nil)) (fun _ _ => rfl)))
      (pss_cons (ps_set (i := 2) nd rfl (.inr rfl) (pe_call G__law_names hr__law_names (by rfl) S__law_names.g S__law_names.k S__law_names.b .nil pass0 (pa_cons (pv 0) (pa_cons (pv 1) pa_nil))))
      (pss_cons (ps_set (i := 3) nd rfl (.inl rfl) (pe_lst (pa_cons (pe_call G__law_sum hr__law_sum (by rfl) S__law_sum.g S__law_sum.k S__law_sum.b .nil pass0 (pa_cons (pv 0) (pa_cons (pv 1) (pa_cons (pv 2) pa_nil)))) pa_nil)))
      (Evl.pss_cut (ps_if (pt_cmpR op_lt (pv 1) pe_int (nomark _)) (pss_one (ps_set (i := 3) nd rfl (.inl rfl) (pe_op op_cat (pv 3) (pe_lc (own := [("_law_k", 4)]) (g := (gName 4)) (tt := tYes) rfl nd (pi_range1 (by rfl) z_range (pa_cons (pe_ix (r := rIxL K) ix_list (pe_lst (pa_cons pe_int (pa_cons pe_int (pa_cons pe_int (pa_cons pe_int pa_nil))))) (pe_call G__law_next hr__law_next (by rfl) S__law_next.g S__law_next.k S__law_next.b .nil pass0 (pa_cons (pv 0) (pa_cons pe_int pa_nil))) (fun _ _ => rfl)) pa_nil)) (blkOk_by (own := [("_law_k", 4)]) (N := ["_law_d", "_law_base", "_law_names_here", "_law_sums", "_law_k"]) (sc := defScope sSheet) (by decide +kernel)) (fun _ _ _ _ _ => (pg_name (i := 4) nd rfl (.inl rfl))) (fun _ _ _ _ _ => pts_nil) (fun _ _ _ _ _ => (pe_call G__law_sum hr__law_sum (by rfl) S__law_sum.g S__law_sum.k S__law_sum.b .nil pass0 (pa_cons (pv 0) (pa_cons (pv 1) (pa_cons (pv 2) pa_nil))))))))) pss_nil)
      (pss_one (ps_ret (pe_tup (pa_cons (pv 1) (pa_cons (pv 3) pa_nil))))))))), ?_⟩
    refine ⟨_, rfl, d, a, ns, 5, rfl, D, by decide, by decide, fun v1 H1 v10 v11 D1 b1 _ => ?_⟩
    refine ⟨_, _, rfl, rfl, _, rfl, d, a, ns, 6, rfl, D1, by decide, by decide, fun v2 H2 v20 v21 D2 b2 _ => ?_⟩
    refine ⟨_, _, rfl, rfl, by show 2 ≤ sizeLine; decide, fun q hq => ?_⟩
    refine ⟨_, rfl, d, a, ns, 6, rfl, D2.new hq, by decide, by decide, fun v3 H3 v30 v31 D3 b3 e3 => ?_⟩
    refine ⟨rfl, .inr ⟨_, rfl, q, _, _, _, rfl, rfl, SqL.of ((e3 q (D2.neOf hq)).trans upd_same), two_at _, ?_⟩⟩
    obtain ⟨b, hb, b2', b12⟩ : ∃ b : Int, (if decide (V.int v3 = V.int 5) = true then V.int (7 + v2) else V.int (2 + v1)) = V.int b ∧ 2 ≤ b ∧ b ≤ 12 := by
      split
      · exact ⟨_, rfl, by omega, by omega⟩
      · exact ⟨_, rfl, by omega, by omega⟩
    rw [hb]
    have b4 : But d H H3 := ((b1.trans b2).trans (But.new hq)).trans b3
    refine ⟨_, rfl, _, rfl, d, a, ns, b, rfl, D3, b2', b12, fun l H4 cs hl0 D4 b5 hl N => ?_⟩
    refine ⟨_, rfl, _, rfl, _, rfl, d, a, ns, b, l, cs, rfl, D4, b2', b12, hl, N.len, fun t1 u1 H5 ws1 tot1 ht1 hu1 D5 b6 h51 h52 ok1 => ?_⟩
    have b7 : But d H H5 := (b4.trans b5).trans b6
    have hld := names_off D4 hl
    refine ⟨by show 1 ≤ sizeLine; decide, fun sl hsl => ?_⟩
    have hsl0 : H sl = none := b7.free D5.ne hsl
    have hsld : sl ≠ d := D5.neOf hsl
    refine ⟨fun σ H6 => ∃ (sl' : Addr) (ts : List Addr) (ss : List WSum), σ = [some (.ref d), some (.int b), some (.ref l), some (.ref sl'), none] ∧ H sl' = none ∧ Dice K H6 d a ns ∧ But d H H6 ∧ H6 sl' = some (.lst (ts.map V.ref)) ∧ SumsAt H6 ts ss ∧ SheetOk b ss, ?_, ?_⟩
    · have sat1 : SumsAt (upd H5 sl (.lst [.ref t1])) [t1] [(ws1, tot1)] := ⟨rfl, fun i t s h1 h2 => by
        rcases i with _ | i
        · have e1 : t1 = t := Option.some.inj h1
          have e2 : (ws1, tot1) = s := Option.some.inj h2
          rw [← e1, ← e2]
          exact SumAt.same (Same.new hsl) ⟨u1, h51, h52⟩
        · simp at h1⟩
      refine ⟨_, rfl, _, _, rfl, rfl, _, rfl, ite2 (fun hb7 => ?_) (fun hb7 => ?_)⟩
      · have hb7' : b < 7 := of_decide_eq_true hb7
        refine ⟨_, rfl, by show 4 ≤ sizeLine; decide, fun q2 hq2 => ?_⟩
        have D6 : Dice K (upd H5 sl (.lst [.ref t1])) d a ns := D5.new hsl
        refine ⟨_, rfl, d, a, ns, 4, rfl, D6.new hq2, by decide, by decide, fun v4 H7 v40 v41 D7 b8 e8 => ?_⟩
        obtain ⟨mm, hmm, m0, m2⟩ := four_at (j := v4.toNat) (by omega)
        refine ⟨q2, _, v4, _, rfl, rfl, SqL.of ((e8 q2 (D6.neOf hq2)).trans upd_same), at_of (j := v4.toNat) (by omega) hmm, mm, rfl, by omega, by omega, fun D' hD' => ?_⟩
        have b9 : But d (upd H5 sl (.lst [.ref t1])) H7 := (But.new hq2).trans b8
        have b9' : But d H H7 := (b7.trans (But.new hsl)).trans b9
        have hD0 : H D' = none := b9'.free D7.ne hD'
        have hsl7 : H7 sl = some (.lst [.ref t1]) := b9 sl _ hsld upd_same
        have hslD : sl ≠ D' := ne_of_none hsl7 hD'
        refine lc_range (lo := 0) (n := mm.toNat) (fun j H8 => ∃ (ts : List Addr) (ss : List WSum), H8 D' = some (.lst (ts.map V.ref)) ∧ SumsAt H8 ts ss ∧ ss.length = j ∧ (∀ s ∈ ss, SumOk cs b s.1 s.2) ∧ Dice K H8 d a ns ∧ But d H H8 ∧ But d H7 H8)
          ⟨[], [], upd_same, ⟨rfl, fun i t s h => by simp at h⟩, rfl, (fun s hs => nomatch hs), D7.new hD', b9'.trans (But.new hD'), But.new hD'⟩ ?_ ?_
        · rintro j H8 hj ⟨ts, ss, hx, hsa, hsn, hso, D8, b10, b10'⟩
          have hl8 : H8 l = some (.lst (cs.map sg)) := b10' l _ hld (b9 l _ hld (by
            have : l ≠ sl := ne_of_none (b6 l _ hld hl) hsl
            rw [upd_ne this]; exact b6 l _ hld hl))
          refine ⟨rfl, _, rfl, _, rfl, _, rfl, d, a, ns, b, l, cs, rfl, D8, b2', b12, hl8, N.len, fun t2 u2 H9 ws2 tot2 ht2 hu2 D9 b11 h91 h92 ok2 => ?_⟩
          have hDd : D' ≠ d := D7.neOf hD'
          refine ⟨ts.map V.ref, b11 D' _ hDd hx, by rw [List.length_map, hsa.len]; exact line_lt (by omega), ts ++ [t2], ss ++ [(ws2, tot2)], ?_, ?_, ?_, ?_, D.mut (b10.trans b11) D9 hD0, (b10.trans b11).mut hD0, (b10'.trans b11).mut hD'⟩
          · rw [upd_same, List.map_append] <;> rfl
          · exact ((hsa.but D8 b11).snoc ⟨u2, h91, h92⟩).mut ⟨_, b11 D' _ hDd hx⟩
          · rw [List.length_append, hsn] <;> rfl
          · intro s hs
            rcases List.mem_append.mp hs with hs | hs
            · exact hso s hs
            · have : s = (ws2, tot2) := by simpa using hs
              rw [this]; exact ok2
        · rintro H8 ⟨ts, ss, hx, hsa, hsn, hso, D8, b10, b10'⟩
          have hsl8 : H8 sl = some (.lst [.ref t1]) := b10' sl _ hsld hsl7
          refine ⟨_, _, _, _, rfl, rfl, hsl8, hx, ?_, fun p hp => ?_⟩
          · have := hsa.len
            rw [List.length_map]
            exact line_of (by show 1 + ts.length ≤ 1000000; omega)
          · refine ⟨p, t1 :: ts, (ws1, tot1) :: ss, rfl, b10.free D8.ne hp, D8.new hp, b10.trans (But.new hp), upd_same, ?_, ?_⟩
            · have z : SumsAt H8 [t1] [(ws1, tot1)] := (sat1.but D6 (b9)).but D7 b10'
              exact SumsAt.same (Same.new hp) (SumsAt.append z hsa)
            · exact ⟨b2', b12, by rw [List.length_cons]; omega, ⟨cs, N, fun s hs => by
                rcases List.mem_cons.mp hs with rfl | hs
                · exact ok1
                · exact hso s hs⟩, fun h => by omega⟩
      · exact ⟨sl, [t1], [(ws1, tot1)], rfl, hsl0, D5.new hsl, b7.trans (But.new hsl), upd_same, sat1, ⟨b2', b12, ⟨Nat.le_refl _, by show 1 ≤ 3; omega⟩, ⟨cs, N, fun s hs => by
          have : s = (ws1, tot1) := by simpa using hs
          rw [this]; exact ok1⟩, fun _ => rfl⟩⟩
    · rintro σ H6 ⟨sl', ts, ss, rfl, hsl', D6, b6, hs6, hsa, ok⟩
      refine ⟨_, rfl, _, rfl, by show 2 ≤ sizeLine; decide, fun t ht => ?_⟩
      exact k t sl' ts _ b ss (b6.free D6.ne ht) hsl' (D6.new ht) (b6.trans (But.new ht)) upd_same ((upd_ne (ne_of_none hs6 ht)).trans hs6) (hsa.same (Same.new ht)) ok
end
end WS
set_option maxRecDepth 100000
set_option maxHeartbeats 8000000
namespace SetT
open PySem PySem.Spec PyProof.Rows
/-- the signs of a text that are met first, in their order -/
def addS (xs : List Str) (x : Str) : List Str := if xs.any (· == x) = true then xs else xs ++ [x]
def sign (c : Nat) : Str := ⟨#[c]⟩
def metS (cs : List Nat) : List Str := cs.foldl (fun a c => addS a (sign c)) []
theorem metS_snoc (cs : List Nat) (c : Nat) : metS (cs ++ [c]) = addS (metS cs) (sign c) := by
  unfold metS; rw [List.foldl_append] <;> rfl
theorem addS_le (xs : List Str) (x : Str) : (addS xs x).length ≤ xs.length + 1 := by
  unfold addS; split
  · omega
  · rw [List.length_append] <;> exact Nat.le_refl _
theorem metS_le (cs : List Nat) : (metS cs).length ≤ cs.length := by
  have : ∀ (r : List Nat) (a : List Str), (r.foldl (fun a c => addS a (sign c)) a).length ≤ a.length + r.length := by
    intro r
    induction r with
    | nil => intro a; exact Nat.le_refl _
    | cons c r ih =>
      intro a
      have h1 := ih (addS a (sign c))
      have h2 := addS_le a (sign c)
      rw [List.foldl_cons, List.length_cons]
      omega
  have h := this cs []
  simpa [metS] using h
theorem addS_any (xs : List Str) (v k : Str) : (addS xs v).any (· == k) = (xs.any (· == k) || decide (k = v)) := by
  unfold addS
  by_cases h : xs.any (· == v) = true
  · rw [if_pos h]
    by_cases e : k = v
    · subst e; rw [h]; simp
    · simp [e]
  · rw [if_neg h, List.any_append]
    by_cases e : k = v
    · subst e; simp
    · have hb : (v == k) = false := by simpa [beq_iff_eq] using (fun h' : v = k => e h'.symm)
      simp [hb, e]
theorem addS_len (xs : List Str) (v : Str) : (addS xs v).length = if xs.any (· == v) then xs.length else xs.length + 1 := by
  unfold addS; split <;> simp
section
variable {prog : Program} {w : World} {A : Around} {R : Result → Shared → Prop} {I : Addr} {fp wr : List Addr} {G : Array GenState → Array GenState → Prop} {n : Nat} {St : Nat → Shared → Prop}
theorem loopT {x : Str} (W : WalksS prog w A.in1 I fp wr G n (SignAt x) St) (S : Addr) (hSf : S ∉ fp) (hn : x.cps.size = n) (hb : n + 1 < scanBound) :
    ∀ (k i : Nat) (s : Shared), n - i = k → i ≤ n → St i s →
      s.heap.SetOf (PySem.strKind prog w) S (fun k' => (metS (x.cps.toList.take i)).any (· == k')) (metS (x.cps.toList.take i)).length →
      (∀ s', Moved (S :: wr) G s s' → s'.heap.SetOf (PySem.strKind prog w) S (fun k' => (metS x.cps.toList).any (· == k')) (metS x.cps.toList).length → R (.ok (.ret .none)) s') →
      codeAny (model prog w) A (.builtin "set.update.loop" ⟨[.ref S, .ref I], []⟩) R s := by
  have hSw : S ∉ wr := fun h => hSf (W.sub _ h)
  have hsub : ∀ b ∈ wr, b ∈ S :: wr := fun b hb => List.mem_cons_of_mem _ hb
  intro k
  induction k with
  | zero =>
    intro i s hk hi hst hS hR
    have hin : i = n := by omega
    subst hin
    refine codeAny_builtin PyProof.Rows.F.entry_set_update_loop ?_
    rw [Around.under_plainId PyProof.Rows.F.plain_set_update_loop _]
    show wpAny _ A.in1 (pyNext (.ref I) >>= _) _ _ s
    refine wpAny_bind (W.done s _ _ hst fun s' hm => ?_)
    show wpAny _ A.in1 (ret Value.none) _ _ s'
    have e : x.cps.toList.take i = x.cps.toList := List.take_of_length_le (by rw [Array.length_toList, hn] <;> exact Nat.le_refl _)
    rw [e] at hS
    exact wpAny_pure (hR s' (hm.mono hsub) (by
      obtain ⟨o, es, ep, t, ho, rest⟩ := hS
      exact ⟨o, es, ep, t, hm.heap S _ hSw ho, rest⟩))
  | succ k ih =>
    intro i s hk hi hst hS hR
    have hlt : i < n := by omega
    refine codeAny_builtin PyProof.Rows.F.entry_set_update_loop ?_
    rw [Around.under_plainId PyProof.Rows.F.plain_set_update_loop _]
    show wpAny _ A.in1 (pyNext (.ref I) >>= _) _ _ s
    refine wpAny_bind (W.item i s _ _ hlt hst fun v s' hP hst' hm => ?_)
    obtain ⟨c, t, hc, rfl⟩ := hP
    have hcl : x.cps.toList.take (i + 1) = x.cps.toList.take i ++ [c] := by
      rw [List.take_add_one, Array.getElem?_toList, hc] <;> rfl
    have hS' : s'.heap.SetOf (PySem.strKind prog w) S (fun k' => (metS (x.cps.toList.take i)).any (· == k')) (metS (x.cps.toList.take i)).length := by
      obtain ⟨o, es, ep, tb, ho, rest⟩ := hS
      exact ⟨o, es, ep, tb, hm.heap S _ hSw ho, rest⟩
    show wpAny _ A.in1 (holding [Value.str (sign c) t] (setAdd S (.str (sign c) t)) >>= _) _ _ s'
    refine wpAny_bind (wpAny_holding ?_)
    unfold setAdd
    refine wpAny_holding ?_
    refine wpAny_bind ((PySem.strKind prog w).pyHash (k := sign c) (strKind_is _ _ _ _) ?_)
    have hroom : (metS (x.cps.toList.take i)).length + 1 < scanBound := by
      have h1 := metS_le (x.cps.toList.take i)
      rw [List.length_take] at h1
      omega
    refine wpAny_setAddHashed_of (knd := PySem.strKind prog w) (s := { s' with toks := s'.toks + 1 }) (strKind_is _ _ _ _) rfl hS' hroom fun h' hsb hS2 => ?_
    have hSi : h'.SetOf (PySem.strKind prog w) S (fun k' => (metS (x.cps.toList.take (i + 1))).any (· == k')) (metS (x.cps.toList.take (i + 1))).length :=
      SetOf_congr hS2 (fun k' => by rw [hcl, metS_snoc, addS_any]) (by rw [hcl, metS_snoc, addS_len])
    refine wpAny_pure ⟨plainId_quiet PyProof.Rows.F.plain_set_update_loop _, ih (i + 1) _ (by omega) hlt (W.frame _ s' _ _ hst' (Nat.le_succ _) fun b hb o e => ?_) hSi fun s'' hm'' hS'' => ?_⟩
    · rw [hsb.2 b (fun h : b = S => hSf (by rw [← h]; exact hb))]; exact e
    · refine hR s'' (Moved.trans W.gtrans ((hm.mono hsub).then_heap (Nat.le_succ _) fun b o hb e => ?_) hm'') hS''
      rw [hsb.2 b (fun h : b = S => hb (by rw [h]; exact List.mem_cons_self))]; exact e
end
section
variable {prog : Program} {w : World} {A : Around} {E : Value → Shared → Prop} {s : Shared}
theorem call_set_text {x : Str} {tx : Tok} {Q : Value → Shared → Prop} (hh : A.handled = none) (hb : x.cps.size + 1 < scanBound)
    (h : ∀ (h' : Heap) (tk : Nat), h'.SetOf (PySem.strKind prog w) s.heap.objs.size (fun k' => (metS x.cps.toList).any (· == k')) (metS x.cps.toList).length →
      (∀ b o, b < s.heap.objs.size → s.heap.get? b = some o → h'.get? b = some o) → Q (.ref s.heap.objs.size) { s with heap := h', toks := tk }) :
    wpAny (model prog w) A (call (.type "set") [.str x tx]) Q E s := by
  obtain ⟨c, tl, hmro⟩ := PySem.F.called_set.mro
  have hmade := PySem.F.called_set.made
  have hsub := PySem.F.called_set.sub
  refine wpAny_call (codeAny_of_tree ?_)
  show wpAny _ _ (callAny (.type "set") _) _ _ _
  refine wpAny_pure ⟨Code.quiet_builtin _ (by decide +kernel), codeAny_builtin PySem.F.entry_type_call ?_⟩
  rw [Around.under_plain (weight_type_call_type "set" [.str x tx] []) rfl]
  have h1 := PySem.F.called_set.notType
  have h2 := PySem.F.called_set.canCreate
  have hct := PySem.F.typeCall_set_1 (.str x tx)
  repeat (any_goals (first | assumption | wp_step))
  refine codeAny_mono (code_set_new_1 (.str x tx) (E := E) (Q₁ := fun obj s₁ => ∃ led : Bool, obj = .ref s.heap.objs.size ∧ s₁ = { s with heap := s.heap.push { cls := .type "set", dict := none, data := .set #[] 0 (.fresh 0 0 led) } }) fun led => ⟨led, rfl, rfl⟩) fun r s₁ hr => ?_
  cases r with
  | error e => exact hr
  | ok fl =>
    cases fl with
    | ret obj =>
      obtain ⟨led, rfl, rfl⟩ := hr
      have hS : (s.heap.push { cls := .type "set", dict := none, data := .set #[] 0 (.fresh 0 0 led) }).get? s.heap.objs.size = some { cls := .type "set", dict := none, data := .set #[] 0 (.fresh 0 0 led) } := Heap.get?_push_size _ rfl
      have hT : Shared.TypeIs { s with heap := s.heap.push { cls := .type "set", dict := none, data := .set #[] 0 (.fresh 0 0 led) } } (.ref s.heap.objs.size) "set" := ⟨_, hS, rfl⟩
      have hli := PySem.F.called_set.init.lookup
      have hbi := PySem.F.called_set.init.bind (.ref s.heap.objs.size)
      repeat (any_goals (first | assumption | wp_step))
      refine codeAny_mono (codeAny_call_builtin (R := wants (fun r s₂ => r = .none ∧ ∃ h' tk, s₂ = { s with heap := h', toks := tk } ∧
          h'.SetOf (PySem.strKind prog w) s.heap.objs.size (fun k' => (metS x.cps.toList).any (· == k')) (metS x.cps.toList).length ∧
          (∀ b o, b < s.heap.objs.size → s.heap.get? b = some o → h'.get? b = some o)) E) PySem.F.called_set.init.plain PySem.F.entry_set_init (check_set_init_1 hT ?_)) fun r₂ s₂ hr₂ => ?_
      · have hsls := PySem.F.sub_str_set
        have hslf := PySem.F.sub_str_frozenset
        have hne : (Value.type "str" == Value.type "dict") = false := by decide
        unfold Builtin.«set.__init__» noKeywords Builtin.Frozenset.updateFrom
        generalize hPI : pyIter = PI
        wp_walk
        subst hPI
        refine wpAny_pyIter_str fun o St W hst => ?_
        refine wpAny_bind (wpAny_runValue ?_)
        have hh3 : A.in1.in1.in1.handled = none := by simp [hh]
        have hSf : s.heap.objs.size ∉ [(s.heap.push { cls := .type "set", dict := none, data := .set #[] 0 (.fresh 0 0 led) }).objs.size] := by
          rw [Heap.size_push]; simp only [List.mem_singleton]
          exact Nat.ne_of_lt (Nat.lt_succ_self _)
        refine loopT (W _ hh3).toS s.heap.objs.size
          hSf rfl hb (x.cps.size - 0) 0 _ (by omega) (Nat.zero_le _) hst ?hS0 ?hR
        case hS0 =>
          have hget : ((s.heap.push { cls := .type "set", dict := none, data := .set #[] 0 (.fresh 0 0 led) }).push o).get? s.heap.objs.size
              = some { cls := .type "set", dict := none, data := .set #[] 0 (.fresh 0 0 led) } := Heap.get?_push_of_some _ hS
          exact PyProof.Rows.SetOf_congr ((PyProof.Rows.setObjOf_fresh (knd := PySem.strKind prog w) led).setOf hget (by unfold scanBound; omega)) (fun _ => rfl) rfl
        case hR =>
          intro s' hm hS'
          obtain ⟨h', g', d', tk', os'⟩ := s'
          have eg : g' = s.gens := hm.gens
          have ed : d' = s.drawn := hm.drawn
          have eo : os' = s.os := hm.os
          subst eg; subst ed; subst eo
          show wpAny _ _ _ _ _ _
          refine wpAny_pure ?_
          show wpAny _ _ (ret Value.none) _ _ _
          refine wpAny_pure ⟨rfl, h', tk', rfl, hS', fun b o' hb e => ?_⟩
          have hb1 : b ≠ s.heap.objs.size := Nat.ne_of_lt hb
          have hb2 : b ≠ (s.heap.push { cls := .type "set", dict := none, data := .set #[] 0 (.fresh 0 0 led) }).objs.size := by
            rw [Heap.size_push]; exact Nat.ne_of_lt (Nat.lt_succ_of_lt hb)
          exact hm.heap b o' (by simp only [List.mem_cons, List.mem_singleton, List.not_mem_nil, or_false, not_or]; exact ⟨hb1, hb2⟩) (Heap.get?_push_of_some _ (Heap.get?_push_of_some _ e))
      · cases r₂ with
        | error e => exact hr₂
        | ok fl₂ =>
          cases fl₂ with
          | ret r =>
            obtain ⟨rfl, h', tk, rfl, hS', hk'⟩ := hr₂
            repeat (any_goals (first | assumption | wp_step))
            exact h _ _ hS' hk'
          | _ => exact hr₂.elim
    | _ => exact hr.elim
end
end SetT
set_option maxRecDepth 100000
set_option maxHeartbeats 4000000
namespace SetT
open PySem PySem.Spec PyProof.Rows L2
theorem nodup_le {α : Type} [DecidableEq α] : ∀ {l m : List α}, l.Nodup → (∀ x ∈ l, x ∈ m) → l.length ≤ m.length
  | [], _, _, _ => Nat.zero_le _
  | a :: r, m, hn, hs => by
    have ha : a ∈ m := hs a List.mem_cons_self
    have hr := nodup_le (l := r) (m := m.erase a) (List.nodup_cons.mp hn).2 fun x hx => by
      have hxa : x ≠ a := fun e => (List.nodup_cons.mp hn).1 (e ▸ hx)
      exact (List.mem_erase_of_ne hxa).mpr (hs x (List.mem_cons_of_mem _ hx))
    rw [List.length_erase_of_mem ha] at hr
    have := List.length_pos_of_mem ha
    rw [List.length_cons]
    omega
theorem any_mem {xs : List Str} {x : Str} : xs.any (· == x) = true ↔ x ∈ xs := by
  rw [List.any_eq_true]
  constructor
  · rintro ⟨y, hy, e⟩
    have : y = x := eq_of_beq e
    exact this ▸ hy
  · intro h
    exact ⟨x, h, beq_self_eq_true x⟩
theorem addS_nodup {xs : List Str} {x : Str} (h : xs.Nodup) : (addS xs x).Nodup := by
  unfold addS
  split
  · exact h
  · rename_i hx
    rw [List.nodup_append]
    refine ⟨h, by simp, fun a ha b hb e => hx (any_mem.mpr ?_)⟩
    have : b = x := by simpa using hb
    rw [← this, ← e]; exact ha
theorem addS_mem {xs : List Str} {x y : Str} (h : y ∈ addS xs x) : y ∈ xs ∨ y = x := by
  unfold addS at h
  split at h
  · exact .inl h
  · rcases List.mem_append.mp h with h | h
    · exact .inl h
    · exact .inr (by simpa using h)
theorem metS_ok : ∀ (cs : List Nat), (metS cs).Nodup ∧ ∀ y ∈ metS cs, ∃ c ∈ cs, y = sign c := by
  have : ∀ (r : List Nat) (a : List Str), a.Nodup → (r.foldl (fun a c => addS a (sign c)) a).Nodup ∧ ∀ y ∈ r.foldl (fun a c => addS a (sign c)) a, y ∈ a ∨ ∃ c ∈ r, y = sign c := by
    intro r
    induction r with
    | nil => intro a h; exact ⟨h, fun y hy => .inl hy⟩
    | cons c r ih =>
      intro a h
      obtain ⟨h1, h2⟩ := ih (addS a (sign c)) (addS_nodup h)
      refine ⟨h1, fun y hy => ?_⟩
      rcases h2 y hy with h3 | ⟨d, hd, e⟩
      · rcases addS_mem h3 with h4 | h4
        · exact .inl h4
        · exact .inr ⟨c, List.mem_cons_self, h4⟩
      · exact .inr ⟨d, List.mem_cons_of_mem _ hd, e⟩
  intro cs
  obtain ⟨h1, h2⟩ := this cs [] List.nodup_nil
  refine ⟨h1, fun y hy => ?_⟩
  rcases h2 y hy with h | h
  · cases h
  · exact h
/-- a text of letters of cs has at most as many unlike signs -/
theorem metS_few {xs cs : List Nat} (h : ∀ c ∈ xs, c ∈ cs) : (metS xs).length ≤ cs.length := by
  obtain ⟨h1, h2⟩ := metS_ok xs
  have := nodup_le (m := cs.map sign) h1 fun y hy => by
    obtain ⟨c, hc, e⟩ := h2 y hy
    exact List.mem_map.mpr ⟨c, h c hc, e.symm⟩
  rwa [List.length_map] at this
/-- len(set(e)), e a text -/
def tLenSetT (ta : TE) : TE := fun σ H Q => ta σ H fun x H1 => ∃ z : Str, x = .str z ∧ z.length ≤ 4000 ∧ Q (.int ((metS z.cps.toList).length : Nat)) H1
theorem pe_lenSetT {X : Cx} {a : Expr} {ta : TE} {p p2 q pos : Pos} (hg : Gl X "len") (hm : X.mg "len" = none) (hg2 : Gl X "set") (hm2 : X.mg "set" = none) (ha : PE X a ta) (hc : X.calm = true := by rfl)
    (na : starEach [a] X.env = (false, eval a X.env) :: starEach [] X.env := by rfl) : PE X (.Call (.Name "len" p) [.Call (.Name "set" p2) [a] [] q] [] pos) (tLenSetT ta) := by
  refine ⟨fun pins s σ H Q I h => ?_⟩
  refine Call_ (ld_blt I hg hm boot_len ?_)
  refine PyProof.Rows.callWith_builtin1 (PyProof.Rows.args_cons ?_ rfl) rfl rfl
  refine Call_ (ld_blt I hg2 hm2 boot_set ?_)
  refine PyProof.Rows.callWith_type1 (PyProof.Rows.args_cons (thn (ha.run pins s σ H _ I h) fun v s1 ⟨x, H1, I1, r1, q1⟩ => PyProof.Rows.args_nil ?_) na) na rfl
  obtain ⟨z, rfl, hl, q1⟩ := q1
  obtain ⟨t, rfl⟩ := r1
  have hz : z.cps.size ≤ 4000 := hl
  refine call_set_text (I1.ok.hd hc) (by unfold scanBound; omega) fun h' tk hS hk => ?_
  refine PyProof.Rows.args_nil ?_
  obtain ⟨o, es, ep, t, ho, hex, hd, _, _, _, hf, hn⟩ := hS
  have I2 : Inv X pins σ H1 { s1 with heap := h', toks := tk } := I1.kept fun b o e => hk b o (Heap.lt_size e) e
  have hle := metS_le z.cps.toList
  have hz2 : z.cps.toList.length = z.cps.size := Array.length_toList
  have hz3 : ((metS z.cps.toList).length : Int) < 2 ^ 63 := by omega
  exact call_len_set ho hex hd hf (by rw [hn]; exact hz3) ⟨.int (metS z.cps.toList).length, H1, I2.tok _, ⟨_, by rw [hn]⟩, q1⟩
end SetT
set_option maxRecDepth 100000
set_option maxHeartbeats 8000000
namespace WS
open PySem L2
/-- whether a text is a word of a sheet -/
def isWord (z : Str) : Bool := decide (1 ≤ z.length) && decide (z.length ≤ 6) && z.cps.toList.all fun c => decide (c ∈ abc.cps.toList)
theorem isWord_iff {z : Str} : isWord z = true ↔ (1 ≤ z.length ∧ z.length ≤ 6) ∧ ∀ c ∈ z.cps.toList, c ∈ abc.cps.toList := by
  unfold isWord
  rw [Bool.and_eq_true, Bool.and_eq_true, decide_eq_true_iff, decide_eq_true_iff, List.all_eq_true]
  exact ⟨fun h => ⟨h.1, fun c hc => of_decide_eq_true (h.2 c hc)⟩, fun h => ⟨h.1, fun c hc => decide_eq_true (h.2 c hc)⟩⟩
theorem abc_mem {c : Nat} (h : 97 ≤ c ∧ c ≤ 122) : c ∈ abc.cps.toList := by
  have := abc_all (c - 97) (by omega)
  rw [show 97 + (c - 97) = c by omega] at this
  exact List.mem_of_getElem? this
theorem isWord_ok {cs : List Nat} {b : Int} {z : Str} (N : NamesOk cs b) (h : WordOk cs 6 z) : isWord z = true :=
  isWord_iff.mpr ⟨h.length, fun c hc => abc_mem (N.low c (h.mem c hc))⟩
def spIsWord : Sp := fun vs H Q _ => ∃ z : Str, vs = [.str z] ∧ z.length ≤ 1000 ∧ ∀ H', Same H H' → Q (.bl (isWord z)) H'
section
variable {P : Program} {w : World} {K : PySem.W.Frag} {mg : Str → Option Value} {base : Heap}
theorem scIsWord : FnScope ["text", "sign"] ["text"] (defScope sIsWord) := ⟨rfl, rfl, rfl, by decide +kernel, rfl, by decide +kernel, by decide +kernel⟩
theorem ok_isword {f : Addr} {fd : FuncData} {t1 t2 : Tok} (F : Fun K "is_word" "is_word" sIsWord f fd) (z_len : mg "len" = none) (z_all : mg "all" = none) (m_MOST_IN_WORD : mg "MOST_IN_WORD" = some (.int 6 t1)) (m_SMALL_LETTERS : mg "SMALL_LETTERS" = some (.str abc t2)) :
    FnOk P w K mg base CX0 1 f fd ["text"] spIsWord := by
  refine F.ok scIsWord (fun vs H Q E h => ?_) (fun cdv A outer s H vs Q E hr h => ?_)
  · obtain ⟨z, rfl, _⟩ := h
    rfl
  · obtain ⟨z, rfl, hz, k⟩ := h
    have nd := scIsWord.nd
    have hz' : z.cps.size ≤ 1000 := hz
    refine ⟨_, (pss_one (ps_ret (pe_and (pe_chain op_le op_le pe_int (pe_callB call_len_str (by rfl) z_len PySem.boot_len (pa_cons (pv 0) pa_nil)) (pe_glob (v := .int 6) (by rfl) m_MOST_IN_WORD ⟨_, rfl⟩)) (pe_one (pe_callB (cr_all rfl) (by rfl) z_all (by decide +kernel) (pa_cons (pe_lc (own := [("sign", 1)]) (g := (gName 1)) (tt := tYes) rfl nd (pi_str (pv 0)) (blkOk_by (own := [("sign", 1)]) (N := ["text", "sign"]) (sc := defScope sIsWord) (by decide +kernel)) (fun _ _ _ _ _ => (pg_name (i := 1) nd rfl (.inl rfl))) (fun _ _ _ _ _ => pts_nil) (fun _ _ _ _ _ => (pe_cmpR op_in_sign (pv 1) (pe_glob (v := .str abc) (by rfl) m_SMALL_LETTERS ⟨_, rfl⟩) (by rfl)))) pa_nil)))))), ?_⟩
    refine ⟨_, rfl, z, rfl, line_of (by omega), _, _, rfl, rfl, _, rfl, ite2 (fun h1 => ?_) (fun h1 => ?_)⟩
    · refine ⟨_, _, rfl, rfl, _, rfl, ite2 (fun h2 => ?_) (fun h2 => ?_)⟩
      · refine ⟨_, rfl, z, rfl, fun D hD => lc_it walk_str (fun i H2 => H2 = upd H D (.lst ((z.cps.toList.take i).map fun c => V.bl (decide (c ∈ abc.cps.toList))))) rfl (fun _ _ _ _ => trivial) ?_ ?_⟩
        · rintro i x H2 H3 hi rfl ⟨rfl, c, hc, rfl⟩
          refine ⟨rfl, _, rfl, c, abc, rfl, rfl, _, upd_same, ?_, ?_⟩
          · rw [List.length_map, List.length_take]
            exact line_lt (by omega)
          · rw [upd_upd, List.take_add_one, Array.getElem?_toList, hc, List.map_append] <;> rfl
        · rintro H2 rfl
          have e : z.cps.toList.take z.cps.size = z.cps.toList := List.take_of_length_le (by rw [Array.length_toList] <;> exact Nat.le_refl _)
          rw [e]
          refine ⟨D, z.cps.toList.map fun c => decide (c ∈ abc.cps.toList), rfl, SqL.of (by rw [upd_same, List.map_map] <;> rfl), ?_⟩
          have e2 : (z.cps.toList.map fun c => decide (c ∈ abc.cps.toList)).all id = isWord z := by
            have a1 : (1 ≤ z.length) := by have := of_decide_eq_true h1; omega
            have a2 : (z.length ≤ 6) := by have := of_decide_eq_true h2; omega
            unfold isWord
            rw [decide_eq_true a1, decide_eq_true a2, List.all_map]
            rfl
          rw [e2]
          exact k _ (Same.new hD)
      · have e2 : isWord z = false := by
          have a2 : ¬ (z.length ≤ 6) := fun a => h2 (decide_eq_true (by omega))
          unfold isWord
          rw [decide_eq_false a2]
          simp
        have := k _ (Same.refl H)
        rw [e2] at this
        exact this
    · have e2 : isWord z = false := by
        have a2 : ¬ (1 ≤ z.length) := fun a => h1 (decide_eq_true (by omega))
        unfold isWord
        rw [decide_eq_false a2]
        simp
      have := k _ (Same.refl H)
      rw [e2] at this
      exact ⟨_, rfl, iteF this⟩
end
end WS
set_option maxRecDepth 100000
set_option maxHeartbeats 4000000
namespace WS
open PySem L2 SetT
/-- all words of some sums, in the order in which they stand -/
def wordsOf (ss : List WSum) : List Str := (ss.map fun s => s.1 ++ [s.2]).flatten
def signsOf (ws : List Str) : List Nat := (ws.map (·.cps.toList)).flatten
/-- a sheet that can be -/
structure Valid (b : Int) (ss : List WSum) : Prop where
  b2 : 2 ≤ b
  b12 : b ≤ 12
  few : 1 ≤ ss.length ∧ ss.length ≤ 3
  many : ∀ s ∈ ss, 1 ≤ s.1.length ∧ s.1.length ≤ 4
  words : ∀ z ∈ wordsOf ss, isWord z = true
  lets : ((metS (signsOf (wordsOf ss))).length : Int) ≤ b ∧ (metS (signsOf (wordsOf ss))).length ≤ 8
theorem metS_grow (xs ys : List Nat) : (metS xs).length ≤ (metS (xs ++ ys)).length := by
  have : ∀ (r : List Nat) (a : List Str), a.length ≤ (r.foldl (fun a c => addS a (sign c)) a).length := by
    intro r
    induction r with
    | nil => intro a; exact Nat.le_refl _
    | cons c r ih =>
      intro a
      have h1 := ih (addS a (sign c))
      have h2 : a.length ≤ (addS a (sign c)).length := by rw [addS_len]; split <;> omega
      exact Nat.le_trans h2 h1
  unfold metS
  rw [List.foldl_append]
  exact this ys _
theorem wordsOf_append (a b : List WSum) : wordsOf (a ++ b) = wordsOf a ++ wordsOf b := by
  unfold wordsOf; rw [List.map_append, List.flatten_append]
theorem signsOf_append (a b : List Str) : signsOf (a ++ b) = signsOf a ++ signsOf b := by
  unfold signsOf; rw [List.map_append, List.flatten_append]
theorem wordsOf_take {ss : List WSum} {i : Nat} {s : WSum} (h : ss[i]? = some s) : wordsOf (ss.take (i + 1)) = wordsOf (ss.take i) ++ (s.1 ++ [s.2]) := by
  rw [List.take_add_one, h, wordsOf_append]
  show _ ++ wordsOf [s] = _
  unfold wordsOf
  simp
theorem wordsOf_take_mem {ss : List WSum} {i : Nat} {z : Str} (h : z ∈ wordsOf (ss.take i)) : z ∈ wordsOf ss := by
  have : wordsOf ss = wordsOf (ss.take i) ++ wordsOf (ss.drop i) := by rw [← wordsOf_append, List.take_append_drop]
  rw [this]; exact List.mem_append_left _ h
theorem Valid.prefix {b : Int} {ss : List WSum} (V : Valid b ss) (i : Nat) : ((metS (signsOf (wordsOf (ss.take i)))).length : Int) ≤ b ∧ (metS (signsOf (wordsOf (ss.take i)))).length ≤ 8 := by
  have : wordsOf ss = wordsOf (ss.take i) ++ wordsOf (ss.drop i) := by rw [← wordsOf_append, List.take_append_drop]
  have h := metS_grow (signsOf (wordsOf (ss.take i))) (signsOf (wordsOf (ss.drop i)))
  rw [← signsOf_append, ← this] at h
  have := V.lets
  omega
theorem Valid.word_len {b : Int} {ss : List WSum} (V : Valid b ss) {z : Str} (h : z ∈ wordsOf ss) : 1 ≤ z.length ∧ z.length ≤ 6 := (isWord_iff.mp (V.words z h)).1
theorem wordsOf_len {ss : List WSum} (h : ∀ s ∈ ss, s.1.length ≤ 4) : (wordsOf ss).length ≤ 5 * ss.length := by
  induction ss with
  | nil => exact Nat.le_refl _
  | cons s r ih =>
    have h1 := ih fun x hx => h x (List.mem_cons_of_mem _ hx)
    have h2 := h s List.mem_cons_self
    have e : wordsOf (s :: r) = (s.1 ++ [s.2]) ++ wordsOf r := rfl
    rw [e, List.length_append, List.length_append, List.length_cons]
    show s.1.length + 1 + (wordsOf r).length ≤ 5 * (r.length + 1)
    omega
theorem sum_lens {ws : List Str} {m : Nat} (h : ∀ z ∈ ws, z.length ≤ m) : (ws.map (·.length)).sum ≤ m * ws.length := by
  induction ws with
  | nil => exact Nat.le_refl _
  | cons z r ih =>
    have h1 := ih fun x hx => h x (List.mem_cons_of_mem _ hx)
    have h2 := h z List.mem_cons_self
    rw [List.map_cons, List.sum_cons, List.length_cons, Nat.mul_add]
    omega
theorem join_signsOf (ws : List Str) : (Txt.join ("" : Str) ws).cps.toList = signsOf ws := by
  have e : Txt.join ("" : Str) ws = Str.join Str.empty ws := StrLaws.glued_eq_join _ _
  rw [e, join_empty] <;> rfl
theorem mem_wordsOf {ss : List WSum} {s : WSum} {z : Str} (hs : s ∈ ss) (h : z ∈ s.1 ∨ z = s.2) : z ∈ wordsOf ss := by
  unfold wordsOf
  refine List.mem_flatten.mpr ⟨s.1 ++ [s.2], List.mem_map.mpr ⟨s, hs, rfl⟩, ?_⟩
  rcases h with h | h
  · exact List.mem_append_left _ h
  · exact List.mem_append_right _ (by simp [h])
theorem of_wordsOf {ss : List WSum} {z : Str} (h : z ∈ wordsOf ss) : ∃ s ∈ ss, z ∈ s.1 ∨ z = s.2 := by
  unfold wordsOf at h
  obtain ⟨l, hl, hz⟩ := List.mem_flatten.mp h
  obtain ⟨s, hs, rfl⟩ := List.mem_map.mp hl
  refine ⟨s, hs, ?_⟩
  rcases List.mem_append.mp hz with h | h
  · exact .inl h
  · exact .inr (by simpa using h)
theorem signsOf_len {ws : List Str} {m : Nat} (h : ∀ z ∈ ws, z.cps.toList.length ≤ m) : (signsOf ws).length ≤ m * ws.length := by
  induction ws with
  | nil => exact Nat.le_refl _
  | cons z r ih =>
    have h1 := ih fun x hx => h x (List.mem_cons_of_mem _ hx)
    have h2 := h z List.mem_cons_self
    have e : signsOf (z :: r) = z.cps.toList ++ signsOf r := rfl
    rw [e, List.length_append, List.length_cons, Nat.mul_add]
    omega
/-- what the law draws can be -/
theorem SheetOk.valid {b : Int} {ss : List WSum} (S : SheetOk b ss) : Valid b ss := by
  obtain ⟨cs, N, ok⟩ := S.cs
  refine ⟨S.b2, S.b12, S.few, fun s hs => (ok s hs).many, fun z hz => ?_, ?_⟩
  · obtain ⟨s, hs, hz⟩ := of_wordsOf hz
    rcases hz with hz | rfl
    · exact isWord_ok N ((ok s hs).adds z hz)
    · exact isWord_ok N (ok s hs).total
  · have hcs : (metS (signsOf (wordsOf ss))).length ≤ cs.length := metS_few fun c hc => by
      unfold signsOf at hc
      obtain ⟨l, hl, hc⟩ := List.mem_flatten.mp hc
      obtain ⟨z, hz, rfl⟩ := List.mem_map.mp hl
      obtain ⟨s, hs, hz⟩ := of_wordsOf hz
      rcases hz with hz | rfl
      · exact ((ok s hs).adds z hz).mem c hc
      · exact (ok s hs).total.mem c hc
    have hN := N.len
    have h12 := S.b12
    refine ⟨by omega, ?_⟩
    by_cases h6 : 6 < b
    · have h1 := S.big h6
      obtain ⟨s, rfl⟩ : ∃ s, ss = [s] := by
        rcases ss with _ | ⟨s, _ | ⟨t, r⟩⟩
        · simp at h1
        · exact ⟨s, rfl⟩
        · simp at h1
      obtain ⟨g1, g2, g3⟩ := (ok s List.mem_cons_self).big h6
      have e : signsOf (wordsOf [s]) = signsOf s.1 ++ s.2.cps.toList := by
        have : wordsOf [s] = s.1 ++ [s.2] := by unfold wordsOf; simp
        rw [this, signsOf_append]
        unfold signsOf; simp
      have l1 := signsOf_len (m := 1) fun z hz => (g2 z hz).len
      have l2 := g3.len
      have l3 := metS_le (signsOf (wordsOf [s]))
      rw [e, List.length_append] at l3
      rw [e]
      omega
    · omega
end WS
set_option maxRecDepth 100000
set_option maxHeartbeats 8000000
namespace WS
open PySem L2 SetT
/-- check_counts(base, sums) of a sheet that can be -/
def spCounts : Sp := fun vs H Q _ => ∃ (b : Int) (sl : Addr) (xs : List V), vs = [.int b, .ref sl] ∧ H sl = some (.lst xs) ∧ 2 ≤ b ∧ b ≤ 12 ∧ 1 ≤ xs.length ∧ xs.length ≤ 3 ∧ Q .non H
def spCheck : Sp := fun vs H Q _ => ∃ (b : Int) (sl : Addr) (ts : List Addr) (ss : List WSum), vs = [.int b, .ref sl] ∧ H sl = some (.lst (ts.map V.ref)) ∧ SumsAt H ts ss ∧ Valid b ss ∧ ∀ H', Same H H' → Q .non H'
theorem refs_at {ts : List Addr} {i : Nat} {y : V} (h : (ts.map V.ref)[i]? = some y) : ∃ t, ts[i]? = some t ∧ y = V.ref t := by
  rw [List.getElem?_map] at h
  cases e : ts[i]? with
  | none => rw [e] at h; cases h
  | some t => rw [e] at h; exact ⟨t, rfl, (Option.some.inj h).symm⟩
theorem strs_at' {ws : List Str} {i : Nat} {y : V} (h : (ws.map V.str)[i]? = some y) : ∃ z, ws[i]? = some z ∧ y = V.str z := by
  rw [List.getElem?_map] at h
  cases e : ws[i]? with
  | none => rw [e] at h; cases h
  | some t => rw [e] at h; exact ⟨t, rfl, (Option.some.inj h).symm⟩
section
variable {P : Program} {w : World} {K : PySem.W.Frag} {mg : Str → Option Value} {base : Heap}
theorem scCounts : FnScope ["base", "sums"] ["base", "sums"] (defScope sCounts) := ⟨rfl, rfl, rfl, by decide +kernel, rfl, by decide +kernel, by decide +kernel⟩
theorem ok_counts {f : Addr} {fd : FuncData} {t1 t2 t3 : Tok} (F : Fun K "check_counts" "check_counts" sCounts f fd) (z_len : mg "len" = none) (m_LEAST_BASE : mg "LEAST_BASE" = some (.int 2 t1)) (m_MOST_BASE : mg "MOST_BASE" = some (.int 12 t2)) (m_MOST_SUMS : mg "MOST_SUMS" = some (.int 3 t3)) :
    FnOk P w K mg base CX0 1 f fd ["base", "sums"] spCounts := by
  refine F.ok scCounts (fun vs H Q E h => ?_) (fun cdv A outer s H vs Q E hr h => ?_)
  · obtain ⟨b, sl, xs, rfl, _⟩ := h
    rfl
  · obtain ⟨b, sl, xs, rfl, hsl, b2, b12, n1, n3, k⟩ := h
    have nd := scCounts.nd
    refine ⟨_, (pss_cons (ps_if (pt_not (pt_chain op_le op_le (pe_glob (v := .int 2) (by rfl) m_LEAST_BASE ⟨_, rfl⟩) (pv 0) (pe_glob (v := .int 12) (by rfl) m_MOST_BASE ⟨_, rfl⟩))) (pss_one ps_never) pss_nil)
      (pss_one (ps_if (pt_not (pt_chain op_le op_le pe_int (pe_callB call_len_seq (by rfl) z_len PySem.boot_len (pa_cons (pv 1) pa_nil)) (pe_glob (v := .int 3) (by rfl) m_MOST_SUMS ⟨_, rfl⟩))) (pss_one ps_never) pss_nil))), ?_⟩
    refine ⟨_, rfl, _, _, rfl, rfl, _, rfl, ?_⟩
    rw [decide_eq_true b2]
    refine iteT ⟨_, _, rfl, rfl, _, rfl, ?_⟩
    rw [decide_eq_true b12]
    refine iteF ?_
    refine ⟨_, rfl, sl, _, rfl, .inl (SqL.of hsl), _, _, rfl, rfl, _, rfl, ?_⟩
    rw [decide_eq_true (by omega)]
    refine iteT ⟨_, _, rfl, rfl, _, rfl, ?_⟩
    rw [decide_eq_true (by omega)]
    exact iteF k
theorem scCheck : FnScope ["base", "sums", "words", "at", "addends", "total", "word"] ["base", "sums"] (defScope sCheck) := ⟨rfl, rfl, rfl, by decide +kernel, rfl, by decide +kernel, by decide +kernel⟩
theorem ok_check {f fI : Addr} {fd fdI : FuncData} {t1 t2 : Tok} (F : Fun K "check_sums" "check_sums" sCheck f fd) (z_len : mg "len" = none) (z_set : mg "set" = none) (z_all : mg "all" = none) (z_min : mg "min" = none) (z_enumerate : mg "enumerate" = none)
    (m_MOST_ADDENDS : mg "MOST_ADDENDS" = some (.int 4 t1)) (m_MOST_LETTERS : mg "MOST_LETTERS" = some (.int 8 t2)) (S_is_word : Site K mg "is_word" fI fdI ["text"]) (G_is_word : FnOk P w K mg base CX0 1 fI fdI ["text"] spIsWord) :
    FnOk P w K mg base CX0 2 f fd ["base", "sums"] spCheck := by
  refine F.ok scCheck (fun vs H Q E h => ?_) (fun cdv A outer s H vs Q E hr h => ?_)
  · obtain ⟨b, sl, ts, ss, rfl, _⟩ := h
    rfl
  · obtain ⟨b, sl, ts, ss, rfl, hsl, hsa, V', k⟩ := h
    have nd := scCheck.nd
    have hr_is_word := hr
    refine ⟨_, (pss_cons (ps_set (i := 2) nd rfl (.inl rfl) (pe_lst pa_nil))
      (pss_one (ps_for PassesOwn.never rfl (pi_enum (by rfl) z_enumerate (pa_cons (pv 1) pa_nil)) (pg_tup rfl (pgs_cons (pg_name (i := 3) nd rfl (.inl rfl)) (pgs_cons (pg_tup rfl (pgs_cons (pg_name (i := 4) nd rfl (.inl rfl)) (pgs_cons (pg_name (i := 5) nd rfl (.inl rfl)) pgs_nil))) pgs_nil))) (pss_cons (ps_if (pt_not (pt_chain op_le op_le pe_int (pe_callB call_len_seq (by rfl) z_len PySem.boot_len (pa_cons (pv 4) pa_nil)) (pe_glob (v := .int 4) (by rfl) m_MOST_ADDENDS ⟨_, rfl⟩))) (pss_one ps_never) pss_nil)
      (pss_cons (ps_if (pt_not (pt_val (pe_callB (cr_all rfl) (by rfl) z_all (by decide +kernel) (pa_cons (pe_lc (own := [("word", 6)]) (g := (gName 6)) (tt := tYes) rfl nd (pi_tup (pe_tup (StX.pa_star (pv 4) (pa_cons (pv 5) pa_nil)))) (blkOk_by (own := [("word", 6)]) (N := ["base", "sums", "words", "at", "addends", "total", "word"]) (sc := defScope sCheck) (by decide +kernel)) (fun _ _ _ _ _ => (pg_name (i := 6) nd rfl (.inl rfl))) (fun _ _ _ _ _ => pts_nil) (fun _ _ _ _ _ => (pe_call G_is_word hr_is_word (by rfl) S_is_word.g S_is_word.k S_is_word.b .nil pass0 (pa_cons (pv 6) pa_nil)))) pa_nil)))) (pss_one ps_never) pss_nil)
      (pss_cons (ps_expr (pe_bm PySem.F.plainAttrs_list PySem.F.slot_list_extend PySem.F.type_list_extend mt_extend (pv 2) (pa_cons (pe_lst (StX.pa_star (pv 4) (pa_cons (pv 5) pa_nil))) pa_nil)))
      (pss_one (ps_if (pt_cmpR op_gt (pe_lenSetT (by rfl) z_len (by rfl) z_set (pe_join pe_str (pv 2))) (pe_callB (call_min2 rfl) (by rfl) z_min (by decide +kernel) (pa_cons (pe_glob (v := .int 8) (by rfl) m_MOST_LETTERS ⟨_, rfl⟩) (pa_cons (pv 0) pa_nil))) (nomark _)) (pss_one ps_never) pss_nil)))))))), ?_⟩
    refine ⟨by show 0 ≤ sizeLine; decide, fun wl hwl => ?_⟩
    have hslw : sl ≠ wl := ne_of_none hsl hwl
    refine ⟨_, rfl, sl, _, rfl, SqL.of ((upd_ne hslw).trans hsl), for_it (walk_enum (xs := ts.map V.ref)) (fun i σ H2 => ∃ v3 v4 v5, σ = [some (.int b), some (.ref sl), some (.ref wl), v3, v4, v5, none] ∧ Same H H2 ∧ H2 wl = some (.lst ((wordsOf (ss.take i)).map V.str)))
      ⟨none, none, none, rfl, Same.new hwl, upd_same⟩ (fun i σ H2 _ ⟨_, _, _, _, s2, _⟩ => SqL.of (s2 _ _ hsl)) ?_ ?_⟩
    · rintro i x σ H2 H3 hi ⟨v3, v4, v5, rfl, s2, hw⟩ ⟨T, x1, x2, rfl, hT, rfl, e1, e2⟩
      rw [List.length_map] at hi
      have e1' : x1 = .int (i : Nat) := (Option.some.inj e1).symm
      subst e1'
      obtain ⟨t, ht, rfl⟩ := refs_at e2
      have hiss : i < ss.length := hsa.len ▸ hi
      have hs : ss[i]? = some ss[i] := List.getElem?_eq_getElem hiss
      generalize hsg : ss[i] = sm at hs
      have hsm : sm ∈ ss := List.mem_of_getElem? hs
      have s3 : Same H (upd H2 T (.tup [.int (i : Nat), .ref t])) := s2.trans (Same.new hT)
      obtain ⟨u, ht1, hu1⟩ := (hsa.get i t sm ht hs).same s3
      have hwT : wl ≠ T := ne_of_none hw hT
      have hw3 : (upd H2 T (.tup [.int (i : Nat), .ref t])) wl = some (.lst ((wordsOf (ss.take i)).map V.str)) := (upd_ne hwT).trans hw
      have hTu : (upd H2 T (.tup [.int (i : Nat), .ref t])) T = some (.tup [.int (i : Nat), .ref t]) := upd_same
      generalize upd H2 T (.tup [.int (i : Nat), .ref t]) = H3 at s3 ht1 hu1 hw3 hTu
      obtain ⟨m1, m4⟩ := V'.many sm hsm
      refine ⟨T, _, rfl, SqT.of hTu, rfl, _, _, rfl, _, _, rfl, t, _, rfl, SqT.of ht1, rfl, _, _, rfl, _, _, rfl, rfl, rfl, ?_⟩
      -- the count of the addends
      refine ⟨_, rfl, u, _, rfl, .inr (SqT.of hu1), _, _, rfl, rfl, _, rfl, ?_⟩
      rw [List.length_map, decide_eq_true (by omega)]
      refine iteT ⟨_, _, rfl, rfl, _, rfl, ?_⟩
      rw [decide_eq_true (by omega)]
      refine iteF ?_
      -- its words
      refine ⟨_, rfl, u, _, rfl, .inl (SqT.of hu1), _, rfl, ?_, fun q hq => ?_⟩
      · rw [List.length_append, List.length_map]
        exact line_of (by show _ + 1 ≤ _; omega)
      refine ⟨q, rfl, ⟨_, SqT.of upd_same⟩, fun D hD => ?_⟩
      have hqD : q ≠ D := ne_of_none upd_same hD
      have hD3 : H3 D = none := by rw [upd_ne (Ne.symm hqD)] at hD; exact hD
      have hwq : wl ≠ q := ne_of_none hw3 hq
      have hwD : wl ≠ D := ne_of_none hw3 hD3
      refine lc_tup (K := K) (a := q) (xs := sm.1.map V.str ++ [.str sm.2]) (fun j H4 => H4 D = some (.lst ((List.replicate j true).map V.bl)) ∧ Same (upd H3 q (.tup (sm.1.map V.str ++ [.str sm.2]))) H4)
        ⟨upd_same, Same.new hD⟩ (fun j H4 _ ⟨_, s4⟩ => SqT.of (s4 _ _ upd_same)) ?_ ?_
      · rintro j y H4 hj ⟨hD4, s4⟩
        have hy : sm.1.map V.str ++ [V.str sm.2] = (sm.1 ++ [sm.2]).map V.str := by rw [List.map_append] <;> rfl
        rw [hy] at hj
        obtain ⟨z, hz, rfl⟩ := strs_at' hj
        have hjl : j < (sm.1 ++ [sm.2]).length := (List.getElem?_eq_some_iff.mp hz).1
        rw [List.length_append] at hjl
        have hjl' : j < sm.1.length + 1 := hjl
        have hzm : z ∈ wordsOf ss := by
          have := List.mem_of_getElem? hz
          refine mem_wordsOf hsm ?_
          rcases List.mem_append.mp this with h | h
          · exact .inl h
          · exact .inr (by simpa using h)
        refine ⟨rfl, _, rfl, z, rfl, by have := V'.word_len hzm; omega, fun H5 s5 => ?_⟩
        refine ⟨_, s5 _ _ hD4, ?_, ?_, ?_⟩
        · rw [List.length_map, List.length_replicate]
          exact line_lt (by omega)
        · rw [upd_same, V'.words z hzm, List.replicate_succ', List.map_append] <;> rfl
        · exact Same.mut (s4.trans s5) hD
      · rintro H4 ⟨hD4, s4⟩
        rw [List.length_append, List.length_map] at hD4
        refine ⟨D, _, rfl, SqL.of hD4, _, rfl, ?_⟩
        have ea : (List.replicate (sm.1.length + [V.str sm.2].length) true).all id = true := by simp
        rw [ea]
        refine iteF ?_
        have s34 : Same H3 H4 := (Same.new hq).trans s4
        have s04 : Same H H4 := s3.trans s34
        have hw4 := s34 _ _ hw3
        -- words.extend
        refine ⟨_, rfl, .inl ⟨rfl, _, SqL.of hw4⟩, _, rfl, u, _, rfl, .inl (SqT.of (s34 _ _ hu1)), _, rfl, ?_, fun q2 hq2 => ?_⟩
        · rw [List.length_append, List.length_map]
          exact line_of (by show _ + 1 ≤ _; omega)
        have hwl4 := wordsOf_len (ss := ss.take i) fun s hs => (V'.many s (List.mem_of_mem_take hs)).2
        rw [List.length_take] at hwl4
        have hf := V'.few
        refine ⟨wl, q2, _, _, rfl, rfl, (upd_ne (ne_of_none hw4 hq2)).trans hw4, upd_same, ?_, ?_⟩
        · rw [List.length_map, List.length_append, List.length_map]
          exact line_of (by show _ + (_ + 1) ≤ _; omega)
        have ew : (wordsOf (ss.take i)).map V.str ++ (sm.1.map V.str ++ [V.str sm.2]) = (wordsOf (ss.take (i + 1))).map V.str := by
          rw [wordsOf_take hs, List.map_append, List.map_append] <;> rfl
        rw [ew]
        -- the letters so far
        have hwl5 := wordsOf_len (ss := ss.take (i + 1)) fun s hs => (V'.many s (List.mem_of_mem_take hs)).2
        rw [List.length_take] at hwl5
        have hsum := sum_lens (ws := wordsOf (ss.take (i + 1))) (m := 6) fun z hz => (V'.word_len (wordsOf_take_mem hz)).2
        have hjs := join_signsOf (wordsOf (ss.take (i + 1)))
        have hjl := signsOf_len (ws := wordsOf (ss.take (i + 1))) (m := 6) fun z hz => by
          have := (V'.word_len (wordsOf_take_mem hz)).2
          have e : z.cps.toList.length = z.length := Array.length_toList
          omega
        obtain ⟨p1, p2⟩ := V'.prefix (i + 1)
        refine ⟨⟨_, rfl⟩, _, rfl, _, wl, wordsOf (ss.take (i + 1)), rfl, rfl, .inl (SqL.of upd_same), ?_, ?_⟩
        · show _ + _ * 0 ≤ _
          omega
        refine ⟨_, rfl, ?_, ?_⟩
        · have e : (Txt.join ("" : Str) (wordsOf (ss.take (i + 1)))).cps.toList.length = (Txt.join ("" : Str) (wordsOf (ss.take (i + 1)))).length := Array.length_toList
          rw [hjs] at e
          omega
        rw [hjs]
        refine ⟨_, rfl, _, _, rfl, _, _, rfl, rfl, _, rfl, ?_⟩
        rw [decide_eq_false (by split <;> omega)]
        refine iteF ?_
        exact ⟨_, _, _, rfl, Same.mut (s04.trans (Same.new hq2)) hwl, upd_same⟩
    · rintro σ H2 ⟨v3, v4, v5, rfl, s2, hw⟩
      exact k _ s2
end
end WS
set_option maxRecDepth 100000
set_option maxHeartbeats 4000000
namespace RevS
open PySem PySem.Spec PyProof.Rows L2
/-- a text from its end -/
def revT (z : Str) : Str := ⟨z.cps.toList.reverse.toArray⟩
theorem pick_all (z : Str) : (Builtin.Str.strSliceIndices none none (-1) z.length).filterMap (z.cps[·]?) = z.cps.toList.reverse := by
  unfold Builtin.Str.strSliceIndices
  show (sliceRange ((z.cps.size : Int) - 1) (-1) (-1)).filterMap (z.cps[·]?) = _
  rw [PySem.W.krv_sliceRange]
  have : ∀ (l : List Nat) (n : Nat), l.length = n → ((List.range n).map fun k => n - 1 - k).filterMap (l[·]?) = l.reverse := by
    intro l
    induction l with
    | nil => intro n h; subst h; rfl
    | cons c r ih =>
      intro n h
      subst h
      have e : (List.range (r.length + 1)).map (fun k => r.length + 1 - 1 - k) = ((List.range r.length).map fun k => (r.length - 1 - k) + 1) ++ [0] := by
        rw [List.range_succ, List.map_append]
        congr 1
        · apply List.map_congr_left
          intro k hk
          have := List.mem_range.mp hk
          omega
        · simp
      show ((List.range (r.length + 1)).map (fun k => r.length + 1 - 1 - k)).filterMap ((c :: r)[·]?) = _
      rw [e, List.filterMap_append, List.reverse_cons]
      congr 1
      have h2 := ih r.length rfl
      rw [List.filterMap_map] at h2 ⊢
      rw [← h2]
      apply congrArg (fun f => List.filterMap f _)
      funext k
      simp
  have h := this z.cps.toList z.cps.size Array.length_toList
  simpa [Array.getElem?_toList] using h
def tRevS (te : TE) : TE := fun σ H Q => te σ H fun x H1 => ∃ z : Str, x = .str z ∧ z.length ≤ sizeLine ∧ Q (.str (revT z)) H1
theorem pe_revS {X : Cx} {e : Expr} {te : TE} {k : Nat} {p1 p2 p3 pos : Pos} (he : PE X e te) : PE X (.Subscript e (.Slice none none (some (.UnaryOp .USub (.Constant (.int 1) k p1) p2)) p3) pos) (tRevS te) := by
  refine ⟨fun pins s σ H Q I h => ?_⟩
  refine Subscript_ (thn (he.run pins s σ H _ I h) fun v s1 ⟨x, H1, I1, r1, q1⟩ => ?_)
  obtain ⟨z, ex, hz, q⟩ := q1
  subst ex
  obtain ⟨t, rfl⟩ := r1
  have hst : PO X (some (.UnaryOp .USub (.Constant (.int 1) k p1) p2)) (tPart (tUn (rU fun i => .int (-i)) (tC (.int 1)))) := po_some (pe_un un_neg pe_int)
  refine wpAny_Slice (thn (po_none.run pins s1 σ H1 (fun o H2 => o = none ∧ H2 = H1) I1 ⟨rfl, rfl⟩) fun vl s2 ⟨l, H2, I2, pl, el, e2⟩ => ?_)
  subst el e2
  refine thn (po_none.run pins s2 σ H2 (fun o H3 => o = none ∧ H3 = H2) I2 ⟨rfl, rfl⟩) fun vu s3 ⟨u, H3, I3, pu, eu, e3⟩ => ?_
  subst eu e3
  refine thn (hst.run pins s3 σ H3 (fun o H4 => o = some (-1) ∧ H4 = H3) I3 ⟨1, rfl, -1, rfl, rfl, rfl⟩) fun vs s4 ⟨o, H4, I4, ps, eo, e4⟩ => ?_
  subst eo e4
  cases pl
  cases pu
  cases ps
  rename_i uk _
  have I5 : L2.Inv X pins σ H4 { s4 with heap := s4.heap.push { cls := .type "slice", data := .fields #[.none, .none, .int (-1) uk] } } := I4.kept (t' := s4.toks) fun b ob q => Heap.get?_push_of_some _ q
  refine tail_any (ops := [.ref s4.heap.objs.size, .str z t]) (typeIs_str _ _ _) F.slot_str_getitem.lookup (wpAny_getItem_str_slice (l := none) (u := none) (st := some (-1, uk)) ⟨_, Heap.get?_push_size _ rfl, rfl, rfl⟩ rfl ?_) (by with_unfolding_all rfl)
  show Made.post (if ((-1 : Int) == 1 && (Builtin.Str.strSliceIndices none none (-1) z.length).length == z.length) = true then Made.val (.str z t)
    else Made.str ⟨((Builtin.Str.strSliceIndices none none (-1) z.length).filterMap (z.cps[·]?)).toArray⟩) _ _
  rw [if_neg (by simp), pick_all]
  have hl : (revT z).length ≤ sizeLine := by
    have e : (revT z).length = z.length := by
      show z.cps.toList.reverse.toArray.size = z.cps.size
      simp
    rw [e]; exact hz
  exact ⟨hl, .str (revT z), H4, I5.tok _, ⟨_, rfl⟩, q⟩
end RevS
set_option maxRecDepth 100000
set_option maxHeartbeats 4000000
namespace WS
open PySem L2 SetT
/-- the letter of a word in a column, counted from the right -/
def letterAt (z : Str) (p : Nat) : Str := match z.cps.toList.reverse[p]? with | some c => ⟨#[c]⟩ | none => Str.empty
def col (ws : List Str) (p : Nat) : List Nat := ws.filterMap fun z => z.cps.toList.reverse[p]?
def maxLen (ws : List Str) : Nat := ws.foldl (fun a z => max a z.length) 0
def rawSum (ws : List Str) : List Nat := ((List.range (maxLen ws)).map (col ws)).flatten
def rawOf (ss : List WSum) : List Nat := (ss.map fun s => rawSum (s.1 ++ [s.2])).flatten
def addN (L : List Nat) (c : Nat) : List Nat := if c ∈ L then L else L ++ [c]
/-- each of them once, where it stands first -/
def dd (r : List Nat) : List Nat := r.foldl addN []
def lettersOf (ss : List WSum) : List Nat := dd (rawOf ss)
theorem dd_snoc (r : List Nat) (c : Nat) : dd (r ++ [c]) = addN (dd r) c := by
  unfold dd; rw [List.foldl_append] <;> rfl
theorem addN_nodup {L : List Nat} {c : Nat} (h : L.Nodup) : (addN L c).Nodup := by
  unfold addN
  split
  · exact h
  · rename_i hx
    rw [List.nodup_append]
    refine ⟨h, by simp, fun a ha b hb e => hx ?_⟩
    have : b = c := by simpa using hb
    rw [← this, ← e]; exact ha
theorem addN_mem {L : List Nat} {c y : Nat} : y ∈ addN L c ↔ y ∈ L ∨ y = c := by
  unfold addN
  split
  · rename_i h
    exact ⟨.inl, fun h' => h'.elim id fun e => e ▸ h⟩
  · rw [List.mem_append, List.mem_singleton]
theorem dd_fold (r : List Nat) : ∀ a : List Nat, a.Nodup → (r.foldl addN a).Nodup ∧ ∀ y, y ∈ r.foldl addN a ↔ y ∈ a ∨ y ∈ r := by
  induction r with
  | nil => intro a h; exact ⟨h, fun y => by simp⟩
  | cons c r ih =>
    intro a h
    obtain ⟨h1, h2⟩ := ih (addN a c) (addN_nodup h)
    refine ⟨h1, fun y => ?_⟩
    rw [List.foldl_cons, h2, addN_mem, List.mem_cons]
    constructor
    · rintro ((h | h) | h)
      · exact .inl h
      · exact .inr (.inl h)
      · exact .inr (.inr h)
    · rintro (h | h | h)
      · exact .inl (.inl h)
      · exact .inl (.inr h)
      · exact .inr h
theorem dd_nodup (r : List Nat) : (dd r).Nodup := (dd_fold r [] List.nodup_nil).1
theorem dd_mem {r : List Nat} {y : Nat} : y ∈ dd r ↔ y ∈ r := by
  unfold dd
  rw [(dd_fold r [] List.nodup_nil).2 y]
  simp
def Abc (r : List Nat) : Prop := ∀ c ∈ r, c ∈ abc.cps.toList
theorem Abc.append {r r' : List Nat} (h : Abc r) (h' : Abc r') : Abc (r ++ r') := fun c hc => (List.mem_append.mp hc).elim (h c) (h' c)
theorem Abc.take {r : List Nat} (h : Abc r) (n : Nat) : Abc (r.take n) := fun c hc => h c (List.mem_of_mem_take hc)
theorem abc_size : abc.cps.toList.length = 26 := by decide +kernel
theorem Abc.len {r : List Nat} (h : Abc r) : (dd r).length ≤ 26 := by
  rw [← abc_size]
  exact nodup_le (dd_nodup r) fun c hc => h c (dd_mem.mp hc)
theorem col_abc {ws : List Str} {p : Nat} (h : ∀ z ∈ ws, isWord z = true) : Abc (col ws p) := fun c hc => by
  obtain ⟨z, hz, e⟩ := List.mem_filterMap.mp hc
  exact (isWord_iff.mp (h z hz)).2 c (List.mem_reverse.mp (List.mem_of_getElem? e))
theorem flat_abc {α : Type} {l : List α} {f : α → List Nat} (h : ∀ x ∈ l, Abc (f x)) : Abc (l.map f).flatten := fun c hc => by
  obtain ⟨m, hm, hc⟩ := List.mem_flatten.mp hc
  obtain ⟨x, hx, rfl⟩ := List.mem_map.mp hm
  exact h x hx c hc
theorem raw_abc {ws : List Str} (h : ∀ z ∈ ws, isWord z = true) : Abc (rawSum ws) := flat_abc fun p _ => col_abc h
theorem words_of {b : Int} {ss : List WSum} (V : Valid b ss) {s : WSum} (hs : s ∈ ss) : ∀ z ∈ s.1 ++ [s.2], isWord z = true := fun z hz => V.words z (mem_wordsOf hs ((List.mem_append.mp hz).elim .inl fun h => .inr (by simpa using h)))
theorem rawOf_abc {b : Int} {ss : List WSum} (V : Valid b ss) (n : Nat) : Abc (rawOf (ss.take n)) := flat_abc fun s hs => raw_abc (words_of V (List.mem_of_mem_take hs))
theorem rawOf_take {ss : List WSum} {i : Nat} {s : WSum} (h : ss[i]? = some s) : rawOf (ss.take (i + 1)) = rawOf (ss.take i) ++ rawSum (s.1 ++ [s.2]) := by
  unfold rawOf
  rw [List.take_add_one, h, List.map_append, List.flatten_append]
  simp
theorem range_flat (f : Nat → List Nat) (j : Nat) : ((List.range (j + 1)).map f).flatten = ((List.range j).map f).flatten ++ f j := by
  rw [List.range_succ, List.map_append, List.flatten_append]
  simp
theorem maxLen_fold (ws : List Str) : ∀ a : Nat, a ≤ ws.foldl (fun a z => max a z.length) a ∧ (∀ z ∈ ws, z.length ≤ ws.foldl (fun a z => max a z.length) a) ∧ (ws.foldl (fun a z => max a z.length) a = a ∨ ∃ z ∈ ws, ws.foldl (fun a z => max a z.length) a = z.length) := by
  induction ws with
  | nil => intro a; exact ⟨Nat.le_refl _, (fun z hz => nomatch hz), .inl rfl⟩
  | cons x r ih =>
    intro a
    obtain ⟨h1, h2, h3⟩ := ih (max a x.length)
    rw [List.foldl_cons]
    refine ⟨by omega, fun z hz => ?_, ?_⟩
    · rcases List.mem_cons.mp hz with rfl | hz
      · omega
      · exact h2 z hz
    · rcases h3 with h3 | ⟨z, hz, h3⟩
      · rw [h3]
        by_cases c : a ≤ x.length
        · exact .inr ⟨x, List.mem_cons_self, by omega⟩
        · exact .inl (by omega)
      · exact .inr ⟨z, List.mem_cons_of_mem _ hz, h3⟩
theorem maxLen_le {ws : List Str} {z : Str} (h : z ∈ ws) : z.length ≤ maxLen ws := (maxLen_fold ws 0).2.1 z h
theorem maxLen_is {ws : List Str} {m : Int} (h : m ∈ ws.map fun z => (z.length : Int)) (hle : ∀ n ∈ ws.map (fun z => (z.length : Int)), n ≤ m) : m = maxLen ws := by
  obtain ⟨z, hz, rfl⟩ := List.mem_map.mp h
  have h1 := maxLen_le hz
  rcases (maxLen_fold ws 0).2.2 with h2 | ⟨y, hy, h2⟩
  · have h2 : maxLen ws = 0 := h2
    omega
  · have h2 : maxLen ws = y.length := h2
    have := hle _ (List.mem_map.mpr ⟨y, hy, rfl⟩)
    omega
theorem maxLen_bound {ws : List Str} {m : Nat} (h : ∀ z ∈ ws, z.length ≤ m) : maxLen ws ≤ m := by
  rcases (maxLen_fold ws 0).2.2 with h2 | ⟨y, hy, h2⟩
  · have h2 : maxLen ws = 0 := h2
    omega
  · have h2 : maxLen ws = y.length := h2
    have := h y hy
    omega
theorem rev_at {xs : List Nat} {p : Nat} (h : p < xs.length) : atI xs (-1 - (p : Int)) = xs.reverse[p]? := by
  unfold atI ixN
  rw [if_neg (by omega), if_pos (by omega), List.getElem?_reverse h]
  show xs[_]? = _
  congr 1
  omega
theorem letterAt_some {z : Str} {p c : Nat} (h : z.cps.toList.reverse[p]? = some c) : letterAt z p = ⟨#[c]⟩ := by
  unfold letterAt; rw [h]
theorem letterAt_none {z : Str} {p : Nat} (h : z.cps.toList.reverse[p]? = none) : letterAt z p = Str.empty := by
  unfold letterAt; rw [h]
theorem rev_some {z : Str} {p : Nat} (h : p < z.length) : ∃ c, z.cps.toList.reverse[p]? = some c := by
  have e : z.cps.toList.reverse.length = z.length := by rw [List.length_reverse] <;> exact Array.length_toList
  exact ⟨_, List.getElem?_eq_getElem (by omega)⟩
theorem rev_none {z : Str} {p : Nat} (h : ¬ p < z.length) : z.cps.toList.reverse[p]? = none := by
  have e : z.cps.toList.reverse.length = z.length := by rw [List.length_reverse] <;> exact Array.length_toList
  exact List.getElem?_eq_none (by omega)
theorem col_snoc_some {ws : List Str} {z : Str} {p c : Nat} (h : z.cps.toList.reverse[p]? = some c) : col (ws ++ [z]) p = col ws p ++ [c] := by
  unfold col; rw [List.filterMap_append]; simp [h]
theorem col_snoc_none {ws : List Str} {z : Str} {p : Nat} (h : z.cps.toList.reverse[p]? = none) : col (ws ++ [z]) p = col ws p := by
  unfold col; rw [List.filterMap_append]; simp [h]
theorem take_snoc {α : Type} {l : List α} {i : Nat} {x : α} (h : l[i]? = some x) : l.take (i + 1) = l.take i ++ [x] := by
  rw [List.take_add_one, h] <;> rfl
/-- a dict of letters, each True -/
def kvOf (c : Nat) : Key × V := (Sum.inr ⟨#[c]⟩, .bl true)
theorem kv_inj {c d : Nat} (h : (⟨#[c]⟩ : Str) = ⟨#[d]⟩) : c = d := by
  have := congrArg (fun s : Str => s.cps.toList) h
  simpa using this
theorem put_kv (L : List Nat) (c : Nat) : putK (L.map kvOf) (Sum.inr ⟨#[c]⟩ : Key) (.bl true) = (addN L c).map kvOf := by
  unfold putK addN
  have hany : ((L.map kvOf).any fun kv => decide (kv.1 = (Sum.inr ⟨#[c]⟩ : Key))) = decide (c ∈ L) := by
    induction L with
    | nil => simp
    | cons d r ih =>
      rw [List.map_cons, List.any_cons, ih]
      by_cases e : d = c
      · subst e; simp [kvOf]
      · have : ¬ ((kvOf d).1 = (Sum.inr ⟨#[c]⟩ : Key)) := fun h => e (kv_inj (Sum.inr.inj h))
        rw [decide_eq_false this]
        have e' : ¬ c = d := fun h => e h.symm
        simp [e']
  rw [hany]
  by_cases h : c ∈ L
  · rw [decide_eq_true h, if_pos rfl, if_pos h, List.map_map]
    apply List.map_congr_left
    intro d _
    show (if (kvOf d).1 = _ then ((kvOf d).1, V.bl true) else kvOf d) = kvOf d
    split <;> rfl
  · rw [decide_eq_false h, if_neg Bool.false_ne_true, if_neg h, List.map_append] <;> rfl
end WS
set_option maxRecDepth 100000
set_option maxHeartbeats 8000000
namespace WS
open PySem L2 SetT
def spLetterAt : Sp := fun vs H Q _ => ∃ (z : Str) (p : Nat), vs = [.str z, .int (p : Nat)] ∧ z.length ≤ 1000 ∧ Q (.str (letterAt z p)) H
def spColCount (K : PySem.W.Frag) : Sp := fun vs H Q _ => ∃ (u : Addr) (ws : List Str) (tot : Str), vs = [.ref u, .str tot] ∧ H u = some (.tup (ws.map V.str)) ∧ (∀ z ∈ ws ++ [tot], z.length ≤ 1000) ∧ ws.length ≤ 1000 ∧ ∀ H', Same H H' → Q (.int (maxLen (ws ++ [tot]) : Nat)) H'
def spColOf (K : PySem.W.Frag) : Sp := fun vs H Q _ => ∃ (q : Addr) (ws : List Str) (p : Nat), vs = [.ref q, .int (p : Nat)] ∧ H q = some (.tup (ws.map V.str)) ∧ (∀ z ∈ ws, z.length ≤ 1000) ∧ ws.length ≤ 1000 ∧ ∀ D H', H D = none → Same H H' → H' D = some (.lst ((col ws p).map sg)) → Q (.ref D) H'
section
variable {P : Program} {w : World} {K : PySem.W.Frag} {mg : Str → Option Value} {base : Heap}
theorem scLetterAt : FnScope ["word", "place"] ["word", "place"] (defScope sLetterAt) := ⟨rfl, rfl, rfl, by decide +kernel, rfl, by decide +kernel, by decide +kernel⟩
theorem ok_letterat {f : Addr} {fd : FuncData} (F : Fun K "letter_at" "letter_at" sLetterAt f fd) (z_len : mg "len" = none) : FnOk P w K mg base CX0 1 f fd ["word", "place"] spLetterAt := by
  refine F.ok scLetterAt (fun vs H Q E h => ?_) (fun cdv A outer s H vs Q E hr h => ?_)
  · obtain ⟨z, p, rfl, _⟩ := h
    rfl
  · obtain ⟨z, p, rfl, hz, k⟩ := h
    refine ⟨_, (pss_one (ps_ret (pe_ifExp (pt_cmpR op_lt (pv 1) (pe_callB call_len_str (by rfl) z_len PySem.boot_len (pa_cons (pv 0) pa_nil)) (nomark _)) (pe_ix (r := rIxS) ix_str (pv 0) (pe_op op_sub (pe_un un_neg pe_int) (pv 1)) (fun _ _ => rfl)) pe_str))), ?_⟩
    refine ⟨_, rfl, _, rfl, z, rfl, line_of (by omega), _, _, rfl, rfl, _, rfl, ite2 (fun c => ?_) (fun c => ?_)⟩
    · have hp : p < z.length := by have := of_decide_eq_true c; omega
      obtain ⟨ch, hc⟩ := rev_some hp
      refine ⟨_, rfl, 1, rfl, _, rfl, _, _, rfl, rfl, z, -1 - (p : Int), ch, rfl, rfl, line_of (by omega), ?_, ?_⟩
      · rw [rev_at (show p < z.cps.toList.length by rw [Array.length_toList]; exact hp)]
        exact hc
      · rw [letterAt_some hc] at k
        exact k
    · have hp : ¬ p < z.length := fun h => c (decide_eq_true (by omega))
      rw [letterAt_none (rev_none hp)] at k
      exact k
theorem scColCount : FnScope ["addends", "total", "word"] ["addends", "total"] (defScope sColCount) := ⟨rfl, rfl, rfl, by decide +kernel, rfl, by decide +kernel, by decide +kernel⟩
theorem ok_colcount {f : Addr} {fd : FuncData} (F : Fun K "column_count" "column_count" sColCount f fd) (z_len : mg "len" = none) (z_max : mg "max" = none) : FnOk P w K mg base CX0 1 f fd ["addends", "total"] (spColCount K) := by
  refine F.ok scColCount (fun vs H Q E h => ?_) (fun cdv A outer s H vs Q E hr h => ?_)
  · obtain ⟨u, ws, tot, rfl, _⟩ := h
    rfl
  · obtain ⟨u, ws, tot, rfl, hu1, hz, hn, k⟩ := h
    have nd := scColCount.nd
    refine ⟨_, (pss_one (ps_ret (pe_callB (cr_max rfl) (by rfl) z_max (by decide +kernel) (pa_cons (pe_lc (own := [("word", 2)]) (g := (gName 2)) (tt := tYes) rfl nd (pi_tup (pe_tup (StX.pa_star (pv 0) (pa_cons (pv 1) pa_nil)))) (blkOk_by (own := [("word", 2)]) (N := ["addends", "total", "word"]) (sc := defScope sColCount) (by decide +kernel)) (fun _ _ _ _ _ => (pg_name (i := 2) nd rfl (.inl rfl))) (fun _ _ _ _ _ => pts_nil) (fun _ _ _ _ _ => (pe_callB call_len_str (by rfl) z_len PySem.boot_len (pa_cons (pv 2) pa_nil)))) pa_nil)))), ?_⟩
    refine ⟨_, rfl, u, _, rfl, .inl (SqT.of hu1), _, rfl, ?_, fun q hq => ?_⟩
    · rw [List.length_append, List.length_map]
      exact line_of (by show _ + 1 ≤ _; omega)
    refine ⟨q, rfl, ⟨_, SqT.of upd_same⟩, fun D hD => ?_⟩
    have hy : ws.map V.str ++ [V.str tot] = (ws ++ [tot]).map V.str := by rw [List.map_append] <;> rfl
    rw [hy] at hD ⊢
    refine lc_tup (K := K) (a := q) (xs := (ws ++ [tot]).map V.str) (fun j H4 => H4 = upd (upd H q (.tup ((ws ++ [tot]).map V.str))) D (.lst ((((ws ++ [tot]).take j).map fun z => (z.length : Int)).map V.int))) rfl
      (fun j H4 _ e => by rw [e]; exact SqT.of ((upd_ne (ne_of_none upd_same hD)).trans upd_same)) ?_ ?_
    · rintro j y H4 hj rfl
      obtain ⟨z, hz', rfl⟩ := strs_at' hj
      have hjl : j < (ws ++ [tot]).length := (List.getElem?_eq_some_iff.mp hz').1
      rw [List.length_append] at hjl
      have hjl' : j < ws.length + 1 := hjl
      refine ⟨rfl, _, rfl, z, rfl, line_of (by have := hz z (List.mem_of_getElem? hz'); omega), _, upd_same, ?_, ?_⟩
      · rw [List.length_map, List.length_map, List.length_take]
        exact line_lt (by omega)
      · have e : (((ws ++ [tot]).take (j + 1)).map fun z => (z.length : Int)).map V.int = (((ws ++ [tot]).take j).map fun z => (z.length : Int)).map V.int ++ [V.int (z.length : Nat)] := by
          rw [take_snoc hz', List.map_append, List.map_append] <;> rfl
        rw [upd_upd, e]
    · rintro H4 rfl
      rw [List.length_map, List.take_length]
      refine ⟨D, _, rfl, SqL.of upd_same, ?_, fun m hm hle => ?_⟩
      · rw [List.length_map, List.length_append]
        show 0 < _ + 1
        omega
      · rw [maxLen_is hm hle]
        exact k _ (Same.mut (Same.new hq) (by rw [upd_ne (Ne.symm (ne_of_none upd_same hD))] at hD; exact hD))
theorem scColOf : FnScope ["words", "place", "word"] ["words", "place"] (defScope sColOf) := ⟨rfl, rfl, rfl, by decide +kernel, rfl, by decide +kernel, by decide +kernel⟩
theorem ok_colof {f fA : Addr} {fd fdA : FuncData} (F : Fun K "column_of" "column_of" sColOf f fd) (z_len : mg "len" = none) (S_letter_at : Site K mg "letter_at" fA fdA ["word", "place"]) (G_letter_at : FnOk P w K mg base CX0 1 fA fdA ["word", "place"] spLetterAt) :
    FnOk P w K mg base CX0 2 f fd ["words", "place"] (spColOf K) := by
  refine F.ok scColOf (fun vs H Q E h => ?_) (fun cdv A outer s H vs Q E hr h => ?_)
  · obtain ⟨q, ws, p, rfl, _⟩ := h
    rfl
  · obtain ⟨q, ws, p, rfl, hq, hz, hn, k⟩ := h
    have nd := scColOf.nd
    have hr_letter_at := hr
    refine ⟨_, (pss_one (ps_ret (pe_lc (own := [("word", 2)]) (g := (gName 2))  rfl nd (pi_tup (pv 0)) (blkOk_by (own := [("word", 2)]) (N := ["words", "place", "word"]) (sc := defScope sColOf) (by decide +kernel)) (fun _ _ _ _ _ => (pg_name (i := 2) nd rfl (.inl rfl))) (fun _ _ _ _ _ => pts_one (pt_cmpR op_lt (pv 1) (pe_callB call_len_str (by rfl) z_len PySem.boot_len (pa_cons (pv 2) pa_nil)) (nomark _))) (fun _ _ _ _ _ => (pe_call G_letter_at hr_letter_at (by rfl) S_letter_at.g S_letter_at.k S_letter_at.b .nil pass0 (pa_cons (pv 2) (pa_cons (pv 1) pa_nil))))))), ?_⟩
    refine ⟨_, rfl, q, rfl, ⟨_, SqT.of hq⟩, fun D hD => ?_⟩
    refine lc_tup (K := K) (a := q) (xs := ws.map V.str) (fun j H4 => H4 = upd H D (.lst ((col (ws.take j) p).map sg))) rfl
      (fun j H4 _ e => by rw [e]; exact SqT.of ((upd_ne (ne_of_none hq hD)).trans hq)) ?_ ?_
    · rintro j y H4 hj rfl
      obtain ⟨z, hz', rfl⟩ := strs_at' hj
      have hjl : j < ws.length := (List.getElem?_eq_some_iff.mp hz').1
      have hzl := hz z (List.mem_of_getElem? hz')
      refine ⟨rfl, _, rfl, _, rfl, z, rfl, line_of (by omega), _, _, rfl, rfl, _, rfl, ite2 (fun c => ?_) (fun c => ?_)⟩
      · have hp : p < z.length := by have := of_decide_eq_true c; omega
        obtain ⟨ch, hc⟩ := rev_some hp
        refine ⟨_, rfl, _, rfl, z, p, rfl, hzl, _, upd_same, ?_, ?_⟩
        · have : (col (ws.take j) p).length ≤ ws.length := Nat.le_trans (List.length_filterMap_le _ _) (by rw [List.length_take]; omega)
          rw [List.length_map]
          exact line_lt (by omega)
        · rw [upd_upd, take_snoc hz', col_snoc_some hc, letterAt_some hc, List.map_append] <;> rfl
      · have hp : ¬ p < z.length := fun h => c (decide_eq_true (by omega))
        show upd H D _ = upd H D _
        rw [take_snoc hz', col_snoc_none (rev_none hp)]
    · rintro H4 rfl
      rw [List.length_map, List.take_length]
      exact k D _ hD (Same.new hD) upd_same
end
end WS
set_option maxRecDepth 100000
set_option maxHeartbeats 8000000
namespace WS
open PySem L2 SetT
theorem bk_ne : ¬ (("base" : Str) = "kept") := by decide +kernel
/-- a sheet's attributes, in the order in which they are stored -/
def flds (b : Int) (kl : Addr) : List (Str × V) := putF "kept" (.ref kl) (putF "base" (.int b) [])
theorem flds_kept (b : Int) (kl : Addr) : (flds b kl).lookup ("kept" : Str) = some (.ref kl) := by
  unfold flds; rw [lookup_putF, if_pos rfl]
theorem flds_base (b : Int) (kl : Addr) : (flds b kl).lookup ("base" : Str) = some (.int b) := by
  unfold flds; rw [lookup_putF, if_neg bk_ne, lookup_putF, if_pos rfl]
theorem flds_no (b : Int) (kl : Addr) {m : Str} (h1 : ¬ m = "kept") (h2 : ¬ m = "base") : (flds b kl).lookup m = none := by
  unfold flds
  rw [lookup_putF, if_neg h1, lookup_putF, if_neg h2] <;> rfl
/-- a Sheet at p: its base, its list of sums at kl -/
structure ShAt (C : Addr) (H : Hp) (p : Addr) (b : Int) (kl : Addr) (ts : List Addr) : Prop where
  ob : ∃ dx, H p = some (.ins C dx (flds b kl))
  kp : H kl = some (.lst (ts.map V.ref))
theorem ShAt.same {C : Addr} {H H' : Hp} {p : Addr} {b : Int} {kl : Addr} {ts : List Addr} (h : ShAt C H p b kl ts) (e : Same H H') : ShAt C H' p b kl ts := by
  obtain ⟨⟨dx, h1⟩, h2⟩ := h
  exact ⟨⟨dx, e _ _ h1⟩, e _ _ h2⟩
structure SheetTxt (K : PySem.W.Frag) (mg : Str → Option Value) (C : Addr) : Prop where
  cl : Cls K C
  nB : NoAttr K C "base"
  nK : NoAttr K C "kept"
  g : mg "Sheet" = some (.ref C)
def spShInit (C : Addr) : Sp := fun vs H Q _ => ∃ (p dx : Addr) (b : Int) (sl : Addr) (ts : List Addr) (ss : List WSum), vs = [.ref p, .int b, .ref sl] ∧ H p = some (.ins C dx []) ∧ H sl = some (.lst (ts.map V.ref)) ∧ SumsAt H ts ss ∧ Valid b ss ∧
  ∀ kl H', H kl = none → ShAt C H' p b kl ts → (∀ a o, a ≠ p → H a = some o → H' a = some o) → Q .non H'
def spShLetters (C : Addr) : Sp := fun vs H Q _ => ∃ (p : Addr) (b : Int) (kl : Addr) (ts : List Addr) (ss : List WSum), vs = [.ref p] ∧ ShAt C H p b kl ts ∧ SumsAt H ts ss ∧ Valid b ss ∧
  ∀ q H', H q = none → Same H H' → H' q = some (.lst ((lettersOf ss).map sg)) → Q (.ref q) H'
section
variable {P : Program} {w : World} {K : PySem.W.Frag} {mg : Str → Option Value} {base : Heap}
theorem scShInit : FnScope ["self", "base", "sums"] ["self", "base", "sums"] (defScope sShInit) := ⟨rfl, rfl, rfl, by decide +kernel, rfl, by decide +kernel, by decide +kernel⟩
theorem ok_shinit {f C fA fB : Addr} {fd fdA fdB : FuncData} (F : Fun K "__init__" "Sheet.__init__" sShInit f fd) (T : SheetTxt K mg C) (z_list : mg "list" = none)
    (S_check_counts : Site K mg "check_counts" fA fdA ["base", "sums"]) (G_check_counts : FnOk P w K mg base CX0 1 fA fdA ["base", "sums"] spCounts)
    (S_check_sums : Site K mg "check_sums" fB fdB ["base", "sums"]) (G_check_sums : FnOk P w K mg base CX0 2 fB fdB ["base", "sums"] spCheck) :
    FnOk P w K mg base CX0 3 f fd ["self", "base", "sums"] (spShInit C) := by
  refine F.ok scShInit (fun vs H Q E h => ?_) (fun cdv A outer s H vs Q E hr h => ?_)
  · obtain ⟨p, dx, b, sl, ts, ss, rfl, _⟩ := h
    rfl
  · obtain ⟨p, dx, b, sl, ts, ss, rfl, hp, hsl, hsa, V', k⟩ := h
    have nd := scShInit.nd
    have hr_check_counts : Room 1 _ := hr.mono (by decide)
    have hr_check_sums := hr
    refine ⟨_, (pss_cons (ps_expr (pe_call G_check_counts hr_check_counts (by rfl) S_check_counts.g S_check_counts.k S_check_counts.b .nil pass0 (pa_cons (pv 1) (pa_cons (pv 2) pa_nil))))
      (pss_cons (ps_expr (pe_call G_check_sums hr_check_sums (by rfl) S_check_sums.g S_check_sums.k S_check_sums.b .nil pass0 (pa_cons (pv 1) (pa_cons (pv 2) pa_nil))))
      (pss_cons (ps_fld (pv 0) (pv 1) rfl)
      (pss_one (ps_fld (pv 0) (pe_callTy call_list_of (by rfl) z_list (by decide +kernel) (pa_cons (pv 2) pa_nil)) rfl))))), ?_⟩
    have hl := hsa.len
    have hf := V'.few
    refine ⟨_, rfl, _, rfl, b, sl, _, rfl, hsl, V'.b2, V'.b12, by rw [List.length_map]; omega, by rw [List.length_map]; omega, ?_⟩
    refine ⟨_, rfl, _, rfl, b, sl, ts, ss, rfl, hsl, hsa, V', fun H1 s1 => ?_⟩
    have hp1 := s1 _ _ hp
    have hsl1 := s1 _ _ hsl
    have hpsl : sl ≠ p := ne_of hsl1 hp1 (fun z => by cases z)
    refine ⟨_, rfl, _, rfl, p, C, dx, [], rfl, hp1, T.cl, T.nB, (by show 0 < 1000; decide), ?_⟩
    refine ⟨_, rfl, sl, _, rfl, .inl (SqL.of ((upd_ne hpsl).trans hsl1)), fun kl hkl => ?_⟩
    have hpk : p ≠ kl := fun e => by
      rw [← e, upd_same] at hkl
      cases hkl
    have hkl1 : H1 kl = none := by rw [upd_ne (Ne.symm hpk)] at hkl; exact hkl
    refine ⟨_, rfl, p, C, dx, _, rfl, (upd_ne hpk).trans upd_same, T.cl, T.nK, (by show 1 < 1000; decide), ?_⟩
    refine k kl _ (Same.free s1 hkl1) ⟨⟨dx, upd_same⟩, (upd_ne (Ne.symm hpk)).trans upd_same⟩ fun a o ha hao => ?_
    rw [upd_ne ha, upd_ne (ne_of_none (s1 _ _ hao) hkl1), upd_ne ha]
    exact s1 _ _ hao
theorem scShLetters : FnScope ["self", "met", "addends", "total", "place", "letter"] ["self"] (defScope sShLetters) := ⟨rfl, rfl, rfl, by decide +kernel, rfl, by decide +kernel, by decide +kernel⟩
theorem ok_shletters {f C fA fB : Addr} {fd fdA fdB : FuncData} (F : Fun K "letters" "Sheet.letters" sShLetters f fd) (T : SheetTxt K mg C) (z_list : mg "list" = none) (z_range : mg "range" = none)
    (S_column_count : Site K mg "column_count" fA fdA ["addends", "total"]) (G_column_count : FnOk P w K mg base CX0 1 fA fdA ["addends", "total"] (spColCount K))
    (S_column_of : Site K mg "column_of" fB fdB ["words", "place"]) (G_column_of : FnOk P w K mg base CX0 2 fB fdB ["words", "place"] (spColOf K)) :
    FnOk P w K mg base CX0 3 f fd ["self"] (spShLetters C) := by
  refine F.ok scShLetters (fun vs H Q E h => ?_) (fun cdv A outer s H vs Q E hr h => ?_)
  · obtain ⟨p, b, kl, ts, ss, rfl, _⟩ := h
    rfl
  · obtain ⟨p, b, kl, ts, ss, rfl, A', hsa, V', k⟩ := h
    have nd := scShLetters.nd
    have hu := hu_of hr
    have hr_column_count : Room 1 _ := hr.mono (by decide)
    have hr_column_of := hr
    obtain ⟨⟨dx, hp⟩, hkl⟩ := id A'
    refine ⟨_, (pss_cons (ps_set (i := 1) nd rfl (.inl rfl) pe_dnewK)
      (pss_cons (ps_for PassesOwn.never rfl (pi_list (pe_fld (pv 0) rfl)) (pg_tup rfl (pgs_cons (pg_name (i := 2) nd rfl (.inl rfl)) (pgs_cons (pg_name (i := 3) nd rfl (.inl rfl)) pgs_nil))) (pss_one (ps_for PassesOwn.never rfl (pi_range1 (by rfl) z_range (pa_cons (pe_call G_column_count hr_column_count (by rfl) S_column_count.g S_column_count.k S_column_count.b .nil pass0 (pa_cons (pv 2) (pa_cons (pv 3) pa_nil))) pa_nil)) (pg_name (i := 4) nd rfl (.inl rfl)) (pss_one (ps_for PassesOwn.never rfl (pi_list (pe_call G_column_of hr_column_of (by rfl) S_column_of.g S_column_of.k S_column_of.b .nil pass0 (pa_cons (pe_tup (StX.pa_star (pv 2) (pa_cons (pv 3) pa_nil))) (pa_cons (pv 4) pa_nil)))) (pg_name (i := 5) nd rfl (.inl rfl)) (pss_one (ps_dput hu (pv 1) (pv 5) pe_bl rfl)))))))
      (pss_one (ps_ret (pe_callTy (call_list_dK rfl) (by rfl) z_list (by decide +kernel) (pa_cons (pv 1) pa_nil)))))), ?_⟩
    refine fun m hm => ?_
    have hkm : kl ≠ m := ne_of_none hkl hm
    refine ⟨_, rfl, p, C, dx, _, _, rfl, (upd_ne (ne_of_none hp hm)).trans hp, T.cl, T.nK, flds_kept _ _, kl, rfl, ⟨_, SqL.of ((upd_ne hkm).trans hkl)⟩,
      for_list (K := K) (a := kl) (xs := ts.map V.ref) (fun i σ H2 => ∃ v2 v3 v4 v5, σ = [some (.ref p), some (.ref m), v2, v3, v4, v5] ∧ Same H H2 ∧ H2 m = some (.dK ((dd (rawOf (ss.take i))).map kvOf)))
      ⟨none, none, none, none, rfl, Same.new hm, upd_same⟩ (fun i σ H2 _ ⟨_, _, _, _, _, s2, _⟩ => SqL.of (s2 _ _ hkl)) ?_ ?_⟩
    · rintro i x σ H2 hi ⟨v2, v3, v4, v5, rfl, s2, hm2⟩
      obtain ⟨t, ht, rfl⟩ := refs_at hi
      have hil : i < ts.length := (List.getElem?_eq_some_iff.mp ht).1
      have hiss : i < ss.length := hsa.len ▸ hil
      have hs : ss[i]? = some ss[i] := List.getElem?_eq_getElem hiss
      generalize hsg : ss[i] = sm at hs
      have hsm : sm ∈ ss := List.mem_of_getElem? hs
      obtain ⟨u, ht1, hu1⟩ := (hsa.get i t sm ht hs).same s2
      have hw := words_of V' hsm
      have hwl : ∀ z ∈ sm.1 ++ [sm.2], z.length ≤ 6 := fun z hz => (isWord_iff.mp (hw z hz)).1.2
      obtain ⟨m1, m4⟩ := V'.many sm hsm
      have hml := maxLen_bound hwl
      refine ⟨t, _, rfl, SqT.of ht1, rfl, _, _, rfl, _, _, rfl, rfl, ?_⟩
      refine ⟨_, rfl, _, rfl, u, sm.1, sm.2, rfl, hu1, fun z hz => by have := hwl z hz; omega, by omega, fun H3 s3 => ?_⟩
      have s03 := s2.trans s3
      refine ⟨_, rfl, by omega, by omega, for_range (lo := 0) (n := ((maxLen (sm.1 ++ [sm.2]) : Nat) : Int).toNat) (fun j σ H4 => ∃ v4 v5, σ = [some (.ref p), some (.ref m), some (.ref u), some (.str sm.2), v4, v5] ∧ Same H H4 ∧
          H4 m = some (.dK ((dd (rawOf (ss.take i) ++ ((List.range j).map (col (sm.1 ++ [sm.2]))).flatten)).map kvOf)))
        ⟨v4, v5, rfl, s03, ?_⟩ ?_ ?_⟩
      · rw [s3 _ _ hm2]; simp
      · rintro j σ H4 hj ⟨v4', v5', rfl, s4, hm4⟩
        obtain ⟨u', ht4, hu4⟩ := (hsa.get i t sm ht hs).same s4
        have hu4 : H4 u = some (.tup (sm.1.map V.str)) := by
          have h1 := s4 t _ ((hsa.get i t sm ht hs).choose_spec.1)
          rw [ht4] at h1
          have h2 := (HO.tup.inj (Option.some.inj h1))
          have h3 := s2 t _ ((hsa.get i t sm ht hs).choose_spec.1)
          rw [ht1] at h3
          have h4 := (HO.tup.inj (Option.some.inj h3))
          rw [← h4] at h2
          injection h2 with h2 _
          injection h2 with h2
          rw [← h2]; exact hu4
        refine ⟨_, rfl, u, _, rfl, .inl (SqT.of hu4), _, rfl, ?_, fun q hq => ?_⟩
        · rw [List.length_append, List.length_map]
          exact line_of (by show _ + 1 ≤ _; omega)
        have hy : sm.1.map V.str ++ [V.str sm.2] = (sm.1 ++ [sm.2]).map V.str := by rw [List.map_append] <;> rfl
        rw [hy]
        refine ⟨_, rfl, q, sm.1 ++ [sm.2], j, (by rw [Int.zero_add] <;> rfl), upd_same, fun z hz => by have := hwl z hz; omega, by rw [List.length_append]; show _ + 1 ≤ _; omega, fun D H5 hD s5 hD5 => ?_⟩
        have s45 : Same H4 H5 := (Same.new hq).trans s5
        have hm5 := s45 _ _ hm4
        have hmD : m ≠ D := ne_of hm5 hD5 (fun z => by cases z)
        have rabc := rawOf_abc V' i
        have cabc : Abc ((List.range j).map (col (sm.1 ++ [sm.2]))).flatten := flat_abc fun p _ => col_abc hw
        refine ⟨D, rfl, ⟨_, SqL.of hD5⟩, for_list (K := K) (a := D) (xs := (col (sm.1 ++ [sm.2]) j).map sg) (fun n σ H6 => ∃ v5, σ = [some (.ref p), some (.ref m), some (.ref u), some (.str sm.2), some (.int (0 + (j : Int))), v5] ∧ Same H H6 ∧ H6 D = some (.lst ((col (sm.1 ++ [sm.2]) j).map sg)) ∧
            H6 m = some (.dK ((dd (rawOf (ss.take i) ++ ((List.range j).map (col (sm.1 ++ [sm.2]))).flatten ++ (col (sm.1 ++ [sm.2]) j).take n)).map kvOf)))
          ⟨_, rfl, s4.trans s45, hD5, by rw [hm5]; simp⟩ (fun n σ H6 _ ⟨_, _, _, h, _⟩ => SqL.of h) ?_ ?_⟩
        · rintro n y σ H6 hn ⟨v5'', rfl, s6, hD6, hm6⟩
          obtain ⟨c, hc, rfl⟩ : ∃ c, (col (sm.1 ++ [sm.2]) j)[n]? = some c ∧ y = sg c := by
            rw [List.getElem?_map] at hn
            cases e : (col (sm.1 ++ [sm.2]) j)[n]? with
            | none => rw [e] at hn; cases hn
            | some c => rw [e] at hn; exact ⟨c, rfl, (Option.some.inj hn).symm⟩
          refine ⟨_, rfl, _, rfl, m, _, rfl, DPut.k (k := Sum.inr ⟨#[c]⟩) hm6 ?_, ?_⟩
          · rw [List.length_map]
            have := ((rabc.append cabc).append ((col_abc hw (p := j)).take n)).len
            exact small1000 (by omega)
          · refine ⟨_, rfl, Same.mut s6 hm, (upd_ne (Ne.symm hmD)).trans hD6, ?_⟩
            · rw [upd_same, put_kv, ← dd_snoc, List.append_assoc, List.append_assoc, List.append_assoc, ← take_snoc hc]
        · rintro σ H6 ⟨v5'', rfl, s6, hD6, hm6⟩
          refine ⟨_, _, rfl, s6, ?_⟩
          rw [hm6, List.length_map, List.take_length, range_flat, List.append_assoc]
      · rintro σ H4 ⟨v4', v5', rfl, s4, hm4⟩
        refine ⟨_, _, _, _, rfl, s4, ?_⟩
        rw [hm4, rawOf_take hs]
        rfl
    · rintro σ H2 ⟨v2, v3, v4, v5, rfl, s2, hm2⟩
      rw [List.length_map, hsa.len, List.take_length] at hm2
      refine ⟨_, rfl, m, _, rfl, hm2, fun q hq => ?_⟩
      refine k q _ (Same.free s2 hq) (s2.trans (Same.new hq)) ?_
      rw [upd_same, List.map_map] <;> rfl
end
end WS
set_option maxRecDepth 100000
set_option maxHeartbeats 8000000
namespace WS
open PySem L2 SetT RevS
theorem inV_sg (c : Nat) (L : List Nat) : inV (sg c) (L.map sg) = decide (c ∈ L) := by
  unfold inV
  induction L with
  | nil => simp
  | cons d r ih =>
    rw [List.map_cons, List.any_cons, ih]
    by_cases e : c = d
    · subst e; simp [eqV, sg]
    · have h1 : eqV (sg d) (sg c) = false := by
        show ((⟨#[d]⟩ : Str) == ⟨#[c]⟩) = false
        simpa [beq_iff_eq] using fun h => e (kv_inj h).symm
      rw [h1]
      simp [e]
theorem flat_sg (L : List Nat) : (L.map sg).all flatV = true := by
  rw [List.all_map, List.all_eq_true]
  intro c _
  rfl
theorem cut_letter (z : Str) (p : Nat) : cutS (revT z) (some (0 + (p : Int))) (some (0 + (p : Int) + 1)) = letterAt z p := by
  unfold cutS letterAt
  have er : (revT z).cps.toList = z.cps.toList.reverse := by unfold revT; simp
  have e0 : (0 + (p : Int)) = ((p : Nat) : Int) := Int.zero_add _
  have e1 : (0 + (p : Int) + 1) = ((p + 1 : Nat) : Int) := by omega
  rw [e1, e0, HT.sIx_nat, HT.sIx_nat, er]
  have hl : (revT z).length = z.cps.toList.reverse.length := by rw [← er] <;> exact Array.length_toList.symm
  rw [hl]
  generalize z.cps.toList.reverse = l
  rcases h : l[p]? with _ | c
  · have : l.length ≤ p := List.getElem?_eq_none_iff.mp h
    have e : min (p + 1) l.length - min p l.length = 0 := by omega
    rw [e]
    rfl
  · have hp : p < l.length := (List.getElem?_eq_some_iff.mp h).1
    have e2 : min (p + 1) l.length - min p l.length = 1 := by omega
    have e3 : min p l.length = p := by omega
    rw [e2, e3]
    have e4 : (l.drop p).take 1 = [c] := by
      rw [List.drop_eq_getElem_cons hp]
      have : l[p] = c := by
        rw [List.getElem?_eq_getElem hp] at h
        exact Option.some.inj h
      rw [this] <;> rfl
    rw [e4]
end WS
set_option maxRecDepth 100000
set_option maxHeartbeats 8000000
namespace WS
open PySem L2 SetT RevS
/-- what the signs cs are worth, the first one's figure the highest -/
def worthOf (b : Int) (fg : Nat → Int) (cs : List Nat) : Int := cs.foldl (fun a c => a * b + fg c) 0
theorem worthOf_snoc (b : Int) (fg : Nat → Int) (cs : List Nat) (c : Nat) : worthOf b fg (cs ++ [c]) = worthOf b fg cs * b + fg c := by
  unfold worthOf; rw [List.foldl_append] <;> rfl
/-- the same from the end: what is found, and the scale -/
def backOf (b : Int) (fg : Nat → Int) : List Nat → Int
  | [] => 0
  | c :: r => fg c + b * backOf b fg r
theorem back_worth (b : Int) (fg : Nat → Int) (cs : List Nat) : backOf b fg cs.reverse = worthOf b fg cs := by
  have : ∀ (r : List Nat), worthOf b fg r.reverse = backOf b fg r := by
    intro r
    induction r with
    | nil => rfl
    | cons c r ih =>
      rw [List.reverse_cons, worthOf_snoc, ih]
      show _ = fg c + b * backOf b fg r
      rw [Int.mul_comm b]; omega
  rw [← this, List.reverse_reverse]
def powI (b : Int) : Nat → Int
  | 0 => 1
  | n + 1 => powI b n * b
theorem back_snoc (b : Int) (fg : Nat → Int) : ∀ (r : List Nat) (c : Nat), backOf b fg (r ++ [c]) = backOf b fg r + powI b r.length * fg c
  | [], c => by simp [backOf, powI]
  | d :: r, c => by
    show fg d + b * backOf b fg (r ++ [c]) = fg d + b * backOf b fg r + powI b r.length * b * fg c
    rw [back_snoc b fg r c, Int.mul_add, ← Int.add_assoc]
    congr 1
    rw [Int.mul_comm (powI b r.length) b, Int.mul_assoc]
def HasFigs (kvs : List (Key × V)) (fg : Nat → Int) (cs : List Nat) : Prop := ∀ c ∈ cs, valV kvs (Sum.inr ⟨#[c]⟩ : Key) = some (.int (fg c))
end WS
set_option maxRecDepth 100000
set_option maxHeartbeats 4000000
namespace WS
open PySem L2 SetT RevS
/-- a dict of figures: letters and what they stand for -/
def kvsOf (L : List Nat) (vs : List Int) : List (Key × V) := (L.zip vs).map fun p => ((Sum.inr ⟨#[p.1]⟩ : Key), V.int p.2)
theorem kvsOf_none : ∀ {L : List Nat} {vs : List Int} {c : Nat}, c ∉ L → valV (kvsOf L vs) (Sum.inr ⟨#[c]⟩ : Key) = none
  | [], _, _, _ => rfl
  | d :: L, [], _, _ => rfl
  | d :: L, v :: vs, c, h => by
    show valV (((Sum.inr ⟨#[d]⟩ : Key), V.int v) :: kvsOf L vs) _ = none
    rw [valV_neg (fun e => h (by rw [kv_inj (Sum.inr.inj e)]; exact List.mem_cons_self))]
    exact kvsOf_none fun hc => h (List.mem_cons_of_mem _ hc)
theorem kvsOf_some : ∀ {L : List Nat} {vs : List Int} {c : Nat}, c ∈ L → L.length ≤ vs.length → ∃ v ∈ vs, valV (kvsOf L vs) (Sum.inr ⟨#[c]⟩ : Key) = some (.int v)
  | [], _, _, h, _ => nomatch h
  | d :: L, [], _, _, hl => by simp at hl
  | d :: L, v :: vs, c, h, hl => by
    by_cases e : d = c
    · subst e
      exact ⟨v, List.mem_cons_self, valV_pos rfl⟩
    · have hc : c ∈ L := by
        rcases List.mem_cons.mp h with h | h
        · exact absurd h.symm e
        · exact h
      obtain ⟨y, hy, ey⟩ := kvsOf_some (vs := vs) hc (by simpa using hl)
      refine ⟨y, List.mem_cons_of_mem _ hy, ?_⟩
      show valV (((Sum.inr ⟨#[d]⟩ : Key), V.int v) :: kvsOf L vs) _ = _
      rw [valV_neg (fun e' => e (kv_inj (Sum.inr.inj e')))]
      exact ey
theorem kvsOf_snoc {L : List Nat} {vs : List Int} {c : Nat} {v : Int} (hl : L.length = vs.length) : kvsOf (L ++ [c]) (vs ++ [v]) = kvsOf L vs ++ [((Sum.inr ⟨#[c]⟩ : Key), V.int v)] := by
  unfold kvsOf
  rw [List.zip_append hl, List.map_append] <;> rfl
theorem kvsOf_put {L : List Nat} {vs : List Int} {c : Nat} {v : Int} (hl : L.length = vs.length) (hc : c ∉ L) : putK (kvsOf L vs) (Sum.inr ⟨#[c]⟩ : Key) (.int v) = kvsOf (L ++ [c]) (vs ++ [v]) := by
  rw [putK_new _ (kvsOf_none hc), kvsOf_snoc hl]
theorem kvsOf_len (L : List Nat) (vs : List Int) : (kvsOf L vs).length ≤ L.length := by
  unfold kvsOf; rw [List.length_map, List.length_zip]; exact Nat.min_le_left _ _
def fgOf (L : List Nat) (vs : List Int) (c : Nat) : Int := match valV (kvsOf L vs) (Sum.inr ⟨#[c]⟩ : Key) with | some (.int v) => v | _ => 0
theorem fgOf_some {L : List Nat} {vs : List Int} {c : Nat} (h : c ∈ L) (hl : L.length ≤ vs.length) : valV (kvsOf L vs) (Sum.inr ⟨#[c]⟩ : Key) = some (.int (fgOf L vs c)) ∧ fgOf L vs c ∈ vs := by
  obtain ⟨v, hv, e⟩ := kvsOf_some h hl
  have e2 : fgOf L vs c = v := by unfold fgOf; rw [e]
  rw [e2]; exact ⟨e, hv⟩
theorem mem_letters {ss : List WSum} {s : WSum} {z : Str} {c : Nat} (hs : s ∈ ss) (hz : z ∈ s.1 ++ [s.2]) (hc : c ∈ z.cps.toList) : c ∈ lettersOf ss := by
  unfold lettersOf
  refine dd_mem.mpr (List.mem_flatten.mpr ⟨rawSum (s.1 ++ [s.2]), List.mem_map.mpr ⟨s, hs, rfl⟩, ?_⟩)
  obtain ⟨p, hp⟩ := List.mem_iff_getElem?.mp (List.mem_reverse.mpr hc)
  have hpl : p < z.cps.toList.reverse.length := (List.getElem?_eq_some_iff.mp hp).1
  rw [List.length_reverse, Array.length_toList] at hpl
  have := maxLen_le hz
  have hpl' : p < z.length := hpl
  exact List.mem_flatten.mpr ⟨col (s.1 ++ [s.2]) p, List.mem_map.mpr ⟨p, List.mem_range.mpr (by omega), rfl⟩, List.mem_filterMap.mpr ⟨z, hz, hp⟩⟩
theorem lettersOf_abc {b : Int} {ss : List WSum} (V : Valid b ss) : Abc (rawOf ss) := by
  have := rawOf_abc V ss.length
  rwa [List.take_length] at this
end WS
set_option maxRecDepth 100000
set_option maxHeartbeats 4000000
namespace SetT
open PySem PySem.Spec PyProof.Rows L2
/-- how many unlike ones a list of ints has -/
def distI (ns : List Int) : Nat := (firstMet (fun i => ns.getD i 0) ns.length).length
theorem distI_le (ns : List Int) : distI ns ≤ ns.length := firstMet_length_le _ _
def tLenSetN (K : PySem.W.Frag) (ta : TE) : TE := fun σ H Q => ta σ H fun x H1 => ∃ (l : Addr) (ns : List Int), x = .ref l ∧ SqL K H1 l (ns.map V.int) ∧ ns.length ≤ 4000 ∧ Q (.int (distI ns : Nat)) H1
theorem pe_lenSetN {X : Cx} {a : Expr} {ta : TE} {p p2 q pos : Pos} (hg : Gl X "len") (hm : X.mg "len" = none) (hg2 : Gl X "set") (hm2 : X.mg "set" = none) (ha : PE X a ta) (hc : X.calm = true := by rfl)
    (na : starEach [a] X.env = (false, eval a X.env) :: starEach [] X.env := by rfl) : PE X (.Call (.Name "len" p) [.Call (.Name "set" p2) [a] [] q] [] pos) (tLenSetN X.K ta) := by
  refine ⟨fun pins s σ H Q I h => Call_ (ld_blt I hg hm boot_len ?_)⟩
  refine PyProof.Rows.callWith_builtin1 (PyProof.Rows.args_cons ?_ rfl) rfl rfl
  refine Call_ (ld_blt I hg2 hm2 boot_set (PyProof.Rows.callWith_type1 (PyProof.Rows.args_cons (thn (ha.run pins s σ H _ I h) fun v s1 ⟨x, H1, I1, r1, q1⟩ => PyProof.Rows.args_nil ?_) na) na rfl))
  obtain ⟨l, ns, rfl, hq, hl, q1⟩ := q1
  cases r1
  obtain ⟨its, r, pl, hz⟩ := I1.list hq
  have hsz : its.toArray.size = ns.length := by
    have := r.length
    rw [List.length_map] at this
    rw [List.size_toArray]; omega
  refine call_set_list (ns := ns) (I1.ok.hd hc) pl.isList (by simpa using RZ.intsAre_vals r) (by rw [hsz]; unfold scanBound; omega) fun h' tk hS hk => PyProof.Rows.args_nil ?_
  rw [hsz] at hS
  obtain ⟨o, es, ep, t, ho, hex, hd, _, _, _, hf, hn⟩ := hS
  have hle := distI_le ns
  have hn' : es.size = distI ns := hn
  have I2 : L2.Inv X pins σ H1 { s1 with heap := h', toks := tk } := I1.kept fun b o e => hk b o (Heap.lt_size e) e
  exact call_len_set ho hex hd hf (by omega) ⟨.int (distI ns : Nat), H1, I2.tok _, ⟨_, by rw [hn']⟩, q1⟩
end SetT
set_option maxRecDepth 100000
set_option maxHeartbeats 4000000
namespace WS
open PySem L2 SetT RevS
def firstsW (ws : List Str) : List Nat := ws.filterMap fun z => if 1 < z.length then z.cps.toList.head? else none
def firstsOf (ss : List WSum) : List Nat := (ss.map fun s => firstsW (s.1 ++ [s.2])).flatten
def sumHolds (b : Int) (fg : Nat → Int) (s : WSum) : Bool := decide ((s.1.map fun z => worthOf b fg z.cps.toList).sum = worthOf b fg s.2.cps.toList)
def badFigs (b : Int) (ns : List Int) : Bool := decide (distI ns < ns.length) || ns.any (fun x => decide (x < 0)) || ns.any (fun x => decide (b ≤ x))
def noNought (fg : Nat → Int) (cs : List Nat) : Bool := !(cs.any fun c => decide (fg c = 0))
/-- whether figures are an answer -/
def keepsB (b : Int) (ss : List WSum) (L : List Nat) (fg : Nat → Int) : Bool := !(badFigs b (L.map fg)) && noNought fg (firstsOf ss) && ss.all (sumHolds b fg)
theorem noNought_append (fg : Nat → Int) (a b : List Nat) : noNought fg (a ++ b) = (noNought fg a && noNought fg b) := by
  unfold noNought; rw [List.any_append, Bool.not_or]
theorem keeps_sums (b : Int) (fg : Nat → Int) (ss : List WSum) : (noNought fg (firstsOf ss) && ss.all (sumHolds b fg)) = ss.all fun s => noNought fg (firstsW (s.1 ++ [s.2])) && sumHolds b fg s := by
  induction ss with
  | nil => rfl
  | cons s r ih =>
    have e : firstsOf (s :: r) = firstsW (s.1 ++ [s.2]) ++ firstsOf r := rfl
    rw [e, noNought_append, List.all_cons, List.all_cons, ← ih]
    cases noNought fg (firstsW (s.1 ++ [s.2])) <;> cases noNought fg (firstsOf r) <;> cases sumHolds b fg s <;> cases r.all (sumHolds b fg) <;> rfl
theorem min_neg {ns : List Int} {m : Int} (h : m ∈ ns) (hle : ∀ y ∈ ns, m ≤ y) : decide (m < 0) = ns.any fun x => decide (x < 0) := by
  rw [Bool.eq_iff_iff, List.any_eq_true, decide_eq_true_iff]
  constructor
  · intro h'; exact ⟨m, h, decide_eq_true h'⟩
  · rintro ⟨y, hy, e⟩
    have := hle y hy
    have := of_decide_eq_true e
    omega
theorem max_big {ns : List Int} {m b : Int} (h : m ∈ ns) (hle : ∀ y ∈ ns, y ≤ m) : decide (b ≤ m) = ns.any fun x => decide (b ≤ x) := by
  rw [Bool.eq_iff_iff, List.any_eq_true, decide_eq_true_iff]
  constructor
  · intro h'; exact ⟨m, h, decide_eq_true h'⟩
  · rintro ⟨y, hy, e⟩
    have := hle y hy
    have := of_decide_eq_true e
    omega
theorem firsts_snoc_long {ws : List Str} {z : Str} {c : Nat} (h : 1 < z.length) (hc : z.cps.toList.head? = some c) : firstsW (ws ++ [z]) = firstsW ws ++ [c] := by
  unfold firstsW; rw [List.filterMap_append]; simp [h, hc]
theorem firsts_snoc_short {ws : List Str} {z : Str} (h : ¬ 1 < z.length) : firstsW (ws ++ [z]) = firstsW ws := by
  unfold firstsW; rw [List.filterMap_append]; simp [h]
theorem head_of {z : Str} (h : 1 ≤ z.length) : ∃ c, z.cps.toList.head? = some c ∧ z.cps.toList[0]? = some c ∧ c ∈ z.cps.toList := by
  have e : z.cps.toList.length = z.length := Array.length_toList
  rcases hz : z.cps.toList with _ | ⟨c, r⟩
  · rw [hz] at e; simp at e; omega
  · exact ⟨c, rfl, rfl, List.mem_cons_self⟩
theorem firstsOf_take {ss : List WSum} {i : Nat} {s : WSum} (h : ss[i]? = some s) : firstsOf (ss.take (i + 1)) = firstsOf (ss.take i) ++ firstsW (s.1 ++ [s.2]) := by
  unfold firstsOf
  rw [List.take_add_one, h, List.map_append, List.flatten_append]
  simp
theorem firstsW_len (ws : List Str) : (firstsW ws).length ≤ ws.length := List.length_filterMap_le _ _
theorem firstsOf_len {ss : List WSum} (h : ∀ s ∈ ss, s.1.length ≤ 4) : (firstsOf ss).length ≤ 5 * ss.length := by
  induction ss with
  | nil => exact Nat.le_refl _
  | cons s r ih =>
    have h1 := ih fun x hx => h x (List.mem_cons_of_mem _ hx)
    have h2 := h s List.mem_cons_self
    have e : firstsOf (s :: r) = firstsW (s.1 ++ [s.2]) ++ firstsOf r := rfl
    have h3 := firstsW_len (s.1 ++ [s.2])
    rw [List.length_append] at h3
    have h3' : (firstsW (s.1 ++ [s.2])).length ≤ s.1.length + 1 := h3
    rw [e, List.length_append, List.length_cons]
    omega
theorem firsts_in {ss : List WSum} {c : Nat} (h : c ∈ firstsOf ss) : c ∈ lettersOf ss := by
  obtain ⟨l, hl, hc⟩ := List.mem_flatten.mp h
  obtain ⟨s, hs, rfl⟩ := List.mem_map.mp hl
  obtain ⟨z, hz, e⟩ := List.mem_filterMap.mp hc
  split at e
  · exact mem_letters hs hz (List.mem_of_mem_head? (Option.mem_def.mpr e))
  · cases e
theorem letters_ne {b : Int} {ss : List WSum} (V : Valid b ss) : 1 ≤ (lettersOf ss).length := by
  have hf := V.few.1
  rcases ss with _ | ⟨s, r⟩
  · simp at hf
  · have hw : isWord s.2 = true := V.words s.2 (mem_wordsOf List.mem_cons_self (.inr rfl))
    obtain ⟨c, _, _, hc⟩ := head_of (isWord_iff.mp hw).1.1
    exact List.length_pos_of_mem (mem_letters (ss := s :: r) List.mem_cons_self (List.mem_append_right _ List.mem_cons_self) hc)
end WS
set_option maxRecDepth 100000
set_option maxHeartbeats 8000000
namespace WS
open PySem L2 SetT RevS
def spShSums (C : Addr) : Sp := fun vs H Q _ => ∃ (p : Addr) (b : Int) (kl : Addr) (ts : List Addr), vs = [.ref p] ∧ ShAt C H p b kl ts ∧ ts.length ≤ 1000 ∧ ∀ q H', H q = none → Same H H' → H' q = some (.lst (ts.map V.ref)) → Q (.ref q) H'
section
variable {P : Program} {w : World} {K : PySem.W.Frag} {mg : Str → Option Value} {base : Heap}
theorem scShSums : FnScope ["self"] ["self"] (defScope sShSums) := ⟨rfl, rfl, rfl, by decide +kernel, rfl, by decide +kernel, by decide +kernel⟩
theorem ok_shsums {f C : Addr} {fd : FuncData} (F : Fun K "sums" "Sheet.sums" sShSums f fd) (T : SheetTxt K mg C) (z_list : mg "list" = none) : FnOk P w K mg base CX0 1 f fd ["self"] (spShSums C) := by
  refine F.ok scShSums (fun vs H Q E h => ?_) (fun cdv A outer s H vs Q E hr h => ?_)
  · obtain ⟨p, b, kl, ts, rfl, _⟩ := h
    rfl
  · obtain ⟨p, b, kl, ts, rfl, A', hn, k⟩ := h
    obtain ⟨⟨dx, hp⟩, hkl⟩ := id A'
    refine ⟨_, (pss_one (ps_ret (pe_callTy call_list_of (by rfl) z_list (by decide +kernel) (pa_cons (pe_fld (pv 0) rfl) pa_nil)))), ?_⟩
    exact ⟨_, rfl, p, C, dx, _, _, rfl, hp, T.cl, T.nK, flds_kept _ _, kl, _, rfl, .inl (SqL.of hkl), fun q hq => k q _ hq (Same.new hq) upd_same⟩
end
end WS
set_option maxRecDepth 100000
set_option maxHeartbeats 4000000
/-! a list's comprehension in a def that is called while an exception is handled -/
namespace HotL
open PySem PySem.Spec PyProof.Rows L2 HotX L2H
section
variable {prog : Program} {w : World} {A : Around} {E : Value → Shared → Prop} {s : Shared}
theorem end_hot {it l x1 : Addr} {i : Nat} {items : Array Value} {Q : Option Value → Shared → Prop} (hot : HotAt A x1 s.heap) (hne : x1 ≠ it) (hit : s.heap.IsListIter it l i) (hl : s.heap.IsList l items) (hx : items[i]? = none)
    (hQ : ∀ h', Heap.ExtBut it s.heap h' → Q none { s with heap := h' }) : wpAny (model prog w) A (pyNext (.ref it)) Q E s := by
  obtain ⟨hh, o1, vs1, h1, d1, c1⟩ := hot
  have hT := hit.typeIs
  obtain ⟨o, ho, hc, hd⟩ := id hit
  obtain ⟨ol, hol, _, nl, hdl⟩ := hl
  unfold pyNext
  apply wpAny_bind
  apply wpAny_attempt
  refine wpAny_callSpecial?_slot (name := Str.ofString "__next__") hT slot_listiter_next (wpAny_call_entry slot_listiter_next hT entry_listiter_next ?_ (args_listiter_next _))
  show wpAny _ _ (field (.ref it) 0 >>= _) _ _ s
  apply wpAny_bind
  apply wpAny_field ho hd (x := .ref l) rfl
  show wpAny _ _ (if (Value.ref l == Value.none) = true then _ else _) _ _ s
  rw [if_neg (show ¬ ((Value.ref l == Value.none) = true) from Bool.false_ne_true)]
  show wpAny _ _ (field (.ref it) 1 >>= _) _ _ s
  apply wpAny_bind
  apply wpAny_field ho hd (x := .int i 0) rfl
  show wpAny _ _ (seqItems? (.ref l) >>= _) _ _ s
  apply wpAny_bind
  apply wpAny_seqItems hol hdl
  simp only [Int.toNat_natCast, hx]
  apply wpAny_bind
  apply wpAny_rule
  apply wpAny_bind
  refine wpAny_setField ho hd (by simp) ?_
  show wpAny _ _ (newExc (.type "StopIteration") [] >>= _) _ _ _
  apply wpAny_bind
  simp only [newExc, newTuple]
  apply wpAny_bind
  refine wpAny_newObj_type ?_ (by size_fits)
  refine wpAny_bind (m := firstArgMember _ _) (wpAny_of_eq (a := Value.none) (by first | rfl | (simp only [firstArgMember]; rfl)) ?_)
  refine wpAny_newObj_type ?_ (by size_fits)
  have g1 : (s.heap.update it (Obj.mapFields (·.setIfInBounds 0 .none))).get? x1 = some o1 := by
    rw [Heap.get?_update_other _ _ (Ne.symm hne)]
    exact h1
  refine raiseNew_hot ⟨hh, o1, vs1, Heap.get?_push_of_some _ (Heap.get?_push_of_some _ g1), d1, c1⟩ (Nat.ne_of_lt (Heap.lt_size (Heap.get?_push_of_some _ g1))) (Heap.get?_push_size _ rfl) rfl (by first | (simp; done) | (simp; omega)) ?_
  apply wpAny_bind
  refine wpAny_isInstance (T := "StopIteration") (b := true) ⟨_, Heap.get?_update_self _ (Heap.get?_push_size _ rfl) rfl, rfl⟩ isSubtype_stop ?_
  refine wpAny_pure (hQ _ fun b o hb e => ?_)
  have e1 : (s.heap.update it (Obj.mapFields (·.setIfInBounds 0 .none))).get? b = some o := by
    rw [Heap.get?_update_other _ _ (Ne.symm hb)]
    exact e
  rw [Heap.get?_update_other _ _ (Nat.ne_of_gt (Heap.lt_size (Heap.get?_push_of_some _ e1)))]
  exact Heap.get?_push_of_some _ (Heap.get?_push_of_some _ e1)
end
section
variable {X : Cx} {elt tg iter : Expr} {ifs : List Expr} {scope : Scope} {own : List (Str × Nat)} {pos : Pos} {ti te : TE} {g : TG} {tt : TT}
theorem pe_lcH (hc : HotC X) (hN : X.N.Nodup) (hi : PE X iter ti) (ok : BlkOk X.N X.env.scope scope own)
    (hg : ∀ (s : Shared) (H : Hp) (C : Addr) (cl : List (Str × Addr)) (fp : List Addr), PG (X.blk s H scope (compEnvC scope cl C X.env) fp) tg g)
    (ht : ∀ (s : Shared) (H : Hp) (C : Addr) (cl : List (Str × Addr)) (fp : List Addr), PTs (X.blk s H scope (compEnvC scope cl C X.env) fp) ifs tt)
    (he : ∀ (s : Shared) (H : Hp) (C : Addr) (cl : List (Str × Addr)) (fp : List Addr), PE (X.blk s H scope (compEnvC scope cl C X.env) fp) elt te)
    (hs : ∀ x, foldedSetIterable iter X.env x = pure x := by intro _; rfl) : PE X (.ListComp elt [⟨tg, iter, ifs, 0⟩] scope pos) (tLc (iList X.K ti) g tt te (own.map (·.2))) := by
  constructor
  intro pins s σ H Q I h
  obtain ⟨p, ⟨ph, v1, pd, pc⟩, hp⟩ := hc
  have hfree : ∀ y ∈ scope.names, y.2 = .free → ∃ c, X.env.cells.lookup y.1 = some c := fun y hy e => I.ok.has _ (ok.free y hy e)
  rw [eval_ListComp]
  refine wpAny_comprehension_free (use := none) rfl hs (closure_ok hfree) ok.kind (fun y hy e => by rw [ok.uniq y hy, e]) (thn (hi.run pins s σ H _ I h) fun xv s1 hx => ?_)
  obtain ⟨x, H2, I1, r1, a, ex, ⟨xs0, hq0⟩, q⟩ := hx
  subst ex
  cases r1
  obtain ⟨its0, _, pl0, _⟩ := I1.list hq0
  apply wpAny_pyIter_list pl0.isList
  -- the iterator at it
  have I2 : Inv X pins σ H2 { s1 with heap := s1.heap.push { cls := .type "list_iterator", data := .fields #[.ref a, .int 0 0] } } := I1.kept (t' := s1.toks) fun b o e => Heap.get?_push_of_some _ e
  have st2 : Heap.IsListIter (s1.heap.push { cls := .type "list_iterator", data := .fields #[.ref a, .int 0 0] }) s1.heap.objs.size a 0 := ⟨_, Heap.get?_push_size _ rfl, rfl, rfl⟩
  have f2 := I1.fpOk (Nat.le_refl _) (I1.hok.fresh (Nat.le_refl _))
  have lit : s1.heap.objs.size < (s1.heap.push { cls := .type "list_iterator", data := .fields #[.ref a, .int 0 0] }).objs.size := by rw [Heap.size_push]; exact Nat.lt_succ_self _
  generalize s1.heap.objs.size = it at st2 f2 lit
  generalize hsh2 : ({ s1 with heap := s1.heap.push { cls := .type "list_iterator", data := .fields #[.ref a, .int 0 0] } } : Shared) = s2 at I2
  have hh2 : s1.heap.push { cls := .type "list_iterator", data := .fields #[.ref a, .int 0 0] } = s2.heap := by rw [← hsh2]
  rw [hh2] at st2 lit
  clear hsh2 hh2
  refine wpAny_newObj_type (newEnv_comp ?_) (by show 0 ≤ sizeLine; decide)
  generalize hD : s2.heap.objs.size = D
  have hDn : H2 D = none := I2.hok.fresh (Nat.le_of_eq hD)
  obtain ⟨W, ⟨m0, w0⟩, turn⟩ := q D hDn
  -- the new list
  have I3 : Inv X pins σ (upd H2 D (.lst [])) { s2 with heap := s2.heap.push { cls := .type "list", data := .seq ([] : List Value).toArray } } :=
    I2.laid (t' := s2.toks) (fun b o e => Heap.get?_push_of_some _ e) (Nat.le_of_eq hD) ⟨Nat.zero_le _, [], 0, .nil, by rw [← hD]; exact Heap.get?_push_size _ rfl⟩
  have st3 : Heap.IsListIter (s2.heap.push { cls := .type "list", data := .seq ([] : List Value).toArray }) it a 0 := st2.at fun o e => Heap.get?_push_of_some _ e
  have lt3 : it < (s2.heap.push { cls := .type "list", data := .seq ([] : List Value).toArray }).objs.size := by rw [Heap.size_push]; exact Nat.lt_succ_of_lt lit
  have f3 : FpOk X pins (upd H2 D (.lst [])) it := ⟨by rw [upd_ne (by rw [← hD]; exact Nat.ne_of_lt lit)]; exact f2.1, f2.2⟩
  generalize hH3 : upd H2 D (.lst []) = H3 at I3 f3 w0
  generalize hs3 : ({ s2 with heap := s2.heap.push { cls := .type "list", data := .seq ([] : List Value).toArray } } : Shared) = s3 at I3
  have hh3 : s2.heap.push { cls := .type "list", data := .seq ([] : List Value).toArray } = s3.heap := by rw [← hs3]
  rw [hh3] at st3 lt3
  obtain ⟨p1, p2, p3, p4, p5⟩ := I3.pin p (List.mem_append_left _ hp)
  have f3all : ∀ b ∈ [it], FpOk X pins H3 b ∧ b < s3.heap.objs.size := fun b hb => by
    rw [List.mem_singleton.mp hb]
    exact ⟨f3, lt3⟩
  have pit : p.1 ≠ it := f3.2.2.2.2.2 p (List.mem_append_left _ hp)
  have I4 := block_start I3 ok hN f3all
  have pg := hg s3 H3 s3.heap.objs.size (cellsFrom (s3.heap.objs.size + 1) scope.names (cloFrom X.env.cells scope.names [])) [it]
  have pt := ht s3 H3 s3.heap.objs.size (cellsFrom (s3.heap.objs.size + 1) scope.names (cloFrom X.env.cells scope.names [])) [it]
  have pe := he s3 H3 s3.heap.objs.size (cellsFrom (s3.heap.objs.size + 1) scope.names (cloFrom X.env.cells scope.names [])) [it]
  show codeAny _ _ (.compStart (.ListComp elt [⟨tg, iter, ifs, 0⟩] scope pos) 0 (.ref it) (.ref D) (compEnvC scope (cellsFrom (s3.heap.objs.size + 1) scope.names (cloFrom X.env.cells scope.names [])) s3.heap.objs.size X.env)) (compPost (model X.prog X.w) X.A X.xe none (EP X pins σ Q) (.ref D) s3.heap.objs.size) { s3 with heap := pushCells (s3.heap.push { cls := .type "dict", data := .dict #[] }) scope.names }
  generalize hce : compEnvC scope (cellsFrom (s3.heap.objs.size + 1) scope.names (cloFrom X.env.cells scope.names [])) s3.heap.objs.size X.env = ce at I4 pg pt pe ⊢
  have cL : ce.locals = s3.heap.objs.size := by rw [← hce] <;> rfl
  have up4 : ∀ b o, s3.heap.get? b = some o → (pushCells (s3.heap.push { cls := .type "dict", data := .dict #[] }) scope.names).get? b = some o := fun b o e => pushCells_keeps _ _ _ _ (Heap.get?_push_of_some _ e)
  have st4 : Heap.IsListIter (pushCells (s3.heap.push { cls := .type "dict", data := .dict #[] }) scope.names) it a 0 := st3.at fun o e => up4 _ o e
  have P4 := up4 _ _ p1
  generalize hs4 : ({ s3 with heap := pushCells (s3.heap.push { cls := .type "dict", data := .dict #[] }) scope.names } : Shared) = s4 at I4 ⊢
  have hh4 : pushCells (s3.heap.push { cls := .type "dict", data := .dict #[] }) scope.names = s4.heap := by rw [← hs4]
  rw [hh4] at st4 P4
  have nfs : p.1 ∉ frs X.stack := fun hm => by
    rcases List.mem_cons.mp (I3.stkSub p.1 hm) with e | hm
    · exact p3 e
    · exact p4 hm
  have nloc : p.1 ≠ ce.locals := by rw [cL]; exact Nat.ne_of_lt (Heap.lt_size p1)
  have J4 : Inv (X.blk s3 H3 scope ce [it]) [p] (wipe σ (own.map (·.2))) H3 s4 := I4.pins_of fun q hq => by
    rw [List.mem_singleton.mp hq]
    exact ⟨P4, p2, nloc, nfs, p5⟩
  have stat : ∀ {σ' : L2.St} {H' : Hp} {s' : Shared}, Inv (X.blk s3 H3 scope ce [it]) [p] σ' H' s' → H' it = none → FpOk (X.blk s3 H3 scope ce [it]) [p] H' it := fun {σ' H' s'} I' hn =>
    ⟨hn, (I'.ok.exf it (List.mem_singleton.mpr rfl)).1, I'.ok.exfs it (List.mem_singleton.mpr rfl), .inl (List.mem_singleton.mpr rfl), fun x c e => (I'.ok.exf it (List.mem_singleton.mpr rfl)).2 x c e, fun q hq => by
      have hq : q ∈ ([] : List (Addr × Obj)) ++ [p] := hq
      rw [List.nil_append] at hq
      rw [List.mem_singleton.mp hq]
      exact pit⟩
  have loop : codeAny (model X.prog X.w) X.A (.compLoop (.ListComp elt [⟨tg, iter, ifs, 0⟩] scope pos) 0 (.ref it) (.ref D) ce) (compPost (model X.prog X.w) X.A X.xe none (EP X pins σ Q) (.ref D) s3.heap.objs.size) s4 := by
    refine compLoop_any (fun n s' => ∃ i H', Inv (X.blk s3 H3 scope ce [it]) [p] (wipe σ (own.map (·.2))) H' s' ∧ s'.heap.IsListIter it a i ∧ H' it = none ∧ W i n H') ?_ m0 ⟨0, H3, J4, st4, f3.1, w0⟩
    rintro n s5 ⟨i, H5, I5, st5, n5, w5⟩
    obtain ⟨g0, g1, g2, g3, g4, g5⟩ := stat I5 n5
    rcases turn i n H5 w5 with ⟨stop, qq⟩ | ⟨go, Nx, hNx, step⟩
    · obtain ⟨xs, hq, hx⟩ := stop
      obtain ⟨its, rv, pl, hz⟩ := I5.list hq
      have hl := rv.length
      have P5 := (I5.pin p (List.mem_append_right _ (List.mem_singleton.mpr rfl))).1
      refine end_hot (x1 := p.1) ⟨ph, p.2, v1, P5, pd, pc⟩ pit st5 pl.isList (by simp; omega) fun h' eb => ?_
      have I6 : Inv (X.blk s3 H3 scope ce [it]) [p] (wipe σ (own.map (·.2))) H5 { s5 with heap := h' } := I5.turned (t' := s5.toks) (fun b o hb e => eb b o hb e) g0 g1 g3 g4 g5
      have I7 : Inv X pins σ H5 { s5 with heap := h' } := I3.call' (ch := [it]) I6.os I6.base I6.hok I6.bare fun b hb => by
        rw [List.mem_singleton.mp hb]
        exact ⟨f3.2.2.2.1, f3.2.1, f3.2.2.2.2.1, f3.2.2.2.2.2⟩
      have nC : H5 s3.heap.objs.size = none := by
        have z : H5 ce.locals = none := I6.free
        rw [cL] at z
        exact z
      obtain ⟨m, hn, _⟩ := I6.loc
      have hn : Heap.Ns h' ce.locals m := hn
      rw [cL] at hn
      obtain ⟨k0, k1, k2, k3, k4, k5⟩ := I3.fpOk (Nat.le_refl _) nC
      exact ⟨m, hn, fun h'' sb => ⟨.ref D, H5, I7.turned (t' := s5.toks) (fun b o hb e => (sb.2 b hb).trans e) k0 k1 k3 k4 k5, rfl, qq⟩⟩
    · obtain ⟨xs, x, hq, hx⟩ := go
      obtain ⟨its, rv, pl, hz⟩ := I5.list hq
      obtain ⟨u, hu, ru⟩ := rv.get hx
      refine wpAny_pyNext_list_item st5 pl.isList (x := u) (by simpa using hu) fun h6 st6 sb => ?_
      have I6 : Inv (X.blk s3 H3 scope ce [it]) [p] (wipe σ (own.map (·.2))) H5 { s5 with heap := h6 } := I5.turned (t' := s5.toks) (fun b o hb e => (sb.2 b hb).trans e) g0 g1 g3 g4 g5
      have yl : (Itl X.K a).yld i H5 x H5 := ⟨rfl, fun ys hy => by rw [I5.list_inj hy hq]; exact hx⟩
      obtain ⟨o6, ho6, hc6, hd6⟩ := id st6
      refine thnF (go_of (s := { s5 with heap := h6 }) ho6 hc6 hd6 (by decide) (Q := fun _ s' => s' = { s5 with heap := h6 }) rfl) fun _ s7 h7 => ?_
      subst h7
      have hobj : ∀ b ∈ [it], ∃ o, h6.get? b = some o ∧ ∀ v, o.data ≠ .cell v := fun b hb => by
        rw [List.mem_singleton.mp hb]
        exact ⟨o6, ho6, fun v z => by rw [hd6] at z; cases z⟩
      have I7 := I6.pinned (fp := [it]) (fun b hb => by rw [List.mem_singleton.mp hb]; exact stat I6 n5) hobj
      refine thnF (pg.run _ { s5 with heap := h6 } _ H5 x u _ I7 ru (step x H5 yl)) fun _ s8 ⟨σ8, H8, I8, hw8, q8⟩ => ?_
      refine thnF (pt.run _ s8 σ8 H8 _ I8 q8) fun b s9 ⟨H9, I9, q9⟩ => ?_
      have fin : ∀ {s' : Shared} {H' : Hp}, Inv (X.blk s3 H3 scope ce [it]) ([p] ++ pinsAt [it] h6) σ8 H' s' → Nx H' → ∃ m, m < n ∧ ∃ i H', Inv (X.blk s3 H3 scope ce [it]) [p] (wipe σ (own.map (·.2))) H' s' ∧ s'.heap.IsListIter it a i ∧ H' it = none ∧ W i m H' := fun {s' H'} I' nx => by
        obtain ⟨m', hm, w'⟩ := hNx H' nx
        have z := I'.pin (it, o6) (List.mem_append_right _ (List.mem_append_right _ (mem_pinsAt (List.mem_singleton.mpr rfl) ho6)))
        have hl : (wipe σ (own.map (·.2))).length = σ8.length := by rw [← hw8, wipe_length]
        refine ⟨m', hm, i + 1, H', (I'.unpinned (pins := [p])).weak hl (fun j v e => ?_), ⟨o6, z.1, hc6, hd6⟩, z.2.1, w'⟩
        rw [← hw8] at e
        exact (wipe_some e).1
      cases b with
      | false =>
        simp only [Bool.false_eq_true, if_false] at q9 ⊢
        exact fin I9 q9
      | true =>
        simp only [if_true] at q9 ⊢
        refine thnF (pe.run _ s9 σ8 H9 _ I9 q9) fun z s10 ⟨yv, H10, I10, r10, acc, hD10, hz10, nx⟩ => ?_
        exact app_ok (X := X.blk s3 H3 scope ce [it]) I10 hD10 hz10 r10 fun s11 I11 => fin I11 nx
  exact codeAny_compStart_list loop (wpAny_pyIter_listiter st4 loop)
end
end HotL
set_option maxRecDepth 100000
set_option maxHeartbeats 4000000
/-! a def that is handed the exception that is handled -/
namespace HotL
open PySem PySem.Spec PyProof.Rows L2 HotX L2H
/-- what a def promises while p is handled -/
structure FnP (p : Addr × Obj) (P : Program) (w : World) (K : PySem.W.Frag) (mg : Str → Option Value) (base : Heap) (k : Nat) (f : Addr) (fd : FuncData) (ps : List Str) (sp : Sp) : Prop where
  len : ∀ vs H Q E, sp vs H Q E → vs.length = ps.length
  run : ∀ (A : Around) (outer : List Env) (s : Shared) (H : Hp) (args : Args) (us : List Value) (vs : List V) (Q : VK) (E : XK), RoomH k A → Hot1 A p → PinOk outer H s p → Env0 P w K mg base A outer s H → BindsTo s fd args (ps.zip us) → Vals vs us → sp vs H Q E →
    codeAny (model P w) A (.call (.ref f) args) (CR CX0 outer P w H s Q E) s
section
variable {p : Addr × Obj} {P : Program} {w : World} {K : PySem.W.Frag} {mg : Str → Option Value} {base : Heap} {k : Nat} {f : Addr}
theorem fn_ofP {name qual : Str} {params : Arguments} {body : List Stmt} {scope : Scope} {dV kV doc pm cdv ct oc : Value} {an od : Option Addr} {osl : Array (Option Value)} {N ps : List Str} {sp : Sp}
    (lk : K.lookup f = some ⟨oc, od, .func (PySem.W.fnOf name qual params body scope dV kV doc pm an cdv ct), osl⟩) (hcd : PySem.W.codeIn K cdv qual = true) (S : FnScope N ps scope) (len : ∀ vs H Q E, sp vs H Q E → vs.length = ps.length)
    (hbody : ∀ (A : Around) (outer : List Env) (s : Shared) (H : Hp) (vs : List V) (Q : VK) (E : XK), Hot1 A p → RoomH k (A.deeper (envOfC qual scope s.heap.objs.size f cdv)) → sp vs H Q E →
      ∃ t, PSs (cxH CX0 P w K mg base N qual scope f cdv A outer s H E p) body t ∧ t { nx := fun _ H' => Q .non H', rt := Q } (L2.start N vs) H) :
    FnP p P w K mg base (k + 1) f (PySem.W.fnOf name qual params body scope dV kV doc pm an cdv ct) ps sp := by
  constructor
  · exact len
  intro A outer s H args us vs Q E hr hot hpin e0 hb r hsp
  have hl := len _ _ _ _ hsp
  have up : ∀ b o, base.get? b = some o → s.heap.get? b = some o := fun b o e => (e0.bs b o e).1
  have KX := e0.mod.kin.keeps up
  have lim := e0.mod.nolimit.keeps up
  have hkind : ∀ y ∈ ps.zip us, scope.names.lookup y.1 = some .local ∨ (scope.names.lookup y.1 = some .cell ∧ ((cellsFrom (s.heap.objs.size + 1) scope.names []).lookup y.1).isSome = true) := by
    rintro ⟨n, v⟩ hy
    exact (S.par n (List.of_mem_zip hy).1).elim .inl fun q => .inr ⟨q, PySem.W.cellsFrom_some _ _ _ (.inl q)⟩
  refine codeAny_call_function hr.depth (KX _ _ lk) rfl S.co S.gen rfl (PySem.W.codeRec_of KX hcd) (hb _ _ _ _ ?_)
  refine wpAny_newFunctionEnv_cells S.kind hkind fun env he s1 x => ?_
  subst he
  refine ⟨lim.keeps x.toInCall.keep, codeAny_func ?_⟩
  obtain ⟨t, ht, hq⟩ := hbody A outer s H vs Q E hot (hr.deeper _) hsp
  have I := inv_startH (CX := CX0) (K := K) (mg := mg) (base := base) (E := E) S hpin e0 hl r x
  refine wpAny_mono (ht.run [] s1 (L2.start N vs) H _ I hq) (fun fl s' hs => ?_) fun _ _ z => z
  cases fl with
  | ret u =>
    obtain ⟨v, σ', H', J, rv, q⟩ := hs
    exact ⟨v, H', J.os, J.bare, J.base, J.hok, rv, q⟩
  | next =>
    obtain ⟨σ', H', J, q⟩ := hs
    exact ⟨V.non, H', J.os, J.bare, J.base, J.hok, rfl, q⟩
  | brk =>
    obtain ⟨_, _, _, q⟩ := hs
    exact q.elim
  | cont =>
    obtain ⟨_, _, _, q⟩ := hs
    exact q.elim
end
section
variable {p : Addr × Obj} {X : Cx} {k : Nat} {f : Addr} {fd : FuncData} {ps : List Str} {sp : Sp} {x : Str} {q pos : Pos} {e : Expr} {es : List Expr} {t : TA}
theorem pe_callP (F : FnP p X.prog X.w X.K X.mg X.base k f fd ps sp) (hr : RoomH k X.A) (hot : Hot1 X.A p) (hp : p ∈ X.pn) (hg : Gl X x) (hm : X.mg x = some (.ref f)) (hk : PySem.W.keepIn X.K (.ref f) = true) (hb : Binds X.K fd ps [])
    (ha : PA X (e :: es) t) (hdb : (x == ("__debug__" : Str)) = false := by decide) (he : starEach (e :: es) X.env = (false, eval e X.env) :: starEach es X.env := by rfl) (hpl : (backTo pos (starEach es X.env)).any (·.1) = false := by rfl) :
    PE X (.Call (.Name x q) (e :: es) [] pos) (tCallS sp (fun _ => E0) t) := by
  constructor
  intro pins s σ H Q I h
  refine wpAny_Call_Name_kw (ld_glob I hg hm ?_ hdb)
  refine PySem.W.callWith_K (h₀ := X.base) I.ok.mod.kin hk (thn (ha.run pos pins s σ H _ I h) fun us s1 z => ?_) he hpl
  obtain ⟨vs, H1, I1, r, sq⟩ := z
  refine ⟨I1.kIn, ?_⟩
  have hl : us.length = ps.length := by rw [← r.length]; exact F.len _ _ _ _ sq
  have b := hb s1 us I1.kIn (by rw [List.append_nil]; exact hl)
  rw [List.append_nil] at b
  obtain ⟨p1, p2, p3, p4, p5⟩ := I1.pin p (List.mem_append_left _ hp)
  have hpin : PinOk X.stack H1 s1 p := ⟨p1, p2, fun hm => (List.mem_cons.mp (I1.stkSub p.1 hm)).elim p3 p4, p5⟩
  refine wpAny_call (codeAny_mono (F.run X.A X.stack s1 H1 ⟨us, []⟩ us vs Q E0 hr hot hpin I1.env0 b r sq) fun r s' hq => ?_)
  cases r with
  | error e => exact hq.elim
  | ok fl =>
    cases fl with
    | ret u => exact I1.after hq
    | next => exact hq.elim
    | brk => exact hq.elim
    | cont => exact hq.elim
/-- isinstance of the exception that is handled -/
theorem call_isP {D : Addr} (C : ExcC X.K D) (hp : p ∈ X.pn) (hz : Zc (.ref D) none p.2) (hf : ∃ vs, p.2.data = .fields vs) : CallR X (.builtin "isinstance") (rIsE X.K D p.1) := by
  intro pins s σ H xs us Q I r h
  obtain ⟨c, cv, b, rfl, hcv, e, q⟩ := h
  cases r with
  | cons rx rr =>
    cases rr with
    | cons rt rr =>
      cases rr
      cases rx
      cases hcv _ rt
      have hget := (I.pin p (List.mem_append_left _ hp)).1
      obtain ⟨vs, hv⟩ := hf
      obtain ⟨pa, oc, od, oda, osl⟩ := p
      obtain ⟨h1, h2⟩ := hz
      dsimp only at h1 h2 hv hget
      subst h1 h2 hv
      exact PySem.W.kia_one (PySem.W.handS_kitx_exc C.hg C.hk C.hs C.hd C.ha C.hn C.ht C.hm) I.kIn ⟨hget, rfl, rfl, trivial⟩ e (fun z => nomatch z) fun tk => ⟨.bl b, H, I.kept (t' := tk) fun _ _ z => z, rfl, q⟩
end
end HotL
set_option maxRecDepth 100000
set_option maxHeartbeats 4000000
/-! isinstance of the handled exception, where it has a dict -/
namespace HotL
open PySem PySem.Spec PyProof.Rows L2 HotX L2H
def rIsED (K : PySem.W.Frag) (D a dd : Addr) : List V → Hp → VK → Prop := fun xs H Q => ∃ (c : V) (cv : Value) (b : Bool) (fs : List (Str × V)), xs = [.ref a, c] ∧ (∀ u, RelV c u → u = cv) ∧ PySem.W.kitOne K (.ref D) cv = some b ∧ H dd = some (.xd fs) ∧ Q (.bl b) H
section
variable {p : Addr × Obj} {X : Cx}
theorem call_isPD {D dd : Addr} (C : ExcC X.K D) (hp : p ∈ X.pn) (hz : Zc (.ref D) (some dd) p.2) (hf : ∃ vs, p.2.data = .fields vs) : CallR X (.builtin "isinstance") (rIsED X.K D p.1 dd) := by
  intro pins s σ H xs us Q I r h
  obtain ⟨c, cv, b, fs, rfl, hcv, e, hd, q⟩ := h
  cases r with
  | cons rx rr =>
    cases rr with
    | cons rt rr =>
      cases rr
      cases rx
      cases hcv _ rt
      have hget := (I.pin p (List.mem_append_left _ hp)).1
      obtain ⟨vs, hv⟩ := hf
      have hx : ObjOk X.prog X.w H s.heap dd (.xd fs) := I.hok dd _ hd
      obtain ⟨mA, hns, _⟩ := hx
      obtain ⟨od, ho, _⟩ := lookIn_ns hns
      have J : PySem.W.InstAt s.heap p.1 p.2 D (some od) := ⟨hget, hz.1, by unfold PySem.W.notCls; rw [hv] <;> rfl, by rw [hz.2]; exact ho⟩
      have hcl : (PySem.W.clsIn X.K D).isSome = true := by
        obtain ⟨cd, hc, _⟩ := PySem.W.any_some C.hd
        rw [hc] <;> rfl
      exact PySem.W.kia_one (PySem.W.kitx_exc hcl C.hg C.hk C.hs C.ha C.hn C.ht C.hm) I.kIn J e (fun z => nomatch z) fun tk => ⟨.bl b, H, I.kept (t' := tk) fun _ _ z => z, rfl, q⟩
end
end HotL
set_option maxRecDepth 100000
set_option maxHeartbeats 8000000
namespace WS
open PySem L2 L2H
/-- the classes of exceptions, as the law asks of one of them -/
structure ErrTxt (K : PySem.W.Frag) (mg : Str → Option Value) (D cBS cNA cMA cNO cBT : Addr) : Prop where
  ec : ExcC K D
  gBS : mg "BadSheet" = some (.ref cBS)
  gNA : mg "NoAnswer" = some (.ref cNA)
  gMA : mg "ManyAnswers" = some (.ref cMA)
  gNO : mg "NotOne" = some (.ref cNO)
  gBT : mg "BadText" = some (.ref cBT)
  gVE : mg "ValueError" = none
def kindOf (K : PySem.W.Frag) (D cBS cNA cMA cNO cBT : Addr) (b1 b2 b3 b4 b5 : Bool) : Prop :=
  PySem.W.kitOne K (.ref D) (.ref cBS) = some b1 ∧ PySem.W.kitOne K (.ref D) (.ref cNA) = some b2 ∧ PySem.W.kitOne K (.ref D) (.ref cMA) = some b3 ∧ PySem.W.kitOne K (.ref D) (.ref cNO) = some b4 ∧ PySem.W.kitOne K (.ref D) (.ref cBT) = some b5 ∧ PySem.W.kitOne K (.ref D) (.type "ValueError") = some true
def spIs (p : Addr × Obj) : Sp := fun vs H Q _ => vs = [.ref p.1, .str "not"] ∧ ∀ H', Same H H' → Q (.bl true) H'
section
variable {p : Addr × Obj} {P : Program} {w : World} {K : PySem.W.Frag} {mg : Str → Option Value} {base : Heap}
theorem scLIs : FnScope ["_law_e", "_law_word_here", "_law_kinds", "_law_words", "_law_one"] ["_law_e", "_law_word_here"] (defScope sLIs) := ⟨rfl, rfl, rfl, by decide +kernel, rfl, by decide +kernel, by decide +kernel⟩
theorem ok_lis {f D cBS cNA cMA cNO cBT : Addr} {fd : FuncData} (F : Fun K "_law_is" "_law_is" sLIs f fd) (z_isinstance : mg "isinstance" = none) (T : ErrTxt K mg D cBS cNA cMA cNO cBT) (kd : kindOf K D cBS cNA cMA cNO cBT false false false true false)
    (hz : Zc (.ref D) none p.2) (hf : ∃ vs, p.2.data = .fields vs) : HotL.FnP p P w K mg base 1 f fd ["_law_e", "_law_word_here"] (spIs p) := by
  obtain ⟨oc, od, kV, doc, pm, an, cdv, ct, osl, rfl, lk, hcd⟩ := F.ex
  refine HotL.fn_ofP lk hcd scLIs (fun vs H Q E h => ?_) (fun A outer s H vs Q E hot hr h => ?_)
  · obtain ⟨rfl, _⟩ := h
    rfl
  · obtain ⟨rfl, k⟩ := h
    have nd := scLIs.nd
    have hu64 : (A.deeper (PyProof.Rows.envOfC "_law_is" (defScope sLIs) s.heap.objs.size f cdv)).units + 64 < cLine := by have := hr.un; omega
    obtain ⟨k1, k2, k3, k4, k5, k6⟩ := kd
    have hpn : p ∈ [p] := List.mem_singleton.mpr rfl
    have hotc : ∀ {X : Cx}, X.A = A.deeper (PyProof.Rows.envOfC "_law_is" (defScope sLIs) s.heap.objs.size f cdv) → X.pn = [p] → HotC X := fun e1 e2 => ⟨p, by rw [e1]; exact hot, by rw [e2]; exact hpn⟩
    refine ⟨_, (pss_cons (ps_set (i := 2) nd rfl (.inl rfl) (pe_lst (pa_cons (pe_callB (HotL.call_isP T.ec hpn hz hf) (by rfl) z_isinstance (by decide +kernel) (pa_cons (pv 0) (pa_cons (pe_glob (v := .ref cBS) (by rfl) T.gBS rfl) pa_nil))) (pa_cons (pe_callB (HotL.call_isP T.ec hpn hz hf) (by rfl) z_isinstance (by decide +kernel) (pa_cons (pv 0) (pa_cons (pe_glob (v := .ref cNA) (by rfl) T.gNA rfl) pa_nil))) (pa_cons (pe_callB (HotL.call_isP T.ec hpn hz hf) (by rfl) z_isinstance (by decide +kernel) (pa_cons (pv 0) (pa_cons (pe_glob (v := .ref cMA) (by rfl) T.gMA rfl) pa_nil))) (pa_cons (pe_callB (HotL.call_isP T.ec hpn hz hf) (by rfl) z_isinstance (by decide +kernel) (pa_cons (pv 0) (pa_cons (pe_glob (v := .ref cNO) (by rfl) T.gNO rfl) pa_nil))) pa_nil))))))
      (pss_cons (ps_expr (pe_bm PySem.F.plainAttrs_list PySem.F.slot_list_append PySem.F.type_list_append mt_append (pv 2) (pa_cons (pe_callB (HotL.call_isP T.ec hpn hz hf) (by rfl) z_isinstance (by decide +kernel) (pa_cons (pv 0) (pa_cons (pe_glob (v := .ref cBT) (by rfl) T.gBT rfl) pa_nil))) pa_nil)))
      (pss_cons (ps_set (i := 3) nd rfl (.inl rfl) (pe_lst (pa_cons pe_str (pa_cons pe_str (pa_cons pe_str (pa_cons pe_str (pa_cons pe_str pa_nil)))))))
      (pss_one (ps_ret (pe_and (pe_callB (HotL.call_isP T.ec hpn hz hf) (by rfl) z_isinstance (by decide +kernel) (pa_cons (pv 0) (pa_cons (pe_bltn (v := .ty "ValueError") (by rfl) T.gVE (by decide +kernel) rfl) pa_nil))) (pe_one (pe_cmpR (op_eqD hu64) (pv 2) (HotL.pe_lcH (own := [("_law_one", 4)]) (g := (gName 4)) (tt := tYes) (hotc rfl rfl) nd (pv 3) (blkOk_by (own := [("_law_one", 4)]) (N := ["_law_e", "_law_word_here", "_law_kinds", "_law_words", "_law_one"]) (sc := defScope sLIs) (by decide +kernel)) (fun _ _ _ _ _ => (pg_name (i := 4) nd rfl (.inl rfl))) (fun _ _ _ _ _ => pts_nil) (fun _ _ _ _ _ => (pe_cmpR op_eq (pv 1) (pv 4) (nomark _)))) (nomark _))))))))), ?_⟩
    refine ⟨_, rfl, _, _, false, rfl, fun u h => h, k1, _, rfl, _, _, false, rfl, fun u h => h, k2, _, rfl, _, _, false, rfl, fun u h => h, k3, _, rfl, _, _, true, rfl, fun u h => h, k4, by show 4 ≤ sizeLine; decide, fun q hq => ?_⟩
    have s1 : Same H (upd H q (.lst [.bl false, .bl false, .bl false, .bl true])) := Same.new hq
    have hq1 : (upd H q (.lst [.bl false, .bl false, .bl false, .bl true])) q = some (.lst [.bl false, .bl false, .bl false, .bl true]) := upd_same
    refine ⟨_, rfl, .inl ⟨rfl, _, SqL.of hq1⟩, _, rfl, _, _, false, rfl, fun u h => h, k5, q, _, _, rfl, rfl, hq1, by show 4 < sizeLine; decide, ?_⟩
    have s2 : Same H (upd (upd H q (.lst [.bl false, .bl false, .bl false, .bl true])) q (.lst ([.bl false, .bl false, .bl false, .bl true] ++ [.bl false]))) := Same.mut s1 hq
    have hq2 : (upd (upd H q (.lst [.bl false, .bl false, .bl false, .bl true])) q (.lst ([.bl false, .bl false, .bl false, .bl true] ++ [.bl false]))) q = some (.lst [.bl false, .bl false, .bl false, .bl true, .bl false]) := upd_same
    generalize upd (upd H q (.lst [.bl false, .bl false, .bl false, .bl true])) q (.lst ([.bl false, .bl false, .bl false, .bl true] ++ [.bl false])) = H2 at s2 hq2
    refine ⟨by show 5 ≤ sizeLine; decide, fun w2 hw2 => ?_⟩
    have s3 : Same H2 (upd H2 w2 (.lst [.str "sheet", .str "none", .str "many", .str "not", .str "text"])) := Same.new hw2
    have hw3 : (upd H2 w2 (.lst [.str "sheet", .str "none", .str "many", .str "not", .str "text"])) w2 = some (.lst [.str "sheet", .str "none", .str "many", .str "not", .str "text"]) := upd_same
    generalize upd H2 w2 (.lst [.str "sheet", .str "none", .str "many", .str "not", .str "text"]) = H3 at s3 hw3
    have hw3 : H3 w2 = some (.lst ((["sheet", "none", "many", "not", "text"] : List Str).map V.str)) := hw3
    have hq3 := s3 _ _ hq2
    refine ⟨_, rfl, _, _, true, rfl, fun u h => h, k6, true, rfl, iteT ?_⟩
    refine ⟨_, rfl, _, rfl, w2, rfl, ⟨_, SqL.of hw3⟩, fun D hD => ?_⟩
    have hqD := ne_of_none hq3 hD
    generalize hws : (["sheet", "none", "many", "not", "text"] : List Str) = ws at hw3
    have hl5 : ws.length = 5 := by rw [← hws] <;> rfl
    refine lc_list (K := K) (a := w2) (xs := ws.map V.str) (fun j H4 => H4 = upd H3 D (.lst ((ws.take j).map fun z => V.bl (decide (V.str "not" = V.str z))))) rfl
      (fun j H4 _ e => by rw [e]; exact SqL.of ((upd_ne (ne_of_none hw3 hD)).trans hw3)) ?_ ?_
    · rintro j y H4 hj rfl
      obtain ⟨z, hz', rfl⟩ : ∃ z, ws[j]? = some z ∧ y = V.str z := by
        rw [List.getElem?_map] at hj
        cases e : ws[j]? with
        | none => rw [e] at hj; cases hj
        | some z => rw [e] at hj; exact ⟨z, rfl, (Option.some.inj hj).symm⟩
      refine ⟨rfl, _, rfl, _, rfl, rfl, _, upd_same, ?_, ?_⟩
      · rw [List.length_map, List.length_take]
        exact line_lt (by omega)
      · rw [upd_upd, List.take_add_one, hz', List.map_append] <;> rfl
    · rintro H4 rfl
      rw [List.length_map, List.take_length]
      have hqf : (upd H3 D (.lst (ws.map fun z => V.bl (decide (V.str "not" = V.str z))))) q = some (.lst [.bl false, .bl false, .bl false, .bl true, .bl false]) := (upd_ne hqD).trans hq3
      have hDf : (upd H3 D (.lst (ws.map fun z => V.bl (decide (V.str "not" = V.str z))))) D = some (.lst [.bl false, .bl false, .bl false, .bl true, .bl false]) := by
        rw [upd_same, ← hws]
        have e : ((["sheet", "none", "many", "not", "text"] : List Str).map fun z => V.bl (decide (V.str "not" = V.str z))) = [.bl false, .bl false, .bl false, .bl true, .bl false] := by decide +kernel
        rw [e]
      refine ⟨_, _, .lst (SqL.of hqf) (.cons (.bl _) (.cons (.bl _) (.cons (.bl _) (.cons (.bl _) (.cons (.bl _) .nil))))), .lst (SqL.of hDf) (.cons (.bl _) (.cons (.bl _) (.cons (.bl _) (.cons (.bl _) (.cons (.bl _) .nil))))), rfl, rfl, ?_⟩
      exact k _ ((s2.trans s3).trans (Same.new hD))
end
end WS
set_option maxRecDepth 100000
set_option maxHeartbeats 8000000
namespace WS
open PySem L2 L2H
def kindW (K : PySem.W.Frag) (D cBS cNA cMA cNO cBT : Addr) (wd : Str) (b1 b2 b3 b4 b5 : Bool) : Prop :=
  kindOf K D cBS cNA cMA cNO cBT b1 b2 b3 b4 b5 ∧ ((["sheet", "none", "many", "not", "text"] : List Str).map fun z => V.bl (decide (V.str wd = V.str z))) = [.bl b1, .bl b2, .bl b3, .bl b4, .bl b5]
def spIsW (p : Addr × Obj) (dd : Addr) (wd : Str) : Sp := fun vs H Q _ => vs = [.ref p.1, .str wd] ∧ (∃ fs, H dd = some (.xd fs)) ∧ ∀ H', Same H H' → Q (.bl true) H'
section
variable {p : Addr × Obj} {P : Program} {w : World} {K : PySem.W.Frag} {mg : Str → Option Value} {base : Heap}
theorem scLIsW : FnScope ["_law_e", "_law_word_here", "_law_kinds", "_law_words", "_law_one"] ["_law_e", "_law_word_here"] (defScope sLIs) := ⟨rfl, rfl, rfl, by decide +kernel, rfl, by decide +kernel, by decide +kernel⟩
theorem ok_lisW {f D dd cBS cNA cMA cNO cBT : Addr} {fd : FuncData} {wd : Str} {b1 b2 b3 b4 b5 : Bool} (F : Fun K "_law_is" "_law_is" sLIs f fd) (z_isinstance : mg "isinstance" = none) (T : ErrTxt K mg D cBS cNA cMA cNO cBT) (kd : kindW K D cBS cNA cMA cNO cBT wd b1 b2 b3 b4 b5)
    (hz : Zc (.ref D) (some dd) p.2) (hf : ∃ vs, p.2.data = .fields vs) : HotL.FnP p P w K mg base 1 f fd ["_law_e", "_law_word_here"] (spIsW p dd wd) := by
  obtain ⟨oc, od, kV, doc, pm, an, cdv, ct, osl, rfl, lk, hcd⟩ := F.ex
  refine HotL.fn_ofP lk hcd scLIsW (fun vs H Q E h => ?_) (fun A outer s H vs Q E hot hr h => ?_)
  · obtain ⟨rfl, _⟩ := h
    rfl
  · obtain ⟨rfl, ⟨fs, hdd⟩, k⟩ := h
    have nd := scLIsW.nd
    have hu64 : (A.deeper (PyProof.Rows.envOfC "_law_is" (defScope sLIs) s.heap.objs.size f cdv)).units + 64 < cLine := by have := hr.un; omega
    obtain ⟨⟨k1, k2, k3, k4, k5, k6⟩, hwd⟩ := kd
    have hpn : p ∈ [p] := List.mem_singleton.mpr rfl
    have hotc : ∀ {X : Cx}, X.A = A.deeper (PyProof.Rows.envOfC "_law_is" (defScope sLIs) s.heap.objs.size f cdv) → X.pn = [p] → HotC X := fun e1 e2 => ⟨p, by rw [e1]; exact hot, by rw [e2]; exact hpn⟩
    refine ⟨_, (pss_cons (ps_set (i := 2) nd rfl (.inl rfl) (pe_lst (pa_cons (pe_callB (HotL.call_isPD T.ec hpn hz hf) (by rfl) z_isinstance (by decide +kernel) (pa_cons (pv 0) (pa_cons (pe_glob (v := .ref cBS) (by rfl) T.gBS rfl) pa_nil))) (pa_cons (pe_callB (HotL.call_isPD T.ec hpn hz hf) (by rfl) z_isinstance (by decide +kernel) (pa_cons (pv 0) (pa_cons (pe_glob (v := .ref cNA) (by rfl) T.gNA rfl) pa_nil))) (pa_cons (pe_callB (HotL.call_isPD T.ec hpn hz hf) (by rfl) z_isinstance (by decide +kernel) (pa_cons (pv 0) (pa_cons (pe_glob (v := .ref cMA) (by rfl) T.gMA rfl) pa_nil))) (pa_cons (pe_callB (HotL.call_isPD T.ec hpn hz hf) (by rfl) z_isinstance (by decide +kernel) (pa_cons (pv 0) (pa_cons (pe_glob (v := .ref cNO) (by rfl) T.gNO rfl) pa_nil))) pa_nil))))))
      (pss_cons (ps_expr (pe_bm PySem.F.plainAttrs_list PySem.F.slot_list_append PySem.F.type_list_append mt_append (pv 2) (pa_cons (pe_callB (HotL.call_isPD T.ec hpn hz hf) (by rfl) z_isinstance (by decide +kernel) (pa_cons (pv 0) (pa_cons (pe_glob (v := .ref cBT) (by rfl) T.gBT rfl) pa_nil))) pa_nil)))
      (pss_cons (ps_set (i := 3) nd rfl (.inl rfl) (pe_lst (pa_cons pe_str (pa_cons pe_str (pa_cons pe_str (pa_cons pe_str (pa_cons pe_str pa_nil)))))))
      (pss_one (ps_ret (pe_and (pe_callB (HotL.call_isPD T.ec hpn hz hf) (by rfl) z_isinstance (by decide +kernel) (pa_cons (pv 0) (pa_cons (pe_bltn (v := .ty "ValueError") (by rfl) T.gVE (by decide +kernel) rfl) pa_nil))) (pe_one (pe_cmpR (op_eqD hu64) (pv 2) (HotL.pe_lcH (own := [("_law_one", 4)]) (g := (gName 4)) (tt := tYes) (hotc rfl rfl) nd (pv 3) (blkOk_by (own := [("_law_one", 4)]) (N := ["_law_e", "_law_word_here", "_law_kinds", "_law_words", "_law_one"]) (sc := defScope sLIs) (by decide +kernel)) (fun _ _ _ _ _ => (pg_name (i := 4) nd rfl (.inl rfl))) (fun _ _ _ _ _ => pts_nil) (fun _ _ _ _ _ => (pe_cmpR op_eq (pv 1) (pv 4) (nomark _)))) (nomark _))))))))), ?_⟩
    have hl0 : ∀ {l : List V}, l.length = 4 → l.length < sizeLine := fun h => by rw [h]; decide
    refine ⟨_, rfl, _, _, b1, fs, rfl, fun u h => h, k1, hdd, _, rfl, _, _, b2, fs, rfl, fun u h => h, k2, hdd, _, rfl, _, _, b3, fs, rfl, fun u h => h, k3, hdd, _, rfl, _, _, b4, fs, rfl, fun u h => h, k4, hdd, by show 4 ≤ sizeLine; decide, fun q hq => ?_⟩
    have s1 : Same H (upd H q (.lst [.bl b1, .bl b2, .bl b3, .bl b4])) := Same.new hq
    have hq1 : (upd H q (.lst [.bl b1, .bl b2, .bl b3, .bl b4])) q = some (.lst [.bl b1, .bl b2, .bl b3, .bl b4]) := upd_same
    refine ⟨_, rfl, .inl ⟨rfl, _, SqL.of hq1⟩, _, rfl, _, _, b5, fs, rfl, fun u h => h, k5, s1 _ _ hdd, q, _, _, rfl, rfl, hq1, by show 4 < sizeLine; decide, ?_⟩
    have s2 : Same H (upd (upd H q (.lst [.bl b1, .bl b2, .bl b3, .bl b4])) q (.lst ([.bl b1, .bl b2, .bl b3, .bl b4] ++ [.bl b5]))) := Same.mut s1 hq
    have hq2 : (upd (upd H q (.lst [.bl b1, .bl b2, .bl b3, .bl b4])) q (.lst ([.bl b1, .bl b2, .bl b3, .bl b4] ++ [.bl b5]))) q = some (.lst [.bl b1, .bl b2, .bl b3, .bl b4, .bl b5]) := upd_same
    generalize upd (upd H q (.lst [.bl b1, .bl b2, .bl b3, .bl b4])) q (.lst ([.bl b1, .bl b2, .bl b3, .bl b4] ++ [.bl b5])) = H2 at s2 hq2
    refine ⟨by show 5 ≤ sizeLine; decide, fun w2 hw2 => ?_⟩
    have s3 : Same H2 (upd H2 w2 (.lst [.str "sheet", .str "none", .str "many", .str "not", .str "text"])) := Same.new hw2
    have hw3 : (upd H2 w2 (.lst [.str "sheet", .str "none", .str "many", .str "not", .str "text"])) w2 = some (.lst [.str "sheet", .str "none", .str "many", .str "not", .str "text"]) := upd_same
    generalize upd H2 w2 (.lst [.str "sheet", .str "none", .str "many", .str "not", .str "text"]) = H3 at s3 hw3
    have hw3 : H3 w2 = some (.lst ((["sheet", "none", "many", "not", "text"] : List Str).map V.str)) := hw3
    have hq3 := s3 _ _ hq2
    refine ⟨_, rfl, _, _, true, fs, rfl, fun u h => h, k6, (s2.trans s3) _ _ hdd, true, rfl, iteT ?_⟩
    refine ⟨_, rfl, _, rfl, w2, rfl, ⟨_, SqL.of hw3⟩, fun D hD => ?_⟩
    have hqD := ne_of_none hq3 hD
    generalize hws : (["sheet", "none", "many", "not", "text"] : List Str) = ws at hw3 hwd
    have hl5 : ws.length = 5 := by rw [← hws] <;> rfl
    refine lc_list (K := K) (a := w2) (xs := ws.map V.str) (fun j H4 => H4 = upd H3 D (.lst ((ws.take j).map fun z => V.bl (decide (V.str wd = V.str z))))) rfl
      (fun j H4 _ e => by rw [e]; exact SqL.of ((upd_ne (ne_of_none hw3 hD)).trans hw3)) ?_ ?_
    · rintro j y H4 hj rfl
      obtain ⟨z, hz', rfl⟩ : ∃ z, ws[j]? = some z ∧ y = V.str z := by
        rw [List.getElem?_map] at hj
        cases e : ws[j]? with
        | none => rw [e] at hj; cases hj
        | some z => rw [e] at hj; exact ⟨z, rfl, (Option.some.inj hj).symm⟩
      refine ⟨rfl, _, rfl, _, rfl, rfl, _, upd_same, ?_, ?_⟩
      · rw [List.length_map, List.length_take]
        exact line_lt (by omega)
      · rw [upd_upd, List.take_add_one, hz', List.map_append] <;> rfl
    · rintro H4 rfl
      rw [List.length_map, List.take_length]
      have hqf : (upd H3 D (.lst (ws.map fun z => V.bl (decide (V.str wd = V.str z))))) q = some (.lst [.bl b1, .bl b2, .bl b3, .bl b4, .bl b5]) := (upd_ne hqD).trans hq3
      have hDf : (upd H3 D (.lst (ws.map fun z => V.bl (decide (V.str wd = V.str z))))) D = some (.lst [.bl b1, .bl b2, .bl b3, .bl b4, .bl b5]) := by
        rw [upd_same, hwd]
      refine ⟨_, _, .lst (SqL.of hqf) (.cons (.bl _) (.cons (.bl _) (.cons (.bl _) (.cons (.bl _) (.cons (.bl _) .nil))))), .lst (SqL.of hDf) (.cons (.bl _) (.cons (.bl _) (.cons (.bl _) (.cons (.bl _) (.cons (.bl _) .nil))))), rfl, rfl, ?_⟩
      cases b1 <;> cases b2 <;> cases b3 <;> cases b4 <;> cases b5 <;> exact k _ ((s2.trans s3).trans (Same.new hD))
end
end WS
set_option maxRecDepth 100000
set_option maxHeartbeats 4000000
namespace WS
open PySem L2
/-- the class of the exception that is raised where nothing fits -/
structure NotOneTxt (K : PySem.W.Frag) (mg : Str → Option Value) (C : Addr) : Prop where
  x : PySem.W.excIn K C [.type "ValueError", .type "Exception", .type "BaseException", .type "object"] "ValueError.__new__" = true
  g : mg "NotOne" = some (.ref C)
  k : PySem.W.keepIn K (.ref C) = true
  b : PySem.W.subIn K (.ref C) (.type "BaseException") = some true
  t : PySem.W.typeIn K (.ref C) = some (.type "type")
section
variable {P : Program} {w : World} {K : PySem.W.Frag} {mg : Str → Option Value} {base : Heap}
/-- a def that may raise, its exceptions without a context -/
theorem okN {x qual : Str} {st : Stmt} {f : Addr} {fd : FuncData} {N ps : List Str} {k : Nat} {sp : Sp} (F : Fun K x qual st f fd) (S : FnScope N ps (defScope st)) (len : ∀ vs H Q E, sp vs H Q E → vs.length = ps.length)
    (hbody : ∀ (cdv : Value) (A : Around) (outer : List Env) (s : Shared) (H : Hp) (vs : List V) (Q : VK) (E : XK), Room k (A.deeper (PyProof.Rows.envOfC qual (defScope st) s.heap.objs.size f cdv)) → sp vs H Q E →
      ∃ t, PSs (cxOf (L2N.CX P w) P w K mg base N qual (defScope st) f cdv A outer s H E) (defBody st) t ∧ t { nx := fun _ H' => Q .non H', rt := Q } (L2.start N vs) H) : FnOk P w K mg base (L2N.CX P w) (k + 1) f fd ps sp := by
  obtain ⟨oc, od, kV, doc, pm, an, cdv, ct, osl, rfl, lk, hcd⟩ := F.ex
  exact fn_of lk hcd S len fun A outer s H vs Q E hr hsp => hbody cdv A outer s H vs Q E hr hsp
end
end WS
set_option maxRecDepth 100000
set_option maxHeartbeats 4000000
namespace WS
open PySem PySem.Spec PyProof.Rows L2 L2H
/-- around a body nothing is let out -/
theorem takes0N {X : Cx} : L2N.Takes X (fun _ _ _ _ => False) := fun _ _ x => by
  obtain ⟨_, _, _, _, _, _, _, _, _, _, _, _, _, _, _, _, z⟩ := x
  exact z.elim
/-- what a suite asks of _law_is(e, "not") -/
def tIsS (C a : Addr) (cls : Value) (d : Option Addr) (t : TA) : TE := fun σ H Q => cls = .ref C ∧ d = none ∧ t σ H fun vs H1 => vs = [.ref a, .str "not"] ∧ ∀ H', Same H1 H' → Q (.bl true) H'
section
variable {X : Cx} {C a f : Addr} {fd : FuncData} {k : Nat} {x : Str} {q pos : Pos} {e : Expr} {es : List Expr} {t : TA} {oe : Obj} {cls : Value} {d : Option Addr} {pn : List (Addr × Obj)}
theorem pe_isS (hz : L2N.Zn cls d oe) (hf : ∃ vs, oe.data = .fields vs)
    (G : ∀ p : Addr × Obj, Zc (.ref C) none p.2 → (∃ vs, p.2.data = .fields vs) → HotL.FnP p X.prog X.w X.K X.mg X.base k f fd ["_law_e", "_law_word_here"] (spIs p))
    (hr : Room k X.A) (hg : Gl (X.suite a ((a, oe) :: pn)) x) (hm : X.mg x = some (.ref f)) (hk : PySem.W.keepIn X.K (.ref f) = true) (hb : Binds X.K fd ["_law_e", "_law_word_here"] [])
    (ha : PA (X.suite a ((a, oe) :: pn)) (e :: es) t) (hdb : (x == ("__debug__" : Str)) = false := by decide) (he : starEach (e :: es) X.env = (false, eval e X.env) :: starEach es X.env := by rfl) (hpl : (backTo pos (starEach es X.env)).any (·.1) = false := by rfl) :
    PE (X.suite a ((a, oe) :: pn)) (.Call (.Name x q) (e :: es) [] pos) (tIsS C a cls d t) := by
  constructor
  intro pins s σ H Q I h
  obtain ⟨hc, hd, h⟩ := h
  subst hc hd
  obtain ⟨vs, hv⟩ := id hf
  have hrh : RoomH k (X.suite a ((a, oe) :: pn)).A := ⟨hr.dp, hr.un⟩
  have hot : Hot1 (X.suite a ((a, oe) :: pn)).A (a, oe) := ⟨rfl, vs, hv, hz.2.2 vs hv⟩
  exact (HotL.pe_callP (X := X.suite a ((a, oe) :: pn)) (p := (a, oe)) (G (a, oe) hz.zc hf) hrh hot List.mem_cons_self hg hm hk hb ha hdb he hpl).run pins s σ H Q I h
end
end WS
set_option maxRecDepth 100000
set_option maxHeartbeats 4000000
/-! an own error class whose __init__ calls that of an own base class without one -/
namespace WS
open PySem PySem.Spec PyProof.Rows L2
/-- what the written part says of the own base class B: its __init__ is ValueError's -/
structure BaseC (K : PySem.W.Frag) (B : Addr) : Prop where
  rd : PySem.W.readsIn K B (.type "type") = true
  ga : PySem.W.specialIn K (.ref B) "__getattribute__" = some (some (.builtin "type.__getattribute__"))
  it : PySem.W.findCls K (.ref B) (.type "type") "__init__" = some (.val (.builtin "ValueError.__init__"))
section
variable {X : Cx} {e : Expr} {es : List Expr} {ta : TA} {x : Str} {B C : Addr} {p p1 p2 pos : Pos}
theorem pe_baseinit {pl : Sem Bool} (hg : Gl X x) (hm : X.mg x = some (.ref B)) (T : BaseC X.K B) (ha : PA X (e :: es) ta) (hdb : (x == ("__debug__" : Str)) = false := by decide)
    (hc : eval (.Call (.Attribute (.Name x p1) "__init__" p2) (e :: es) [] pos) X.env = (do
      let ov ← eval (.Name x p1) X.env
      standAt p2.atName
      let (f, first) ← holding [ov] (getMethod ov "__init__" pl)
      callWith pos f first (backTo pos (starEach (e :: es) X.env)) (backToKw pos (keywordEach [] X.env))) := by rfl)
    (he : starEach (e :: es) X.env = (false, eval e X.env) :: starEach es X.env := by rfl) (hpl : (backTo pos (starEach es X.env)).any (·.1) = false := by rfl) :
    PE X (.Call (.Attribute (.Name x p1) "__init__" p2) (e :: es) [] pos) (tVeI X.K ta) := by
  refine ⟨fun pins s σ H Q I h => ?_⟩
  refine PySem.W.methodCall_KW (ld_glob I hg hm ?_ hdb) hc
  refine PySem.W.method_cls I.kIn T.ga (PySem.W.cls_value I.kIn T.rd T.it (by decide +kernel) ?_)
  show wpAny _ _ (callWith pos (Value.builtin "ValueError.__init__") [] (backTo pos (starEach (e :: es) X.env)) []) _ _ _
  refine PyProof.Rows.callWith_method1 (thn (ha.run pos pins _ σ H _ (I.tok _) h) fun us s1 ⟨vs, H1, I1, r1, a, C, ws, ev, hl, T, ea, q⟩ => ?_) he hpl
  subst ev
  cases r1 with
  | @cons _ u0 _ ur ra rw' =>
    obtain rfl : u0 = Value.ref a := ra
    have hlen : ur.length ≤ sizeLine := by
      rw [← Paired.length rw', sizeLine_eq]
      omega
    exact oinit_ok T I1 ea hlen fun s' J => ⟨.non, H1, J, rfl, q⟩
end
end WS
namespace L2N
open PySem PySem.Spec PyProof.Rows L2
section
variable {X : Cx} {e : Expr} {es : List Expr} {ta : TA}
theorem pmk_oex {CX : CXT} {x : Str} {C fI : Addr} {k : Nat} {fd : FuncData} {ps : List Str} {sp : Sp} {ds : List Value} {dvs : List V} {p pos : Pos} (T : OexC X.K C) (iC : PySem.W.findIn X.K (.ref C) "__init__" = some (some (.ref fI))) (tI : PySem.W.typeIn X.K (.ref fI) = some (.type "function"))
    (F1 : FnOk X.prog X.w X.K X.mg X.base CX k fI fd ps sp) (hr : Room (k + 1) X.A) (hb : Binds X.K fd ps ds) (hd : Vals dvs ds) (hx : Passes CX X (fun _ _ _ => False)) (hg : Gl X x) (hm : X.mg x = some (.ref C)) (ha : PA X (e :: es) ta)
    (hdb : (x == ("__debug__" : Str)) = false := by decide) (he : starEach (e :: es) X.env = (false, eval e X.env) :: starEach es X.env := by rfl) (hpl : (backTo pos (starEach es X.env)).any (·.1) = false := by rfl) :
    L2N.PMk X (.Call (.Name x p) (e :: es) [] pos) (tMkO C sp dvs ta) := by
  obtain ⟨nm, q, N, bs, bm, sn, sub, ab, col, dd, k0, k1, k2, k3, k5, hC, hbm⟩ := T.cls
  intro pins s σ H Q I h
  refine wpAny_Call_Name_kw (ld_glob I hg hm (PySem.W.callWith_K (h₀ := X.base) I.ok.mod.kin T.kC (thn (ha.run pos pins s σ H _ I h) fun us s1 hs1 => ?_) he hpl) hdb)
  obtain ⟨vs, H1, I1, r1, hz, q1⟩ := hs1
  refine ⟨I1.kIn, ?_⟩
  show wpAny _ _ (call (.ref C) us) _ _ _
  obtain ⟨hp, g, dr, tk, os⟩ := s1
  -- where the tuple of its arguments and itself are laid
  have up : hp.objs.size ≤ hp.objs.size + 1 := Nat.le_succ _
  have hq := q1 (hp.objs.size + 1) (I1.hok.fresh up)
  have keep : ∀ b o, hp.get? b = some o → ((hp.push (PySem.W.kdv_tup us)).push (PySem.HandSPX.excO C hp.objs.size)).get? b = some o := fun b o e => Heap.get?_push_of_some _ (Heap.get?_push_of_some _ e)
  have I2 : Inv X pins σ (upd H1 (hp.objs.size + 1) (exo (hp.objs.size + 1) C none)) ⟨(hp.push (PySem.W.kdv_tup us)).push (PySem.HandSPX.excO C hp.objs.size), g, dr, tk, os⟩ :=
    I1.laid (t' := tk) (a := hp.objs.size + 1) (o := exo (hp.objs.size + 1) C none) (h' := (hp.push (PySem.W.kdv_tup us)).push (PySem.HandSPX.excO C hp.objs.size)) keep up (exo_ok (by heap_get))
  have r2 : Vals (V.ref (hp.objs.size + 1) :: (vs ++ dvs)) (Value.ref (hp.objs.size + 1) :: (us ++ ds)) := .cons rfl (r1.append hd)
  have hl : (Value.ref (hp.objs.size + 1) :: us ++ ds).length = ps.length := r2.length.symm.trans (F1.len _ _ _ _ hq)
  have hus : us.length ≤ sizeLine := by
    have := Paired.length r1
    rw [sizeLine_eq]
    omega
  have body := F1.run _ X.stack _ _ ⟨Value.ref (hp.objs.size + 1) :: us, []⟩ (Value.ref (hp.objs.size + 1) :: (us ++ ds)) _ _ (fun _ _ _ => False) (hr.make C us []) (I2.env0.make C us []) (hb _ (Value.ref (hp.objs.size + 1) :: us) I2.kIn hl) r2 hq
  refine wpAny_call (PySem.HandSPX.call_own F.excBase_ValueError (fun Y => PySem.HandSPX.refsVE_contains Y bm hbm) (I1.kIn _ _ hC) (PySem.W.looks_findIn I1.kIn iC) (fun self => PySem.W.bind_fn I1.kIn self tI) hus (codeAny_mono body fun r s' hq' => ?_))
  match r, hq' with
  | .error er, hq' => exact hx pins σ _ _ er s' I2 hq'
  | .ok .next, hq' => exact False.elim hq'
  | .ok .brk, hq' => exact False.elim hq'
  | .ok .cont, hq' => exact False.elim hq'
  | .ok (.ret u), hq' =>
    obtain ⟨v, H2, os2, bare2, un2, hok2, rv, ev, d, fs, ea, ed, hd1, q2⟩ := hq'
    subst ev
    obtain ⟨h2, g2, d2, t2, os'⟩ := s'
    obtain ⟨t0, G, J, kG, ge, hoe, na⟩ := mk_end0 (d2 := d2) (t2 := t2) I1 up keep un2 hok2 os2 bare2 ea ed hd1
    exact ⟨rv, ⟨hp.objs.size + 1, _, _, ⟨G, g2, d2, t2, os'⟩, _, .ref C, some d, rfl, J, kG, ge, hoe, ⟨rfl, rfl, fun vs hv => by cases hv; rfl⟩, rfl, rfl, na, rfl, bare2, raises_own T.exC T.tyC, q2⟩⟩
end
end L2N
set_option maxRecDepth 100000
set_option maxHeartbeats 8000000
namespace WS
open PySem L2
/-- what a BadSheet tells -/
def badFs (at_ : Int) (why : Str) : List (Str × V) := [("why", .str why), ("at", .int at_)]
def spBsInit (K : PySem.W.Frag) (C : Addr) : Sp := fun vs H Q _ => ∃ (a : Addr) (at_ : Int) (why : Str), vs = [.ref a, .int at_, .str why] ∧ H a = some (exo a C none) ∧ 0 ≤ at_ ∧ at_ ≤ 100 ∧ why.length ≤ 100 ∧
  ∀ d, H d = none → d ≠ a → Q .non (upd (upd (upd H d (exd d [("at", .int at_)])) a (exo a C (some d))) d (exd d (badFs at_ why)))
section
variable {P : Program} {w : World} {K : PySem.W.Frag} {mg : Str → Option Value} {base : Heap}
theorem scBsInit : FnScope ["self", "at", "why"] ["self", "at", "why"] (defScope sBsInit) := ⟨rfl, rfl, rfl, by decide +kernel, rfl, by decide +kernel, by decide +kernel⟩
theorem int_small : ∀ n : Nat, n ≤ 100 → (toString (n : Int) : Str).length ≤ 3 := by decide +kernel
theorem ok_bsinit {f C B : Addr} {fd : FuncData} (F : Fun K "__init__" "BadSheet.__init__" sBsInit f fd) (T : OexC K C) (g_SumError : mg "SumError" = some (.ref B)) (TB : BaseC K B)
    (n_at : PySem.W.findIn K (.ref C) "at" = some none) (n_why : PySem.W.findIn K (.ref C) "why" = some none) :
    FnOk P w K mg base CX0 1 f fd ["self", "at", "why"] (spBsInit K C) := by
  refine F.ok scBsInit (fun vs H Q E h => ?_) (fun cdv A outer s H vs Q E hr h => ?_)
  · obtain ⟨a, at_, why, rfl, _⟩ := h
    rfl
  · obtain ⟨a, at_, why, rfl, ha, h0, h1, hw, k⟩ := h
    have nd := scBsInit.nd
    refine ⟨_, pss_cons (ps_expr (pe_baseinit (by rfl) g_SumError TB (pa_cons (pv 0) (pa_cons (pe_joined (.cons pe_str (.cons (pe_fmt (pv 1)) (.cons pe_str (.cons (pe_fmt (pv 2)) .nil))))) pa_nil)))) (pss_cons (ps_ost (pv 0) (pv 1)) (pss_one (ps_ost (pv 0) (pv 2)))), ?_⟩
    obtain ⟨n, rfl⟩ : ∃ n : Nat, at_ = (n : Int) := ⟨at_.toNat, by omega⟩
    have hn := int_small n (by omega)
    have hlog : ((n : Int)).natAbs.log2 < 1920 := by
      have e1 : (n : Int).natAbs = n := Int.natAbs_natCast n
      rw [e1]
      exact Nat.lt_of_le_of_lt (Nat.le_trans (Nat.log2_le_self n) (by omega : n ≤ 100)) (by decide)
    refine ⟨_, rfl, _, rfl, ?_, _, rfl, .inr ⟨(n : Int), rfl, hlog, _, rfl, ?_, _, rfl, ?_, _, rfl, .inl ⟨why, rfl, line_of (by omega), _, rfl, ?_, a, C, [_], rfl, by show 1 ≤ 1000; decide, T, ha, ?_⟩⟩⟩
    · exact line_of (by decide)
    · refine line_of ?_
      rw [PySem.Str.length_append]
      have : (Str.empty ++ Str.ofString "sum ").length = 4 := by decide
      omega
    · refine line_of ?_
      rw [PySem.Str.length_append, PySem.Str.length_append]
      have : (Str.empty ++ Str.ofString "sum ").length = 4 := by decide
      have : (Str.ofString ": ").length = 2 := by decide
      omega
    · refine line_of ?_
      rw [PySem.Str.length_append, PySem.Str.length_append, PySem.Str.length_append]
      have : (Str.empty ++ Str.ofString "sum ").length = 4 := by decide
      have : (Str.ofString ": ").length = 2 := by decide
      omega
    refine ⟨_, rfl, _, rfl, a, C, rfl, T, n_at, .inl ⟨ha, fun dx hdx hne => ?_⟩⟩
    have e1 : (upd (upd H dx (exd dx [("at", V.int (n : Int))])) a (exo a C (some dx))) a = some (exo a C (some dx)) := upd_same
    have e2 : (upd (upd H dx (exd dx [("at", V.int (n : Int))])) a (exo a C (some dx))) dx = some (exd dx [("at", V.int (n : Int))]) := (upd_ne hne).trans upd_same
    exact ⟨_, rfl, _, rfl, a, C, rfl, T, n_why, .inr ⟨dx, _, e1, e2, by show 1 ≤ 900; decide, k dx hdx hne⟩⟩
end
end WS
set_option maxRecDepth 100000
set_option maxHeartbeats 8000000
namespace WS
open PySem L2 SetT
/-- how a BadSheet is raised -/
structure BadTxt (P : Program) (w : World) (K : PySem.W.Frag) (mg : Str → Option Value) (base : Heap) (C f : Addr) (fd : FuncData) : Prop where
  T : OexC K C
  iC : PySem.W.findIn K (.ref C) "__init__" = some (some (.ref f))
  tI : PySem.W.typeIn K (.ref f) = some (.type "function")
  F1 : FnOk P w K mg base CX0 1 f fd ["self", "at", "why"] (spBsInit K C)
  b : Binds K fd ["self", "at", "why"] []
  g : mg "BadSheet" = some (.ref C)
/-- an exception that tells at_ and why -/
def badE (C : Addr) (H : Hp) (E : XK) (at_ : Int) (why : Str) : Prop := ∀ (d : Addr) (H' : Hp), H d = none → Same H H' → H' d = some (.xd (badFs at_ why)) → E (.ref C) (some d) H'
theorem badE.same {C : Addr} {H H1 : Hp} {E : XK} {at_ : Int} {why : Str} (h : badE C H E at_ why) (e : Same H H1) : badE C H1 E at_ why := fun d H' hd s hx => h d H' (Same.free e hd) (e.trans s) hx
theorem raise_bad {K : PySem.W.Frag} {C : Addr} {H : Hp} {E : XK} {at_ : Int} {why : Str} (h : badE C H E at_ why) (h0 : 0 ≤ at_) (h1 : at_ ≤ 100) (hw : why.length ≤ 100) (a : Addr) (ha : H a = none) :
    spBsInit K C [.ref a, .int at_, .str why] (upd H a (exo a C none)) (fun v H2 => v = .non ∧ ∃ (d : Addr) (fs : List (Str × V)), H2 a = some (exo a C (some d)) ∧ H2 d = some (exd d fs) ∧ H d = none ∧ E (.ref C) (some d) (upd (del H2 a) d (.xd fs))) (fun _ _ _ => False) := by
  refine ⟨a, at_, why, rfl, upd_same, h0, h1, hw, fun d hd hne => ?_⟩
  have hd0 : H d = none := by rw [upd_ne hne] at hd; exact hd
  refine ⟨rfl, d, badFs at_ why, (upd_ne (Ne.symm hne)).trans upd_same, upd_same, hd0, h d _ hd0 (fun c o e => ?_) upd_same⟩
  have hcd : c ≠ d := ne_of_none e hd0
  have hca : c ≠ a := ne_of_none e ha
  rw [upd_ne hcd, del_ne hca, upd_ne hcd, upd_ne hca, upd_ne hcd, upd_ne hca]
  exact e
def countsBad (b : Int) (n : Nat) : Option Str := if 2 ≤ b ∧ b ≤ 12 then (if 1 ≤ n ∧ n ≤ 3 then none else some "sums") else some "base"
def spCountsX (C : Addr) : Sp := fun vs H Q E => ∃ (b : Int) (sl : Addr) (xs : List V), vs = [.int b, .ref sl] ∧ H sl = some (.lst xs) ∧ (countsBad b xs.length = none → Q .non H) ∧ ∀ why, countsBad b xs.length = some why → badE C H E 0 why
section
variable {P : Program} {w : World} {K : PySem.W.Frag} {mg : Str → Option Value} {base : Heap}
theorem ok_countsX {f C fB : Addr} {fd fdB : FuncData} {t1 t2 t3 : Tok} (F : Fun K "check_counts" "check_counts" sCounts f fd) (R : BadTxt P w K mg base C fB fdB) (z_len : mg "len" = none) (m_LEAST_BASE : mg "LEAST_BASE" = some (.int 2 t1)) (m_MOST_BASE : mg "MOST_BASE" = some (.int 12 t2)) (m_MOST_SUMS : mg "MOST_SUMS" = some (.int 3 t3)) :
    FnOk P w K mg base (L2N.CX P w) 3 f fd ["base", "sums"] (spCountsX C) := by
  refine okN F scCounts (fun vs H Q E h => ?_) (fun cdv A outer s H vs Q E hr h => ?_)
  · obtain ⟨b, sl, xs, rfl, _⟩ := h
    rfl
  · obtain ⟨b, sl, xs, rfl, hsl, k, kE⟩ := h
    have nd := scCounts.nd
    have hrI : Room (1 + 1) _ := hr
    refine ⟨_, (pss_cons (ps_if (pt_not (pt_chain op_le op_le (pe_glob (v := .int 2) (by rfl) m_LEAST_BASE ⟨_, rfl⟩) (pv 0) (pe_glob (v := .int 12) (by rfl) m_MOST_BASE ⟨_, rfl⟩))) (pss_one (L2N.ps_raise rfl (L2N.takes_of rfl rfl rfl rfl) (L2N.pmk_oex R.T R.iC R.tI R.F1 hrI R.b .nil pass0 (by rfl) R.g (pa_cons pe_int (pa_cons pe_str pa_nil))))) pss_nil)
      (pss_one (ps_if (pt_not (pt_chain op_le op_le pe_int (pe_callB call_len_seq (by rfl) z_len PySem.boot_len (pa_cons (pv 1) pa_nil)) (pe_glob (v := .int 3) (by rfl) m_MOST_SUMS ⟨_, rfl⟩))) (pss_one (L2N.ps_raise rfl (L2N.takes_of rfl rfl rfl rfl) (L2N.pmk_oex R.T R.iC R.tI R.F1 hrI R.b .nil pass0 (by rfl) R.g (pa_cons pe_int (pa_cons pe_str pa_nil))))) pss_nil))), ?_⟩
    unfold countsBad at k kE
    refine ⟨_, rfl, _, _, rfl, rfl, _, rfl, ?_⟩
    by_cases b2 : 2 ≤ b
    case neg =>
      rw [decide_eq_false b2]
      refine iteF ⟨_, rfl, iteT ⟨by show 2 ≤ 1000; decide, fun a ha => raise_bad (kE "base" (by rw [if_neg fun h => b2 h.1])) (by decide) (by decide) (by decide) a ha⟩⟩
    rw [decide_eq_true b2]
    refine iteT ⟨_, _, rfl, rfl, _, rfl, ?_⟩
    by_cases b12 : b ≤ 12
    case neg =>
      rw [decide_eq_false b12]
      refine iteT ⟨by show 2 ≤ 1000; decide, fun a ha => raise_bad (kE "base" (by rw [if_neg fun h => b12 h.2])) (by decide) (by decide) (by decide) a ha⟩
    rw [decide_eq_true b12]
    rw [if_pos ⟨b2, b12⟩] at k kE
    refine iteF ?_
    refine ⟨_, rfl, sl, _, rfl, .inl (SqL.of hsl), _, _, rfl, rfl, _, rfl, ?_⟩
    by_cases n1 : 1 ≤ xs.length
    case neg =>
      rw [decide_eq_false (by omega)]
      refine iteF ⟨_, rfl, iteT ⟨by show 2 ≤ 1000; decide, fun a ha => raise_bad (kE "sums" (by rw [if_neg fun h => n1 h.1])) (by decide) (by decide) (by decide) a ha⟩⟩
    rw [decide_eq_true (by omega)]
    refine iteT ⟨_, _, rfl, rfl, _, rfl, ?_⟩
    by_cases n3 : xs.length ≤ 3
    case neg =>
      rw [decide_eq_false (by omega)]
      refine iteT ⟨by show 2 ≤ 1000; decide, fun a ha => raise_bad (kE "sums" (by rw [if_neg fun h => n3 h.2])) (by decide) (by decide) (by decide) a ha⟩
    rw [decide_eq_true (by omega)]
    exact iteF (k (by rw [if_pos ⟨n1, n3⟩]))
end
def checkAt (b : Int) (ss : List WSum) (i : Nat) : Option Str := match ss[i]? with
  | none => none
  | some s => if 1 ≤ s.1.length ∧ s.1.length ≤ 4 then (if (s.1 ++ [s.2]).all isWord = true then (if min 8 b < ((metS (signsOf (wordsOf (ss.take (i + 1))))).length : Int) then some "letters" else none) else some "word") else some "addends"
theorem checkAt_at {b : Int} {ss : List WSum} {i : Nat} {s : WSum} (h : ss[i]? = some s) : checkAt b ss i = (if 1 ≤ s.1.length ∧ s.1.length ≤ 4 then (if (s.1 ++ [s.2]).all isWord = true then (if min 8 b < ((metS (signsOf (wordsOf (ss.take (i + 1))))).length : Int) then some ("letters" : Str) else none) else some ("word" : Str)) else some ("addends" : Str) : Option Str) := by
  unfold checkAt
  rw [h]
theorem fine_of {b : Int} {ss : List WSum} {i : Nat} {s : WSum} (h : ss[i]? = some s) (e : checkAt b ss i = none) : (1 ≤ s.1.length ∧ s.1.length ≤ 4) ∧ (s.1 ++ [s.2]).all isWord = true := by
  rw [checkAt_at h] at e
  by_cases h1 : 1 ≤ s.1.length ∧ s.1.length ≤ 4
  · rw [if_pos h1] at e
    by_cases h2 : (s.1 ++ [s.2]).all isWord = true
    · exact ⟨h1, h2⟩
    · rw [if_neg h2] at e; cases e
  · rw [if_neg h1] at e; cases e
def spCheckX (C : Addr) : Sp := fun vs H Q E => ∃ (b : Int) (sl : Addr) (ts : List Addr) (ss : List WSum), vs = [.int b, .ref sl] ∧ H sl = some (.lst (ts.map V.ref)) ∧ SumsAt H ts ss ∧ ss.length ≤ 10 ∧ (∀ s ∈ ss, s.1.length ≤ 10) ∧ (∀ z ∈ wordsOf ss, z.length ≤ 100) ∧
  ((∀ i, i < ss.length → checkAt b ss i = none) → ∀ H', Same H H' → Q .non H') ∧
  ∀ (i : Nat) (why : Str), (∀ j, j < i → checkAt b ss j = none) → checkAt b ss i = some why → badE C H E (i : Int) why
section
variable {P : Program} {w : World} {K : PySem.W.Frag} {mg : Str → Option Value} {base : Heap}
theorem ok_checkX {f fI C fB : Addr} {fd fdI fdB : FuncData} {t1 t2 : Tok} (F : Fun K "check_sums" "check_sums" sCheck f fd) (R : BadTxt P w K mg base C fB fdB) (z_len : mg "len" = none) (z_set : mg "set" = none) (z_all : mg "all" = none) (z_min : mg "min" = none) (z_enumerate : mg "enumerate" = none)
    (m_MOST_ADDENDS : mg "MOST_ADDENDS" = some (.int 4 t1)) (m_MOST_LETTERS : mg "MOST_LETTERS" = some (.int 8 t2)) (S_is_word : Site K mg "is_word" fI fdI ["text"]) (G_is_word : FnOk P w K mg base CX0 1 fI fdI ["text"] spIsWord) :
    FnOk P w K mg base (L2N.CX P w) 3 f fd ["base", "sums"] (spCheckX C) := by
  refine okN F scCheck (fun vs H Q E h => ?_) (fun cdv A outer s H vs Q E hr h => ?_)
  · obtain ⟨b, sl, ts, ss, rfl, _⟩ := h
    rfl
  · obtain ⟨b, sl, ts, ss, rfl, hsl, hsa, hss10, hs10, hz100, k, kE⟩ := h
    have nd := scCheck.nd
    have hr_is_word : Room 1 _ := hr.mono (by decide)
    have hrI : Room (1 + 1) _ := hr
    refine ⟨_, (pss_cons (ps_set (i := 2) nd rfl (.inl rfl) (pe_lst pa_nil))
      (pss_one (ps_for (passes_of rfl) rfl (pi_enum (by rfl) z_enumerate (pa_cons (pv 1) pa_nil)) (pg_tup rfl (pgs_cons (pg_name (i := 3) nd rfl (.inl rfl)) (pgs_cons (pg_tup rfl (pgs_cons (pg_name (i := 4) nd rfl (.inl rfl)) (pgs_cons (pg_name (i := 5) nd rfl (.inl rfl)) pgs_nil))) pgs_nil))) (pss_cons (ps_if (pt_not (pt_chain op_le op_le pe_int (pe_callB call_len_seq (by rfl) z_len PySem.boot_len (pa_cons (pv 4) pa_nil)) (pe_glob (v := .int 4) (by rfl) m_MOST_ADDENDS ⟨_, rfl⟩))) (pss_one (L2N.ps_raise rfl (L2N.takes_of rfl rfl rfl rfl) (L2N.pmk_oex R.T R.iC R.tI R.F1 hrI R.b .nil pass0 (by rfl) R.g (pa_cons (pv 3) (pa_cons pe_str pa_nil))))) pss_nil)
      (pss_cons (ps_if (pt_not (pt_val (pe_callB (cr_all rfl) (by rfl) z_all (by decide +kernel) (pa_cons (pe_lc (own := [("word", 6)]) (g := (gName 6)) (tt := tYes) rfl nd (pi_tup (pe_tup (StX.pa_star (pv 4) (pa_cons (pv 5) pa_nil)))) (blkOk_by (own := [("word", 6)]) (N := ["base", "sums", "words", "at", "addends", "total", "word"]) (sc := defScope sCheck) (by decide +kernel)) (fun _ _ _ _ _ => (pg_name (i := 6) nd rfl (.inl rfl))) (fun _ _ _ _ _ => pts_nil) (fun _ _ _ _ _ => (pe_call G_is_word hr_is_word (by rfl) S_is_word.g S_is_word.k S_is_word.b .nil pass0 (pa_cons (pv 6) pa_nil)))) pa_nil)))) (pss_one (L2N.ps_raise rfl (L2N.takes_of rfl rfl rfl rfl) (L2N.pmk_oex R.T R.iC R.tI R.F1 hrI R.b .nil pass0 (by rfl) R.g (pa_cons (pv 3) (pa_cons pe_str pa_nil))))) pss_nil)
      (pss_cons (ps_expr (pe_bm PySem.F.plainAttrs_list PySem.F.slot_list_extend PySem.F.type_list_extend mt_extend (pv 2) (pa_cons (pe_lst (StX.pa_star (pv 4) (pa_cons (pv 5) pa_nil))) pa_nil)))
      (pss_one (ps_if (pt_cmpR op_gt (pe_lenSetT (by rfl) z_len (by rfl) z_set (pe_join pe_str (pv 2))) (pe_callB (call_min2 rfl) (by rfl) z_min (by decide +kernel) (pa_cons (pe_glob (v := .int 8) (by rfl) m_MOST_LETTERS ⟨_, rfl⟩) (pa_cons (pv 0) pa_nil))) (nomark _)) (pss_one (L2N.ps_raise rfl (L2N.takes_of rfl rfl rfl rfl) (L2N.pmk_oex R.T R.iC R.tI R.F1 hrI R.b .nil pass0 (by rfl) R.g (pa_cons (pv 3) (pa_cons pe_str pa_nil))))) pss_nil)))))))), ?_⟩
    refine ⟨by show 0 ≤ sizeLine; decide, fun wl hwl => ?_⟩
    have hslw : sl ≠ wl := ne_of_none hsl hwl
    refine ⟨_, rfl, sl, _, rfl, SqL.of ((upd_ne hslw).trans hsl), for_it (walk_enum (xs := ts.map V.ref)) (fun i σ H2 => ∃ v3 v4 v5, σ = [some (.int b), some (.ref sl), some (.ref wl), v3, v4, v5, none] ∧ Same H H2 ∧ H2 wl = some (.lst ((wordsOf (ss.take i)).map V.str)) ∧ ∀ j, j < i → checkAt b ss j = none)
      ⟨none, none, none, rfl, Same.new hwl, upd_same, fun j hj => absurd hj (Nat.not_lt_zero j)⟩ (fun i σ H2 _ ⟨_, _, _, _, s2, _⟩ => SqL.of (s2 _ _ hsl)) ?_ ?_⟩
    · rintro i x σ H2 H3 hi ⟨v3, v4, v5, rfl, s2, hw, hfine⟩ ⟨T, x1, x2, rfl, hT, rfl, e1, e2⟩
      rw [List.length_map] at hi
      have e1' : x1 = .int (i : Nat) := (Option.some.inj e1).symm
      subst e1'
      obtain ⟨t, ht, rfl⟩ := refs_at e2
      have hiss : i < ss.length := hsa.len ▸ hi
      have hs : ss[i]? = some ss[i] := List.getElem?_eq_getElem hiss
      generalize hsg : ss[i] = sm at hs
      have hsm : sm ∈ ss := List.mem_of_getElem? hs
      have s3 : Same H (upd H2 T (.tup [.int (i : Nat), .ref t])) := s2.trans (Same.new hT)
      obtain ⟨u, ht1, hu1⟩ := (hsa.get i t sm ht hs).same s3
      have hwT : wl ≠ T := ne_of_none hw hT
      have hw3 : (upd H2 T (.tup [.int (i : Nat), .ref t])) wl = some (.lst ((wordsOf (ss.take i)).map V.str)) := (upd_ne hwT).trans hw
      have hTu : (upd H2 T (.tup [.int (i : Nat), .ref t])) T = some (.tup [.int (i : Nat), .ref t]) := upd_same
      generalize upd H2 T (.tup [.int (i : Nat), .ref t]) = H3 at s3 ht1 hu1 hw3 hTu
      have hkE := fun why h => (kE i why hfine h)
      have hcat := checkAt_at (b := b) hs
      have hn10 := hs10 sm hsm
      have hi10 : (0 : Int) ≤ ((i : Nat) : Int) ∧ ((i : Nat) : Int) ≤ 100 := ⟨by omega, by omega⟩
      refine ⟨T, _, rfl, SqT.of hTu, rfl, _, _, rfl, _, _, rfl, t, _, rfl, SqT.of ht1, rfl, _, _, rfl, _, _, rfl, rfl, rfl, ?_⟩
      -- the count of the addends
      refine ⟨_, rfl, u, _, rfl, .inr (SqT.of hu1), _, _, rfl, rfl, _, rfl, ?_⟩
      rw [List.length_map]
      by_cases m1 : 1 ≤ sm.1.length
      case neg =>
        rw [decide_eq_false (by omega)]
        refine iteF ⟨_, rfl, iteT ⟨_, rfl, by show 2 ≤ 1000; decide, fun a ha => raise_bad ((hkE "addends" (by rw [hcat, if_neg fun h => m1 h.1])).same s3) hi10.1 hi10.2 (by decide) a ha⟩⟩
      rw [decide_eq_true (by omega)]
      refine iteT ⟨_, _, rfl, rfl, _, rfl, ?_⟩
      by_cases m4 : sm.1.length ≤ 4
      case neg =>
        rw [decide_eq_false (by omega)]
        refine iteT ⟨_, rfl, by show 2 ≤ 1000; decide, fun a ha => raise_bad ((hkE "addends" (by rw [hcat, if_neg fun h => m4 h.2])).same s3) hi10.1 hi10.2 (by decide) a ha⟩
      rw [decide_eq_true (by omega)]
      rw [if_pos ⟨m1, m4⟩] at hcat
      refine iteF ?_
      -- its words
      refine ⟨_, rfl, u, _, rfl, .inl (SqT.of hu1), _, rfl, ?_, fun q hq => ?_⟩
      · rw [List.length_append, List.length_map]
        exact line_of (by show _ + 1 ≤ _; omega)
      refine ⟨q, rfl, ⟨_, SqT.of upd_same⟩, fun D hD => ?_⟩
      have hqD : q ≠ D := ne_of_none upd_same hD
      have hD3 : H3 D = none := by rw [upd_ne (Ne.symm hqD)] at hD; exact hD
      have hwq : wl ≠ q := ne_of_none hw3 hq
      have hwD : wl ≠ D := ne_of_none hw3 hD3
      refine lc_tup (K := K) (a := q) (xs := sm.1.map V.str ++ [.str sm.2]) (fun j H4 => H4 D = some (.lst ((((sm.1 ++ [sm.2]).take j).map isWord).map V.bl)) ∧ Same (upd H3 q (.tup (sm.1.map V.str ++ [.str sm.2]))) H4)
        ⟨upd_same, Same.new hD⟩ (fun j H4 _ ⟨_, s4⟩ => SqT.of (s4 _ _ upd_same)) ?_ ?_
      · rintro j y H4 hj ⟨hD4, s4⟩
        have hy : sm.1.map V.str ++ [V.str sm.2] = (sm.1 ++ [sm.2]).map V.str := by rw [List.map_append] <;> rfl
        rw [hy] at hj
        obtain ⟨z, hz, rfl⟩ := strs_at' hj
        have hjl : j < (sm.1 ++ [sm.2]).length := (List.getElem?_eq_some_iff.mp hz).1
        rw [List.length_append] at hjl
        have hjl' : j < sm.1.length + 1 := hjl
        have hzm : z ∈ wordsOf ss := by
          have := List.mem_of_getElem? hz
          refine mem_wordsOf hsm ?_
          rcases List.mem_append.mp this with h | h
          · exact .inl h
          · exact .inr (by simpa using h)
        refine ⟨rfl, _, rfl, z, rfl, by have := hz100 z hzm; omega, fun H5 s5 => ?_⟩
        refine ⟨_, s5 _ _ hD4, ?_, ?_, ?_⟩
        · rw [List.length_map, List.length_map, List.length_take]
          exact line_lt (by omega)
        · rw [upd_same, List.take_add_one, hz, List.map_append, List.map_append] <;> rfl
        · exact Same.mut (s4.trans s5) hD
      · rintro H4 ⟨hD4, s4⟩
        rw [List.length_append, List.length_map, show sm.1.length + [V.str sm.2].length = (sm.1 ++ [sm.2]).length from by rw [List.length_append] <;> rfl, List.take_length] at hD4
        refine ⟨D, _, rfl, SqL.of hD4, _, rfl, ?_⟩
        have ea : ((sm.1 ++ [sm.2]).map isWord).all id = (sm.1 ++ [sm.2]).all isWord := by rw [List.all_map] <;> rfl
        rw [ea]
        have s34 : Same H3 H4 := (Same.new hq).trans s4
        have s04 : Same H H4 := s3.trans s34
        cases haw : (sm.1 ++ [sm.2]).all isWord
        · refine iteT ⟨_, rfl, by show 2 ≤ 1000; decide, fun a ha => raise_bad ((hkE "word" (by rw [hcat, if_neg (by rw [haw]; decide)])).same s04) hi10.1 hi10.2 (by decide) a ha⟩
        rw [if_pos haw] at hcat
        refine iteF ?_
        have hfw : ∀ z ∈ wordsOf (ss.take (i + 1)), isWord z = true := fun z hz => by
          rw [wordsOf_take hs] at hz
          rcases List.mem_append.mp hz with h | h
          · unfold wordsOf at h
            obtain ⟨q, hq, hzq⟩ := List.mem_flatten.mp h
            obtain ⟨s', hs', rfl⟩ := List.mem_map.mp hq
            obtain ⟨j, hj⟩ := List.mem_iff_getElem?.mp hs'
            have hji : j < i := by
              have := (List.getElem?_eq_some_iff.mp hj).1
              rw [List.length_take] at this
              omega
            rw [List.getElem?_take, if_pos hji] at hj
            exact List.all_eq_true.mp (fine_of hj (hfine j hji)).2 z hzq
          · exact List.all_eq_true.mp haw z h
        have hw6 : ∀ z ∈ wordsOf (ss.take (i + 1)), 1 ≤ z.length ∧ z.length ≤ 6 := fun z hz => (isWord_iff.mp (hfw z hz)).1
        have hmany : ∀ s ∈ ss.take (i + 1), s.1.length ≤ 4 := fun s' hs' => by
          obtain ⟨j, hj⟩ := List.mem_iff_getElem?.mp hs'
          have hji : j < i + 1 := by
            have := (List.getElem?_eq_some_iff.mp hj).1
            rw [List.length_take] at this
            omega
          rw [List.getElem?_take, if_pos hji] at hj
          by_cases e : j = i
          · subst e
            cases Option.some.inj (hs.symm.trans hj)
            exact m4
          · exact (fine_of hj (hfine j (by omega))).1.2
        have hw4 := s34 _ _ hw3
        -- words.extend
        refine ⟨_, rfl, .inl ⟨rfl, _, SqL.of hw4⟩, _, rfl, u, _, rfl, .inl (SqT.of (s34 _ _ hu1)), _, rfl, ?_, fun q2 hq2 => ?_⟩
        · rw [List.length_append, List.length_map]
          exact line_of (by show _ + 1 ≤ _; omega)
        have hwl4 := wordsOf_len (ss := ss.take i) fun s' hs' => hmany s' (by rw [List.take_add_one]; exact List.mem_append_left _ hs')
        rw [List.length_take] at hwl4
        refine ⟨wl, q2, _, _, rfl, rfl, (upd_ne (ne_of_none hw4 hq2)).trans hw4, upd_same, ?_, ?_⟩
        · rw [List.length_map, List.length_append, List.length_map]
          exact line_of (by show _ + (_ + 1) ≤ _; omega)
        have ew : (wordsOf (ss.take i)).map V.str ++ (sm.1.map V.str ++ [V.str sm.2]) = (wordsOf (ss.take (i + 1))).map V.str := by
          rw [wordsOf_take hs, List.map_append, List.map_append] <;> rfl
        rw [ew]
        -- the letters so far
        have hwl5 := wordsOf_len (ss := ss.take (i + 1)) hmany
        rw [List.length_take] at hwl5
        have hsum := sum_lens (ws := wordsOf (ss.take (i + 1))) (m := 6) fun z hz => (hw6 z hz).2
        have hjs := join_signsOf (wordsOf (ss.take (i + 1)))
        have hjl := signsOf_len (ws := wordsOf (ss.take (i + 1))) (m := 6) fun z hz => by
          have := (hw6 z hz).2
          have e : z.cps.toList.length = z.length := Array.length_toList
          omega
        refine ⟨⟨_, rfl⟩, _, rfl, _, wl, wordsOf (ss.take (i + 1)), rfl, rfl, .inl (SqL.of upd_same), ?_, ?_⟩
        · show _ + _ * 0 ≤ _
          omega
        refine ⟨_, rfl, ?_, ?_⟩
        · have e : (Txt.join ("" : Str) (wordsOf (ss.take (i + 1)))).cps.toList.length = (Txt.join ("" : Str) (wordsOf (ss.take (i + 1)))).length := Array.length_toList
          rw [hjs] at e
          omega
        rw [hjs]
        refine ⟨_, rfl, _, _, rfl, _, _, rfl, rfl, _, rfl, ?_⟩
        have hsm5 := Same.mut (o := .lst ((wordsOf (ss.take (i + 1))).map V.str)) (s04.trans (Same.new (o := .lst (sm.1.map V.str ++ [V.str sm.2])) hq2)) hwl
        by_cases hL : min 8 b < ((metS (signsOf (wordsOf (ss.take (i + 1))))).length : Int)
        · rw [decide_eq_true (by split <;> omega)]
          exact iteT ⟨_, rfl, by show 2 ≤ 1000; decide, fun a ha => raise_bad ((hkE "letters" (by rw [hcat, if_pos hL])).same hsm5) hi10.1 hi10.2 (by decide) a ha⟩
        · rw [decide_eq_false (by split <;> omega)]
          refine iteF ⟨_, _, _, rfl, hsm5, upd_same, fun j hj => ?_⟩
          by_cases e : j = i
          · rw [e, hcat, if_neg hL]
          · exact hfine j (by omega)
    · rintro σ H2 ⟨v3, v4, v5, rfl, s2, hw, hfine⟩
      refine k (fun i hi => hfine i ?_) _ s2
      rw [List.length_map, hsa.len]
      exact hi
end
end WS
set_option maxRecDepth 100000
set_option maxHeartbeats 4000000
/-! making an instance where the __init__ may raise, what it lets out read at the place of the call -/
namespace WS
open PySem PySem.Spec PyProof.Rows L2
def tMakeS (C : Addr) (sp : Sp) (E : L2.St → XK) (t : TA) : TE := fun σ H Q => t σ H fun vs H1 => ∀ x dx, H1 x = none → H1 dx = none → dx ≠ x → sp (.ref x :: vs) (upd (upd H1 dx (.own x)) x (.ins C dx [])) (fun v H2 => v = .non ∧ Q (.ref x) H2) (E σ)
section
variable {X : Cx} {CX : CXT} {C f : Addr} {fd : FuncData} {k : Nat} {ps : List Str} {sp : Sp} {E : L2.St → XK} {x : Str} {e : Expr} {es : List Expr} {t : TA} {p pos : Pos}
theorem pe_makeS (M : Mk X.K C f) (F : FnOk X.prog X.w X.K X.mg X.base CX k f fd ps sp) (hr : Room (k + 1) X.A) (hg : Gl X x) (hm : X.mg x = some (.ref C)) (hb : Binds X.K fd ps []) (hx : ∀ σ, PassesAt CX X σ (E σ))
    (ha : PA X (e :: es) t) (hdb : (x == ("__debug__" : Str)) = false := by decide) (he : starEach (e :: es) X.env = (false, eval e X.env) :: starEach es X.env := by rfl) (hpl : (backTo pos (starEach es X.env)).any (·.1) = false := by rfl) :
    PE X (.Call (.Name x p) (e :: es) [] pos) (tMakeS C sp E t) := by
  refine ⟨fun pins s σ H Q I h => ?_⟩
  refine wpAny_Call_Name_kw (ld_glob I hg hm (PySem.W.callWith_K (h₀ := X.base) I.ok.mod.kin M.kp (thn (ha.run pos pins s σ H _ I h) fun us s1 ⟨vs, H1, I1, r, q⟩ => ⟨I1.kIn, ?_⟩) he hpl) hdb)
  have hq := q (s1.heap.objs.size + 1) s1.heap.objs.size (I1.hok.fresh (Nat.le_succ _)) (I1.hok.fresh (Nat.le_refl _)) (Nat.ne_of_lt (Nat.lt_succ_self _))
  have J := Inv.made (C := C) I1
  have rr : Vals (V.ref (s1.heap.objs.size + 1) :: vs) (Value.ref (s1.heap.objs.size + 1) :: us) := .cons rfl r
  have hl : (Value.ref (s1.heap.objs.size + 1) :: us).length = ps.length := rr.length.symm.trans (F.len _ _ _ _ hq)
  have b2 := hb _ (Value.ref (s1.heap.objs.size + 1) :: us) J.kIn (by rw [List.append_nil]; exact hl)
  rw [List.append_nil] at b2
  have body := F.run _ X.stack _ _ ⟨Value.ref (s1.heap.objs.size + 1) :: us, []⟩ (Value.ref (s1.heap.objs.size + 1) :: us) _ _ (E σ) (hr.make C us []) (J.env0.make C us []) b2 rr hq
  refine wpAny_call (make_map (f := f) I1.kIn M.makes M.init (beq_iff_eq.mp M.fn) (codeAny_mono body fun r s' hq' => ?_))
  match r, hq' with
  | .error u, hq' => exact hx σ pins _ _ u s' J hq'
  | .ok .next, hq' => exact False.elim hq'
  | .ok .brk, hq' => exact False.elim hq'
  | .ok .cont, hq' => exact False.elim hq'
  | .ok (.ret u), hq' =>
    obtain ⟨v, H', J2, rv, ev, q3⟩ := J.after hq'
    subst ev
    exact ⟨rv, ⟨V.ref (s1.heap.objs.size + 1), H', J2, rfl, q3⟩⟩
end
end WS
set_option maxRecDepth 100000
set_option maxHeartbeats 8000000
namespace WS
open PySem L2 SetT
/-- that a sheet cannot be, and what is told of it -/
def BadOf (b : Int) (ss : List WSum) (i : Nat) (why : Str) : Prop := (countsBad b ss.length = some why ∧ i = 0) ∨ (countsBad b ss.length = none ∧ (∀ j, j < i → checkAt b ss j = none) ∧ checkAt b ss i = some why)
def spShInitX (C cBS : Addr) : Sp := fun vs H Q E => ∃ (p dx : Addr) (b : Int) (sl : Addr) (ts : List Addr) (ss : List WSum) (i : Nat) (why : Str), vs = [.ref p, .int b, .ref sl] ∧ H p = some (.ins C dx []) ∧ H sl = some (.lst (ts.map V.ref)) ∧ SumsAt H ts ss ∧ ss.length ≤ 10 ∧ (∀ s ∈ ss, s.1.length ≤ 10) ∧ (∀ z ∈ wordsOf ss, z.length ≤ 100) ∧
  BadOf b ss i why ∧ badE cBS H E (i : Int) why
section
variable {P : Program} {w : World} {K : PySem.W.Frag} {mg : Str → Option Value} {base : Heap}
theorem ok_shinitX {f C cBS fA fB : Addr} {fd fdA fdB : FuncData} (F : Fun K "__init__" "Sheet.__init__" sShInit f fd) (T : SheetTxt K mg C) (z_list : mg "list" = none)
    (S_check_counts : Site K mg "check_counts" fA fdA ["base", "sums"]) (X_check_counts : FnOk P w K mg base (L2N.CX P w) 3 fA fdA ["base", "sums"] (spCountsX cBS))
    (S_check_sums : Site K mg "check_sums" fB fdB ["base", "sums"]) (X_check_sums : FnOk P w K mg base (L2N.CX P w) 3 fB fdB ["base", "sums"] (spCheckX cBS)) :
    FnOk P w K mg base (L2N.CX P w) 4 f fd ["self", "base", "sums"] (spShInitX C cBS) := by
  refine okN F scShInit (fun vs H Q E h => ?_) (fun cdv A outer s H vs Q E hr h => ?_)
  · obtain ⟨p, dx, b, sl, ts, ss, i, why, rfl, _⟩ := h
    rfl
  · obtain ⟨p, dx, b, sl, ts, ss, i, why, rfl, hp, hsl, hsa, h10, hs10, hz100, hbad, kE⟩ := h
    have nd := scShInit.nd
    refine ⟨_, (pss_cons (ps_expr (pe_callS X_check_counts hr (by rfl) S_check_counts.g S_check_counts.k S_check_counts.b (fun σ => L2N.passAt (L2N.takes_of rfl rfl rfl rfl) σ) (pa_cons (pv 1) (pa_cons (pv 2) pa_nil))))
      (pss_cons (ps_expr (pe_callS X_check_sums hr (by rfl) S_check_sums.g S_check_sums.k S_check_sums.b (fun σ => L2N.passAt (L2N.takes_of rfl rfl rfl rfl) σ) (pa_cons (pv 1) (pa_cons (pv 2) pa_nil))))
      (pss_cons (ps_fld (pv 0) (pv 1) rfl)
      (pss_one (ps_fld (pv 0) (pe_callTy call_list_of (by rfl) z_list (by decide +kernel) (pa_cons (pv 2) pa_nil)) rfl))))), ?_⟩
    have hl := hsa.len
    refine ⟨_, rfl, _, rfl, b, sl, _, rfl, hsl, fun hc => ?_, fun why' hw => ?_⟩
    · rw [List.length_map, hl] at hc
      rcases hbad with ⟨h1, _⟩ | ⟨_, h2, h3⟩
      · rw [hc] at h1; cases h1
      refine ⟨_, rfl, _, rfl, b, sl, ts, ss, rfl, hsl, hsa, h10, hs10, hz100, fun hno => ?_, fun i' why' hf hw => ?_⟩
      · have hlt : i < ss.length := by
          unfold checkAt at h3
          cases e : ss[i]? with
          | none => rw [e] at h3; cases h3
          | some s => exact (List.getElem?_eq_some_iff.mp e).1
        rw [hno i hlt] at h3
        cases h3
      · rcases Nat.lt_trichotomy i i' with h | h | h
        · rw [hf i h] at h3; cases h3
        · subst h
          rw [h3] at hw
          cases hw
          exact kE
        · rw [h2 i' h] at hw; cases hw
    · rw [List.length_map, hl] at hw
      rcases hbad with ⟨h1, rfl⟩ | ⟨h1, _⟩
      · rw [hw] at h1
        cases h1
        exact kE
      · rw [hw] at h1; cases h1
end
end WS
set_option maxRecDepth 100000
set_option maxHeartbeats 8000000
namespace WS
open PySem L2
def spWhole : Sp := fun vs H Q _ => ∃ v : Int, vs = [.int v] ∧ Q (.bl true) H
section
variable {P : Program} {w : World} {K : PySem.W.Frag} {mg : Str → Option Value} {base : Heap}
theorem scWhole : FnScope ["_law_found"] ["_law_found"] (defScope sWhole) := ⟨rfl, rfl, rfl, by decide +kernel, rfl, by decide +kernel, by decide +kernel⟩
theorem ok_whole {f : Addr} {fd : FuncData} (F : Fun K "_law_whole" "_law_whole" sWhole f fd) (z_isinstance : mg "isinstance" = none) (z_int : mg "int" = none) (z_bool : mg "bool" = none) :
    FnOk P w K mg base CX0 1 f fd ["_law_found"] spWhole := by
  refine F.ok scWhole (fun vs H Q E h => ?_) (fun cdv A outer s H vs Q E hr h => ?_)
  · obtain ⟨v, rfl, _⟩ := h
    rfl
  · obtain ⟨v, rfl, k⟩ := h
    have nd := scWhole.nd
    have hu := hu_of hr
    refine ⟨_, (pss_one (ps_ret (pe_and (pe_callB call_isi (by rfl) z_isinstance (by decide +kernel) (pa_cons (pv 0) (pa_cons (pe_bltn (v := .ty "int") (by rfl) z_int PyProof.Rows.boot_int rfl) pa_nil))) (pe_one (pe_not (pe_callB call_isi (by rfl) z_isinstance (by decide +kernel) (pa_cons (pv 0) (pa_cons (pe_bltn (v := .ty "bool") (by rfl) z_bool PyProof.Rows.boot_bool rfl) pa_nil)))))))), ?_⟩
    refine ⟨_, rfl, _, _, _, _, true, rfl, .ty _, .base (.int _), kit_ty (by decide +kernel), _, rfl, iteT ?_⟩
    exact ⟨_, rfl, _, _, _, _, false, rfl, .ty _, .base (.int _), kit_ty (by decide +kernel), _, rfl, k⟩
end
end WS
set_option maxRecDepth 100000
set_option maxHeartbeats 8000000
namespace WS
open PySem PySem.Spec PyProof.Rows L2 L2H
theorem hotOf {A : Around} {a : Addr} {oe : Obj} {cls : Value} {d : Option Addr} (hz : L2N.Zn cls d oe) (hf : ∃ vs, oe.data = .fields vs) : Hot1 (A.mark (some (.ref a))) (a, oe) := by
  obtain ⟨vs, hv⟩ := hf
  exact ⟨rfl, vs, hv, hz.2.2 vs hv⟩
/-- what a suite asks of _law_is(e, word), e with a dict -/
def tIsW (C a : Addr) (cls : Value) (d : Option Addr) (wd : Str) (t : TA) : TE := fun σ H Q => cls = .ref C ∧ ∃ dd, d = some dd ∧ t σ H fun vs H1 => vs = [.ref a, .str wd] ∧ (∃ fs, H1 dd = some (.xd fs)) ∧ ∀ H', Same H1 H' → Q (.bl true) H'
section
variable {X : Cx} {C a f : Addr} {fd : FuncData} {k : Nat} {x : Str} {q pos : Pos} {e : Expr} {es : List Expr} {t : TA} {oe : Obj} {cls : Value} {d : Option Addr} {pn : List (Addr × Obj)} {wd : Str}
theorem pe_isW (hz : L2N.Zn cls d oe) (hf : ∃ vs, oe.data = .fields vs)
    (G : ∀ (p : Addr × Obj) (dd : Addr), Zc (.ref C) (some dd) p.2 → (∃ vs, p.2.data = .fields vs) → HotL.FnP p X.prog X.w X.K X.mg X.base k f fd ["_law_e", "_law_word_here"] (spIsW p dd wd))
    (hr : Room k X.A) (hg : Gl (X.suite a ((a, oe) :: pn)) x) (hm : X.mg x = some (.ref f)) (hk : PySem.W.keepIn X.K (.ref f) = true) (hb : Binds X.K fd ["_law_e", "_law_word_here"] [])
    (ha : PA (X.suite a ((a, oe) :: pn)) (e :: es) t) (hdb : (x == ("__debug__" : Str)) = false := by decide) (he : starEach (e :: es) X.env = (false, eval e X.env) :: starEach es X.env := by rfl) (hpl : (backTo pos (starEach es X.env)).any (·.1) = false := by rfl) :
    PE (X.suite a ((a, oe) :: pn)) (.Call (.Name x q) (e :: es) [] pos) (tIsW C a cls d wd t) := by
  constructor
  intro pins s σ H Q I h
  obtain ⟨hc, dd, hd, h⟩ := h
  subst hc hd
  have hrh : RoomH k (X.suite a ((a, oe) :: pn)).A := ⟨hr.dp, hr.un⟩
  exact (HotL.pe_callP (X := X.suite a ((a, oe) :: pn)) (p := (a, oe)) (G (a, oe) dd hz.zc hf) hrh (hotOf hz hf) List.mem_cons_self hg hm hk hb ha hdb he hpl).run pins s σ H Q I h
end
section
variable {p : Addr × Obj} {P : Program} {w : World} {K : PySem.W.Frag} {mg : Str → Option Value} {base : Heap}
theorem ok_wholeP {f : Addr} {fd : FuncData} (F : Fun K "_law_whole" "_law_whole" sWhole f fd) (z_isinstance : mg "isinstance" = none) (z_int : mg "int" = none) (z_bool : mg "bool" = none) :
    HotL.FnP p P w K mg base 1 f fd ["_law_found"] spWhole := by
  obtain ⟨oc, od, kV, doc, pm, an, cdv, ct, osl, rfl, lk, hcd⟩ := F.ex
  refine HotL.fn_ofP lk hcd scWhole (fun vs H Q E h => ?_) (fun A outer s H vs Q E hot hr h => ?_)
  · obtain ⟨v, rfl, _⟩ := h
    rfl
  · obtain ⟨v, rfl, k⟩ := h
    have nd := scWhole.nd
    refine ⟨_, (pss_one (ps_ret (pe_and (pe_callB call_isi (by rfl) z_isinstance (by decide +kernel) (pa_cons (pv 0) (pa_cons (pe_bltn (v := .ty "int") (by rfl) z_int PyProof.Rows.boot_int rfl) pa_nil))) (pe_one (pe_not (pe_callB call_isi (by rfl) z_isinstance (by decide +kernel) (pa_cons (pv 0) (pa_cons (pe_bltn (v := .ty "bool") (by rfl) z_bool PyProof.Rows.boot_bool rfl) pa_nil)))))))), ?_⟩
    refine ⟨_, rfl, _, _, _, _, true, rfl, .ty _, .base (.int _), kit_ty (by decide +kernel), _, rfl, iteT ?_⟩
    exact ⟨_, rfl, _, _, _, _, false, rfl, .ty _, .base (.int _), kit_ty (by decide +kernel), _, rfl, k⟩
end
def spRefused : Sp := fun vs H Q _ => ∃ (s sl : Addr) (i : Nat) (why : Str) (b : Int) (ts : List Addr) (ss : List WSum), vs = [.ref s, .int (i : Int), .str why] ∧ H s = some (.tup [.int b, .ref sl]) ∧ H sl = some (.lst (ts.map V.ref)) ∧ SumsAt H ts ss ∧ ss.length ≤ 10 ∧ (∀ s ∈ ss, s.1.length ≤ 10) ∧ (∀ z ∈ wordsOf ss, z.length ≤ 100) ∧ BadOf b ss i why ∧ ∀ H', Q (.bl true) H'
section
variable {P : Program} {w : World} {K : PySem.W.Frag} {mg : Str → Option Value} {base : Heap}
theorem scLRefused : FnScope ["_law_sheet_here", "_law_at", "_law_why", "_law_e"] ["_law_sheet_here", "_law_at", "_law_why"] (defScope sLRefused) := ⟨rfl, rfl, rfl, by decide +kernel, rfl, by decide +kernel, by decide +kernel⟩
theorem ok_lrefused {f C cBS cSE fI fIs fWh : Addr} {fd fdI fdIs fdWh : FuncData} (F : Fun K "_law_refused" "_law_refused" sLRefused f fd) (T : SheetTxt K mg C) (z_isinstance : mg "isinstance" = none) (z_str : mg "str" = none)
    (gSE : mg "SumError" = some (.ref cSE)) (hexm : PySem.W.exmOne K (.ref cBS) (.ref cSE) = some true) (TX : XfC K cBS) (n_at : PySem.W.findIn K (.ref cBS) "at" = some none) (n_why : PySem.W.findIn K (.ref cBS) "why" = some none)
    (M : Mk K C fI) (bI : Binds K fdI ["self", "base", "sums"] []) (XI : FnOk P w K mg base (L2N.CX P w) 4 fI fdI ["self", "base", "sums"] (spShInitX C cBS))
    (S__law_is : Site K mg "_law_is" fIs fdIs ["_law_e", "_law_word_here"]) (G__law_is : ∀ (p : Addr × Obj) (dd : Addr), Zc (.ref cBS) (some dd) p.2 → (∃ vs, p.2.data = .fields vs) → HotL.FnP p P w K mg base 1 fIs fdIs ["_law_e", "_law_word_here"] (spIsW p dd "sheet"))
    (S__law_whole : Site K mg "_law_whole" fWh fdWh ["_law_found"]) (W__law_whole : ∀ p : Addr × Obj, HotL.FnP p P w K mg base 1 fWh fdWh ["_law_found"] spWhole) :
    FnOk P w K mg base CX0 6 f fd ["_law_sheet_here", "_law_at", "_law_why"] spRefused := by
  refine F.ok scLRefused (fun vs H Q E h => ?_) (fun cdv A outer s H vs Q E hr h => ?_)
  · obtain ⟨s, sl, i, why, b, ts, ss, rfl, _⟩ := h
    rfl
  · obtain ⟨s, sl, i, why, b, ts, ss, rfl, hs, hsl, hsa, h10, hs10, hz100, hbad, k⟩ := h
    have nd := scLRefused.nd
    have hr_sheet : Room (4 + 1) _ := hr
    have hr1 : Room 1 _ := hr.mono (by decide)
    refine ⟨_, pss_cons (L2N.ps_try_as (i := 3) rfl rfl nd rfl rfl ⟨by rfl, by decide +kernel, .inl gSE⟩ takes0N
        (fun W pn xe tk _ => pss_one (ps_expr (pe_makeS M XI hr_sheet (by rfl) T.g bI (fun σ => L2N.passAt tk σ) (pa_cons (pe_ix (r := rIxT K) ix_tup (pv 0) pe_int (fun _ _ => rfl)) (pa_cons (pe_ix (r := rIxT K) ix_tup (pv 0) pe_int (fun _ _ => rfl)) pa_nil)))))
        (fun a oe cls d pn hz hf => pss_one (ps_ret (pe_and ((pe_isW hz hf G__law_is hr1 (by rfl) S__law_is.g S__law_is.k S__law_is.b (pa_cons (pv 3) (pa_cons pe_str pa_nil))))
          (pe_and ((HotL.pe_callP (W__law_whole (a, oe)) ⟨hr1.dp, hr1.un⟩ (hotOf hz hf) List.mem_cons_self (by rfl) S__law_whole.g S__law_whole.k S__law_whole.b (pa_cons (pe_xf TX n_at hz.zc hf (pv 3)) pa_nil)))
          (pe_and (pe_cmpR op_eq (pe_xf TX n_at hz.zc hf (pv 3)) (pv 1) (nomark _))
          (pe_and ((pe_callB (r := rIsi K) (show CallR _ (.builtin "isinstance") (rIsi K) from call_isi) (by rfl) z_isinstance (by decide +kernel) (pa_cons (pe_xf TX n_why hz.zc hf (pv 3)) (pa_cons (pe_bltn (v := .ty "str") (by rfl) z_str PyProof.Rows.boot_str rfl) pa_nil))))
          (pe_one (pe_cmpR op_eq (pe_xf TX n_why hz.zc hf (pv 3)) (pv 2) (nomark _))))))))))
      (pss_one (ps_ret pe_bl)), ?_⟩
    refine ⟨_, rfl, s, _, 0, _, rfl, rfl, SqT.of hs, at_of (j := 0) rfl rfl, _, rfl, s, _, 1, _, rfl, rfl, SqT.of hs, at_of (j := 1) rfl rfl, fun x dx nx ndx nex => ?_⟩
    have s0 : Same H (upd (upd H dx (.own x)) x (.ins C dx [])) := fun c o e => by
      rw [upd_ne (ne_of_none e nx), upd_ne (ne_of_none e ndx)]; exact e
    refine ⟨x, dx, b, sl, ts, ss, i, why, rfl, upd_same, s0 _ _ hsl, hsa.same s0, h10, hs10, hz100, hbad, fun dd H' hdd s1 hx => ?_⟩
    refine ⟨true, hexm, fun _ a ha => ?_, fun h => nomatch h⟩
    have l1 : (badFs (i : Int) why).lookup ("at" : Str) = some (V.int (i : Int)) := by
      unfold badFs
      rw [List.lookup_cons, show (("at" : Str) == "why") = false from by decide +kernel, List.lookup_cons, show (("at" : Str) == "at") = true from by decide +kernel]
    have l2 : (badFs (i : Int) why).lookup ("why" : Str) = some (V.str why) := by
      unfold badFs
      rw [List.lookup_cons, show (("why" : Str) == "why") = true from by decide +kernel]
    refine ⟨rfl, dd, rfl, _, rfl, rfl, ⟨_, hx⟩, fun H2 s2 => ?_⟩
    have hx2 := s2 _ _ hx
    refine ⟨_, rfl, iteT ?_⟩
    refine ⟨_, rfl, rfl, rfl, dd, _, _, rfl, hx2, l1, (i : Int), rfl, _, rfl, iteT ?_⟩
    refine ⟨_, rfl, rfl, rfl, dd, _, _, rfl, hx2, l1, _, rfl, rfl, _, rfl, ?_⟩
    rw [decide_eq_true rfl]
    refine iteT ?_
    refine ⟨_, rfl, rfl, rfl, dd, _, _, rfl, hx2, l2, _, _, _, _, true, rfl, .ty _, .base (.str _), kit_ty (by decide +kernel), _, rfl, iteT ?_⟩
    refine ⟨_, rfl, rfl, rfl, dd, _, _, rfl, hx2, l2, _, rfl, rfl, ?_⟩
    rw [decide_eq_true rfl]
    exact k _
end
end WS
set_option maxRecDepth 100000
set_option maxHeartbeats 4000000
namespace WS
open PySem L2
def spLaw (K : PySem.W.Frag) : Sp := fun vs H Q _ => ∃ (a : Addr) (ns : List Int), vs = [.ref a] ∧ SqL K H a (ns.map V.int) ∧ ∀ H', Q (.bl true) H'
theorem old_of {C x dx : Addr} {H H3 : Hp} (nx : H x = none) (ndx : H dx = none) (kp : ∀ a o, a ≠ x → (upd (upd H dx (.own x)) x (.ins C dx [])) a = some o → H3 a = some o) : Same H H3 := fun b o e => by
  have hbx := ne_of_none e nx
  have hbd := ne_of_none e ndx
  exact kp b o hbx (by rw [upd_ne hbx, upd_ne hbd]; exact e)
theorem refs_off {K : PySem.W.Frag} {H : Hp} {d a l : Addr} {ns : List Int} {ts : List Addr} (D : Dice K H d a ns) (hl : H l = some (.lst (ts.map V.ref))) : l ≠ d := by
  intro e
  subst e
  obtain ⟨i, m, c, h, _⟩ := D.ex
  rw [h] at hl
  have := HO.lst.inj (Option.some.inj hl)
  rcases ts with _ | ⟨x, _ | ⟨y, r⟩⟩
  · cases this
  · cases this
  · injection this with _ h2
    injection h2 with h3 _
    cases h3
end WS
set_option maxRecDepth 100000
set_option maxHeartbeats 8000000
namespace WS
open PySem L2 SetT
theorem cut_firstW (xs : List V) (n : Nat) (h : n ≤ xs.length) : cutV xs none (some (n : Int)) = xs.take n := by
  unfold cutV
  rw [HT.sIx_nat]
  show (List.drop 0 xs).take (min n xs.length - 0) = _
  rw [List.drop_zero, Nat.min_eq_left h, Nat.sub_zero]
theorem SumsAt.nilW {H : Hp} : SumsAt H [] [] := ⟨rfl, fun i t s a b => by simp at a⟩
def bads6 : List WSum := [([], "a"), (["a", "a", "a", "a", "a"], "b"), ([""], "a"), (["a", "bcdefgh"], "a"), (["A"], "a"), (["a"], "a1")]
def bads5 : List WSum := [(["a b"], "a"), (["a"], "b-"), (["abcdefg"], "a"), (["a"], ""), (["nopq", "rstu", "vwxy"], "z")]
def badsL : List WSum := bads6 ++ bads5
def whysL : List Str := ["addends", "addends", "word", "word", "word", "word", "word", "word", "word", "word", "letters"]
theorem metS_memW : ∀ (cs : List Nat) {c : Nat}, c ∈ cs → sign c ∈ metS cs := by
  have add : ∀ (xs : List Str) (x y : Str), y ∈ xs ∨ y = x → y ∈ addS xs x := fun xs x y h => by
    unfold addS
    split
    · rename_i hx
      rcases h with h | h
      · exact h
      · rw [h]; exact any_mem.mp hx
    · rcases h with h | h
      · exact List.mem_append_left _ h
      · exact List.mem_append_right _ (by simp [h])
  have : ∀ (r : List Nat) (a : List Str) (y : Str), (y ∈ a ∨ ∃ c ∈ r, y = sign c) → y ∈ r.foldl (fun a c => addS a (sign c)) a := by
    intro r
    induction r with
    | nil =>
      intro a y h
      rcases h with h | ⟨c, hc, _⟩
      · exact h
      · cases hc
    | cons c r ih =>
      intro a y h
      rw [List.foldl_cons]
      refine ih _ _ ?_
      rcases h with h | ⟨d, hd, e⟩
      · exact .inl (add _ _ _ (.inl h))
      · rcases List.mem_cons.mp hd with rfl | hd
        · exact .inl (add _ _ _ (.inr e))
        · exact .inr ⟨d, hd, e⟩
  intro cs c h
  exact this cs [] (sign c) (.inr ⟨c, h, rfl⟩)
theorem nodup_le {α : Type} [DecidableEq α] : ∀ {l m : List α}, l.Nodup → (∀ x ∈ l, x ∈ m) → l.length ≤ m.length
  | [], _, _, _ => Nat.zero_le _
  | x :: l, m, hn, h => by
    rw [List.nodup_cons] at hn
    have hx := h x List.mem_cons_self
    have h1 := nodup_le (l := l) (m := m.erase x) hn.2 fun y hy => (List.mem_erase_of_ne (fun e => hn.1 (by rw [← e]; exact hy))).mpr (h y (List.mem_cons_of_mem _ hy))
    rw [List.length_erase_of_mem hx] at h1
    have h2 : 0 < m.length := List.length_pos_of_mem hx
    rw [List.length_cons]
    omega
theorem last_lets : ((["nopq", "rstu", "vwxy"] : List Str) ++ [("z" : Str)]).all isWord = true := by decide +kernel
theorem last_signs : ((signsOf ((["nopq", "rstu", "vwxy"] : List Str) ++ [("z" : Str)])).map sign).Nodup := by decide +kernel
theorem bad_at {b : Int} {ss : List WSum} {i j : Nat} {s : WSum} {why : Str} (hs : ss[i]? = some s) (hj : badsL[j]? = some s) (hw : whysL[j]? = some why) : checkAt b ss i = some why := by
  rw [checkAt_at hs]
  have hjl : j < 11 := (List.getElem?_eq_some_iff.mp hj).1
  rcases j with _ | _ | _ | _ | _ | _ | _ | _ | _ | _ | _ | j
  case succ => omega
  all_goals cases Option.some.inj hj; cases Option.some.inj hw
  · rw [if_neg (by decide)]
  · rw [if_neg (by decide)]
  · rw [if_pos (by decide), if_neg (by decide +kernel)]
  · rw [if_pos (by decide), if_neg (by decide +kernel)]
  · rw [if_pos (by decide), if_neg (by decide +kernel)]
  · rw [if_pos (by decide), if_neg (by decide +kernel)]
  · rw [if_pos (by decide), if_neg (by decide +kernel)]
  · rw [if_pos (by decide), if_neg (by decide +kernel)]
  · rw [if_pos (by decide), if_neg (by decide +kernel)]
  · rw [if_pos (by decide), if_neg (by decide +kernel)]
  · rw [if_pos (by decide), if_pos last_lets, if_pos]
    have h1 : ((signsOf ((["nopq", "rstu", "vwxy"] : List Str) ++ [("z" : Str)])).map sign).length ≤ (metS (signsOf (wordsOf (ss.take (i + 1))))).length := by
      refine nodup_le last_signs fun x hx => ?_
      obtain ⟨c, hc, rfl⟩ := List.mem_map.mp hx
      refine metS_memW _ ?_
      rw [wordsOf_take hs, signsOf_append]
      exact List.mem_append_right _ hc
    have h2 : ((signsOf ((["nopq", "rstu", "vwxy"] : List Str) ++ [("z" : Str)])).map sign).length = 13 := by decide +kernel
    omega
theorem good_at {b : Int} {ss ss' : List WSum} {s : WSum} (V : Valid b ss) (h : ss[0]? = some s) (h' : ss'[0]? = some s) : checkAt b ss' 0 = none := by
  have hm : s ∈ ss := List.mem_of_getElem? h
  rw [checkAt_at h', if_pos (V.many s hm), if_pos, if_neg]
  · have e : wordsOf (ss'.take (0 + 1)) = wordsOf (ss.take (0 + 1)) := by rw [wordsOf_take h', wordsOf_take h] <;> rfl
    rw [e]
    have := V.prefix (0 + 1)
    omega
  · rw [List.all_eq_true]
    intro z hz
    refine V.words z (mem_wordsOf hm ?_)
    rcases List.mem_append.mp hz with h | h
    · exact .inl h
    · exact .inr (by simpa using h)
theorem bads_small : (∀ s ∈ badsL, s.1.length ≤ 10) ∧ ∀ z ∈ wordsOf badsL, z.length ≤ 100 := by decide +kernel
theorem one_lit {H : Hp} {u t : Addr} (ht : (upd H u (.tup [])) t = none) : SumsAt (upd (upd H u (.tup [])) t (.tup [.ref u, .str ""])) [t] [([], "")] :=
  SumsAt.snoc (ts := []) (ss := []) SumsAt.nilW ⟨u, upd_same, (upd_ne (ne_of_none upd_same ht)).trans upd_same⟩
def spWrong (K : PySem.W.Frag) : Sp := fun vs H Q _ => ∃ (d a : Addr) (ns : List Int) (s0 sl : Addr) (b : Int) (ts : List Addr) (ss : List WSum), vs = [.ref d, .ref s0] ∧ Dice K H d a ns ∧ H s0 = some (.tup [.int b, .ref sl]) ∧ H sl = some (.lst (ts.map V.ref)) ∧ SumsAt H ts ss ∧ Valid b ss ∧
  ∀ (t s sl' : Addr) (ts' : List Addr) (ss' : List WSum) (b' : Int) (i : Nat) (why : Str) (H' : Hp), H' t = some (.tup [.ref s, .int (i : Int), .str why]) → H' s = some (.tup [.int b', .ref sl']) → H' sl' = some (.lst (ts'.map V.ref)) → SumsAt H' ts' ss' → ss'.length ≤ 10 → (∀ s ∈ ss', s.1.length ≤ 10) → (∀ z ∈ wordsOf ss', z.length ≤ 100) → BadOf b' ss' i why → Q (.ref t) H'
section
variable {P : Program} {w : World} {K : PySem.W.Frag} {mg : Str → Option Value} {base : Heap}
theorem scLWrong : FnScope ["_law_d", "_law_sheet_here", "_law_base", "_law_sums", "_law_ahead", "_law_bads", "_law_words", "_law_way"] ["_law_d", "_law_sheet_here"] (defScope sLWrong) := ⟨rfl, rfl, rfl, by decide +kernel, rfl, by decide +kernel, by decide +kernel⟩
theorem ok_lwrong {f fN : Addr} {fd fdN : FuncData} (F : Fun K "_law_wrong" "_law_wrong" sLWrong f fd) (z_len : mg "len" = none)
    (S__law_next : Site K mg "_law_next" fN fdN ["_law_dice_here", "_law_many"]) (G__law_next : FnOk P w K mg base CX0 1 fN fdN ["_law_dice_here", "_law_many"] (spNext K)) :
    FnOk P w K mg base CX0 2 f fd ["_law_d", "_law_sheet_here"] (spWrong K) := by
  refine F.ok scLWrong (fun vs H Q E h => ?_) (fun cdv A outer s H vs Q E hr h => ?_)
  · obtain ⟨d, a, ns, s0, sl, b, ts, ss, rfl, _⟩ := h
    rfl
  · obtain ⟨d, a, ns, s0, sl, b, ts, ss, rfl, D0, hs0, hsl, hsa, V', k⟩ := h
    have nd := scLWrong.nd
    have hu := hu_of hr
    have hr__law_next := hr
    refine ⟨_, (pss_cons (ps_asg (pv 1) (pg_tup rfl (pgs_cons (pg_name (i := 2) nd rfl (.inl rfl)) (pgs_cons (pg_name (i := 3) nd rfl (.inl rfl)) pgs_nil))))
      (pss_cons (ps_set (i := 4) nd rfl (.inl rfl) (pe_slice sl_list (pv 3) po_none (po_some pe_int)))
      (pss_cons (ps_set (i := 5) nd rfl (.inl rfl) (pe_lst (pa_cons (pe_tup (pa_cons (pe_tup pa_nil) (pa_cons pe_str pa_nil))) (pa_cons (pe_tup (pa_cons (pe_op op_repT (pe_tup (pa_cons pe_str pa_nil)) pe_int) (pa_cons pe_str pa_nil))) (pa_cons (pe_tup (pa_cons (pe_tup (pa_cons pe_str pa_nil)) (pa_cons pe_str pa_nil))) (pa_cons (pe_tup (pa_cons (pe_tup (pa_cons pe_str (pa_cons pe_str pa_nil))) (pa_cons pe_str pa_nil))) (pa_cons (pe_tup (pa_cons (pe_tup (pa_cons pe_str pa_nil)) (pa_cons pe_str pa_nil))) (pa_cons (pe_tup (pa_cons (pe_tup (pa_cons pe_str pa_nil)) (pa_cons pe_str pa_nil))) pa_nil))))))))
      (pss_cons (ps_set (i := 5) nd rfl (.inl rfl) (pe_op op_cat (pv 5) (pe_lst (pa_cons (pe_tup (pa_cons (pe_tup (pa_cons pe_str pa_nil)) (pa_cons pe_str pa_nil))) (pa_cons (pe_tup (pa_cons (pe_tup (pa_cons pe_str pa_nil)) (pa_cons pe_str pa_nil))) (pa_cons (pe_tup (pa_cons (pe_tup (pa_cons pe_str pa_nil)) (pa_cons pe_str pa_nil))) (pa_cons (pe_tup (pa_cons (pe_tup (pa_cons pe_str pa_nil)) (pa_cons pe_str pa_nil))) (pa_cons (pe_tup (pa_cons (pe_tup (pa_cons pe_str (pa_cons pe_str (pa_cons pe_str pa_nil)))) (pa_cons pe_str pa_nil))) pa_nil))))))))
      (pss_cons (ps_set (i := 6) nd rfl (.inl rfl) (pe_lst (pa_cons pe_str (pa_cons pe_str (pa_cons pe_str (pa_cons pe_str (pa_cons pe_str (pa_cons pe_str (pa_cons pe_str (pa_cons pe_str (pa_cons pe_str (pa_cons pe_str (pa_cons pe_str pa_nil)))))))))))))
      (pss_cons (ps_set (i := 7) nd rfl (.inl rfl) (pe_call G__law_next hr__law_next (by rfl) S__law_next.g S__law_next.k S__law_next.b .nil pass0 (pa_cons (pv 0) (pa_cons pe_int pa_nil))))
      (pss_cons (ps_if (pt_cmpR op_lt (pv 7) pe_int (nomark _)) (pss_one (ps_ret (pe_tup (pa_cons (pe_tup (pa_cons (pe_ix (r := rIxL K) ix_list (pe_lst (pa_cons pe_int (pa_cons pe_int pa_nil))) (pv 7) (fun _ _ => rfl)) (pa_cons (pe_lst (pa_cons (pe_tup (pa_cons (pe_tup pa_nil) (pa_cons pe_str pa_nil))) pa_nil)) pa_nil))) (pa_cons pe_int (pa_cons pe_str pa_nil)))))) pss_nil)
      (pss_cons (ps_if (pt_cmpR op_lt (pv 7) pe_int (nomark _)) (pss_one (ps_ret (pe_tup (pa_cons (pe_tup (pa_cons (pv 2) (pa_cons (pe_ix (r := rIxL K) ix_list (pe_lst (pa_cons (pe_lst pa_nil) (pa_cons (pe_op op_rep (pe_lst (pa_cons (pe_tup (pa_cons (pe_tup pa_nil) (pa_cons pe_str pa_nil))) pa_nil)) pe_int) pa_nil))) (pe_op op_sub (pv 7) pe_int) (fun _ _ => rfl)) pa_nil))) (pa_cons pe_int (pa_cons pe_str pa_nil)))))) pss_nil)
      (pss_cons (ps_if (pt_cmpR op_eq (pv 7) pe_int (nomark _)) (pss_one (ps_ret (pe_tup (pa_cons (pe_tup (pa_cons pe_int (pa_cons (pe_lst (pa_cons (pe_tup (pa_cons (pe_tup (pa_cons pe_str pa_nil)) (pa_cons pe_str pa_nil))) (pa_cons (pe_tup (pa_cons (pe_tup (pa_cons pe_str pa_nil)) (pa_cons pe_str pa_nil))) pa_nil))) pa_nil))) (pa_cons pe_int (pa_cons pe_str pa_nil)))))) pss_nil)
      (pss_cons (ps_if (pt_cmpR op_eq (pe_call G__law_next hr__law_next (by rfl) S__law_next.g S__law_next.k S__law_next.b .nil pass0 (pa_cons (pv 0) (pa_cons pe_int pa_nil))) pe_int (nomark _)) (pss_one (ps_ret (pe_tup (pa_cons (pe_tup (pa_cons (pv 2) (pa_cons (pe_op op_cat (pe_lst (pa_cons (pe_ix (r := rIxL K) ix_list (pv 5) (pe_op op_sub (pv 7) pe_int) (fun _ _ => rfl)) pa_nil)) (pe_lst (pa_cons (pe_tup (pa_cons (pe_tup pa_nil) (pa_cons pe_str pa_nil))) pa_nil))) pa_nil))) (pa_cons pe_int (pa_cons (pe_ix (r := rIxL K) ix_list (pv 6) (pe_op op_sub (pv 7) pe_int) (fun _ _ => rfl)) pa_nil)))))) pss_nil)
      (pss_one (ps_ret (pe_tup (pa_cons (pe_tup (pa_cons (pv 2) (pa_cons (pe_op op_cat (pv 4) (pe_lst (pa_cons (pe_ix (r := rIxL K) ix_list (pv 5) (pe_op op_sub (pv 7) pe_int) (fun _ _ => rfl)) pa_nil))) pa_nil))) (pa_cons (pe_callB call_len_seq (by rfl) z_len PySem.boot_len (pa_cons (pv 4) pa_nil)) (pa_cons (pe_ix (r := rIxL K) ix_list (pv 6) (pe_op op_sub (pv 7) pe_int) (fun _ _ => rfl)) pa_nil)))))))))))))))), ?_⟩
    obtain ⟨t0', tr, rfl⟩ : ∃ t0' tr, ts = t0' :: tr := by
      have h1 := hsa.len
      have h2 := V'.few
      cases ts with
      | nil => rw [List.length_nil] at h1; omega
      | cons t r => exact ⟨t, r, rfl⟩
    obtain ⟨z0, sr, rfl⟩ : ∃ z0 sr, ss = z0 :: sr := by
      have h2 := V'.few
      cases ss with
      | nil => rw [List.length_nil] at h2; omega
      | cons t r => exact ⟨t, r, rfl⟩
    have hz0 : SumAt H t0' z0 := hsa.get 0 t0' z0 rfl rfl
    refine ⟨_, rfl, s0, _, rfl, SqT.of hs0, rfl, _, _, rfl, _, _, rfl, rfl, ?_⟩
    refine ⟨_, rfl, _, rfl, sl, _, rfl, SqL.of hsl, fun ah hah => ?_⟩
    rw [show cutV ((t0' :: tr).map V.ref) none (some 1) = [V.ref t0'] from cut_firstW _ 1 (by show 1 ≤ (tr.map V.ref).length + 1; omega)]
    have SA : Same H (upd H ah (.lst [.ref t0'])) := Same.new hah
    have hah0 : (upd H ah (.lst [.ref t0'])) ah = some (.lst [.ref t0']) := upd_same
    generalize upd H ah (.lst [.ref t0']) = G0 at SA hah0
    refine ⟨by show 0 ≤ sizeLine; decide, fun u0 hu0 => ⟨by show 2 ≤ sizeLine; decide, fun t0 ht0 => ?_⟩⟩
    have S0 : Same G0 (upd (upd G0 u0 (.tup ([]))) t0 (.tup [.ref u0, .str "a"])) := ((Same.new hu0).trans (Same.new ht0))
    have F0 : SumsAt (upd (upd G0 u0 (.tup ([]))) t0 (.tup [.ref u0, .str "a"])) [t0] [([], "a")] := SumsAt.snoc (ts := []) (ss := []) ((SumsAt.nilW : SumsAt G0 [] []).same S0) ⟨u0, upd_same, (upd_ne (ne_of_none upd_same ht0)).trans upd_same⟩
    generalize (upd (upd G0 u0 (.tup ([]))) t0 (.tup [.ref u0, .str "a"])) = G1 at S0 F0
    refine ⟨by show 1 ≤ sizeLine; decide, fun v1 hv1 => ⟨v1, 5, [.str "a"], rfl, rfl, SqT.of upd_same, by simp, by decide, by decide, by show 1 ≤ 1000; decide, fun u1 hu1 => ⟨by show 2 ≤ sizeLine; decide, fun t1 ht1 => ?_⟩⟩⟩
    have S1 : Same G1 (upd (upd (upd G1 v1 (.tup [.str "a"])) u1 (.tup ((List.replicate (5 : Int).toNat [V.str "a"]).flatten))) t1 (.tup [.ref u1, .str "b"])) := (Same.new hv1).trans ((Same.new hu1).trans (Same.new ht1))
    have F1 : SumsAt (upd (upd (upd G1 v1 (.tup [.str "a"])) u1 (.tup ((List.replicate (5 : Int).toNat [V.str "a"]).flatten))) t1 (.tup [.ref u1, .str "b"])) [t0, t1] [([], "a"), (["a", "a", "a", "a", "a"], "b")] := SumsAt.snoc (ts := [t0]) (ss := [([], "a")]) ((F0 : SumsAt G1 [t0] [([], "a")]).same S1) ⟨u1, upd_same, (upd_ne (ne_of_none upd_same ht1)).trans upd_same⟩
    generalize (upd (upd (upd G1 v1 (.tup [.str "a"])) u1 (.tup ((List.replicate (5 : Int).toNat [V.str "a"]).flatten))) t1 (.tup [.ref u1, .str "b"])) = G2 at S1 F1
    refine ⟨by show 1 ≤ sizeLine; decide, fun u2 hu2 => ⟨by show 2 ≤ sizeLine; decide, fun t2 ht2 => ?_⟩⟩
    have S2 : Same G2 (upd (upd G2 u2 (.tup ([.str ""]))) t2 (.tup [.ref u2, .str "a"])) := ((Same.new hu2).trans (Same.new ht2))
    have F2 : SumsAt (upd (upd G2 u2 (.tup ([.str ""]))) t2 (.tup [.ref u2, .str "a"])) [t0, t1, t2] [([], "a"), (["a", "a", "a", "a", "a"], "b"), ([""], "a")] := SumsAt.snoc (ts := [t0, t1]) (ss := [([], "a"), (["a", "a", "a", "a", "a"], "b")]) ((F1 : SumsAt G2 [t0, t1] [([], "a"), (["a", "a", "a", "a", "a"], "b")]).same S2) ⟨u2, upd_same, (upd_ne (ne_of_none upd_same ht2)).trans upd_same⟩
    generalize (upd (upd G2 u2 (.tup ([.str ""]))) t2 (.tup [.ref u2, .str "a"])) = G3 at S2 F2
    refine ⟨by show 2 ≤ sizeLine; decide, fun u3 hu3 => ⟨by show 2 ≤ sizeLine; decide, fun t3 ht3 => ?_⟩⟩
    have S3 : Same G3 (upd (upd G3 u3 (.tup ([.str "a", .str "bcdefgh"]))) t3 (.tup [.ref u3, .str "a"])) := ((Same.new hu3).trans (Same.new ht3))
    have F3 : SumsAt (upd (upd G3 u3 (.tup ([.str "a", .str "bcdefgh"]))) t3 (.tup [.ref u3, .str "a"])) [t0, t1, t2, t3] [([], "a"), (["a", "a", "a", "a", "a"], "b"), ([""], "a"), (["a", "bcdefgh"], "a")] := SumsAt.snoc (ts := [t0, t1, t2]) (ss := [([], "a"), (["a", "a", "a", "a", "a"], "b"), ([""], "a")]) ((F2 : SumsAt G3 [t0, t1, t2] [([], "a"), (["a", "a", "a", "a", "a"], "b"), ([""], "a")]).same S3) ⟨u3, upd_same, (upd_ne (ne_of_none upd_same ht3)).trans upd_same⟩
    generalize (upd (upd G3 u3 (.tup ([.str "a", .str "bcdefgh"]))) t3 (.tup [.ref u3, .str "a"])) = G4 at S3 F3
    refine ⟨by show 1 ≤ sizeLine; decide, fun u4 hu4 => ⟨by show 2 ≤ sizeLine; decide, fun t4 ht4 => ?_⟩⟩
    have S4 : Same G4 (upd (upd G4 u4 (.tup ([.str "A"]))) t4 (.tup [.ref u4, .str "a"])) := ((Same.new hu4).trans (Same.new ht4))
    have F4 : SumsAt (upd (upd G4 u4 (.tup ([.str "A"]))) t4 (.tup [.ref u4, .str "a"])) [t0, t1, t2, t3, t4] [([], "a"), (["a", "a", "a", "a", "a"], "b"), ([""], "a"), (["a", "bcdefgh"], "a"), (["A"], "a")] := SumsAt.snoc (ts := [t0, t1, t2, t3]) (ss := [([], "a"), (["a", "a", "a", "a", "a"], "b"), ([""], "a"), (["a", "bcdefgh"], "a")]) ((F3 : SumsAt G4 [t0, t1, t2, t3] [([], "a"), (["a", "a", "a", "a", "a"], "b"), ([""], "a"), (["a", "bcdefgh"], "a")]).same S4) ⟨u4, upd_same, (upd_ne (ne_of_none upd_same ht4)).trans upd_same⟩
    generalize (upd (upd G4 u4 (.tup ([.str "A"]))) t4 (.tup [.ref u4, .str "a"])) = G5 at S4 F4
    refine ⟨by show 1 ≤ sizeLine; decide, fun u5 hu5 => ⟨by show 2 ≤ sizeLine; decide, fun t5 ht5 => ?_⟩⟩
    have S5 : Same G5 (upd (upd G5 u5 (.tup ([.str "a"]))) t5 (.tup [.ref u5, .str "a1"])) := ((Same.new hu5).trans (Same.new ht5))
    have F5 : SumsAt (upd (upd G5 u5 (.tup ([.str "a"]))) t5 (.tup [.ref u5, .str "a1"])) [t0, t1, t2, t3, t4, t5] [([], "a"), (["a", "a", "a", "a", "a"], "b"), ([""], "a"), (["a", "bcdefgh"], "a"), (["A"], "a"), (["a"], "a1")] := SumsAt.snoc (ts := [t0, t1, t2, t3, t4]) (ss := [([], "a"), (["a", "a", "a", "a", "a"], "b"), ([""], "a"), (["a", "bcdefgh"], "a"), (["A"], "a")]) ((F4 : SumsAt G5 [t0, t1, t2, t3, t4] [([], "a"), (["a", "a", "a", "a", "a"], "b"), ([""], "a"), (["a", "bcdefgh"], "a"), (["A"], "a")]).same S5) ⟨u5, upd_same, (upd_ne (ne_of_none upd_same ht5)).trans upd_same⟩
    generalize (upd (upd G5 u5 (.tup ([.str "a"]))) t5 (.tup [.ref u5, .str "a1"])) = G6 at S5 F5
    refine ⟨by show 6 ≤ sizeLine; decide, fun bl hbl => ?_⟩
    have SB : Same G6 (upd G6 bl (.lst [.ref t0, .ref t1, .ref t2, .ref t3, .ref t4, .ref t5])) := Same.new hbl
    have XB : (upd G6 bl (.lst [.ref t0, .ref t1, .ref t2, .ref t3, .ref t4, .ref t5])) bl = some (.lst [.ref t0, .ref t1, .ref t2, .ref t3, .ref t4, .ref t5]) := upd_same
    generalize (upd G6 bl (.lst [.ref t0, .ref t1, .ref t2, .ref t3, .ref t4, .ref t5])) = G7 at SB XB
    refine ⟨_, rfl, ?_⟩
    refine ⟨by show 1 ≤ sizeLine; decide, fun u6 hu6 => ⟨by show 2 ≤ sizeLine; decide, fun t6 ht6 => ?_⟩⟩
    have S10 : Same G7 (upd (upd G7 u6 (.tup ([.str "a b"]))) t6 (.tup [.ref u6, .str "a"])) := ((Same.new hu6).trans (Same.new ht6))
    have F10 : SumsAt (upd (upd G7 u6 (.tup ([.str "a b"]))) t6 (.tup [.ref u6, .str "a"])) [t6] [(["a b"], "a")] := SumsAt.snoc (ts := []) (ss := []) ((SumsAt.nilW : SumsAt G7 [] []).same S10) ⟨u6, upd_same, (upd_ne (ne_of_none upd_same ht6)).trans upd_same⟩
    generalize (upd (upd G7 u6 (.tup ([.str "a b"]))) t6 (.tup [.ref u6, .str "a"])) = G8 at S10 F10
    refine ⟨by show 1 ≤ sizeLine; decide, fun u7 hu7 => ⟨by show 2 ≤ sizeLine; decide, fun t7 ht7 => ?_⟩⟩
    have S11 : Same G8 (upd (upd G8 u7 (.tup ([.str "a"]))) t7 (.tup [.ref u7, .str "b-"])) := ((Same.new hu7).trans (Same.new ht7))
    have F11 : SumsAt (upd (upd G8 u7 (.tup ([.str "a"]))) t7 (.tup [.ref u7, .str "b-"])) [t6, t7] [(["a b"], "a"), (["a"], "b-")] := SumsAt.snoc (ts := [t6]) (ss := [(["a b"], "a")]) ((F10 : SumsAt G8 [t6] [(["a b"], "a")]).same S11) ⟨u7, upd_same, (upd_ne (ne_of_none upd_same ht7)).trans upd_same⟩
    generalize (upd (upd G8 u7 (.tup ([.str "a"]))) t7 (.tup [.ref u7, .str "b-"])) = G9 at S11 F11
    refine ⟨by show 1 ≤ sizeLine; decide, fun u8 hu8 => ⟨by show 2 ≤ sizeLine; decide, fun t8 ht8 => ?_⟩⟩
    have S12 : Same G9 (upd (upd G9 u8 (.tup ([.str "abcdefg"]))) t8 (.tup [.ref u8, .str "a"])) := ((Same.new hu8).trans (Same.new ht8))
    have F12 : SumsAt (upd (upd G9 u8 (.tup ([.str "abcdefg"]))) t8 (.tup [.ref u8, .str "a"])) [t6, t7, t8] [(["a b"], "a"), (["a"], "b-"), (["abcdefg"], "a")] := SumsAt.snoc (ts := [t6, t7]) (ss := [(["a b"], "a"), (["a"], "b-")]) ((F11 : SumsAt G9 [t6, t7] [(["a b"], "a"), (["a"], "b-")]).same S12) ⟨u8, upd_same, (upd_ne (ne_of_none upd_same ht8)).trans upd_same⟩
    generalize (upd (upd G9 u8 (.tup ([.str "abcdefg"]))) t8 (.tup [.ref u8, .str "a"])) = G10 at S12 F12
    refine ⟨by show 1 ≤ sizeLine; decide, fun u9 hu9 => ⟨by show 2 ≤ sizeLine; decide, fun t9 ht9 => ?_⟩⟩
    have S13 : Same G10 (upd (upd G10 u9 (.tup ([.str "a"]))) t9 (.tup [.ref u9, .str ""])) := ((Same.new hu9).trans (Same.new ht9))
    have F13 : SumsAt (upd (upd G10 u9 (.tup ([.str "a"]))) t9 (.tup [.ref u9, .str ""])) [t6, t7, t8, t9] [(["a b"], "a"), (["a"], "b-"), (["abcdefg"], "a"), (["a"], "")] := SumsAt.snoc (ts := [t6, t7, t8]) (ss := [(["a b"], "a"), (["a"], "b-"), (["abcdefg"], "a")]) ((F12 : SumsAt G10 [t6, t7, t8] [(["a b"], "a"), (["a"], "b-"), (["abcdefg"], "a")]).same S13) ⟨u9, upd_same, (upd_ne (ne_of_none upd_same ht9)).trans upd_same⟩
    generalize (upd (upd G10 u9 (.tup ([.str "a"]))) t9 (.tup [.ref u9, .str ""])) = G11 at S13 F13
    refine ⟨by show 3 ≤ sizeLine; decide, fun u10 hu10 => ⟨by show 2 ≤ sizeLine; decide, fun t10 ht10 => ?_⟩⟩
    have S14 : Same G11 (upd (upd G11 u10 (.tup ([.str "nopq", .str "rstu", .str "vwxy"]))) t10 (.tup [.ref u10, .str "z"])) := ((Same.new hu10).trans (Same.new ht10))
    have F14 : SumsAt (upd (upd G11 u10 (.tup ([.str "nopq", .str "rstu", .str "vwxy"]))) t10 (.tup [.ref u10, .str "z"])) [t6, t7, t8, t9, t10] [(["a b"], "a"), (["a"], "b-"), (["abcdefg"], "a"), (["a"], ""), (["nopq", "rstu", "vwxy"], "z")] := SumsAt.snoc (ts := [t6, t7, t8, t9]) (ss := [(["a b"], "a"), (["a"], "b-"), (["abcdefg"], "a"), (["a"], "")]) ((F13 : SumsAt G11 [t6, t7, t8, t9] [(["a b"], "a"), (["a"], "b-"), (["abcdefg"], "a"), (["a"], "")]).same S14) ⟨u10, upd_same, (upd_ne (ne_of_none upd_same ht10)).trans upd_same⟩
    generalize (upd (upd G11 u10 (.tup ([.str "nopq", .str "rstu", .str "vwxy"]))) t10 (.tup [.ref u10, .str "z"])) = G12 at S14 F14
    refine ⟨by show 5 ≤ sizeLine; decide, fun cl hcl => ?_⟩
    have SC : Same G12 (upd G12 cl (.lst [.ref t6, .ref t7, .ref t8, .ref t9, .ref t10])) := Same.new hcl
    have XC : (upd G12 cl (.lst [.ref t6, .ref t7, .ref t8, .ref t9, .ref t10])) cl = some (.lst [.ref t6, .ref t7, .ref t8, .ref t9, .ref t10]) := upd_same
    generalize (upd G12 cl (.lst [.ref t6, .ref t7, .ref t8, .ref t9, .ref t10])) = G13 at SC XC
    have sBC : Same G7 G13 := (S10.trans (S11.trans (S12.trans (S13.trans S14)))).trans SC
    refine ⟨bl, cl, _, _, rfl, rfl, sBC _ _ XB, XC, by show 11 ≤ sizeLine; decide, fun dl hdl => ?_⟩
    have SD : Same G13 (upd G13 dl (.lst ([.ref t0, .ref t1, .ref t2, .ref t3, .ref t4, .ref t5] ++ [.ref t6, .ref t7, .ref t8, .ref t9, .ref t10]))) := Same.new hdl
    have XD : (upd G13 dl (.lst ([.ref t0, .ref t1, .ref t2, .ref t3, .ref t4, .ref t5] ++ [.ref t6, .ref t7, .ref t8, .ref t9, .ref t10]))) dl = some (.lst ([.ref t0, .ref t1, .ref t2, .ref t3, .ref t4, .ref t5] ++ [.ref t6, .ref t7, .ref t8, .ref t9, .ref t10])) := upd_same
    generalize (upd G13 dl (.lst ([.ref t0, .ref t1, .ref t2, .ref t3, .ref t4, .ref t5] ++ [.ref t6, .ref t7, .ref t8, .ref t9, .ref t10]))) = G14 at SD XD
    have FB : SumsAt G14 [t0, t1, t2, t3, t4, t5, t6, t7, t8, t9, t10] badsL := SumsAt.append (ts := [t0, t1, t2, t3, t4, t5]) (ss := bads6) (ts' := [t6, t7, t8, t9, t10]) (ss' := bads5) ((F5.same SB).same (sBC.trans SD)) ((F14.same SC).same SD)
    have XD : G14 dl = some (.lst (([t0, t1, t2, t3, t4, t5, t6, t7, t8, t9, t10] : List Addr).map V.ref)) := XD
    refine ⟨by show 11 ≤ sizeLine; decide, fun wl hwl => ?_⟩
    have SE : Same G14 (upd G14 wl (.lst [.str "addends", .str "addends", .str "word", .str "word", .str "word", .str "word", .str "word", .str "word", .str "word", .str "word", .str "letters"])) := Same.new hwl
    have XE : (upd G14 wl (.lst [.str "addends", .str "addends", .str "word", .str "word", .str "word", .str "word", .str "word", .str "word", .str "word", .str "word", .str "letters"])) wl = some (.lst [.str "addends", .str "addends", .str "word", .str "word", .str "word", .str "word", .str "word", .str "word", .str "word", .str "word", .str "letters"]) := upd_same
    generalize (upd G14 wl (.lst [.str "addends", .str "addends", .str "word", .str "word", .str "word", .str "word", .str "word", .str "word", .str "word", .str "word", .str "letters"])) = G15 at SE XE
    have sAll : Same H G15 := SA.trans ((((S0.trans (S1.trans (S2.trans (S3.trans (S4.trans S5))))).trans SB).trans (sBC.trans SD)).trans SE)
    have XE : G15 wl = some (.lst (whysL.map V.str)) := XE
    have FB := FB.same SE
    have XD := SE _ _ XD
    have hah1 := (((((S0.trans (S1.trans (S2.trans (S3.trans (S4.trans S5))))).trans SB).trans (sBC.trans SD)).trans SE)) _ _ hah0
    have hz1 := hz0.same sAll
    have DD := D0.same sAll
    generalize hBT : ([t0, t1, t2, t3, t4, t5, t6, t7, t8, t9, t10] : List Addr) = BT at FB XD
    clear hBT
    have kf : ∀ {H' : Hp} {l p1 p2 : Addr} {ts' : List Addr} {ss' : List WSum} {b' : Int} {i : Nat} {why : Str}, H' l = some (.lst (ts'.map V.ref)) → SumsAt H' ts' ss' → H' p1 = none → (upd H' p1 (.tup [.int b', .ref l])) p2 = none →
        ss'.length ≤ 10 → (∀ s ∈ ss', s.1.length ≤ 10) → (∀ z ∈ wordsOf ss', z.length ≤ 100) → BadOf b' ss' i why → Q (.ref p2) (upd (upd H' p1 (.tup [.int b', .ref l])) p2 (.tup [.ref p1, .int (i : Int), .str why])) := fun h1 h2 h3 h4 h5 h6 h7 h8 =>
      k _ _ _ _ _ _ _ _ _ upd_same ((upd_ne (ne_of_none upd_same h4)).trans upd_same) (((Same.new h3).trans (Same.new h4)) _ _ h1) (h2.same ((Same.new h3).trans (Same.new h4))) h5 h6 h7 h8
    have hwd : wl ≠ d := fun e => by
      subst e
      obtain ⟨i, m, c, h, _⟩ := DD.ex
      rw [h] at XE
      cases XE
    refine ⟨_, rfl, d, a, ns, 16, rfl, DD, by decide, by decide, fun v H1 v0 v1 D1 b1 e1 => ?_⟩
    have hdl1 := b1 _ _ (refs_off DD XD) XD
    have hah2 : H1 ah = some (.lst (([t0'] : List Addr).map V.ref)) := b1 _ _ (refs_off (ts := [t0']) DD hah1) hah1
    have hwl1 := b1 _ _ hwd XE
    have FB1 := FB.but DD b1
    have hz2 := hz1.but DD b1
    refine ⟨_, rfl, _, _, rfl, rfl, _, rfl, ite2 (fun hw => ?_) (fun hw => ?_)⟩
    · have hv2 : v < 2 := of_decide_eq_true hw
      obtain rfl | rfl : v = 0 ∨ v = 1 := by omega
      · refine ⟨by show 2 ≤ sizeLine; decide, fun l1 hl1 => ⟨_, rfl, l1, _, 0, .int 1, rfl, rfl, SqL.of upd_same, at_of (j := 0) rfl rfl, ?_⟩⟩
        refine ⟨by show 0 ≤ sizeLine; decide, fun u hu => ⟨by show 2 ≤ sizeLine; decide, fun t ht => ⟨by show 1 ≤ sizeLine; decide, fun l hl => ⟨by show 2 ≤ sizeLine; decide, fun p1 hp1 => ⟨by show 3 ≤ sizeLine; decide, fun p2 hp2 => ?_⟩⟩⟩⟩⟩
        exact kf (ts' := [t]) (ss' := [([], "")]) (i := 0) upd_same ((one_lit ht).same (Same.new hl)) hp1 hp2 (by decide) (by decide) (by decide) (.inl ⟨by decide +kernel, rfl⟩)
      · refine ⟨by show 2 ≤ sizeLine; decide, fun l1 hl1 => ⟨_, rfl, l1, _, 1, .int 13, rfl, rfl, SqL.of upd_same, at_of (j := 1) rfl rfl, ?_⟩⟩
        refine ⟨by show 0 ≤ sizeLine; decide, fun u hu => ⟨by show 2 ≤ sizeLine; decide, fun t ht => ⟨by show 1 ≤ sizeLine; decide, fun l hl => ⟨by show 2 ≤ sizeLine; decide, fun p1 hp1 => ⟨by show 3 ≤ sizeLine; decide, fun p2 hp2 => ?_⟩⟩⟩⟩⟩
        exact kf (ts' := [t]) (ss' := [([], "")]) (i := 0) upd_same ((one_lit ht).same (Same.new hl)) hp1 hp2 (by decide) (by decide) (by decide) (.inl ⟨by decide +kernel, rfl⟩)
    have hv2 : ¬ v < 2 := fun h => hw (decide_eq_true h)
    refine ⟨_, rfl, _, _, rfl, rfl, _, rfl, ite2 (fun hw => ?_) (fun hw => ?_)⟩
    · have hv4 : v < 4 := of_decide_eq_true hw
      have hb2 := V'.b2
      have hb12 := V'.b12
      obtain rfl | rfl : v = 2 ∨ v = 3 := by omega
      · refine ⟨_, rfl, by show 0 ≤ sizeLine; decide, fun l0 hl0 => ⟨by show 0 ≤ sizeLine; decide, fun u hu => ⟨by show 2 ≤ sizeLine; decide, fun t ht => ⟨by show 1 ≤ sizeLine; decide, fun l hl => ⟨l, 4, [.ref t], rfl, rfl, upd_same, by decide, by decide, by show 1 * 4 ≤ sizeLine; decide, fun p hp => ⟨by show 2 ≤ sizeLine; decide, fun lo hlo => ?_⟩⟩⟩⟩⟩⟩
        refine ⟨_, rfl, _, _, rfl, rfl, lo, _, _, .ref l0, rfl, rfl, SqL.of upd_same, at_of (j := 0) rfl rfl, by show 2 ≤ sizeLine; decide, fun p1 hp1 => ⟨by show 3 ≤ sizeLine; decide, fun p2 hp2 => ?_⟩⟩
        exact kf (ts' := []) (ss' := []) (i := 0) (((((Same.new hu).trans (Same.new ht)).trans (Same.new hl)).trans (Same.new hp)).trans (Same.new hlo) _ _ upd_same) SumsAt.nilW hp1 hp2 (by decide) (by decide) (by decide) (.inl ⟨by unfold countsBad; rw [if_pos ⟨hb2, hb12⟩, if_neg (by decide)], rfl⟩)
      · refine ⟨_, rfl, by show 0 ≤ sizeLine; decide, fun l0 hl0 => ⟨by show 0 ≤ sizeLine; decide, fun u hu => ⟨by show 2 ≤ sizeLine; decide, fun t ht => ⟨by show 1 ≤ sizeLine; decide, fun l hl => ⟨l, 4, [.ref t], rfl, rfl, upd_same, by decide, by decide, by show 1 * 4 ≤ sizeLine; decide, fun p hp => ⟨by show 2 ≤ sizeLine; decide, fun lo hlo => ?_⟩⟩⟩⟩⟩⟩
        refine ⟨_, rfl, _, _, rfl, rfl, lo, _, _, .ref p, rfl, rfl, SqL.of upd_same, at_of (j := 1) rfl rfl, by show 2 ≤ sizeLine; decide, fun p1 hp1 => ⟨by show 3 ≤ sizeLine; decide, fun p2 hp2 => ?_⟩⟩
        have F1 := (one_lit ht).same (((Same.new (o := .lst [.ref t]) hl).trans (Same.new (o := .lst (List.replicate (4 : Int).toNat [V.ref t]).flatten) hp)).trans (Same.new (o := .lst [.ref l0, .ref p]) hlo))
        exact kf (ts' := [t, t, t, t]) (ss' := [([], ""), ([], ""), ([], ""), ([], "")]) (i := 0) ((Same.new hlo) _ _ upd_same) ((F1.append F1).append (F1.append F1)) hp1 hp2 (by decide) (by decide) (by decide +kernel) (.inl ⟨by unfold countsBad; rw [if_pos ⟨hb2, hb12⟩, if_neg (by decide)], rfl⟩)
    have hv4 : ¬ v < 4 := fun h => hw (decide_eq_true h)
    refine ⟨_, rfl, rfl, _, rfl, ite2 (fun hw => ?_) (fun hw => ?_)⟩
    · refine ⟨by show 1 ≤ sizeLine; decide, fun u1 hu1 => ⟨by show 2 ≤ sizeLine; decide, fun t1 ht1 => ⟨by show 1 ≤ sizeLine; decide, fun u2 hu2 => ⟨by show 2 ≤ sizeLine; decide, fun t2 ht2 => ⟨by show 2 ≤ sizeLine; decide, fun l hl => ⟨by show 2 ≤ sizeLine; decide, fun p1 hp1 => ⟨by show 3 ≤ sizeLine; decide, fun p2 hp2 => ?_⟩⟩⟩⟩⟩⟩⟩
      have E1 : SumsAt (upd (upd H1 u1 (.tup [.str "a"])) t1 (.tup [.ref u1, .str "b"])) [t1] [(["a"], "b")] := SumsAt.snoc (ts := []) (ss := []) SumsAt.nilW ⟨u1, upd_same, (upd_ne (ne_of_none upd_same ht1)).trans upd_same⟩
      have E2 : SumsAt (upd (upd (upd (upd H1 u1 (.tup [.str "a"])) t1 (.tup [.ref u1, .str "b"])) u2 (.tup [.str "c"])) t2 (.tup [.ref u2, .str "a"])) [t1, t2] [(["a"], "b"), (["c"], "a")] := SumsAt.snoc (ts := [t1]) (ss := [(["a"], "b")]) (E1.same ((Same.new hu2).trans (Same.new ht2))) ⟨u2, upd_same, (upd_ne (ne_of_none upd_same ht2)).trans upd_same⟩
      exact kf (ts' := [t1, t2]) (ss' := [(["a"], "b"), (["c"], "a")]) (i := 1) upd_same (E2.same (Same.new hl)) hp1 hp2 (by decide) (by decide) (by decide +kernel) (.inr ⟨by decide +kernel, fun j hj => by
        have : j = 0 := by omega
        subst this
        decide +kernel, by decide +kernel⟩)
    have hv5 : v ≠ 4 := fun h => hw (by rw [h] <;> rfl)
    refine ⟨_, rfl, d, a, ns, 2, rfl, D1, by decide, by decide, fun q H2 q0 q1 D2 b2 e2 => ⟨rfl, _, rfl, ?_⟩⟩
    have hwd1 : wl ≠ d := hwd
    have hdl2 := b2 _ _ (refs_off D1 hdl1) hdl1
    have hah3 := b2 _ _ (refs_off D1 hah2) hah2
    have hwl2 := b2 _ _ hwd1 hwl1
    have FB2 := FB1.but D1 b2
    have hz3 := hz2.but D1 b2
    obtain ⟨j, rfl⟩ : ∃ j : Nat, v = (j : Int) + 5 := ⟨(v - 5).toNat, by omega⟩
    have hj11 : j < 11 := by omega
    have hbl11 : BT.length = 11 := FB2.len
    have hbt : BT[j]? = some (BT[j]'(by omega)) := List.getElem?_eq_getElem _
    generalize BT[j]'(by omega) = bt at hbt
    obtain ⟨sb, hsb⟩ : ∃ sb, badsL[j]? = some sb := ⟨_, List.getElem?_eq_getElem (show j < badsL.length from hj11)⟩
    obtain ⟨wy, hwy⟩ : ∃ wy, whysL[j]? = some wy := ⟨_, List.getElem?_eq_getElem (show j < whysL.length from hj11)⟩
    have hSb := FB2.get j bt sb hbt hsb
    have hsm := List.mem_of_getElem? hsb
    have hb2 := V'.b2
    have hb12 := V'.b12
    have hsbz : ∀ z ∈ sb.1 ++ [sb.2], z.length ≤ 100 := fun z hz => by
      refine bads_small.2 z (mem_wordsOf hsm ?_)
      rcases List.mem_append.mp hz with h | h
      · exact .inl h
      · exact .inr (by simpa using h)
    refine ite2 (fun _ => ?_) (fun _ => ?_)
    · refine ⟨_, rfl, _, rfl, _, rfl, _, _, rfl, rfl, dl, _, _, .ref bt, rfl, rfl, SqL.of hdl2, at_of (j := j) (by omega) (by rw [List.getElem?_map, hbt] <;> rfl), by show 1 ≤ sizeLine; decide, fun x1 hx1 => ?_⟩
      refine ⟨by show 0 ≤ sizeLine; decide, fun u hu => ⟨by show 2 ≤ sizeLine; decide, fun t ht => ⟨by show 1 ≤ sizeLine; decide, fun l hl => ?_⟩⟩⟩
      refine ⟨x1, l, [.ref bt], [.ref t], rfl, rfl, (((Same.new hu).trans (Same.new ht)).trans (Same.new hl)) _ _ upd_same, upd_same, by show 2 ≤ sizeLine; decide, fun y hy => ⟨by show 2 ≤ sizeLine; decide, fun p1 hp1 => ?_⟩⟩
      have sy := ((((Same.new (o := .lst [.ref bt]) hx1).trans (Same.new (o := .tup []) hu)).trans (Same.new (o := .tup [.ref u, .str ""]) ht)).trans (Same.new (o := .lst [.ref t]) hl)).trans (Same.new (o := .lst ([.ref bt] ++ [.ref t])) hy)
      refine ⟨_, rfl, _, rfl, _, _, rfl, rfl, wl, _, _, .str wy, rfl, rfl, SqL.of ((Same.new hp1) _ _ (sy _ _ hwl2)), at_of (j := j) (by omega) (by rw [List.getElem?_map, hwy] <;> rfl), by show 3 ≤ sizeLine; decide, fun p2 hp2 => ?_⟩
      have F1 := (one_lit ht).same ((Same.new (o := .lst [.ref t]) hl).trans (Same.new (o := .lst ([.ref bt] ++ [.ref t])) hy))
      have F0 := SumsAt.snoc (ts := []) (ss := []) SumsAt.nilW (hSb.same sy)
      refine kf (ts' := [bt, t]) (ss' := [sb, ([], "")]) (i := 0) upd_same (F0.append F1) hp1 hp2 (by show 2 ≤ 10; decide) (fun s hs => ?_) (fun z hz => ?_) (.inr ⟨by unfold countsBad; rw [if_pos ⟨hb2, hb12⟩, if_pos (by show 1 ≤ 2 ∧ 2 ≤ 3; decide)], fun k hk => absurd hk (Nat.not_lt_zero k), bad_at rfl hsb hwy⟩)
      · rcases List.mem_cons.mp hs with rfl | hs
        · exact bads_small.1 _ hsm
        · rw [List.mem_singleton.mp hs]
          decide
      · rw [show wordsOf [sb, ([], "")] = (sb.1 ++ [sb.2]) ++ [("" : Str)] from by unfold wordsOf; simp] at hz
        rcases List.mem_append.mp hz with h | h
        · exact hsbz z h
        · rw [List.mem_singleton.mp h]
          decide
    · refine ⟨_, rfl, _, rfl, _, rfl, _, rfl, _, _, rfl, rfl, dl, _, _, .ref bt, rfl, rfl, SqL.of hdl2, at_of (j := j) (by omega) (by rw [List.getElem?_map, hbt] <;> rfl), by show 1 ≤ sizeLine; decide, fun x1 hx1 => ?_⟩
      refine ⟨ah, x1, [.ref t0'], [.ref bt], rfl, rfl, (Same.new hx1) _ _ hah3, upd_same, by show 2 ≤ sizeLine; decide, fun y hy => ⟨by show 2 ≤ sizeLine; decide, fun p1 hp1 => ?_⟩⟩
      have sy : Same H2 (upd (upd H2 x1 (.lst [.ref bt])) y (.lst ([.ref t0'] ++ [.ref bt]))) := (Same.new hx1).trans (Same.new hy)
      refine ⟨_, rfl, ah, _, rfl, .inl (SqL.of ((Same.new hp1) _ _ (sy _ _ hah3))), ?_⟩
      refine ⟨_, rfl, _, rfl, _, _, rfl, rfl, wl, _, _, .str wy, rfl, rfl, SqL.of ((Same.new hp1) _ _ (sy _ _ hwl2)), at_of (j := j) (by omega) (by rw [List.getElem?_map, hwy] <;> rfl), by show 3 ≤ sizeLine; decide, fun p2 hp2 => ?_⟩
      have F0 := SumsAt.snoc (ts := []) (ss := []) SumsAt.nilW (hz3.same sy)
      have F1 := F0.snoc (hSb.same sy)
      have hz0m : z0 ∈ z0 :: sr := List.mem_cons_self
      refine kf (ts' := [t0', bt]) (ss' := [z0, sb]) (i := 1) upd_same F1 hp1 hp2 (by show 2 ≤ 10; decide) (fun s hs => ?_) (fun z hz => ?_) (.inr ⟨by unfold countsBad; rw [if_pos ⟨hb2, hb12⟩, if_pos (by show 1 ≤ 2 ∧ 2 ≤ 3; decide)], fun k hk => ?_, bad_at (i := 1) rfl hsb hwy⟩)
      · rcases List.mem_cons.mp hs with rfl | hs
        · have := (V'.many _ hz0m).2
          omega
        · rw [List.mem_singleton.mp hs]
          exact bads_small.1 _ hsm
      · rw [show wordsOf [z0, sb] = (z0.1 ++ [z0.2]) ++ (sb.1 ++ [sb.2]) from by unfold wordsOf; simp] at hz
        rcases List.mem_append.mp hz with h | h
        · have hm : z ∈ wordsOf (z0 :: sr) := by
            unfold wordsOf
            rw [List.map_cons, List.flatten_cons]
            exact List.mem_append_left _ h
          have := V'.word_len hm
          omega
        · exact hsbz z h
      · have : k = 0 := by omega
        subst this
        exact good_at V' rfl rfl
end
end WS
set_option maxRecDepth 100000
set_option maxHeartbeats 4000000
namespace WS
open PySem L2
/-- two values that are alike in kind and content, at most n deep: ints, texts, lists, tuples -/
def Alike (H : Hp) : Nat → V → V → Prop
  | 0, x, y => (∃ i, x = .int i ∧ y = .int i) ∨ (∃ z, x = .str z ∧ y = .str z)
  | n + 1, x, y => ((∃ i, x = .int i ∧ y = .int i) ∨ (∃ z, x = .str z ∧ y = .str z)) ∨
      ∃ (a b : Addr) (xs ys : List V), x = .ref a ∧ y = .ref b ∧ ((H a = some (.lst xs) ∧ H b = some (.lst ys)) ∨ (H a = some (.tup xs) ∧ H b = some (.tup ys))) ∧ xs.length = ys.length ∧ xs.length ≤ 10000000 ∧
        ∀ (i : Nat) (u v : V), xs[i]? = some u → ys[i]? = some v → Alike H n u v
theorem Alike.same {H H' : Hp} (e : Same H H') : ∀ {n : Nat} {x y : V}, Alike H n x y → Alike H' n x y
  | 0, x, y, h => h
  | n + 1, x, y, h => by
    rcases h with h | ⟨a, b, xs, ys, rfl, rfl, hh, hl, hz, hi⟩
    · exact .inl h
    · refine .inr ⟨a, b, xs, ys, rfl, rfl, ?_, hl, hz, fun i u v h1 h2 => (hi i u v h1 h2).same e⟩
      rcases hh with ⟨h1, h2⟩ | ⟨h1, h2⟩
      · exact .inl ⟨e _ _ h1, e _ _ h2⟩
      · exact .inr ⟨e _ _ h1, e _ _ h2⟩
end WS
set_option maxRecDepth 100000
set_option maxHeartbeats 4000000
namespace WS
open PySem L2
/-- _law_like(found, due) of two that are alike: True -/
def spLike (n : Nat) : Sp := fun vs H Q _ => ∃ (x y : V), vs = [x, y] ∧ Alike H n x y ∧ Q (.bl true) H
section
variable {P : Program} {w : World} {K : PySem.W.Frag} {mg : Str → Option Value} {base : Heap}
theorem scLike : FnScope ["_law_found", "_law_due", "_law_k"] ["_law_found", "_law_due"] (defScope sLike) := ⟨rfl, rfl, rfl, by decide +kernel, rfl, by decide +kernel, by decide +kernel⟩
theorem ok_like {f : Addr} {fd : FuncData} (F : Fun K "_law_like" "_law_like" sLike f fd) (S__law_like : Site K mg "_law_like" f fd ["_law_found", "_law_due"]) (z_isinstance : mg "isinstance" = none) (z_str : mg "str" = none) (z_int : mg "int" = none) (z_bool : mg "bool" = none)
    (z_tuple : mg "tuple" = none) (z_list : mg "list" = none) (z_len : mg "len" = none) (z_range : mg "range" = none) : ∀ n : Nat, FnOk P w K mg base CX0 (n + 1) f fd ["_law_found", "_law_due"] (spLike n)
  | 0 => by
    refine F.ok scLike (fun vs H Q E h => ?_) (fun cdv A outer s H vs Q E hr h => ?_)
    · obtain ⟨x, y, rfl, _⟩ := h
      rfl
    · obtain ⟨x, y, rfl, h, k⟩ := h
      have nd := scLike.nd
      refine ⟨_, (pss_cons (ps_if (pt_val (pe_callB call_isi (by rfl) z_isinstance (by decide +kernel) (pa_cons (pv 1) (pa_cons (pe_bltn (v := .ty "str") (by rfl) z_str PyProof.Rows.boot_str rfl) pa_nil)))) (pss_one (ps_ret (pe_and (pe_callB call_isi (by rfl) z_isinstance (by decide +kernel) (pa_cons (pv 0) (pa_cons (pe_bltn (v := .ty "str") (by rfl) z_str PyProof.Rows.boot_str rfl) pa_nil))) (pe_one (pe_cmpR op_eq (pv 0) (pv 1) (nomark _)))))) pss_nil)
      (pss_cons (ps_if (pt_val (pe_callB call_isi (by rfl) z_isinstance (by decide +kernel) (pa_cons (pv 1) (pa_cons (pe_bltn (v := .ty "int") (by rfl) z_int PyProof.Rows.boot_int rfl) pa_nil)))) (pss_one (ps_ret (pe_and (pe_callB call_isi (by rfl) z_isinstance (by decide +kernel) (pa_cons (pv 0) (pa_cons (pe_bltn (v := .ty "int") (by rfl) z_int PyProof.Rows.boot_int rfl) pa_nil))) (pe_and (pe_not (pe_callB call_isi (by rfl) z_isinstance (by decide +kernel) (pa_cons (pv 0) (pa_cons (pe_bltn (v := .ty "bool") (by rfl) z_bool PyProof.Rows.boot_bool rfl) pa_nil)))) (pe_one (pe_cmpR op_eq (pv 0) (pv 1) (nomark _))))))) pss_nil) pss_never)), ?_⟩
      rcases h with ⟨i, rfl, rfl⟩ | ⟨z, rfl, rfl⟩
      · refine ⟨_, rfl, _, _, _, _, false, rfl, .ty _, tyInt i, kit_ty (by decide +kernel), _, rfl, iteF ?_⟩
        refine ⟨_, rfl, _, _, _, _, true, rfl, .ty _, tyInt i, kit_ty (by decide +kernel), _, rfl, iteT ?_⟩
        refine ⟨_, rfl, _, _, _, _, true, rfl, .ty _, tyInt i, kit_ty (by decide +kernel), _, rfl, iteT ?_⟩
        refine ⟨_, rfl, _, _, _, _, false, rfl, .ty _, tyInt i, kit_ty (by decide +kernel), _, rfl, _, rfl, iteT ?_⟩
        refine ⟨_, rfl, _, rfl, rfl, ?_⟩
        rw [decide_eq_true rfl]
        exact k
      · refine ⟨_, rfl, _, _, _, _, true, rfl, .ty _, tyStr z, kit_ty (by decide +kernel), _, rfl, iteT ?_⟩
        refine ⟨_, rfl, _, _, _, _, true, rfl, .ty _, tyStr z, kit_ty (by decide +kernel), _, rfl, iteT ?_⟩
        refine ⟨_, rfl, _, rfl, rfl, ?_⟩
        rw [decide_eq_true rfl]
        exact k
  | n + 1 => by
    have G__law_like := ok_like F S__law_like z_isinstance z_str z_int z_bool z_tuple z_list z_len z_range n
    refine F.ok scLike (fun vs H Q E h => ?_) (fun cdv A outer s H vs Q E hr h => ?_)
    · obtain ⟨x, y, rfl, _⟩ := h
      rfl
    · obtain ⟨x, y, rfl, h, k⟩ := h
      have nd := scLike.nd
      have hr__law_like := hr
      refine ⟨_, (pss_cons (ps_if (pt_val (pe_callB call_isi (by rfl) z_isinstance (by decide +kernel) (pa_cons (pv 1) (pa_cons (pe_bltn (v := .ty "str") (by rfl) z_str PyProof.Rows.boot_str rfl) pa_nil)))) (pss_one (ps_ret (pe_and (pe_callB call_isi (by rfl) z_isinstance (by decide +kernel) (pa_cons (pv 0) (pa_cons (pe_bltn (v := .ty "str") (by rfl) z_str PyProof.Rows.boot_str rfl) pa_nil))) (pe_one (pe_cmpR op_eq (pv 0) (pv 1) (nomark _)))))) pss_nil)
      (pss_cons (ps_if (pt_val (pe_callB call_isi (by rfl) z_isinstance (by decide +kernel) (pa_cons (pv 1) (pa_cons (pe_bltn (v := .ty "int") (by rfl) z_int PyProof.Rows.boot_int rfl) pa_nil)))) (pss_one (ps_ret (pe_and (pe_callB call_isi (by rfl) z_isinstance (by decide +kernel) (pa_cons (pv 0) (pa_cons (pe_bltn (v := .ty "int") (by rfl) z_int PyProof.Rows.boot_int rfl) pa_nil))) (pe_and (pe_not (pe_callB call_isi (by rfl) z_isinstance (by decide +kernel) (pa_cons (pv 0) (pa_cons (pe_bltn (v := .ty "bool") (by rfl) z_bool PyProof.Rows.boot_bool rfl) pa_nil)))) (pe_one (pe_cmpR op_eq (pv 0) (pv 1) (nomark _))))))) pss_nil)
      (pss_cons (ps_if (pt_cmpR op_isN (pv 1) pe_non (nomark _)) (pss_one (ps_ret (pe_cmpR op_isN (pv 0) pe_non (nomark _)))) pss_nil)
      (pss_cons (ps_if (PW.pt (pw_or (pt_cmpR op_ne (pe_callB call_isi (by rfl) z_isinstance (by decide +kernel) (pa_cons (pv 1) (pa_cons (pe_bltn (v := .ty "tuple") (by rfl) z_tuple PyProof.Rows.boot_tuple rfl) pa_nil))) (pe_callB call_isi (by rfl) z_isinstance (by decide +kernel) (pa_cons (pv 0) (pa_cons (pe_bltn (v := .ty "tuple") (by rfl) z_tuple PyProof.Rows.boot_tuple rfl) pa_nil))) (nomark _)) (pw_or1 (pt_cmpR op_ne (pe_callB call_isi (by rfl) z_isinstance (by decide +kernel) (pa_cons (pv 1) (pa_cons (pe_bltn (v := .ty "list") (by rfl) z_list PyProof.Rows.boot_list rfl) pa_nil))) (pe_callB call_isi (by rfl) z_isinstance (by decide +kernel) (pa_cons (pv 0) (pa_cons (pe_bltn (v := .ty "list") (by rfl) z_list PyProof.Rows.boot_list rfl) pa_nil))) (nomark _))))) (pss_one (ps_ret pe_bl)) pss_nil)
      (pss_cons (ps_if (pt_cmpR op_ne (pe_callB call_len_seq (by rfl) z_len PySem.boot_len (pa_cons (pv 0) pa_nil)) (pe_callB call_len_seq (by rfl) z_len PySem.boot_len (pa_cons (pv 1) pa_nil)) (nomark _)) (pss_one (ps_ret pe_bl)) pss_nil)
      (pss_cons (ps_for PassesOwn.never rfl (pi_range1 (by rfl) z_range (pa_cons (pe_callB call_len_seq (by rfl) z_len PySem.boot_len (pa_cons (pv 1) pa_nil)) pa_nil)) (pg_name (i := 2) nd rfl (.inl rfl)) (pss_one (ps_if (pt_not (pt_val (pe_call G__law_like hr__law_like (by rfl) S__law_like.g S__law_like.k S__law_like.b .nil pass0 (pa_cons (pe_ix (r := rIx K) ix_seq (pv 0) (pv 2) (fun _ _ => rfl)) (pa_cons (pe_ix (r := rIx K) ix_seq (pv 1) (pv 2) (fun _ _ => rfl)) pa_nil))))) (pss_one (ps_ret pe_bl)) pss_nil)))
      (pss_one (ps_ret pe_bl)))))))), ?_⟩
      rcases h with (⟨i, rfl, rfl⟩ | ⟨z, rfl, rfl⟩) | ⟨a, b, xs, ys, rfl, rfl, hh, hl, hz, hi⟩
      · refine ⟨_, rfl, _, _, _, _, false, rfl, .ty _, tyInt i, kit_ty (by decide +kernel), _, rfl, iteF ?_⟩
        refine ⟨_, rfl, _, _, _, _, true, rfl, .ty _, tyInt i, kit_ty (by decide +kernel), _, rfl, iteT ?_⟩
        refine ⟨_, rfl, _, _, _, _, true, rfl, .ty _, tyInt i, kit_ty (by decide +kernel), _, rfl, iteT ?_⟩
        refine ⟨_, rfl, _, _, _, _, false, rfl, .ty _, tyInt i, kit_ty (by decide +kernel), _, rfl, _, rfl, iteT ?_⟩
        refine ⟨_, rfl, _, rfl, rfl, ?_⟩
        rw [decide_eq_true rfl]
        exact k
      · refine ⟨_, rfl, _, _, _, _, true, rfl, .ty _, tyStr z, kit_ty (by decide +kernel), _, rfl, iteT ?_⟩
        refine ⟨_, rfl, _, _, _, _, true, rfl, .ty _, tyStr z, kit_ty (by decide +kernel), _, rfl, iteT ?_⟩
        refine ⟨_, rfl, _, rfl, rfl, ?_⟩
        rw [decide_eq_true rfl]
        exact k
      · have nx : ∀ (i : Nat) (u v : V), xs[i]? = some u → ys[i]? = some v → Alike H n u v := hi
        rcases hh with ⟨h1, h2⟩ | ⟨h1, h2⟩
        · refine ⟨_, rfl, _, _, _, _, false, rfl, .ty _, tyLst h2, kit_ty (by decide +kernel), _, rfl, iteF ?_⟩
          refine ⟨_, rfl, _, _, _, _, false, rfl, .ty _, tyLst h2, kit_ty (by decide +kernel), _, rfl, iteF ?_⟩
          refine ⟨_, rfl, rfl, _, rfl, iteF ?_⟩
          refine ⟨_, rfl, _, _, _, _, false, rfl, .ty _, tyLst h2, kit_ty (by decide +kernel), _, rfl, _, _, _, _, false, rfl, .ty _, tyLst h1, kit_ty (by decide +kernel), rfl, _, rfl, iteF ?_⟩
          refine ⟨_, rfl, _, _, _, _, true, rfl, .ty _, tyLst h2, kit_ty (by decide +kernel), _, rfl, _, _, _, _, true, rfl, .ty _, tyLst h1, kit_ty (by decide +kernel), rfl, _, rfl, iteF ?_⟩
          refine ⟨_, rfl, a, _, rfl, .inl (.of h1), _, rfl, b, _, rfl, .inl (.of h2), rfl, _, rfl, iteNS (by rw [hl]) ?_⟩
          refine ⟨_, rfl, b, _, rfl, .inl (.of h2), _, rfl, by omega, by omega, for_range (lo := 0) (n := ((ys.length : Nat) : Int).toNat) (fun i σ H2 => H2 = H ∧ ∃ v, σ = [some (.ref a), some (.ref b), v]) ⟨rfl, none, rfl⟩ ?_ ?_⟩
          · rintro i σ H2 hi' ⟨rfl, v, rfl⟩
            have hi2 : i < ys.length := by omega
            have hu : xs[i]? = some xs[i] := List.getElem?_eq_getElem (by omega)
            have hv : ys[i]? = some ys[i] := List.getElem?_eq_getElem hi2
            refine ⟨_, rfl, _, rfl, .inl ⟨a, xs, _, _, rfl, rfl, .of h1, at_of (j := i) (by omega) hu, _, rfl, _, rfl, .inl ⟨b, ys, _, _, rfl, rfl, .of h2, at_of (j := i) (by omega) hv, _, _, rfl, nx i _ _ hu hv, true, rfl, iteF ?_⟩⟩⟩
            exact ⟨rfl, _, rfl⟩
          · rintro σ H2 ⟨rfl, v, rfl⟩
            exact k
        · refine ⟨_, rfl, _, _, _, _, false, rfl, .ty _, tyTup h2, kit_ty (by decide +kernel), _, rfl, iteF ?_⟩
          refine ⟨_, rfl, _, _, _, _, false, rfl, .ty _, tyTup h2, kit_ty (by decide +kernel), _, rfl, iteF ?_⟩
          refine ⟨_, rfl, rfl, _, rfl, iteF ?_⟩
          refine ⟨_, rfl, _, _, _, _, true, rfl, .ty _, tyTup h2, kit_ty (by decide +kernel), _, rfl, _, _, _, _, true, rfl, .ty _, tyTup h1, kit_ty (by decide +kernel), rfl, _, rfl, iteF ?_⟩
          refine ⟨_, rfl, _, _, _, _, false, rfl, .ty _, tyTup h2, kit_ty (by decide +kernel), _, rfl, _, _, _, _, false, rfl, .ty _, tyTup h1, kit_ty (by decide +kernel), rfl, _, rfl, iteF ?_⟩
          refine ⟨_, rfl, a, _, rfl, .inr (.of h1), _, rfl, b, _, rfl, .inr (.of h2), rfl, _, rfl, iteNS (by rw [hl]) ?_⟩
          refine ⟨_, rfl, b, _, rfl, .inr (.of h2), _, rfl, by omega, by omega, for_range (lo := 0) (n := ((ys.length : Nat) : Int).toNat) (fun i σ H2 => H2 = H ∧ ∃ v, σ = [some (.ref a), some (.ref b), v]) ⟨rfl, none, rfl⟩ ?_ ?_⟩
          · rintro i σ H2 hi' ⟨rfl, v, rfl⟩
            have hi2 : i < ys.length := by omega
            have hu : xs[i]? = some xs[i] := List.getElem?_eq_getElem (by omega)
            have hv : ys[i]? = some ys[i] := List.getElem?_eq_getElem hi2
            refine ⟨_, rfl, _, rfl, .inr (.inl ⟨a, xs, _, _, rfl, rfl, .of h1, at_of (j := i) (by omega) hu, _, rfl, _, rfl, .inr (.inl ⟨b, ys, _, _, rfl, rfl, .of h2, at_of (j := i) (by omega) hv, _, _, rfl, nx i _ _ hu hv, true, rfl, iteF ?_⟩)⟩)⟩
            exact ⟨rfl, _, rfl⟩
          · rintro σ H2 ⟨rfl, v, rfl⟩
            exact k
end
end WS
set_option maxRecDepth 100000
set_option maxHeartbeats 8000000
namespace WS
open PySem L2 SetT
theorem alike_str' (H : Hp) (n : Nat) (z : Str) : Alike H n (.str z) (.str z) := by
  cases n with
  | zero => exact .inr ⟨z, rfl, rfl⟩
  | succ n => exact .inl (.inr ⟨z, rfl, rfl⟩)
theorem alike_int' (H : Hp) (n : Nat) (i : Int) : Alike H n (.int i) (.int i) := by
  cases n with
  | zero => exact .inl ⟨i, rfl, rfl⟩
  | succ n => exact .inl (.inl ⟨i, rfl, rfl⟩)
theorem sums_alike {H : Hp} {a c : Addr} {ts ts' : List Addr} {ss : List WSum} (ha : H a = some (.lst (ts.map V.ref))) (hc : H c = some (.lst (ts'.map V.ref))) (h : SumsAt H ts ss) (h' : SumsAt H ts' ss) (hl : ss.length ≤ 3) (h4 : ∀ s ∈ ss, s.1.length ≤ 4) : Alike H 3 (.ref a) (.ref c) := by
  have l1 := h.len
  have l2 := h'.len
  refine .inr ⟨a, c, _, _, rfl, rfl, .inl ⟨ha, hc⟩, by rw [List.length_map, List.length_map]; omega, by rw [List.length_map]; omega, fun i u v hu hv => ?_⟩
  obtain ⟨r, hr, rfl⟩ := refs_at hu
  obtain ⟨r', hr', rfl⟩ := refs_at hv
  have hi : i < ss.length := by rw [← l1]; exact (List.getElem?_eq_some_iff.mp hr).1
  have hx : ss[i]? = some ss[i] := List.getElem?_eq_getElem hi
  have hxm : ss[i] ∈ ss := List.getElem_mem hi
  obtain ⟨u1, g1, g2⟩ := h.get i r _ hr hx
  obtain ⟨u2, g3, g4⟩ := h'.get i r' _ hr' hx
  refine .inr ⟨r, r', _, _, rfl, rfl, .inr ⟨g1, g3⟩, rfl, by show 2 ≤ _; decide, fun j u v hu hv => ?_⟩
  rcases j with _ | _ | j
  · cases Option.some.inj hu
    cases Option.some.inj hv
    refine .inr ⟨u1, u2, _, _, rfl, rfl, .inr ⟨g2, g4⟩, rfl, by rw [List.length_map]; have := h4 _ hxm; omega, fun j u v hu hv => ?_⟩
    cases Option.some.inj (hu.symm.trans hv)
    obtain ⟨z, _, rfl⟩ := strs_at' hu
    exact alike_str' _ _ _
  · cases Option.some.inj hu
    cases Option.some.inj hv
    exact alike_str' _ _ _
  · cases hu
section
variable {P : Program} {w : World} {K : PySem.W.Frag} {mg : Str → Option Value} {base : Heap}
theorem scLaw01 : FnScope ["_law_script", "_law_d", "_law_base", "_law_sums", "_law_bad", "_law_at", "_law_why", "_law_handed", "_law_sheet_here", "_law_turn", "_law_found"] ["_law_script"] (defScope sLaw) := ⟨rfl, rfl, rfl, by decide +kernel, rfl, by decide +kernel, by decide +kernel⟩
theorem ok_law01 {f C fD fN fW fI fS fWr fRf fLk : Addr} {fd fdD fdN fdW fdI fdS fdWr fdRf fdLk : FuncData} (F : Fun K "law" "law" sLaw f fd) (T : SheetTxt K mg C) (z_range : mg "range" = none) (z_list : mg "list" = none)
    (S__law_dice : Site K mg "_law_dice" fD fdD ["_law_script"]) (G__law_dice : FnOk P w K mg base CX0 1 fD fdD ["_law_script"] (spDice K))
    (S__law_next : Site K mg "_law_next" fN fdN ["_law_dice_here", "_law_many"]) (G__law_next : FnOk P w K mg base CX0 1 fN fdN ["_law_dice_here", "_law_many"] (spNext K))
    (S__law_sheet : Site K mg "_law_sheet" fW fdW ["_law_d"]) (G__law_sheet : FnOk P w K mg base CX0 3 fW fdW ["_law_d"] (spSheet K))
    (M : Mk K C fI) (bI : Binds K fdI ["self", "base", "sums"] []) (GI : FnOk P w K mg base CX0 3 fI fdI ["self", "base", "sums"] (spShInit C))
    (MS : Meth K C "sums" fS) (bS : Binds K fdS ["self"] []) (GS : FnOk P w K mg base CX0 1 fS fdS ["self"] (spShSums C))
    (S__law_wrong : Site K mg "_law_wrong" fWr fdWr ["_law_d", "_law_sheet_here"]) (G__law_wrong : FnOk P w K mg base CX0 2 fWr fdWr ["_law_d", "_law_sheet_here"] (spWrong K))
    (S__law_refused : Site K mg "_law_refused" fRf fdRf ["_law_sheet_here", "_law_at", "_law_why"]) (G__law_refused : FnOk P w K mg base CX0 6 fRf fdRf ["_law_sheet_here", "_law_at", "_law_why"] spRefused)
    (S__law_like : Site K mg "_law_like" fLk fdLk ["_law_found", "_law_due"]) (G__law_like : ∀ n, FnOk P w K mg base CX0 (n + 1) fLk fdLk ["_law_found", "_law_due"] (spLike n)) :
    FnOk P w K mg base CX0 7 f fd ["_law_script"] (spLaw K) := by
  refine F.ok scLaw01 (fun vs H Q E h => ?_) (fun cdv A outer s H vs Q E hr h => ?_)
  · obtain ⟨a, ns, rfl, _⟩ := h
    rfl
  · obtain ⟨a, ns, rfl, hsq, k⟩ := h
    have nd := scLaw01.nd
    have hu := hu_of hr
    have hr__law_dice : Room 1 _ := hr.mono (by decide)
    have hr__law_next : Room 1 _ := hr.mono (by decide)
    have hr__law_sheet : Room 3 _ := hr.mono (by decide)
    have hr_sheet : Room 4 _ := hr.mono (by decide)
    have hr_sums : Room 1 _ := hr.mono (by decide)
    have hr__law_wrong : Room 2 _ := hr.mono (by decide)
    have hr__law_refused : Room 6 _ := hr
    have hr1 : Room 1 _ := hr.mono (by decide)
    have hr4 : Room 4 _ := hr.mono (by decide)
    refine ⟨_, (pss_cons (ps_set (i := 1) nd rfl (.inl rfl) (pe_call G__law_dice hr__law_dice (by rfl) S__law_dice.g S__law_dice.k S__law_dice.b .nil pass0 (pa_cons (pv 0) pa_nil)))
      (pss_cons (ps_asg (pe_call G__law_sheet hr__law_sheet (by rfl) S__law_sheet.g S__law_sheet.k S__law_sheet.b .nil pass0 (pa_cons (pv 1) pa_nil)) (pg_tup rfl (pgs_cons (pg_name (i := 2) nd rfl (.inl rfl)) (pgs_cons (pg_name (i := 3) nd rfl (.inl rfl)) pgs_nil))))
      (pss_cons (ps_if (pt_cmpR op_eq (pe_call G__law_next hr__law_next (by rfl) S__law_next.g S__law_next.k S__law_next.b .nil pass0 (pa_cons (pv 1) (pa_cons pe_int pa_nil))) pe_int (nomark _)) (pss_cons (ps_asg (pe_call G__law_wrong hr__law_wrong (by rfl) S__law_wrong.g S__law_wrong.k S__law_wrong.b .nil pass0 (pa_cons (pv 1) (pa_cons (pe_tup (pa_cons (pv 2) (pa_cons (pv 3) pa_nil))) pa_nil))) (pg_tup rfl (pgs_cons (pg_name (i := 4) nd rfl (.inl rfl)) (pgs_cons (pg_name (i := 5) nd rfl (.inl rfl)) (pgs_cons (pg_name (i := 6) nd rfl (.inl rfl)) pgs_nil)))))
      (pss_one (ps_ret (pe_call G__law_refused hr__law_refused (by rfl) S__law_refused.g S__law_refused.k S__law_refused.b .nil pass0 (pa_cons (pv 4) (pa_cons (pv 5) (pa_cons (pv 6) pa_nil))))))) pss_nil)
      (pss_cons (ps_set (i := 7) nd rfl (.inl rfl) (pe_callTy call_list_of (by rfl) z_list (by decide +kernel) (pa_cons (pv 3) pa_nil)))
      (pss_cons (ps_set (i := 8) nd rfl (.inl rfl) (pe_make M GI hr_sheet (by rfl) T.g bI .nil pass0 (pa_cons (pv 2) (pa_cons (pv 7) pa_nil))))
      (pss_cons (ps_for PassesOwn.never rfl (pi_range1 (by rfl) z_range (pa_cons pe_int pa_nil)) (pg_name (i := 9) nd rfl (.inl rfl)) (pss_cons (ps_set (i := 10) nd rfl (.inl rfl) (pe_meth0 (pv 8) T.cl MS GS hr_sums bS .nil pass0))
      (pss_cons (ps_if (PW.pt (pw_or (pt_not (pt_val (pe_call (G__law_like 3) hr4 (by rfl) S__law_like.g S__law_like.k S__law_like.b .nil pass0 (pa_cons (pv 10) (pa_cons (pv 3) pa_nil))))) (pw_or1 (pt_not (pt_val (pe_call (G__law_like 0) hr1 (by rfl) S__law_like.g S__law_like.k S__law_like.b .nil pass0 (pa_cons (pe_fld (pv 8) rfl) (pa_cons (pv 2) pa_nil)))))))) (pss_one (ps_ret pe_bl)) pss_nil)
      (pss_cons (ps_expr (pe_bm0 PySem.F.plainAttrs_list PySem.F.slot_list_clear PySem.F.type_list_clear mt_clear (pv 10)))
      (pss_one (ps_expr (pe_bm0 PySem.F.plainAttrs_list PySem.F.slot_list_clear PySem.F.type_list_clear mt_clear (pv 7))))))))
      (pss_one (ps_ret pe_bl)))))))), ?_⟩
    refine ⟨_, rfl, a, ns, rfl, hsq, fun d H1 hd0 s1 D1 => ?_⟩
    refine ⟨_, rfl, d, a, ns, rfl, D1, fun t sl ts H2 b ss ht0 hsl0 D2 b2 ht hsl hsa ok => ?_⟩
    refine ⟨t, _, rfl, SqT.of ht, rfl, _, _, rfl, _, _, rfl, rfl, ?_⟩
    have V' := ok.valid
    have hf := V'.few
    have htd : t ≠ d := tup_ne D2 ht
    refine ⟨_, rfl, d, a, ns, 2, rfl, D2, by decide, by decide, fun v H3 v0 v1 D3 b3 e3 => ⟨rfl, _, rfl, ?_⟩⟩
    have hsl3 := b3 _ _ (refs_off D2 hsl) hsl
    have hsa3 := hsa.but D2 b3
    refine ite2 (fun _ => ?_) (fun _ => ?_)
    · refine ⟨_, rfl, _, rfl, _, rfl, by show 2 ≤ sizeLine; decide, fun p hp => ?_⟩
      have s34 : Same H3 (upd H3 p (.tup [.int b, .ref sl])) := Same.new hp
      refine ⟨d, a, ns, p, sl, b, ts, ss, rfl, D3.same s34, upd_same, s34 _ _ hsl3, hsa3.same s34, V', fun t' s' sl' ts' ss' b' i why H' h1 h2 h3 h4 h5 h6 h7 h8 => ?_⟩
      refine ⟨t', _, rfl, SqT.of h1, rfl, _, _, rfl, _, _, rfl, _, _, rfl, rfl, ?_⟩
      exact ⟨_, rfl, _, rfl, _, rfl, s', sl', i, why, b', ts', ss', rfl, h2, h3, h4, h5, h6, h7, h8, k⟩
    refine ⟨_, rfl, sl, _, rfl, .inl (SqL.of hsl3), fun hd hhd => ?_⟩
    have s34 : Same H3 (upd H3 hd (.lst (ts.map V.ref))) := Same.new hhd
    have hhd4 : (upd H3 hd (.lst (ts.map V.ref))) hd = some (.lst (ts.map V.ref)) := upd_same
    have hslhd : sl ≠ hd := ne_of_none hsl3 hhd
    generalize upd H3 hd (.lst (ts.map V.ref)) = H4 at s34 hhd4
    refine ⟨_, rfl, _, rfl, fun x dx nx ndx nex => ?_⟩
    have s0 : Same H4 (upd (upd H4 dx (.own x)) x (.ins C dx [])) := fun c o e => by
      rw [upd_ne (ne_of_none e nx), upd_ne (ne_of_none e ndx)]; exact e
    refine ⟨x, dx, b, hd, ts, ss, rfl, upd_same, s0 _ _ hhd4, (hsa3.same s34).same s0, V', fun kl H5 hkl A5 kp => ⟨rfl, ?_⟩⟩
    have hdk : hd ≠ kl := ne_of_none (s0 _ _ hhd4) hkl
    have hdx : hd ≠ x := ne_of_none hhd4 nx
    have s45 : Same H4 H5 := old_of nx ndx kp
    have hl := hsa.len
    refine ⟨2, rfl, by decide, by decide, for_range (lo := 0) (n := (2 : Int).toNat) (fun i σ H6 => ∃ (v9 v10 : Option V), σ = [some (.ref a), some (.ref d), some (.int b), some (.ref sl), none, none, none, some (.ref hd), some (.ref x), v9, v10] ∧ ShAt C H6 x b kl ts ∧ SumsAt H6 ts ss ∧ H6 sl = some (.lst (ts.map V.ref)) ∧ ∃ ys, H6 hd = some (.lst ys))
      ⟨none, none, rfl, A5, (hsa3.same s34).same s45, s45 _ _ (s34 _ _ hsl3), _, s45 _ _ hhd4⟩ ?_ ?_⟩
    · rintro i σ H6 hi ⟨v9, v10, rfl, A6, hsa6, hsl6, ys, hhd6⟩
      obtain ⟨⟨dxq, hx6⟩, hkl6⟩ := id A6
      refine ⟨_, rfl, x, dxq, _, rfl, hx6, flds_no _ _ (by decide +kernel) (by decide +kernel), x, b, kl, ts, rfl, A6, by omega, fun q H7 hq s67 hq7 => ?_⟩
      have hsl7 := s67 _ _ hsl6
      have hsa7 := hsa6.same s67
      have hx7 := s67 _ _ hx6
      have hhd7 := s67 _ _ hhd6
      have hkl7 := s67 _ _ hkl6
      refine ⟨_, rfl, _, rfl, _, _, rfl, sums_alike hq7 hsl7 hsa7 hsa7 hf.2 (fun s hs => (V'.many s hs).2), true, rfl, iteF ?_⟩
      refine ⟨_, rfl, x, C, dxq, _, _, rfl, hx7, T.cl, T.nB, flds_base _ _, _, rfl, _, _, rfl, alike_int' _ _ _, true, rfl, iteF ?_⟩
      have hslq : sl ≠ q := ne_of_none hsl6 hq
      have hxq : x ≠ q := ne_of_none hx6 hq
      have hkq : kl ≠ q := ne_of_none hkl6 hq
      have hhq : hd ≠ q := ne_of_none hhd6 hq
      refine ⟨_, rfl, .inl ⟨rfl, _, SqL.of hq7⟩, q, _, rfl, rfl, hq7, ?_⟩
      have hhd8 : (upd H7 q (.lst [])) hd = some (.lst ys) := (upd_ne hhq).trans hhd7
      refine ⟨_, rfl, .inl ⟨rfl, _, SqL.of hhd8⟩, hd, _, rfl, rfl, hhd8, ?_⟩
      refine ⟨_, _, rfl, ⟨⟨dxq, (upd_ne (Ne.symm hdx)).trans ((upd_ne hxq).trans hx7)⟩, (upd_ne (Ne.symm hdk)).trans ((upd_ne hkq).trans hkl7)⟩, (hsa7.mut ⟨_, hq7⟩).mut ⟨_, hhd8⟩, (upd_ne hslhd).trans ((upd_ne hslq).trans hsl7), _, upd_same⟩
    · rintro σ H6 ⟨v9, v10, rfl, _⟩
      exact k _
end
end WS
set_option maxRecDepth 100000
set_option maxHeartbeats 8000000
namespace WS
open PySem L2
theorem all_mk {l : PySem.W.OpenLaw} {w : World} {K : PySem.W.Frag} {h : Heap} {mg : Str → Option Value} {fa C_Sheet C_BadSheet C_NoAnswer C_ManyAnswers C_NotOne C_BadText C_SumError : Addr} (X : K.In h) (G : h.Ns mainGlobals mg) (hfa : mg "law" = some (.ref fa))
    {f_check_counts : Addr} {od_check_counts an_check_counts : Option Addr} {sl_check_counts : Array (Option Value)} {oc_check_counts kV_check_counts dc_check_counts pm_check_counts cd_check_counts ct_check_counts : Value}
    {f_check_sums : Addr} {od_check_sums an_check_sums : Option Addr} {sl_check_sums : Array (Option Value)} {oc_check_sums kV_check_sums dc_check_sums pm_check_sums cd_check_sums ct_check_sums : Value}
    {f_is_word : Addr} {od_is_word an_is_word : Option Addr} {sl_is_word : Array (Option Value)} {oc_is_word kV_is_word dc_is_word pm_is_word cd_is_word ct_is_word : Value}
    {f__law_dice : Addr} {od__law_dice an__law_dice : Option Addr} {sl__law_dice : Array (Option Value)} {oc__law_dice kV__law_dice dc__law_dice pm__law_dice cd__law_dice ct__law_dice : Value}
    {f__law_next : Addr} {od__law_next an__law_next : Option Addr} {sl__law_next : Array (Option Value)} {oc__law_next kV__law_next dc__law_next pm__law_next cd__law_next ct__law_next : Value}
    {f__law_whole : Addr} {od__law_whole an__law_whole : Option Addr} {sl__law_whole : Array (Option Value)} {oc__law_whole kV__law_whole dc__law_whole pm__law_whole cd__law_whole ct__law_whole : Value}
    {f__law_like : Addr} {od__law_like an__law_like : Option Addr} {sl__law_like : Array (Option Value)} {oc__law_like kV__law_like dc__law_like pm__law_like cd__law_like ct__law_like : Value}
    {f__law_word : Addr} {od__law_word an__law_word : Option Addr} {sl__law_word : Array (Option Value)} {oc__law_word kV__law_word dc__law_word pm__law_word cd__law_word ct__law_word : Value}
    {f__law_names : Addr} {od__law_names an__law_names : Option Addr} {sl__law_names : Array (Option Value)} {oc__law_names kV__law_names dc__law_names pm__law_names cd__law_names ct__law_names : Value}
    {f__law_sum : Addr} {od__law_sum an__law_sum : Option Addr} {sl__law_sum : Array (Option Value)} {oc__law_sum kV__law_sum dc__law_sum pm__law_sum cd__law_sum ct__law_sum : Value}
    {f__law_sheet : Addr} {od__law_sheet an__law_sheet : Option Addr} {sl__law_sheet : Array (Option Value)} {oc__law_sheet kV__law_sheet dc__law_sheet pm__law_sheet cd__law_sheet ct__law_sheet : Value}
    {f__law_is : Addr} {od__law_is an__law_is : Option Addr} {sl__law_is : Array (Option Value)} {oc__law_is kV__law_is dc__law_is pm__law_is cd__law_is ct__law_is : Value}
    {f__law_wrong : Addr} {od__law_wrong an__law_wrong : Option Addr} {sl__law_wrong : Array (Option Value)} {oc__law_wrong kV__law_wrong dc__law_wrong pm__law_wrong cd__law_wrong ct__law_wrong : Value}
    {f__law_refused : Addr} {od__law_refused an__law_refused : Option Addr} {sl__law_refused : Array (Option Value)} {oc__law_refused kV__law_refused dc__law_refused pm__law_refused cd__law_refused ct__law_refused : Value}
    {f_law : Addr} {od_law an_law : Option Addr} {sl_law : Array (Option Value)} {oc_law kV_law dc_law pm_law cd_law ct_law : Value}
    {f_BadSheet_init : Addr} {od_BadSheet_init an_BadSheet_init : Option Addr} {sl_BadSheet_init : Array (Option Value)} {oc_BadSheet_init kV_BadSheet_init dc_BadSheet_init pm_BadSheet_init cd_BadSheet_init ct_BadSheet_init : Value}
    {f_Sheet_init : Addr} {od_Sheet_init an_Sheet_init : Option Addr} {sl_Sheet_init : Array (Option Value)} {oc_Sheet_init kV_Sheet_init dc_Sheet_init pm_Sheet_init cd_Sheet_init ct_Sheet_init : Value}
    {f_Sheet_sums : Addr} {od_Sheet_sums an_Sheet_sums : Option Addr} {sl_Sheet_sums : Array (Option Value)} {oc_Sheet_sums kV_Sheet_sums dc_Sheet_sums pm_Sheet_sums cd_Sheet_sums ct_Sheet_sums : Value}
    {t_LEAST_BASE : Tok}
    {t_MOST_BASE : Tok}
    {t_MOST_SUMS : Tok}
    {t_MOST_ADDENDS : Tok}
    {t_MOST_IN_WORD : Tok}
    {t_MOST_LETTERS : Tok}
    {t_SMALL_LETTERS : Tok}
    (a_Sheet : PySem.W.nsIn K mainGlobals "Sheet" = some (some (.ref C_Sheet)))
    (a_check_counts : PySem.W.nsIn K mainGlobals "check_counts" = some (some (.ref f_check_counts))) (l_check_counts : K.lookup f_check_counts = some ⟨oc_check_counts, od_check_counts, .func (PySem.W.fnOf "check_counts" "check_counts" (defArgs sCounts) (defBody sCounts) (defScope sCounts) .none kV_check_counts dc_check_counts pm_check_counts an_check_counts cd_check_counts ct_check_counts), sl_check_counts⟩) (c_check_counts : PySem.W.codeIn K cd_check_counts "check_counts" = true) (k_check_counts : PySem.W.keepIn K (.ref f_check_counts) = true)
    (a_check_sums : PySem.W.nsIn K mainGlobals "check_sums" = some (some (.ref f_check_sums))) (l_check_sums : K.lookup f_check_sums = some ⟨oc_check_sums, od_check_sums, .func (PySem.W.fnOf "check_sums" "check_sums" (defArgs sCheck) (defBody sCheck) (defScope sCheck) .none kV_check_sums dc_check_sums pm_check_sums an_check_sums cd_check_sums ct_check_sums), sl_check_sums⟩) (c_check_sums : PySem.W.codeIn K cd_check_sums "check_sums" = true) (k_check_sums : PySem.W.keepIn K (.ref f_check_sums) = true)
    (a_is_word : PySem.W.nsIn K mainGlobals "is_word" = some (some (.ref f_is_word))) (l_is_word : K.lookup f_is_word = some ⟨oc_is_word, od_is_word, .func (PySem.W.fnOf "is_word" "is_word" (defArgs sIsWord) (defBody sIsWord) (defScope sIsWord) .none kV_is_word dc_is_word pm_is_word an_is_word cd_is_word ct_is_word), sl_is_word⟩) (c_is_word : PySem.W.codeIn K cd_is_word "is_word" = true) (k_is_word : PySem.W.keepIn K (.ref f_is_word) = true)
    (a__law_dice : PySem.W.nsIn K mainGlobals "_law_dice" = some (some (.ref f__law_dice))) (l__law_dice : K.lookup f__law_dice = some ⟨oc__law_dice, od__law_dice, .func (PySem.W.fnOf "_law_dice" "_law_dice" (defArgs sDice) (defBody sDice) (defScope sDice) .none kV__law_dice dc__law_dice pm__law_dice an__law_dice cd__law_dice ct__law_dice), sl__law_dice⟩) (c__law_dice : PySem.W.codeIn K cd__law_dice "_law_dice" = true) (k__law_dice : PySem.W.keepIn K (.ref f__law_dice) = true)
    (a__law_next : PySem.W.nsIn K mainGlobals "_law_next" = some (some (.ref f__law_next))) (l__law_next : K.lookup f__law_next = some ⟨oc__law_next, od__law_next, .func (PySem.W.fnOf "_law_next" "_law_next" (defArgs sNext) (defBody sNext) (defScope sNext) .none kV__law_next dc__law_next pm__law_next an__law_next cd__law_next ct__law_next), sl__law_next⟩) (c__law_next : PySem.W.codeIn K cd__law_next "_law_next" = true) (k__law_next : PySem.W.keepIn K (.ref f__law_next) = true)
    (a__law_whole : PySem.W.nsIn K mainGlobals "_law_whole" = some (some (.ref f__law_whole))) (l__law_whole : K.lookup f__law_whole = some ⟨oc__law_whole, od__law_whole, .func (PySem.W.fnOf "_law_whole" "_law_whole" (defArgs sWhole) (defBody sWhole) (defScope sWhole) .none kV__law_whole dc__law_whole pm__law_whole an__law_whole cd__law_whole ct__law_whole), sl__law_whole⟩) (c__law_whole : PySem.W.codeIn K cd__law_whole "_law_whole" = true) (k__law_whole : PySem.W.keepIn K (.ref f__law_whole) = true)
    (a__law_like : PySem.W.nsIn K mainGlobals "_law_like" = some (some (.ref f__law_like))) (l__law_like : K.lookup f__law_like = some ⟨oc__law_like, od__law_like, .func (PySem.W.fnOf "_law_like" "_law_like" (defArgs sLike) (defBody sLike) (defScope sLike) .none kV__law_like dc__law_like pm__law_like an__law_like cd__law_like ct__law_like), sl__law_like⟩) (c__law_like : PySem.W.codeIn K cd__law_like "_law_like" = true) (k__law_like : PySem.W.keepIn K (.ref f__law_like) = true)
    (a__law_word : PySem.W.nsIn K mainGlobals "_law_word" = some (some (.ref f__law_word))) (l__law_word : K.lookup f__law_word = some ⟨oc__law_word, od__law_word, .func (PySem.W.fnOf "_law_word" "_law_word" (defArgs sWord) (defBody sWord) (defScope sWord) .none kV__law_word dc__law_word pm__law_word an__law_word cd__law_word ct__law_word), sl__law_word⟩) (c__law_word : PySem.W.codeIn K cd__law_word "_law_word" = true) (k__law_word : PySem.W.keepIn K (.ref f__law_word) = true)
    (a__law_names : PySem.W.nsIn K mainGlobals "_law_names" = some (some (.ref f__law_names))) (l__law_names : K.lookup f__law_names = some ⟨oc__law_names, od__law_names, .func (PySem.W.fnOf "_law_names" "_law_names" (defArgs sNames) (defBody sNames) (defScope sNames) .none kV__law_names dc__law_names pm__law_names an__law_names cd__law_names ct__law_names), sl__law_names⟩) (c__law_names : PySem.W.codeIn K cd__law_names "_law_names" = true) (k__law_names : PySem.W.keepIn K (.ref f__law_names) = true)
    (a__law_sum : PySem.W.nsIn K mainGlobals "_law_sum" = some (some (.ref f__law_sum))) (l__law_sum : K.lookup f__law_sum = some ⟨oc__law_sum, od__law_sum, .func (PySem.W.fnOf "_law_sum" "_law_sum" (defArgs sSum) (defBody sSum) (defScope sSum) .none kV__law_sum dc__law_sum pm__law_sum an__law_sum cd__law_sum ct__law_sum), sl__law_sum⟩) (c__law_sum : PySem.W.codeIn K cd__law_sum "_law_sum" = true) (k__law_sum : PySem.W.keepIn K (.ref f__law_sum) = true)
    (a__law_sheet : PySem.W.nsIn K mainGlobals "_law_sheet" = some (some (.ref f__law_sheet))) (l__law_sheet : K.lookup f__law_sheet = some ⟨oc__law_sheet, od__law_sheet, .func (PySem.W.fnOf "_law_sheet" "_law_sheet" (defArgs sSheet) (defBody sSheet) (defScope sSheet) .none kV__law_sheet dc__law_sheet pm__law_sheet an__law_sheet cd__law_sheet ct__law_sheet), sl__law_sheet⟩) (c__law_sheet : PySem.W.codeIn K cd__law_sheet "_law_sheet" = true) (k__law_sheet : PySem.W.keepIn K (.ref f__law_sheet) = true)
    (a__law_is : PySem.W.nsIn K mainGlobals "_law_is" = some (some (.ref f__law_is))) (l__law_is : K.lookup f__law_is = some ⟨oc__law_is, od__law_is, .func (PySem.W.fnOf "_law_is" "_law_is" (defArgs sLIs) (defBody sLIs) (defScope sLIs) .none kV__law_is dc__law_is pm__law_is an__law_is cd__law_is ct__law_is), sl__law_is⟩) (c__law_is : PySem.W.codeIn K cd__law_is "_law_is" = true) (k__law_is : PySem.W.keepIn K (.ref f__law_is) = true)
    (a__law_wrong : PySem.W.nsIn K mainGlobals "_law_wrong" = some (some (.ref f__law_wrong))) (l__law_wrong : K.lookup f__law_wrong = some ⟨oc__law_wrong, od__law_wrong, .func (PySem.W.fnOf "_law_wrong" "_law_wrong" (defArgs sLWrong) (defBody sLWrong) (defScope sLWrong) .none kV__law_wrong dc__law_wrong pm__law_wrong an__law_wrong cd__law_wrong ct__law_wrong), sl__law_wrong⟩) (c__law_wrong : PySem.W.codeIn K cd__law_wrong "_law_wrong" = true) (k__law_wrong : PySem.W.keepIn K (.ref f__law_wrong) = true)
    (a__law_refused : PySem.W.nsIn K mainGlobals "_law_refused" = some (some (.ref f__law_refused))) (l__law_refused : K.lookup f__law_refused = some ⟨oc__law_refused, od__law_refused, .func (PySem.W.fnOf "_law_refused" "_law_refused" (defArgs sLRefused) (defBody sLRefused) (defScope sLRefused) .none kV__law_refused dc__law_refused pm__law_refused an__law_refused cd__law_refused ct__law_refused), sl__law_refused⟩) (c__law_refused : PySem.W.codeIn K cd__law_refused "_law_refused" = true) (k__law_refused : PySem.W.keepIn K (.ref f__law_refused) = true)
    (a_law : PySem.W.nsIn K mainGlobals "law" = some (some (.ref f_law))) (l_law : K.lookup f_law = some ⟨oc_law, od_law, .func (PySem.W.fnOf "law" "law" (defArgs sLaw) (defBody sLaw) (defScope sLaw) .none kV_law dc_law pm_law an_law cd_law ct_law), sl_law⟩) (c_law : PySem.W.codeIn K cd_law "law" = true) (k_law : PySem.W.keepIn K (.ref f_law) = true)
    (a_BadSheet_init : PySem.W.findIn K (.ref C_BadSheet) "__init__" = some (some (.ref f_BadSheet_init))) (i_BadSheet_init : PySem.W.isFn K (.ref f_BadSheet_init) = true) (l_BadSheet_init : K.lookup f_BadSheet_init = some ⟨oc_BadSheet_init, od_BadSheet_init, .func (PySem.W.fnOf "__init__" "BadSheet.__init__" (defArgs sBsInit) (defBody sBsInit) (defScope sBsInit) .none kV_BadSheet_init dc_BadSheet_init pm_BadSheet_init an_BadSheet_init cd_BadSheet_init ct_BadSheet_init), sl_BadSheet_init⟩) (c_BadSheet_init : PySem.W.codeIn K cd_BadSheet_init "BadSheet.__init__" = true) (k_BadSheet_init : PySem.W.keepIn K (.ref f_BadSheet_init) = true)
    (a_Sheet_init : PySem.W.findIn K (.ref C_Sheet) "__init__" = some (some (.ref f_Sheet_init))) (i_Sheet_init : PySem.W.isFn K (.ref f_Sheet_init) = true) (l_Sheet_init : K.lookup f_Sheet_init = some ⟨oc_Sheet_init, od_Sheet_init, .func (PySem.W.fnOf "__init__" "Sheet.__init__" (defArgs sShInit) (defBody sShInit) (defScope sShInit) .none kV_Sheet_init dc_Sheet_init pm_Sheet_init an_Sheet_init cd_Sheet_init ct_Sheet_init), sl_Sheet_init⟩) (c_Sheet_init : PySem.W.codeIn K cd_Sheet_init "Sheet.__init__" = true) (k_Sheet_init : PySem.W.keepIn K (.ref f_Sheet_init) = true)
    (a_Sheet_sums : PySem.W.findIn K (.ref C_Sheet) "sums" = some (some (.ref f_Sheet_sums))) (i_Sheet_sums : PySem.W.isFn K (.ref f_Sheet_sums) = true) (l_Sheet_sums : K.lookup f_Sheet_sums = some ⟨oc_Sheet_sums, od_Sheet_sums, .func (PySem.W.fnOf "sums" "Sheet.sums" (defArgs sShSums) (defBody sShSums) (defScope sShSums) .none kV_Sheet_sums dc_Sheet_sums pm_Sheet_sums an_Sheet_sums cd_Sheet_sums ct_Sheet_sums), sl_Sheet_sums⟩) (c_Sheet_sums : PySem.W.codeIn K cd_Sheet_sums "Sheet.sums" = true) (k_Sheet_sums : PySem.W.keepIn K (.ref f_Sheet_sums) = true)
    (pg_Sheet : PySem.W.plainGet K C_Sheet Str.empty = true) (hd_Sheet : PySem.W.hasDictIn K C_Sheet = true) (po_Sheet : PySem.W.plainOver K C_Sheet = true) (sa_Sheet : PySem.W.findIn K (.ref C_Sheet) "__setattr__" = some (some (.builtin "object.__setattr__")))
    (mk_Sheet : PySem.W.makesIn K C_Sheet = true) (kc_Sheet : PySem.W.keepIn K (.ref C_Sheet) = true)
    (n_Sheet_base : PySem.W.findIn K (.ref C_Sheet) "base" = some none)
    (n_Sheet_kept : PySem.W.findIn K (.ref C_Sheet) "kept" = some none)
    (y_ValueError : PySem.W.nsIn K mainGlobals "ValueError" = some none)
    (y_all : PySem.W.nsIn K mainGlobals "all" = some none)
    (y_bool : PySem.W.nsIn K mainGlobals "bool" = some none)
    (y_enumerate : PySem.W.nsIn K mainGlobals "enumerate" = some none)
    (y_int : PySem.W.nsIn K mainGlobals "int" = some none)
    (y_isinstance : PySem.W.nsIn K mainGlobals "isinstance" = some none)
    (y_len : PySem.W.nsIn K mainGlobals "len" = some none)
    (y_list : PySem.W.nsIn K mainGlobals "list" = some none)
    (y_min : PySem.W.nsIn K mainGlobals "min" = some none)
    (y_range : PySem.W.nsIn K mainGlobals "range" = some none)
    (y_set : PySem.W.nsIn K mainGlobals "set" = some none)
    (y_str : PySem.W.nsIn K mainGlobals "str" = some none)
    (y_sum : PySem.W.nsIn K mainGlobals "sum" = some none)
    (y_tuple : PySem.W.nsIn K mainGlobals "tuple" = some none)
    (x_LEAST_BASE : PySem.W.nsIn K mainGlobals "LEAST_BASE" = some (some (.int 2 t_LEAST_BASE)))
    (x_MOST_BASE : PySem.W.nsIn K mainGlobals "MOST_BASE" = some (some (.int 12 t_MOST_BASE)))
    (x_MOST_SUMS : PySem.W.nsIn K mainGlobals "MOST_SUMS" = some (some (.int 3 t_MOST_SUMS)))
    (x_MOST_ADDENDS : PySem.W.nsIn K mainGlobals "MOST_ADDENDS" = some (some (.int 4 t_MOST_ADDENDS)))
    (x_MOST_IN_WORD : PySem.W.nsIn K mainGlobals "MOST_IN_WORD" = some (some (.int 6 t_MOST_IN_WORD)))
    (x_MOST_LETTERS : PySem.W.nsIn K mainGlobals "MOST_LETTERS" = some (some (.int 8 t_MOST_LETTERS)))
    (x_SMALL_LETTERS : PySem.W.nsIn K mainGlobals "SMALL_LETTERS" = some (some (.str abc t_SMALL_LETTERS)))
    {nmB qB : Str} {NB : Addr} {bsB bmB : List Value} {snB : List Str} {subB : List Value} {abB : Bool} {colB : Option Bool} {ddB : Option Addr} {k0B k1B k2B k3B k5B : Option Value}
    (a_BadSheet : PySem.W.nsIn K mainGlobals "BadSheet" = some (some (.ref C_BadSheet)))
    (a_NoAnswer : PySem.W.nsIn K mainGlobals "NoAnswer" = some (some (.ref C_NoAnswer)))
    (a_ManyAnswers : PySem.W.nsIn K mainGlobals "ManyAnswers" = some (some (.ref C_ManyAnswers)))
    (a_NotOne : PySem.W.nsIn K mainGlobals "NotOne" = some (some (.ref C_NotOne)))
    (a_BadText : PySem.W.nsIn K mainGlobals "BadText" = some (some (.ref C_BadText)))
    (a_SumError : PySem.W.nsIn K mainGlobals "SumError" = some (some (.ref C_SumError)))
    (cl_BadSheet : K.lookup C_BadSheet = some (excClassObj nmB qB C_BadSheet NB bsB bmB true snB subB abB colB ddB k0B k1B k2B k3B k5B "ValueError.__new__"))
    (rv_BadSheet : PySem.HandSPX.refsVE bmB = true)
    (st_BadSheet : PySem.W.findIn K (.ref C_BadSheet) "__setattr__" = some (some (.builtin "object.__setattr__")))
    (kp_BadSheet : PySem.W.keepIn K (.ref C_BadSheet) = true)
    (sb_BadSheet : PySem.W.subIn K (.ref C_BadSheet) (.type "BaseException") = some true)
    (ty_BadSheet : PySem.W.typeIn K (.ref C_BadSheet) = some (.type "type"))
    (tf_BadSheet : PySem.W.typeIn K (.ref f_BadSheet_init) = some (.type "function"))
    (hg_BadSheet : PySem.W.findIn K (.ref C_BadSheet) "__getattribute__" = some (some (.builtin "BaseException.__getattribute__")))
    (hk_BadSheet : PySem.W.findIn K (.ref C_BadSheet) "__getattr__" = some none)
    (hd_BadSheet : PySem.W.hasDictIn K C_BadSheet = true)
    (ha_BadSheet : PySem.W.findIn K (.ref C_BadSheet) "__class__" = some (some (.builtin "object.__class__")))
    (hn_BadSheet : PySem.W.specialIn K (.builtin "object.__class__") "__get__" = some (some (.builtin "getset_descriptor.__get__")))
    (ht_BadSheet : PySem.W.takesIn K (.builtin "object.__class__") = some true)
    (hm_BadSheet : PySem.W.mroIn K C_BadSheet (.type "object") = some true)
    (na_BadSheet : PySem.W.findIn K (.ref C_BadSheet) "at" = some none)
    (nw_BadSheet : PySem.W.findIn K (.ref C_BadSheet) "why" = some none)
    (ki_BadSheet : PySem.W.kitOne K (.ref C_BadSheet) (.ref C_BadSheet) = some true)
    (ki_NoAnswer : PySem.W.kitOne K (.ref C_BadSheet) (.ref C_NoAnswer) = some false)
    (ki_ManyAnswers : PySem.W.kitOne K (.ref C_BadSheet) (.ref C_ManyAnswers) = some false)
    (ki_NotOne : PySem.W.kitOne K (.ref C_BadSheet) (.ref C_NotOne) = some false)
    (ki_BadText : PySem.W.kitOne K (.ref C_BadSheet) (.ref C_BadText) = some false)
    (ki_ValueError : PySem.W.kitOne K (.ref C_BadSheet) (.type "ValueError") = some true)
    (sb_SumError : PySem.W.subIn K (.ref C_SumError) (.type "BaseException") = some true)
    (hd_SumError : PySem.W.hasDictIn K C_SumError = true)
    (ty_SumError : PySem.W.typeIn K (.ref C_SumError) = some (.type "type"))
    (sn_SumError : PySem.W.subIn K (.ref C_BadSheet) (.ref C_SumError) = some true)
    (rd_SumError : PySem.W.readsIn K C_SumError (.type "type") = true)
    (ga_SumError : PySem.W.specialIn K (.ref C_SumError) "__getattribute__" = some (some (.builtin "type.__getattribute__")))
    (it_SumError : PySem.W.findCls K (.ref C_SumError) (.type "type") "__init__" = some (.val (.builtin "ValueError.__init__")))
    : ∃ fd : FuncData, (∀ (s : Shared) (v : Value), BindsTo s fd ⟨[v], []⟩ [("_law_script", v)]) ∧ ∀ base : Heap, K.In base → base.Ns mainGlobals mg → FnOk l.prog w K mg base CX0 7 fa fd ["_law_script"] (spLaw K) := by
  have e := hfa.symm.trans (PySem.W.mg_of X G a_law)
  cases e
  have T_Sheet : SheetTxt K mg C_Sheet := ⟨⟨pg_Sheet, hd_Sheet, po_Sheet, sa_Sheet⟩, n_Sheet_base, n_Sheet_kept, PySem.W.mg_of X G a_Sheet⟩
  have F_check_counts := fun_mk (st := sCounts) l_check_counts c_check_counts k_check_counts
  have b_check_counts := F_check_counts.binds (ps := ["base", "sums"]) fun _ _ _ _ _ _ us hl => match us, hl with | [_, _], _ => rfl
  have S_check_counts : Site K mg "check_counts" f_check_counts _ ["base", "sums"] := ⟨PySem.W.mg_of X G a_check_counts, k_check_counts, b_check_counts⟩
  have F_check_sums := fun_mk (st := sCheck) l_check_sums c_check_sums k_check_sums
  have b_check_sums := F_check_sums.binds (ps := ["base", "sums"]) fun _ _ _ _ _ _ us hl => match us, hl with | [_, _], _ => rfl
  have S_check_sums : Site K mg "check_sums" f_check_sums _ ["base", "sums"] := ⟨PySem.W.mg_of X G a_check_sums, k_check_sums, b_check_sums⟩
  have F_is_word := fun_mk (st := sIsWord) l_is_word c_is_word k_is_word
  have b_is_word := F_is_word.binds (ps := ["text"]) fun _ _ _ _ _ _ us hl => match us, hl with | [_], _ => rfl
  have S_is_word : Site K mg "is_word" f_is_word _ ["text"] := ⟨PySem.W.mg_of X G a_is_word, k_is_word, b_is_word⟩
  have F__law_dice := fun_mk (st := sDice) l__law_dice c__law_dice k__law_dice
  have b__law_dice := F__law_dice.binds (ps := ["_law_script"]) fun _ _ _ _ _ _ us hl => match us, hl with | [_], _ => rfl
  have S__law_dice : Site K mg "_law_dice" f__law_dice _ ["_law_script"] := ⟨PySem.W.mg_of X G a__law_dice, k__law_dice, b__law_dice⟩
  have F__law_next := fun_mk (st := sNext) l__law_next c__law_next k__law_next
  have b__law_next := F__law_next.binds (ps := ["_law_dice_here", "_law_many"]) fun _ _ _ _ _ _ us hl => match us, hl with | [_, _], _ => rfl
  have S__law_next : Site K mg "_law_next" f__law_next _ ["_law_dice_here", "_law_many"] := ⟨PySem.W.mg_of X G a__law_next, k__law_next, b__law_next⟩
  have F__law_whole := fun_mk (st := sWhole) l__law_whole c__law_whole k__law_whole
  have b__law_whole := F__law_whole.binds (ps := ["_law_found"]) fun _ _ _ _ _ _ us hl => match us, hl with | [_], _ => rfl
  have S__law_whole : Site K mg "_law_whole" f__law_whole _ ["_law_found"] := ⟨PySem.W.mg_of X G a__law_whole, k__law_whole, b__law_whole⟩
  have F__law_like := fun_mk (st := sLike) l__law_like c__law_like k__law_like
  have b__law_like := F__law_like.binds (ps := ["_law_found", "_law_due"]) fun _ _ _ _ _ _ us hl => match us, hl with | [_, _], _ => rfl
  have S__law_like : Site K mg "_law_like" f__law_like _ ["_law_found", "_law_due"] := ⟨PySem.W.mg_of X G a__law_like, k__law_like, b__law_like⟩
  have F__law_word := fun_mk (st := sWord) l__law_word c__law_word k__law_word
  have b__law_word := F__law_word.binds (ps := ["_law_number", "_law_base", "_law_names_here"]) fun _ _ _ _ _ _ us hl => match us, hl with | [_, _, _], _ => rfl
  have S__law_word : Site K mg "_law_word" f__law_word _ ["_law_number", "_law_base", "_law_names_here"] := ⟨PySem.W.mg_of X G a__law_word, k__law_word, b__law_word⟩
  have F__law_names := fun_mk (st := sNames) l__law_names c__law_names k__law_names
  have b__law_names := F__law_names.binds (ps := ["_law_d", "_law_base"]) fun _ _ _ _ _ _ us hl => match us, hl with | [_, _], _ => rfl
  have S__law_names : Site K mg "_law_names" f__law_names _ ["_law_d", "_law_base"] := ⟨PySem.W.mg_of X G a__law_names, k__law_names, b__law_names⟩
  have F__law_sum := fun_mk (st := sSum) l__law_sum c__law_sum k__law_sum
  have b__law_sum := F__law_sum.binds (ps := ["_law_d", "_law_base", "_law_names_here"]) fun _ _ _ _ _ _ us hl => match us, hl with | [_, _, _], _ => rfl
  have S__law_sum : Site K mg "_law_sum" f__law_sum _ ["_law_d", "_law_base", "_law_names_here"] := ⟨PySem.W.mg_of X G a__law_sum, k__law_sum, b__law_sum⟩
  have F__law_sheet := fun_mk (st := sSheet) l__law_sheet c__law_sheet k__law_sheet
  have b__law_sheet := F__law_sheet.binds (ps := ["_law_d"]) fun _ _ _ _ _ _ us hl => match us, hl with | [_], _ => rfl
  have S__law_sheet : Site K mg "_law_sheet" f__law_sheet _ ["_law_d"] := ⟨PySem.W.mg_of X G a__law_sheet, k__law_sheet, b__law_sheet⟩
  have F__law_is := fun_mk (st := sLIs) l__law_is c__law_is k__law_is
  have b__law_is := F__law_is.binds (ps := ["_law_e", "_law_word_here"]) fun _ _ _ _ _ _ us hl => match us, hl with | [_, _], _ => rfl
  have S__law_is : Site K mg "_law_is" f__law_is _ ["_law_e", "_law_word_here"] := ⟨PySem.W.mg_of X G a__law_is, k__law_is, b__law_is⟩
  have F__law_wrong := fun_mk (st := sLWrong) l__law_wrong c__law_wrong k__law_wrong
  have b__law_wrong := F__law_wrong.binds (ps := ["_law_d", "_law_sheet_here"]) fun _ _ _ _ _ _ us hl => match us, hl with | [_, _], _ => rfl
  have S__law_wrong : Site K mg "_law_wrong" f__law_wrong _ ["_law_d", "_law_sheet_here"] := ⟨PySem.W.mg_of X G a__law_wrong, k__law_wrong, b__law_wrong⟩
  have F__law_refused := fun_mk (st := sLRefused) l__law_refused c__law_refused k__law_refused
  have b__law_refused := F__law_refused.binds (ps := ["_law_sheet_here", "_law_at", "_law_why"]) fun _ _ _ _ _ _ us hl => match us, hl with | [_, _, _], _ => rfl
  have S__law_refused : Site K mg "_law_refused" f__law_refused _ ["_law_sheet_here", "_law_at", "_law_why"] := ⟨PySem.W.mg_of X G a__law_refused, k__law_refused, b__law_refused⟩
  have F_law := fun_mk (st := sLaw) l_law c_law k_law
  have b_law := F_law.binds (ps := ["_law_script"]) fun _ _ _ _ _ _ us hl => match us, hl with | [_], _ => rfl
  have F_BadSheet_init := fun_mk (st := sBsInit) l_BadSheet_init c_BadSheet_init k_BadSheet_init
  have b_BadSheet_init := F_BadSheet_init.binds (ps := ["self", "at", "why"]) fun _ _ _ _ _ _ us hl => match us, hl with | [_, _, _], _ => rfl
  have F_Sheet_init := fun_mk (st := sShInit) l_Sheet_init c_Sheet_init k_Sheet_init
  have b_Sheet_init := F_Sheet_init.binds (ps := ["self", "base", "sums"]) fun _ _ _ _ _ _ us hl => match us, hl with | [_, _, _], _ => rfl
  have K_Sheet : Mk K C_Sheet f_Sheet_init := ⟨mk_Sheet, a_Sheet_init, i_Sheet_init, kc_Sheet⟩
  have F_Sheet_sums := fun_mk (st := sShSums) l_Sheet_sums c_Sheet_sums k_Sheet_sums
  have b_Sheet_sums := F_Sheet_sums.binds (ps := ["self"]) fun _ _ _ _ _ _ us hl => match us, hl with | [_], _ => rfl
  have M_Sheet_sums : Meth K C_Sheet "sums" f_Sheet_sums := ⟨a_Sheet_sums, i_Sheet_sums, k_Sheet_sums⟩
  have z_ValueError := PySem.W.mg_none_of X G y_ValueError
  have z_all := PySem.W.mg_none_of X G y_all
  have z_bool := PySem.W.mg_none_of X G y_bool
  have z_enumerate := PySem.W.mg_none_of X G y_enumerate
  have z_int := PySem.W.mg_none_of X G y_int
  have z_isinstance := PySem.W.mg_none_of X G y_isinstance
  have z_len := PySem.W.mg_none_of X G y_len
  have z_list := PySem.W.mg_none_of X G y_list
  have z_min := PySem.W.mg_none_of X G y_min
  have z_range := PySem.W.mg_none_of X G y_range
  have z_set := PySem.W.mg_none_of X G y_set
  have z_str := PySem.W.mg_none_of X G y_str
  have z_sum := PySem.W.mg_none_of X G y_sum
  have z_tuple := PySem.W.mg_none_of X G y_tuple
  have m_LEAST_BASE := PySem.W.mg_of X G x_LEAST_BASE
  have m_MOST_BASE := PySem.W.mg_of X G x_MOST_BASE
  have m_MOST_SUMS := PySem.W.mg_of X G x_MOST_SUMS
  have m_MOST_ADDENDS := PySem.W.mg_of X G x_MOST_ADDENDS
  have m_MOST_IN_WORD := PySem.W.mg_of X G x_MOST_IN_WORD
  have m_MOST_LETTERS := PySem.W.mg_of X G x_MOST_LETTERS
  have m_SMALL_LETTERS := PySem.W.mg_of X G x_SMALL_LETTERS
  have O_BadSheet : OexC K C_BadSheet := ⟨⟨nmB, qB, NB, bsB, bmB, snB, subB, abB, colB, ddB, k0B, k1B, k2B, k3B, k5B, cl_BadSheet, rv_BadSheet⟩, st_BadSheet, sb_BadSheet, ty_BadSheet, kp_BadSheet⟩
  have B_SumError : BaseC K C_SumError := ⟨rd_SumError, ga_SumError, it_SumError⟩
  have T_xf : XfC K C_BadSheet := ⟨hg_BadSheet, hk_BadSheet, sb_BadSheet, hd_BadSheet⟩
  have T_Err : ErrTxt K mg C_BadSheet C_BadSheet C_NoAnswer C_ManyAnswers C_NotOne C_BadText := ⟨⟨hg_BadSheet, hk_BadSheet, sb_BadSheet, hd_BadSheet, ha_BadSheet, hn_BadSheet, ht_BadSheet, hm_BadSheet⟩, PySem.W.mg_of X G a_BadSheet, PySem.W.mg_of X G a_NoAnswer, PySem.W.mg_of X G a_ManyAnswers, PySem.W.mg_of X G a_NotOne, PySem.W.mg_of X G a_BadText, z_ValueError⟩
  have K_Err : kindW K C_BadSheet C_BadSheet C_NoAnswer C_ManyAnswers C_NotOne C_BadText "sheet" true false false false false := ⟨⟨ki_BadSheet, ki_NoAnswer, ki_ManyAnswers, ki_NotOne, ki_BadText, ki_ValueError⟩, by decide +kernel⟩
  have g_SumError := PySem.W.mg_of X G a_SumError
  have g_BadSheet := PySem.W.mg_of X G a_BadSheet
  have e_SumError := PySem.W.exm_ref sb_SumError hd_SumError ty_SumError sn_SumError
  refine ⟨PySem.W.fnOf "law" "law" (defArgs sLaw) (defBody sLaw) (defScope sLaw) .none kV_law dc_law pm_law an_law cd_law ct_law, fun s v => .of_eq rfl, fun base _ _ => ?_⟩
  have G__law_dice := ok_dice (P := l.prog) (w := w) (mg := mg) (base := base) F__law_dice z_len z_int
  have G__law_next := ok_next (P := l.prog) (w := w) (mg := mg) (base := base) F__law_next z_len
  have G__law_names := ok_names (P := l.prog) (w := w) (mg := mg) (base := base) F__law_names z_range S__law_next G__law_next
  have G__law_word := ok_word (P := l.prog) (w := w) (mg := mg) (base := base) F__law_word
  have G__law_sum := ok_sum (P := l.prog) (w := w) (mg := mg) (base := base) F__law_sum z_range z_tuple z_sum S__law_next G__law_next S__law_word G__law_word
  have G__law_sheet := ok_sheet (P := l.prog) (w := w) (mg := mg) (base := base) F__law_sheet z_range z_int S__law_next G__law_next S__law_names G__law_names S__law_sum G__law_sum
  have G_check_counts := ok_counts (P := l.prog) (w := w) (mg := mg) (base := base) F_check_counts z_len m_LEAST_BASE m_MOST_BASE m_MOST_SUMS
  have G_is_word := ok_isword (P := l.prog) (w := w) (mg := mg) (base := base) F_is_word z_len z_all m_MOST_IN_WORD m_SMALL_LETTERS
  have G_check_sums := ok_check (P := l.prog) (w := w) (mg := mg) (base := base) F_check_sums z_len z_set z_all z_min z_enumerate m_MOST_ADDENDS m_MOST_LETTERS S_is_word G_is_word
  have G_Sheet_init := ok_shinit (P := l.prog) (w := w) (mg := mg) (base := base) F_Sheet_init T_Sheet z_list S_check_counts G_check_counts S_check_sums G_check_sums
  have G_Sheet_sums := ok_shsums (P := l.prog) (w := w) (mg := mg) (base := base) F_Sheet_sums T_Sheet z_list
  have G__law_wrong := ok_lwrong (P := l.prog) (w := w) (mg := mg) (base := base) F__law_wrong z_len S__law_next G__law_next
  have G__law_is := fun (p : Addr × Obj) (dd : Addr) (hz : Zc (.ref C_BadSheet) (some dd) p.2) (hf : ∃ vs, p.2.data = .fields vs) => ok_lisW (p := p) (dd := dd) (wd := "sheet") (P := l.prog) (w := w) (mg := mg) (base := base) F__law_is z_isinstance T_Err K_Err hz hf
  have G__law_whole := fun (p : Addr × Obj) => ok_wholeP (p := p) (P := l.prog) (w := w) (mg := mg) (base := base) F__law_whole z_isinstance z_int z_bool
  have G__law_refused := ok_lrefused (P := l.prog) (w := w) (mg := mg) (base := base) F__law_refused T_Sheet z_isinstance z_str g_SumError e_SumError T_xf na_BadSheet nw_BadSheet K_Sheet b_Sheet_init (ok_shinitX (P := l.prog) (w := w) (mg := mg) (base := base) F_Sheet_init T_Sheet z_list S_check_counts (ok_countsX (P := l.prog) (w := w) (mg := mg) (base := base) F_check_counts (show BadTxt l.prog w K mg base C_BadSheet f_BadSheet_init _ from ⟨O_BadSheet, a_BadSheet_init, tf_BadSheet, ok_bsinit (P := l.prog) (w := w) (mg := mg) (base := base) F_BadSheet_init O_BadSheet g_SumError B_SumError na_BadSheet nw_BadSheet, b_BadSheet_init, g_BadSheet⟩) z_len m_LEAST_BASE m_MOST_BASE m_MOST_SUMS) S_check_sums (ok_checkX (P := l.prog) (w := w) (mg := mg) (base := base) F_check_sums (show BadTxt l.prog w K mg base C_BadSheet f_BadSheet_init _ from ⟨O_BadSheet, a_BadSheet_init, tf_BadSheet, ok_bsinit (P := l.prog) (w := w) (mg := mg) (base := base) F_BadSheet_init O_BadSheet g_SumError B_SumError na_BadSheet nw_BadSheet, b_BadSheet_init, g_BadSheet⟩) z_len z_set z_all z_min z_enumerate m_MOST_ADDENDS m_MOST_LETTERS S_is_word G_is_word)) S__law_is G__law_is S__law_whole G__law_whole
  have G__law_like := ok_like (P := l.prog) (w := w) (mg := mg) (base := base) F__law_like S__law_like z_isinstance z_str z_int z_bool z_tuple z_list z_len z_range
  exact ok_law01 F_law T_Sheet z_range z_list S__law_dice G__law_dice S__law_next G__law_next S__law_sheet G__law_sheet K_Sheet b_Sheet_init G_Sheet_init M_Sheet_sums b_Sheet_sums G_Sheet_sums S__law_wrong G__law_wrong S__law_refused G__law_refused S__law_like G__law_like
theorem walk {l : PySem.W.OpenLaw} {q : Program} {loose : List Str} {XP : (Str → Option Value) → Heap → Prop} {YP : World → Heap → Prop} {d : DefRec} {K : Params → PySem.W.Frag} (hn : l.most = some 63) (hdf : d.params.defaults = [])
    (hY : ∀ (w : World) (h : Heap), YP w h → (K w.params).In h)
    (F : ∀ (w : World) (mg : Str → Option Value) (fa : Addr) (h : Heap), (K w.params).In h → h.Ns mainGlobals mg → mg d.name = some (.ref fa) →
      ∃ fd : FuncData, (∀ (s : Shared) (u : Value), BindsTo s fd ⟨[u], []⟩ [("_law_script", u)]) ∧ ∀ base : Heap, (K w.params).In base → base.Ns mainGlobals mg → FnOk l.prog w (K w.params) mg base CX0 7 fa fd ["_law_script"] (spLaw (K w.params))) :
    PySem.W.WalkO q loose XP YP l.row.toRowW d [] (fun f vs => PySem.call f vs) :=
  L2.walk_of (n := 63) (k := 7) (x := "_law_script") (CX := fun _ => CX0) (sp := fun w => spLaw (K w.params)) hn (by decide) hdf ⟨rfl, by decide, by decide⟩ hY F (fun _ _ a ns hl _ hS => ⟨a, ns, rfl, hS, fun _ => rfl⟩) fun _ _ _ _ _ z => z
end WS
open PySem PySem.W PyProof.Rows
set_option maxRecDepth 100000 in
set_option maxHeartbeats 0 in
theorem PySem.Challenge.cw_wordsums_k01_sheets_refused_holds : PySem.Challenge.rw_wordsums_k01_sheets_refused.Holds := by
  w_on; o_law; k_head; (case hw => w_witness2)
  k_fill
  refine WS.walk (l := PySem.Challenge.rw_wordsums_k01_sheets_refused) rfl rfl (fun w h Y => PySem.W.kIn_of Y) ?F
  case F =>
    intro w mg fa h KX G hmg
    refine' WS.all_mk KX G hmg ?a_Sheet ?a_check_counts ?l_check_counts ?c_check_counts ?k_check_counts ?a_check_sums ?l_check_sums ?c_check_sums ?k_check_sums ?a_is_word ?l_is_word ?c_is_word ?k_is_word ?a__law_dice ?l__law_dice ?c__law_dice ?k__law_dice ?a__law_next ?l__law_next ?c__law_next ?k__law_next ?a__law_whole ?l__law_whole ?c__law_whole ?k__law_whole ?a__law_like ?l__law_like ?c__law_like ?k__law_like ?a__law_word ?l__law_word ?c__law_word ?k__law_word ?a__law_names ?l__law_names ?c__law_names ?k__law_names ?a__law_sum ?l__law_sum ?c__law_sum ?k__law_sum ?a__law_sheet ?l__law_sheet ?c__law_sheet ?k__law_sheet ?a__law_is ?l__law_is ?c__law_is ?k__law_is ?a__law_wrong ?l__law_wrong ?c__law_wrong ?k__law_wrong ?a__law_refused ?l__law_refused ?c__law_refused ?k__law_refused ?a_law ?l_law ?c_law ?k_law ?a_BadSheet_init ?i_BadSheet_init ?l_BadSheet_init ?c_BadSheet_init ?k_BadSheet_init ?a_Sheet_init ?i_Sheet_init ?l_Sheet_init ?c_Sheet_init ?k_Sheet_init ?a_Sheet_sums ?i_Sheet_sums ?l_Sheet_sums ?c_Sheet_sums ?k_Sheet_sums ?pg_Sheet ?hd_Sheet ?po_Sheet ?sa_Sheet ?mk_Sheet ?kc_Sheet ?n_Sheet_base ?n_Sheet_kept ?y_ValueError ?y_all ?y_bool ?y_enumerate ?y_int ?y_isinstance ?y_len ?y_list ?y_min ?y_range ?y_set ?y_str ?y_sum ?y_tuple ?x_LEAST_BASE ?x_MOST_BASE ?x_MOST_SUMS ?x_MOST_ADDENDS ?x_MOST_IN_WORD ?x_MOST_LETTERS ?x_SMALL_LETTERS ?a_BadSheet ?a_NoAnswer ?a_ManyAnswers ?a_NotOne ?a_BadText ?a_SumError ?cl_BadSheet ?rv_BadSheet ?st_BadSheet ?kp_BadSheet ?sb_BadSheet ?ty_BadSheet ?tf_BadSheet ?hg_BadSheet ?hk_BadSheet ?hd_BadSheet ?ha_BadSheet ?hn_BadSheet ?ht_BadSheet ?hm_BadSheet ?na_BadSheet ?nw_BadSheet ?ki_BadSheet ?ki_NoAnswer ?ki_ManyAnswers ?ki_NotOne ?ki_BadText ?ki_ValueError ?sb_SumError ?hd_SumError ?ty_SumError ?sn_SumError ?rd_SumError ?ga_SumError ?it_SumError
    (case a_BadSheet => k_is); (case a_NoAnswer => k_is); (case a_ManyAnswers => k_is); (case a_NotOne => k_is); (case a_BadText => k_is); (case a_SumError => k_is); (case a_Sheet => k_is); (case a_check_counts => k_is)
    (case l_check_counts => k_is); (case c_check_counts => k_is); (case k_check_counts => k_is); (case a_check_sums => k_is); (case l_check_sums => k_is); (case c_check_sums => k_is); (case k_check_sums => k_is); (case a_is_word => k_is)
    (case l_is_word => k_is); (case c_is_word => k_is); (case k_is_word => k_is); (case a__law_dice => k_is); (case l__law_dice => k_is); (case c__law_dice => k_is); (case k__law_dice => k_is); (case a__law_next => k_is)
    (case l__law_next => k_is); (case c__law_next => k_is); (case k__law_next => k_is); (case a__law_whole => k_is); (case l__law_whole => k_is); (case c__law_whole => k_is); (case k__law_whole => k_is); (case a__law_like => k_is)
    (case l__law_like => k_is); (case c__law_like => k_is); (case k__law_like => k_is); (case a__law_word => k_is); (case l__law_word => k_is); (case c__law_word => k_is); (case k__law_word => k_is); (case a__law_names => k_is)
    (case l__law_names => k_is); (case c__law_names => k_is); (case k__law_names => k_is); (case a__law_sum => k_is); (case l__law_sum => k_is); (case c__law_sum => k_is); (case k__law_sum => k_is); (case a__law_sheet => k_is)
    (case l__law_sheet => k_is); (case c__law_sheet => k_is); (case k__law_sheet => k_is); (case a__law_is => k_is); (case l__law_is => k_is); (case c__law_is => k_is); (case k__law_is => k_is); (case a__law_wrong => k_is)
    (case l__law_wrong => k_is); (case c__law_wrong => k_is); (case k__law_wrong => k_is); (case a__law_refused => k_is); (case l__law_refused => k_is); (case c__law_refused => k_is); (case k__law_refused => k_is); (case a_law => k_is)
    (case l_law => k_is); (case c_law => k_is); (case k_law => k_is); (case a_BadSheet_init => k_is); (case i_BadSheet_init => k_is); (case l_BadSheet_init => k_is); (case c_BadSheet_init => k_is); (case k_BadSheet_init => k_is)
    (case a_Sheet_init => k_is); (case i_Sheet_init => k_is); (case l_Sheet_init => k_is); (case c_Sheet_init => k_is); (case k_Sheet_init => k_is); (case a_Sheet_sums => k_is); (case i_Sheet_sums => k_is); (case l_Sheet_sums => k_is)
    (case c_Sheet_sums => k_is); (case k_Sheet_sums => k_is); (case pg_Sheet => k_is); (case hd_Sheet => k_is); (case po_Sheet => k_is); (case sa_Sheet => k_is); (case mk_Sheet => k_is); (case kc_Sheet => k_is)
    (case n_Sheet_base => k_is); (case n_Sheet_kept => k_is); (case y_ValueError => k_is); (case y_all => k_is); (case y_bool => k_is); (case y_enumerate => k_is); (case y_int => k_is); (case y_isinstance => k_is)
    (case y_len => k_is); (case y_list => k_is); (case y_min => k_is); (case y_range => k_is); (case y_set => k_is); (case y_str => k_is); (case y_sum => k_is); (case y_tuple => k_is)
    (case x_LEAST_BASE => k_is); (case x_MOST_BASE => k_is); (case x_MOST_SUMS => k_is); (case x_MOST_ADDENDS => k_is); (case x_MOST_IN_WORD => k_is); (case x_MOST_LETTERS => k_is); (case x_SMALL_LETTERS => k_is); (case cl_BadSheet => k_is)
    (case rv_BadSheet => first | rfl | decide +kernel); (case st_BadSheet => k_is); (case kp_BadSheet => k_is); (case sb_BadSheet => k_is); (case ty_BadSheet => k_is); (case tf_BadSheet => k_is); (case hg_BadSheet => k_is); (case hk_BadSheet => k_is)
    (case hd_BadSheet => k_is); (case ha_BadSheet => k_is); (case hn_BadSheet => k_is); (case ht_BadSheet => k_is); (case hm_BadSheet => k_is); (case na_BadSheet => k_is); (case nw_BadSheet => k_is); (case ki_BadSheet => kit_is)
    (case ki_NoAnswer => kit_is); (case ki_ManyAnswers => kit_is); (case ki_NotOne => kit_is); (case ki_BadText => kit_is); (case ki_ValueError => kit_is); (case sb_SumError => k_is); (case hd_SumError => k_is); (case ty_SumError => k_is)
    (case sn_SumError => k_is); (case rd_SumError => k_is); (case ga_SumError => k_is); (case it_SumError => k_is)
