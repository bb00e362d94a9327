import PyProof.Rows.All
import Wide.All
import OpenK.AllK
import Wide.FinOn
import HandS.ForMost
import HandS.Star
import HandS.Zip
import HandS.IsInst
import HandS.Conv
import HandS.Wide
import HandS.Evl
import HandS.Walk
import HandS.FStr
import PyProof.StrLawsTight
import PyProof.StrLawsChain
import PyProof.Rows.StrItems
import PyProof.Rows.SetFrom
import PyProof.StrWalks
import HandS.Strs
import HandS.Style
import PyProof.Rows.StrStep
import KE.KRevSl
import HandS.StrMore
import HandS.ExcCtx
import HandS.WordsExc
import HandS.ExcInit
import HandS.ExcOwn
import HandS.HotCalls
import HandS.ExcIs
import KE.KExcIs
import HandS.ExcField
import PySem.Challenge.RW_wordsums_k18_texts_refused
set_option Elab.async false
set_option linter.all false
set_option maxRecDepth 100000
set_option maxHeartbeats 4000000
namespace WS
open PySem L2
def top (i : Nat) : Stmt := PySem.Challenge.pw_wordsums_k18_texts_refused.main.body.getD i (.Pass ⟨0, 0, 0, 0⟩)
abbrev sBsInit : Stmt := inClass (top 2) 0
abbrev sNaInit : Stmt := inClass (top 3) 0
abbrev sMaInit : Stmt := inClass (top 4) 0
abbrev sBtInit : Stmt := inClass (top 6) 0
abbrev sShInit : Stmt := inClass (top 15) 0
abbrev sShSums : Stmt := inClass (top 15) 1
abbrev sShLetters : Stmt := inClass (top 15) 2
abbrev sCounts : Stmt := top 16
abbrev sCheck : Stmt := top 17
abbrev sIsWord : Stmt := top 18
abbrev sColCount : Stmt := top 19
abbrev sLetterAt : Stmt := top 20
abbrev sColOf : Stmt := top 21
abbrev sSumRow : Stmt := top 25
abbrev sRead : Stmt := top 26
abbrev sIsBaseRow : Stmt := top 27
abbrev sWordsOf : Stmt := top 28
abbrev sDice : Stmt := top 30
abbrev sNext : Stmt := top 31
abbrev sWhole : Stmt := top 32
abbrev sWord : Stmt := top 33
abbrev sNames : Stmt := top 34
abbrev sSum : Stmt := top 35
abbrev sSheet : Stmt := top 36
abbrev sWide : Stmt := top 37
abbrev sLIs : Stmt := top 38
abbrev sLBad : Stmt := top 39
abbrev sLRefused : Stmt := top 40
abbrev sLaw : Stmt := top 41
end WS
set_option maxRecDepth 100000
set_option maxHeartbeats 4000000
namespace WS
open PySem L2
/-- all that was tracked, but what stands at d, is as it was -/
def But (d : Addr) (H H' : Hp) : Prop := ∀ b o, b ≠ d → H b = some o → H' b = some o
theorem But.refl (d : Addr) (H : Hp) : But d H H := fun _ _ _ h => h
theorem But.trans {d : Addr} {H H1 H2 : Hp} (a : But d H H1) (b : But d H1 H2) : But d H H2 := fun c o n h => b c o n (a c o n h)
theorem But.of {d : Addr} {H H' : Hp} (a : Same H H') : But d H H' := fun b o _ h => a b o h
theorem But.upd {d : Addr} {H : Hp} {o : HO} : But d H (upd H d o) := fun b u n h => by
  rw [upd_ne n]; exact h
theorem Same.new {H : Hp} {p : Addr} {o : HO} (hp : H p = none) : Same H (upd H p o) := fun b u h => by
  rw [upd_ne (ne_of_none h hp)]; exact h
theorem But.new {d : Addr} {H : Hp} {p : Addr} {o : HO} (hp : H p = none) : But d H (L2.upd H p o) := .of (Same.new hp)
/-- an object that H did not know may change -/
theorem But.mut {d : Addr} {H H' : Hp} {p : Addr} {o : HO} (e : But d H H') (hp : H p = none) : But d H (L2.upd H' p o) := fun b u n h => by
  rw [upd_ne (ne_of_none h hp)]; exact e b u n h
theorem Same.mut {H H' : Hp} {p : Addr} {o : HO} (e : Same H H') (hp : H p = none) : Same H (L2.upd H' p o) := fun b u h => by
  rw [upd_ne (ne_of_none h hp)]; exact e b u h
theorem But.free {d : Addr} {H H' : Hp} (e : But d H H') {p : Addr} (hd : H' d ≠ none) (h : H' p = none) : H p = none := by
  cases q : H p with
  | none => rfl
  | some o =>
    by_cases n : p = d
    · subst n; exact absurd h hd
    · rw [e p o n q] at h; cases h
theorem rd_but {d : Addr} {H H' : Hp} {a : Addr} {u : HO} (e : But d H H') (n : a ≠ d) (h : Rd H a u) : Rd H' a u := by
  rcases h with h | ⟨o, h⟩
  · exact .inl (e a _ n h)
  · exact .inr ⟨o, e a _ n h⟩
theorem sqL_but {K : PySem.W.Frag} {d : Addr} {H H' : Hp} {a : Addr} {xs : List V} (e : But d H H') (n : a ≠ d) (h : SqL K H a xs) : SqL K H' a xs := by
  rcases h with h | h
  · exact .inl (rd_but e n h)
  · exact .inr h
theorem sqL_same {K : PySem.W.Frag} {H H' : Hp} {a : Addr} {xs : List V} (e : Same H H') (h : SqL K H a xs) : SqL K H' a xs := e.seq h
theorem sqT_same {K : PySem.W.Frag} {H H' : Hp} {a : Addr} {xs : List V} (e : Same H H') (h : SqT K H a xs) : SqT K H' a xs := by
  rcases h with (h | ⟨o, h⟩) | h
  · exact .inl (.inl (e _ _ h))
  · exact .inl (.inr ⟨o, e _ _ h⟩)
  · exact .inr h
theorem line_of {n : Nat} (h : n ≤ 1000000) : n ≤ sizeLine := Nat.le_trans h (by decide)
theorem line_lt {n : Nat} (h : n < 1000000) : n < sizeLine := Nat.lt_of_lt_of_le h (by decide)
/-! ### the dice -/
/-- the heap without what stands at d -/
def off (H : Hp) (d : Addr) : Hp := fun b => if b = d then none else H b
theorem off_at {H : Hp} {d b : Addr} {o : HO} (h : off H d b = some o) : b ≠ d ∧ H b = some o := by
  unfold off at h
  by_cases e : b = d
  · rw [if_pos e] at h; cases h
  · rw [if_neg e] at h; exact ⟨e, h⟩
theorem off_ne {H : Hp} {d b : Addr} (n : b ≠ d) : off H d b = H b := by
  unfold off; rw [if_neg n]
theorem off_in (H : Hp) (d : Addr) : Same (off H d) H := fun b o h => (off_at h).2
theorem But.off {d : Addr} {H H' : Hp} (e : But d H H') : Same (WS.off H d) (WS.off H' d) := fun b o h => by
  obtain ⟨n, h⟩ := off_at h
  rw [off_ne n]; exact e b o n h
/-- the dice at d: the script at a, how many are taken, the mixed number, what is left of a great one -/
structure Dice (K : PySem.W.Frag) (H : Hp) (d a : Addr) (ns : List Int) : Prop where
  ex : ∃ (i : Nat) (m c : Int), H d = some (.lst [.ref a, .int i, .int m, .int c]) ∧ 0 ≤ m ∧ m < 2147483647
  sqo : SqL K (off H d) a (ns.map V.int)
section
variable {K : PySem.W.Frag} {H H' H0 : Hp} {d a p : Addr} {ns : List Int} {o : HO}
theorem Dice.sq (D : Dice K H d a ns) : SqL K H a (ns.map V.int) := sqL_same (off_in H d) D.sqo
theorem Dice.ne (D : Dice K H d a ns) : H d ≠ none := by
  obtain ⟨i, m, c, h, _⟩ := D.ex
  rw [h]; intro z; cases z
theorem Dice.upd {i : Nat} {m c : Int} (D : Dice K H d a ns) (h0 : 0 ≤ m) (h1 : m < 2147483647) : Dice K (L2.upd H d (.lst [.ref a, .int i, .int m, .int c])) d a ns :=
  ⟨⟨i, m, c, upd_same, h0, h1⟩, sqL_same (But.off But.upd) D.sqo⟩
theorem Dice.same (D : Dice K H d a ns) (e : Same H H') : Dice K H' d a ns := by
  obtain ⟨i, m, c, h, h0, h1⟩ := D.ex
  exact ⟨⟨i, m, c, e _ _ h, h0, h1⟩, sqL_same (But.of e).off D.sqo⟩
theorem Dice.new (D : Dice K H d a ns) (hp : H p = none) : Dice K (L2.upd H p o) d a ns := D.same (Same.new hp)
theorem Dice.neOf (D : Dice K H d a ns) (hp : H p = none) : p ≠ d := fun e => D.ne (e ▸ hp)
/-- an object that was not there when the dice stood at H0 may change -/
theorem Dice.mut (D0 : Dice K H0 d a ns) (e : But d H0 H) (D : Dice K H d a ns) (hp : H0 p = none) : Dice K (L2.upd H p o) d a ns := by
  obtain ⟨i, m, c, h, h0, h1⟩ := D.ex
  exact ⟨⟨i, m, c, (by rw [upd_ne (Ne.symm (D0.neOf hp))]; exact h), h0, h1⟩, sqL_same (e.mut hp).off D0.sqo⟩
end
/-- where a def of the text stands, as its callers need it -/
structure Site (K : PySem.W.Frag) (mg : Str → Option Value) (x : Str) (f : Addr) (fd : FuncData) (ps : List Str) : Prop where
  g : mg x = some (.ref f)
  k : PySem.W.keepIn K (.ref f) = true
  b : Binds K fd ps []
section
variable {K : PySem.W.Frag}
theorem isi_ok {H : Hp} {Q : VK} {x : V} {T0 T : String} {b : Bool} (ty : TyX K H x (.type T0)) (e : kitB T0 T = some b) (q : Q (.bl b) H) : rIsi K [x, .ty T] H Q :=
  ⟨x, .ty T, .type T0, .type T, b, rfl, .ty T, ty, kit_ty e, q⟩
theorem tyInt {H : Hp} (i : Int) : TyX K H (.int i) (.type "int") := .base (.int i)
theorem tyStr {H : Hp} (z : Str) : TyX K H (.str z) (.type "str") := .base (.str z)
theorem tyLst {H : Hp} {a : Addr} {xs : List V} (h : H a = some (.lst xs)) : TyX K H (.ref a) (.type "list") := .base (.lst h)
theorem tyTup {H : Hp} {a : Addr} {xs : List V} (h : H a = some (.tup xs)) : TyX K H (.ref a) (.type "tuple") := .base (.tup h)
end
end WS
set_option maxRecDepth 100000
set_option maxHeartbeats 4000000
namespace WS
open PySem L2
/-- _law_next(d, many): some number below many; of the heap the dice alone is changed -/
def spNext (K : PySem.W.Frag) : Sp := fun vs H Q _ => ∃ (d a : Addr) (ns : List Int) (m : Int), vs = [.ref d, .int m] ∧ Dice K H d a ns ∧ 0 < m ∧ m < 1073741824 ∧
  ∀ (v : Int) (H' : Hp), 0 ≤ v → v < m → Dice K H' d a ns → But d H H' → (∀ b, b ≠ d → H' b = H b) → Q (.int v) H'
section
variable {P : Program} {w : World} {K : PySem.W.Frag} {mg : Str → Option Value} {base : Heap}
theorem scNext : FnScope ["_law_dice_here", "_law_many", "_law_found", "_law_cell"] ["_law_dice_here", "_law_many"] (defScope sNext) := ⟨rfl, rfl, rfl, by decide +kernel, rfl, by decide +kernel, by decide +kernel⟩
theorem ok_next {f : Addr} {fd : FuncData} (F : Fun K "_law_next" "_law_next" sNext f fd) (z_len : mg "len" = none) : FnOk P w K mg base CX0 1 f fd ["_law_dice_here", "_law_many"] (spNext K) := by
  refine F.ok scNext (fun vs H Q E h => ?_) (fun cdv A outer s H vs Q E hr h => ?_)
  · obtain ⟨d, a, ns, m, rfl, _⟩ := h
    rfl
  · obtain ⟨d, a, ns, m, rfl, D, h0, h1, k⟩ := h
    obtain ⟨i, mx, c, hd, m0, m1⟩ := id D.ex
    have nd := scNext.nd
    refine ⟨_, (pss_cons (ps_if (pt_cmpR op_gt (pe_ix (r := rIxL K) ix_list (pv 0) pe_int (fun _ _ => rfl)) pe_int (nomark _)) (pss_cons (ps_set (i := 2) nd rfl (.inl rfl) (pe_op op_mod (pe_ix (r := rIxL K) ix_list (pv 0) pe_int (fun _ _ => rfl)) (pv 1)))
      (pss_cons (ps_asg (pe_op op_fdiv (pe_ix (r := rIxL K) ix_list (pv 0) pe_int (fun _ _ => rfl)) (pv 1)) (pg_sub (pv 0) pe_int set_list))
      (pss_one (ps_ret (pv 2))))) pss_nil)
      (pss_cons (ps_asg (pe_op op_add (pe_ix (r := rIxL K) ix_list (pv 0) pe_int (fun _ _ => rfl)) pe_int) (pg_sub (pv 0) pe_int set_list))
      (pss_cons (ps_if (pt_cmpR op_le (pe_ix (r := rIxL K) ix_list (pv 0) pe_int (fun _ _ => rfl)) (pe_callB call_len_seq (by rfl) z_len PySem.boot_len (pa_cons (pe_ix (r := rIxL K) ix_list (pv 0) pe_int (fun _ _ => rfl)) pa_nil)) (nomark _)) (pss_cons (ps_set (i := 3) nd rfl (.inl rfl) (pe_ix (r := rIxL K) ix_list (pe_ix (r := rIxL K) ix_list (pv 0) pe_int (fun _ _ => rfl)) (pe_op op_sub (pe_ix (r := rIxL K) ix_list (pv 0) pe_int (fun _ _ => rfl)) pe_int) (fun _ _ => rfl)))
      (pss_cons (ps_asg (pe_ifExp (pt_cmpR op_ge (pv 3) (pe_op op_pow pe_int pe_int) (nomark _)) (pe_op op_fdiv (pv 3) (pv 1)) pe_int) (pg_sub (pv 0) pe_int set_list))
      (pss_one (ps_ret (pe_op op_mod (pv 3) (pv 1)))))) pss_nil)
      (pss_cons (ps_asg (pe_op op_mod (pe_op op_mul (pe_ix (r := rIxL K) ix_list (pv 0) pe_int (fun _ _ => rfl)) pe_int) pe_int) (pg_sub (pv 0) pe_int set_list))
      (pss_one (ps_ret (pe_op op_mod (pe_op op_fdiv (pe_ix (r := rIxL K) ix_list (pv 0) pe_int (fun _ _ => rfl)) pe_int) (pv 1)))))))), ?_⟩
    have hmod : ∀ x : Int, 0 ≤ x % m ∧ x % m < m := fun x => ⟨Int.emod_nonneg x (by omega), Int.emod_lt_of_pos x h0⟩
    refine ⟨_, rfl, d, _, 3, _, rfl, rfl, SqL.of hd, rfl, _, _, rfl, rfl, _, rfl, ?_⟩
    refine ite2 (fun _ => ?_) (fun _ => ?_)
    · refine ⟨_, rfl, d, _, 3, _, rfl, rfl, SqL.of hd, rfl, _, rfl, _, _, rfl, rfl, h0, ?_⟩
      refine ⟨_, rfl, d, _, 3, _, rfl, rfl, SqL.of hd, rfl, _, rfl, _, _, rfl, rfl, ⟨h0, h1⟩, _, rfl, d, _, 3, 3, rfl, rfl, hd, rfl, _, rfl, ?_⟩
      exact k _ _ (hmod _).1 (hmod _).2 (D.upd m0 m1) But.upd (fun b hb => upd_ne hb)
    · refine ⟨_, rfl, d, _, 1, _, rfl, rfl, SqL.of hd, rfl, _, _, rfl, rfl, _, rfl, d, _, 1, 1, rfl, rfl, hd, rfl, ?_⟩
      have D1 : Dice K (upd H d (.lst [.ref a, .int ((i + 1 : Nat) : Int), .int mx, .int c])) d a ns := D.upd m0 m1
      show tSeq _ _ _ _ (upd H d (.lst [.ref a, .int ((i + 1 : Nat) : Int), .int mx, .int c]))
      have e1 : ∀ b, b ≠ d → (upd H d (.lst [.ref a, .int ((i + 1 : Nat) : Int), .int mx, .int c])) b = H b := fun b hb => upd_ne hb
      have hd1 : (upd H d (.lst [.ref a, .int ((i + 1 : Nat) : Int), .int mx, .int c])) d = some (.lst [.ref a, .int ((i + 1 : Nat) : Int), .int mx, .int c]) := upd_same
      generalize upd H d (.lst [.ref a, .int ((i + 1 : Nat) : Int), .int mx, .int c]) = H1 at D1 e1 hd1
      have b1 : But d H H1 := fun b o n h => by rw [e1 b n]; exact h
      refine ⟨_, rfl, d, _, 1, _, rfl, rfl, SqL.of hd1, rfl, _, rfl, d, _, 0, _, rfl, rfl, SqL.of hd1, rfl, a, _, rfl, .inl D1.sq, _, _, rfl, rfl, _, rfl, ?_⟩
      refine ite2 (fun hle => ?_) (fun _ => ?_)
      · have hle' : i < ns.length := by
          have := of_decide_eq_true hle
          rw [List.length_map] at this
          omega
        have hx : (ns.map V.int)[i]? = some (.int ns[i]) := by
          rw [List.getElem?_map, List.getElem?_eq_getElem hle'] <;> rfl
        refine ⟨_, rfl, d, _, 0, _, rfl, rfl, SqL.of hd1, rfl, _, rfl, d, _, 1, _, rfl, rfl, SqL.of hd1, rfl, _, _, rfl, rfl, a, _, _, _, rfl, rfl, D1.sq, at_of (j := i) (by omega) hx, ?_⟩
        refine ⟨_, rfl, _, _, rfl, rfl, ⟨by decide, by decide, by decide⟩, _, _, rfl, rfl, _, rfl, ?_⟩
        refine ite2 (fun _ => ?_) (fun _ => ?_)
        · refine ⟨_, rfl, _, rfl, _, _, rfl, rfl, ⟨h0, h1⟩, _, rfl, d, _, 3, 3, rfl, rfl, hd1, rfl, _, rfl, _, rfl, _, _, rfl, rfl, h0, ?_⟩
          exact k _ _ (hmod _).1 (hmod _).2 (D1.upd m0 m1) (b1.trans But.upd) (fun b hb => (upd_ne hb).trans (e1 b hb))
        · refine ⟨_, rfl, d, _, 3, 3, rfl, rfl, hd1, rfl, _, rfl, _, rfl, _, _, rfl, rfl, h0, ?_⟩
          exact k _ _ (hmod _).1 (hmod _).2 (D1.upd m0 m1) (b1.trans But.upd) (fun b hb => (upd_ne hb).trans (e1 b hb))
      · refine ⟨_, rfl, d, _, 2, _, rfl, rfl, SqL.of hd1, rfl, _, _, rfl, rfl, .inl ⟨by omega, by omega⟩, _, _, rfl, rfl, (by show (0 : Int) < 2147483647; decide), _, rfl, d, _, 2, 2, rfl, rfl, hd1, rfl, ?_⟩
        refine ⟨_, rfl, d, _, 2, _, rfl, rfl, SqL.of upd_same, rfl, _, _, rfl, rfl, ⟨by decide, by decide⟩, _, rfl, _, _, rfl, rfl, h0, ?_⟩
        exact k _ _ (hmod _).1 (hmod _).2 (D1.upd (Int.emod_nonneg _ (by decide)) (Int.emod_lt_of_pos _ (by decide))) (b1.trans But.upd) (fun b hb => (upd_ne hb).trans (e1 b hb))
end
end WS
set_option maxRecDepth 100000
set_option maxHeartbeats 4000000
namespace WS
open PySem L2
theorem ints_at {ns : List Int} {i : Nat} {y : V} (h : (ns.map V.int)[i]? = some y) : ∃ z, ns[i]? = some z ∧ y = V.int z := by
  rw [List.getElem?_map] at h
  cases e : ns[i]? with
  | none =>
    rw [e] at h
    cases h
  | some z =>
    rw [e] at h
    exact ⟨z, rfl, (Option.some.inj h).symm⟩
/-- _law_dice(script): new dice over it -/
def spDice (K : PySem.W.Frag) : Sp := fun vs H Q _ => ∃ (a : Addr) (ns : List Int), vs = [.ref a] ∧ SqL K H a (ns.map V.int) ∧ ∀ (p : Addr) (H' : Hp), H p = none → Same H H' → Dice K H' p a ns → Q (.ref p) H'
section
variable {P : Program} {w : World} {K : PySem.W.Frag} {mg : Str → Option Value} {base : Heap}
theorem scDice : FnScope ["_law_script", "_law_mixed", "_law_cell"] ["_law_script"] (defScope sDice) := ⟨rfl, rfl, rfl, by decide +kernel, rfl, by decide +kernel, by decide +kernel⟩
theorem ok_dice {f : Addr} {fd : FuncData} (F : Fun K "_law_dice" "_law_dice" sDice f fd) (z_len : mg "len" = none) (z_int : mg "int" = none) : FnOk P w K mg base CX0 1 f fd ["_law_script"] (spDice K) := by
  refine F.ok scDice (fun vs H Q E h => ?_) (fun cdv A outer s H vs Q E hr h => ?_)
  · obtain ⟨a, ns, rfl, _⟩ := h
    rfl
  · obtain ⟨a, ns, rfl, hs, k⟩ := h
    have nd := scDice.nd
    refine ⟨_, (pss_cons (ps_set (i := 1) nd rfl (.inl rfl) pe_int)
      (pss_cons (ps_for PassesOwn.never rfl (pi_list (pv 0)) (pg_name (i := 2) nd rfl (.inl rfl)) (pss_one (ps_set (i := 1) nd rfl (.inl rfl) (pe_op op_mod (pe_op op_add (pe_op op_add (pe_op op_mul (pv 1) pe_int) (pe_op op_mul (pe_op op_mod (pv 2) pe_int) pe_int)) pe_int) pe_int))))
      (pss_one (ps_ret (pe_lst (pa_cons (pv 0) (pa_cons pe_int (pa_cons (pe_op op_mul (pv 1) (pe_callTy call_int1 (by rfl) z_int (by decide +kernel) (pa_cons (pe_cmpR op_gt (pe_callB call_len_seq (by rfl) z_len PySem.boot_len (pa_cons (pv 0) pa_nil)) pe_int (nomark _)) pa_nil))) (pa_cons pe_int pa_nil))))))))), ?_⟩
    refine ⟨_, rfl, a, rfl, ⟨_, hs⟩, for_list (K := K) (a := a) (xs := ns.map V.int) (fun i σ H2 => H2 = H ∧ ∃ (m : Int) (v : Option V), σ = [some (.ref a), some (.int m), v] ∧ 0 ≤ m ∧ m < 2147483647)
      ⟨rfl, 0, none, rfl, by decide, by decide⟩ (fun i σ H2 _ ⟨e, _⟩ => e ▸ hs) ?_ ?_⟩
    · rintro i y σ H2 hi ⟨rfl, m, v, rfl, m0, m1⟩
      obtain ⟨z, hz, rfl⟩ := ints_at hi
      refine ⟨_, rfl, _, _, rfl, rfl, .inl ⟨by omega, by omega⟩, _, rfl, _, _, rfl, rfl, (by show (0 : Int) < 2147483647; decide), _, _, rfl, rfl, .inl ⟨?_, ?_⟩, _, _, rfl, rfl, _, _, rfl, rfl, _, _, rfl, rfl, (by show (0 : Int) < 2147483647; decide), ?_⟩
      · have := Int.emod_nonneg z (by decide : (2147483647 : Int) ≠ 0); omega
      · have := Int.emod_lt_of_pos z (by decide : (0 : Int) < 2147483647); omega
      · exact ⟨rfl, _, _, rfl, Int.emod_nonneg _ (by decide), Int.emod_lt_of_pos _ (by decide)⟩
    · rintro σ H2 ⟨rfl, m, v, rfl, m0, m1⟩
      refine ⟨_, rfl, _, rfl, _, rfl, a, _, rfl, .inl hs, _, _, rfl, rfl, .inr ⟨_, rfl, _, _, rfl, rfl, .inl ⟨by omega, by omega⟩, (by show 4 ≤ sizeLine; decide), fun p hp => ?_⟩⟩
      have so : SqL K (off (upd H2 p (.lst [.ref a, .int 0, .int (m * (if decide ((2 : Int) < ((ns.map V.int).length : Nat)) = true then 1 else 0)), .int 0])) p) a (ns.map V.int) :=
        sqL_same (fun b o h => by rw [off_ne (ne_of_none h hp), upd_ne (ne_of_none h hp)]; exact h) hs
      refine k p _ hp (Same.new hp) ⟨⟨0, m * (if decide ((2 : Int) < ((ns.map V.int).length : Nat)) = true then 1 else 0), 0, upd_same, ?_, ?_⟩, so⟩
      · split <;> omega
      · split <;> omega
end
end WS
set_option maxRecDepth 100000
set_option maxHeartbeats 4000000
namespace WS
open PySem L2
def spLaw (K : PySem.W.Frag) : Sp := fun vs H Q _ => ∃ (a : Addr) (ns : List Int), vs = [.ref a] ∧ SqL K H a (ns.map V.int) ∧ ∀ H', Q (.bl true) H'
theorem old_of {C x dx : Addr} {H H3 : Hp} (nx : H x = none) (ndx : H dx = none) (kp : ∀ a o, a ≠ x → (upd (upd H dx (.own x)) x (.ins C dx [])) a = some o → H3 a = some o) : Same H H3 := fun b o e => by
  have hbx := ne_of_none e nx
  have hbd := ne_of_none e ndx
  exact kp b o hbx (by rw [upd_ne hbx, upd_ne hbd]; exact e)
theorem refs_off {K : PySem.W.Frag} {H : Hp} {d a l : Addr} {ns : List Int} {ts : List Addr} (D : Dice K H d a ns) (hl : H l = some (.lst (ts.map V.ref))) : l ≠ d := by
  intro e
  subst e
  obtain ⟨i, m, c, h, _⟩ := D.ex
  rw [h] at hl
  have := HO.lst.inj (Option.some.inj hl)
  rcases ts with _ | ⟨x, _ | ⟨y, r⟩⟩
  · cases this
  · cases this
  · injection this with _ h2
    injection h2 with h3 _
    cases h3
end WS
set_option maxRecDepth 100000
set_option maxHeartbeats 4000000
namespace WS
open PySem L2
/-- lists one behind another with c between -/
def jl (c : List Nat) : List (List Nat) → List Nat
  | [] => []
  | [x] => x
  | x :: y :: r => x ++ c ++ jl c (y :: r)
theorem join_jl (s : Str) : ∀ ps : List Str, (Str.join s ps).cps.toList = jl s.cps.toList (ps.map (·.cps.toList))
  | [] => rfl
  | [x] => rfl
  | x :: y :: r => by
    show (x ++ s ++ Str.join s (y :: r)).cps.toList = x.cps.toList ++ s.cps.toList ++ jl s.cps.toList ((y :: r).map (·.cps.toList))
    rw [← join_jl s (y :: r), PySem.Str.cps_append, Array.toList_append, PySem.Str.cps_append, Array.toList_append]
theorem cut_inj {c : Nat} : ∀ {a b x y : List Nat}, c ∉ a → c ∉ b → a ++ c :: x = b ++ c :: y → a = b ∧ x = y
  | [], [], x, y, _, _, h => ⟨rfl, (List.cons.inj h).2⟩
  | [], d :: b, x, y, _, hb, h => absurd (List.mem_cons.mpr (.inl (List.cons.inj h).1)) hb
  | d :: a, [], x, y, ha, _, h => absurd (List.mem_cons.mpr (.inl (List.cons.inj h).1.symm)) ha
  | d :: a, e :: b, x, y, ha, hb, h => by
    obtain ⟨rfl, h2⟩ := List.cons.inj h
    obtain ⟨rfl, e⟩ := cut_inj (fun m => ha (List.mem_cons_of_mem _ m)) (fun m => hb (List.mem_cons_of_mem _ m)) h2
    exact ⟨rfl, e⟩
theorem jl_inj {c : Nat} : ∀ {A B : List (List Nat)}, A ≠ [] → B ≠ [] → (∀ a ∈ A, c ∉ a) → (∀ b ∈ B, c ∉ b) → jl [c] A = jl [c] B → A = B
  | [], _, h, _, _, _, _ => absurd rfl h
  | _ :: _, [], _, h, _, _, _ => absurd rfl h
  | [x], [y], _, _, _, _, h => by rw [show x = y from h]
  | [x], y :: z :: r, _, _, ha, _, h => by
    have h : x = y ++ [c] ++ jl [c] (z :: r) := h
    exact absurd (by rw [h]; simp) (ha x List.mem_cons_self)
  | x :: z :: r, [y], _, _, _, hb, h => by
    have h : x ++ [c] ++ jl [c] (z :: r) = y := h
    exact absurd (by rw [← h]; simp) (hb y List.mem_cons_self)
  | x :: x2 :: r, y :: y2 :: q, _, _, ha, hb, h => by
    have h : x ++ [c] ++ jl [c] (x2 :: r) = y ++ [c] ++ jl [c] (y2 :: q) := h
    rw [List.append_assoc, List.append_assoc] at h
    obtain ⟨rfl, e⟩ := cut_inj (ha x List.mem_cons_self) (hb y List.mem_cons_self) h
    rw [jl_inj (by simp) (by simp) (fun a m => ha a (List.mem_cons_of_mem _ m)) (fun b m => hb b (List.mem_cons_of_mem _ m)) e]
theorem str_ext {a b : Str} (h : a.cps.toList = b.cps.toList) : a = b := by
  cases a; cases b
  congr 1
  exact Array.toList_inj.mp h
/-- a text of parts that hold no c, c between, is split into these parts -/
theorem split_parts {c : Nat} {x : Str} {ps : List Str} (hx : x.cps.toList = jl [c] (ps.map (·.cps.toList))) (hne : ps ≠ []) (hf : ∀ p ∈ ps, c ∉ p.cps.toList) : Txt.split x ⟨#[c]⟩ = ps := by
  have h1 := PySem.StrLaws.join_split x ⟨#[c]⟩
  have h2 := PySem.StrLaws.split_free x c
  have h3 := PyProof.Rows.split_pos x ⟨#[c]⟩
  generalize Txt.split x ⟨#[c]⟩ = L at h1 h2 h3
  have e : jl [c] (L.map (·.cps.toList)) = jl [c] (ps.map (·.cps.toList)) := by
    rw [← hx, ← h1, join_jl]
  have hm : L.map (·.cps.toList) = ps.map (·.cps.toList) := by
    refine jl_inj (c := c) (fun z => ?_) (fun z => hne (List.map_eq_nil_iff.mp z)) (fun a ha => ?_) (fun a ha => ?_) e
    · rw [List.map_eq_nil_iff.mp z] at h3
      simp at h3
    · obtain ⟨p, hp, rfl⟩ := List.mem_map.mp ha
      exact h2 p hp
    · obtain ⟨p, hp, rfl⟩ := List.mem_map.mp ha
      exact hf p hp
  have inj : ∀ {A B : List Str}, A.map (·.cps.toList) = B.map (·.cps.toList) → A = B := by
    intro A
    induction A with
    | nil => intro B h; exact (List.map_eq_nil_iff.mp h.symm).symm
    | cons a r ih =>
      intro B h
      cases B with
      | nil => cases h
      | cons b q =>
        rw [List.map_cons, List.map_cons] at h
        obtain ⟨h1, h2⟩ := List.cons.inj h
        rw [str_ext h1, ih h2]
  exact inj hm
/-- every second item -/
def evens {α : Type} : List α → List α
  | [] => []
  | [x] => [x]
  | x :: _ :: r => x :: evens r
theorem evens_map {α β : Type} (f : α → β) : ∀ l : List α, (evens l).map f = evens (l.map f)
  | [] => rfl
  | [x] => rfl
  | x :: y :: r => by
    show f x :: (evens r).map f = f x :: evens (r.map f)
    rw [evens_map f r]
theorem pick_evens {α : Type} : ∀ l : List α, ((List.range ((l.length + 1) / 2)).map fun k => 2 * k).filterMap (l[·]?) = evens l
  | [] => by simp [evens]
  | [x] => by simp [evens]
  | x :: y :: r => by
    have ih := pick_evens r
    have e : ((x :: y :: r).length + 1) / 2 = (r.length + 1) / 2 + 1 := by
      rw [List.length_cons, List.length_cons]
      omega
    rw [e, List.range_succ_eq_map, List.map_cons, List.map_map]
    show (2 * 0 :: (List.range ((r.length + 1) / 2)).map ((fun k => 2 * k) ∘ Nat.succ)).filterMap ((x :: y :: r)[·]?) = x :: evens r
    rw [List.filterMap_cons]
    show x :: ((List.range ((r.length + 1) / 2)).map ((fun k => 2 * k) ∘ Nat.succ)).filterMap ((x :: y :: r)[·]?) = _
    rw [← ih, List.filterMap_map, List.filterMap_map]
    refine congrArg (fun l => x :: l) ?_
    refine congrArg (fun f => List.filterMap f _) ?_
    funext k
    show (x :: y :: r)[2 * (k + 1)]? = r[2 * k]?
    rw [show 2 * (k + 1) = 2 * k + 1 + 1 by omega, List.getElem?_cons_succ, List.getElem?_cons_succ]
end WS
namespace Ev2
open PySem PySem.Spec PyProof.Rows L2
theorem ev_pick (items : Array Value) : slicePick items none none (some 2) = (WS.evens items.toList).toArray := by
  unfold slicePick
  show ((sliceRange 0 (items.size : Int) 2).filterMap (items[·]?)).toArray = _
  have e : sliceRange 0 (items.size : Int) 2 = (List.range ((items.size + 1) / 2)).map fun k => 2 * k := by
    unfold sliceRange
    rw [if_pos (by decide)]
    by_cases h : (0 : Int) < items.size
    · rw [if_pos h]
      have e1 : (((items.size : Int) - 0 + 2 - 1) / 2).toNat = (items.size + 1) / 2 := by omega
      show (List.range (((items.size : Int) - 0 + 2 - 1) / 2).toNat).map _ = _
      rw [e1]
      refine List.map_congr_left fun k _ => ?_
      omega
    · rw [if_neg h]
      have : items.size = 0 := by omega
      rw [this] <;> rfl
  rw [e, ← WS.pick_evens items.toList, Array.length_toList]
  congr 2
  funext k
  exact (Array.getElem?_toList).symm
def tEv2 (K : PySem.W.Frag) (te : TE) : TE := fun σ H Q => te σ H fun x H1 => ∃ a xs, x = .ref a ∧ SqL K H1 a xs ∧ ∀ p, H1 p = none → Q (.ref p) (upd H1 p (.lst (WS.evens xs)))
theorem vals_evens : ∀ {xs : List V} {us : List Value}, Vals xs us → Vals (WS.evens xs) (WS.evens us)
  | _, _, .nil => .nil
  | _, _, .cons a .nil => .cons a .nil
  | _, _, .cons a (.cons _ t) => .cons a (vals_evens t)
theorem evens_len {α : Type} : ∀ l : List α, (WS.evens l).length ≤ l.length
  | [] => Nat.le_refl _
  | [_] => Nat.le_refl _
  | x :: _ :: r => by
    have := evens_len r
    show (WS.evens r).length + 1 ≤ r.length + 1 + 1
    omega
theorem pe_ev2 {X : Cx} {e : Expr} {te : TE} {k : Nat} {p1 p3 pos : Pos} (he : PE X e te) : PE X (.Subscript e (.Slice none none (some (.Constant (.int 2) k p1)) p3) pos) (tEv2 X.K te) := by
  refine ⟨fun pins s σ H Q I h => ?_⟩
  refine Subscript_ (thn (he.run pins s σ H _ I h) fun v s1 ⟨x, H1, I1, r1, q1⟩ => ?_)
  obtain ⟨a, xs, ex, hx, q⟩ := q1
  subst ex
  cases r1
  have hst : PO X (some (.Constant (.int 2) k p1)) (tPart (tC (.int 2))) := po_some pe_int
  refine wpAny_Slice (thn (po_none.run pins s1 σ H1 (fun o H2 => o = none ∧ H2 = H1) I1 ⟨rfl, rfl⟩) fun vl s2 ⟨l, H2, I2, pl, el, e2⟩ => ?_)
  subst el e2
  refine thn (po_none.run pins s2 σ H2 (fun o H3 => o = none ∧ H3 = H2) I2 ⟨rfl, rfl⟩) fun vu s3 ⟨u, H3, I3, pu, eu, e3⟩ => ?_
  subst eu e3
  refine thn (hst.run pins s3 σ H3 (fun o H4 => o = some 2 ∧ H4 = H3) I3 ⟨2, rfl, rfl, rfl⟩) fun vs s4 ⟨o, H4, I4, ps, eo, e4⟩ => ?_
  subst eo e4
  have I5 : Inv X pins σ H4 { s4 with heap := s4.heap.push { cls := .type "slice", data := .fields #[vl, vu, vs] } } := I4.kept (t' := s4.toks) fun b ob q => Heap.get?_push_of_some _ q
  obtain ⟨its, r, ht, hz⟩ := I5.list hx
  have hlen := r.length
  show wpAny (model X.prog X.w) X.A (subscriptTail e (.Slice none none (some (.Constant (.int 2) k p1)) p3) (.ref a) (.ref s4.heap.objs.size)) (EP X pins σ Q) X.xe { s4 with heap := s4.heap.push { cls := .type "slice", data := .fields #[vl, vu, vs] } }
  refine tail_any (ops := [.ref a, .ref s4.heap.objs.size]) ht.isList.typeIs (PySem.slot_list_getitem.lookup) ?_ (by with_unfolding_all rfl)
  refine wpAny_getItem_list_slice ht.isList (Heap.IsSliceOf.new _ vl vu vs) pl pu ps (by decide) ?_ (by rw [List.size_toArray]; omega)
  rw [ev_pick]
  refine ⟨.ref _, _, I5.laid (t' := s4.toks) (o := .lst (WS.evens xs)) (fun b ob q => Heap.get?_push_of_some _ q) (Nat.le_refl _) ?_, rfl, q _ (I5.hok.fresh (Nat.le_refl _))⟩
  have hl := evens_len xs
  exact ⟨by omega, _, 0, vals_evens r, Heap.get?_push_size _ rfl⟩
end Ev2
set_option maxRecDepth 100000
set_option maxHeartbeats 4000000
namespace WS
open PySem L2
/-- a text of one sign -/
def sg (c : Nat) : V := .str ⟨#[c]⟩
theorem sg_at {cs : List Nat} {i : Nat} (h : i < cs.length) : (cs.map sg)[i]? = some (sg cs[i]) := by
  rw [List.getElem?_map, List.getElem?_eq_getElem h] <;> rfl
/-- a word of at most L signs, each one of cs -/
structure WordOk (cs : List Nat) (L : Nat) (z : Str) : Prop where
  ne : z.cps.toList ≠ []
  len : z.cps.toList.length ≤ L
  mem : ∀ c ∈ z.cps.toList, c ∈ cs
theorem WordOk.length {cs : List Nat} {L : Nat} {z : Str} (h : WordOk cs L z) : 1 ≤ z.length ∧ z.length ≤ L := by
  have e : z.cps.toList.length = z.length := Array.length_toList
  have a := h.len
  have b := List.length_pos_iff.mpr h.ne
  omega
theorem wordOne {cs : List Nat} {L : Nat} {c : Nat} (hL : 1 ≤ L) (h : c ∈ cs) : WordOk cs L ⟨#[c]⟩ :=
  ⟨by simp, hL, fun x hx => by
    have : x = c := by simpa using hx
    rw [this]; exact h⟩
theorem wordCons {cs : List Nat} {L : Nat} {c : Nat} {z : Str} (h : WordOk cs L z) (hc : c ∈ cs) (hl : z.cps.toList.length + 1 ≤ L) : WordOk cs L ((⟨#[c]⟩ : Str) ++ z) := by
  have e : ((⟨#[c]⟩ : Str) ++ z).cps.toList = c :: z.cps.toList := by
    rw [PySem.Str.cps_append, Array.toList_append] <;> rfl
  refine ⟨by rw [e]; simp, by rw [e]; exact hl, fun x hx => ?_⟩
  rw [e] at hx
  rcases List.mem_cons.mp hx with rfl | hx
  · exact hc
  · exact h.mem x hx
def spWord (K : PySem.W.Frag) : Sp := fun vs H Q _ => ∃ (n b : Int) (l : Addr) (cs : List Nat) (L : Nat), vs = [.int n, .int b, .ref l] ∧ SqL K H l (cs.map sg) ∧ (cs.length : Int) = b ∧ 2 ≤ b ∧ b < 1073741824 ∧ 0 ≤ n ∧ n < b ^ L ∧ 1 ≤ L ∧ L ≤ 1000 ∧
  ∀ z, WordOk cs L z → Q (.str z) H
section
variable {P : Program} {w : World} {K : PySem.W.Frag} {mg : Str → Option Value} {base : Heap}
theorem scWord : FnScope ["_law_number", "_law_base", "_law_names_here", "_law_word_here"] ["_law_number", "_law_base", "_law_names_here"] (defScope sWord) := ⟨rfl, rfl, rfl, by decide +kernel, rfl, by decide +kernel, by decide +kernel⟩
theorem pow_step {b n : Int} {k : Nat} (hb : 2 ≤ b) (hn : b ≤ n) (h : n < b ^ k) : 2 ≤ k ∧ n / b < b ^ (k - 1) := by
  have h2 : 2 ≤ k := by
    rcases k with _ | _ | k
    · simp at h; omega
    · have e : b ^ (0 + 1) = b := by rw [Int.pow_succ, Int.pow_zero, Int.one_mul]
      omega
    · omega
  refine ⟨h2, Int.ediv_lt_of_lt_mul (by omega) ?_⟩
  obtain ⟨j, rfl⟩ : ∃ j, k = j + 1 := ⟨k - 1, by omega⟩
  rw [Int.pow_succ] at h
  exact h
theorem ok_word {f : Addr} {fd : FuncData} (F : Fun K "_law_word" "_law_word" sWord f fd) : FnOk P w K mg base CX0 1 f fd ["_law_number", "_law_base", "_law_names_here"] (spWord K) := by
  refine F.ok scWord (fun vs H Q E h => ?_) (fun cdv A outer s H vs Q E hr h => ?_)
  · obtain ⟨n, b, l, cs, L, rfl, _⟩ := h
    rfl
  · obtain ⟨n, b, l, cs, L, rfl, hs, hc, b2, b3, n0, n1, hL, L1, k⟩ := h
    have nd := scWord.nd
    refine ⟨_, (pss_cons (ps_set (i := 3) nd rfl (.inl rfl) (pe_ix (r := rIxL K) ix_list (pv 2) (pe_op op_mod (pv 0) (pv 1)) (fun _ _ => rfl)))
      (pss_cons (ps_while PassesOwn.never (pt_cmpR op_ge (pv 0) (pv 1) (nomark _)) (pss_cons (ps_set (i := 0) nd rfl (.inl rfl) (pe_op op_fdiv (pv 0) (pv 1)))
      (pss_one (ps_set (i := 3) nd rfl (.inl rfl) (pe_op op_add_str (pe_ix (r := rIxL K) ix_list (pv 2) (pe_op op_mod (pv 0) (pv 1)) (fun _ _ => rfl)) (pv 3))))))
      (pss_one (ps_ret (pv 3))))), ?_⟩
    have pick : ∀ x : Int, 0 ≤ x → ∃ c, c ∈ cs ∧ atI (cs.map sg) (x % b) = some (sg c) := fun x hx => by
      have h0 := Int.emod_nonneg x (by omega : b ≠ 0)
      have h1 := Int.emod_lt_of_pos x (by omega : 0 < b)
      have hi : (x % b).toNat < cs.length := by omega
      exact ⟨cs[(x % b).toNat], List.getElem_mem hi, at_of (j := (x % b).toNat) (by omega) (sg_at hi)⟩
    obtain ⟨c, hcm, hcx⟩ := pick n n0
    refine ⟨_, rfl, _, rfl, _, rfl, _, _, rfl, rfl, (by show (0 : Int) < b; omega), l, _, _, _, rfl, rfl, hs, hcx, ?_⟩
    refine while_by (fun σ H2 => H2 = H ∧ ∃ (n' : Int) (z : Str), σ = [some (.int n'), some (.int b), some (.ref l), some (.str z)] ∧ 0 ≤ n' ∧ WordOk cs L z ∧ n' < b ^ (L + 1 - z.cps.toList.length))
      (fun σ _ => match σ with | some (.int n') :: _ => n'.toNat | _ => 0) ⟨rfl, n, _, rfl, n0, wordOne hL hcm, n1⟩ ?_ ?_
    · rintro σ H2 ⟨rfl, n', z, rfl, h0, hz, hb⟩
      refine ⟨_, rfl, _, rfl, _, _, rfl, rfl, _, rfl, ite2 (fun hge => ?_) (fun _ => ?_)⟩
      · have hge' : b ≤ n' := of_decide_eq_true hge
        obtain ⟨h2, hlt⟩ := pow_step b2 hge' hb
        have hd0 : 0 ≤ n' / b := Int.ediv_nonneg h0 (by omega)
        have hdl : n' / b < n' := Int.ediv_lt_of_lt_mul (by omega) (by have := Int.mul_le_mul_of_nonneg_left b2 h0; omega)
        obtain ⟨c', hcm', hcx'⟩ := pick (n' / b) hd0
        have hzl := hz.len
        refine ⟨_, rfl, _, rfl, _, _, rfl, rfl, ⟨by omega, b3⟩, _, rfl, _, rfl, _, rfl, _, _, rfl, rfl, (by show (0 : Int) < b; omega), l, _, _, _, rfl, rfl, hs, hcx', _, rfl, _, _, rfl, rfl, ?_, ?_⟩
        · have e : z.cps.toList.length = z.length := Array.length_toList
          show 1 + z.length ≤ sizeLine
          exact line_of (by omega)
        · refine ⟨⟨rfl, _, _, rfl, hd0, wordCons hz hcm' (by omega), ?_⟩, ?_⟩
          · have e : ((⟨#[c']⟩ : Str) ++ z).cps.toList.length = z.cps.toList.length + 1 := by
              rw [PySem.Str.cps_append, Array.toList_append, List.length_append, Nat.add_comm] <;> rfl
            rw [e]
            have e2 : L + 1 - (z.cps.toList.length + 1) = L + 1 - z.cps.toList.length - 1 := by omega
            rw [e2]
            exact hlt
          · show (n' / b).toNat < n'.toNat
            omega
      · exact ⟨_, rfl, k z hz⟩
    · rintro σ H2 Q1 Q2 hq ⟨x, hx, y, hy, i, j, e1, e2, c, e3, h⟩
      exact ⟨x, hx, y, hy, i, j, e1, e2, c, e3, hq _ _ h⟩
end
end WS
set_option maxRecDepth 100000
set_option maxHeartbeats 4000000
namespace WS
open PySem L2
theorem at_ofG {α : Type} {xs : List α} {z : Int} {j : Nat} {v : α} (e : z = (j : Int)) (h : xs[j]? = some v) : atI xs z = some v := by
  rw [e]; exact atI_nat h
/-- the letters that a sheet's words are made of -/
structure NamesOk (cs : List Nat) (b : Int) : Prop where
  len : (cs.length : Int) = b
  nd : cs.Nodup
  low : ∀ c ∈ cs, 97 ≤ c ∧ c ≤ 122
def abc : Str := "abcdefghijklmnopqrstuvwxyz"
theorem abc_len : abc.length = 26 := by decide +kernel
theorem abc_all : ∀ i : Nat, i < 26 → abc.cps.toList[i]? = some (97 + i) := by decide +kernel
def letter (t s : Int) (i : Nat) : Nat := 97 + ((t + s * (0 + (i : Int))) % 26).toNat
theorem steps_six {j : Nat} (h : j < 6) : ∃ s : Int, ([V.int 1, .int 3, .int 5, .int 7, .int 9, .int 11])[j]? = some (.int s) ∧ (s = 1 ∨ s = 3 ∨ s = 5 ∨ s = 7 ∨ s = 9 ∨ s = 11) := by
  rcases j with _ | _ | _ | _ | _ | _ | j
  · exact ⟨1, rfl, by decide⟩
  · exact ⟨3, rfl, by decide⟩
  · exact ⟨5, rfl, by decide⟩
  · exact ⟨7, rfl, by decide⟩
  · exact ⟨9, rfl, by decide⟩
  · exact ⟨11, rfl, by decide⟩
  · omega
theorem letter_inj {t s : Int} {i j : Nat} (hs : s = 1 ∨ s = 3 ∨ s = 5 ∨ s = 7 ∨ s = 9 ∨ s = 11) (hi : i < 12) (hj : j < 12) (h : letter t s i = letter t s j) : i = j := by
  unfold letter at h
  rcases hs with rfl | rfl | rfl | rfl | rfl | rfl <;> omega
theorem names_ok {t s : Int} {n : Nat} (hs : s = 1 ∨ s = 3 ∨ s = 5 ∨ s = 7 ∨ s = 9 ∨ s = 11) (hn : n ≤ 12) : NamesOk ((List.range n).map (letter t s)) n := by
  refine ⟨by rw [List.length_map, List.length_range], ?_, fun c hc => ?_⟩
  · rw [List.Nodup, List.pairwise_map]
    refine List.Pairwise.imp_of_mem (R := fun a b => a ≠ b) (fun {a b} ha hb hab e => ?_) (show (List.range n).Nodup from List.nodup_range)
    have := List.mem_range.mp ha
    have := List.mem_range.mp hb
    exact hab (letter_inj hs (by omega) (by omega) e)
  · obtain ⟨i, _, rfl⟩ := List.mem_map.mp hc
    unfold letter
    omega
/-- _law_names(d, base) -/
def spNames (K : PySem.W.Frag) : Sp := fun vs H Q _ => ∃ (d a : Addr) (ns : List Int) (b : Int), vs = [.ref d, .int b] ∧ Dice K H d a ns ∧ 2 ≤ b ∧ b ≤ 12 ∧
  ∀ (p : Addr) (H' : Hp) (cs : List Nat), H p = none → Dice K H' d a ns → But d H H' → H' p = some (.lst (cs.map sg)) → NamesOk cs b → Q (.ref p) H'
section
variable {P : Program} {w : World} {K : PySem.W.Frag} {mg : Str → Option Value} {base : Heap}
theorem scNames : FnScope ["_law_d", "_law_base", "_law_turn", "_law_step", "_law_k"] ["_law_d", "_law_base"] (defScope sNames) := ⟨rfl, rfl, rfl, by decide +kernel, rfl, by decide +kernel, by decide +kernel⟩
theorem ok_names {f fN : Addr} {fd fdN : FuncData} (F : Fun K "_law_names" "_law_names" sNames f fd) (z_range : mg "range" = none) (S__law_next : Site K mg "_law_next" fN fdN ["_law_dice_here", "_law_many"])
    (G__law_next : FnOk P w K mg base CX0 1 fN fdN ["_law_dice_here", "_law_many"] (spNext K)) : FnOk P w K mg base CX0 2 f fd ["_law_d", "_law_base"] (spNames K) := by
  refine F.ok scNames (fun vs H Q E h => ?_) (fun cdv A outer s H vs Q E hr h => ?_)
  · obtain ⟨d, a, ns, b, rfl, _⟩ := h
    rfl
  · obtain ⟨d, a, ns, b, rfl, D, b2, b12, k⟩ := h
    have nd := scNames.nd
    have hr__law_next := hr
    refine ⟨_, (pss_cons (ps_set (i := 2) nd rfl (.inr rfl) (pe_call G__law_next hr__law_next (by rfl) S__law_next.g S__law_next.k S__law_next.b .nil pass0 (pa_cons (pv 0) (pa_cons pe_int pa_nil))))
      (pss_cons (ps_set (i := 3) nd rfl (.inr rfl) (pe_ix (r := rIxL K) ix_list (pe_lst (pa_cons pe_int (pa_cons pe_int (pa_cons pe_int (pa_cons pe_int (pa_cons pe_int (pa_cons pe_int pa_nil))))))) (pe_call G__law_next hr__law_next (by rfl) S__law_next.g S__law_next.k S__law_next.b .nil pass0 (pa_cons (pv 0) (pa_cons pe_int pa_nil))) (fun _ _ => rfl)))
      (pss_one (ps_ret (pe_lc (own := [("_law_k", 4)]) (g := (gName 4)) (tt := tYes) rfl nd (pi_range1 (by rfl) z_range (pa_cons (pv 1) pa_nil)) (blkOk_by (own := [("_law_k", 4)]) (N := ["_law_d", "_law_base", "_law_turn", "_law_step", "_law_k"]) (sc := defScope sNames) (by decide +kernel)) (fun _ _ _ _ _ => (pg_name (i := 4) nd rfl (.inl rfl))) (fun _ _ _ _ _ => pts_nil) (fun _ _ _ _ _ => (pe_ix (r := rIxS) ix_str pe_str (pe_op op_mod (pe_op op_add (pv 2) (pe_op op_mul (pv 3) (pv 4))) pe_int) (fun _ _ => rfl)))))))), ?_⟩
    refine ⟨_, rfl, d, a, ns, 26, rfl, D, by decide, by decide, fun t H1 t0 t1 D1 b1 _ => ?_⟩
    refine ⟨by show 6 ≤ sizeLine; decide, fun q hq => ?_⟩
    refine ⟨_, rfl, d, a, ns, 6, rfl, D1.new hq, by decide, by decide, fun j H2 j0 j1 D2 b2' e2 => ?_⟩
    have hqd : q ≠ d := D1.neOf hq
    obtain ⟨st, hst, hs6⟩ := steps_six (j := j.toNat) (by omega)
    refine ⟨q, _, j, _, rfl, rfl, SqL.of ((e2 q hqd).trans upd_same), at_of (j := j.toNat) (by omega) hst, ?_⟩
    have b3 : But d H H2 := (b1.trans (But.new hq)).trans b2'
    refine ⟨_, rfl, b, rfl, by omega, by omega, fun p hp => ?_⟩
    have hp0 : H p = none := b3.free D2.ne hp
    refine lc_range (lo := 0) (n := b.toNat) (fun i H3 => H3 = upd H2 p (.lst (((List.range i).map (letter t st)).map sg))) rfl ?_ ?_
    · rintro i H3 hi rfl
      refine ⟨rfl, _, rfl, _, rfl, _, rfl, _, _, rfl, rfl, .inl ⟨by omega, by omega⟩, _, _, rfl, rfl, _, _, rfl, rfl, (by show (0 : Int) < 26; decide), ?_⟩
      have h0 := Int.emod_nonneg (t + st * (0 + (i : Int))) (by decide : (26 : Int) ≠ 0)
      have h1 := Int.emod_lt_of_pos (t + st * (0 + (i : Int))) (by decide : (0 : Int) < 26)
      refine ⟨abc, (t + st * (0 + (i : Int))) % 26, letter t st i, rfl, rfl, (by rw [abc_len]; decide), ?_, ?_⟩
      · show atI abc.cps.toList ((t + st * (0 + (i : Int))) % 26) = some (letter t st i)
        have := abc_all ((t + st * (0 + (i : Int))) % 26).toNat (by omega)
        exact at_ofG (j := ((t + st * (0 + (i : Int))) % 26).toNat) (by omega) this
      · refine ⟨_, upd_same, ?_, ?_⟩
        · rw [List.length_map, List.length_map, List.length_range]
          exact line_lt (by omega)
        · rw [upd_upd, List.range_succ, List.map_append, List.map_append]
          rfl
    · rintro H3 rfl
      refine k p _ ((List.range b.toNat).map (letter t st)) hp0 (D2.new hp) (b3.trans (But.new hp)) upd_same ?_
      have := names_ok (t := t) hs6 (n := b.toNat) (by omega)
      rw [Int.toNat_of_nonneg (by omega)] at this
      exact this
end
end WS
set_option maxRecDepth 100000
set_option maxHeartbeats 4000000
namespace WS
open PySem L2
/-! ### what a drawn sum is -/
structure SumOk (cs : List Nat) (b : Int) (ws : List Str) (tot : Str) : Prop where
  many : 1 ≤ ws.length ∧ ws.length ≤ 4
  adds : ∀ w ∈ ws, WordOk cs 6 w
  total : WordOk cs 6 tot
  big : 6 < b → ws.length = 2 ∧ (∀ w ∈ ws, WordOk cs 1 w) ∧ WordOk cs 2 tot
theorem WordOk.mono {cs : List Nat} {L L' : Nat} {z : Str} (h : WordOk cs L z) (l : L ≤ L') : WordOk cs L' z := ⟨h.ne, Nat.le_trans h.len l, h.mem⟩
theorem join_empty : ∀ xs : List Str, (Str.join Str.empty xs).cps.toList = (xs.map (·.cps.toList)).flatten
  | [] => rfl
  | [x] => by show x.cps.toList = x.cps.toList ++ []; rw [List.append_nil]
  | x :: y :: r => by
    show (x ++ Str.empty ++ Str.join Str.empty (y :: r)).cps.toList = x.cps.toList ++ ((y :: r).map (·.cps.toList)).flatten
    rw [← join_empty (y :: r), PySem.Str.cps_append, Array.toList_append, PySem.Str.cps_append, Array.toList_append]
    show x.cps.toList ++ [] ++ _ = _
    rw [List.append_nil]
theorem join_signs (cs : List Nat) : (Str.join Str.empty (cs.map fun c => (⟨#[c]⟩ : Str))).cps.toList = cs := by
  rw [join_empty, List.map_map]
  induction cs with
  | nil => rfl
  | cons c r ih =>
    show [c] ++ (r.map _).flatten = c :: r
    rw [ih] <;> rfl
theorem word_join {cs xs : List Nat} {L : Nat} (h0 : xs ≠ []) (h1 : xs.length ≤ L) (h2 : ∀ c ∈ xs, c ∈ cs) : WordOk cs L (Str.join Str.empty (xs.map fun c => (⟨#[c]⟩ : Str))) :=
  ⟨by rw [join_signs]; exact h0, by rw [join_signs]; exact h1, by rw [join_signs]; exact h2⟩
theorem sg_strs (xs : List Nat) : xs.map sg = (xs.map fun c => (⟨#[c]⟩ : Str)).map V.str := by
  rw [List.map_map] <;> rfl
theorem cutV_1 (xs : List V) (h : 1 ≤ xs.length) : cutV xs (some 1) none = xs.drop 1 := by
  unfold cutV
  have e : HT.sIx xs.length 0 (some 1) = 1 := by
    have := HT.sIx_nat xs.length 0 1
    rw [show ((1 : Nat) : Int) = 1 from rfl] at this
    rw [this]; omega
  rw [e, HT.sIx_none]
  exact List.take_of_length_le (by rw [List.length_drop] <;> exact Nat.le_refl _)
/-- the limits of the numbers that are drawn -/
def limOf (b : Int) : Int := if 6 < b then b else if b < 5 then b * b * b * b else b * b * b
def lengthOf (b : Int) : Nat := if 6 < b then 1 else 4
theorem lim_facts {b : Int} (h2 : 2 ≤ b) (h12 : b ≤ 12) : 0 < limOf b ∧ limOf b < 1073741824 ∧ limOf b ≤ b ^ lengthOf b ∧ 4 * limOf b ≤ b ^ 6 ∧ (6 < b → 2 * limOf b ≤ b ^ 2) := by
  have e : b = 2 ∨ b = 3 ∨ b = 4 ∨ b = 5 ∨ b = 6 ∨ b = 7 ∨ b = 8 ∨ b = 9 ∨ b = 10 ∨ b = 11 ∨ b = 12 := by omega
  rcases e with rfl | rfl | rfl | rfl | rfl | rfl | rfl | rfl | rfl | rfl | rfl <;> decide
theorem sum_le : ∀ {xs : List Int} {m : Int}, (∀ x ∈ xs, 0 ≤ x ∧ x < m) → 0 ≤ xs.sum ∧ xs.sum ≤ xs.length * (m - 1)
  | [], m, _ => by simp
  | x :: r, m, h => by
    obtain ⟨a, b⟩ := sum_le (xs := r) fun y hy => h y (List.mem_cons_of_mem _ hy)
    obtain ⟨c, d⟩ := h x List.mem_cons_self
    rw [List.sum_cons, List.length_cons]
    refine ⟨by omega, ?_⟩
    have : ((r.length + 1 : Nat) : Int) * (m - 1) = r.length * (m - 1) + (m - 1) := by
      rw [Int.natCast_add, Int.add_mul]; simp
    rw [this]; omega
theorem sum_lim {b : Int} (h2 : 2 ≤ b) (h12 : b ≤ 12) {xs : List Int} (h : ∀ x ∈ xs, 0 ≤ x ∧ x < limOf b) (hl : xs.length ≤ 4) : 0 ≤ xs.sum ∧ xs.sum < b ^ 6 ∧ (6 < b → xs.length = 2 → xs.sum < b ^ 2) := by
  obtain ⟨a, c⟩ := sum_le h
  obtain ⟨l0, _, _, l4, l2⟩ := lim_facts h2 h12
  have hm : (xs.length : Int) * (limOf b - 1) ≤ 4 * (limOf b - 1) := Int.mul_le_mul_of_nonneg_right (by omega) (by omega)
  refine ⟨a, by omega, fun hb he => ?_⟩
  have := l2 hb
  rw [he] at c
  omega
end WS
set_option maxRecDepth 100000
set_option maxHeartbeats 8000000
namespace WS
open PySem L2
theorem names_off {K : PySem.W.Frag} {H : Hp} {d a l : Addr} {ns : List Int} {cs : List Nat} (D : Dice K H d a ns) (hl : H l = some (.lst (cs.map sg))) : l ≠ d := by
  intro e
  subst e
  obtain ⟨i, m, c, h, _⟩ := D.ex
  rw [h] at hl
  have := HO.lst.inj (Option.some.inj hl)
  rcases cs with _ | ⟨x, r⟩
  · cases this
  · injection this with h1 _
    cases h1
/-- _law_sum(d, base, names): one sum -/
def spSum (K : PySem.W.Frag) : Sp := fun vs H Q _ => ∃ (d a : Addr) (ns : List Int) (b : Int) (l : Addr) (cs : List Nat), vs = [.ref d, .int b, .ref l] ∧ Dice K H d a ns ∧ 2 ≤ b ∧ b ≤ 12 ∧ H l = some (.lst (cs.map sg)) ∧ (cs.length : Int) = b ∧
  ∀ (t u : Addr) (H' : Hp) (ws : List Str) (tot : Str), H t = none → H u = none → Dice K H' d a ns → But d H H' → H' t = some (.tup [.ref u, .str tot]) → H' u = some (.tup (ws.map V.str)) → SumOk cs b ws tot → Q (.ref t) H'
section
variable {P : Program} {w : World} {K : PySem.W.Frag} {mg : Str → Option Value} {base : Heap}
theorem scSum : FnScope ["_law_d", "_law_base", "_law_names_here", "_law_limit", "_law_many", "_law_words", "_law_k", "_law_size", "_law_numbers", "_law_j", "_law_number"] ["_law_d", "_law_base", "_law_names_here"] (defScope sSum) := ⟨rfl, rfl, rfl, by decide +kernel, rfl, by decide +kernel, by decide +kernel⟩
theorem ok_sum {f fN fW : Addr} {fd fdN fdW : FuncData} (F : Fun K "_law_sum" "_law_sum" sSum f fd) (z_range : mg "range" = none) (z_tuple : mg "tuple" = none) (z_sum : mg "sum" = none)
    (S__law_next : Site K mg "_law_next" fN fdN ["_law_dice_here", "_law_many"]) (G__law_next : FnOk P w K mg base CX0 1 fN fdN ["_law_dice_here", "_law_many"] (spNext K))
    (S__law_word : Site K mg "_law_word" fW fdW ["_law_number", "_law_base", "_law_names_here"]) (G__law_word : FnOk P w K mg base CX0 1 fW fdW ["_law_number", "_law_base", "_law_names_here"] (spWord K)) :
    FnOk P w K mg base CX0 2 f fd ["_law_d", "_law_base", "_law_names_here"] (spSum K) := by
  refine F.ok scSum (fun vs H Q E h => ?_) (fun cdv A outer s H vs Q E hr h => ?_)
  · obtain ⟨d, a, ns, b, l, cs, rfl, _⟩ := h
    rfl
  · obtain ⟨d, a, ns, b, l, cs, rfl, D, b2, b12, hl, hcs, k⟩ := h
    have nd := scSum.nd
    have hr__law_next := hr
    have hr__law_word := hr
    have hld := names_off D hl
    obtain ⟨l0, l30, lL, l4, l2⟩ := lim_facts b2 b12
    have pick : ∀ v : Int, 0 ≤ v → v < b → ∃ c, c ∈ cs ∧ atI (cs.map sg) v = some (sg c) := fun v h0 h1 => by
      have hi : v.toNat < cs.length := by omega
      exact ⟨cs[v.toNat], List.getElem_mem hi, at_of (j := v.toNat) (by omega) (sg_at hi)⟩
    refine ⟨_, (pss_cons (ps_set (i := 3) nd rfl (.inr rfl) (pe_op op_mul (pe_op op_mul (pv 1) (pv 1)) (pv 1)))
      (Evl.pss_cut (ps_if (pt_cmpR op_lt (pv 1) pe_int (nomark _)) (pss_one (ps_set (i := 3) nd rfl (.inr rfl) (pe_op op_mul (pv 3) (pv 1)))) pss_nil)
      (pss_cons (ps_set (i := 4) nd rfl (.inl rfl) (pe_op op_add pe_int (pe_call G__law_next hr__law_next (by rfl) S__law_next.g S__law_next.k S__law_next.b .nil pass0 (pa_cons (pv 0) (pa_cons pe_int pa_nil)))))
      (Evl.pss_cut (ps_if (pt_cmpR op_gt (pv 1) pe_int (nomark _)) (pss_cons (ps_set (i := 3) nd rfl (.inr rfl) (pv 1))
      (pss_one (ps_set (i := 4) nd rfl (.inl rfl) pe_int))) pss_nil)
      (Evl.pss_cut (ps_if (PW.pt (pw_and (pt_cmpR op_eq (pe_call G__law_next hr__law_next (by rfl) S__law_next.g S__law_next.k S__law_next.b .nil pass0 (pa_cons (pv 0) (pa_cons pe_int pa_nil))) pe_int (nomark _)) (pw_and1 (pt_cmpR op_lt (pv 1) pe_int (nomark _))))) (pss_cons (ps_set (i := 5) nd rfl (.inl rfl) (pe_lst pa_nil))
      (pss_cons (ps_for PassesOwn.never rfl (pi_range1 (by rfl) z_range (pa_cons (pe_op op_add (pv 4) pe_int) pa_nil)) (pg_name (i := 6) nd rfl (.inl rfl)) (pss_cons (ps_set (i := 7) nd rfl (.inl rfl) (pe_op op_add pe_int (pe_call G__law_next hr__law_next (by rfl) S__law_next.g S__law_next.k S__law_next.b .nil pass0 (pa_cons (pv 0) (pa_cons pe_int pa_nil)))))
      (Evl.pss_cut (ps_if (PW.pt (pw_and (pt_cmpR op_lt (pv 1) pe_int (nomark _)) (pw_and1 (pt_cmpR op_eq (pe_call G__law_next hr__law_next (by rfl) S__law_next.g S__law_next.k S__law_next.b .nil pass0 (pa_cons (pv 0) (pa_cons pe_int pa_nil))) pe_int (nomark _))))) (pss_one (ps_set (i := 7) nd rfl (.inl rfl) (pe_op op_add pe_int (pe_call G__law_next hr__law_next (by rfl) S__law_next.g S__law_next.k S__law_next.b .nil pass0 (pa_cons (pv 0) (pa_cons pe_int pa_nil)))))) pss_nil)
      (pss_one (ps_expr (pe_bm PySem.F.plainAttrs_list PySem.F.slot_list_append PySem.F.type_list_append mt_append (pv 5) (pa_cons (pe_join pe_str (pe_lc (own := [("_law_j", 9)]) (g := (gName 9)) (tt := tYes) rfl nd (pi_range1 (by rfl) z_range (pa_cons (pv 7) pa_nil)) (blkOk_by (own := [("_law_j", 9)]) (N := ["_law_d", "_law_base", "_law_names_here", "_law_limit", "_law_many", "_law_words", "_law_k", "_law_size", "_law_numbers", "_law_j", "_law_number"]) (sc := defScope sSum) (by decide +kernel)) (fun _ _ _ _ _ => (pg_name (i := 9) nd rfl (.inl rfl))) (fun _ _ _ _ _ => pts_nil) (fun _ _ _ _ _ => (pe_ix (r := rIxL K) ix_list (pv 2) (pe_call G__law_next hr__law_next (by rfl) S__law_next.g S__law_next.k S__law_next.b .nil pass0 (pa_cons (pv 0) (pa_cons (pv 1) pa_nil))) (fun _ _ => rfl))))) pa_nil)))))))
      (pss_one (ps_ret (pe_tup (pa_cons (pe_callTy call_tuple_of (by rfl) z_tuple (by decide +kernel) (pa_cons (pe_slice sl_list (pv 5) (po_some pe_int) po_none) pa_nil)) (pa_cons (pe_ix (r := rIxL K) ix_list (pv 5) pe_int (fun _ _ => rfl)) pa_nil))))))) pss_nil)
      (pss_cons (ps_setLc (i := 8) (own := [("_law_k", 6)]) (g := (gName 6)) (tt := tYes) rfl nd rfl rfl (sw_true rfl rfl rfl (by decide +kernel)) (pi_range1 (by rfl) z_range (pa_cons (pv 4) pa_nil)) (blkOk_by (own := [("_law_k", 6)]) (N := ["_law_d", "_law_base", "_law_names_here", "_law_limit", "_law_many", "_law_words", "_law_k", "_law_size", "_law_numbers", "_law_j", "_law_number"]) (sc := defScope sSum) (by decide +kernel)) (fun _ _ _ _ _ => (pg_name (i := 6) nd rfl (.inl rfl))) (fun _ _ _ _ _ => pts_nil) (fun _ _ _ _ _ => (pe_call G__law_next hr__law_next (by rfl) S__law_next.g S__law_next.k S__law_next.b .nil pass0 (pa_cons (pv 0) (pa_cons (pv 3) pa_nil)))))
      (pss_one (ps_ret (pe_tup (pa_cons (pe_callTy call_tuple_of (by rfl) z_tuple (by decide +kernel) (pa_cons (pe_lc (own := [("_law_number", 10)]) (g := (gName 10)) (tt := tYes) rfl nd (pi_list (pv 8)) (blkOk_by (own := [("_law_number", 10)]) (N := ["_law_d", "_law_base", "_law_names_here", "_law_limit", "_law_many", "_law_words", "_law_k", "_law_size", "_law_numbers", "_law_j", "_law_number"]) (sc := defScope sSum) (by decide +kernel)) (fun _ _ _ _ _ => (pg_name (i := 10) nd rfl (.inl rfl))) (fun _ _ _ _ _ => pts_nil) (fun _ _ _ _ _ => (pe_call G__law_word hr__law_word (by rfl) S__law_word.g S__law_word.k S__law_word.b .nil pass0 (pa_cons (pv 10) (pa_cons (pv 1) (pa_cons (pv 2) pa_nil)))))) pa_nil)) (pa_cons (pe_call G__law_word hr__law_word (by rfl) S__law_word.g S__law_word.k S__law_word.b .nil pass0 (pa_cons (pe_callB (cr_sum rfl) (by rfl) z_sum (by decide +kernel) (pa_cons (pv 8) pa_nil)) (pa_cons (pv 1) (pa_cons (pv 2) pa_nil)))) pa_nil))))))))))), ?_⟩
    refine ⟨_, rfl, _, rfl, _, _, rfl, rfl, .inl ⟨by omega, by omega⟩, _, rfl, _, _, rfl, rfl, .inr ⟨by omega, by omega⟩, ?_⟩
    refine ⟨fun σ H1 => H = H1 ∧ σ = [some (.ref d), some (.int b), some (.ref l), some (.int (if b < 5 then b * b * b * b else b * b * b)), none, none, none, none, none, none, none], ?_, ?_⟩
    · refine ⟨_, rfl, _, _, rfl, rfl, _, rfl, ite2 (fun c => ?_) (fun c => ?_)⟩
      · refine ⟨_, rfl, _, rfl, _, _, rfl, rfl, .inr ⟨by omega, by omega⟩, rfl, ?_⟩
        rw [if_pos (of_decide_eq_true c)] <;> rfl
      · refine ⟨rfl, ?_⟩
        rw [if_neg (fun h => c (decide_eq_true h))] <;> rfl
    · rintro σ H1 ⟨rfl, rfl⟩
      refine ⟨_, rfl, d, a, ns, 4, rfl, D, by decide, by decide, fun v H1' v0 v1 D1 b1 _ => ?_⟩
      refine ⟨_, _, rfl, rfl, ?_⟩
      refine ⟨fun σ H2 => H2 = H1' ∧ ∃ m : Int, σ = [some (.ref d), some (.int b), some (.ref l), some (.int (limOf b)), some (.int m), none, none, none, none, none, none] ∧ 1 ≤ m ∧ m ≤ 4 ∧ (6 < b → m = 2), ?_, ?_⟩
      · refine ⟨_, rfl, _, _, rfl, rfl, _, rfl, ite2 (fun c => ?_) (fun c => ?_)⟩
        · refine ⟨_, rfl, rfl, 2, ?_, by decide, by decide, fun _ => rfl⟩
          have e : limOf b = b := by unfold limOf; rw [if_pos (of_decide_eq_true c)]
          rw [e] <;> rfl
        · refine ⟨rfl, 1 + v, ?_, by omega, by omega, fun h => absurd (decide_eq_true h) c⟩
          have e : limOf b = if b < 5 then b * b * b * b else b * b * b := by unfold limOf; rw [if_neg (fun h => c (decide_eq_true h))]
          rw [e] <;> rfl
      · rintro σ H2 ⟨rfl, m, rfl, m0, m4, mb⟩
        refine ⟨fun σ H3 => σ = [some (.ref d), some (.int b), some (.ref l), some (.int (limOf b)), some (.int m), none, none, none, none, none, none] ∧ Dice K H3 d a ns ∧ But d H H3, ?_, ?_⟩
        · refine ⟨_, rfl, d, a, ns, 4, rfl, D1, by decide, by decide, fun v' H3 v0' v1' D3 b3 _ => ?_⟩
          refine ⟨rfl, _, rfl, ite2 (fun c => ?_) (fun c => iteF ?_)⟩
          · refine ⟨_, rfl, _, _, rfl, rfl, _, rfl, ite2 (fun c => ?_) (fun c => ?_)⟩
            · -- the words' branch
              have hb7 : b < 7 := of_decide_eq_true c
              have b3' := b1.trans b3
              refine ⟨by show 0 ≤ sizeLine; decide, fun wl hwl => ?_⟩
              have hw0 : H wl = none := b3'.free D3.ne hwl
              have hwd : wl ≠ d := D3.neOf hwl
              refine ⟨_, rfl, _, _, rfl, rfl, _, rfl, by omega, by omega, for_range (lo := 0) (n := (m + 1).toNat) (fun i σ H4 => ∃ (ws : List Str) (v6 v7 : Option V), σ = [some (.ref d), some (.int b), some (.ref l), some (.int (limOf b)), some (.int m), some (.ref wl), v6, v7, none, none, none] ∧
                  Dice K H4 d a ns ∧ But d H H4 ∧ H4 wl = some (.lst (ws.map V.str)) ∧ ws.length = i ∧ ∀ w ∈ ws, WordOk cs 6 w)
                ⟨[], none, none, rfl, D3.new hwl, b3'.trans (But.new hwl), upd_same, rfl, fun w hw => nomatch hw⟩ ?_ ?_⟩
              · rintro i σ H4 hi ⟨ws, v6, v7, rfl, D4, b4, hws, hwn, hwo⟩
                refine ⟨_, rfl, d, a, ns, 3, rfl, D4, by decide, by decide, fun v H5 v0 v1 D5 b5 e5 => ?_⟩
                refine ⟨_, _, rfl, rfl, ?_⟩
                refine ⟨fun σ H6 => ∃ sz : Int, σ = [some (.ref d), some (.int b), some (.ref l), some (.int (limOf b)), some (.int m), some (.ref wl), some (.int (0 + (i : Int))), some (.int sz), none, none, none] ∧ 1 ≤ sz ∧ sz ≤ 6 ∧
                    Dice K H6 d a ns ∧ But d H H6 ∧ H6 wl = some (.lst (ws.map V.str)), ?_, ?_⟩
                · have out : ∃ sz : Int, [some (V.ref d), some (V.int b), some (V.ref l), some (V.int (limOf b)), some (V.int m), some (V.ref wl), some (V.int (0 + (i : Int))), some (V.int (1 + v)), none, none, none] = [some (.ref d), some (.int b), some (.ref l), some (.int (limOf b)), some (.int m), some (.ref wl), some (.int (0 + (i : Int))), some (.int sz), none, none, none] ∧ 1 ≤ sz ∧ sz ≤ 6 ∧
                    Dice K H5 d a ns ∧ But d H H5 ∧ H5 wl = some (.lst (ws.map V.str)) := ⟨1 + v, rfl, by omega, by omega, D5, b4.trans b5, (e5 wl hwd).trans hws⟩
                  refine ⟨_, rfl, _, _, rfl, rfl, _, rfl, ite2 (fun _ => ?_) (fun _ => iteF out)⟩
                  refine ⟨_, rfl, d, a, ns, 4, rfl, D5, by decide, by decide, fun v2 H6 _ _ D6 b6 e6 => ?_⟩
                  refine ⟨rfl, _, rfl, ite2 (fun _ => ?_) (fun _ => ?_)⟩
                  · refine ⟨_, rfl, d, a, ns, 6, rfl, D6, by decide, by decide, fun v3 H7 v30 v31 D7 b7 e7 => ?_⟩
                    exact ⟨_, _, rfl, rfl, 1 + v3, rfl, by omega, by omega, D7, ((b4.trans b5).trans b6).trans b7, (e7 wl hwd).trans ((e6 wl hwd).trans ((e5 wl hwd).trans hws))⟩
                  · exact ⟨1 + v, rfl, by omega, by omega, D6, (b4.trans b5).trans b6, (e6 wl hwd).trans ((e5 wl hwd).trans hws)⟩
                · rintro σ H6 ⟨sz, rfl, sz1, sz6, D6, b6, hw6⟩
                  refine ⟨_, rfl, .inl ⟨rfl, _, SqL.of hw6⟩, ⟨_, rfl⟩, _, rfl, sz, rfl, by omega, by omega, fun D' hD' => ?_⟩
                  have hD0 : H D' = none := b6.free D6.ne hD'
                  have hDd : D' ≠ d := D6.neOf hD'
                  have hDw : wl ≠ D' := ne_of_none hw6 hD'
                  refine lc_range (lo := 0) (n := sz.toNat) (fun j H7 => ∃ xs : List Nat, H7 D' = some (.lst (xs.map sg)) ∧ xs.length = j ∧ (∀ c ∈ xs, c ∈ cs) ∧ Dice K H7 d a ns ∧ But d H H7 ∧ H7 wl = some (.lst (ws.map V.str)))
                    ⟨[], upd_same, rfl, (fun c hc => nomatch hc), D6.new hD', b6.trans (But.new hD'), (upd_ne hDw).trans hw6⟩ ?_ ?_
                  · rintro j H7 hj ⟨xs, hx, hxn, hxc, D7, b7, hw7⟩
                    refine ⟨rfl, _, rfl, _, rfl, _, rfl, d, a, ns, b, rfl, D7, by omega, by omega, fun v H8 v0 v1 D8 b8 e8 => ?_⟩
                    obtain ⟨cc, hcm, hcx⟩ := pick v v0 v1
                    refine ⟨l, _, v, _, rfl, rfl, SqL.of ((b7.trans b8) l _ hld hl), hcx, xs.map sg, (e8 D' hDd).trans hx, by rw [List.length_map]; exact line_lt (by omega), xs ++ [cc], ?_, ?_, ?_, D.mut (b7.trans b8) D8 hD0, (b7.trans b8).mut hD0, ?_⟩
                    · rw [upd_same, List.map_append] <;> rfl
                    · rw [List.length_append, hxn] <;> rfl
                    · intro y hy
                      rcases List.mem_append.mp hy with hy | hy
                      · exact hxc y hy
                      · have : y = cc := by simpa using hy
                        rw [this]; exact hcm
                    · rw [upd_ne hDw]; exact (e8 wl hwd).trans hw7
                  · rintro H7 ⟨xs, hx, hxn, hxc, D7, b7, hw7⟩
                    have hsum : ((xs.map fun c => (⟨#[c]⟩ : Str)).map (·.length)).sum = xs.length := by
                      rw [List.map_map]
                      clear hx hxn hxc
                      induction xs with
                      | nil => rfl
                      | cons c r ih =>
                        rw [List.map_cons, List.sum_cons, ih, List.length_cons, Nat.add_comm] <;> rfl
                    refine ⟨_, D', xs.map fun c => (⟨#[c]⟩ : Str), rfl, rfl, .inl (SqL.of (by rw [← sg_strs]; exact hx)), ?_, ?_⟩
                    · rw [hsum]
                      show xs.length + _ * 0 ≤ 16777216
                      omega
                    · refine ⟨wl, _, _, rfl, rfl, hw7, by rw [List.length_map]; exact line_lt (by omega), ?_⟩
                      have hok : WordOk cs 6 (Txt.join ("" : Str) (xs.map fun c => (⟨#[c]⟩ : Str))) := by
                        have e : Txt.join ("" : Str) (xs.map fun c => (⟨#[c]⟩ : Str)) = Str.join Str.empty (xs.map fun c => (⟨#[c]⟩ : Str)) := StrLaws.glued_eq_join _ _
                        rw [e]
                        exact word_join (fun e => by rw [e] at hxn; simp at hxn; omega) (by omega) hxc
                      refine ⟨ws ++ [Txt.join ("" : Str) (xs.map fun c => (⟨#[c]⟩ : Str))], _, _, rfl, D.mut b7 D7 hw0, b7.mut hw0, ?_, ?_, ?_⟩
                      · rw [upd_same, List.map_append] <;> rfl
                      · rw [List.length_append, hwn] <;> rfl
                      · intro y hy
                        rcases List.mem_append.mp hy with hy | hy
                        · exact hwo y hy
                        · have : y = _ := List.mem_singleton.mp hy
                          rw [this]; exact hok
              · rintro σ H4 ⟨ws, v6, v7, rfl, D4, b4, hws, hwn, hwo⟩
                obtain ⟨w0, wr, rfl⟩ : ∃ w0 wr, ws = w0 :: wr := by
                  rcases ws with _ | ⟨w0, wr⟩
                  · simp at hwn; omega
                  · exact ⟨w0, wr, rfl⟩
                refine ⟨_, rfl, _, rfl, wl, _, rfl, SqL.of hws, fun p hp => ?_⟩
                refine ⟨p, _, rfl, .inl ⟨SqL.of upd_same, fun u hu => ?_⟩⟩
                have hwp : wl ≠ p := ne_of_none hws hp
                have hpu : p ≠ u := fun e => by
                  rw [e, upd_same] at hu
                  cases hu
                have hu4 : H4 u = none := by
                  rw [upd_ne (Ne.symm hpu)] at hu
                  exact hu
                have hwu : wl ≠ u := ne_of_none hws hu4
                refine ⟨_, rfl, wl, (w0 :: wr).map V.str, 0, V.str w0, rfl, rfl, SqL.of ?_, at_of (j := 0) rfl rfl, by show 2 ≤ sizeLine; decide, fun t ht => ?_⟩
                · rw [upd_ne hwu, upd_ne hwp]; exact hws
                · have hut : u ≠ t := ne_of_none upd_same ht
                  have ht4 : H4 t = none := by
                    rw [upd_ne (Ne.symm hut)] at ht
                    by_cases e : t = p
                    · rw [e, upd_same] at ht; cases ht
                    · rw [upd_ne e] at ht; exact ht
                  have n3 : ∀ {o o' o'' : HO}, Same H4 (upd (upd (upd H4 p o) u o') t o'') := fun b' o h => by
                    rw [upd_ne (ne_of_none h ht4), upd_ne (ne_of_none h hu4), upd_ne (ne_of_none h hp)]; exact h
                  refine k t u _ wr w0 (b4.free D4.ne ht4) (b4.free D4.ne hu4) (D4.same n3) (b4.trans (But.of n3)) upd_same ?_ ?_
                  · rw [upd_ne hut, upd_same, cutV_1 _ (by rw [List.length_map, List.length_cons]; omega)]
                    rfl
                  · have hl' : wr.length + 1 = (m + 1).toNat := hwn
                    exact ⟨by omega, fun w hw => hwo w (List.mem_cons_of_mem _ hw), hwo w0 List.mem_cons_self, fun h => by omega⟩
            · exact ⟨rfl, D3, b1.trans b3⟩
          · exact ⟨rfl, D3, b1.trans b3⟩
        · rintro σ H3 ⟨rfl, D3, b3⟩
          -- the numbers' branch
          refine ⟨_, rfl, m, rfl, by omega, by omega, fun D' hD' => ?_⟩
          have hD0 : H D' = none := b3.free D3.ne hD'
          have hDd : D' ≠ d := D3.neOf hD'
          refine lc_range (lo := 0) (n := m.toNat) (fun j H7 => ∃ xs : List Int, H7 D' = some (.lst (xs.map V.int)) ∧ xs.length = j ∧ (∀ x ∈ xs, 0 ≤ x ∧ x < limOf b) ∧ Dice K H7 d a ns ∧ But d H H7)
            ⟨[], upd_same, rfl, (fun c hc => nomatch hc), D3.new hD', b3.trans (But.new hD')⟩ ?_ ?_
          · rintro j H7 hj ⟨xs, hx, hxn, hxc, D7, b7⟩
            refine ⟨rfl, _, rfl, _, rfl, d, a, ns, limOf b, rfl, D7, l0, l30, fun v H8 v0 v1 D8 b8 e8 => ?_⟩
            refine ⟨xs.map V.int, (e8 D' hDd).trans hx, by rw [List.length_map]; exact line_lt (by omega), xs ++ [v], ?_, ?_, ?_, D.mut (b7.trans b8) D8 hD0, (b7.trans b8).mut hD0⟩
            · rw [upd_same, List.map_append] <;> rfl
            · rw [List.length_append, hxn] <;> rfl
            · intro y hy
              rcases List.mem_append.mp hy with hy | hy
              · exact hxc y hy
              · have : y = v := by simpa using hy
                rw [this]; exact ⟨v0, v1⟩
          · rintro H7 ⟨xs, hx, hxn, hxc, D7, b7⟩
            obtain ⟨s0, s6, s2⟩ := sum_lim b2 b12 hxc (by omega)
            have hl7 : H7 l = some (.lst (cs.map sg)) := b7 l _ hld hl
            refine ⟨_, rfl, D', rfl, ⟨_, SqL.of hx⟩, fun D2 hD2 => ?_⟩
            have hD2x : D' ≠ D2 := ne_of_none hx hD2
            have hD2l : l ≠ D2 := ne_of_none hl7 hD2
            refine lc_list (K := K) (a := D') (xs := xs.map V.int) (fun j H8 => ∃ ws : List Str, H8 = upd H7 D2 (.lst (ws.map V.str)) ∧ ws.length = j ∧ ∀ w ∈ ws, WordOk cs (lengthOf b) w)
              ⟨[], rfl, rfl, fun w hw => nomatch hw⟩ (fun j H8 _ ⟨ws, e, _⟩ => by rw [e]; exact SqL.of ((upd_ne hD2x).trans hx)) ?_ ?_
            · rintro j y H8 hj ⟨ws, rfl, hwn, hwo⟩
              obtain ⟨z, hz, rfl⟩ := ints_at hj
              obtain ⟨z0, z1⟩ := hxc z (List.mem_of_getElem? hz)
              have hjl : j < xs.length := (List.getElem?_eq_some_iff.mp hz).1
              have hL : 1 ≤ lengthOf b ∧ lengthOf b ≤ 4 := by unfold lengthOf; split <;> omega
              refine ⟨rfl, _, rfl, _, rfl, _, rfl, z, b, l, cs, lengthOf b, rfl, SqL.of ((upd_ne hD2l).trans hl7), hcs, b2, by omega, z0, by omega, hL.1, by omega, fun zz hzz => ?_⟩
              refine ⟨ws.map V.str, upd_same, by rw [List.length_map]; exact line_lt (by omega), ws ++ [zz], ?_, ?_, ?_⟩
              · rw [upd_upd, List.map_append] <;> rfl
              · rw [List.length_append, hwn] <;> rfl
              · intro y hy
                rcases List.mem_append.mp hy with hy | hy
                · exact hwo y hy
                · have : y = zz := by simpa using hy
                  rw [this]; exact hzz
            · rintro H8 ⟨ws, rfl, hwn, hwo⟩
              rw [List.length_map] at hwn
              refine ⟨D2, _, rfl, .inl ⟨SqL.of upd_same, fun u hu => ?_⟩⟩
              have hu2 : u ≠ D2 := fun e => by
                rw [e, upd_same] at hu
                cases hu
              have hu7 : H7 u = none := by
                rw [upd_ne hu2] at hu
                exact hu
              have sm : ∀ {o o' : HO}, Same H7 (upd (upd H7 D2 o) u o') := fun b' o h => by
                rw [upd_ne (ne_of_none h hu7), upd_ne (ne_of_none h hD2)]; exact h
              refine ⟨_, rfl, D', xs, rfl, SqL.of (sm _ _ hx), _, rfl, _, rfl, xs.sum, b, l, cs, if 6 < b then 2 else 6, rfl, SqL.of (sm _ _ hl7), hcs, b2, by omega, s0, ?_, by split <;> omega, by split <;> omega, fun tot htot => ?_⟩
              · split
                · rename_i h
                  exact s2 h (by have := mb h; omega)
                · exact s6
              · refine ⟨by show 2 ≤ sizeLine; decide, fun t ht => ?_⟩
                have hut : u ≠ t := ne_of_none upd_same ht
                have ht7 : H7 t = none := by
                  rw [upd_ne (Ne.symm hut)] at ht
                  by_cases e : t = D2
                  · rw [e, upd_same] at ht; cases ht
                  · rw [upd_ne e] at ht; exact ht
                have n3 : ∀ {o o' o'' : HO}, Same H7 (upd (upd (upd H7 D2 o) u o') t o'') := fun b' o h => by
                  rw [upd_ne (ne_of_none h ht7), upd_ne (ne_of_none h hu7), upd_ne (ne_of_none h hD2)]; exact h
                refine k t u _ ws tot (b7.free D7.ne ht7) (b7.free D7.ne hu7) (D7.same n3) (b7.trans (But.of n3)) upd_same ((upd_ne hut).trans upd_same) ?_
                have hL : lengthOf b ≤ 6 := by unfold lengthOf; split <;> omega
                refine ⟨by omega, fun w hw => (hwo w hw).mono hL, htot.mono (by split <;> omega), fun h => ?_⟩
                have e1 : lengthOf b = 1 := by unfold lengthOf; rw [if_pos h]
                rw [if_pos h] at htot
                have := mb h
                exact ⟨by omega, fun w hw => e1 ▸ hwo w hw, htot⟩
end
end WS
set_option maxRecDepth 100000
set_option maxHeartbeats 8000000
namespace WS
open PySem L2
abbrev WSum := List Str × Str
/-- a sum at t: a tuple of its addends' tuple and its total -/
def SumAt (H : Hp) (t : Addr) (s : WSum) : Prop := ∃ u, H t = some (.tup [.ref u, .str s.2]) ∧ H u = some (.tup (s.1.map V.str))
structure SumsAt (H : Hp) (ts : List Addr) (ss : List WSum) : Prop where
  len : ts.length = ss.length
  get : ∀ (i : Nat) (t : Addr) (s : WSum), ts[i]? = some t → ss[i]? = some s → SumAt H t s
theorem SumAt.same {H H' : Hp} {t : Addr} {s : WSum} (e : Same H H') (h : SumAt H t s) : SumAt H' t s := by
  obtain ⟨u, h1, h2⟩ := h
  exact ⟨u, e _ _ h1, e _ _ h2⟩
theorem SumsAt.same {H H' : Hp} {ts : List Addr} {ss : List WSum} (e : Same H H') (h : SumsAt H ts ss) : SumsAt H' ts ss := ⟨h.len, fun i t s a b => (h.get i t s a b).same e⟩
theorem tup_ne {K : PySem.W.Frag} {H : Hp} {d a u : Addr} {ns : List Int} {xs : List V} (D : Dice K H d a ns) (h : H u = some (.tup xs)) : u ≠ d := by
  obtain ⟨i, m, c, hd, _⟩ := D.ex
  exact ne_of h hd (fun z => by cases z)
theorem SumAt.but {K : PySem.W.Frag} {H H' : Hp} {d a t : Addr} {ns : List Int} {s : WSum} (D : Dice K H d a ns) (e : But d H H') (h : SumAt H t s) : SumAt H' t s := by
  obtain ⟨u, h1, h2⟩ := h
  exact ⟨u, e _ _ (tup_ne D h1) h1, e _ _ (tup_ne D h2) h2⟩
theorem SumsAt.but {K : PySem.W.Frag} {H H' : Hp} {d a : Addr} {ns : List Int} {ts : List Addr} {ss : List WSum} (D : Dice K H d a ns) (e : But d H H') (h : SumsAt H ts ss) : SumsAt H' ts ss := ⟨h.len, fun i t s a b => (h.get i t s a b).but D e⟩
theorem SumAt.mut {H H' : Hp} {t p : Addr} {s : WSum} {o : HO} (h : SumAt H t s) (hp : ∃ xs, H p = some (.lst xs)) : SumAt (upd H p o) t s := by
  obtain ⟨u, h1, h2⟩ := h
  obtain ⟨xs, hp⟩ := hp
  exact ⟨u, (upd_ne (ne_of h1 hp (fun z => by cases z))).trans h1, (upd_ne (ne_of h2 hp (fun z => by cases z))).trans h2⟩
theorem SumsAt.mut {H : Hp} {p : Addr} {ts : List Addr} {ss : List WSum} {o : HO} (h : SumsAt H ts ss) (hp : ∃ xs, H p = some (.lst xs)) : SumsAt (upd H p o) ts ss := ⟨h.len, fun i t s a b => (h.get i t s a b).mut (H' := H) hp⟩
theorem SumsAt.snoc {H : Hp} {ts : List Addr} {ss : List WSum} {t : Addr} {s : WSum} (h : SumsAt H ts ss) (ht : SumAt H t s) : SumsAt H (ts ++ [t]) (ss ++ [s]) := by
  refine ⟨by rw [List.length_append, List.length_append, h.len] <;> rfl, fun i t' s' a b => ?_⟩
  by_cases hi : i < ts.length
  · rw [List.getElem?_append_left hi] at a
    rw [List.getElem?_append_left (h.len ▸ hi)] at b
    exact h.get i t' s' a b
  · rw [List.getElem?_append_right (by omega)] at a
    rw [List.getElem?_append_right (by have := h.len; omega)] at b
    rw [← h.len] at b
    rcases hj : i - ts.length with _ | j
    · rw [hj] at a b
      have e1 : t = t' := Option.some.inj a
      have e2 : s = s' := Option.some.inj b
      rw [← e1, ← e2]; exact ht
    · rw [hj] at a; simp at a
theorem SumsAt.append {H : Hp} {ts ts' : List Addr} {ss ss' : List WSum} (h : SumsAt H ts ss) (h' : SumsAt H ts' ss') : SumsAt H (ts ++ ts') (ss ++ ss') := by
  refine ⟨by rw [List.length_append, List.length_append, h.len, h'.len], fun i t s a b => ?_⟩
  by_cases hi : i < ts.length
  · rw [List.getElem?_append_left hi] at a
    rw [List.getElem?_append_left (h.len ▸ hi)] at b
    exact h.get i t s a b
  · rw [List.getElem?_append_right (by omega)] at a
    rw [List.getElem?_append_right (by have := h.len; omega)] at b
    rw [← h.len] at b
    exact h'.get _ t s a b
/-- a sheet that is drawn -/
structure SheetOk (b : Int) (ss : List WSum) : Prop where
  b2 : 2 ≤ b
  b12 : b ≤ 12
  few : 1 ≤ ss.length ∧ ss.length ≤ 3
  cs : ∃ cs, NamesOk cs b ∧ ∀ s ∈ ss, SumOk cs b s.1 s.2
  big : 6 < b → ss.length = 1
theorem two_at {x y : V} (c : Bool) : atI [x, y] (if c = true then 1 else 0) = some (if c = true then y else x) := by
  cases c <;> rfl
theorem four_at {j : Nat} (h : j < 4) : ∃ s : Int, ([V.int 0, .int 0, .int 1, .int 2])[j]? = some (.int s) ∧ 0 ≤ s ∧ s ≤ 2 := by
  rcases j with _ | _ | _ | _ | j
  · exact ⟨0, rfl, by decide⟩
  · exact ⟨0, rfl, by decide⟩
  · exact ⟨1, rfl, by decide⟩
  · exact ⟨2, rfl, by decide⟩
  · omega
/-- _law_sheet(d) -/
def spSheet (K : PySem.W.Frag) : Sp := fun vs H Q _ => ∃ (d a : Addr) (ns : List Int), vs = [.ref d] ∧ Dice K H d a ns ∧
  ∀ (t sl : Addr) (ts : List Addr) (H' : Hp) (b : Int) (ss : List WSum), H t = none → H sl = none → Dice K H' d a ns → But d H H' → H' t = some (.tup [.int b, .ref sl]) → H' sl = some (.lst (ts.map V.ref)) → SumsAt H' ts ss → SheetOk b ss → Q (.ref t) H'
section
variable {P : Program} {w : World} {K : PySem.W.Frag} {mg : Str → Option Value} {base : Heap}
theorem scSheet : FnScope ["_law_d", "_law_base", "_law_names_here", "_law_sums", "_law_k"] ["_law_d"] (defScope sSheet) := ⟨rfl, rfl, rfl, by decide +kernel, rfl, by decide +kernel, by decide +kernel⟩
theorem ok_sheet {f fN fM fS : Addr} {fd fdN fdM fdS : FuncData} (F : Fun K "_law_sheet" "_law_sheet" sSheet f fd) (z_range : mg "range" = none) (z_int : mg "int" = none)
    (S__law_next : Site K mg "_law_next" fN fdN ["_law_dice_here", "_law_many"]) (G__law_next : FnOk P w K mg base CX0 1 fN fdN ["_law_dice_here", "_law_many"] (spNext K))
    (S__law_names : Site K mg "_law_names" fM fdM ["_law_d", "_law_base"]) (G__law_names : FnOk P w K mg base CX0 2 fM fdM ["_law_d", "_law_base"] (spNames K))
    (S__law_sum : Site K mg "_law_sum" fS fdS ["_law_d", "_law_base", "_law_names_here"]) (G__law_sum : FnOk P w K mg base CX0 2 fS fdS ["_law_d", "_law_base", "_law_names_here"] (spSum K)) :
    FnOk P w K mg base CX0 3 f fd ["_law_d"] (spSheet K) := by
  refine F.ok scSheet (fun vs H Q E h => ?_) (fun cdv A outer s H vs Q E hr h => ?_)
  · obtain ⟨d, a, ns, rfl, _⟩ := h
    rfl
  · obtain ⟨d, a, ns, rfl, D, k⟩ := h
    have nd := scSheet.nd
    have hr__law_next : Room 1 _ := hr.mono (by decide)
    have hr__law_names := hr
    have hr__law_sum := hr
    refine ⟨_, (pss_cons (ps_set (i := 1) nd rfl (.inr rfl) (pe_ix (r := rIxL K) ix_list (pe_lst (pa_cons (pe_op op_add pe_int (pe_call G__law_next hr__law_next (by rfl) S__law_next.g S__law_next.k S__law_next.b .nil pass0 (pa_cons (pv 0) (pa_cons pe_int pa_nil)))) (pa_cons (pe_op op_add pe_int (pe_call G__law_next hr__law_next (by rfl) S__law_next.g S__law_next.k S__law_next.b .nil pass0 (pa_cons (pv 0) (pa_cons pe_int pa_nil)))) pa_nil))) (pe_callTy call_int1 (by rfl) z_int (by decide +kernel) (pa_cons (pe_cmpR op_eq (pe_call G__law_next hr__law_next (by rfl) S__law_next.g S__law_next.k S__law_next.b .nil pass0 (pa_cons (pv 0) (pa_cons pe_int pa_nil))) pe_int (nomark _)) pa_nil)) (fun _ _ => rfl)))
      (pss_cons (ps_set (i := 2) nd rfl (.inr rfl) (pe_call G__law_names hr__law_names (by rfl) S__law_names.g S__law_names.k S__law_names.b .nil pass0 (pa_cons (pv 0) (pa_cons (pv 1) pa_nil))))
      (pss_cons (ps_set (i := 3) nd rfl (.inl rfl) (pe_lst (pa_cons (pe_call G__law_sum hr__law_sum (by rfl) S__law_sum.g S__law_sum.k S__law_sum.b .nil pass0 (pa_cons (pv 0) (pa_cons (pv 1) (pa_cons (pv 2) pa_nil)))) pa_nil)))
      (Evl.pss_cut (ps_if (pt_cmpR op_lt (pv 1) pe_int (nomark _)) (pss_one (ps_set (i := 3) nd rfl (.inl rfl) (pe_op op_cat (pv 3) (pe_lc (own := [("_law_k", 4)]) (g := (gName 4)) (tt := tYes) rfl nd (pi_range1 (by rfl) z_range (pa_cons (pe_ix (r := rIxL K) ix_list (pe_lst (pa_cons pe_int (pa_cons pe_int (pa_cons pe_int (pa_cons pe_int pa_nil))))) (pe_call G__law_next hr__law_next (by rfl) S__law_next.g S__law_next.k S__law_next.b .nil pass0 (pa_cons (pv 0) (pa_cons pe_int pa_nil))) (fun _ _ => rfl)) pa_nil)) (blkOk_by (own := [("_law_k", 4)]) (N := ["_law_d", "_law_base", "_law_names_here", "_law_sums", "_law_k"]) (sc := defScope sSheet) (by decide +kernel)) (fun _ _ _ _ _ => (pg_name (i := 4) nd rfl (.inl rfl))) (fun _ _ _ _ _ => pts_nil) (fun _ _ _ _ _ => (pe_call G__law_sum hr__law_sum (by rfl) S__law_sum.g S__law_sum.k S__law_sum.b .nil pass0 (pa_cons (pv 0) (pa_cons (pv 1) (pa_cons (pv 2) pa_nil))))))))) pss_nil)
      (pss_one (ps_ret (pe_tup (pa_cons (pv 1) (pa_cons (pv 3) pa_nil))))))))), ?_⟩
    refine ⟨_, rfl, d, a, ns, 5, rfl, D, by decide, by decide, fun v1 H1 v10 v11 D1 b1 _ => ?_⟩
    refine ⟨_, _, rfl, rfl, _, rfl, d, a, ns, 6, rfl, D1, by decide, by decide, fun v2 H2 v20 v21 D2 b2 _ => ?_⟩
    refine ⟨_, _, rfl, rfl, by show 2 ≤ sizeLine; decide, fun q hq => ?_⟩
    refine ⟨_, rfl, d, a, ns, 6, rfl, D2.new hq, by decide, by decide, fun v3 H3 v30 v31 D3 b3 e3 => ?_⟩
    refine ⟨rfl, .inr ⟨_, rfl, q, _, _, _, rfl, rfl, SqL.of ((e3 q (D2.neOf hq)).trans upd_same), two_at _, ?_⟩⟩
    obtain ⟨b, hb, b2', b12⟩ : ∃ b : Int, (if decide (V.int v3 = V.int 5) = true then V.int (7 + v2) else V.int (2 + v1)) = V.int b ∧ 2 ≤ b ∧ b ≤ 12 := by
      split
      · exact ⟨_, rfl, by omega, by omega⟩
      · exact ⟨_, rfl, by omega, by omega⟩
    rw [hb]
    have b4 : But d H H3 := ((b1.trans b2).trans (But.new hq)).trans b3
    refine ⟨_, rfl, _, rfl, d, a, ns, b, rfl, D3, b2', b12, fun l H4 cs hl0 D4 b5 hl N => ?_⟩
    refine ⟨_, rfl, _, rfl, _, rfl, d, a, ns, b, l, cs, rfl, D4, b2', b12, hl, N.len, fun t1 u1 H5 ws1 tot1 ht1 hu1 D5 b6 h51 h52 ok1 => ?_⟩
    have b7 : But d H H5 := (b4.trans b5).trans b6
    have hld := names_off D4 hl
    refine ⟨by show 1 ≤ sizeLine; decide, fun sl hsl => ?_⟩
    have hsl0 : H sl = none := b7.free D5.ne hsl
    have hsld : sl ≠ d := D5.neOf hsl
    refine ⟨fun σ H6 => ∃ (sl' : Addr) (ts : List Addr) (ss : List WSum), σ = [some (.ref d), some (.int b), some (.ref l), some (.ref sl'), none] ∧ H sl' = none ∧ Dice K H6 d a ns ∧ But d H H6 ∧ H6 sl' = some (.lst (ts.map V.ref)) ∧ SumsAt H6 ts ss ∧ SheetOk b ss, ?_, ?_⟩
    · have sat1 : SumsAt (upd H5 sl (.lst [.ref t1])) [t1] [(ws1, tot1)] := ⟨rfl, fun i t s h1 h2 => by
        rcases i with _ | i
        · have e1 : t1 = t := Option.some.inj h1
          have e2 : (ws1, tot1) = s := Option.some.inj h2
          rw [← e1, ← e2]
          exact SumAt.same (Same.new hsl) ⟨u1, h51, h52⟩
        · simp at h1⟩
      refine ⟨_, rfl, _, _, rfl, rfl, _, rfl, ite2 (fun hb7 => ?_) (fun hb7 => ?_)⟩
      · have hb7' : b < 7 := of_decide_eq_true hb7
        refine ⟨_, rfl, by show 4 ≤ sizeLine; decide, fun q2 hq2 => ?_⟩
        have D6 : Dice K (upd H5 sl (.lst [.ref t1])) d a ns := D5.new hsl
        refine ⟨_, rfl, d, a, ns, 4, rfl, D6.new hq2, by decide, by decide, fun v4 H7 v40 v41 D7 b8 e8 => ?_⟩
        obtain ⟨mm, hmm, m0, m2⟩ := four_at (j := v4.toNat) (by omega)
        refine ⟨q2, _, v4, _, rfl, rfl, SqL.of ((e8 q2 (D6.neOf hq2)).trans upd_same), at_of (j := v4.toNat) (by omega) hmm, mm, rfl, by omega, by omega, fun D' hD' => ?_⟩
        have b9 : But d (upd H5 sl (.lst [.ref t1])) H7 := (But.new hq2).trans b8
        have b9' : But d H H7 := (b7.trans (But.new hsl)).trans b9
        have hD0 : H D' = none := b9'.free D7.ne hD'
        have hsl7 : H7 sl = some (.lst [.ref t1]) := b9 sl _ hsld upd_same
        have hslD : sl ≠ D' := ne_of_none hsl7 hD'
        refine lc_range (lo := 0) (n := mm.toNat) (fun j H8 => ∃ (ts : List Addr) (ss : List WSum), H8 D' = some (.lst (ts.map V.ref)) ∧ SumsAt H8 ts ss ∧ ss.length = j ∧ (∀ s ∈ ss, SumOk cs b s.1 s.2) ∧ Dice K H8 d a ns ∧ But d H H8 ∧ But d H7 H8)
          ⟨[], [], upd_same, ⟨rfl, fun i t s h => by simp at h⟩, rfl, (fun s hs => nomatch hs), D7.new hD', b9'.trans (But.new hD'), But.new hD'⟩ ?_ ?_
        · rintro j H8 hj ⟨ts, ss, hx, hsa, hsn, hso, D8, b10, b10'⟩
          have hl8 : H8 l = some (.lst (cs.map sg)) := b10' l _ hld (b9 l _ hld (by
            have : l ≠ sl := ne_of_none (b6 l _ hld hl) hsl
            rw [upd_ne this]; exact b6 l _ hld hl))
          refine ⟨rfl, _, rfl, _, rfl, _, rfl, d, a, ns, b, l, cs, rfl, D8, b2', b12, hl8, N.len, fun t2 u2 H9 ws2 tot2 ht2 hu2 D9 b11 h91 h92 ok2 => ?_⟩
          have hDd : D' ≠ d := D7.neOf hD'
          refine ⟨ts.map V.ref, b11 D' _ hDd hx, by rw [List.length_map, hsa.len]; exact line_lt (by omega), ts ++ [t2], ss ++ [(ws2, tot2)], ?_, ?_, ?_, ?_, D.mut (b10.trans b11) D9 hD0, (b10.trans b11).mut hD0, (b10'.trans b11).mut hD'⟩
          · rw [upd_same, List.map_append] <;> rfl
          · exact ((hsa.but D8 b11).snoc ⟨u2, h91, h92⟩).mut ⟨_, b11 D' _ hDd hx⟩
          · rw [List.length_append, hsn] <;> rfl
          · intro s hs
            rcases List.mem_append.mp hs with hs | hs
            · exact hso s hs
            · have : s = (ws2, tot2) := by simpa using hs
              rw [this]; exact ok2
        · rintro H8 ⟨ts, ss, hx, hsa, hsn, hso, D8, b10, b10'⟩
          have hsl8 : H8 sl = some (.lst [.ref t1]) := b10' sl _ hsld hsl7
          refine ⟨_, _, _, _, rfl, rfl, hsl8, hx, ?_, fun p hp => ?_⟩
          · have := hsa.len
            rw [List.length_map]
            exact line_of (by show 1 + ts.length ≤ 1000000; omega)
          · refine ⟨p, t1 :: ts, (ws1, tot1) :: ss, rfl, b10.free D8.ne hp, D8.new hp, b10.trans (But.new hp), upd_same, ?_, ?_⟩
            · have z : SumsAt H8 [t1] [(ws1, tot1)] := (sat1.but D6 (b9)).but D7 b10'
              exact SumsAt.same (Same.new hp) (SumsAt.append z hsa)
            · exact ⟨b2', b12, by rw [List.length_cons]; omega, ⟨cs, N, fun s hs => by
                rcases List.mem_cons.mp hs with rfl | hs
                · exact ok1
                · exact hso s hs⟩, fun h => by omega⟩
      · exact ⟨sl, [t1], [(ws1, tot1)], rfl, hsl0, D5.new hsl, b7.trans (But.new hsl), upd_same, sat1, ⟨b2', b12, ⟨Nat.le_refl _, by show 1 ≤ 3; omega⟩, ⟨cs, N, fun s hs => by
          have : s = (ws1, tot1) := by simpa using hs
          rw [this]; exact ok1⟩, fun _ => rfl⟩⟩
    · rintro σ H6 ⟨sl', ts, ss, rfl, hsl', D6, b6, hs6, hsa, ok⟩
      refine ⟨_, rfl, _, rfl, by show 2 ≤ sizeLine; decide, fun t ht => ?_⟩
      exact k t sl' ts _ b ss (b6.free D6.ne ht) hsl' (D6.new ht) (b6.trans (But.new ht)) upd_same ((upd_ne (ne_of_none hs6 ht)).trans hs6) (hsa.same (Same.new ht)) ok
end
end WS
set_option maxRecDepth 100000
set_option maxHeartbeats 8000000
namespace SetT
open PySem PySem.Spec PyProof.Rows
/-- the signs of a text that are met first, in their order -/
def addS (xs : List Str) (x : Str) : List Str := if xs.any (· == x) = true then xs else xs ++ [x]
def sign (c : Nat) : Str := ⟨#[c]⟩
def metS (cs : List Nat) : List Str := cs.foldl (fun a c => addS a (sign c)) []
theorem metS_snoc (cs : List Nat) (c : Nat) : metS (cs ++ [c]) = addS (metS cs) (sign c) := by
  unfold metS; rw [List.foldl_append] <;> rfl
theorem addS_le (xs : List Str) (x : Str) : (addS xs x).length ≤ xs.length + 1 := by
  unfold addS; split
  · omega
  · rw [List.length_append] <;> exact Nat.le_refl _
theorem metS_le (cs : List Nat) : (metS cs).length ≤ cs.length := by
  have : ∀ (r : List Nat) (a : List Str), (r.foldl (fun a c => addS a (sign c)) a).length ≤ a.length + r.length := by
    intro r
    induction r with
    | nil => intro a; exact Nat.le_refl _
    | cons c r ih =>
      intro a
      have h1 := ih (addS a (sign c))
      have h2 := addS_le a (sign c)
      rw [List.foldl_cons, List.length_cons]
      omega
  have h := this cs []
  simpa [metS] using h
theorem addS_any (xs : List Str) (v k : Str) : (addS xs v).any (· == k) = (xs.any (· == k) || decide (k = v)) := by
  unfold addS
  by_cases h : xs.any (· == v) = true
  · rw [if_pos h]
    by_cases e : k = v
    · subst e; rw [h]; simp
    · simp [e]
  · rw [if_neg h, List.any_append]
    by_cases e : k = v
    · subst e; simp
    · have hb : (v == k) = false := by simpa [beq_iff_eq] using (fun h' : v = k => e h'.symm)
      simp [hb, e]
theorem addS_len (xs : List Str) (v : Str) : (addS xs v).length = if xs.any (· == v) then xs.length else xs.length + 1 := by
  unfold addS; split <;> simp
section
variable {prog : Program} {w : World} {A : Around} {R : Result → Shared → Prop} {I : Addr} {fp wr : List Addr} {G : Array GenState → Array GenState → Prop} {n : Nat} {St : Nat → Shared → Prop}
theorem loopT {x : Str} (W : WalksS prog w A.in1 I fp wr G n (SignAt x) St) (S : Addr) (hSf : S ∉ fp) (hn : x.cps.size = n) (hb : n + 1 < scanBound) :
    ∀ (k i : Nat) (s : Shared), n - i = k → i ≤ n → St i s →
      s.heap.SetOf (PySem.strKind prog w) S (fun k' => (metS (x.cps.toList.take i)).any (· == k')) (metS (x.cps.toList.take i)).length →
      (∀ s', Moved (S :: wr) G s s' → s'.heap.SetOf (PySem.strKind prog w) S (fun k' => (metS x.cps.toList).any (· == k')) (metS x.cps.toList).length → R (.ok (.ret .none)) s') →
      codeAny (model prog w) A (.builtin "set.update.loop" ⟨[.ref S, .ref I], []⟩) R s := by
  have hSw : S ∉ wr := fun h => hSf (W.sub _ h)
  have hsub : ∀ b ∈ wr, b ∈ S :: wr := fun b hb => List.mem_cons_of_mem _ hb
  intro k
  induction k with
  | zero =>
    intro i s hk hi hst hS hR
    have hin : i = n := by omega
    subst hin
    refine codeAny_builtin PyProof.Rows.F.entry_set_update_loop ?_
    rw [Around.under_plainId PyProof.Rows.F.plain_set_update_loop _]
    show wpAny _ A.in1 (pyNext (.ref I) >>= _) _ _ s
    refine wpAny_bind (W.done s _ _ hst fun s' hm => ?_)
    show wpAny _ A.in1 (ret Value.none) _ _ s'
    have e : x.cps.toList.take i = x.cps.toList := List.take_of_length_le (by rw [Array.length_toList, hn] <;> exact Nat.le_refl _)
    rw [e] at hS
    exact wpAny_pure (hR s' (hm.mono hsub) (by
      obtain ⟨o, es, ep, t, ho, rest⟩ := hS
      exact ⟨o, es, ep, t, hm.heap S _ hSw ho, rest⟩))
  | succ k ih =>
    intro i s hk hi hst hS hR
    have hlt : i < n := by omega
    refine codeAny_builtin PyProof.Rows.F.entry_set_update_loop ?_
    rw [Around.under_plainId PyProof.Rows.F.plain_set_update_loop _]
    show wpAny _ A.in1 (pyNext (.ref I) >>= _) _ _ s
    refine wpAny_bind (W.item i s _ _ hlt hst fun v s' hP hst' hm => ?_)
    obtain ⟨c, t, hc, rfl⟩ := hP
    have hcl : x.cps.toList.take (i + 1) = x.cps.toList.take i ++ [c] := by
      rw [List.take_add_one, Array.getElem?_toList, hc] <;> rfl
    have hS' : s'.heap.SetOf (PySem.strKind prog w) S (fun k' => (metS (x.cps.toList.take i)).any (· == k')) (metS (x.cps.toList.take i)).length := by
      obtain ⟨o, es, ep, tb, ho, rest⟩ := hS
      exact ⟨o, es, ep, tb, hm.heap S _ hSw ho, rest⟩
    show wpAny _ A.in1 (holding [Value.str (sign c) t] (setAdd S (.str (sign c) t)) >>= _) _ _ s'
    refine wpAny_bind (wpAny_holding ?_)
    unfold setAdd
    refine wpAny_holding ?_
    refine wpAny_bind ((PySem.strKind prog w).pyHash (k := sign c) (strKind_is _ _ _ _) ?_)
    have hroom : (metS (x.cps.toList.take i)).length + 1 < scanBound := by
      have h1 := metS_le (x.cps.toList.take i)
      rw [List.length_take] at h1
      omega
    refine wpAny_setAddHashed_of (knd := PySem.strKind prog w) (s := { s' with toks := s'.toks + 1 }) (strKind_is _ _ _ _) rfl hS' hroom fun h' hsb hS2 => ?_
    have hSi : h'.SetOf (PySem.strKind prog w) S (fun k' => (metS (x.cps.toList.take (i + 1))).any (· == k')) (metS (x.cps.toList.take (i + 1))).length :=
      SetOf_congr hS2 (fun k' => by rw [hcl, metS_snoc, addS_any]) (by rw [hcl, metS_snoc, addS_len])
    refine wpAny_pure ⟨plainId_quiet PyProof.Rows.F.plain_set_update_loop _, ih (i + 1) _ (by omega) hlt (W.frame _ s' _ _ hst' (Nat.le_succ _) fun b hb o e => ?_) hSi fun s'' hm'' hS'' => ?_⟩
    · rw [hsb.2 b (fun h : b = S => hSf (by rw [← h]; exact hb))]; exact e
    · refine hR s'' (Moved.trans W.gtrans ((hm.mono hsub).then_heap (Nat.le_succ _) fun b o hb e => ?_) hm'') hS''
      rw [hsb.2 b (fun h : b = S => hb (by rw [h]; exact List.mem_cons_self))]; exact e
end
section
variable {prog : Program} {w : World} {A : Around} {E : Value → Shared → Prop} {s : Shared}
theorem call_set_text {x : Str} {tx : Tok} {Q : Value → Shared → Prop} (hh : A.handled = none) (hb : x.cps.size + 1 < scanBound)
    (h : ∀ (h' : Heap) (tk : Nat), h'.SetOf (PySem.strKind prog w) s.heap.objs.size (fun k' => (metS x.cps.toList).any (· == k')) (metS x.cps.toList).length →
      (∀ b o, b < s.heap.objs.size → s.heap.get? b = some o → h'.get? b = some o) → Q (.ref s.heap.objs.size) { s with heap := h', toks := tk }) :
    wpAny (model prog w) A (call (.type "set") [.str x tx]) Q E s := by
  obtain ⟨c, tl, hmro⟩ := PySem.F.called_set.mro
  have hmade := PySem.F.called_set.made
  have hsub := PySem.F.called_set.sub
  refine wpAny_call (codeAny_of_tree ?_)
  show wpAny _ _ (callAny (.type "set") _) _ _ _
  refine wpAny_pure ⟨Code.quiet_builtin _ (by decide +kernel), codeAny_builtin PySem.F.entry_type_call ?_⟩
  rw [Around.under_plain (weight_type_call_type "set" [.str x tx] []) rfl]
  have h1 := PySem.F.called_set.notType
  have h2 := PySem.F.called_set.canCreate
  have hct := PySem.F.typeCall_set_1 (.str x tx)
  repeat (any_goals (first | assumption | wp_step))
  refine codeAny_mono (code_set_new_1 (.str x tx) (E := E) (Q₁ := fun obj s₁ => ∃ led : Bool, obj = .ref s.heap.objs.size ∧ s₁ = { s with heap := s.heap.push { cls := .type "set", dict := none, data := .set #[] 0 (.fresh 0 0 led) } }) fun led => ⟨led, rfl, rfl⟩) fun r s₁ hr => ?_
  cases r with
  | error e => exact hr
  | ok fl =>
    cases fl with
    | ret obj =>
      obtain ⟨led, rfl, rfl⟩ := hr
      have hS : (s.heap.push { cls := .type "set", dict := none, data := .set #[] 0 (.fresh 0 0 led) }).get? s.heap.objs.size = some { cls := .type "set", dict := none, data := .set #[] 0 (.fresh 0 0 led) } := Heap.get?_push_size _ rfl
      have hT : Shared.TypeIs { s with heap := s.heap.push { cls := .type "set", dict := none, data := .set #[] 0 (.fresh 0 0 led) } } (.ref s.heap.objs.size) "set" := ⟨_, hS, rfl⟩
      have hli := PySem.F.called_set.init.lookup
      have hbi := PySem.F.called_set.init.bind (.ref s.heap.objs.size)
      repeat (any_goals (first | assumption | wp_step))
      refine codeAny_mono (codeAny_call_builtin (R := wants (fun r s₂ => r = .none ∧ ∃ h' tk, s₂ = { s with heap := h', toks := tk } ∧
          h'.SetOf (PySem.strKind prog w) s.heap.objs.size (fun k' => (metS x.cps.toList).any (· == k')) (metS x.cps.toList).length ∧
          (∀ b o, b < s.heap.objs.size → s.heap.get? b = some o → h'.get? b = some o)) E) PySem.F.called_set.init.plain PySem.F.entry_set_init (check_set_init_1 hT ?_)) fun r₂ s₂ hr₂ => ?_
      · have hsls := PySem.F.sub_str_set
        have hslf := PySem.F.sub_str_frozenset
        have hne : (Value.type "str" == Value.type "dict") = false := by decide
        unfold Builtin.«set.__init__» noKeywords Builtin.Frozenset.updateFrom
        generalize hPI : pyIter = PI
        wp_walk
        subst hPI
        refine wpAny_pyIter_str fun o St W hst => ?_
        refine wpAny_bind (wpAny_runValue ?_)
        have hh3 : A.in1.in1.in1.handled = none := by simp [hh]
        have hSf : s.heap.objs.size ∉ [(s.heap.push { cls := .type "set", dict := none, data := .set #[] 0 (.fresh 0 0 led) }).objs.size] := by
          rw [Heap.size_push]; simp only [List.mem_singleton]
          exact Nat.ne_of_lt (Nat.lt_succ_self _)
        refine loopT (W _ hh3).toS s.heap.objs.size
          hSf rfl hb (x.cps.size - 0) 0 _ (by omega) (Nat.zero_le _) hst ?hS0 ?hR
        case hS0 =>
          have hget : ((s.heap.push { cls := .type "set", dict := none, data := .set #[] 0 (.fresh 0 0 led) }).push o).get? s.heap.objs.size
              = some { cls := .type "set", dict := none, data := .set #[] 0 (.fresh 0 0 led) } := Heap.get?_push_of_some _ hS
          exact PyProof.Rows.SetOf_congr ((PyProof.Rows.setObjOf_fresh (knd := PySem.strKind prog w) led).setOf hget (by unfold scanBound; omega)) (fun _ => rfl) rfl
        case hR =>
          intro s' hm hS'
          obtain ⟨h', g', d', tk', os'⟩ := s'
          have eg : g' = s.gens := hm.gens
          have ed : d' = s.drawn := hm.drawn
          have eo : os' = s.os := hm.os
          subst eg; subst ed; subst eo
          show wpAny _ _ _ _ _ _
          refine wpAny_pure ?_
          show wpAny _ _ (ret Value.none) _ _ _
          refine wpAny_pure ⟨rfl, h', tk', rfl, hS', fun b o' hb e => ?_⟩
          have hb1 : b ≠ s.heap.objs.size := Nat.ne_of_lt hb
          have hb2 : b ≠ (s.heap.push { cls := .type "set", dict := none, data := .set #[] 0 (.fresh 0 0 led) }).objs.size := by
            rw [Heap.size_push]; exact Nat.ne_of_lt (Nat.lt_succ_of_lt hb)
          exact hm.heap b o' (by simp only [List.mem_cons, List.mem_singleton, List.not_mem_nil, or_false, not_or]; exact ⟨hb1, hb2⟩) (Heap.get?_push_of_some _ (Heap.get?_push_of_some _ e))
      · cases r₂ with
        | error e => exact hr₂
        | ok fl₂ =>
          cases fl₂ with
          | ret r =>
            obtain ⟨rfl, h', tk, rfl, hS', hk'⟩ := hr₂
            repeat (any_goals (first | assumption | wp_step))
            exact h _ _ hS' hk'
          | _ => exact hr₂.elim
    | _ => exact hr.elim
end
end SetT
set_option maxRecDepth 100000
set_option maxHeartbeats 4000000
namespace SetT
open PySem PySem.Spec PyProof.Rows L2
theorem nodup_le {α : Type} [DecidableEq α] : ∀ {l m : List α}, l.Nodup → (∀ x ∈ l, x ∈ m) → l.length ≤ m.length
  | [], _, _, _ => Nat.zero_le _
  | a :: r, m, hn, hs => by
    have ha : a ∈ m := hs a List.mem_cons_self
    have hr := nodup_le (l := r) (m := m.erase a) (List.nodup_cons.mp hn).2 fun x hx => by
      have hxa : x ≠ a := fun e => (List.nodup_cons.mp hn).1 (e ▸ hx)
      exact (List.mem_erase_of_ne hxa).mpr (hs x (List.mem_cons_of_mem _ hx))
    rw [List.length_erase_of_mem ha] at hr
    have := List.length_pos_of_mem ha
    rw [List.length_cons]
    omega
theorem any_mem {xs : List Str} {x : Str} : xs.any (· == x) = true ↔ x ∈ xs := by
  rw [List.any_eq_true]
  constructor
  · rintro ⟨y, hy, e⟩
    have : y = x := eq_of_beq e
    exact this ▸ hy
  · intro h
    exact ⟨x, h, beq_self_eq_true x⟩
theorem addS_nodup {xs : List Str} {x : Str} (h : xs.Nodup) : (addS xs x).Nodup := by
  unfold addS
  split
  · exact h
  · rename_i hx
    rw [List.nodup_append]
    refine ⟨h, by simp, fun a ha b hb e => hx (any_mem.mpr ?_)⟩
    have : b = x := by simpa using hb
    rw [← this, ← e]; exact ha
theorem addS_mem {xs : List Str} {x y : Str} (h : y ∈ addS xs x) : y ∈ xs ∨ y = x := by
  unfold addS at h
  split at h
  · exact .inl h
  · rcases List.mem_append.mp h with h | h
    · exact .inl h
    · exact .inr (by simpa using h)
theorem metS_ok : ∀ (cs : List Nat), (metS cs).Nodup ∧ ∀ y ∈ metS cs, ∃ c ∈ cs, y = sign c := by
  have : ∀ (r : List Nat) (a : List Str), a.Nodup → (r.foldl (fun a c => addS a (sign c)) a).Nodup ∧ ∀ y ∈ r.foldl (fun a c => addS a (sign c)) a, y ∈ a ∨ ∃ c ∈ r, y = sign c := by
    intro r
    induction r with
    | nil => intro a h; exact ⟨h, fun y hy => .inl hy⟩
    | cons c r ih =>
      intro a h
      obtain ⟨h1, h2⟩ := ih (addS a (sign c)) (addS_nodup h)
      refine ⟨h1, fun y hy => ?_⟩
      rcases h2 y hy with h3 | ⟨d, hd, e⟩
      · rcases addS_mem h3 with h4 | h4
        · exact .inl h4
        · exact .inr ⟨c, List.mem_cons_self, h4⟩
      · exact .inr ⟨d, List.mem_cons_of_mem _ hd, e⟩
  intro cs
  obtain ⟨h1, h2⟩ := this cs [] List.nodup_nil
  refine ⟨h1, fun y hy => ?_⟩
  rcases h2 y hy with h | h
  · cases h
  · exact h
/-- a text of letters of cs has at most as many unlike signs -/
theorem metS_few {xs cs : List Nat} (h : ∀ c ∈ xs, c ∈ cs) : (metS xs).length ≤ cs.length := by
  obtain ⟨h1, h2⟩ := metS_ok xs
  have := nodup_le (m := cs.map sign) h1 fun y hy => by
    obtain ⟨c, hc, e⟩ := h2 y hy
    exact List.mem_map.mpr ⟨c, h c hc, e.symm⟩
  rwa [List.length_map] at this
/-- len(set(e)), e a text -/
def tLenSetT (ta : TE) : TE := fun σ H Q => ta σ H fun x H1 => ∃ z : Str, x = .str z ∧ z.length ≤ 4000 ∧ Q (.int ((metS z.cps.toList).length : Nat)) H1
theorem pe_lenSetT {X : Cx} {a : Expr} {ta : TE} {p p2 q pos : Pos} (hg : Gl X "len") (hm : X.mg "len" = none) (hg2 : Gl X "set") (hm2 : X.mg "set" = none) (ha : PE X a ta) (hc : X.calm = true := by rfl)
    (na : starEach [a] X.env = (false, eval a X.env) :: starEach [] X.env := by rfl) : PE X (.Call (.Name "len" p) [.Call (.Name "set" p2) [a] [] q] [] pos) (tLenSetT ta) := by
  refine ⟨fun pins s σ H Q I h => ?_⟩
  refine Call_ (ld_blt I hg hm boot_len ?_)
  refine PyProof.Rows.callWith_builtin1 (PyProof.Rows.args_cons ?_ rfl) rfl rfl
  refine Call_ (ld_blt I hg2 hm2 boot_set ?_)
  refine PyProof.Rows.callWith_type1 (PyProof.Rows.args_cons (thn (ha.run pins s σ H _ I h) fun v s1 ⟨x, H1, I1, r1, q1⟩ => PyProof.Rows.args_nil ?_) na) na rfl
  obtain ⟨z, rfl, hl, q1⟩ := q1
  obtain ⟨t, rfl⟩ := r1
  have hz : z.cps.size ≤ 4000 := hl
  refine call_set_text (I1.ok.hd hc) (by unfold scanBound; omega) fun h' tk hS hk => ?_
  refine PyProof.Rows.args_nil ?_
  obtain ⟨o, es, ep, t, ho, hex, hd, _, _, _, hf, hn⟩ := hS
  have I2 : Inv X pins σ H1 { s1 with heap := h', toks := tk } := I1.kept fun b o e => hk b o (Heap.lt_size e) e
  have hle := metS_le z.cps.toList
  have hz2 : z.cps.toList.length = z.cps.size := Array.length_toList
  have hz3 : ((metS z.cps.toList).length : Int) < 2 ^ 63 := by omega
  exact call_len_set ho hex hd hf (by rw [hn]; exact hz3) ⟨.int (metS z.cps.toList).length, H1, I2.tok _, ⟨_, by rw [hn]⟩, q1⟩
end SetT
set_option maxRecDepth 100000
set_option maxHeartbeats 8000000
namespace WS
open PySem L2
/-- whether a text is a word of a sheet -/
def isWord (z : Str) : Bool := decide (1 ≤ z.length) && decide (z.length ≤ 6) && z.cps.toList.all fun c => decide (c ∈ abc.cps.toList)
theorem isWord_iff {z : Str} : isWord z = true ↔ (1 ≤ z.length ∧ z.length ≤ 6) ∧ ∀ c ∈ z.cps.toList, c ∈ abc.cps.toList := by
  unfold isWord
  rw [Bool.and_eq_true, Bool.and_eq_true, decide_eq_true_iff, decide_eq_true_iff, List.all_eq_true]
  exact ⟨fun h => ⟨h.1, fun c hc => of_decide_eq_true (h.2 c hc)⟩, fun h => ⟨h.1, fun c hc => decide_eq_true (h.2 c hc)⟩⟩
theorem abc_mem {c : Nat} (h : 97 ≤ c ∧ c ≤ 122) : c ∈ abc.cps.toList := by
  have := abc_all (c - 97) (by omega)
  rw [show 97 + (c - 97) = c by omega] at this
  exact List.mem_of_getElem? this
theorem isWord_ok {cs : List Nat} {b : Int} {z : Str} (N : NamesOk cs b) (h : WordOk cs 6 z) : isWord z = true :=
  isWord_iff.mpr ⟨h.length, fun c hc => abc_mem (N.low c (h.mem c hc))⟩
def spIsWord : Sp := fun vs H Q _ => ∃ z : Str, vs = [.str z] ∧ z.length ≤ 1000 ∧ ∀ H', Same H H' → Q (.bl (isWord z)) H'
section
variable {P : Program} {w : World} {K : PySem.W.Frag} {mg : Str → Option Value} {base : Heap}
theorem scIsWord : FnScope ["text", "sign"] ["text"] (defScope sIsWord) := ⟨rfl, rfl, rfl, by decide +kernel, rfl, by decide +kernel, by decide +kernel⟩
theorem ok_isword {f : Addr} {fd : FuncData} {t1 t2 : Tok} (F : Fun K "is_word" "is_word" sIsWord f fd) (z_len : mg "len" = none) (z_all : mg "all" = none) (m_MOST_IN_WORD : mg "MOST_IN_WORD" = some (.int 6 t1)) (m_SMALL_LETTERS : mg "SMALL_LETTERS" = some (.str abc t2)) :
    FnOk P w K mg base CX0 1 f fd ["text"] spIsWord := by
  refine F.ok scIsWord (fun vs H Q E h => ?_) (fun cdv A outer s H vs Q E hr h => ?_)
  · obtain ⟨z, rfl, _⟩ := h
    rfl
  · obtain ⟨z, rfl, hz, k⟩ := h
    have nd := scIsWord.nd
    have hz' : z.cps.size ≤ 1000 := hz
    refine ⟨_, (pss_one (ps_ret (pe_and (pe_chain op_le op_le pe_int (pe_callB call_len_str (by rfl) z_len PySem.boot_len (pa_cons (pv 0) pa_nil)) (pe_glob (v := .int 6) (by rfl) m_MOST_IN_WORD ⟨_, rfl⟩)) (pe_one (pe_callB (cr_all rfl) (by rfl) z_all (by decide +kernel) (pa_cons (pe_lc (own := [("sign", 1)]) (g := (gName 1)) (tt := tYes) rfl nd (pi_str (pv 0)) (blkOk_by (own := [("sign", 1)]) (N := ["text", "sign"]) (sc := defScope sIsWord) (by decide +kernel)) (fun _ _ _ _ _ => (pg_name (i := 1) nd rfl (.inl rfl))) (fun _ _ _ _ _ => pts_nil) (fun _ _ _ _ _ => (pe_cmpR op_in_sign (pv 1) (pe_glob (v := .str abc) (by rfl) m_SMALL_LETTERS ⟨_, rfl⟩) (by rfl)))) pa_nil)))))), ?_⟩
    refine ⟨_, rfl, z, rfl, line_of (by omega), _, _, rfl, rfl, _, rfl, ite2 (fun h1 => ?_) (fun h1 => ?_)⟩
    · refine ⟨_, _, rfl, rfl, _, rfl, ite2 (fun h2 => ?_) (fun h2 => ?_)⟩
      · refine ⟨_, rfl, z, rfl, fun D hD => lc_it walk_str (fun i H2 => H2 = upd H D (.lst ((z.cps.toList.take i).map fun c => V.bl (decide (c ∈ abc.cps.toList))))) rfl (fun _ _ _ _ => trivial) ?_ ?_⟩
        · rintro i x H2 H3 hi rfl ⟨rfl, c, hc, rfl⟩
          refine ⟨rfl, _, rfl, c, abc, rfl, rfl, _, upd_same, ?_, ?_⟩
          · rw [List.length_map, List.length_take]
            exact line_lt (by omega)
          · rw [upd_upd, List.take_add_one, Array.getElem?_toList, hc, List.map_append] <;> rfl
        · rintro H2 rfl
          have e : z.cps.toList.take z.cps.size = z.cps.toList := List.take_of_length_le (by rw [Array.length_toList] <;> exact Nat.le_refl _)
          rw [e]
          refine ⟨D, z.cps.toList.map fun c => decide (c ∈ abc.cps.toList), rfl, SqL.of (by rw [upd_same, List.map_map] <;> rfl), ?_⟩
          have e2 : (z.cps.toList.map fun c => decide (c ∈ abc.cps.toList)).all id = isWord z := by
            have a1 : (1 ≤ z.length) := by have := of_decide_eq_true h1; omega
            have a2 : (z.length ≤ 6) := by have := of_decide_eq_true h2; omega
            unfold isWord
            rw [decide_eq_true a1, decide_eq_true a2, List.all_map]
            rfl
          rw [e2]
          exact k _ (Same.new hD)
      · have e2 : isWord z = false := by
          have a2 : ¬ (z.length ≤ 6) := fun a => h2 (decide_eq_true (by omega))
          unfold isWord
          rw [decide_eq_false a2]
          simp
        have := k _ (Same.refl H)
        rw [e2] at this
        exact this
    · have e2 : isWord z = false := by
        have a2 : ¬ (1 ≤ z.length) := fun a => h1 (decide_eq_true (by omega))
        unfold isWord
        rw [decide_eq_false a2]
        simp
      have := k _ (Same.refl H)
      rw [e2] at this
      exact ⟨_, rfl, iteF this⟩
end
end WS
set_option maxRecDepth 100000
set_option maxHeartbeats 4000000
namespace WS
open PySem L2 SetT
/-- all words of some sums, in the order in which they stand -/
def wordsOf (ss : List WSum) : List Str := (ss.map fun s => s.1 ++ [s.2]).flatten
def signsOf (ws : List Str) : List Nat := (ws.map (·.cps.toList)).flatten
/-- a sheet that can be -/
structure Valid (b : Int) (ss : List WSum) : Prop where
  b2 : 2 ≤ b
  b12 : b ≤ 12
  few : 1 ≤ ss.length ∧ ss.length ≤ 3
  many : ∀ s ∈ ss, 1 ≤ s.1.length ∧ s.1.length ≤ 4
  words : ∀ z ∈ wordsOf ss, isWord z = true
  lets : ((metS (signsOf (wordsOf ss))).length : Int) ≤ b ∧ (metS (signsOf (wordsOf ss))).length ≤ 8
theorem metS_grow (xs ys : List Nat) : (metS xs).length ≤ (metS (xs ++ ys)).length := by
  have : ∀ (r : List Nat) (a : List Str), a.length ≤ (r.foldl (fun a c => addS a (sign c)) a).length := by
    intro r
    induction r with
    | nil => intro a; exact Nat.le_refl _
    | cons c r ih =>
      intro a
      have h1 := ih (addS a (sign c))
      have h2 : a.length ≤ (addS a (sign c)).length := by rw [addS_len]; split <;> omega
      exact Nat.le_trans h2 h1
  unfold metS
  rw [List.foldl_append]
  exact this ys _
theorem wordsOf_append (a b : List WSum) : wordsOf (a ++ b) = wordsOf a ++ wordsOf b := by
  unfold wordsOf; rw [List.map_append, List.flatten_append]
theorem signsOf_append (a b : List Str) : signsOf (a ++ b) = signsOf a ++ signsOf b := by
  unfold signsOf; rw [List.map_append, List.flatten_append]
theorem wordsOf_take {ss : List WSum} {i : Nat} {s : WSum} (h : ss[i]? = some s) : wordsOf (ss.take (i + 1)) = wordsOf (ss.take i) ++ (s.1 ++ [s.2]) := by
  rw [List.take_add_one, h, wordsOf_append]
  show _ ++ wordsOf [s] = _
  unfold wordsOf
  simp
theorem wordsOf_take_mem {ss : List WSum} {i : Nat} {z : Str} (h : z ∈ wordsOf (ss.take i)) : z ∈ wordsOf ss := by
  have : wordsOf ss = wordsOf (ss.take i) ++ wordsOf (ss.drop i) := by rw [← wordsOf_append, List.take_append_drop]
  rw [this]; exact List.mem_append_left _ h
theorem Valid.prefix {b : Int} {ss : List WSum} (V : Valid b ss) (i : Nat) : ((metS (signsOf (wordsOf (ss.take i)))).length : Int) ≤ b ∧ (metS (signsOf (wordsOf (ss.take i)))).length ≤ 8 := by
  have : wordsOf ss = wordsOf (ss.take i) ++ wordsOf (ss.drop i) := by rw [← wordsOf_append, List.take_append_drop]
  have h := metS_grow (signsOf (wordsOf (ss.take i))) (signsOf (wordsOf (ss.drop i)))
  rw [← signsOf_append, ← this] at h
  have := V.lets
  omega
theorem Valid.word_len {b : Int} {ss : List WSum} (V : Valid b ss) {z : Str} (h : z ∈ wordsOf ss) : 1 ≤ z.length ∧ z.length ≤ 6 := (isWord_iff.mp (V.words z h)).1
theorem wordsOf_len {ss : List WSum} (h : ∀ s ∈ ss, s.1.length ≤ 4) : (wordsOf ss).length ≤ 5 * ss.length := by
  induction ss with
  | nil => exact Nat.le_refl _
  | cons s r ih =>
    have h1 := ih fun x hx => h x (List.mem_cons_of_mem _ hx)
    have h2 := h s List.mem_cons_self
    have e : wordsOf (s :: r) = (s.1 ++ [s.2]) ++ wordsOf r := rfl
    rw [e, List.length_append, List.length_append, List.length_cons]
    show s.1.length + 1 + (wordsOf r).length ≤ 5 * (r.length + 1)
    omega
theorem sum_lens {ws : List Str} {m : Nat} (h : ∀ z ∈ ws, z.length ≤ m) : (ws.map (·.length)).sum ≤ m * ws.length := by
  induction ws with
  | nil => exact Nat.le_refl _
  | cons z r ih =>
    have h1 := ih fun x hx => h x (List.mem_cons_of_mem _ hx)
    have h2 := h z List.mem_cons_self
    rw [List.map_cons, List.sum_cons, List.length_cons, Nat.mul_add]
    omega
theorem join_signsOf (ws : List Str) : (Txt.join ("" : Str) ws).cps.toList = signsOf ws := by
  have e : Txt.join ("" : Str) ws = Str.join Str.empty ws := StrLaws.glued_eq_join _ _
  rw [e, join_empty] <;> rfl
theorem mem_wordsOf {ss : List WSum} {s : WSum} {z : Str} (hs : s ∈ ss) (h : z ∈ s.1 ∨ z = s.2) : z ∈ wordsOf ss := by
  unfold wordsOf
  refine List.mem_flatten.mpr ⟨s.1 ++ [s.2], List.mem_map.mpr ⟨s, hs, rfl⟩, ?_⟩
  rcases h with h | h
  · exact List.mem_append_left _ h
  · exact List.mem_append_right _ (by simp [h])
theorem of_wordsOf {ss : List WSum} {z : Str} (h : z ∈ wordsOf ss) : ∃ s ∈ ss, z ∈ s.1 ∨ z = s.2 := by
  unfold wordsOf at h
  obtain ⟨l, hl, hz⟩ := List.mem_flatten.mp h
  obtain ⟨s, hs, rfl⟩ := List.mem_map.mp hl
  refine ⟨s, hs, ?_⟩
  rcases List.mem_append.mp hz with h | h
  · exact .inl h
  · exact .inr (by simpa using h)
theorem signsOf_len {ws : List Str} {m : Nat} (h : ∀ z ∈ ws, z.cps.toList.length ≤ m) : (signsOf ws).length ≤ m * ws.length := by
  induction ws with
  | nil => exact Nat.le_refl _
  | cons z r ih =>
    have h1 := ih fun x hx => h x (List.mem_cons_of_mem _ hx)
    have h2 := h z List.mem_cons_self
    have e : signsOf (z :: r) = z.cps.toList ++ signsOf r := rfl
    rw [e, List.length_append, List.length_cons, Nat.mul_add]
    omega
/-- what the law draws can be -/
theorem SheetOk.valid {b : Int} {ss : List WSum} (S : SheetOk b ss) : Valid b ss := by
  obtain ⟨cs, N, ok⟩ := S.cs
  refine ⟨S.b2, S.b12, S.few, fun s hs => (ok s hs).many, fun z hz => ?_, ?_⟩
  · obtain ⟨s, hs, hz⟩ := of_wordsOf hz
    rcases hz with hz | rfl
    · exact isWord_ok N ((ok s hs).adds z hz)
    · exact isWord_ok N (ok s hs).total
  · have hcs : (metS (signsOf (wordsOf ss))).length ≤ cs.length := metS_few fun c hc => by
      unfold signsOf at hc
      obtain ⟨l, hl, hc⟩ := List.mem_flatten.mp hc
      obtain ⟨z, hz, rfl⟩ := List.mem_map.mp hl
      obtain ⟨s, hs, hz⟩ := of_wordsOf hz
      rcases hz with hz | rfl
      · exact ((ok s hs).adds z hz).mem c hc
      · exact (ok s hs).total.mem c hc
    have hN := N.len
    have h12 := S.b12
    refine ⟨by omega, ?_⟩
    by_cases h6 : 6 < b
    · have h1 := S.big h6
      obtain ⟨s, rfl⟩ : ∃ s, ss = [s] := by
        rcases ss with _ | ⟨s, _ | ⟨t, r⟩⟩
        · simp at h1
        · exact ⟨s, rfl⟩
        · simp at h1
      obtain ⟨g1, g2, g3⟩ := (ok s List.mem_cons_self).big h6
      have e : signsOf (wordsOf [s]) = signsOf s.1 ++ s.2.cps.toList := by
        have : wordsOf [s] = s.1 ++ [s.2] := by unfold wordsOf; simp
        rw [this, signsOf_append]
        unfold signsOf; simp
      have l1 := signsOf_len (m := 1) fun z hz => (g2 z hz).len
      have l2 := g3.len
      have l3 := metS_le (signsOf (wordsOf [s]))
      rw [e, List.length_append] at l3
      rw [e]
      omega
    · omega
end WS
set_option maxRecDepth 100000
set_option maxHeartbeats 4000000
namespace WS
open PySem L2 SetT
def plusT : Str := " + "
def isT : Str := " = "
def aheadT : Str := "base "
def numT (b : Int) : Str := toString b
def figT : Str := "0123456789"
/-- a sum as a row -/
def rowS (s : WSum) : Str := Str.join plusT s.1 ++ isT ++ s.2
def headS (b : Int) : Str := aheadT ++ numT b
/-- a sheet as a text -/
def textS (b : Int) (ss : List WSum) : Str := Str.join ("\n" : Str) (headS b :: ss.map rowS)
def toks : List Str → Str → List Str
  | [], t => [t]
  | [w], t => [w, ("=" : Str), t]
  | w :: v :: r, t => w :: ("+" : Str) :: toks (v :: r) t
theorem toks_evens : ∀ (ws : List Str) (t : Str), evens (toks ws t) = ws ++ [t]
  | [], t => rfl
  | [w], t => rfl
  | w :: v :: r, t => by
    show w :: evens (toks (v :: r) t) = w :: ((v :: r) ++ [t])
    rw [toks_evens]
theorem app_cps (a b : Str) : (a ++ b).cps.toList = a.cps.toList ++ b.cps.toList := by
  rw [PySem.Str.cps_append, Array.toList_append]
theorem toks_cps : ∀ (ws : List Str) (t : Str), ws ≠ [] → (Str.join plusT ws ++ isT ++ t).cps.toList = jl [32] ((toks ws t).map (·.cps.toList))
  | [], t, h => absurd rfl h
  | [w], t, _ => by
    show (w ++ isT ++ t).cps.toList = w.cps.toList ++ [32] ++ ([61] ++ [32] ++ t.cps.toList)
    rw [app_cps, app_cps, show isT.cps.toList = [32, 61, 32] from rfl]
    simp
  | w :: v :: r, t, _ => by
    have ih := toks_cps (v :: r) t (by simp)
    show (w ++ plusT ++ Str.join plusT (v :: r) ++ isT ++ t).cps.toList = jl [32] (w.cps.toList :: [43] :: (toks (v :: r) t).map (·.cps.toList))
    rw [app_cps, app_cps] at ih
    rw [app_cps, app_cps, app_cps, app_cps]
    have hne : (toks (v :: r) t).map (·.cps.toList) ≠ [] := by cases r <;> simp [toks]
    generalize (toks (v :: r) t).map (·.cps.toList) = Z at ih hne
    cases Z with
    | nil => exact absurd rfl hne
    | cons z q =>
      show _ = w.cps.toList ++ [32] ++ ([43] ++ [32] ++ jl [32] (z :: q))
      rw [← ih, show plusT.cps.toList = [32, 43, 32] from rfl]
      simp
theorem abc_range {c : Nat} (h : c ∈ abc.cps.toList) : 97 ≤ c := by
  have e : ∀ c ∈ abc.cps.toList, 97 ≤ c := by decide +kernel
  exact e c h
theorem word_range {z : Str} (h : isWord z = true) {c : Nat} (hc : c ∈ z.cps.toList) : 97 ≤ c := abc_range ((isWord_iff.mp h).2 c hc)
theorem toks_mem : ∀ {ws : List Str} {t z : Str}, z ∈ toks ws t → z ∈ ws ++ [t] ∨ z = ("=" : Str) ∨ z = ("+" : Str)
  | [], t, z, h => .inl h
  | [w], t, z, h => by
    rcases List.mem_cons.mp h with rfl | h
    · exact .inl (by simp)
    rcases List.mem_cons.mp h with rfl | h
    · exact .inr (.inl rfl)
    · rw [List.mem_singleton.mp h]
      exact .inl (by simp)
  | w :: v :: r, t, z, h => by
    rcases List.mem_cons.mp h with rfl | h
    · exact .inl (by simp)
    rcases List.mem_cons.mp h with rfl | h
    · exact .inr (.inr rfl)
    · rcases toks_mem h with h | h
      · exact .inl (List.mem_cons_of_mem _ h)
      · exact .inr h
theorem jl_mem {c d : Nat} : ∀ {L : List (List Nat)}, c ∈ jl [d] L → c = d ∨ ∃ x ∈ L, c ∈ x
  | [], h => by cases h
  | [x], h => .inr ⟨x, List.mem_cons_self, h⟩
  | x :: y :: r, h => by
    have h : c ∈ x ++ [d] ++ jl [d] (y :: r) := h
    rcases List.mem_append.mp h with h | h
    · rcases List.mem_append.mp h with h | h
      · exact .inr ⟨x, List.mem_cons_self, h⟩
      · exact .inl (List.mem_singleton.mp h)
    · rcases jl_mem h with h | ⟨z, hz, h⟩
      · exact .inl h
      · exact .inr ⟨z, List.mem_cons_of_mem _ hz, h⟩
/-- the words of a row, parted by blanks -/
theorem row_split {s : WSum} (h1 : s.1 ≠ []) (hw : ∀ z ∈ s.1 ++ [s.2], isWord z = true) : Txt.split (rowS s) (" " : Str) = toks s.1 s.2 := by
  refine split_parts (c := 32) (toks_cps s.1 s.2 h1) (fun e => ?_) (fun p hp hm => ?_)
  · have := toks_evens s.1 s.2
    rw [e] at this
    simp [evens] at this
  · rcases toks_mem hp with h | rfl | rfl
    · have := word_range (hw p h) hm
      omega
    · exact absurd hm (by decide)
    · exact absurd hm (by decide)
theorem row_no10 {s : WSum} (h1 : s.1 ≠ []) (hw : ∀ z ∈ s.1 ++ [s.2], isWord z = true) : 10 ∉ (rowS s).cps.toList := by
  unfold rowS
  rw [toks_cps s.1 s.2 h1]
  intro h
  rcases jl_mem h with h | ⟨x, hx, h⟩
  · cases h
  · obtain ⟨p, hp, rfl⟩ := List.mem_map.mp hx
    rcases toks_mem hp with h' | rfl | rfl
    · have := word_range (hw p h') h
      omega
    · exact absurd h (by decide)
    · exact absurd h (by decide)
/-- what is asked of the row of the base -/
def headOk (b : Int) : Bool := Txt.startswith (headS b) aheadT && decide (Txt.removeprefix (headS b) aheadT = numT b) && decide (1 ≤ (numT b).length) && decide ((numT b).length ≤ 2) && !decide ((numT b).cps.toList[0]? = some 48) && (numT b).cps.toList.all (fun c => decide (c ∈ figT.cps.toList)) && decide (PySem.intText? (numT b) = some b) && decide (10 ∉ (headS b).cps.toList) && decide ((headS b).length ≤ 7)
theorem head_ok {b : Int} (h2 : 2 ≤ b) (h12 : b ≤ 12) : headOk b = true := by
  have : b = 2 ∨ b = 3 ∨ b = 4 ∨ b = 5 ∨ b = 6 ∨ b = 7 ∨ b = 8 ∨ b = 9 ∨ b = 10 ∨ b = 11 ∨ b = 12 := by omega
  rcases this with rfl | rfl | rfl | rfl | rfl | rfl | rfl | rfl | rfl | rfl | rfl <;> decide +kernel
structure HeadOk (b : Int) : Prop where
  st : Txt.startswith (headS b) aheadT = true
  rm : Txt.removeprefix (headS b) aheadT = numT b
  l1 : 1 ≤ (numT b).length
  l2 : (numT b).length ≤ 2
  n0 : (numT b).cps.toList[0]? ≠ some 48
  fg : ∀ c ∈ (numT b).cps.toList, c ∈ figT.cps.toList
  it : PySem.intText? (numT b) = some b
  n10 : 10 ∉ (headS b).cps.toList
  hl : (headS b).length ≤ 7
theorem HeadOk.of {b : Int} (h2 : 2 ≤ b) (h12 : b ≤ 12) : HeadOk b := by
  have h := head_ok h2 h12
  unfold headOk at h
  simp only [Bool.and_eq_true, decide_eq_true_eq, Bool.not_eq_true', decide_eq_false_iff_not, List.all_eq_true] at h
  obtain ⟨⟨⟨⟨⟨⟨⟨⟨g1, g2⟩, g3⟩, g4⟩, g5⟩, g6⟩, g7⟩, g8⟩, g9⟩ := h
  exact ⟨g1, g2, g3, g4, g5, g6, g7, g8, g9⟩
/-- the rows of a sheet's text -/
theorem text_split {b : Int} {ss : List WSum} (V : Valid b ss) : Txt.split (textS b ss) ("\n" : Str) = headS b :: ss.map rowS := by
  have h2 := V.b2
  have h12 := V.b12
  refine split_parts (c := 10) ?_ (by simp) (fun p hp => ?_)
  · unfold textS
    rw [join_jl]
    rfl
  · rcases List.mem_cons.mp hp with rfl | hp
    · exact (HeadOk.of h2 h12).n10
    · obtain ⟨s, hs, rfl⟩ := List.mem_map.mp hp
      have hm := V.many s hs
      exact row_no10 (fun e => by rw [e] at hm; simp at hm) fun z hz => V.words z (mem_wordsOf hs ((List.mem_append.mp hz).elim .inl fun h => .inr (by simpa using h)))
theorem sum_map_le {α : Type} {f : α → Nat} {m : Nat} : ∀ {l : List α}, (∀ x ∈ l, f x ≤ m) → (l.map f).sum ≤ l.length * m
  | [], _ => Nat.zero_le _
  | x :: r, h => by
    have h1 := h x List.mem_cons_self
    have h2 := sum_map_le (f := f) (m := m) (l := r) fun y hy => h y (List.mem_cons_of_mem _ hy)
    rw [List.map_cons, List.sum_cons, List.length_cons, Nat.succ_mul]
    omega
theorem row_len {s : WSum} (h4 : s.1.length ≤ 4) (hw : ∀ z ∈ s.1 ++ [s.2], z.length ≤ 6) : (Str.join plusT s.1).length ≤ 36 ∧ (rowS s).length ≤ 45 := by
  have h1 := PySem.StrLaws.join_length_le plusT s.1
  have h2 : (s.1.map (·.length)).sum ≤ s.1.length * 6 := sum_map_le fun z hz => hw z (List.mem_append_left _ hz)
  have h3 : plusT.length = 3 := rfl
  have h5 : isT.length = 3 := rfl
  have h6 := hw s.2 (List.mem_append_right _ List.mem_cons_self)
  rw [h3] at h1
  unfold rowS
  rw [PySem.Str.length_append, PySem.Str.length_append, h5]
  omega
theorem valid_len {b : Int} {ss : List WSum} (V : Valid b ss) {s : WSum} (hs : s ∈ ss) : ∀ z ∈ s.1 ++ [s.2], isWord z = true ∧ z.length ≤ 6 := fun z hz => by
  have := V.words z (mem_wordsOf hs ((List.mem_append.mp hz).elim .inl fun h => .inr (by simpa using h)))
  exact ⟨this, (isWord_iff.mp this).1.2⟩
theorem text_len {b : Int} {ss : List WSum} (V : Valid b ss) : ((headS b :: ss.map rowS).map (·.length)).sum ≤ 142 ∧ (textS b ss).length ≤ 200 := by
  have hH := (HeadOk.of V.b2 V.b12).hl
  have hf := V.few
  have h1 := PySem.StrLaws.join_length_le ("\n" : Str) (headS b :: ss.map rowS)
  have h2 : ((ss.map rowS).map (·.length)).sum ≤ (ss.map rowS).length * 45 := sum_map_le fun z hz => by
    obtain ⟨s, hs, rfl⟩ := List.mem_map.mp hz
    exact (row_len (V.many s hs).2 fun z hz => (valid_len V hs z hz).2).2
  rw [List.length_map] at h2
  have h3 : ("\n" : Str).length = 1 := rfl
  rw [h3, List.length_cons, List.length_map] at h1
  have e : ((headS b :: ss.map rowS).map (·.length)).sum = (headS b).length + ((ss.map rowS).map (·.length)).sum := rfl
  rw [e] at h1 ⊢
  unfold textS
  omega
end WS
set_option maxRecDepth 100000
set_option maxHeartbeats 8000000
namespace WS
open PySem L2 SetT
/-- check_counts(base, sums) of a sheet that can be -/
def spCounts : Sp := fun vs H Q _ => ∃ (b : Int) (sl : Addr) (xs : List V), vs = [.int b, .ref sl] ∧ H sl = some (.lst xs) ∧ 2 ≤ b ∧ b ≤ 12 ∧ 1 ≤ xs.length ∧ xs.length ≤ 3 ∧ Q .non H
def spCheck : Sp := fun vs H Q _ => ∃ (b : Int) (sl : Addr) (ts : List Addr) (ss : List WSum), vs = [.int b, .ref sl] ∧ H sl = some (.lst (ts.map V.ref)) ∧ SumsAt H ts ss ∧ Valid b ss ∧ ∀ H', Same H H' → Q .non H'
theorem refs_at {ts : List Addr} {i : Nat} {y : V} (h : (ts.map V.ref)[i]? = some y) : ∃ t, ts[i]? = some t ∧ y = V.ref t := by
  rw [List.getElem?_map] at h
  cases e : ts[i]? with
  | none => rw [e] at h; cases h
  | some t => rw [e] at h; exact ⟨t, rfl, (Option.some.inj h).symm⟩
theorem strs_at' {ws : List Str} {i : Nat} {y : V} (h : (ws.map V.str)[i]? = some y) : ∃ z, ws[i]? = some z ∧ y = V.str z := by
  rw [List.getElem?_map] at h
  cases e : ws[i]? with
  | none => rw [e] at h; cases h
  | some t => rw [e] at h; exact ⟨t, rfl, (Option.some.inj h).symm⟩
section
variable {P : Program} {w : World} {K : PySem.W.Frag} {mg : Str → Option Value} {base : Heap}
theorem scCounts : FnScope ["base", "sums"] ["base", "sums"] (defScope sCounts) := ⟨rfl, rfl, rfl, by decide +kernel, rfl, by decide +kernel, by decide +kernel⟩
theorem ok_counts {f : Addr} {fd : FuncData} {t1 t2 t3 : Tok} (F : Fun K "check_counts" "check_counts" sCounts f fd) (z_len : mg "len" = none) (m_LEAST_BASE : mg "LEAST_BASE" = some (.int 2 t1)) (m_MOST_BASE : mg "MOST_BASE" = some (.int 12 t2)) (m_MOST_SUMS : mg "MOST_SUMS" = some (.int 3 t3)) :
    FnOk P w K mg base CX0 1 f fd ["base", "sums"] spCounts := by
  refine F.ok scCounts (fun vs H Q E h => ?_) (fun cdv A outer s H vs Q E hr h => ?_)
  · obtain ⟨b, sl, xs, rfl, _⟩ := h
    rfl
  · obtain ⟨b, sl, xs, rfl, hsl, b2, b12, n1, n3, k⟩ := h
    have nd := scCounts.nd
    refine ⟨_, (pss_cons (ps_if (pt_not (pt_chain op_le op_le (pe_glob (v := .int 2) (by rfl) m_LEAST_BASE ⟨_, rfl⟩) (pv 0) (pe_glob (v := .int 12) (by rfl) m_MOST_BASE ⟨_, rfl⟩))) (pss_one ps_never) pss_nil)
      (pss_one (ps_if (pt_not (pt_chain op_le op_le pe_int (pe_callB call_len_seq (by rfl) z_len PySem.boot_len (pa_cons (pv 1) pa_nil)) (pe_glob (v := .int 3) (by rfl) m_MOST_SUMS ⟨_, rfl⟩))) (pss_one ps_never) pss_nil))), ?_⟩
    refine ⟨_, rfl, _, _, rfl, rfl, _, rfl, ?_⟩
    rw [decide_eq_true b2]
    refine iteT ⟨_, _, rfl, rfl, _, rfl, ?_⟩
    rw [decide_eq_true b12]
    refine iteF ?_
    refine ⟨_, rfl, sl, _, rfl, .inl (SqL.of hsl), _, _, rfl, rfl, _, rfl, ?_⟩
    rw [decide_eq_true (by omega)]
    refine iteT ⟨_, _, rfl, rfl, _, rfl, ?_⟩
    rw [decide_eq_true (by omega)]
    exact iteF k
theorem scCheck : FnScope ["base", "sums", "words", "at", "addends", "total", "word"] ["base", "sums"] (defScope sCheck) := ⟨rfl, rfl, rfl, by decide +kernel, rfl, by decide +kernel, by decide +kernel⟩
theorem ok_check {f fI : Addr} {fd fdI : FuncData} {t1 t2 : Tok} (F : Fun K "check_sums" "check_sums" sCheck f fd) (z_len : mg "len" = none) (z_set : mg "set" = none) (z_all : mg "all" = none) (z_min : mg "min" = none) (z_enumerate : mg "enumerate" = none)
    (m_MOST_ADDENDS : mg "MOST_ADDENDS" = some (.int 4 t1)) (m_MOST_LETTERS : mg "MOST_LETTERS" = some (.int 8 t2)) (S_is_word : Site K mg "is_word" fI fdI ["text"]) (G_is_word : FnOk P w K mg base CX0 1 fI fdI ["text"] spIsWord) :
    FnOk P w K mg base CX0 2 f fd ["base", "sums"] spCheck := by
  refine F.ok scCheck (fun vs H Q E h => ?_) (fun cdv A outer s H vs Q E hr h => ?_)
  · obtain ⟨b, sl, ts, ss, rfl, _⟩ := h
    rfl
  · obtain ⟨b, sl, ts, ss, rfl, hsl, hsa, V', k⟩ := h
    have nd := scCheck.nd
    have hr_is_word := hr
    refine ⟨_, (pss_cons (ps_set (i := 2) nd rfl (.inl rfl) (pe_lst pa_nil))
      (pss_one (ps_for PassesOwn.never rfl (pi_enum (by rfl) z_enumerate (pa_cons (pv 1) pa_nil)) (pg_tup rfl (pgs_cons (pg_name (i := 3) nd rfl (.inl rfl)) (pgs_cons (pg_tup rfl (pgs_cons (pg_name (i := 4) nd rfl (.inl rfl)) (pgs_cons (pg_name (i := 5) nd rfl (.inl rfl)) pgs_nil))) pgs_nil))) (pss_cons (ps_if (pt_not (pt_chain op_le op_le pe_int (pe_callB call_len_seq (by rfl) z_len PySem.boot_len (pa_cons (pv 4) pa_nil)) (pe_glob (v := .int 4) (by rfl) m_MOST_ADDENDS ⟨_, rfl⟩))) (pss_one ps_never) pss_nil)
      (pss_cons (ps_if (pt_not (pt_val (pe_callB (cr_all rfl) (by rfl) z_all (by decide +kernel) (pa_cons (pe_lc (own := [("word", 6)]) (g := (gName 6)) (tt := tYes) rfl nd (pi_tup (pe_tup (StX.pa_star (pv 4) (pa_cons (pv 5) pa_nil)))) (blkOk_by (own := [("word", 6)]) (N := ["base", "sums", "words", "at", "addends", "total", "word"]) (sc := defScope sCheck) (by decide +kernel)) (fun _ _ _ _ _ => (pg_name (i := 6) nd rfl (.inl rfl))) (fun _ _ _ _ _ => pts_nil) (fun _ _ _ _ _ => (pe_call G_is_word hr_is_word (by rfl) S_is_word.g S_is_word.k S_is_word.b .nil pass0 (pa_cons (pv 6) pa_nil)))) pa_nil)))) (pss_one ps_never) pss_nil)
      (pss_cons (ps_expr (pe_bm PySem.F.plainAttrs_list PySem.F.slot_list_extend PySem.F.type_list_extend mt_extend (pv 2) (pa_cons (pe_lst (StX.pa_star (pv 4) (pa_cons (pv 5) pa_nil))) pa_nil)))
      (pss_one (ps_if (pt_cmpR op_gt (pe_lenSetT (by rfl) z_len (by rfl) z_set (pe_join pe_str (pv 2))) (pe_callB (call_min2 rfl) (by rfl) z_min (by decide +kernel) (pa_cons (pe_glob (v := .int 8) (by rfl) m_MOST_LETTERS ⟨_, rfl⟩) (pa_cons (pv 0) pa_nil))) (nomark _)) (pss_one ps_never) pss_nil)))))))), ?_⟩
    refine ⟨by show 0 ≤ sizeLine; decide, fun wl hwl => ?_⟩
    have hslw : sl ≠ wl := ne_of_none hsl hwl
    refine ⟨_, rfl, sl, _, rfl, SqL.of ((upd_ne hslw).trans hsl), for_it (walk_enum (xs := ts.map V.ref)) (fun i σ H2 => ∃ v3 v4 v5, σ = [some (.int b), some (.ref sl), some (.ref wl), v3, v4, v5, none] ∧ Same H H2 ∧ H2 wl = some (.lst ((wordsOf (ss.take i)).map V.str)))
      ⟨none, none, none, rfl, Same.new hwl, upd_same⟩ (fun i σ H2 _ ⟨_, _, _, _, s2, _⟩ => SqL.of (s2 _ _ hsl)) ?_ ?_⟩
    · rintro i x σ H2 H3 hi ⟨v3, v4, v5, rfl, s2, hw⟩ ⟨T, x1, x2, rfl, hT, rfl, e1, e2⟩
      rw [List.length_map] at hi
      have e1' : x1 = .int (i : Nat) := (Option.some.inj e1).symm
      subst e1'
      obtain ⟨t, ht, rfl⟩ := refs_at e2
      have hiss : i < ss.length := hsa.len ▸ hi
      have hs : ss[i]? = some ss[i] := List.getElem?_eq_getElem hiss
      generalize hsg : ss[i] = sm at hs
      have hsm : sm ∈ ss := List.mem_of_getElem? hs
      have s3 : Same H (upd H2 T (.tup [.int (i : Nat), .ref t])) := s2.trans (Same.new hT)
      obtain ⟨u, ht1, hu1⟩ := (hsa.get i t sm ht hs).same s3
      have hwT : wl ≠ T := ne_of_none hw hT
      have hw3 : (upd H2 T (.tup [.int (i : Nat), .ref t])) wl = some (.lst ((wordsOf (ss.take i)).map V.str)) := (upd_ne hwT).trans hw
      have hTu : (upd H2 T (.tup [.int (i : Nat), .ref t])) T = some (.tup [.int (i : Nat), .ref t]) := upd_same
      generalize upd H2 T (.tup [.int (i : Nat), .ref t]) = H3 at s3 ht1 hu1 hw3 hTu
      obtain ⟨m1, m4⟩ := V'.many sm hsm
      refine ⟨T, _, rfl, SqT.of hTu, rfl, _, _, rfl, _, _, rfl, t, _, rfl, SqT.of ht1, rfl, _, _, rfl, _, _, rfl, rfl, rfl, ?_⟩
      -- the count of the addends
      refine ⟨_, rfl, u, _, rfl, .inr (SqT.of hu1), _, _, rfl, rfl, _, rfl, ?_⟩
      rw [List.length_map, decide_eq_true (by omega)]
      refine iteT ⟨_, _, rfl, rfl, _, rfl, ?_⟩
      rw [decide_eq_true (by omega)]
      refine iteF ?_
      -- its words
      refine ⟨_, rfl, u, _, rfl, .inl (SqT.of hu1), _, rfl, ?_, fun q hq => ?_⟩
      · rw [List.length_append, List.length_map]
        exact line_of (by show _ + 1 ≤ _; omega)
      refine ⟨q, rfl, ⟨_, SqT.of upd_same⟩, fun D hD => ?_⟩
      have hqD : q ≠ D := ne_of_none upd_same hD
      have hD3 : H3 D = none := by rw [upd_ne (Ne.symm hqD)] at hD; exact hD
      have hwq : wl ≠ q := ne_of_none hw3 hq
      have hwD : wl ≠ D := ne_of_none hw3 hD3
      refine lc_tup (K := K) (a := q) (xs := sm.1.map V.str ++ [.str sm.2]) (fun j H4 => H4 D = some (.lst ((List.replicate j true).map V.bl)) ∧ Same (upd H3 q (.tup (sm.1.map V.str ++ [.str sm.2]))) H4)
        ⟨upd_same, Same.new hD⟩ (fun j H4 _ ⟨_, s4⟩ => SqT.of (s4 _ _ upd_same)) ?_ ?_
      · rintro j y H4 hj ⟨hD4, s4⟩
        have hy : sm.1.map V.str ++ [V.str sm.2] = (sm.1 ++ [sm.2]).map V.str := by rw [List.map_append] <;> rfl
        rw [hy] at hj
        obtain ⟨z, hz, rfl⟩ := strs_at' hj
        have hjl : j < (sm.1 ++ [sm.2]).length := (List.getElem?_eq_some_iff.mp hz).1
        rw [List.length_append] at hjl
        have hjl' : j < sm.1.length + 1 := hjl
        have hzm : z ∈ wordsOf ss := by
          have := List.mem_of_getElem? hz
          refine mem_wordsOf hsm ?_
          rcases List.mem_append.mp this with h | h
          · exact .inl h
          · exact .inr (by simpa using h)
        refine ⟨rfl, _, rfl, z, rfl, by have := V'.word_len hzm; omega, fun H5 s5 => ?_⟩
        refine ⟨_, s5 _ _ hD4, ?_, ?_, ?_⟩
        · rw [List.length_map, List.length_replicate]
          exact line_lt (by omega)
        · rw [upd_same, V'.words z hzm, List.replicate_succ', List.map_append] <;> rfl
        · exact Same.mut (s4.trans s5) hD
      · rintro H4 ⟨hD4, s4⟩
        rw [List.length_append, List.length_map] at hD4
        refine ⟨D, _, rfl, SqL.of hD4, _, rfl, ?_⟩
        have ea : (List.replicate (sm.1.length + [V.str sm.2].length) true).all id = true := by simp
        rw [ea]
        refine iteF ?_
        have s34 : Same H3 H4 := (Same.new hq).trans s4
        have s04 : Same H H4 := s3.trans s34
        have hw4 := s34 _ _ hw3
        -- words.extend
        refine ⟨_, rfl, .inl ⟨rfl, _, SqL.of hw4⟩, _, rfl, u, _, rfl, .inl (SqT.of (s34 _ _ hu1)), _, rfl, ?_, fun q2 hq2 => ?_⟩
        · rw [List.length_append, List.length_map]
          exact line_of (by show _ + 1 ≤ _; omega)
        have hwl4 := wordsOf_len (ss := ss.take i) fun s hs => (V'.many s (List.mem_of_mem_take hs)).2
        rw [List.length_take] at hwl4
        have hf := V'.few
        refine ⟨wl, q2, _, _, rfl, rfl, (upd_ne (ne_of_none hw4 hq2)).trans hw4, upd_same, ?_, ?_⟩
        · rw [List.length_map, List.length_append, List.length_map]
          exact line_of (by show _ + (_ + 1) ≤ _; omega)
        have ew : (wordsOf (ss.take i)).map V.str ++ (sm.1.map V.str ++ [V.str sm.2]) = (wordsOf (ss.take (i + 1))).map V.str := by
          rw [wordsOf_take hs, List.map_append, List.map_append] <;> rfl
        rw [ew]
        -- the letters so far
        have hwl5 := wordsOf_len (ss := ss.take (i + 1)) fun s hs => (V'.many s (List.mem_of_mem_take hs)).2
        rw [List.length_take] at hwl5
        have hsum := sum_lens (ws := wordsOf (ss.take (i + 1))) (m := 6) fun z hz => (V'.word_len (wordsOf_take_mem hz)).2
        have hjs := join_signsOf (wordsOf (ss.take (i + 1)))
        have hjl := signsOf_len (ws := wordsOf (ss.take (i + 1))) (m := 6) fun z hz => by
          have := (V'.word_len (wordsOf_take_mem hz)).2
          have e : z.cps.toList.length = z.length := Array.length_toList
          omega
        obtain ⟨p1, p2⟩ := V'.prefix (i + 1)
        refine ⟨⟨_, rfl⟩, _, rfl, _, wl, wordsOf (ss.take (i + 1)), rfl, rfl, .inl (SqL.of upd_same), ?_, ?_⟩
        · show _ + _ * 0 ≤ _
          omega
        refine ⟨_, rfl, ?_, ?_⟩
        · have e : (Txt.join ("" : Str) (wordsOf (ss.take (i + 1)))).cps.toList.length = (Txt.join ("" : Str) (wordsOf (ss.take (i + 1)))).length := Array.length_toList
          rw [hjs] at e
          omega
        rw [hjs]
        refine ⟨_, rfl, _, _, rfl, _, _, rfl, rfl, _, rfl, ?_⟩
        rw [decide_eq_false (by split <;> omega)]
        refine iteF ?_
        exact ⟨_, _, _, rfl, Same.mut (s04.trans (Same.new hq2)) hwl, upd_same⟩
    · rintro σ H2 ⟨v3, v4, v5, rfl, s2, hw⟩
      exact k _ s2
end
end WS
set_option maxRecDepth 100000
set_option maxHeartbeats 4000000
namespace RevS
open PySem PySem.Spec PyProof.Rows L2
/-- a text from its end -/
def revT (z : Str) : Str := ⟨z.cps.toList.reverse.toArray⟩
theorem pick_all (z : Str) : (Builtin.Str.strSliceIndices none none (-1) z.length).filterMap (z.cps[·]?) = z.cps.toList.reverse := by
  unfold Builtin.Str.strSliceIndices
  show (sliceRange ((z.cps.size : Int) - 1) (-1) (-1)).filterMap (z.cps[·]?) = _
  rw [PySem.W.krv_sliceRange]
  have : ∀ (l : List Nat) (n : Nat), l.length = n → ((List.range n).map fun k => n - 1 - k).filterMap (l[·]?) = l.reverse := by
    intro l
    induction l with
    | nil => intro n h; subst h; rfl
    | cons c r ih =>
      intro n h
      subst h
      have e : (List.range (r.length + 1)).map (fun k => r.length + 1 - 1 - k) = ((List.range r.length).map fun k => (r.length - 1 - k) + 1) ++ [0] := by
        rw [List.range_succ, List.map_append]
        congr 1
        · apply List.map_congr_left
          intro k hk
          have := List.mem_range.mp hk
          omega
        · simp
      show ((List.range (r.length + 1)).map (fun k => r.length + 1 - 1 - k)).filterMap ((c :: r)[·]?) = _
      rw [e, List.filterMap_append, List.reverse_cons]
      congr 1
      have h2 := ih r.length rfl
      rw [List.filterMap_map] at h2 ⊢
      rw [← h2]
      apply congrArg (fun f => List.filterMap f _)
      funext k
      simp
  have h := this z.cps.toList z.cps.size Array.length_toList
  simpa [Array.getElem?_toList] using h
def tRevS (te : TE) : TE := fun σ H Q => te σ H fun x H1 => ∃ z : Str, x = .str z ∧ z.length ≤ sizeLine ∧ Q (.str (revT z)) H1
theorem pe_revS {X : Cx} {e : Expr} {te : TE} {k : Nat} {p1 p2 p3 pos : Pos} (he : PE X e te) : PE X (.Subscript e (.Slice none none (some (.UnaryOp .USub (.Constant (.int 1) k p1) p2)) p3) pos) (tRevS te) := by
  refine ⟨fun pins s σ H Q I h => ?_⟩
  refine Subscript_ (thn (he.run pins s σ H _ I h) fun v s1 ⟨x, H1, I1, r1, q1⟩ => ?_)
  obtain ⟨z, ex, hz, q⟩ := q1
  subst ex
  obtain ⟨t, rfl⟩ := r1
  have hst : PO X (some (.UnaryOp .USub (.Constant (.int 1) k p1) p2)) (tPart (tUn (rU fun i => .int (-i)) (tC (.int 1)))) := po_some (pe_un un_neg pe_int)
  refine wpAny_Slice (thn (po_none.run pins s1 σ H1 (fun o H2 => o = none ∧ H2 = H1) I1 ⟨rfl, rfl⟩) fun vl s2 ⟨l, H2, I2, pl, el, e2⟩ => ?_)
  subst el e2
  refine thn (po_none.run pins s2 σ H2 (fun o H3 => o = none ∧ H3 = H2) I2 ⟨rfl, rfl⟩) fun vu s3 ⟨u, H3, I3, pu, eu, e3⟩ => ?_
  subst eu e3
  refine thn (hst.run pins s3 σ H3 (fun o H4 => o = some (-1) ∧ H4 = H3) I3 ⟨1, rfl, -1, rfl, rfl, rfl⟩) fun vs s4 ⟨o, H4, I4, ps, eo, e4⟩ => ?_
  subst eo e4
  cases pl
  cases pu
  cases ps
  rename_i uk _
  have I5 : L2.Inv X pins σ H4 { s4 with heap := s4.heap.push { cls := .type "slice", data := .fields #[.none, .none, .int (-1) uk] } } := I4.kept (t' := s4.toks) fun b ob q => Heap.get?_push_of_some _ q
  refine tail_any (ops := [.ref s4.heap.objs.size, .str z t]) (typeIs_str _ _ _) F.slot_str_getitem.lookup (wpAny_getItem_str_slice (l := none) (u := none) (st := some (-1, uk)) ⟨_, Heap.get?_push_size _ rfl, rfl, rfl⟩ rfl ?_) (by with_unfolding_all rfl)
  show Made.post (if ((-1 : Int) == 1 && (Builtin.Str.strSliceIndices none none (-1) z.length).length == z.length) = true then Made.val (.str z t)
    else Made.str ⟨((Builtin.Str.strSliceIndices none none (-1) z.length).filterMap (z.cps[·]?)).toArray⟩) _ _
  rw [if_neg (by simp), pick_all]
  have hl : (revT z).length ≤ sizeLine := by
    have e : (revT z).length = z.length := by
      show z.cps.toList.reverse.toArray.size = z.cps.size
      simp
    rw [e]; exact hz
  exact ⟨hl, .str (revT z), H4, I5.tok _, ⟨_, rfl⟩, q⟩
end RevS
set_option maxRecDepth 100000
set_option maxHeartbeats 4000000
namespace WS
open PySem L2 SetT
/-- the letter of a word in a column, counted from the right -/
def letterAt (z : Str) (p : Nat) : Str := match z.cps.toList.reverse[p]? with | some c => ⟨#[c]⟩ | none => Str.empty
def col (ws : List Str) (p : Nat) : List Nat := ws.filterMap fun z => z.cps.toList.reverse[p]?
def maxLen (ws : List Str) : Nat := ws.foldl (fun a z => max a z.length) 0
def rawSum (ws : List Str) : List Nat := ((List.range (maxLen ws)).map (col ws)).flatten
def rawOf (ss : List WSum) : List Nat := (ss.map fun s => rawSum (s.1 ++ [s.2])).flatten
def addN (L : List Nat) (c : Nat) : List Nat := if c ∈ L then L else L ++ [c]
/-- each of them once, where it stands first -/
def dd (r : List Nat) : List Nat := r.foldl addN []
def lettersOf (ss : List WSum) : List Nat := dd (rawOf ss)
theorem dd_snoc (r : List Nat) (c : Nat) : dd (r ++ [c]) = addN (dd r) c := by
  unfold dd; rw [List.foldl_append] <;> rfl
theorem addN_nodup {L : List Nat} {c : Nat} (h : L.Nodup) : (addN L c).Nodup := by
  unfold addN
  split
  · exact h
  · rename_i hx
    rw [List.nodup_append]
    refine ⟨h, by simp, fun a ha b hb e => hx ?_⟩
    have : b = c := by simpa using hb
    rw [← this, ← e]; exact ha
theorem addN_mem {L : List Nat} {c y : Nat} : y ∈ addN L c ↔ y ∈ L ∨ y = c := by
  unfold addN
  split
  · rename_i h
    exact ⟨.inl, fun h' => h'.elim id fun e => e ▸ h⟩
  · rw [List.mem_append, List.mem_singleton]
theorem dd_fold (r : List Nat) : ∀ a : List Nat, a.Nodup → (r.foldl addN a).Nodup ∧ ∀ y, y ∈ r.foldl addN a ↔ y ∈ a ∨ y ∈ r := by
  induction r with
  | nil => intro a h; exact ⟨h, fun y => by simp⟩
  | cons c r ih =>
    intro a h
    obtain ⟨h1, h2⟩ := ih (addN a c) (addN_nodup h)
    refine ⟨h1, fun y => ?_⟩
    rw [List.foldl_cons, h2, addN_mem, List.mem_cons]
    constructor
    · rintro ((h | h) | h)
      · exact .inl h
      · exact .inr (.inl h)
      · exact .inr (.inr h)
    · rintro (h | h | h)
      · exact .inl (.inl h)
      · exact .inl (.inr h)
      · exact .inr h
theorem dd_nodup (r : List Nat) : (dd r).Nodup := (dd_fold r [] List.nodup_nil).1
theorem dd_mem {r : List Nat} {y : Nat} : y ∈ dd r ↔ y ∈ r := by
  unfold dd
  rw [(dd_fold r [] List.nodup_nil).2 y]
  simp
def Abc (r : List Nat) : Prop := ∀ c ∈ r, c ∈ abc.cps.toList
theorem Abc.append {r r' : List Nat} (h : Abc r) (h' : Abc r') : Abc (r ++ r') := fun c hc => (List.mem_append.mp hc).elim (h c) (h' c)
theorem Abc.take {r : List Nat} (h : Abc r) (n : Nat) : Abc (r.take n) := fun c hc => h c (List.mem_of_mem_take hc)
theorem abc_size : abc.cps.toList.length = 26 := by decide +kernel
theorem Abc.len {r : List Nat} (h : Abc r) : (dd r).length ≤ 26 := by
  rw [← abc_size]
  exact nodup_le (dd_nodup r) fun c hc => h c (dd_mem.mp hc)
theorem col_abc {ws : List Str} {p : Nat} (h : ∀ z ∈ ws, isWord z = true) : Abc (col ws p) := fun c hc => by
  obtain ⟨z, hz, e⟩ := List.mem_filterMap.mp hc
  exact (isWord_iff.mp (h z hz)).2 c (List.mem_reverse.mp (List.mem_of_getElem? e))
theorem flat_abc {α : Type} {l : List α} {f : α → List Nat} (h : ∀ x ∈ l, Abc (f x)) : Abc (l.map f).flatten := fun c hc => by
  obtain ⟨m, hm, hc⟩ := List.mem_flatten.mp hc
  obtain ⟨x, hx, rfl⟩ := List.mem_map.mp hm
  exact h x hx c hc
theorem raw_abc {ws : List Str} (h : ∀ z ∈ ws, isWord z = true) : Abc (rawSum ws) := flat_abc fun p _ => col_abc h
theorem words_of {b : Int} {ss : List WSum} (V : Valid b ss) {s : WSum} (hs : s ∈ ss) : ∀ z ∈ s.1 ++ [s.2], isWord z = true := fun z hz => V.words z (mem_wordsOf hs ((List.mem_append.mp hz).elim .inl fun h => .inr (by simpa using h)))
theorem rawOf_abc {b : Int} {ss : List WSum} (V : Valid b ss) (n : Nat) : Abc (rawOf (ss.take n)) := flat_abc fun s hs => raw_abc (words_of V (List.mem_of_mem_take hs))
theorem rawOf_take {ss : List WSum} {i : Nat} {s : WSum} (h : ss[i]? = some s) : rawOf (ss.take (i + 1)) = rawOf (ss.take i) ++ rawSum (s.1 ++ [s.2]) := by
  unfold rawOf
  rw [List.take_add_one, h, List.map_append, List.flatten_append]
  simp
theorem range_flat (f : Nat → List Nat) (j : Nat) : ((List.range (j + 1)).map f).flatten = ((List.range j).map f).flatten ++ f j := by
  rw [List.range_succ, List.map_append, List.flatten_append]
  simp
theorem maxLen_fold (ws : List Str) : ∀ a : Nat, a ≤ ws.foldl (fun a z => max a z.length) a ∧ (∀ z ∈ ws, z.length ≤ ws.foldl (fun a z => max a z.length) a) ∧ (ws.foldl (fun a z => max a z.length) a = a ∨ ∃ z ∈ ws, ws.foldl (fun a z => max a z.length) a = z.length) := by
  induction ws with
  | nil => intro a; exact ⟨Nat.le_refl _, (fun z hz => nomatch hz), .inl rfl⟩
  | cons x r ih =>
    intro a
    obtain ⟨h1, h2, h3⟩ := ih (max a x.length)
    rw [List.foldl_cons]
    refine ⟨by omega, fun z hz => ?_, ?_⟩
    · rcases List.mem_cons.mp hz with rfl | hz
      · omega
      · exact h2 z hz
    · rcases h3 with h3 | ⟨z, hz, h3⟩
      · rw [h3]
        by_cases c : a ≤ x.length
        · exact .inr ⟨x, List.mem_cons_self, by omega⟩
        · exact .inl (by omega)
      · exact .inr ⟨z, List.mem_cons_of_mem _ hz, h3⟩
theorem maxLen_le {ws : List Str} {z : Str} (h : z ∈ ws) : z.length ≤ maxLen ws := (maxLen_fold ws 0).2.1 z h
theorem maxLen_is {ws : List Str} {m : Int} (h : m ∈ ws.map fun z => (z.length : Int)) (hle : ∀ n ∈ ws.map (fun z => (z.length : Int)), n ≤ m) : m = maxLen ws := by
  obtain ⟨z, hz, rfl⟩ := List.mem_map.mp h
  have h1 := maxLen_le hz
  rcases (maxLen_fold ws 0).2.2 with h2 | ⟨y, hy, h2⟩
  · have h2 : maxLen ws = 0 := h2
    omega
  · have h2 : maxLen ws = y.length := h2
    have := hle _ (List.mem_map.mpr ⟨y, hy, rfl⟩)
    omega
theorem maxLen_bound {ws : List Str} {m : Nat} (h : ∀ z ∈ ws, z.length ≤ m) : maxLen ws ≤ m := by
  rcases (maxLen_fold ws 0).2.2 with h2 | ⟨y, hy, h2⟩
  · have h2 : maxLen ws = 0 := h2
    omega
  · have h2 : maxLen ws = y.length := h2
    have := h y hy
    omega
theorem rev_at {xs : List Nat} {p : Nat} (h : p < xs.length) : atI xs (-1 - (p : Int)) = xs.reverse[p]? := by
  unfold atI ixN
  rw [if_neg (by omega), if_pos (by omega), List.getElem?_reverse h]
  show xs[_]? = _
  congr 1
  omega
theorem letterAt_some {z : Str} {p c : Nat} (h : z.cps.toList.reverse[p]? = some c) : letterAt z p = ⟨#[c]⟩ := by
  unfold letterAt; rw [h]
theorem letterAt_none {z : Str} {p : Nat} (h : z.cps.toList.reverse[p]? = none) : letterAt z p = Str.empty := by
  unfold letterAt; rw [h]
theorem rev_some {z : Str} {p : Nat} (h : p < z.length) : ∃ c, z.cps.toList.reverse[p]? = some c := by
  have e : z.cps.toList.reverse.length = z.length := by rw [List.length_reverse] <;> exact Array.length_toList
  exact ⟨_, List.getElem?_eq_getElem (by omega)⟩
theorem rev_none {z : Str} {p : Nat} (h : ¬ p < z.length) : z.cps.toList.reverse[p]? = none := by
  have e : z.cps.toList.reverse.length = z.length := by rw [List.length_reverse] <;> exact Array.length_toList
  exact List.getElem?_eq_none (by omega)
theorem col_snoc_some {ws : List Str} {z : Str} {p c : Nat} (h : z.cps.toList.reverse[p]? = some c) : col (ws ++ [z]) p = col ws p ++ [c] := by
  unfold col; rw [List.filterMap_append]; simp [h]
theorem col_snoc_none {ws : List Str} {z : Str} {p : Nat} (h : z.cps.toList.reverse[p]? = none) : col (ws ++ [z]) p = col ws p := by
  unfold col; rw [List.filterMap_append]; simp [h]
theorem take_snoc {α : Type} {l : List α} {i : Nat} {x : α} (h : l[i]? = some x) : l.take (i + 1) = l.take i ++ [x] := by
  rw [List.take_add_one, h] <;> rfl
/-- a dict of letters, each True -/
def kvOf (c : Nat) : Key × V := (Sum.inr ⟨#[c]⟩, .bl true)
theorem kv_inj {c d : Nat} (h : (⟨#[c]⟩ : Str) = ⟨#[d]⟩) : c = d := by
  have := congrArg (fun s : Str => s.cps.toList) h
  simpa using this
theorem put_kv (L : List Nat) (c : Nat) : putK (L.map kvOf) (Sum.inr ⟨#[c]⟩ : Key) (.bl true) = (addN L c).map kvOf := by
  unfold putK addN
  have hany : ((L.map kvOf).any fun kv => decide (kv.1 = (Sum.inr ⟨#[c]⟩ : Key))) = decide (c ∈ L) := by
    induction L with
    | nil => simp
    | cons d r ih =>
      rw [List.map_cons, List.any_cons, ih]
      by_cases e : d = c
      · subst e; simp [kvOf]
      · have : ¬ ((kvOf d).1 = (Sum.inr ⟨#[c]⟩ : Key)) := fun h => e (kv_inj (Sum.inr.inj h))
        rw [decide_eq_false this]
        have e' : ¬ c = d := fun h => e h.symm
        simp [e']
  rw [hany]
  by_cases h : c ∈ L
  · rw [decide_eq_true h, if_pos rfl, if_pos h, List.map_map]
    apply List.map_congr_left
    intro d _
    show (if (kvOf d).1 = _ then ((kvOf d).1, V.bl true) else kvOf d) = kvOf d
    split <;> rfl
  · rw [decide_eq_false h, if_neg Bool.false_ne_true, if_neg h, List.map_append] <;> rfl
end WS
set_option maxRecDepth 100000
set_option maxHeartbeats 8000000
namespace WS
open PySem L2 SetT
def spLetterAt : Sp := fun vs H Q _ => ∃ (z : Str) (p : Nat), vs = [.str z, .int (p : Nat)] ∧ z.length ≤ 1000 ∧ Q (.str (letterAt z p)) H
def spColCount (K : PySem.W.Frag) : Sp := fun vs H Q _ => ∃ (u : Addr) (ws : List Str) (tot : Str), vs = [.ref u, .str tot] ∧ H u = some (.tup (ws.map V.str)) ∧ (∀ z ∈ ws ++ [tot], z.length ≤ 1000) ∧ ws.length ≤ 1000 ∧ ∀ H', Same H H' → Q (.int (maxLen (ws ++ [tot]) : Nat)) H'
def spColOf (K : PySem.W.Frag) : Sp := fun vs H Q _ => ∃ (q : Addr) (ws : List Str) (p : Nat), vs = [.ref q, .int (p : Nat)] ∧ H q = some (.tup (ws.map V.str)) ∧ (∀ z ∈ ws, z.length ≤ 1000) ∧ ws.length ≤ 1000 ∧ ∀ D H', H D = none → Same H H' → H' D = some (.lst ((col ws p).map sg)) → Q (.ref D) H'
section
variable {P : Program} {w : World} {K : PySem.W.Frag} {mg : Str → Option Value} {base : Heap}
theorem scLetterAt : FnScope ["word", "place"] ["word", "place"] (defScope sLetterAt) := ⟨rfl, rfl, rfl, by decide +kernel, rfl, by decide +kernel, by decide +kernel⟩
theorem ok_letterat {f : Addr} {fd : FuncData} (F : Fun K "letter_at" "letter_at" sLetterAt f fd) (z_len : mg "len" = none) : FnOk P w K mg base CX0 1 f fd ["word", "place"] spLetterAt := by
  refine F.ok scLetterAt (fun vs H Q E h => ?_) (fun cdv A outer s H vs Q E hr h => ?_)
  · obtain ⟨z, p, rfl, _⟩ := h
    rfl
  · obtain ⟨z, p, rfl, hz, k⟩ := h
    refine ⟨_, (pss_one (ps_ret (pe_ifExp (pt_cmpR op_lt (pv 1) (pe_callB call_len_str (by rfl) z_len PySem.boot_len (pa_cons (pv 0) pa_nil)) (nomark _)) (pe_ix (r := rIxS) ix_str (pv 0) (pe_op op_sub (pe_un un_neg pe_int) (pv 1)) (fun _ _ => rfl)) pe_str))), ?_⟩
    refine ⟨_, rfl, _, rfl, z, rfl, line_of (by omega), _, _, rfl, rfl, _, rfl, ite2 (fun c => ?_) (fun c => ?_)⟩
    · have hp : p < z.length := by have := of_decide_eq_true c; omega
      obtain ⟨ch, hc⟩ := rev_some hp
      refine ⟨_, rfl, 1, rfl, _, rfl, _, _, rfl, rfl, z, -1 - (p : Int), ch, rfl, rfl, line_of (by omega), ?_, ?_⟩
      · rw [rev_at (show p < z.cps.toList.length by rw [Array.length_toList]; exact hp)]
        exact hc
      · rw [letterAt_some hc] at k
        exact k
    · have hp : ¬ p < z.length := fun h => c (decide_eq_true (by omega))
      rw [letterAt_none (rev_none hp)] at k
      exact k
theorem scColCount : FnScope ["addends", "total", "word"] ["addends", "total"] (defScope sColCount) := ⟨rfl, rfl, rfl, by decide +kernel, rfl, by decide +kernel, by decide +kernel⟩
theorem ok_colcount {f : Addr} {fd : FuncData} (F : Fun K "column_count" "column_count" sColCount f fd) (z_len : mg "len" = none) (z_max : mg "max" = none) : FnOk P w K mg base CX0 1 f fd ["addends", "total"] (spColCount K) := by
  refine F.ok scColCount (fun vs H Q E h => ?_) (fun cdv A outer s H vs Q E hr h => ?_)
  · obtain ⟨u, ws, tot, rfl, _⟩ := h
    rfl
  · obtain ⟨u, ws, tot, rfl, hu1, hz, hn, k⟩ := h
    have nd := scColCount.nd
    refine ⟨_, (pss_one (ps_ret (pe_callB (cr_max rfl) (by rfl) z_max (by decide +kernel) (pa_cons (pe_lc (own := [("word", 2)]) (g := (gName 2)) (tt := tYes) rfl nd (pi_tup (pe_tup (StX.pa_star (pv 0) (pa_cons (pv 1) pa_nil)))) (blkOk_by (own := [("word", 2)]) (N := ["addends", "total", "word"]) (sc := defScope sColCount) (by decide +kernel)) (fun _ _ _ _ _ => (pg_name (i := 2) nd rfl (.inl rfl))) (fun _ _ _ _ _ => pts_nil) (fun _ _ _ _ _ => (pe_callB call_len_str (by rfl) z_len PySem.boot_len (pa_cons (pv 2) pa_nil)))) pa_nil)))), ?_⟩
    refine ⟨_, rfl, u, _, rfl, .inl (SqT.of hu1), _, rfl, ?_, fun q hq => ?_⟩
    · rw [List.length_append, List.length_map]
      exact line_of (by show _ + 1 ≤ _; omega)
    refine ⟨q, rfl, ⟨_, SqT.of upd_same⟩, fun D hD => ?_⟩
    have hy : ws.map V.str ++ [V.str tot] = (ws ++ [tot]).map V.str := by rw [List.map_append] <;> rfl
    rw [hy] at hD ⊢
    refine lc_tup (K := K) (a := q) (xs := (ws ++ [tot]).map V.str) (fun j H4 => H4 = upd (upd H q (.tup ((ws ++ [tot]).map V.str))) D (.lst ((((ws ++ [tot]).take j).map fun z => (z.length : Int)).map V.int))) rfl
      (fun j H4 _ e => by rw [e]; exact SqT.of ((upd_ne (ne_of_none upd_same hD)).trans upd_same)) ?_ ?_
    · rintro j y H4 hj rfl
      obtain ⟨z, hz', rfl⟩ := strs_at' hj
      have hjl : j < (ws ++ [tot]).length := (List.getElem?_eq_some_iff.mp hz').1
      rw [List.length_append] at hjl
      have hjl' : j < ws.length + 1 := hjl
      refine ⟨rfl, _, rfl, z, rfl, line_of (by have := hz z (List.mem_of_getElem? hz'); omega), _, upd_same, ?_, ?_⟩
      · rw [List.length_map, List.length_map, List.length_take]
        exact line_lt (by omega)
      · have e : (((ws ++ [tot]).take (j + 1)).map fun z => (z.length : Int)).map V.int = (((ws ++ [tot]).take j).map fun z => (z.length : Int)).map V.int ++ [V.int (z.length : Nat)] := by
          rw [take_snoc hz', List.map_append, List.map_append] <;> rfl
        rw [upd_upd, e]
    · rintro H4 rfl
      rw [List.length_map, List.take_length]
      refine ⟨D, _, rfl, SqL.of upd_same, ?_, fun m hm hle => ?_⟩
      · rw [List.length_map, List.length_append]
        show 0 < _ + 1
        omega
      · rw [maxLen_is hm hle]
        exact k _ (Same.mut (Same.new hq) (by rw [upd_ne (Ne.symm (ne_of_none upd_same hD))] at hD; exact hD))
theorem scColOf : FnScope ["words", "place", "word"] ["words", "place"] (defScope sColOf) := ⟨rfl, rfl, rfl, by decide +kernel, rfl, by decide +kernel, by decide +kernel⟩
theorem ok_colof {f fA : Addr} {fd fdA : FuncData} (F : Fun K "column_of" "column_of" sColOf f fd) (z_len : mg "len" = none) (S_letter_at : Site K mg "letter_at" fA fdA ["word", "place"]) (G_letter_at : FnOk P w K mg base CX0 1 fA fdA ["word", "place"] spLetterAt) :
    FnOk P w K mg base CX0 2 f fd ["words", "place"] (spColOf K) := by
  refine F.ok scColOf (fun vs H Q E h => ?_) (fun cdv A outer s H vs Q E hr h => ?_)
  · obtain ⟨q, ws, p, rfl, _⟩ := h
    rfl
  · obtain ⟨q, ws, p, rfl, hq, hz, hn, k⟩ := h
    have nd := scColOf.nd
    have hr_letter_at := hr
    refine ⟨_, (pss_one (ps_ret (pe_lc (own := [("word", 2)]) (g := (gName 2))  rfl nd (pi_tup (pv 0)) (blkOk_by (own := [("word", 2)]) (N := ["words", "place", "word"]) (sc := defScope sColOf) (by decide +kernel)) (fun _ _ _ _ _ => (pg_name (i := 2) nd rfl (.inl rfl))) (fun _ _ _ _ _ => pts_one (pt_cmpR op_lt (pv 1) (pe_callB call_len_str (by rfl) z_len PySem.boot_len (pa_cons (pv 2) pa_nil)) (nomark _))) (fun _ _ _ _ _ => (pe_call G_letter_at hr_letter_at (by rfl) S_letter_at.g S_letter_at.k S_letter_at.b .nil pass0 (pa_cons (pv 2) (pa_cons (pv 1) pa_nil))))))), ?_⟩
    refine ⟨_, rfl, q, rfl, ⟨_, SqT.of hq⟩, fun D hD => ?_⟩
    refine lc_tup (K := K) (a := q) (xs := ws.map V.str) (fun j H4 => H4 = upd H D (.lst ((col (ws.take j) p).map sg))) rfl
      (fun j H4 _ e => by rw [e]; exact SqT.of ((upd_ne (ne_of_none hq hD)).trans hq)) ?_ ?_
    · rintro j y H4 hj rfl
      obtain ⟨z, hz', rfl⟩ := strs_at' hj
      have hjl : j < ws.length := (List.getElem?_eq_some_iff.mp hz').1
      have hzl := hz z (List.mem_of_getElem? hz')
      refine ⟨rfl, _, rfl, _, rfl, z, rfl, line_of (by omega), _, _, rfl, rfl, _, rfl, ite2 (fun c => ?_) (fun c => ?_)⟩
      · have hp : p < z.length := by have := of_decide_eq_true c; omega
        obtain ⟨ch, hc⟩ := rev_some hp
        refine ⟨_, rfl, _, rfl, z, p, rfl, hzl, _, upd_same, ?_, ?_⟩
        · have : (col (ws.take j) p).length ≤ ws.length := Nat.le_trans (List.length_filterMap_le _ _) (by rw [List.length_take]; omega)
          rw [List.length_map]
          exact line_lt (by omega)
        · rw [upd_upd, take_snoc hz', col_snoc_some hc, letterAt_some hc, List.map_append] <;> rfl
      · have hp : ¬ p < z.length := fun h => c (decide_eq_true (by omega))
        show upd H D _ = upd H D _
        rw [take_snoc hz', col_snoc_none (rev_none hp)]
    · rintro H4 rfl
      rw [List.length_map, List.take_length]
      exact k D _ hD (Same.new hD) upd_same
end
end WS
set_option maxRecDepth 100000
set_option maxHeartbeats 8000000
namespace WS
open PySem L2 SetT
theorem bk_ne : ¬ (("base" : Str) = "kept") := by decide +kernel
/-- a sheet's attributes, in the order in which they are stored -/
def flds (b : Int) (kl : Addr) : List (Str × V) := putF "kept" (.ref kl) (putF "base" (.int b) [])
theorem flds_kept (b : Int) (kl : Addr) : (flds b kl).lookup ("kept" : Str) = some (.ref kl) := by
  unfold flds; rw [lookup_putF, if_pos rfl]
theorem flds_base (b : Int) (kl : Addr) : (flds b kl).lookup ("base" : Str) = some (.int b) := by
  unfold flds; rw [lookup_putF, if_neg bk_ne, lookup_putF, if_pos rfl]
theorem flds_no (b : Int) (kl : Addr) {m : Str} (h1 : ¬ m = "kept") (h2 : ¬ m = "base") : (flds b kl).lookup m = none := by
  unfold flds
  rw [lookup_putF, if_neg h1, lookup_putF, if_neg h2] <;> rfl
/-- a Sheet at p: its base, its list of sums at kl -/
structure ShAt (C : Addr) (H : Hp) (p : Addr) (b : Int) (kl : Addr) (ts : List Addr) : Prop where
  ob : ∃ dx, H p = some (.ins C dx (flds b kl))
  kp : H kl = some (.lst (ts.map V.ref))
theorem ShAt.same {C : Addr} {H H' : Hp} {p : Addr} {b : Int} {kl : Addr} {ts : List Addr} (h : ShAt C H p b kl ts) (e : Same H H') : ShAt C H' p b kl ts := by
  obtain ⟨⟨dx, h1⟩, h2⟩ := h
  exact ⟨⟨dx, e _ _ h1⟩, e _ _ h2⟩
structure SheetTxt (K : PySem.W.Frag) (mg : Str → Option Value) (C : Addr) : Prop where
  cl : Cls K C
  nB : NoAttr K C "base"
  nK : NoAttr K C "kept"
  g : mg "Sheet" = some (.ref C)
def spShInit (C : Addr) : Sp := fun vs H Q _ => ∃ (p dx : Addr) (b : Int) (sl : Addr) (ts : List Addr) (ss : List WSum), vs = [.ref p, .int b, .ref sl] ∧ H p = some (.ins C dx []) ∧ H sl = some (.lst (ts.map V.ref)) ∧ SumsAt H ts ss ∧ Valid b ss ∧
  ∀ kl H', H kl = none → ShAt C H' p b kl ts → (∀ a o, a ≠ p → H a = some o → H' a = some o) → Q .non H'
def spShLetters (C : Addr) : Sp := fun vs H Q _ => ∃ (p : Addr) (b : Int) (kl : Addr) (ts : List Addr) (ss : List WSum), vs = [.ref p] ∧ ShAt C H p b kl ts ∧ SumsAt H ts ss ∧ Valid b ss ∧
  ∀ q H', H q = none → Same H H' → H' q = some (.lst ((lettersOf ss).map sg)) → Q (.ref q) H'
section
variable {P : Program} {w : World} {K : PySem.W.Frag} {mg : Str → Option Value} {base : Heap}
theorem scShInit : FnScope ["self", "base", "sums"] ["self", "base", "sums"] (defScope sShInit) := ⟨rfl, rfl, rfl, by decide +kernel, rfl, by decide +kernel, by decide +kernel⟩
theorem ok_shinit {f C fA fB : Addr} {fd fdA fdB : FuncData} (F : Fun K "__init__" "Sheet.__init__" sShInit f fd) (T : SheetTxt K mg C) (z_list : mg "list" = none)
    (S_check_counts : Site K mg "check_counts" fA fdA ["base", "sums"]) (G_check_counts : FnOk P w K mg base CX0 1 fA fdA ["base", "sums"] spCounts)
    (S_check_sums : Site K mg "check_sums" fB fdB ["base", "sums"]) (G_check_sums : FnOk P w K mg base CX0 2 fB fdB ["base", "sums"] spCheck) :
    FnOk P w K mg base CX0 3 f fd ["self", "base", "sums"] (spShInit C) := by
  refine F.ok scShInit (fun vs H Q E h => ?_) (fun cdv A outer s H vs Q E hr h => ?_)
  · obtain ⟨p, dx, b, sl, ts, ss, rfl, _⟩ := h
    rfl
  · obtain ⟨p, dx, b, sl, ts, ss, rfl, hp, hsl, hsa, V', k⟩ := h
    have nd := scShInit.nd
    have hr_check_counts : Room 1 _ := hr.mono (by decide)
    have hr_check_sums := hr
    refine ⟨_, (pss_cons (ps_expr (pe_call G_check_counts hr_check_counts (by rfl) S_check_counts.g S_check_counts.k S_check_counts.b .nil pass0 (pa_cons (pv 1) (pa_cons (pv 2) pa_nil))))
      (pss_cons (ps_expr (pe_call G_check_sums hr_check_sums (by rfl) S_check_sums.g S_check_sums.k S_check_sums.b .nil pass0 (pa_cons (pv 1) (pa_cons (pv 2) pa_nil))))
      (pss_cons (ps_fld (pv 0) (pv 1) rfl)
      (pss_one (ps_fld (pv 0) (pe_callTy call_list_of (by rfl) z_list (by decide +kernel) (pa_cons (pv 2) pa_nil)) rfl))))), ?_⟩
    have hl := hsa.len
    have hf := V'.few
    refine ⟨_, rfl, _, rfl, b, sl, _, rfl, hsl, V'.b2, V'.b12, by rw [List.length_map]; omega, by rw [List.length_map]; omega, ?_⟩
    refine ⟨_, rfl, _, rfl, b, sl, ts, ss, rfl, hsl, hsa, V', fun H1 s1 => ?_⟩
    have hp1 := s1 _ _ hp
    have hsl1 := s1 _ _ hsl
    have hpsl : sl ≠ p := ne_of hsl1 hp1 (fun z => by cases z)
    refine ⟨_, rfl, _, rfl, p, C, dx, [], rfl, hp1, T.cl, T.nB, (by show 0 < 1000; decide), ?_⟩
    refine ⟨_, rfl, sl, _, rfl, .inl (SqL.of ((upd_ne hpsl).trans hsl1)), fun kl hkl => ?_⟩
    have hpk : p ≠ kl := fun e => by
      rw [← e, upd_same] at hkl
      cases hkl
    have hkl1 : H1 kl = none := by rw [upd_ne (Ne.symm hpk)] at hkl; exact hkl
    refine ⟨_, rfl, p, C, dx, _, rfl, (upd_ne hpk).trans upd_same, T.cl, T.nK, (by show 1 < 1000; decide), ?_⟩
    refine k kl _ (Same.free s1 hkl1) ⟨⟨dx, upd_same⟩, (upd_ne (Ne.symm hpk)).trans upd_same⟩ fun a o ha hao => ?_
    rw [upd_ne ha, upd_ne (ne_of_none (s1 _ _ hao) hkl1), upd_ne ha]
    exact s1 _ _ hao
theorem scShLetters : FnScope ["self", "met", "addends", "total", "place", "letter"] ["self"] (defScope sShLetters) := ⟨rfl, rfl, rfl, by decide +kernel, rfl, by decide +kernel, by decide +kernel⟩
theorem ok_shletters {f C fA fB : Addr} {fd fdA fdB : FuncData} (F : Fun K "letters" "Sheet.letters" sShLetters f fd) (T : SheetTxt K mg C) (z_list : mg "list" = none) (z_range : mg "range" = none)
    (S_column_count : Site K mg "column_count" fA fdA ["addends", "total"]) (G_column_count : FnOk P w K mg base CX0 1 fA fdA ["addends", "total"] (spColCount K))
    (S_column_of : Site K mg "column_of" fB fdB ["words", "place"]) (G_column_of : FnOk P w K mg base CX0 2 fB fdB ["words", "place"] (spColOf K)) :
    FnOk P w K mg base CX0 3 f fd ["self"] (spShLetters C) := by
  refine F.ok scShLetters (fun vs H Q E h => ?_) (fun cdv A outer s H vs Q E hr h => ?_)
  · obtain ⟨p, b, kl, ts, ss, rfl, _⟩ := h
    rfl
  · obtain ⟨p, b, kl, ts, ss, rfl, A', hsa, V', k⟩ := h
    have nd := scShLetters.nd
    have hu := hu_of hr
    have hr_column_count : Room 1 _ := hr.mono (by decide)
    have hr_column_of := hr
    obtain ⟨⟨dx, hp⟩, hkl⟩ := id A'
    refine ⟨_, (pss_cons (ps_set (i := 1) nd rfl (.inl rfl) pe_dnewK)
      (pss_cons (ps_for PassesOwn.never rfl (pi_list (pe_fld (pv 0) rfl)) (pg_tup rfl (pgs_cons (pg_name (i := 2) nd rfl (.inl rfl)) (pgs_cons (pg_name (i := 3) nd rfl (.inl rfl)) pgs_nil))) (pss_one (ps_for PassesOwn.never rfl (pi_range1 (by rfl) z_range (pa_cons (pe_call G_column_count hr_column_count (by rfl) S_column_count.g S_column_count.k S_column_count.b .nil pass0 (pa_cons (pv 2) (pa_cons (pv 3) pa_nil))) pa_nil)) (pg_name (i := 4) nd rfl (.inl rfl)) (pss_one (ps_for PassesOwn.never rfl (pi_list (pe_call G_column_of hr_column_of (by rfl) S_column_of.g S_column_of.k S_column_of.b .nil pass0 (pa_cons (pe_tup (StX.pa_star (pv 2) (pa_cons (pv 3) pa_nil))) (pa_cons (pv 4) pa_nil)))) (pg_name (i := 5) nd rfl (.inl rfl)) (pss_one (ps_dput hu (pv 1) (pv 5) pe_bl rfl)))))))
      (pss_one (ps_ret (pe_callTy (call_list_dK rfl) (by rfl) z_list (by decide +kernel) (pa_cons (pv 1) pa_nil)))))), ?_⟩
    refine fun m hm => ?_
    have hkm : kl ≠ m := ne_of_none hkl hm
    refine ⟨_, rfl, p, C, dx, _, _, rfl, (upd_ne (ne_of_none hp hm)).trans hp, T.cl, T.nK, flds_kept _ _, kl, rfl, ⟨_, SqL.of ((upd_ne hkm).trans hkl)⟩,
      for_list (K := K) (a := kl) (xs := ts.map V.ref) (fun i σ H2 => ∃ v2 v3 v4 v5, σ = [some (.ref p), some (.ref m), v2, v3, v4, v5] ∧ Same H H2 ∧ H2 m = some (.dK ((dd (rawOf (ss.take i))).map kvOf)))
      ⟨none, none, none, none, rfl, Same.new hm, upd_same⟩ (fun i σ H2 _ ⟨_, _, _, _, _, s2, _⟩ => SqL.of (s2 _ _ hkl)) ?_ ?_⟩
    · rintro i x σ H2 hi ⟨v2, v3, v4, v5, rfl, s2, hm2⟩
      obtain ⟨t, ht, rfl⟩ := refs_at hi
      have hil : i < ts.length := (List.getElem?_eq_some_iff.mp ht).1
      have hiss : i < ss.length := hsa.len ▸ hil
      have hs : ss[i]? = some ss[i] := List.getElem?_eq_getElem hiss
      generalize hsg : ss[i] = sm at hs
      have hsm : sm ∈ ss := List.mem_of_getElem? hs
      obtain ⟨u, ht1, hu1⟩ := (hsa.get i t sm ht hs).same s2
      have hw := words_of V' hsm
      have hwl : ∀ z ∈ sm.1 ++ [sm.2], z.length ≤ 6 := fun z hz => (isWord_iff.mp (hw z hz)).1.2
      obtain ⟨m1, m4⟩ := V'.many sm hsm
      have hml := maxLen_bound hwl
      refine ⟨t, _, rfl, SqT.of ht1, rfl, _, _, rfl, _, _, rfl, rfl, ?_⟩
      refine ⟨_, rfl, _, rfl, u, sm.1, sm.2, rfl, hu1, fun z hz => by have := hwl z hz; omega, by omega, fun H3 s3 => ?_⟩
      have s03 := s2.trans s3
      refine ⟨_, rfl, by omega, by omega, for_range (lo := 0) (n := ((maxLen (sm.1 ++ [sm.2]) : Nat) : Int).toNat) (fun j σ H4 => ∃ v4 v5, σ = [some (.ref p), some (.ref m), some (.ref u), some (.str sm.2), v4, v5] ∧ Same H H4 ∧
          H4 m = some (.dK ((dd (rawOf (ss.take i) ++ ((List.range j).map (col (sm.1 ++ [sm.2]))).flatten)).map kvOf)))
        ⟨v4, v5, rfl, s03, ?_⟩ ?_ ?_⟩
      · rw [s3 _ _ hm2]; simp
      · rintro j σ H4 hj ⟨v4', v5', rfl, s4, hm4⟩
        obtain ⟨u', ht4, hu4⟩ := (hsa.get i t sm ht hs).same s4
        have hu4 : H4 u = some (.tup (sm.1.map V.str)) := by
          have h1 := s4 t _ ((hsa.get i t sm ht hs).choose_spec.1)
          rw [ht4] at h1
          have h2 := (HO.tup.inj (Option.some.inj h1))
          have h3 := s2 t _ ((hsa.get i t sm ht hs).choose_spec.1)
          rw [ht1] at h3
          have h4 := (HO.tup.inj (Option.some.inj h3))
          rw [← h4] at h2
          injection h2 with h2 _
          injection h2 with h2
          rw [← h2]; exact hu4
        refine ⟨_, rfl, u, _, rfl, .inl (SqT.of hu4), _, rfl, ?_, fun q hq => ?_⟩
        · rw [List.length_append, List.length_map]
          exact line_of (by show _ + 1 ≤ _; omega)
        have hy : sm.1.map V.str ++ [V.str sm.2] = (sm.1 ++ [sm.2]).map V.str := by rw [List.map_append] <;> rfl
        rw [hy]
        refine ⟨_, rfl, q, sm.1 ++ [sm.2], j, (by rw [Int.zero_add] <;> rfl), upd_same, fun z hz => by have := hwl z hz; omega, by rw [List.length_append]; show _ + 1 ≤ _; omega, fun D H5 hD s5 hD5 => ?_⟩
        have s45 : Same H4 H5 := (Same.new hq).trans s5
        have hm5 := s45 _ _ hm4
        have hmD : m ≠ D := ne_of hm5 hD5 (fun z => by cases z)
        have rabc := rawOf_abc V' i
        have cabc : Abc ((List.range j).map (col (sm.1 ++ [sm.2]))).flatten := flat_abc fun p _ => col_abc hw
        refine ⟨D, rfl, ⟨_, SqL.of hD5⟩, for_list (K := K) (a := D) (xs := (col (sm.1 ++ [sm.2]) j).map sg) (fun n σ H6 => ∃ v5, σ = [some (.ref p), some (.ref m), some (.ref u), some (.str sm.2), some (.int (0 + (j : Int))), v5] ∧ Same H H6 ∧ H6 D = some (.lst ((col (sm.1 ++ [sm.2]) j).map sg)) ∧
            H6 m = some (.dK ((dd (rawOf (ss.take i) ++ ((List.range j).map (col (sm.1 ++ [sm.2]))).flatten ++ (col (sm.1 ++ [sm.2]) j).take n)).map kvOf)))
          ⟨_, rfl, s4.trans s45, hD5, by rw [hm5]; simp⟩ (fun n σ H6 _ ⟨_, _, _, h, _⟩ => SqL.of h) ?_ ?_⟩
        · rintro n y σ H6 hn ⟨v5'', rfl, s6, hD6, hm6⟩
          obtain ⟨c, hc, rfl⟩ : ∃ c, (col (sm.1 ++ [sm.2]) j)[n]? = some c ∧ y = sg c := by
            rw [List.getElem?_map] at hn
            cases e : (col (sm.1 ++ [sm.2]) j)[n]? with
            | none => rw [e] at hn; cases hn
            | some c => rw [e] at hn; exact ⟨c, rfl, (Option.some.inj hn).symm⟩
          refine ⟨_, rfl, _, rfl, m, _, rfl, DPut.k (k := Sum.inr ⟨#[c]⟩) hm6 ?_, ?_⟩
          · rw [List.length_map]
            have := ((rabc.append cabc).append ((col_abc hw (p := j)).take n)).len
            exact small1000 (by omega)
          · refine ⟨_, rfl, Same.mut s6 hm, (upd_ne (Ne.symm hmD)).trans hD6, ?_⟩
            · rw [upd_same, put_kv, ← dd_snoc, List.append_assoc, List.append_assoc, List.append_assoc, ← take_snoc hc]
        · rintro σ H6 ⟨v5'', rfl, s6, hD6, hm6⟩
          refine ⟨_, _, rfl, s6, ?_⟩
          rw [hm6, List.length_map, List.take_length, range_flat, List.append_assoc]
      · rintro σ H4 ⟨v4', v5', rfl, s4, hm4⟩
        refine ⟨_, _, _, _, rfl, s4, ?_⟩
        rw [hm4, rawOf_take hs]
        rfl
    · rintro σ H2 ⟨v2, v3, v4, v5, rfl, s2, hm2⟩
      rw [List.length_map, hsa.len, List.take_length] at hm2
      refine ⟨_, rfl, m, _, rfl, hm2, fun q hq => ?_⟩
      refine k q _ (Same.free s2 hq) (s2.trans (Same.new hq)) ?_
      rw [upd_same, List.map_map] <;> rfl
end
end WS
set_option maxRecDepth 100000
set_option maxHeartbeats 8000000
namespace WS
open PySem L2 SetT RevS
theorem txt_join (s : Str) (ws : List Str) : Txt.join s ws = Str.join s ws := PySem.StrLaws.glued_eq_join s ws
def spSumRow (K : PySem.W.Frag) : Sp := fun vs H Q _ => ∃ (q : Addr) (s : WSum), vs = [.ref q, .str s.2] ∧ (SqL K H q (s.1.map V.str) ∨ SqT K H q (s.1.map V.str)) ∧ s.1.length ≤ 4 ∧ (∀ z ∈ s.1 ++ [s.2], z.length ≤ 6) ∧ Q (.str (rowS s)) H
section
variable {P : Program} {w : World} {K : PySem.W.Frag} {mg : Str → Option Value} {base : Heap}
theorem scSumRow : FnScope ["addends", "total"] ["addends", "total"] (defScope sSumRow) := ⟨rfl, rfl, rfl, by decide +kernel, rfl, by decide +kernel, by decide +kernel⟩
theorem ok_sumrow {f : Addr} {fd : FuncData} (F : Fun K "sum_row" "sum_row" sSumRow f fd) : FnOk P w K mg base CX0 1 f fd ["addends", "total"] (spSumRow K) := by
  refine F.ok scSumRow (fun vs H Q E h => ?_) (fun cdv A outer s H vs Q E hr h => ?_)
  · obtain ⟨q, s, rfl, _⟩ := h
    rfl
  · obtain ⟨q, sm, rfl, hq, h4, hz, k⟩ := h
    have nd := scSumRow.nd
    have hl := row_len h4 hz
    have hs : (sm.1.map (·.length)).sum ≤ sm.1.length * 6 := sum_map_le fun z h => hz z (List.mem_append_left _ h)
    have h6 := hz sm.2 (List.mem_append_right _ List.mem_cons_self)
    refine ⟨_, (pss_one (ps_ret (pe_op op_add_str (pe_op op_add_str (pe_join pe_str (pv 0)) pe_str) (pv 1)))), ?_⟩
    refine ⟨⟨_, rfl⟩, _, rfl, plusT, q, sm.1, rfl, rfl, hq, ?_, ?_⟩
    · rw [show plusT.length = 3 from rfl]
      omega
    rw [txt_join]
    have e3 : (" = " : Str).length = 3 := rfl
    refine ⟨_, _, rfl, rfl, line_of (by omega), _, rfl, _, _, rfl, rfl, line_of (by rw [PySem.Str.length_append]; omega), k⟩
end
end WS
set_option maxRecDepth 100000
set_option maxHeartbeats 8000000
namespace WS
open PySem L2 SetT
/-- whether a row is that of a base -/
def isBaseB (row : Str) : Bool := Txt.startswith row aheadT && (decide (1 ≤ (Txt.removeprefix row aheadT).length) && (decide ((Txt.removeprefix row aheadT).length ≤ 2) && (!decide ((Txt.removeprefix row aheadT).cps.toList[0]? = some 48) && (Txt.removeprefix row aheadT).cps.toList.all fun c => decide (c ∈ figT.cps.toList))))
/-- the words of a sum's row, the total as the last -/
def wordsOfB (row : Str) : List Str := if (evens (Txt.split row (" " : Str))).all isWord = true ∧ rowS ((evens (Txt.split row (" " : Str))).dropLast, (evens (Txt.split row (" " : Str))).getLastD "") = row then evens (Txt.split row (" " : Str)) else []
theorem wordsOfB_row {s : WSum} (h1 : s.1 ≠ []) (hw : ∀ z ∈ s.1 ++ [s.2], isWord z = true) : wordsOfB (rowS s) = s.1 ++ [s.2] := by
  have e : evens (Txt.split (rowS s) (" " : Str)) = s.1 ++ [s.2] := by rw [row_split h1 hw, toks_evens]
  unfold wordsOfB
  rw [e, if_pos]
  refine ⟨List.all_eq_true.mpr hw, ?_⟩
  rw [List.dropLast_concat, List.getLastD_concat]
theorem evens_len {α : Type} : ∀ l : List α, (evens l).length ≤ l.length
  | [] => Nat.le_refl _
  | [x] => Nat.le_refl _
  | x :: y :: r => by
    have := evens_len r
    show (evens r).length + 1 ≤ r.length + 1 + 1
    omega
theorem evens_ne {α : Type} : ∀ {l : List α}, l ≠ [] → evens l ≠ []
  | [], h => absurd rfl h
  | [x], _ => by simp [evens]
  | x :: y :: r, _ => by simp [evens]
theorem evens_sub {α : Type} : ∀ {l : List α} {z : α}, z ∈ evens l → z ∈ l
  | [], _, h => h
  | [x], _, h => h
  | x :: y :: r, z, h => by
    rcases List.mem_cons.mp h with rfl | h
    · exact List.mem_cons_self
    · exact List.mem_cons_of_mem _ (List.mem_cons_of_mem _ (evens_sub h))
theorem join_mem_le (s : Str) : ∀ {ps : List Str} {z : Str}, z ∈ ps → z.length ≤ (Str.join s ps).length
  | [x], z, h => by rw [List.mem_singleton.mp h]; exact Nat.le_refl _
  | x :: y :: r, z, h => by
    show z.length ≤ (x ++ s ++ Str.join s (y :: r)).length
    rw [PySem.Str.length_append, PySem.Str.length_append]
    rcases List.mem_cons.mp h with rfl | h
    · omega
    · have := join_mem_le s h
      omega
theorem split_item_le {x y z : Str} (h : z ∈ Txt.split x y) : z.length ≤ x.length := by
  have h1 := PySem.StrLaws.join_split x y
  have := join_mem_le y h
  rw [h1] at this
  exact this
theorem wordsOfB_words {row : Str} : ∀ z ∈ wordsOfB row, isWord z = true := by
  unfold wordsOfB
  intro z hz
  split at hz
  · rename_i h
    exact List.all_eq_true.mp h.1 z hz
  · cases hz
/-- the sum that a row tells -/
def sumOfRow (r : Str) : WSum := ((wordsOfB r).dropLast, (wordsOfB r).getLastD "")
theorem sumOfRow_cat {r : Str} (h : wordsOfB r ≠ []) : (sumOfRow r).1 ++ [(sumOfRow r).2] = wordsOfB r := by
  unfold sumOfRow
  obtain ⟨wi, wl, e⟩ : ∃ wi wl, wordsOfB r = wi ++ [wl] := ⟨(wordsOfB r).dropLast, (wordsOfB r).getLast h, (List.dropLast_concat_getLast h).symm⟩
  rw [e, List.dropLast_concat, List.getLastD_concat]
theorem sumOfRow_row {s : WSum} (h1 : s.1 ≠ []) (hw : ∀ z ∈ s.1 ++ [s.2], isWord z = true) : sumOfRow (rowS s) = s := by
  unfold sumOfRow
  rw [wordsOfB_row h1 hw, List.dropLast_concat, List.getLastD_concat]
theorem isBaseB_head {b : Int} (B : HeadOk b) : isBaseB (headS b) = true := by
  unfold isBaseB
  rw [B.st, B.rm]
  have l1 := B.l1
  have l2 := B.l2
  rw [decide_eq_true l1, decide_eq_true l2, decide_eq_false B.n0]
  show ((numT b).cps.toList.all fun c => decide (c ∈ figT.cps.toList)) = true
  rw [List.all_eq_true]
  exact fun c hc => decide_eq_true (B.fg c hc)
/-- rows of a sum that are none -/
def odds : List Str := (["", "a + b", "a = b = c", "a+ b = c", "a + b  = c", "a + b = c ", " a = b", "a + = c", "A = b", "a = b1"] : List Str) ++ (["a - b = c", "a =b", "= a", "a = ", "a + b + = c", "abcdefg = a", "base 10", "a=b"] : List Str)
def heads : List Str := ["base", "base 03", "base 100", "base  3", "base 3 ", "Base 3", "3", "base x", "base -3", "", "base +3"]
theorem odds_no : ∀ r ∈ odds, wordsOfB r = [] := by decide +kernel
theorem heads_no : ∀ r ∈ heads, isBaseB r = false := by decide +kernel
theorem odds_len : ∀ r ∈ odds, r.length ≤ 20 ∧ 10 ∉ r.cps.toList := by decide +kernel
theorem heads_len : ∀ r ∈ heads, r.length ≤ 20 ∧ 10 ∉ r.cps.toList := by decide +kernel
theorem noRow : wordsOfB "no row" = [] := by decide +kernel
theorem base_1 : isBaseB "base 1" = true := by decide +kernel
theorem base_13 : isBaseB "base 13" = true := by decide +kernel
end WS
set_option maxRecDepth 100000
set_option maxHeartbeats 8000000
namespace WS
open PySem L2 SetT
def spIsBaseX : Sp := fun vs H Q _ => ∃ (row : Str), vs = [.str row] ∧ row.length ≤ 100 ∧ ∀ H', Same H H' → Q (.bl (isBaseB row)) H'
section
variable {P : Program} {w : World} {K : PySem.W.Frag} {mg : Str → Option Value} {base : Heap}
theorem scIsBaseX : FnScope ["row", "figures", "sign"] ["row"] (defScope sIsBaseRow) := ⟨rfl, rfl, rfl, by decide +kernel, rfl, by decide +kernel, by decide +kernel⟩
theorem rmp_len (row p : Str) : (Txt.removeprefix row p).length ≤ row.length := by
  have h : ∀ (lo hi : Nat), (Builtin.Str.strSub row lo hi).length ≤ row.length := fun lo hi => by
    show (row.cps.extract lo hi).size ≤ row.cps.size
    rw [Array.size_extract]
    omega
  unfold Txt.removeprefix Txt.affix
  split
  · split
    · exact Nat.le_refl _
    · exact h _ _
  · exact Nat.le_refl _
theorem ok_isbaseX {f : Addr} {fd : FuncData} {t1 t2 : Tok} (F : Fun K "is_base_row" "is_base_row" sIsBaseRow f fd) (z_len : mg "len" = none) (z_all : mg "all" = none) (m_AHEAD_OF_BASE : mg "AHEAD_OF_BASE" = some (.str aheadT t1)) (m_FIGURES : mg "FIGURES" = some (.str figT t2)) :
    FnOk P w K mg base CX0 1 f fd ["row"] spIsBaseX := by
  refine F.ok scIsBaseX (fun vs H Q E h => ?_) (fun cdv A outer s H vs Q E hr h => ?_)
  · obtain ⟨b, rfl, _⟩ := h
    rfl
  · obtain ⟨row, rfl, hl, k⟩ := h
    have nd := scIsBaseX.nd
    refine ⟨_, (pss_cons (ps_if (pt_not (pt_val (pe_m1 PySem.F.slot_str_startswith PySem.F.type_str_startswith mt_startswith (pv 0) (pe_glob (v := .str aheadT) (by rfl) m_AHEAD_OF_BASE ⟨_, rfl⟩)))) (pss_one (ps_ret pe_bl)) pss_nil)
      (pss_cons (ps_set (i := 1) nd rfl (.inl rfl) (pe_m1 PySem.F.slot_str_removeprefix PySem.F.type_str_removeprefix mt_removeprefix (pv 0) (pe_glob (v := .str aheadT) (by rfl) m_AHEAD_OF_BASE ⟨_, rfl⟩)))
      (pss_cons (ps_if (PW.pt (pw_or (pt_not (pt_chain op_le op_le pe_int (pe_callB call_len_str (by rfl) z_len PySem.boot_len (pa_cons (pv 1) pa_nil)) pe_int)) (pw_or1 (pt_cmpR op_eq (pe_ix (r := rIxS) ix_str (pv 1) pe_int (fun _ _ => rfl)) pe_str (nomark _))))) (pss_one (ps_ret pe_bl)) pss_nil)
      (pss_one (ps_ret (pe_callB (cr_all rfl) (by rfl) z_all (by decide +kernel) (pa_cons (pe_lc (own := [("sign", 2)]) (g := (gName 2)) (tt := tYes) rfl nd (pi_str (pv 1)) (blkOk_by (own := [("sign", 2)]) (N := ["row", "figures", "sign"]) (sc := defScope sIsBaseRow) (by decide +kernel)) (fun _ _ _ _ _ => (pg_name (i := 2) nd rfl (.inl rfl))) (fun _ _ _ _ _ => pts_nil) (fun _ _ _ _ _ => (pe_cmpR op_in_sign (pv 2) (pe_glob (v := .str figT) (by rfl) m_FIGURES ⟨_, rfl⟩) (by rfl)))) pa_nil))))))), ?_⟩
    unfold isBaseB at k
    refine ⟨_, rfl, ⟨_, rfl⟩, _, _, rfl, rfl, _, rfl, ?_⟩
    cases hst : Txt.startswith row aheadT
    · rw [hst] at k
      exact iteT (k H (Same.refl _))
    rw [hst] at k
    refine iteF ⟨_, rfl, ⟨_, rfl⟩, _, _, rfl, rfl, line_of (by omega), ?_⟩
    have hzl := rmp_len row aheadT
    generalize Txt.removeprefix row aheadT = z at k hzl
    have hz' : z.cps.size ≤ 100 := Nat.le_trans hzl hl
    have hz2 : z.length = z.cps.size := rfl
    refine ⟨_, rfl, z, rfl, line_of (by omega), _, _, rfl, rfl, _, rfl, ?_⟩
    by_cases l1 : 1 ≤ z.length
    case neg =>
      rw [decide_eq_false (show ¬ (1 : Int) ≤ (z.length : Nat) by omega)]
      rw [decide_eq_false l1] at k
      exact iteF ⟨_, rfl, iteT (k H (Same.refl _))⟩
    rw [decide_eq_true (show (1 : Int) ≤ (z.length : Nat) by omega)]
    rw [decide_eq_true l1] at k
    refine iteT ⟨_, _, rfl, rfl, _, rfl, ?_⟩
    by_cases l2 : z.length ≤ 2
    case neg =>
      rw [decide_eq_false (show ¬ ((z.length : Nat) : Int) ≤ 2 by omega)]
      rw [decide_eq_false l2] at k
      exact iteT (k H (Same.refl _))
    rw [decide_eq_true (show ((z.length : Nat) : Int) ≤ 2 by omega)]
    rw [decide_eq_true l2] at k
    obtain ⟨c, hc⟩ : ∃ c, z.cps.toList[0]? = some c := by
      have hl : 0 < z.cps.toList.length := by rw [Array.length_toList]; exact l1
      exact ⟨_, List.getElem?_eq_getElem hl⟩
    refine iteF ⟨_, rfl, z, 0, c, rfl, rfl, line_of (by omega), at_ofG (j := 0) rfl hc, rfl, _, rfl, ?_⟩
    rw [hc] at k
    by_cases h48 : c = 48
    · subst h48
      rw [decide_eq_true (rfl : (some 48 : Option Nat) = some 48)] at k
      rw [decide_eq_true (show V.str ⟨#[48]⟩ = V.str ("0" : Str) from rfl)]
      exact iteT (k H (Same.refl _))
    have hne : decide (V.str ⟨#[c]⟩ = V.str ("0" : Str)) = false := decide_eq_false fun e => h48 (by
      have e1 : (⟨#[c]⟩ : Str) = ⟨#[48]⟩ := V.str.inj e
      have e2 : [c] = [48] := congrArg (fun s : Str => s.cps.toList) e1
      exact (List.cons.inj e2).1)
    rw [hne]
    rw [decide_eq_false (fun e => h48 (Option.some.inj e))] at k
    refine iteF ?_
    refine ⟨_, rfl, z, rfl, fun D hD => lc_it walk_str (fun i H2 => H2 = upd H D (.lst ((z.cps.toList.take i).map fun c => V.bl (decide (c ∈ figT.cps.toList))))) rfl (fun _ _ _ _ => trivial) ?_ ?_⟩
    · rintro i x H2 H3 hi rfl ⟨rfl, c, hc, rfl⟩
      refine ⟨rfl, _, rfl, c, figT, rfl, rfl, _, upd_same, ?_, ?_⟩
      · rw [List.length_map, List.length_take]
        exact line_lt (by omega)
      · rw [upd_upd, List.take_add_one, Array.getElem?_toList, hc, List.map_append] <;> rfl
    · rintro H2 rfl
      have e : z.cps.toList.take z.cps.size = z.cps.toList := List.take_of_length_le (by rw [Array.length_toList] <;> exact Nat.le_refl _)
      rw [e]
      refine ⟨D, z.cps.toList.map fun c => decide (c ∈ figT.cps.toList), rfl, SqL.of (by rw [upd_same, List.map_map] <;> rfl), ?_⟩
      have e2 : (z.cps.toList.map fun c => decide (c ∈ figT.cps.toList)).all id = z.cps.toList.all fun c => decide (c ∈ figT.cps.toList) := by
        rw [List.all_map] <;> rfl
      rw [e2]
      exact k _ (Same.new hD)
end
end WS
set_option maxRecDepth 100000
set_option maxHeartbeats 8000000
namespace WS
open PySem L2 SetT RevS
theorem cut_back (xs : List V) (y : V) : cutV (xs ++ [y]) none (some (-1)) = xs := by
  have e1 : HT.sIx (xs ++ [y]).length (xs ++ [y]).length (some (-1)) = xs.length := by
    show (if (-1 : Int) < 0 then ((-1 : Int) + ((xs ++ [y]).length : Int)).toNat else min (-1 : Int).toNat (xs ++ [y]).length) = _
    rw [if_pos (by decide), List.length_append, List.length_singleton]
    omega
  unfold cutV
  rw [e1]
  show (List.drop 0 (xs ++ [y])).take (xs.length - 0) = xs
  rw [List.drop_zero, Nat.sub_zero, List.take_left]
def spWordsOf : Sp := fun vs H Q _ => ∃ (s : WSum), vs = [.str (rowS s)] ∧ s.1 ≠ [] ∧ s.1.length ≤ 4 ∧ (∀ z ∈ s.1 ++ [s.2], isWord z = true ∧ z.length ≤ 6) ∧ ∀ q H', H q = none → Same H H' → H' q = some (.lst ((s.1 ++ [s.2]).map V.str)) → Q (.ref q) H'
section
variable {P : Program} {w : World} {K : PySem.W.Frag} {mg : Str → Option Value} {base : Heap}
theorem scWordsOf : FnScope ["row", "words", "word"] ["row"] (defScope sWordsOf) := ⟨rfl, rfl, rfl, by decide +kernel, rfl, by decide +kernel, by decide +kernel⟩
theorem ok_wordsof {f fW fR : Addr} {fd fdW fdR : FuncData} (F : Fun K "words_of" "words_of" sWordsOf f fd) (z_all : mg "all" = none) (S_is_word : Site K mg "is_word" fW fdW ["text"]) (G_is_word : FnOk P w K mg base CX0 1 fW fdW ["text"] spIsWord)
    (S_sum_row : Site K mg "sum_row" fR fdR ["addends", "total"]) (G_sum_row : FnOk P w K mg base CX0 1 fR fdR ["addends", "total"] (spSumRow K)) :
    FnOk P w K mg base CX0 2 f fd ["row"] spWordsOf := by
  refine F.ok scWordsOf (fun vs H Q E h => ?_) (fun cdv A outer s H vs Q E hr h => ?_)
  · obtain ⟨s, rfl, _⟩ := h
    rfl
  · obtain ⟨sm, rfl, h1, h4, hw, k⟩ := h
    have nd := scWordsOf.nd
    have hr_is_word := hr
    have hr_sum_row := hr
    refine ⟨_, (pss_cons (ps_set (i := 1) nd rfl (.inl rfl) (Ev2.pe_ev2 (pe_split (pv 0) pe_str)))
      (pss_cons (ps_if (PW.pt (pw_and (pt_val (pe_callB (cr_all rfl) (by rfl) z_all (by decide +kernel) (pa_cons (pe_lc (own := [("word", 2)]) (g := (gName 2)) (tt := tYes) rfl nd (pi_list (pv 1)) (blkOk_by (own := [("word", 2)]) (N := ["row", "words", "word"]) (sc := defScope sWordsOf) (by decide +kernel)) (fun _ _ _ _ _ => (pg_name (i := 2) nd rfl (.inl rfl))) (fun _ _ _ _ _ => pts_nil) (fun _ _ _ _ _ => (pe_call G_is_word hr_is_word (by rfl) S_is_word.g S_is_word.k S_is_word.b .nil pass0 (pa_cons (pv 2) pa_nil)))) pa_nil))) (pw_and1 (pt_cmpR op_eq (pe_call G_sum_row hr_sum_row (by rfl) S_sum_row.g S_sum_row.k S_sum_row.b .nil pass0 (pa_cons (pe_slice sl_list (pv 1) po_none (po_some (pe_un un_neg pe_int))) (pa_cons (pe_ix (r := rIxL K) ix_list (pv 1) (pe_un un_neg pe_int) (fun _ _ => rfl)) pa_nil))) (pv 0) (nomark _))))) (pss_one (ps_ret (pv 1))) pss_nil)
      (pss_one (ps_ret (pe_lst pa_nil))))), ?_⟩
    have hrl := row_len h4 fun z hz => (hw z hz).2
    have hzl : ∀ z ∈ sm.1 ++ [sm.2], z.length ≤ 6 := fun z hz => (hw z hz).2
    refine ⟨_, rfl, ⟨_, rfl⟩, rowS sm, (" " : Str), rfl, rfl, rfl, line_of (by omega), fun q hq => ?_⟩
    rw [row_split h1 fun z hz => (hw z hz).1]
    refine ⟨q, _, rfl, SqL.of upd_same, fun q2 hq2 => ?_⟩
    rw [← evens_map, toks_evens]
    have s1 : Same H (upd (upd H q (.lst ((toks sm.1 sm.2).map V.str))) q2 (.lst ((sm.1 ++ [sm.2]).map V.str))) := (Same.new hq).trans (Same.new hq2)
    have hq21 : (upd (upd H q (.lst ((toks sm.1 sm.2).map V.str))) q2 (.lst ((sm.1 ++ [sm.2]).map V.str))) q2 = some (.lst ((sm.1 ++ [sm.2]).map V.str)) := upd_same
    have hq20 : H q2 = none := by
      have hne : q2 ≠ q := fun e => by rw [e, upd_same] at hq2; cases hq2
      rw [upd_ne hne] at hq2
      exact hq2
    generalize upd (upd H q (.lst ((toks sm.1 sm.2).map V.str))) q2 (.lst ((sm.1 ++ [sm.2]).map V.str)) = H1 at s1 hq21
    refine ⟨_, rfl, q2, rfl, ⟨_, SqL.of hq21⟩, fun D hD => ?_⟩
    have hqD := ne_of_none hq21 hD
    have hlen : (sm.1 ++ [sm.2]).length ≤ 5 := by rw [List.length_append, List.length_singleton]; omega
    refine lc_list (K := K) (a := q2) (xs := (sm.1 ++ [sm.2]).map V.str) (fun j H4 => H4 D = some (.lst ((List.replicate j true).map V.bl)) ∧ Same H1 H4)
      ⟨upd_same, Same.new hD⟩ (fun j H4 _ ⟨_, s4⟩ => SqL.of (s4 _ _ hq21)) ?_ ?_
    · rintro j y H4 hj ⟨hD4, s4⟩
      obtain ⟨z, hz, rfl⟩ := strs_at' hj
      have hjl : j < (sm.1 ++ [sm.2]).length := (List.getElem?_eq_some_iff.mp hz).1
      have hzm := hw z (List.mem_of_getElem? hz)
      refine ⟨rfl, _, rfl, z, rfl, by omega, fun H5 s5 => ?_⟩
      refine ⟨_, s5 _ _ hD4, ?_, ?_, ?_⟩
      · rw [List.length_map, List.length_replicate]
        exact line_lt (by omega)
      · rw [upd_same, hzm.1, List.replicate_succ', List.map_append] <;> rfl
      · exact Same.mut (s4.trans s5) hD
    · rintro H4 ⟨hD4, s4⟩
      refine ⟨D, _, rfl, SqL.of hD4, _, rfl, ?_⟩
      have e2 : (List.replicate ((sm.1 ++ [sm.2]).map V.str).length true).all id = true := by
        rw [List.all_eq_true]
        exact fun x hx => (List.mem_replicate.mp hx).2
      rw [e2]
      have hq24 := s4 _ _ hq21
      refine iteT ⟨_, rfl, _, rfl, _, rfl, q2, _, rfl, SqL.of hq24, fun q3 hq3 => ?_⟩
      have e3 : cutV ((sm.1 ++ [sm.2]).map V.str) none (some (-1)) = sm.1.map V.str := by
        rw [List.map_append]
        exact cut_back _ _
      rw [e3]
      have s5 : Same H4 (upd H4 q3 (.lst (sm.1.map V.str))) := Same.new hq3
      have hq35 : (upd H4 q3 (.lst (sm.1.map V.str))) q3 = some (.lst (sm.1.map V.str)) := upd_same
      generalize upd H4 q3 (.lst (sm.1.map V.str)) = H5 at s5 hq35
      refine ⟨_, rfl, _, rfl, q2, _, -1, _, rfl, rfl, SqL.of (s5 _ _ hq24), ?_, q3, sm, rfl, .inl (SqL.of hq35), h4, hzl, ?_⟩
      · rw [List.map_append]
        exact atI_last _ _
      refine ⟨_, rfl, rfl, _, rfl, ?_⟩
      rw [decide_eq_true rfl]
      exact iteT ⟨_, rfl, k q2 H5 hq20 ((s1.trans s4).trans s5) (s5 _ _ hq24)⟩
end
end WS
set_option maxRecDepth 100000
set_option maxHeartbeats 8000000
namespace WS
open PySem L2 SetT RevS
def spSumRowX (K : PySem.W.Frag) : Sp := fun vs H Q _ => ∃ (q : Addr) (s : WSum), vs = [.ref q, .str s.2] ∧ (SqL K H q (s.1.map V.str) ∨ SqT K H q (s.1.map V.str)) ∧ s.1.length ≤ 200 ∧ (∀ z ∈ s.1 ++ [s.2], z.length ≤ 6) ∧ Q (.str (rowS s)) H
def spWordsOfX : Sp := fun vs H Q _ => ∃ (row : Str), vs = [.str row] ∧ row.length ≤ 100 ∧ ∀ q H', H q = none → Same H H' → H' q = some (.lst ((wordsOfB row).map V.str)) → Q (.ref q) H'
theorem row_lenX {s : WSum} (h4 : s.1.length ≤ 200) (hw : ∀ z ∈ s.1 ++ [s.2], z.length ≤ 6) : (Str.join plusT s.1).length ≤ 1800 ∧ (rowS s).length ≤ 1809 := by
  have h1 := PySem.StrLaws.join_length_le plusT s.1
  have h2 : (s.1.map (·.length)).sum ≤ s.1.length * 6 := sum_map_le fun z hz => hw z (List.mem_append_left _ hz)
  have h3 : plusT.length = 3 := rfl
  have h5 : isT.length = 3 := rfl
  have h6 := hw s.2 (List.mem_append_right _ List.mem_cons_self)
  rw [h3] at h1
  unfold rowS
  rw [PySem.Str.length_append, PySem.Str.length_append, h5]
  omega
section
variable {P : Program} {w : World} {K : PySem.W.Frag} {mg : Str → Option Value} {base : Heap}
theorem ok_sumrowX {f : Addr} {fd : FuncData} (F : Fun K "sum_row" "sum_row" sSumRow f fd) : FnOk P w K mg base CX0 1 f fd ["addends", "total"] (spSumRowX K) := by
  refine F.ok scSumRow (fun vs H Q E h => ?_) (fun cdv A outer s H vs Q E hr h => ?_)
  · obtain ⟨q, s, rfl, _⟩ := h
    rfl
  · obtain ⟨q, sm, rfl, hq, h4, hz, k⟩ := h
    have nd := scSumRow.nd
    have hl := row_lenX h4 hz
    have hs : (sm.1.map (·.length)).sum ≤ sm.1.length * 6 := sum_map_le fun z h => hz z (List.mem_append_left _ h)
    have h6 := hz sm.2 (List.mem_append_right _ List.mem_cons_self)
    refine ⟨_, (pss_one (ps_ret (pe_op op_add_str (pe_op op_add_str (pe_join pe_str (pv 0)) pe_str) (pv 1)))), ?_⟩
    refine ⟨⟨_, rfl⟩, _, rfl, plusT, q, sm.1, rfl, rfl, hq, ?_, ?_⟩
    · rw [show plusT.length = 3 from rfl]
      omega
    rw [txt_join]
    have e3 : (" = " : Str).length = 3 := rfl
    refine ⟨_, _, rfl, rfl, line_of (by omega), _, rfl, _, _, rfl, rfl, line_of (by rw [PySem.Str.length_append]; omega), k⟩
theorem ok_wordsofX {f fW fR : Addr} {fd fdW fdR : FuncData} (F : Fun K "words_of" "words_of" sWordsOf f fd) (z_all : mg "all" = none) (S_is_word : Site K mg "is_word" fW fdW ["text"]) (G_is_word : FnOk P w K mg base CX0 1 fW fdW ["text"] spIsWord)
    (S_sum_row : Site K mg "sum_row" fR fdR ["addends", "total"]) (G_sum_row : FnOk P w K mg base CX0 1 fR fdR ["addends", "total"] (spSumRowX K)) :
    FnOk P w K mg base CX0 2 f fd ["row"] spWordsOfX := by
  refine F.ok scWordsOf (fun vs H Q E h => ?_) (fun cdv A outer s H vs Q E hr h => ?_)
  · obtain ⟨row, rfl, _⟩ := h
    rfl
  · obtain ⟨row, rfl, hrl, k⟩ := h
    have nd := scWordsOf.nd
    have hr_is_word := hr
    have hr_sum_row := hr
    refine ⟨_, (pss_cons (ps_set (i := 1) nd rfl (.inl rfl) (Ev2.pe_ev2 (pe_split (pv 0) pe_str)))
      (pss_cons (ps_if (PW.pt (pw_and (pt_val (pe_callB (cr_all rfl) (by rfl) z_all (by decide +kernel) (pa_cons (pe_lc (own := [("word", 2)]) (g := (gName 2)) (tt := tYes) rfl nd (pi_list (pv 1)) (blkOk_by (own := [("word", 2)]) (N := ["row", "words", "word"]) (sc := defScope sWordsOf) (by decide +kernel)) (fun _ _ _ _ _ => (pg_name (i := 2) nd rfl (.inl rfl))) (fun _ _ _ _ _ => pts_nil) (fun _ _ _ _ _ => (pe_call G_is_word hr_is_word (by rfl) S_is_word.g S_is_word.k S_is_word.b .nil pass0 (pa_cons (pv 2) pa_nil)))) pa_nil))) (pw_and1 (pt_cmpR op_eq (pe_call G_sum_row hr_sum_row (by rfl) S_sum_row.g S_sum_row.k S_sum_row.b .nil pass0 (pa_cons (pe_slice sl_list (pv 1) po_none (po_some (pe_un un_neg pe_int))) (pa_cons (pe_ix (r := rIxL K) ix_list (pv 1) (pe_un un_neg pe_int) (fun _ _ => rfl)) pa_nil))) (pv 0) (nomark _))))) (pss_one (ps_ret (pv 1))) pss_nil)
      (pss_one (ps_ret (pe_lst pa_nil))))), ?_⟩
    unfold wordsOfB at k
    refine ⟨_, rfl, ⟨_, rfl⟩, row, (" " : Str), rfl, rfl, rfl, line_of (by omega), fun q hq => ?_⟩
    have hsl := PyProof.Rows.split_le row (" " : Str)
    have hsp := PyProof.Rows.split_pos row (" " : Str)
    have hev := evens_len (Txt.split row (" " : Str))
    have hen : evens (Txt.split row (" " : Str)) ≠ [] := evens_ne fun e => by rw [e] at hsp; simp at hsp
    have hpart : ∀ z ∈ Txt.split row (" " : Str), z.length ≤ 100 := fun z hz => Nat.le_trans (split_item_le hz) hrl
    have hev2 : ∀ z ∈ evens (Txt.split row (" " : Str)), z.length ≤ 100 := fun z hz => hpart z (evens_sub hz)
    refine ⟨q, _, rfl, SqL.of upd_same, fun q2 hq2 => ?_⟩
    rw [← evens_map]
    generalize hws : evens (Txt.split row (" " : Str)) = ws at k hev hen hev2
    have s1 : Same H (upd (upd H q (.lst ((Txt.split row (" " : Str)).map V.str))) q2 (.lst (ws.map V.str))) := (Same.new hq).trans (Same.new hq2)
    have hq21 : (upd (upd H q (.lst ((Txt.split row (" " : Str)).map V.str))) q2 (.lst (ws.map V.str))) q2 = some (.lst (ws.map V.str)) := upd_same
    have hq20 : H q2 = none := by
      have hne : q2 ≠ q := fun e => by rw [e, upd_same] at hq2; cases hq2
      rw [upd_ne hne] at hq2
      exact hq2
    generalize upd (upd H q (.lst ((Txt.split row (" " : Str)).map V.str))) q2 (.lst (ws.map V.str)) = H1 at s1 hq21
    refine ⟨_, rfl, q2, rfl, ⟨_, SqL.of hq21⟩, fun D hD => ?_⟩
    have hqD := ne_of_none hq21 hD
    have hlen : ws.length ≤ 102 := by omega
    refine lc_list (K := K) (a := q2) (xs := ws.map V.str) (fun j H4 => H4 D = some (.lst (((ws.take j).map isWord).map V.bl)) ∧ Same H1 H4)
      ⟨upd_same, Same.new hD⟩ (fun j H4 _ ⟨_, s4⟩ => SqL.of (s4 _ _ hq21)) ?_ ?_
    · rintro j y H4 hj ⟨hD4, s4⟩
      obtain ⟨z, hz, rfl⟩ := strs_at' hj
      have hjl : j < ws.length := (List.getElem?_eq_some_iff.mp hz).1
      have hzm := hev2 z (List.mem_of_getElem? hz)
      refine ⟨rfl, _, rfl, z, rfl, by omega, fun H5 s5 => ?_⟩
      refine ⟨_, s5 _ _ hD4, ?_, ?_, ?_⟩
      · rw [List.length_map, List.length_map, List.length_take]
        exact line_lt (by omega)
      · rw [upd_same, List.take_add_one, hz, List.map_append, List.map_append] <;> rfl
      · exact Same.mut (s4.trans s5) hD
    · rintro H4 ⟨hD4, s4⟩
      rw [List.length_map, List.take_length] at hD4
      refine ⟨D, _, rfl, SqL.of hD4, _, rfl, ?_⟩
      have e2 : (ws.map isWord).all id = ws.all isWord := by rw [List.all_map] <;> rfl
      rw [e2]
      have hq24 := s4 _ _ hq21
      cases hall : ws.all isWord
      · rw [if_neg (fun h => by rw [hall] at h; cases h.1)] at k
        exact iteF (iteF ⟨by show 0 ≤ sizeLine; decide, fun p hp => k p _ (Same.free (s1.trans s4) hp) ((s1.trans s4).trans (Same.new hp)) upd_same⟩)
      have hw6 : ∀ z ∈ ws, z.length ≤ 6 := fun z hz => (isWord_iff.mp (List.all_eq_true.mp hall z hz)).1.2
      obtain ⟨wi, wl, rfl⟩ : ∃ wi wl, ws = wi ++ [wl] := ⟨ws.dropLast, ws.getLast hen, (List.dropLast_concat_getLast hen).symm⟩
      rw [List.dropLast_concat, List.getLastD_concat] at k
      rw [List.length_append, List.length_singleton] at hlen
      refine iteT ⟨_, rfl, _, rfl, _, rfl, q2, _, rfl, SqL.of hq24, fun q3 hq3 => ?_⟩
      have e3 : cutV ((wi ++ [wl]).map V.str) none (some (-1)) = wi.map V.str := by
        rw [List.map_append]
        exact cut_back _ _
      rw [e3]
      have s5 : Same H4 (upd H4 q3 (.lst (wi.map V.str))) := Same.new hq3
      have hq35 : (upd H4 q3 (.lst (wi.map V.str))) q3 = some (.lst (wi.map V.str)) := upd_same
      generalize upd H4 q3 (.lst (wi.map V.str)) = H5 at s5 hq35
      refine ⟨_, rfl, _, rfl, q2, _, -1, _, rfl, rfl, SqL.of (s5 _ _ hq24), ?_, q3, (wi, wl), rfl, .inl (SqL.of hq35), by show wi.length ≤ 200; omega, hw6, ?_⟩
      · rw [List.map_append]
        exact atI_last _ _
      refine ⟨_, rfl, rfl, _, rfl, ?_⟩
      by_cases he : rowS (wi, wl) = row
      · rw [if_pos ⟨hall, he⟩] at k
        rw [decide_eq_true (congrArg V.str he)]
        exact iteT ⟨_, rfl, k q2 H5 hq20 ((s1.trans s4).trans s5) (s5 _ _ hq24)⟩
      · rw [if_neg (fun h => he h.2)] at k
        rw [decide_eq_false (fun e => he (V.str.inj e))]
        have s15 := (s1.trans s4).trans s5
        exact iteF ⟨by show 0 ≤ sizeLine; decide, fun p hp => k p _ (Same.free s15 hp) (s15.trans (Same.new hp)) upd_same⟩
end
end WS
set_option maxRecDepth 100000
set_option maxHeartbeats 4000000
namespace WS
open PySem L2
/-- the class of the exception that is raised where nothing fits -/
structure NotOneTxt (K : PySem.W.Frag) (mg : Str → Option Value) (C : Addr) : Prop where
  x : PySem.W.excIn K C [.type "ValueError", .type "Exception", .type "BaseException", .type "object"] "ValueError.__new__" = true
  g : mg "NotOne" = some (.ref C)
  k : PySem.W.keepIn K (.ref C) = true
  b : PySem.W.subIn K (.ref C) (.type "BaseException") = some true
  t : PySem.W.typeIn K (.ref C) = some (.type "type")
section
variable {P : Program} {w : World} {K : PySem.W.Frag} {mg : Str → Option Value} {base : Heap}
/-- a def that may raise, its exceptions without a context -/
theorem okN {x qual : Str} {st : Stmt} {f : Addr} {fd : FuncData} {N ps : List Str} {k : Nat} {sp : Sp} (F : Fun K x qual st f fd) (S : FnScope N ps (defScope st)) (len : ∀ vs H Q E, sp vs H Q E → vs.length = ps.length)
    (hbody : ∀ (cdv : Value) (A : Around) (outer : List Env) (s : Shared) (H : Hp) (vs : List V) (Q : VK) (E : XK), Room k (A.deeper (PyProof.Rows.envOfC qual (defScope st) s.heap.objs.size f cdv)) → sp vs H Q E →
      ∃ t, PSs (cxOf (L2N.CX P w) P w K mg base N qual (defScope st) f cdv A outer s H E) (defBody st) t ∧ t { nx := fun _ H' => Q .non H', rt := Q } (L2.start N vs) H) : FnOk P w K mg base (L2N.CX P w) (k + 1) f fd ps sp := by
  obtain ⟨oc, od, kV, doc, pm, an, cdv, ct, osl, rfl, lk, hcd⟩ := F.ex
  exact fn_of lk hcd S len fun A outer s H vs Q E hr hsp => hbody cdv A outer s H vs Q E hr hsp
end
end WS
set_option maxRecDepth 100000
set_option maxHeartbeats 4000000
/-! an own error class whose __init__ calls that of an own base class without one -/
namespace WS
open PySem PySem.Spec PyProof.Rows L2
/-- what the written part says of the own base class B: its __init__ is ValueError's -/
structure BaseC (K : PySem.W.Frag) (B : Addr) : Prop where
  rd : PySem.W.readsIn K B (.type "type") = true
  ga : PySem.W.specialIn K (.ref B) "__getattribute__" = some (some (.builtin "type.__getattribute__"))
  it : PySem.W.findCls K (.ref B) (.type "type") "__init__" = some (.val (.builtin "ValueError.__init__"))
section
variable {X : Cx} {e : Expr} {es : List Expr} {ta : TA} {x : Str} {B C : Addr} {p p1 p2 pos : Pos}
theorem pe_baseinit {pl : Sem Bool} (hg : Gl X x) (hm : X.mg x = some (.ref B)) (T : BaseC X.K B) (ha : PA X (e :: es) ta) (hdb : (x == ("__debug__" : Str)) = false := by decide)
    (hc : eval (.Call (.Attribute (.Name x p1) "__init__" p2) (e :: es) [] pos) X.env = (do
      let ov ← eval (.Name x p1) X.env
      standAt p2.atName
      let (f, first) ← holding [ov] (getMethod ov "__init__" pl)
      callWith pos f first (backTo pos (starEach (e :: es) X.env)) (backToKw pos (keywordEach [] X.env))) := by rfl)
    (he : starEach (e :: es) X.env = (false, eval e X.env) :: starEach es X.env := by rfl) (hpl : (backTo pos (starEach es X.env)).any (·.1) = false := by rfl) :
    PE X (.Call (.Attribute (.Name x p1) "__init__" p2) (e :: es) [] pos) (tVeI X.K ta) := by
  refine ⟨fun pins s σ H Q I h => ?_⟩
  refine PySem.W.methodCall_KW (ld_glob I hg hm ?_ hdb) hc
  refine PySem.W.method_cls I.kIn T.ga (PySem.W.cls_value I.kIn T.rd T.it (by decide +kernel) ?_)
  show wpAny _ _ (callWith pos (Value.builtin "ValueError.__init__") [] (backTo pos (starEach (e :: es) X.env)) []) _ _ _
  refine PyProof.Rows.callWith_method1 (thn (ha.run pos pins _ σ H _ (I.tok _) h) fun us s1 ⟨vs, H1, I1, r1, a, C, ws, ev, hl, T, ea, q⟩ => ?_) he hpl
  subst ev
  cases r1 with
  | @cons _ u0 _ ur ra rw' =>
    obtain rfl : u0 = Value.ref a := ra
    have hlen : ur.length ≤ sizeLine := by
      rw [← Paired.length rw', sizeLine_eq]
      omega
    exact oinit_ok T I1 ea hlen fun s' J => ⟨.non, H1, J, rfl, q⟩
end
end WS
namespace L2N
open PySem PySem.Spec PyProof.Rows L2
section
variable {X : Cx} {e : Expr} {es : List Expr} {ta : TA}
theorem pmk_oex {CX : CXT} {x : Str} {C fI : Addr} {k : Nat} {fd : FuncData} {ps : List Str} {sp : Sp} {ds : List Value} {dvs : List V} {p pos : Pos} (T : OexC X.K C) (iC : PySem.W.findIn X.K (.ref C) "__init__" = some (some (.ref fI))) (tI : PySem.W.typeIn X.K (.ref fI) = some (.type "function"))
    (F1 : FnOk X.prog X.w X.K X.mg X.base CX k fI fd ps sp) (hr : Room (k + 1) X.A) (hb : Binds X.K fd ps ds) (hd : Vals dvs ds) (hx : Passes CX X (fun _ _ _ => False)) (hg : Gl X x) (hm : X.mg x = some (.ref C)) (ha : PA X (e :: es) ta)
    (hdb : (x == ("__debug__" : Str)) = false := by decide) (he : starEach (e :: es) X.env = (false, eval e X.env) :: starEach es X.env := by rfl) (hpl : (backTo pos (starEach es X.env)).any (·.1) = false := by rfl) :
    L2N.PMk X (.Call (.Name x p) (e :: es) [] pos) (tMkO C sp dvs ta) := by
  obtain ⟨nm, q, N, bs, bm, sn, sub, ab, col, dd, k0, k1, k2, k3, k5, hC, hbm⟩ := T.cls
  intro pins s σ H Q I h
  refine wpAny_Call_Name_kw (ld_glob I hg hm (PySem.W.callWith_K (h₀ := X.base) I.ok.mod.kin T.kC (thn (ha.run pos pins s σ H _ I h) fun us s1 hs1 => ?_) he hpl) hdb)
  obtain ⟨vs, H1, I1, r1, hz, q1⟩ := hs1
  refine ⟨I1.kIn, ?_⟩
  show wpAny _ _ (call (.ref C) us) _ _ _
  obtain ⟨hp, g, dr, tk, os⟩ := s1
  -- where the tuple of its arguments and itself are laid
  have up : hp.objs.size ≤ hp.objs.size + 1 := Nat.le_succ _
  have hq := q1 (hp.objs.size + 1) (I1.hok.fresh up)
  have keep : ∀ b o, hp.get? b = some o → ((hp.push (PySem.W.kdv_tup us)).push (PySem.HandSPX.excO C hp.objs.size)).get? b = some o := fun b o e => Heap.get?_push_of_some _ (Heap.get?_push_of_some _ e)
  have I2 : Inv X pins σ (upd H1 (hp.objs.size + 1) (exo (hp.objs.size + 1) C none)) ⟨(hp.push (PySem.W.kdv_tup us)).push (PySem.HandSPX.excO C hp.objs.size), g, dr, tk, os⟩ :=
    I1.laid (t' := tk) (a := hp.objs.size + 1) (o := exo (hp.objs.size + 1) C none) (h' := (hp.push (PySem.W.kdv_tup us)).push (PySem.HandSPX.excO C hp.objs.size)) keep up (exo_ok (by heap_get))
  have r2 : Vals (V.ref (hp.objs.size + 1) :: (vs ++ dvs)) (Value.ref (hp.objs.size + 1) :: (us ++ ds)) := .cons rfl (r1.append hd)
  have hl : (Value.ref (hp.objs.size + 1) :: us ++ ds).length = ps.length := r2.length.symm.trans (F1.len _ _ _ _ hq)
  have hus : us.length ≤ sizeLine := by
    have := Paired.length r1
    rw [sizeLine_eq]
    omega
  have body := F1.run _ X.stack _ _ ⟨Value.ref (hp.objs.size + 1) :: us, []⟩ (Value.ref (hp.objs.size + 1) :: (us ++ ds)) _ _ (fun _ _ _ => False) (hr.make C us []) (I2.env0.make C us []) (hb _ (Value.ref (hp.objs.size + 1) :: us) I2.kIn hl) r2 hq
  refine wpAny_call (PySem.HandSPX.call_own F.excBase_ValueError (fun Y => PySem.HandSPX.refsVE_contains Y bm hbm) (I1.kIn _ _ hC) (PySem.W.looks_findIn I1.kIn iC) (fun self => PySem.W.bind_fn I1.kIn self tI) hus (codeAny_mono body fun r s' hq' => ?_))
  match r, hq' with
  | .error er, hq' => exact hx pins σ _ _ er s' I2 hq'
  | .ok .next, hq' => exact False.elim hq'
  | .ok .brk, hq' => exact False.elim hq'
  | .ok .cont, hq' => exact False.elim hq'
  | .ok (.ret u), hq' =>
    obtain ⟨v, H2, os2, bare2, un2, hok2, rv, ev, d, fs, ea, ed, hd1, q2⟩ := hq'
    subst ev
    obtain ⟨h2, g2, d2, t2, os'⟩ := s'
    obtain ⟨t0, G, J, kG, ge, hoe, na⟩ := mk_end0 (d2 := d2) (t2 := t2) I1 up keep un2 hok2 os2 bare2 ea ed hd1
    exact ⟨rv, ⟨hp.objs.size + 1, _, _, ⟨G, g2, d2, t2, os'⟩, _, .ref C, some d, rfl, J, kG, ge, hoe, ⟨rfl, rfl, fun vs hv => by cases hv; rfl⟩, rfl, rfl, na, rfl, bare2, raises_own T.exC T.tyC, q2⟩⟩
end
end L2N
set_option maxRecDepth 100000
set_option maxHeartbeats 8000000
namespace WS
open PySem L2
/-- what a BadText tells -/
def rowFs (r : Int) : List (Str × V) := [("row", .int r)]
def spBtInit (K : PySem.W.Frag) (C : Addr) : Sp := fun vs H Q _ => ∃ (a : Addr) (r : Int), vs = [.ref a, .int r] ∧ H a = some (exo a C none) ∧ 0 ≤ r ∧ r ≤ 100 ∧
  ∀ d, H d = none → d ≠ a → Q .non (upd (upd H d (exd d (rowFs r))) a (exo a C (some d)))
theorem int_smallT : ∀ n : Nat, n ≤ 100 → (toString (n : Int) : Str).length ≤ 3 := by decide +kernel
section
variable {P : Program} {w : World} {K : PySem.W.Frag} {mg : Str → Option Value} {base : Heap}
theorem scBtInit : FnScope ["self", "row"] ["self", "row"] (defScope sBtInit) := ⟨rfl, rfl, rfl, by decide +kernel, rfl, by decide +kernel, by decide +kernel⟩
theorem ok_btinit {f C B : Addr} {fd : FuncData} (F : Fun K "__init__" "BadText.__init__" sBtInit f fd) (T : OexC K C) (g_SumError : mg "SumError" = some (.ref B)) (TB : BaseC K B)
    (n_row : PySem.W.findIn K (.ref C) "row" = some none) :
    FnOk P w K mg base CX0 1 f fd ["self", "row"] (spBtInit K C) := by
  refine F.ok scBtInit (fun vs H Q E h => ?_) (fun cdv A outer s H vs Q E hr h => ?_)
  · obtain ⟨a, r, rfl, _⟩ := h
    rfl
  · obtain ⟨a, r, rfl, ha, h0, h1, k⟩ := h
    have nd := scBtInit.nd
    refine ⟨_, pss_cons (ps_expr (pe_baseinit (by rfl) g_SumError TB (pa_cons (pv 0) (pa_cons (pe_joined (.cons pe_str (.cons (pe_fmt (pv 1)) (.cons pe_str .nil)))) pa_nil)))) (pss_one (ps_ost (pv 0) (pv 1))), ?_⟩
    obtain ⟨n, rfl⟩ : ∃ n : Nat, r = (n : Int) := ⟨r.toNat, by omega⟩
    have hn := int_smallT n (by omega)
    have hlog : ((n : Int)).natAbs.log2 < 1920 := by
      have e1 : (n : Int).natAbs = n := Int.natAbs_natCast n
      rw [e1]
      exact Nat.lt_of_le_of_lt (Nat.le_trans (Nat.log2_le_self n) (by omega : n ≤ 100)) (by decide)
    have l1 : (Str.empty ++ Str.ofString "row ").length = 4 := by decide
    have l2 : (Str.ofString " is not as it must be").length = 21 := by decide
    refine ⟨_, rfl, _, rfl, ?_, _, rfl, .inr ⟨(n : Int), rfl, hlog, _, rfl, ?_, _, rfl, ?_, a, C, [_], rfl, by show 1 ≤ 1000; decide, T, ha, ?_⟩⟩
    · exact line_of (by decide)
    · refine line_of ?_
      rw [PySem.Str.length_append]
      omega
    · refine line_of ?_
      rw [PySem.Str.length_append, PySem.Str.length_append]
      omega
    exact ⟨_, rfl, _, rfl, a, C, rfl, T, n_row, .inl ⟨ha, k⟩⟩
end
/-- an exception that tells its row -/
def textE (C : Addr) (H : Hp) (E : XK) (r : Int) : Prop := ∀ (d : Addr) (H' : Hp), H d = none → Same H H' → H' d = some (.xd (rowFs r)) → E (.ref C) (some d) H'
theorem textE.same {C : Addr} {H H1 : Hp} {E : XK} {r : Int} (h : textE C H E r) (e : Same H H1) : textE C H1 E r := fun d H' hd s hx => h d H' (Same.free e hd) (e.trans s) hx
theorem raise_text {K : PySem.W.Frag} {C : Addr} {H : Hp} {E : XK} {r : Int} (h : textE C H E r) (h0 : 0 ≤ r) (h1 : r ≤ 100) (a : Addr) (ha : H a = none) :
    spBtInit K C [.ref a, .int r] (upd H a (exo a C none)) (fun v H2 => v = .non ∧ ∃ (d : Addr) (fs : List (Str × V)), H2 a = some (exo a C (some d)) ∧ H2 d = some (exd d fs) ∧ H d = none ∧ E (.ref C) (some d) (upd (del H2 a) d (.xd fs))) (fun _ _ _ => False) := by
  refine ⟨a, r, rfl, upd_same, h0, h1, fun d hd hne => ?_⟩
  have hd0 : H d = none := by rw [upd_ne hne] at hd; exact hd
  refine ⟨rfl, d, rowFs r, upd_same, (upd_ne hne).trans upd_same, hd0, h d _ hd0 (fun c o e => ?_) upd_same⟩
  have hcd : c ≠ d := ne_of_none e hd0
  have hca : c ≠ a := ne_of_none e ha
  rw [upd_ne hcd, del_ne hca, upd_ne hca, upd_ne hcd, upd_ne hca]
  exact e
/-- how a BadText is raised -/
structure TextTxt (P : Program) (w : World) (K : PySem.W.Frag) (mg : Str → Option Value) (base : Heap) (C f : Addr) (fd : FuncData) : Prop where
  T : OexC K C
  iC : PySem.W.findIn K (.ref C) "__init__" = some (some (.ref f))
  tI : PySem.W.typeIn K (.ref f) = some (.type "function")
  F1 : FnOk P w K mg base CX0 1 f fd ["self", "row"] (spBtInit K C)
  b : Binds K fd ["self", "row"] []
  g : mg "BadText" = some (.ref C)
end WS
set_option maxRecDepth 100000
set_option maxHeartbeats 8000000
namespace WS
open PySem L2
/-- what a BadSheet tells -/
def badFs (at_ : Int) (why : Str) : List (Str × V) := [("why", .str why), ("at", .int at_)]
def spBsInit (K : PySem.W.Frag) (C : Addr) : Sp := fun vs H Q _ => ∃ (a : Addr) (at_ : Int) (why : Str), vs = [.ref a, .int at_, .str why] ∧ H a = some (exo a C none) ∧ 0 ≤ at_ ∧ at_ ≤ 100 ∧ why.length ≤ 100 ∧
  ∀ d, H d = none → d ≠ a → Q .non (upd (upd (upd H d (exd d [("at", .int at_)])) a (exo a C (some d))) d (exd d (badFs at_ why)))
section
variable {P : Program} {w : World} {K : PySem.W.Frag} {mg : Str → Option Value} {base : Heap}
theorem scBsInit : FnScope ["self", "at", "why"] ["self", "at", "why"] (defScope sBsInit) := ⟨rfl, rfl, rfl, by decide +kernel, rfl, by decide +kernel, by decide +kernel⟩
theorem int_small : ∀ n : Nat, n ≤ 100 → (toString (n : Int) : Str).length ≤ 3 := by decide +kernel
theorem ok_bsinit {f C B : Addr} {fd : FuncData} (F : Fun K "__init__" "BadSheet.__init__" sBsInit f fd) (T : OexC K C) (g_SumError : mg "SumError" = some (.ref B)) (TB : BaseC K B)
    (n_at : PySem.W.findIn K (.ref C) "at" = some none) (n_why : PySem.W.findIn K (.ref C) "why" = some none) :
    FnOk P w K mg base CX0 1 f fd ["self", "at", "why"] (spBsInit K C) := by
  refine F.ok scBsInit (fun vs H Q E h => ?_) (fun cdv A outer s H vs Q E hr h => ?_)
  · obtain ⟨a, at_, why, rfl, _⟩ := h
    rfl
  · obtain ⟨a, at_, why, rfl, ha, h0, h1, hw, k⟩ := h
    have nd := scBsInit.nd
    refine ⟨_, pss_cons (ps_expr (pe_baseinit (by rfl) g_SumError TB (pa_cons (pv 0) (pa_cons (pe_joined (.cons pe_str (.cons (pe_fmt (pv 1)) (.cons pe_str (.cons (pe_fmt (pv 2)) .nil))))) pa_nil)))) (pss_cons (ps_ost (pv 0) (pv 1)) (pss_one (ps_ost (pv 0) (pv 2)))), ?_⟩
    obtain ⟨n, rfl⟩ : ∃ n : Nat, at_ = (n : Int) := ⟨at_.toNat, by omega⟩
    have hn := int_small n (by omega)
    have hlog : ((n : Int)).natAbs.log2 < 1920 := by
      have e1 : (n : Int).natAbs = n := Int.natAbs_natCast n
      rw [e1]
      exact Nat.lt_of_le_of_lt (Nat.le_trans (Nat.log2_le_self n) (by omega : n ≤ 100)) (by decide)
    refine ⟨_, rfl, _, rfl, ?_, _, rfl, .inr ⟨(n : Int), rfl, hlog, _, rfl, ?_, _, rfl, ?_, _, rfl, .inl ⟨why, rfl, line_of (by omega), _, rfl, ?_, a, C, [_], rfl, by show 1 ≤ 1000; decide, T, ha, ?_⟩⟩⟩
    · exact line_of (by decide)
    · refine line_of ?_
      rw [PySem.Str.length_append]
      have : (Str.empty ++ Str.ofString "sum ").length = 4 := by decide
      omega
    · refine line_of ?_
      rw [PySem.Str.length_append, PySem.Str.length_append]
      have : (Str.empty ++ Str.ofString "sum ").length = 4 := by decide
      have : (Str.ofString ": ").length = 2 := by decide
      omega
    · refine line_of ?_
      rw [PySem.Str.length_append, PySem.Str.length_append, PySem.Str.length_append]
      have : (Str.empty ++ Str.ofString "sum ").length = 4 := by decide
      have : (Str.ofString ": ").length = 2 := by decide
      omega
    refine ⟨_, rfl, _, rfl, a, C, rfl, T, n_at, .inl ⟨ha, fun dx hdx hne => ?_⟩⟩
    have e1 : (upd (upd H dx (exd dx [("at", V.int (n : Int))])) a (exo a C (some dx))) a = some (exo a C (some dx)) := upd_same
    have e2 : (upd (upd H dx (exd dx [("at", V.int (n : Int))])) a (exo a C (some dx))) dx = some (exd dx [("at", V.int (n : Int))]) := (upd_ne hne).trans upd_same
    exact ⟨_, rfl, _, rfl, a, C, rfl, T, n_why, .inr ⟨dx, _, e1, e2, by show 1 ≤ 900; decide, k dx hdx hne⟩⟩
end
end WS
set_option maxRecDepth 100000
set_option maxHeartbeats 8000000
namespace WS
open PySem L2 SetT
/-- how a BadSheet is raised -/
structure BadTxt (P : Program) (w : World) (K : PySem.W.Frag) (mg : Str → Option Value) (base : Heap) (C f : Addr) (fd : FuncData) : Prop where
  T : OexC K C
  iC : PySem.W.findIn K (.ref C) "__init__" = some (some (.ref f))
  tI : PySem.W.typeIn K (.ref f) = some (.type "function")
  F1 : FnOk P w K mg base CX0 1 f fd ["self", "at", "why"] (spBsInit K C)
  b : Binds K fd ["self", "at", "why"] []
  g : mg "BadSheet" = some (.ref C)
/-- an exception that tells at_ and why -/
def badE (C : Addr) (H : Hp) (E : XK) (at_ : Int) (why : Str) : Prop := ∀ (d : Addr) (H' : Hp), H d = none → Same H H' → H' d = some (.xd (badFs at_ why)) → E (.ref C) (some d) H'
theorem badE.same {C : Addr} {H H1 : Hp} {E : XK} {at_ : Int} {why : Str} (h : badE C H E at_ why) (e : Same H H1) : badE C H1 E at_ why := fun d H' hd s hx => h d H' (Same.free e hd) (e.trans s) hx
theorem raise_bad {K : PySem.W.Frag} {C : Addr} {H : Hp} {E : XK} {at_ : Int} {why : Str} (h : badE C H E at_ why) (h0 : 0 ≤ at_) (h1 : at_ ≤ 100) (hw : why.length ≤ 100) (a : Addr) (ha : H a = none) :
    spBsInit K C [.ref a, .int at_, .str why] (upd H a (exo a C none)) (fun v H2 => v = .non ∧ ∃ (d : Addr) (fs : List (Str × V)), H2 a = some (exo a C (some d)) ∧ H2 d = some (exd d fs) ∧ H d = none ∧ E (.ref C) (some d) (upd (del H2 a) d (.xd fs))) (fun _ _ _ => False) := by
  refine ⟨a, at_, why, rfl, upd_same, h0, h1, hw, fun d hd hne => ?_⟩
  have hd0 : H d = none := by rw [upd_ne hne] at hd; exact hd
  refine ⟨rfl, d, badFs at_ why, (upd_ne (Ne.symm hne)).trans upd_same, upd_same, hd0, h d _ hd0 (fun c o e => ?_) upd_same⟩
  have hcd : c ≠ d := ne_of_none e hd0
  have hca : c ≠ a := ne_of_none e ha
  rw [upd_ne hcd, del_ne hca, upd_ne hcd, upd_ne hca, upd_ne hcd, upd_ne hca]
  exact e
def countsBad (b : Int) (n : Nat) : Option Str := if 2 ≤ b ∧ b ≤ 12 then (if 1 ≤ n ∧ n ≤ 3 then none else some "sums") else some "base"
def spCountsX (C : Addr) : Sp := fun vs H Q E => ∃ (b : Int) (sl : Addr) (xs : List V), vs = [.int b, .ref sl] ∧ H sl = some (.lst xs) ∧ (countsBad b xs.length = none → Q .non H) ∧ ∀ why, countsBad b xs.length = some why → badE C H E 0 why
section
variable {P : Program} {w : World} {K : PySem.W.Frag} {mg : Str → Option Value} {base : Heap}
theorem ok_countsX {f C fB : Addr} {fd fdB : FuncData} {t1 t2 t3 : Tok} (F : Fun K "check_counts" "check_counts" sCounts f fd) (R : BadTxt P w K mg base C fB fdB) (z_len : mg "len" = none) (m_LEAST_BASE : mg "LEAST_BASE" = some (.int 2 t1)) (m_MOST_BASE : mg "MOST_BASE" = some (.int 12 t2)) (m_MOST_SUMS : mg "MOST_SUMS" = some (.int 3 t3)) :
    FnOk P w K mg base (L2N.CX P w) 3 f fd ["base", "sums"] (spCountsX C) := by
  refine okN F scCounts (fun vs H Q E h => ?_) (fun cdv A outer s H vs Q E hr h => ?_)
  · obtain ⟨b, sl, xs, rfl, _⟩ := h
    rfl
  · obtain ⟨b, sl, xs, rfl, hsl, k, kE⟩ := h
    have nd := scCounts.nd
    have hrI : Room (1 + 1) _ := hr
    refine ⟨_, (pss_cons (ps_if (pt_not (pt_chain op_le op_le (pe_glob (v := .int 2) (by rfl) m_LEAST_BASE ⟨_, rfl⟩) (pv 0) (pe_glob (v := .int 12) (by rfl) m_MOST_BASE ⟨_, rfl⟩))) (pss_one (L2N.ps_raise rfl (L2N.takes_of rfl rfl rfl rfl) (L2N.pmk_oex R.T R.iC R.tI R.F1 hrI R.b .nil pass0 (by rfl) R.g (pa_cons pe_int (pa_cons pe_str pa_nil))))) pss_nil)
      (pss_one (ps_if (pt_not (pt_chain op_le op_le pe_int (pe_callB call_len_seq (by rfl) z_len PySem.boot_len (pa_cons (pv 1) pa_nil)) (pe_glob (v := .int 3) (by rfl) m_MOST_SUMS ⟨_, rfl⟩))) (pss_one (L2N.ps_raise rfl (L2N.takes_of rfl rfl rfl rfl) (L2N.pmk_oex R.T R.iC R.tI R.F1 hrI R.b .nil pass0 (by rfl) R.g (pa_cons pe_int (pa_cons pe_str pa_nil))))) pss_nil))), ?_⟩
    unfold countsBad at k kE
    refine ⟨_, rfl, _, _, rfl, rfl, _, rfl, ?_⟩
    by_cases b2 : 2 ≤ b
    case neg =>
      rw [decide_eq_false b2]
      refine iteF ⟨_, rfl, iteT ⟨by show 2 ≤ 1000; decide, fun a ha => raise_bad (kE "base" (by rw [if_neg fun h => b2 h.1])) (by decide) (by decide) (by decide) a ha⟩⟩
    rw [decide_eq_true b2]
    refine iteT ⟨_, _, rfl, rfl, _, rfl, ?_⟩
    by_cases b12 : b ≤ 12
    case neg =>
      rw [decide_eq_false b12]
      refine iteT ⟨by show 2 ≤ 1000; decide, fun a ha => raise_bad (kE "base" (by rw [if_neg fun h => b12 h.2])) (by decide) (by decide) (by decide) a ha⟩
    rw [decide_eq_true b12]
    rw [if_pos ⟨b2, b12⟩] at k kE
    refine iteF ?_
    refine ⟨_, rfl, sl, _, rfl, .inl (SqL.of hsl), _, _, rfl, rfl, _, rfl, ?_⟩
    by_cases n1 : 1 ≤ xs.length
    case neg =>
      rw [decide_eq_false (by omega)]
      refine iteF ⟨_, rfl, iteT ⟨by show 2 ≤ 1000; decide, fun a ha => raise_bad (kE "sums" (by rw [if_neg fun h => n1 h.1])) (by decide) (by decide) (by decide) a ha⟩⟩
    rw [decide_eq_true (by omega)]
    refine iteT ⟨_, _, rfl, rfl, _, rfl, ?_⟩
    by_cases n3 : xs.length ≤ 3
    case neg =>
      rw [decide_eq_false (by omega)]
      refine iteT ⟨by show 2 ≤ 1000; decide, fun a ha => raise_bad (kE "sums" (by rw [if_neg fun h => n3 h.2])) (by decide) (by decide) (by decide) a ha⟩
    rw [decide_eq_true (by omega)]
    exact iteF (k (by rw [if_pos ⟨n1, n3⟩]))
end
def checkAt (b : Int) (ss : List WSum) (i : Nat) : Option Str := match ss[i]? with
  | none => none
  | some s => if 1 ≤ s.1.length ∧ s.1.length ≤ 4 then (if (s.1 ++ [s.2]).all isWord = true then (if min 8 b < ((metS (signsOf (wordsOf (ss.take (i + 1))))).length : Int) then some "letters" else none) else some "word") else some "addends"
theorem checkAt_at {b : Int} {ss : List WSum} {i : Nat} {s : WSum} (h : ss[i]? = some s) : checkAt b ss i = (if 1 ≤ s.1.length ∧ s.1.length ≤ 4 then (if (s.1 ++ [s.2]).all isWord = true then (if min 8 b < ((metS (signsOf (wordsOf (ss.take (i + 1))))).length : Int) then some ("letters" : Str) else none) else some ("word" : Str)) else some ("addends" : Str) : Option Str) := by
  unfold checkAt
  rw [h]
theorem fine_of {b : Int} {ss : List WSum} {i : Nat} {s : WSum} (h : ss[i]? = some s) (e : checkAt b ss i = none) : (1 ≤ s.1.length ∧ s.1.length ≤ 4) ∧ (s.1 ++ [s.2]).all isWord = true := by
  rw [checkAt_at h] at e
  by_cases h1 : 1 ≤ s.1.length ∧ s.1.length ≤ 4
  · rw [if_pos h1] at e
    by_cases h2 : (s.1 ++ [s.2]).all isWord = true
    · exact ⟨h1, h2⟩
    · rw [if_neg h2] at e; cases e
  · rw [if_neg h1] at e; cases e
def spCheckX (C : Addr) : Sp := fun vs H Q E => ∃ (b : Int) (sl : Addr) (ts : List Addr) (ss : List WSum), vs = [.int b, .ref sl] ∧ H sl = some (.lst (ts.map V.ref)) ∧ SumsAt H ts ss ∧ ss.length ≤ 10 ∧ (∀ s ∈ ss, s.1.length ≤ 10) ∧ (∀ z ∈ wordsOf ss, z.length ≤ 100) ∧
  ((∀ i, i < ss.length → checkAt b ss i = none) → ∀ H', Same H H' → Q .non H') ∧
  ∀ (i : Nat) (why : Str), (∀ j, j < i → checkAt b ss j = none) → checkAt b ss i = some why → badE C H E (i : Int) why
section
variable {P : Program} {w : World} {K : PySem.W.Frag} {mg : Str → Option Value} {base : Heap}
theorem ok_checkX {f fI C fB : Addr} {fd fdI fdB : FuncData} {t1 t2 : Tok} (F : Fun K "check_sums" "check_sums" sCheck f fd) (R : BadTxt P w K mg base C fB fdB) (z_len : mg "len" = none) (z_set : mg "set" = none) (z_all : mg "all" = none) (z_min : mg "min" = none) (z_enumerate : mg "enumerate" = none)
    (m_MOST_ADDENDS : mg "MOST_ADDENDS" = some (.int 4 t1)) (m_MOST_LETTERS : mg "MOST_LETTERS" = some (.int 8 t2)) (S_is_word : Site K mg "is_word" fI fdI ["text"]) (G_is_word : FnOk P w K mg base CX0 1 fI fdI ["text"] spIsWord) :
    FnOk P w K mg base (L2N.CX P w) 3 f fd ["base", "sums"] (spCheckX C) := by
  refine okN F scCheck (fun vs H Q E h => ?_) (fun cdv A outer s H vs Q E hr h => ?_)
  · obtain ⟨b, sl, ts, ss, rfl, _⟩ := h
    rfl
  · obtain ⟨b, sl, ts, ss, rfl, hsl, hsa, hss10, hs10, hz100, k, kE⟩ := h
    have nd := scCheck.nd
    have hr_is_word : Room 1 _ := hr.mono (by decide)
    have hrI : Room (1 + 1) _ := hr
    refine ⟨_, (pss_cons (ps_set (i := 2) nd rfl (.inl rfl) (pe_lst pa_nil))
      (pss_one (ps_for (passes_of rfl) rfl (pi_enum (by rfl) z_enumerate (pa_cons (pv 1) pa_nil)) (pg_tup rfl (pgs_cons (pg_name (i := 3) nd rfl (.inl rfl)) (pgs_cons (pg_tup rfl (pgs_cons (pg_name (i := 4) nd rfl (.inl rfl)) (pgs_cons (pg_name (i := 5) nd rfl (.inl rfl)) pgs_nil))) pgs_nil))) (pss_cons (ps_if (pt_not (pt_chain op_le op_le pe_int (pe_callB call_len_seq (by rfl) z_len PySem.boot_len (pa_cons (pv 4) pa_nil)) (pe_glob (v := .int 4) (by rfl) m_MOST_ADDENDS ⟨_, rfl⟩))) (pss_one (L2N.ps_raise rfl (L2N.takes_of rfl rfl rfl rfl) (L2N.pmk_oex R.T R.iC R.tI R.F1 hrI R.b .nil pass0 (by rfl) R.g (pa_cons (pv 3) (pa_cons pe_str pa_nil))))) pss_nil)
      (pss_cons (ps_if (pt_not (pt_val (pe_callB (cr_all rfl) (by rfl) z_all (by decide +kernel) (pa_cons (pe_lc (own := [("word", 6)]) (g := (gName 6)) (tt := tYes) rfl nd (pi_tup (pe_tup (StX.pa_star (pv 4) (pa_cons (pv 5) pa_nil)))) (blkOk_by (own := [("word", 6)]) (N := ["base", "sums", "words", "at", "addends", "total", "word"]) (sc := defScope sCheck) (by decide +kernel)) (fun _ _ _ _ _ => (pg_name (i := 6) nd rfl (.inl rfl))) (fun _ _ _ _ _ => pts_nil) (fun _ _ _ _ _ => (pe_call G_is_word hr_is_word (by rfl) S_is_word.g S_is_word.k S_is_word.b .nil pass0 (pa_cons (pv 6) pa_nil)))) pa_nil)))) (pss_one (L2N.ps_raise rfl (L2N.takes_of rfl rfl rfl rfl) (L2N.pmk_oex R.T R.iC R.tI R.F1 hrI R.b .nil pass0 (by rfl) R.g (pa_cons (pv 3) (pa_cons pe_str pa_nil))))) pss_nil)
      (pss_cons (ps_expr (pe_bm PySem.F.plainAttrs_list PySem.F.slot_list_extend PySem.F.type_list_extend mt_extend (pv 2) (pa_cons (pe_lst (StX.pa_star (pv 4) (pa_cons (pv 5) pa_nil))) pa_nil)))
      (pss_one (ps_if (pt_cmpR op_gt (pe_lenSetT (by rfl) z_len (by rfl) z_set (pe_join pe_str (pv 2))) (pe_callB (call_min2 rfl) (by rfl) z_min (by decide +kernel) (pa_cons (pe_glob (v := .int 8) (by rfl) m_MOST_LETTERS ⟨_, rfl⟩) (pa_cons (pv 0) pa_nil))) (nomark _)) (pss_one (L2N.ps_raise rfl (L2N.takes_of rfl rfl rfl rfl) (L2N.pmk_oex R.T R.iC R.tI R.F1 hrI R.b .nil pass0 (by rfl) R.g (pa_cons (pv 3) (pa_cons pe_str pa_nil))))) pss_nil)))))))), ?_⟩
    refine ⟨by show 0 ≤ sizeLine; decide, fun wl hwl => ?_⟩
    have hslw : sl ≠ wl := ne_of_none hsl hwl
    refine ⟨_, rfl, sl, _, rfl, SqL.of ((upd_ne hslw).trans hsl), for_it (walk_enum (xs := ts.map V.ref)) (fun i σ H2 => ∃ v3 v4 v5, σ = [some (.int b), some (.ref sl), some (.ref wl), v3, v4, v5, none] ∧ Same H H2 ∧ H2 wl = some (.lst ((wordsOf (ss.take i)).map V.str)) ∧ ∀ j, j < i → checkAt b ss j = none)
      ⟨none, none, none, rfl, Same.new hwl, upd_same, fun j hj => absurd hj (Nat.not_lt_zero j)⟩ (fun i σ H2 _ ⟨_, _, _, _, s2, _⟩ => SqL.of (s2 _ _ hsl)) ?_ ?_⟩
    · rintro i x σ H2 H3 hi ⟨v3, v4, v5, rfl, s2, hw, hfine⟩ ⟨T, x1, x2, rfl, hT, rfl, e1, e2⟩
      rw [List.length_map] at hi
      have e1' : x1 = .int (i : Nat) := (Option.some.inj e1).symm
      subst e1'
      obtain ⟨t, ht, rfl⟩ := refs_at e2
      have hiss : i < ss.length := hsa.len ▸ hi
      have hs : ss[i]? = some ss[i] := List.getElem?_eq_getElem hiss
      generalize hsg : ss[i] = sm at hs
      have hsm : sm ∈ ss := List.mem_of_getElem? hs
      have s3 : Same H (upd H2 T (.tup [.int (i : Nat), .ref t])) := s2.trans (Same.new hT)
      obtain ⟨u, ht1, hu1⟩ := (hsa.get i t sm ht hs).same s3
      have hwT : wl ≠ T := ne_of_none hw hT
      have hw3 : (upd H2 T (.tup [.int (i : Nat), .ref t])) wl = some (.lst ((wordsOf (ss.take i)).map V.str)) := (upd_ne hwT).trans hw
      have hTu : (upd H2 T (.tup [.int (i : Nat), .ref t])) T = some (.tup [.int (i : Nat), .ref t]) := upd_same
      generalize upd H2 T (.tup [.int (i : Nat), .ref t]) = H3 at s3 ht1 hu1 hw3 hTu
      have hkE := fun why h => (kE i why hfine h)
      have hcat := checkAt_at (b := b) hs
      have hn10 := hs10 sm hsm
      have hi10 : (0 : Int) ≤ ((i : Nat) : Int) ∧ ((i : Nat) : Int) ≤ 100 := ⟨by omega, by omega⟩
      refine ⟨T, _, rfl, SqT.of hTu, rfl, _, _, rfl, _, _, rfl, t, _, rfl, SqT.of ht1, rfl, _, _, rfl, _, _, rfl, rfl, rfl, ?_⟩
      -- the count of the addends
      refine ⟨_, rfl, u, _, rfl, .inr (SqT.of hu1), _, _, rfl, rfl, _, rfl, ?_⟩
      rw [List.length_map]
      by_cases m1 : 1 ≤ sm.1.length
      case neg =>
        rw [decide_eq_false (by omega)]
        refine iteF ⟨_, rfl, iteT ⟨_, rfl, by show 2 ≤ 1000; decide, fun a ha => raise_bad ((hkE "addends" (by rw [hcat, if_neg fun h => m1 h.1])).same s3) hi10.1 hi10.2 (by decide) a ha⟩⟩
      rw [decide_eq_true (by omega)]
      refine iteT ⟨_, _, rfl, rfl, _, rfl, ?_⟩
      by_cases m4 : sm.1.length ≤ 4
      case neg =>
        rw [decide_eq_false (by omega)]
        refine iteT ⟨_, rfl, by show 2 ≤ 1000; decide, fun a ha => raise_bad ((hkE "addends" (by rw [hcat, if_neg fun h => m4 h.2])).same s3) hi10.1 hi10.2 (by decide) a ha⟩
      rw [decide_eq_true (by omega)]
      rw [if_pos ⟨m1, m4⟩] at hcat
      refine iteF ?_
      -- its words
      refine ⟨_, rfl, u, _, rfl, .inl (SqT.of hu1), _, rfl, ?_, fun q hq => ?_⟩
      · rw [List.length_append, List.length_map]
        exact line_of (by show _ + 1 ≤ _; omega)
      refine ⟨q, rfl, ⟨_, SqT.of upd_same⟩, fun D hD => ?_⟩
      have hqD : q ≠ D := ne_of_none upd_same hD
      have hD3 : H3 D = none := by rw [upd_ne (Ne.symm hqD)] at hD; exact hD
      have hwq : wl ≠ q := ne_of_none hw3 hq
      have hwD : wl ≠ D := ne_of_none hw3 hD3
      refine lc_tup (K := K) (a := q) (xs := sm.1.map V.str ++ [.str sm.2]) (fun j H4 => H4 D = some (.lst ((((sm.1 ++ [sm.2]).take j).map isWord).map V.bl)) ∧ Same (upd H3 q (.tup (sm.1.map V.str ++ [.str sm.2]))) H4)
        ⟨upd_same, Same.new hD⟩ (fun j H4 _ ⟨_, s4⟩ => SqT.of (s4 _ _ upd_same)) ?_ ?_
      · rintro j y H4 hj ⟨hD4, s4⟩
        have hy : sm.1.map V.str ++ [V.str sm.2] = (sm.1 ++ [sm.2]).map V.str := by rw [List.map_append] <;> rfl
        rw [hy] at hj
        obtain ⟨z, hz, rfl⟩ := strs_at' hj
        have hjl : j < (sm.1 ++ [sm.2]).length := (List.getElem?_eq_some_iff.mp hz).1
        rw [List.length_append] at hjl
        have hjl' : j < sm.1.length + 1 := hjl
        have hzm : z ∈ wordsOf ss := by
          have := List.mem_of_getElem? hz
          refine mem_wordsOf hsm ?_
          rcases List.mem_append.mp this with h | h
          · exact .inl h
          · exact .inr (by simpa using h)
        refine ⟨rfl, _, rfl, z, rfl, by have := hz100 z hzm; omega, fun H5 s5 => ?_⟩
        refine ⟨_, s5 _ _ hD4, ?_, ?_, ?_⟩
        · rw [List.length_map, List.length_map, List.length_take]
          exact line_lt (by omega)
        · rw [upd_same, List.take_add_one, hz, List.map_append, List.map_append] <;> rfl
        · exact Same.mut (s4.trans s5) hD
      · rintro H4 ⟨hD4, s4⟩
        rw [List.length_append, List.length_map, show sm.1.length + [V.str sm.2].length = (sm.1 ++ [sm.2]).length from by rw [List.length_append] <;> rfl, List.take_length] at hD4
        refine ⟨D, _, rfl, SqL.of hD4, _, rfl, ?_⟩
        have ea : ((sm.1 ++ [sm.2]).map isWord).all id = (sm.1 ++ [sm.2]).all isWord := by rw [List.all_map] <;> rfl
        rw [ea]
        have s34 : Same H3 H4 := (Same.new hq).trans s4
        have s04 : Same H H4 := s3.trans s34
        cases haw : (sm.1 ++ [sm.2]).all isWord
        · refine iteT ⟨_, rfl, by show 2 ≤ 1000; decide, fun a ha => raise_bad ((hkE "word" (by rw [hcat, if_neg (by rw [haw]; decide)])).same s04) hi10.1 hi10.2 (by decide) a ha⟩
        rw [if_pos haw] at hcat
        refine iteF ?_
        have hfw : ∀ z ∈ wordsOf (ss.take (i + 1)), isWord z = true := fun z hz => by
          rw [wordsOf_take hs] at hz
          rcases List.mem_append.mp hz with h | h
          · unfold wordsOf at h
            obtain ⟨q, hq, hzq⟩ := List.mem_flatten.mp h
            obtain ⟨s', hs', rfl⟩ := List.mem_map.mp hq
            obtain ⟨j, hj⟩ := List.mem_iff_getElem?.mp hs'
            have hji : j < i := by
              have := (List.getElem?_eq_some_iff.mp hj).1
              rw [List.length_take] at this
              omega
            rw [List.getElem?_take, if_pos hji] at hj
            exact List.all_eq_true.mp (fine_of hj (hfine j hji)).2 z hzq
          · exact List.all_eq_true.mp haw z h
        have hw6 : ∀ z ∈ wordsOf (ss.take (i + 1)), 1 ≤ z.length ∧ z.length ≤ 6 := fun z hz => (isWord_iff.mp (hfw z hz)).1
        have hmany : ∀ s ∈ ss.take (i + 1), s.1.length ≤ 4 := fun s' hs' => by
          obtain ⟨j, hj⟩ := List.mem_iff_getElem?.mp hs'
          have hji : j < i + 1 := by
            have := (List.getElem?_eq_some_iff.mp hj).1
            rw [List.length_take] at this
            omega
          rw [List.getElem?_take, if_pos hji] at hj
          by_cases e : j = i
          · subst e
            cases Option.some.inj (hs.symm.trans hj)
            exact m4
          · exact (fine_of hj (hfine j (by omega))).1.2
        have hw4 := s34 _ _ hw3
        -- words.extend
        refine ⟨_, rfl, .inl ⟨rfl, _, SqL.of hw4⟩, _, rfl, u, _, rfl, .inl (SqT.of (s34 _ _ hu1)), _, rfl, ?_, fun q2 hq2 => ?_⟩
        · rw [List.length_append, List.length_map]
          exact line_of (by show _ + 1 ≤ _; omega)
        have hwl4 := wordsOf_len (ss := ss.take i) fun s' hs' => hmany s' (by rw [List.take_add_one]; exact List.mem_append_left _ hs')
        rw [List.length_take] at hwl4
        refine ⟨wl, q2, _, _, rfl, rfl, (upd_ne (ne_of_none hw4 hq2)).trans hw4, upd_same, ?_, ?_⟩
        · rw [List.length_map, List.length_append, List.length_map]
          exact line_of (by show _ + (_ + 1) ≤ _; omega)
        have ew : (wordsOf (ss.take i)).map V.str ++ (sm.1.map V.str ++ [V.str sm.2]) = (wordsOf (ss.take (i + 1))).map V.str := by
          rw [wordsOf_take hs, List.map_append, List.map_append] <;> rfl
        rw [ew]
        -- the letters so far
        have hwl5 := wordsOf_len (ss := ss.take (i + 1)) hmany
        rw [List.length_take] at hwl5
        have hsum := sum_lens (ws := wordsOf (ss.take (i + 1))) (m := 6) fun z hz => (hw6 z hz).2
        have hjs := join_signsOf (wordsOf (ss.take (i + 1)))
        have hjl := signsOf_len (ws := wordsOf (ss.take (i + 1))) (m := 6) fun z hz => by
          have := (hw6 z hz).2
          have e : z.cps.toList.length = z.length := Array.length_toList
          omega
        refine ⟨⟨_, rfl⟩, _, rfl, _, wl, wordsOf (ss.take (i + 1)), rfl, rfl, .inl (SqL.of upd_same), ?_, ?_⟩
        · show _ + _ * 0 ≤ _
          omega
        refine ⟨_, rfl, ?_, ?_⟩
        · have e : (Txt.join ("" : Str) (wordsOf (ss.take (i + 1)))).cps.toList.length = (Txt.join ("" : Str) (wordsOf (ss.take (i + 1)))).length := Array.length_toList
          rw [hjs] at e
          omega
        rw [hjs]
        refine ⟨_, rfl, _, _, rfl, _, _, rfl, rfl, _, rfl, ?_⟩
        have hsm5 := Same.mut (o := .lst ((wordsOf (ss.take (i + 1))).map V.str)) (s04.trans (Same.new (o := .lst (sm.1.map V.str ++ [V.str sm.2])) hq2)) hwl
        by_cases hL : min 8 b < ((metS (signsOf (wordsOf (ss.take (i + 1))))).length : Int)
        · rw [decide_eq_true (by split <;> omega)]
          exact iteT ⟨_, rfl, by show 2 ≤ 1000; decide, fun a ha => raise_bad ((hkE "letters" (by rw [hcat, if_pos hL])).same hsm5) hi10.1 hi10.2 (by decide) a ha⟩
        · rw [decide_eq_false (by split <;> omega)]
          refine iteF ⟨_, _, _, rfl, hsm5, upd_same, fun j hj => ?_⟩
          by_cases e : j = i
          · rw [e, hcat, if_neg hL]
          · exact hfine j (by omega)
    · rintro σ H2 ⟨v3, v4, v5, rfl, s2, hw, hfine⟩
      refine k (fun i hi => hfine i ?_) _ s2
      rw [List.length_map, hsa.len]
      exact hi
end
end WS
set_option maxRecDepth 100000
set_option maxHeartbeats 4000000
/-! making an instance where the __init__ may raise, what it lets out read at the place of the call -/
namespace WS
open PySem PySem.Spec PyProof.Rows L2
def tMakeS (C : Addr) (sp : Sp) (E : L2.St → XK) (t : TA) : TE := fun σ H Q => t σ H fun vs H1 => ∀ x dx, H1 x = none → H1 dx = none → dx ≠ x → sp (.ref x :: vs) (upd (upd H1 dx (.own x)) x (.ins C dx [])) (fun v H2 => v = .non ∧ Q (.ref x) H2) (E σ)
section
variable {X : Cx} {CX : CXT} {C f : Addr} {fd : FuncData} {k : Nat} {ps : List Str} {sp : Sp} {E : L2.St → XK} {x : Str} {e : Expr} {es : List Expr} {t : TA} {p pos : Pos}
theorem pe_makeS (M : Mk X.K C f) (F : FnOk X.prog X.w X.K X.mg X.base CX k f fd ps sp) (hr : Room (k + 1) X.A) (hg : Gl X x) (hm : X.mg x = some (.ref C)) (hb : Binds X.K fd ps []) (hx : ∀ σ, PassesAt CX X σ (E σ))
    (ha : PA X (e :: es) t) (hdb : (x == ("__debug__" : Str)) = false := by decide) (he : starEach (e :: es) X.env = (false, eval e X.env) :: starEach es X.env := by rfl) (hpl : (backTo pos (starEach es X.env)).any (·.1) = false := by rfl) :
    PE X (.Call (.Name x p) (e :: es) [] pos) (tMakeS C sp E t) := by
  refine ⟨fun pins s σ H Q I h => ?_⟩
  refine wpAny_Call_Name_kw (ld_glob I hg hm (PySem.W.callWith_K (h₀ := X.base) I.ok.mod.kin M.kp (thn (ha.run pos pins s σ H _ I h) fun us s1 ⟨vs, H1, I1, r, q⟩ => ⟨I1.kIn, ?_⟩) he hpl) hdb)
  have hq := q (s1.heap.objs.size + 1) s1.heap.objs.size (I1.hok.fresh (Nat.le_succ _)) (I1.hok.fresh (Nat.le_refl _)) (Nat.ne_of_lt (Nat.lt_succ_self _))
  have J := Inv.made (C := C) I1
  have rr : Vals (V.ref (s1.heap.objs.size + 1) :: vs) (Value.ref (s1.heap.objs.size + 1) :: us) := .cons rfl r
  have hl : (Value.ref (s1.heap.objs.size + 1) :: us).length = ps.length := rr.length.symm.trans (F.len _ _ _ _ hq)
  have b2 := hb _ (Value.ref (s1.heap.objs.size + 1) :: us) J.kIn (by rw [List.append_nil]; exact hl)
  rw [List.append_nil] at b2
  have body := F.run _ X.stack _ _ ⟨Value.ref (s1.heap.objs.size + 1) :: us, []⟩ (Value.ref (s1.heap.objs.size + 1) :: us) _ _ (E σ) (hr.make C us []) (J.env0.make C us []) b2 rr hq
  refine wpAny_call (make_map (f := f) I1.kIn M.makes M.init (beq_iff_eq.mp M.fn) (codeAny_mono body fun r s' hq' => ?_))
  match r, hq' with
  | .error u, hq' => exact hx σ pins _ _ u s' J hq'
  | .ok .next, hq' => exact False.elim hq'
  | .ok .brk, hq' => exact False.elim hq'
  | .ok .cont, hq' => exact False.elim hq'
  | .ok (.ret u), hq' =>
    obtain ⟨v, H', J2, rv, ev, q3⟩ := J.after hq'
    subst ev
    exact ⟨rv, ⟨V.ref (s1.heap.objs.size + 1), H', J2, rfl, q3⟩⟩
end
end WS
set_option maxRecDepth 100000
set_option maxHeartbeats 8000000
namespace WS
open PySem L2 SetT
/-- that a sheet cannot be, and what is told of it -/
def BadOf (b : Int) (ss : List WSum) (i : Nat) (why : Str) : Prop := (countsBad b ss.length = some why ∧ i = 0) ∨ (countsBad b ss.length = none ∧ (∀ j, j < i → checkAt b ss j = none) ∧ checkAt b ss i = some why)
def spShInitX (C cBS : Addr) : Sp := fun vs H Q E => ∃ (p dx : Addr) (b : Int) (sl : Addr) (ts : List Addr) (ss : List WSum) (i : Nat) (why : Str), vs = [.ref p, .int b, .ref sl] ∧ H p = some (.ins C dx []) ∧ H sl = some (.lst (ts.map V.ref)) ∧ SumsAt H ts ss ∧ ss.length ≤ 10 ∧ (∀ s ∈ ss, s.1.length ≤ 10) ∧ (∀ z ∈ wordsOf ss, z.length ≤ 100) ∧
  BadOf b ss i why ∧ badE cBS H E (i : Int) why
section
variable {P : Program} {w : World} {K : PySem.W.Frag} {mg : Str → Option Value} {base : Heap}
theorem ok_shinitX {f C cBS fA fB : Addr} {fd fdA fdB : FuncData} (F : Fun K "__init__" "Sheet.__init__" sShInit f fd) (T : SheetTxt K mg C) (z_list : mg "list" = none)
    (S_check_counts : Site K mg "check_counts" fA fdA ["base", "sums"]) (X_check_counts : FnOk P w K mg base (L2N.CX P w) 3 fA fdA ["base", "sums"] (spCountsX cBS))
    (S_check_sums : Site K mg "check_sums" fB fdB ["base", "sums"]) (X_check_sums : FnOk P w K mg base (L2N.CX P w) 3 fB fdB ["base", "sums"] (spCheckX cBS)) :
    FnOk P w K mg base (L2N.CX P w) 4 f fd ["self", "base", "sums"] (spShInitX C cBS) := by
  refine okN F scShInit (fun vs H Q E h => ?_) (fun cdv A outer s H vs Q E hr h => ?_)
  · obtain ⟨p, dx, b, sl, ts, ss, i, why, rfl, _⟩ := h
    rfl
  · obtain ⟨p, dx, b, sl, ts, ss, i, why, rfl, hp, hsl, hsa, h10, hs10, hz100, hbad, kE⟩ := h
    have nd := scShInit.nd
    refine ⟨_, (pss_cons (ps_expr (pe_callS X_check_counts hr (by rfl) S_check_counts.g S_check_counts.k S_check_counts.b (fun σ => L2N.passAt (L2N.takes_of rfl rfl rfl rfl) σ) (pa_cons (pv 1) (pa_cons (pv 2) pa_nil))))
      (pss_cons (ps_expr (pe_callS X_check_sums hr (by rfl) S_check_sums.g S_check_sums.k S_check_sums.b (fun σ => L2N.passAt (L2N.takes_of rfl rfl rfl rfl) σ) (pa_cons (pv 1) (pa_cons (pv 2) pa_nil))))
      (pss_cons (ps_fld (pv 0) (pv 1) rfl)
      (pss_one (ps_fld (pv 0) (pe_callTy call_list_of (by rfl) z_list (by decide +kernel) (pa_cons (pv 2) pa_nil)) rfl))))), ?_⟩
    have hl := hsa.len
    refine ⟨_, rfl, _, rfl, b, sl, _, rfl, hsl, fun hc => ?_, fun why' hw => ?_⟩
    · rw [List.length_map, hl] at hc
      rcases hbad with ⟨h1, _⟩ | ⟨_, h2, h3⟩
      · rw [hc] at h1; cases h1
      refine ⟨_, rfl, _, rfl, b, sl, ts, ss, rfl, hsl, hsa, h10, hs10, hz100, fun hno => ?_, fun i' why' hf hw => ?_⟩
      · have hlt : i < ss.length := by
          unfold checkAt at h3
          cases e : ss[i]? with
          | none => rw [e] at h3; cases h3
          | some s => exact (List.getElem?_eq_some_iff.mp e).1
        rw [hno i hlt] at h3
        cases h3
      · rcases Nat.lt_trichotomy i i' with h | h | h
        · rw [hf i h] at h3; cases h3
        · subst h
          rw [h3] at hw
          cases hw
          exact kE
        · rw [h2 i' h] at hw; cases hw
    · rw [List.length_map, hl] at hw
      rcases hbad with ⟨h1, rfl⟩ | ⟨h1, _⟩
      · rw [hw] at h1
        cases h1
        exact kE
      · rw [hw] at h1; cases h1
end
end WS
set_option maxRecDepth 100000
set_option maxHeartbeats 8000000
namespace WS
open PySem L2 SetT RevS
/-- the first row that is none -/
def firstBad (r0 : Str) (rs : List Str) (n : Int) : Prop := (n = 0 ∧ isBaseB r0 = false) ∨ (∃ m : Nat, n = (m : Int) + 1 ∧ isBaseB r0 = true ∧ (∀ j r, j < m → rs[j]? = some r → wordsOfB r ≠ []) ∧ ∃ r, rs[m]? = some r ∧ wordsOfB r = [])
/-- rows that are all good, but no sheet -/
def goodRows (r0 : Str) (rs : List Str) (i : Nat) (why : Str) : Prop := isBaseB r0 = true ∧ (∀ r ∈ rs, wordsOfB r ≠ [] ∧ (wordsOfB r).length ≤ 10) ∧ ∃ b, PySem.intText? (Txt.removeprefix r0 aheadT) = some b ∧ BadOf b (rs.map sumOfRow) i why
def spReadX (cBS cBT : Addr) : Sp := fun vs H Q E => ∃ (r0 : Str) (rs : List Str), vs = [.str (Str.join ("\n" : Str) (r0 :: rs))] ∧ rs.length ≤ 9 ∧ (∀ r ∈ r0 :: rs, r.length ≤ 60 ∧ 10 ∉ r.cps.toList) ∧
  ((∃ n, firstBad r0 rs n ∧ textE cBT H E n) ∨ ∃ i why, goodRows r0 rs i why ∧ badE cBS H E (i : Int) why)
theorem rows_split {rows : List Str} (hne : rows ≠ []) (h : ∀ r ∈ rows, 10 ∉ r.cps.toList) : Txt.split (Str.join ("\n" : Str) rows) ("\n" : Str) = rows :=
  split_parts (c := 10) (by rw [join_jl] <;> rfl) hne h
section
variable {P : Program} {w : World} {K : PySem.W.Frag} {mg : Str → Option Value} {base : Heap}
theorem scReadX : FnScope ["text", "rows", "sums", "number", "words"] ["text"] (defScope sRead) := ⟨rfl, rfl, rfl, by decide +kernel, rfl, by decide +kernel, by decide +kernel⟩
theorem ok_readX {f C cBS cBT fI fT fB fW : Addr} {fd fdI fdT fdB fdW : FuncData} {t1 : Tok} (F : Fun K "read" "read" sRead f fd) (T : SheetTxt K mg C) (R : TextTxt P w K mg base cBT fT fdT) (z_len : mg "len" = none) (z_range : mg "range" = none) (z_tuple : mg "tuple" = none) (z_int : mg "int" = none) (m_AHEAD_OF_BASE : mg "AHEAD_OF_BASE" = some (.str aheadT t1))
    (M : Mk K C fI) (bI : Binds K fdI ["self", "base", "sums"] []) (XI : FnOk P w K mg base (L2N.CX P w) 4 fI fdI ["self", "base", "sums"] (spShInitX C cBS))
    (S_is_base_row : Site K mg "is_base_row" fB fdB ["row"]) (G_is_base_row : FnOk P w K mg base CX0 1 fB fdB ["row"] spIsBaseX)
    (S_words_of : Site K mg "words_of" fW fdW ["row"]) (G_words_of : FnOk P w K mg base CX0 2 fW fdW ["row"] spWordsOfX) :
    FnOk P w K mg base (L2N.CX P w) 6 f fd ["text"] (spReadX cBS cBT) := by
  refine okN F scReadX (fun vs H Q E h => ?_) (fun cdv A outer s H vs Q E hr h => ?_)
  · obtain ⟨r0, rs, rfl, _⟩ := h
    rfl
  · obtain ⟨r0, rs, rfl, hn, hrw, hk⟩ := h
    have nd := scReadX.nd
    have hr_sheet : Room (4 + 1) _ := hr
    have hr_is_base_row : Room 1 _ := hr.mono (by decide)
    have hr_words_of : Room 2 _ := hr.mono (by decide)
    have hrI : Room (1 + 1) _ := hr.mono (by decide)
    refine ⟨_, (pss_cons (ps_set (i := 1) nd rfl (.inl rfl) (pe_split (pv 0) pe_str))
      (pss_cons (ps_if (pt_not (pt_val (pe_call G_is_base_row hr_is_base_row (by rfl) S_is_base_row.g S_is_base_row.k S_is_base_row.b .nil pass0 (pa_cons (pe_ix (r := rIxL K) ix_list (pv 1) pe_int (fun _ _ => rfl)) pa_nil)))) (pss_one (L2N.ps_raise rfl (L2N.takes_of rfl rfl rfl rfl) (L2N.pmk_oex R.T R.iC R.tI R.F1 hrI R.b .nil pass0 (by rfl) R.g (pa_cons pe_int pa_nil)))) pss_nil)
      (pss_cons (ps_set (i := 2) nd rfl (.inl rfl) (pe_lst pa_nil))
      (pss_cons (ps_for (passes_of rfl) rfl (pi_range2 (by rfl) z_range (pa_cons pe_int (pa_cons (pe_callB call_len_seq (by rfl) z_len PySem.boot_len (pa_cons (pv 1) pa_nil)) pa_nil))) (pg_name (i := 3) nd rfl (.inl rfl)) (pss_cons (ps_set (i := 4) nd rfl (.inl rfl) (pe_call G_words_of hr_words_of (by rfl) S_words_of.g S_words_of.k S_words_of.b .nil pass0 (pa_cons (pe_ix (r := rIxL K) ix_list (pv 1) (pv 3) (fun _ _ => rfl)) pa_nil)))
      (pss_cons (ps_if (pt_not (pt_truth (pv 4) (by intro _; rfl))) (pss_one (L2N.ps_raise rfl (L2N.takes_of rfl rfl rfl rfl) (L2N.pmk_oex R.T R.iC R.tI R.F1 hrI R.b .nil pass0 (by rfl) R.g (pa_cons (pv 3) pa_nil)))) pss_nil)
      (pss_one (ps_expr (pe_bm PySem.F.plainAttrs_list PySem.F.slot_list_append PySem.F.type_list_append mt_append (pv 2) (pa_cons (pe_tup (pa_cons (pe_callTy call_tuple_of (by rfl) z_tuple (by decide +kernel) (pa_cons (pe_slice sl_list (pv 4) po_none (po_some (pe_un un_neg pe_int))) pa_nil)) (pa_cons (pe_ix (r := rIxL K) ix_list (pv 4) (pe_un un_neg pe_int) (fun _ _ => rfl)) pa_nil))) pa_nil)))))))
      (pss_one (ps_ret (pe_makeS M XI hr_sheet (by rfl) T.g bI (fun σ => L2N.passAt (L2N.takes_of rfl rfl rfl rfl) σ) (pa_cons (pe_callTy call_int_str (by rfl) z_int (by decide +kernel) (pa_cons (pe_m1 PySem.F.slot_str_removeprefix PySem.F.type_str_removeprefix mt_removeprefix (pe_ix (r := rIxL K) ix_list (pv 1) pe_int (fun _ _ => rfl)) (pe_glob (v := .str aheadT) (by rfl) m_AHEAD_OF_BASE ⟨_, rfl⟩)) pa_nil)) (pa_cons (pv 2) pa_nil))))))))), ?_⟩
    have hlenT : (Str.join ("\n" : Str) (r0 :: rs)).length ≤ 700 := by
      have h1 := PySem.StrLaws.join_length_le ("\n" : Str) (r0 :: rs)
      have h2 : ((r0 :: rs).map (·.length)).sum ≤ (r0 :: rs).length * 60 := sum_map_le fun z hz => (hrw z hz).1
      rw [show ("\n" : Str).length = 1 from rfl] at h1
      have h3 : (r0 :: rs).length = rs.length + 1 := rfl
      omega
    refine ⟨_, rfl, ⟨_, rfl⟩, _, ("\n" : Str), rfl, rfl, rfl, line_of (by omega), fun q hq => ?_⟩
    rw [rows_split (by simp) fun r h => (hrw r h).2]
    generalize Str.join ("\n" : Str) (r0 :: rs) = txt at *
    have s1 : Same H (upd H q (.lst ((r0 :: rs).map V.str))) := Same.new hq
    have hq1 : (upd H q (.lst ((r0 :: rs).map V.str))) q = some (.lst ((r0 :: rs).map V.str)) := upd_same
    generalize upd H q (.lst ((r0 :: rs).map V.str)) = H1 at s1 hq1
    have hr0 := (hrw r0 List.mem_cons_self).1
    refine ⟨_, rfl, q, _, 0, _, rfl, rfl, SqL.of hq1, at_of (j := 0) rfl rfl, r0, rfl, by omega, fun H2 s2 => ?_⟩
    have s12 := s1.trans s2
    cases hb0 : isBaseB r0
    · refine ⟨_, rfl, iteT ⟨by show 1 ≤ 1000; decide, fun a ha => ?_⟩⟩
      rcases hk with ⟨n, (⟨rfl, _⟩ | ⟨m, rfl, h, _⟩), hE⟩ | ⟨i, why, ⟨h, _⟩, _⟩
      · exact raise_text (hE.same s12) (by decide) (by decide) a ha
      · rw [hb0] at h; cases h
      · rw [hb0] at h; cases h
    refine ⟨_, rfl, iteF ?_⟩
    have hq2 := s2 _ _ hq1
    refine ⟨by show 0 ≤ sizeLine; decide, fun m hm => ?_⟩
    have hm0 : H m = none := Same.free s12 hm
    have s3 : Same H2 (upd H2 m (.lst [])) := Same.new hm
    have hm3 : (upd H2 m (.lst [])) m = some (.lst []) := upd_same
    generalize upd H2 m (.lst []) = H3 at s3 hm3
    have hq3 := s3 _ _ hq2
    have hlen : ((r0 :: rs).map V.str).length = rs.length + 1 := by rw [List.length_map, List.length_cons]
    have hqm : q ≠ m := ne_of_none hq2 hm
    refine ⟨_, rfl, q, _, rfl, .inl (SqL.of hq3), ?_⟩
    rw [hlen]
    refine ⟨1, _, rfl, ⟨by omega, by omega, by omega, by omega⟩, for_range (lo := 1) (n := (((rs.length + 1 : Nat) : Int) - 1).toNat) (fun i σ H4 => ∃ v3 v4 ts, σ = [some (.str txt), some (.ref q), some (.ref m), v3, v4] ∧ Same H2 H4 ∧ H4 m = some (.lst (ts.map V.ref)) ∧ SumsAt H4 ts ((rs.take i).map sumOfRow) ∧ ∀ j r, j < i → rs[j]? = some r → wordsOfB r ≠ [])
      ⟨none, none, [], rfl, s3, hm3, ⟨rfl, fun i t s h => by simp at h⟩, fun j r h => absurd h (Nat.not_lt_zero j)⟩ ?_ ?_⟩
    · rintro i σ H4 hi ⟨v3, v4, ts, rfl, s4, hm4, hsa, hgood⟩
      have hil : i < rs.length := by omega
      have hs : rs[i]? = some rs[i] := List.getElem?_eq_getElem hil
      generalize hsg : rs[i] = row at hs
      have hsm : row ∈ rs := List.mem_of_getElem? hs
      have hrl := (hrw row (List.mem_cons_of_mem _ hsm)).1
      have hq4 := s4 _ _ hq2
      refine ⟨_, rfl, _, rfl, q, _, _, .str row, rfl, rfl, SqL.of hq4, at_of (j := i + 1) (by omega) (by rw [List.getElem?_map, List.getElem?_cons_succ, hs] <;> rfl), row, rfl, by omega, fun wq H5 hwq s5 hwq5 => ?_⟩
      refine ⟨_, rfl, _, .inl ⟨_, SqL.of hwq5, rfl⟩, ?_⟩
      by_cases hw0 : wordsOfB row = []
      · rw [hw0]
        refine iteT ⟨_, rfl, by show 1 ≤ 1000; decide, fun a ha => ?_⟩
        have s15 := (s12.trans s4).trans s5
        rcases hk with ⟨n, (⟨rfl, h⟩ | ⟨m', rfl, _, h1, r, h2, h3⟩), hE⟩ | ⟨i', why, ⟨_, h, _⟩, _⟩
        · rw [hb0] at h; cases h
        · rcases Nat.lt_trichotomy m' i with h | h | h
          · exact absurd h3 (hgood m' r h h2)
          · subst h
            have hE' := hE.same s15
            have e1 : ((m' : Int) + 1) = 1 + (m' : Int) := by omega
            rw [e1] at hE'
            exact raise_text hE' (by omega) (by omega) a ha
          · exact absurd hw0 (h1 i row h hs)
        · exact absurd hw0 (h row hsm).1
      obtain ⟨wi, wl, ew⟩ : ∃ wi wl, wordsOfB row = wi ++ [wl] := ⟨(wordsOfB row).dropLast, (wordsOfB row).getLast hw0, (List.dropLast_concat_getLast hw0).symm⟩
      have esum : sumOfRow row = (wi, wl) := by
        unfold sumOfRow
        rw [ew, List.dropLast_concat, List.getLastD_concat]
      rw [ew] at hwq5 ⊢
      have hne : (!((wi ++ [wl]).map V.str).isEmpty) = true := by cases wi <;> rfl
      rw [hne]
      refine iteF ?_
      have hm5 := s5 _ _ hm4
      refine ⟨_, rfl, .inl ⟨rfl, _, SqL.of hm5⟩, _, rfl, _, rfl, _, rfl, wq, _, rfl, SqL.of hwq5, fun q3 hq3' => ?_⟩
      have e3 : cutV ((wi ++ [wl]).map V.str) none (some (-1)) = wi.map V.str := by
        rw [List.map_append]
        exact cut_back _ _
      rw [e3]
      have s6 : Same H5 (upd H5 q3 (.lst (wi.map V.str))) := Same.new hq3'
      have hq36 : (upd H5 q3 (.lst (wi.map V.str))) q3 = some (.lst (wi.map V.str)) := upd_same
      generalize upd H5 q3 (.lst (wi.map V.str)) = H6 at s6 hq36
      refine ⟨q3, _, rfl, .inl ⟨SqL.of hq36, fun u hu => ?_⟩⟩
      have s7 : Same H6 (upd H6 u (.tup (wi.map V.str))) := Same.new hu
      have hu7 : (upd H6 u (.tup (wi.map V.str))) u = some (.tup (wi.map V.str)) := upd_same
      generalize upd H6 u (.tup (wi.map V.str)) = H7 at s7 hu7
      have s57 := s6.trans s7
      refine ⟨_, rfl, _, rfl, wq, _, -1, .str wl, rfl, rfl, SqL.of (s57 _ _ hwq5), ?_, by show 2 ≤ sizeLine; decide, fun t ht => ?_⟩
      · rw [List.map_append]
        exact atI_last _ _
      have s8 : Same H7 (upd H7 t (.tup [.ref u, .str wl])) := Same.new ht
      have ht8 : (upd H7 t (.tup [.ref u, .str wl])) t = some (.tup [.ref u, .str wl]) := upd_same
      generalize upd H7 t (.tup [.ref u, .str wl]) = H8 at s8 ht8
      have s48 := s5.trans (s57.trans s8)
      have hm8 := s48 _ _ hm4
      refine ⟨m, _, _, rfl, rfl, hm8, ?_, ?_⟩
      · rw [List.length_map, hsa.len, List.length_map, List.length_take]
        exact line_lt (by omega)
      · refine ⟨_, _, ts ++ [t], rfl, Same.mut (s4.trans s48) hm, by rw [upd_same, List.map_append] <;> rfl, ?_, fun j r hj hjr => ?_⟩
        · rw [take_snoc hs, List.map_append]
          exact ((hsa.same s48).snoc (by show SumAt _ t (sumOfRow row); rw [esum]; exact ⟨u, ht8, s8 _ _ hu7⟩)).mut ⟨_, hm8⟩
        · rcases Nat.lt_or_eq_of_le (Nat.le_of_lt_succ hj) with h | h
          · exact hgood j r h hjr
          · subst h
            rw [hs] at hjr
            cases hjr
            exact hw0
    · rintro σ H4 ⟨v3, v4, ts, rfl, s4, hm4, hsa, hgood⟩
      have e : (((rs.length + 1 : Nat) : Int) - 1).toNat = rs.length := by omega
      rw [e, List.take_length] at hsa
      rw [e] at hgood
      have hq4 := s4 _ _ hq2
      rcases hk with ⟨n, (⟨rfl, h⟩ | ⟨m', rfl, _, h1, r, h2, h3⟩), hE⟩ | ⟨i', why, ⟨_, hall, b, hib, hbad⟩, hE⟩
      · rw [hb0] at h; cases h
      · exact absurd h3 (hgood m' r (List.getElem?_eq_some_iff.mp h2).1 h2)
      have hrm := rmp_len r0 aheadT
      refine ⟨_, rfl, q, _, 0, _, rfl, rfl, SqL.of hq4, at_of (j := 0) rfl rfl, ⟨_, rfl⟩, _, _, rfl, rfl, line_of (by omega), ?_⟩
      refine ⟨_, b, rfl, hib, by omega, _, rfl, fun x dx nx ndx nex => ?_⟩
      have s0 : Same H4 (upd (upd H4 dx (.own x)) x (.ins C dx [])) := fun c o e => by
        rw [upd_ne (ne_of_none e nx), upd_ne (ne_of_none e ndx)]; exact e
      refine ⟨x, dx, b, m, ts, rs.map sumOfRow, i', why, rfl, upd_same, s0 _ _ hm4, hsa.same s0, by rw [List.length_map]; omega, fun s hs => ?_, fun z hz => ?_, hbad, (hE.same ((s12.trans s4).trans s0))⟩
      · obtain ⟨r, hr, rfl⟩ := List.mem_map.mp hs
        have := (hall r hr).2
        show ((wordsOfB r).dropLast).length ≤ 10
        rw [List.length_dropLast]
        omega
      · unfold wordsOf at hz
        obtain ⟨l, hl, hzl⟩ := List.mem_flatten.mp hz
        obtain ⟨s, hs, rfl⟩ := List.mem_map.mp hl
        obtain ⟨r, hr, rfl⟩ := List.mem_map.mp hs
        rw [sumOfRow_cat (hall r hr).1] at hzl
        have := (isWord_iff.mp (wordsOfB_words z hzl)).1.2
        omega
end
end WS
set_option maxRecDepth 100000
set_option maxHeartbeats 8000000
namespace WS
open PySem L2 SetT
theorem cut_from (xs : List V) (n : Nat) : cutV xs (some (n : Int)) none = xs.drop n := by
  unfold cutV
  rw [HT.sIx_nat, HT.sIx_none]
  by_cases h : n ≤ xs.length
  · rw [Nat.min_eq_left h]
    exact List.take_of_length_le (by rw [List.length_drop] <;> exact Nat.le_refl _)
  · rw [Nat.min_eq_right (by omega), List.drop_length, List.drop_eq_nil_of_le (by omega)]
    simp
theorem cut_upto (xs : List V) (n : Nat) : cutV xs none (some (n : Int)) = xs.take n := by
  unfold cutV
  rw [HT.sIx_nat]
  show (List.drop 0 xs).take (min n xs.length - 0) = _
  rw [List.drop_zero, Nat.sub_zero]
  by_cases h : n ≤ xs.length
  · rw [Nat.min_eq_left h]
  · rw [Nat.min_eq_right (by omega), List.take_of_length_le (by omega), List.take_of_length_le (by omega)]
theorem strs_off {K : PySem.W.Frag} {H : Hp} {d a l : Addr} {ns : List Int} {xs : List Str} (D : Dice K H d a ns) (hl : H l = some (.lst (xs.map V.str))) : l ≠ d := by
  intro e
  subst e
  obtain ⟨i, m, c, h, _⟩ := D.ex
  rw [h] at hl
  have := HO.lst.inj (Option.some.inj hl)
  cases xs with
  | nil => cases this
  | cons x r => injection this with h1 _; cases h1
/-- rows with a bad one -/
def badRows (rows rows' : List Str) (n : Nat) : Prop := (n = 0 ∧ ∃ h ∈ heads, rows' = h :: rows.drop 1) ∨ ∃ (o : Str) (k : Nat), 1 ≤ n ∧ n ≤ rows.length ∧ o ∈ odds ∧ k ≤ 1 ∧ rows' = rows.take n ++ o :: rows.drop (n + k)
def spLBad (K : PySem.W.Frag) : Sp := fun vs H Q _ => ∃ (d a : Addr) (ns : List Int) (rl : Addr) (rows : List Str), vs = [.ref d, .ref rl] ∧ Dice K H d a ns ∧ H rl = some (.lst (rows.map V.str)) ∧ 1 ≤ rows.length ∧ rows.length ≤ 10 ∧
  ∀ (t l : Addr) (rows' : List Str) (n : Nat) (H' : Hp), Dice K H' d a ns → But d H H' → H' t = some (.tup [.ref l, .int (n : Int)]) → H' l = some (.lst (rows'.map V.str)) → badRows rows rows' n → Q (.ref t) H'
section
variable {P : Program} {w : World} {K : PySem.W.Frag} {mg : Str → Option Value} {base : Heap}
theorem scLBad : FnScope ["_law_d", "_law_rows", "_law_odd", "_law_heads", "_law_at"] ["_law_d", "_law_rows"] (defScope sLBad) := ⟨rfl, rfl, rfl, by decide +kernel, rfl, by decide +kernel, by decide +kernel⟩
theorem ok_lbad {f fN : Addr} {fd fdN : FuncData} (F : Fun K "_law_bad" "_law_bad" sLBad f fd) (z_len : mg "len" = none)
    (S__law_next : Site K mg "_law_next" fN fdN ["_law_dice_here", "_law_many"]) (G__law_next : FnOk P w K mg base CX0 1 fN fdN ["_law_dice_here", "_law_many"] (spNext K)) :
    FnOk P w K mg base CX0 2 f fd ["_law_d", "_law_rows"] (spLBad K) := by
  refine F.ok scLBad (fun vs H Q E h => ?_) (fun cdv A outer s H vs Q E hr h => ?_)
  · obtain ⟨d, a, ns, rl, rows, rfl, _⟩ := h
    rfl
  · obtain ⟨d, a, ns, rl, rows, rfl, D0, hrl, h1, h10, k⟩ := h
    have nd := scLBad.nd
    have hr__law_next := hr
    refine ⟨_, (pss_cons (ps_set (i := 2) nd rfl (.inl rfl) (pe_lst (pa_cons pe_str (pa_cons pe_str (pa_cons pe_str (pa_cons pe_str (pa_cons pe_str (pa_cons pe_str (pa_cons pe_str (pa_cons pe_str (pa_cons pe_str (pa_cons pe_str pa_nil))))))))))))
      (pss_cons (ps_set (i := 2) nd rfl (.inl rfl) (pe_op op_cat (pv 2) (pe_lst (pa_cons pe_str (pa_cons pe_str (pa_cons pe_str (pa_cons pe_str (pa_cons pe_str (pa_cons pe_str (pa_cons pe_str (pa_cons pe_str pa_nil)))))))))))
      (pss_cons (ps_set (i := 3) nd rfl (.inl rfl) (pe_lst (pa_cons pe_str (pa_cons pe_str (pa_cons pe_str (pa_cons pe_str (pa_cons pe_str (pa_cons pe_str (pa_cons pe_str (pa_cons pe_str (pa_cons pe_str (pa_cons pe_str (pa_cons pe_str pa_nil)))))))))))))
      (pss_cons (ps_if (pt_cmpR op_eq (pe_call G__law_next hr__law_next (by rfl) S__law_next.g S__law_next.k S__law_next.b .nil pass0 (pa_cons (pv 0) (pa_cons pe_int pa_nil))) pe_int (nomark _)) (pss_one (ps_ret (pe_tup (pa_cons (pe_op op_cat (pe_lst (pa_cons (pe_ix (r := rIxL K) ix_list (pv 3) (pe_call G__law_next hr__law_next (by rfl) S__law_next.g S__law_next.k S__law_next.b .nil pass0 (pa_cons (pv 0) (pa_cons (pe_callB call_len_seq (by rfl) z_len PySem.boot_len (pa_cons (pv 3) pa_nil)) pa_nil))) (fun _ _ => rfl)) pa_nil)) (pe_slice sl_list (pv 1) (po_some pe_int) po_none)) (pa_cons pe_int pa_nil))))) pss_nil)
      (pss_cons (ps_set (i := 4) nd rfl (.inl rfl) (pe_op op_add pe_int (pe_call G__law_next hr__law_next (by rfl) S__law_next.g S__law_next.k S__law_next.b .nil pass0 (pa_cons (pv 0) (pa_cons (pe_callB call_len_seq (by rfl) z_len PySem.boot_len (pa_cons (pv 1) pa_nil)) pa_nil)))))
      (pss_one (ps_ret (pe_tup (pa_cons (pe_op op_cat (pe_op op_cat (pe_slice sl_list (pv 1) po_none (po_some (pv 4))) (pe_lst (pa_cons (pe_ix (r := rIxL K) ix_list (pv 2) (pe_call G__law_next hr__law_next (by rfl) S__law_next.g S__law_next.k S__law_next.b .nil pass0 (pa_cons (pv 0) (pa_cons (pe_callB call_len_seq (by rfl) z_len PySem.boot_len (pa_cons (pv 2) pa_nil)) pa_nil))) (fun _ _ => rfl)) pa_nil))) (pe_slice sl_list (pv 1) (po_some (pe_op op_add (pv 4) (pe_call G__law_next hr__law_next (by rfl) S__law_next.g S__law_next.k S__law_next.b .nil pass0 (pa_cons (pv 0) (pa_cons pe_int pa_nil))))) po_none)) (pa_cons (pv 4) pa_nil)))))))))), ?_⟩
    refine ⟨by show 10 ≤ sizeLine; decide, fun o1 ho1 => ?_⟩
    have s1 := Same.new (o := .lst [.str "", .str "a + b", .str "a = b = c", .str "a+ b = c", .str "a + b  = c", .str "a + b = c ", .str " a = b", .str "a + = c", .str "A = b", .str "a = b1"]) ho1
    have x1 : (upd H o1 (.lst [.str "", .str "a + b", .str "a = b = c", .str "a+ b = c", .str "a + b  = c", .str "a + b = c ", .str " a = b", .str "a + = c", .str "A = b", .str "a = b1"])) o1 = some (.lst [.str "", .str "a + b", .str "a = b = c", .str "a+ b = c", .str "a + b  = c", .str "a + b = c ", .str " a = b", .str "a + = c", .str "A = b", .str "a = b1"]) := upd_same
    generalize upd H o1 (.lst [.str "", .str "a + b", .str "a = b = c", .str "a+ b = c", .str "a + b  = c", .str "a + b = c ", .str " a = b", .str "a + = c", .str "A = b", .str "a = b1"]) = H1 at s1 x1
    refine ⟨_, rfl, by show 8 ≤ sizeLine; decide, fun o2 ho2 => ?_⟩
    have s2 := Same.new (o := .lst [.str "a - b = c", .str "a =b", .str "= a", .str "a = ", .str "a + b + = c", .str "abcdefg = a", .str "base 10", .str "a=b"]) ho2
    have x2 : (upd H1 o2 (.lst [.str "a - b = c", .str "a =b", .str "= a", .str "a = ", .str "a + b + = c", .str "abcdefg = a", .str "base 10", .str "a=b"])) o2 = some (.lst [.str "a - b = c", .str "a =b", .str "= a", .str "a = ", .str "a + b + = c", .str "abcdefg = a", .str "base 10", .str "a=b"]) := upd_same
    generalize upd H1 o2 (.lst [.str "a - b = c", .str "a =b", .str "= a", .str "a = ", .str "a + b + = c", .str "abcdefg = a", .str "base 10", .str "a=b"]) = H2 at s2 x2
    refine ⟨_, _, _, _, rfl, rfl, s2 _ _ x1, x2, by show 18 ≤ sizeLine; decide, fun o3 ho3 => ?_⟩
    have s3 : Same H2 (upd H2 o3 (.lst (odds.map V.str))) := Same.new ho3
    have x3 : (upd H2 o3 (.lst (odds.map V.str))) o3 = some (.lst (odds.map V.str)) := upd_same
    refine (show _ → _ from fun z => z) ?_
    generalize hH3 : upd H2 o3 (.lst (odds.map V.str)) = H3 at s3 x3
    rw [show upd H2 o3 (.lst ([V.str "", .str "a + b", .str "a = b = c", .str "a+ b = c", .str "a + b  = c", .str "a + b = c ", .str " a = b", .str "a + = c", .str "A = b", .str "a = b1"] ++ [.str "a - b = c", .str "a =b", .str "= a", .str "a = ", .str "a + b + = c", .str "abcdefg = a", .str "base 10", .str "a=b"])) = H3 from hH3]
    refine ⟨by show 11 ≤ sizeLine; decide, fun o4 ho4 => ?_⟩
    have s4 : Same H3 (upd H3 o4 (.lst (heads.map V.str))) := Same.new ho4
    have x4 : (upd H3 o4 (.lst (heads.map V.str))) o4 = some (.lst (heads.map V.str)) := upd_same
    generalize hH4 : upd H3 o4 (.lst (heads.map V.str)) = H4 at s4 x4
    rw [show upd H3 o4 (.lst [V.str "base", .str "base 03", .str "base 100", .str "base  3", .str "base 3 ", .str "Base 3", .str "3", .str "base x", .str "base -3", .str "", .str "base +3"]) = H4 from hH4]
    have s04 := ((s1.trans s2).trans s3).trans s4
    have D4 := D0.same s04
    have hrl4 := s04 _ _ hrl
    have x34 := s4 _ _ x3
    refine ⟨_, rfl, d, a, ns, 4, rfl, D4, by decide, by decide, fun v H5 v0 v1 D5 b5 e5 => ⟨rfl, _, rfl, ?_⟩⟩
    have b05 : But d H H5 := (But.of s04).trans b5
    have hrl5 := b5 _ _ (strs_off D4 hrl4) hrl4
    have x35 := b5 _ _ (strs_off D4 x34) x34
    have x45 := b5 _ _ (strs_off D4 x4) x4
    have hh11 : heads.length = 11 := rfl
    have ho18 : odds.length = 18 := rfl
    refine ite2 (fun _ => ?_) (fun _ => ?_)
    · refine ⟨_, rfl, _, rfl, _, rfl, o4, _, rfl, .inl (SqL.of x45), d, a, ns, _, rfl, D5, by rw [List.length_map, hh11]; decide, by rw [List.length_map, hh11]; decide, fun v6 H6 v60 v61 D6 b6 e6 => ?_⟩
      rw [List.length_map, hh11] at v61
      have x46 := b6 _ _ (strs_off D5 x45) x45
      have hrl6 := b6 _ _ (strs_off D5 hrl5) hrl5
      obtain ⟨j, rfl⟩ : ∃ j : Nat, v6 = (j : Int) := ⟨v6.toNat, by omega⟩
      have hj : heads[j]? = some heads[j] := List.getElem?_eq_getElem (by omega)
      generalize hhd : heads[j] = hd at hj
      have hhm : hd ∈ heads := List.mem_of_getElem? hj
      refine ⟨o4, _, _, .str hd, rfl, rfl, SqL.of x46, at_of (j := j) rfl (by rw [List.getElem?_map, hj] <;> rfl), by show 1 ≤ sizeLine; decide, fun p hp => ?_⟩
      have s7 : Same H6 (upd H6 p (.lst [.str hd])) := Same.new hp
      have x7 : (upd H6 p (.lst [.str hd])) p = some (.lst [.str hd]) := upd_same
      generalize upd H6 p (.lst [.str hd]) = H7 at s7 x7
      refine ⟨_, rfl, _, rfl, rl, _, rfl, SqL.of (s7 _ _ hrl6), fun p2 hp2 => ?_⟩
      rw [show cutV (rows.map V.str) (some 1) none = (rows.drop 1).map V.str from by rw [show (1 : Int) = ((1 : Nat) : Int) from rfl, cut_from, List.map_drop]]
      have s8 : Same H7 (upd H7 p2 (.lst ((rows.drop 1).map V.str))) := Same.new hp2
      have x8 : (upd H7 p2 (.lst ((rows.drop 1).map V.str))) p2 = some (.lst ((rows.drop 1).map V.str)) := upd_same
      generalize upd H7 p2 (.lst ((rows.drop 1).map V.str)) = H8 at s8 x8
      refine ⟨_, _, _, _, rfl, rfl, s8 _ _ x7, x8, ?_, fun p3 hp3 => ⟨by show 2 ≤ sizeLine; decide, fun t ht => ?_⟩⟩
      · rw [List.length_map, List.length_drop]
        exact line_of (by show 1 + _ ≤ _; omega)
      have s9 : Same H8 (upd (upd H8 p3 (.lst ([V.str hd] ++ (rows.drop 1).map V.str))) t (.tup [.ref p3, .int 0])) := (Same.new hp3).trans (Same.new ht)
      exact k t p3 (hd :: rows.drop 1) 0 _ (((D6.same s7).same s8).same s9) ((b05.trans b6).trans (But.of ((s7.trans s8).trans s9))) upd_same ((upd_ne (ne_of_none upd_same ht)).trans upd_same) (.inl ⟨rfl, hd, hhm, rfl⟩)
    · refine ⟨_, rfl, _, rfl, rl, _, rfl, .inl (SqL.of hrl5), d, a, ns, _, rfl, D5, by rw [List.length_map]; omega, by rw [List.length_map]; omega, fun v6 H6 v60 v61 D6 b6 e6 => ?_⟩
      rw [List.length_map] at v61
      have hrl6 := b6 _ _ (strs_off D5 hrl5) hrl5
      have x36 := b6 _ _ (strs_off D5 x35) x35
      obtain ⟨m, rfl⟩ : ∃ m : Nat, v6 = (m : Int) := ⟨v6.toNat, by omega⟩
      have e1m : (1 : Int) + (m : Int) = ((m + 1 : Nat) : Int) := by omega
      refine ⟨1, m, rfl, rfl, _, rfl, _, rfl, _, rfl, rl, _, rfl, SqL.of hrl6, fun p hp => ?_⟩
      rw [e1m, cut_upto, ← List.map_take]
      have s7 : Same H6 (upd H6 p (.lst ((rows.take (m + 1)).map V.str))) := Same.new hp
      have x7 : (upd H6 p (.lst ((rows.take (m + 1)).map V.str))) p = some (.lst ((rows.take (m + 1)).map V.str)) := upd_same
      generalize upd H6 p (.lst ((rows.take (m + 1)).map V.str)) = H7 at s7 x7
      have D7 := D6.same s7
      have x37 := s7 _ _ x36
      have hrl7 := s7 _ _ hrl6
      refine ⟨_, rfl, _, rfl, _, rfl, o3, _, rfl, .inl (SqL.of x37), d, a, ns, _, rfl, D7, by rw [List.length_map, ho18]; decide, by rw [List.length_map, ho18]; decide, fun v8 H8 v80 v81 D8 b8 e8 => ?_⟩
      rw [List.length_map, ho18] at v81
      have x38 := b8 _ _ (strs_off D7 x37) x37
      have x78 := b8 _ _ (strs_off D7 x7) x7
      have hrl8 := b8 _ _ (strs_off D7 hrl7) hrl7
      obtain ⟨j, rfl⟩ : ∃ j : Nat, v8 = (j : Int) := ⟨v8.toNat, by omega⟩
      have hj : odds[j]? = some odds[j] := List.getElem?_eq_getElem (by omega)
      generalize hod : odds[j] = od at hj
      have hom : od ∈ odds := List.mem_of_getElem? hj
      refine ⟨o3, _, _, .str od, rfl, rfl, SqL.of x38, at_of (j := j) rfl (by rw [List.getElem?_map, hj] <;> rfl), by show 1 ≤ sizeLine; decide, fun p2 hp2 => ?_⟩
      have s9 : Same H8 (upd H8 p2 (.lst [.str od])) := Same.new hp2
      have x9 : (upd H8 p2 (.lst [.str od])) p2 = some (.lst [.str od]) := upd_same
      generalize upd H8 p2 (.lst [.str od]) = H9 at s9 x9
      refine ⟨_, _, _, _, rfl, rfl, s9 _ _ x78, x9, ?_, fun p3 hp3 => ?_⟩
      · rw [List.length_map, List.length_take]
        exact line_of (by show _ + 1 ≤ _; omega)
      rw [show (rows.take (m + 1)).map V.str ++ [V.str od] = (rows.take (m + 1) ++ [od]).map V.str from by rw [List.map_append] <;> rfl]
      have s10 : Same H9 (upd H9 p3 (.lst ((rows.take (m + 1) ++ [od]).map V.str))) := Same.new hp3
      have x10 : (upd H9 p3 (.lst ((rows.take (m + 1) ++ [od]).map V.str))) p3 = some (.lst ((rows.take (m + 1) ++ [od]).map V.str)) := upd_same
      generalize upd H9 p3 (.lst ((rows.take (m + 1) ++ [od]).map V.str)) = H10 at s10 x10
      have D10 := (D8.same s9).same s10
      have hrl10 := s10 _ _ (s9 _ _ hrl8)
      refine ⟨_, rfl, _, rfl, _, rfl, d, a, ns, 2, rfl, D10, by decide, by decide, fun v11 H11 v110 v111 D11 b11 e11 => ?_⟩
      have x11 := b11 _ _ (strs_off D10 x10) x10
      have hrl11 := b11 _ _ (strs_off D10 hrl10) hrl10
      obtain ⟨kk, rfl⟩ : ∃ kk : Nat, v11 = (kk : Int) := ⟨v11.toNat, by omega⟩
      have e2m : (1 : Int) + (m : Int) + (kk : Int) = ((m + 1 + kk : Nat) : Int) := by omega
      refine ⟨1 + (m : Int), kk, rfl, rfl, _, rfl, rl, _, rfl, SqL.of hrl11, fun p4 hp4 => ?_⟩
      rw [e2m]
      rw [cut_from, ← List.map_drop]
      have s12 : Same H11 (upd H11 p4 (.lst ((rows.drop (m + 1 + kk)).map V.str))) := Same.new hp4
      have x12 : (upd H11 p4 (.lst ((rows.drop (m + 1 + kk)).map V.str))) p4 = some (.lst ((rows.drop (m + 1 + kk)).map V.str)) := upd_same
      generalize upd H11 p4 (.lst ((rows.drop (m + 1 + kk)).map V.str)) = H12 at s12 x12
      refine ⟨_, _, _, _, rfl, rfl, s12 _ _ x11, x12, ?_, fun p5 hp5 => ?_⟩
      · rw [List.length_map, List.length_map, List.length_append, List.length_take, List.length_drop]
        exact line_of (by show _ + 1 + _ ≤ _; omega)
      rw [← List.map_append]
      have s13 : Same H12 (upd H12 p5 (.lst ((rows.take (m + 1) ++ [od] ++ rows.drop (m + 1 + kk)).map V.str))) := Same.new hp5
      have x13 : (upd H12 p5 (.lst ((rows.take (m + 1) ++ [od] ++ rows.drop (m + 1 + kk)).map V.str))) p5 = some (.lst ((rows.take (m + 1) ++ [od] ++ rows.drop (m + 1 + kk)).map V.str)) := upd_same
      generalize upd H12 p5 (.lst ((rows.take (m + 1) ++ [od] ++ rows.drop (m + 1 + kk)).map V.str)) = H13 at s13 x13
      refine ⟨_, rfl, by show 2 ≤ sizeLine; decide, fun t ht => ?_⟩
      have s14 : Same H13 (upd H13 t (.tup [.ref p5, .int (1 + (m : Int))])) := Same.new ht
      refine k t p5 (rows.take (m + 1) ++ [od] ++ rows.drop (m + 1 + kk)) (m + 1) _ (((D11.same s12).same s13).same s14) ((((b05.trans b6).trans (But.of s7)).trans b8).trans ((But.of (s9.trans s10)).trans (b11.trans (But.of ((s12.trans s13).trans s14))))) (by rw [← e1m]; exact upd_same) (s14 _ _ x13) (.inr ⟨od, kk, by omega, by omega, hom, by omega, ?_⟩)
      rw [List.append_assoc] <;> rfl
end
end WS
set_option maxRecDepth 100000
set_option maxHeartbeats 8000000
namespace WS
open PySem L2 SetT
def rowFit (r : Str) : Prop := r.length ≤ 60 ∧ 10 ∉ r.cps.toList
theorem firstBad_app {r0 : Str} {rs : List Str} {n : Int} (h : firstBad r0 rs n) (x : List Str) : firstBad r0 (rs ++ x) n := by
  rcases h with h | ⟨m, h1, h2, h3, r, h4, h5⟩
  · exact .inl h
  · have hm := (List.getElem?_eq_some_iff.mp h4).1
    refine .inr ⟨m, h1, h2, fun j r hj hr => ?_, r, ?_, h5⟩
    · rw [List.getElem?_append_left (by omega)] at hr
      exact h3 j r hj hr
    · rw [List.getElem?_append_left hm]; exact h4
section
variable {b : Int} {ss : List WSum}
theorem row_good (V : Valid b ss) {s : WSum} (hs : s ∈ ss) : wordsOfB (rowS s) = s.1 ++ [s.2] ∧ rowFit (rowS s) ∧ s.1 ≠ [] ∧ ∀ z ∈ s.1 ++ [s.2], isWord z = true := by
  have hm := V.many s hs
  have h1 : s.1 ≠ [] := fun e => by rw [e] at hm; simp at hm
  have hw := valid_len V hs
  have hl := row_len hm.2 fun z hz => (hw z hz).2
  exact ⟨wordsOfB_row h1 fun z hz => (hw z hz).1, ⟨by have := hl.2; omega, row_no10 h1 fun z hz => (hw z hz).1⟩, h1, fun z hz => (hw z hz).1⟩
theorem row_goods (V : Valid b ss) {r : Str} (hr : r ∈ ss.map rowS) : wordsOfB r ≠ [] ∧ rowFit r ∧ (wordsOfB r).length ≤ 10 := by
  obtain ⟨s, hs, rfl⟩ := List.mem_map.mp hr
  obtain ⟨h1, h2, h3, h4⟩ := row_good V hs
  have hm := (V.many s hs).2
  refine ⟨by rw [h1]; simp, h2, ?_⟩
  rw [h1, List.length_append]
  show _ + 1 ≤ _
  omega
theorem sums_back (V : Valid b ss) : (ss.map rowS).map sumOfRow = ss := by
  rw [List.map_map]
  conv => rhs; rw [← List.map_id ss]
  refine List.map_congr_left fun s hs => ?_
  obtain ⟨h1, h2, h3, h4⟩ := row_good V hs
  exact sumOfRow_row h3 h4
theorem head_fit (V : Valid b ss) : rowFit (headS b) := by
  have B := HeadOk.of V.b2 V.b12
  exact ⟨by have := B.hl; omega, B.n10⟩
theorem bad_first (V : Valid b ss) {rows' : List Str} {n : Nat} (h : badRows (headS b :: ss.map rowS) rows' n) :
    ∃ r0 rs, rows' = r0 :: rs ∧ firstBad r0 rs (n : Int) ∧ rs.length ≤ 4 ∧ ∀ r ∈ r0 :: rs, rowFit r := by
  have hf := V.few
  have B := HeadOk.of V.b2 V.b12
  rcases h with ⟨rfl, hd, hh, rfl⟩ | ⟨o, k, h1, h2, ho, hk, rfl⟩
  · refine ⟨hd, ss.map rowS, rfl, .inl ⟨rfl, heads_no hd hh⟩, by rw [List.length_map]; omega, fun r hr => ?_⟩
    rcases List.mem_cons.mp hr with rfl | hr
    · have := heads_len r hh
      exact ⟨by omega, this.2⟩
    · exact (row_goods V hr).2.1
  · obtain ⟨m, rfl⟩ : ∃ m, n = m + 1 := ⟨n - 1, by omega⟩
    rw [List.length_cons, List.length_map] at h2
    have e1 : m + 1 + k = (m + k) + 1 := by omega
    rw [List.take_succ_cons, e1, List.drop_succ_cons]
    have hml : ((ss.map rowS).take m).length = m := by rw [List.length_take, List.length_map]; omega
    refine ⟨headS b, (ss.map rowS).take m ++ o :: (ss.map rowS).drop (m + k), rfl, .inr ⟨m, by omega, isBaseB_head B, fun j r hj hr => ?_, o, ?_, odds_no o ho⟩, ?_, fun r hr => ?_⟩
    · rw [List.getElem?_append_left (by omega), List.getElem?_take, if_pos hj] at hr
      exact (row_goods V (List.mem_of_getElem? hr)).1
    · rw [List.getElem?_append_right (by omega), hml, Nat.sub_self] <;> rfl
    · rw [List.length_append, hml, List.length_cons, List.length_drop, List.length_map]
      omega
    · rcases List.mem_cons.mp hr with rfl | hr
      · exact head_fit V
      rcases List.mem_append.mp hr with hr | hr
      · exact (row_goods V (List.mem_of_mem_take hr)).2.1
      rcases List.mem_cons.mp hr with rfl | hr
      · have := odds_len r ho
        exact ⟨by omega, this.2⟩
      · exact (row_goods V (List.mem_of_mem_drop hr)).2.1
theorem late_first (V : Valid b ss) : firstBad "base 1" (ss.map rowS ++ [("" : Str)]) ((ss.length + 1 : Nat) : Int) := by
  refine .inr ⟨ss.length, by omega, base_1, fun j r hj hr => ?_, "", ?_, by decide +kernel⟩
  · rw [List.getElem?_append_left (by rw [List.length_map]; exact hj)] at hr
    exact (row_goods V (List.mem_of_getElem? hr)).1
  · rw [List.getElem?_append_right (by rw [List.length_map] <;> exact Nat.le_refl _), List.length_map, Nat.sub_self] <;> rfl
theorem counts_base {b : Int} {n : Nat} (h : ¬ (2 ≤ b ∧ b ≤ 12)) : countsBad b n = some ("base" : Str) := by
  unfold countsBad
  rw [if_neg h]
theorem counts_sums {b : Int} {n : Nat} (h : 2 ≤ b ∧ b ≤ 12) (hn : ¬ (1 ≤ n ∧ n ≤ 3)) : countsBad b n = some ("sums" : Str) := by
  unfold countsBad
  rw [if_pos h, if_neg hn]
theorem counts_none {b : Int} {n : Nat} (h : 2 ≤ b ∧ b ≤ 12) (hn : 1 ≤ n ∧ n ≤ 3) : countsBad b n = none := by
  unfold countsBad
  rw [if_pos h, if_pos hn]
theorem none1 (V : Valid b ss) : goodRows "base 1" (ss.map rowS) 0 "base" :=
  ⟨base_1, fun r hr => ⟨(row_goods V hr).1, (row_goods V hr).2.2⟩, 1, by decide +kernel, .inl ⟨counts_base (by decide), rfl⟩⟩
theorem none2 (V : Valid b ss) : goodRows "base 13" (ss.map rowS) 0 "base" :=
  ⟨base_13, fun r hr => ⟨(row_goods V hr).1, (row_goods V hr).2.2⟩, 13, by decide +kernel, .inl ⟨counts_base (by decide), rfl⟩⟩
theorem none3 (V : Valid b ss) : goodRows (headS b) [] 0 "sums" := by
  have B := HeadOk.of V.b2 V.b12
  refine ⟨isBaseB_head B, fun r hr => (by cases hr), b, (by rw [B.rm]; exact B.it), .inl ⟨counts_sums ⟨V.b2, V.b12⟩ (by decide), rfl⟩⟩
theorem aEa : wordsOfB "a = a" = (["a", "a"] : List Str) := by decide +kernel
theorem aaE : wordsOfB "a + a + a + a + a = b" = (["a", "a", "a", "a", "a", "b"] : List Str) := by decide +kernel
theorem abE : wordsOfB "ab + c = d" = (["ab", "c", "d"] : List Str) := by decide +kernel
theorem none4 (V : Valid b ss) : goodRows (headS b) ["a = a", "a = a", "a = a", "a = a"] 0 "sums" := by
  have B := HeadOk.of V.b2 V.b12
  refine ⟨isBaseB_head B, fun r hr => ?_, b, by rw [B.rm]; exact B.it, .inl ⟨counts_sums ⟨V.b2, V.b12⟩ (by decide), rfl⟩⟩
  have : r = "a = a" := by simpa using hr
  subst this
  rw [aEa]
  decide
theorem none5 (V : Valid b ss) : goodRows (headS b) ["a + a + a + a + a = b"] 0 "addends" := by
  have B := HeadOk.of V.b2 V.b12
  refine ⟨isBaseB_head B, fun r hr => ?_, b, by rw [B.rm]; exact B.it, .inr ⟨counts_none ⟨V.b2, V.b12⟩ (by decide), fun j hj => absurd hj (Nat.not_lt_zero j), ?_⟩⟩
  · have : r = "a + a + a + a + a = b" := by simpa using hr
    subst this
    rw [aaE]
    decide
  · have e : (["a + a + a + a + a = b"] : List Str).map sumOfRow = ([(["a", "a", "a", "a", "a"], "b")] : List WSum) := by
      show [sumOfRow "a + a + a + a + a = b"] = _
      unfold sumOfRow
      rw [aaE] <;> rfl
    rw [e, checkAt_at (s := (["a", "a", "a", "a", "a"], "b")) rfl, if_neg (by decide)]
theorem none6 : goodRows "base 2" ["ab + c = d"] 0 "letters" := by
  refine ⟨by decide +kernel, fun r hr => ?_, 2, by decide +kernel, .inr ⟨counts_none (by decide) (by decide), fun j hj => absurd hj (Nat.not_lt_zero j), ?_⟩⟩
  · have : r = "ab + c = d" := by simpa using hr
    subst this
    rw [abE]
    decide
  · have e : (["ab + c = d"] : List Str).map sumOfRow = ([(["ab", "c"], "d")] : List WSum) := by
      show [sumOfRow "ab + c = d"] = _
      unfold sumOfRow
      rw [abE] <;> rfl
    rw [e]
    decide +kernel
end
end WS
set_option maxRecDepth 100000
set_option maxHeartbeats 4000000
/-! a list's comprehension in a def that is called while an exception is handled -/
namespace HotL
open PySem PySem.Spec PyProof.Rows L2 HotX L2H
section
variable {prog : Program} {w : World} {A : Around} {E : Value → Shared → Prop} {s : Shared}
theorem end_hot {it l x1 : Addr} {i : Nat} {items : Array Value} {Q : Option Value → Shared → Prop} (hot : HotAt A x1 s.heap) (hne : x1 ≠ it) (hit : s.heap.IsListIter it l i) (hl : s.heap.IsList l items) (hx : items[i]? = none)
    (hQ : ∀ h', Heap.ExtBut it s.heap h' → Q none { s with heap := h' }) : wpAny (model prog w) A (pyNext (.ref it)) Q E s := by
  obtain ⟨hh, o1, vs1, h1, d1, c1⟩ := hot
  have hT := hit.typeIs
  obtain ⟨o, ho, hc, hd⟩ := id hit
  obtain ⟨ol, hol, _, nl, hdl⟩ := hl
  unfold pyNext
  apply wpAny_bind
  apply wpAny_attempt
  refine wpAny_callSpecial?_slot (name := Str.ofString "__next__") hT slot_listiter_next (wpAny_call_entry slot_listiter_next hT entry_listiter_next ?_ (args_listiter_next _))
  show wpAny _ _ (field (.ref it) 0 >>= _) _ _ s
  apply wpAny_bind
  apply wpAny_field ho hd (x := .ref l) rfl
  show wpAny _ _ (if (Value.ref l == Value.none) = true then _ else _) _ _ s
  rw [if_neg (show ¬ ((Value.ref l == Value.none) = true) from Bool.false_ne_true)]
  show wpAny _ _ (field (.ref it) 1 >>= _) _ _ s
  apply wpAny_bind
  apply wpAny_field ho hd (x := .int i 0) rfl
  show wpAny _ _ (seqItems? (.ref l) >>= _) _ _ s
  apply wpAny_bind
  apply wpAny_seqItems hol hdl
  simp only [Int.toNat_natCast, hx]
  apply wpAny_bind
  apply wpAny_rule
  apply wpAny_bind
  refine wpAny_setField ho hd (by simp) ?_
  show wpAny _ _ (newExc (.type "StopIteration") [] >>= _) _ _ _
  apply wpAny_bind
  simp only [newExc, newTuple]
  apply wpAny_bind
  refine wpAny_newObj_type ?_ (by size_fits)
  refine wpAny_bind (m := firstArgMember _ _) (wpAny_of_eq (a := Value.none) (by first | rfl | (simp only [firstArgMember]; rfl)) ?_)
  refine wpAny_newObj_type ?_ (by size_fits)
  have g1 : (s.heap.update it (Obj.mapFields (·.setIfInBounds 0 .none))).get? x1 = some o1 := by
    rw [Heap.get?_update_other _ _ (Ne.symm hne)]
    exact h1
  refine raiseNew_hot ⟨hh, o1, vs1, Heap.get?_push_of_some _ (Heap.get?_push_of_some _ g1), d1, c1⟩ (Nat.ne_of_lt (Heap.lt_size (Heap.get?_push_of_some _ g1))) (Heap.get?_push_size _ rfl) rfl (by first | (simp; done) | (simp; omega)) ?_
  apply wpAny_bind
  refine wpAny_isInstance (T := "StopIteration") (b := true) ⟨_, Heap.get?_update_self _ (Heap.get?_push_size _ rfl) rfl, rfl⟩ isSubtype_stop ?_
  refine wpAny_pure (hQ _ fun b o hb e => ?_)
  have e1 : (s.heap.update it (Obj.mapFields (·.setIfInBounds 0 .none))).get? b = some o := by
    rw [Heap.get?_update_other _ _ (Ne.symm hb)]
    exact e
  rw [Heap.get?_update_other _ _ (Nat.ne_of_gt (Heap.lt_size (Heap.get?_push_of_some _ e1)))]
  exact Heap.get?_push_of_some _ (Heap.get?_push_of_some _ e1)
end
section
variable {X : Cx} {elt tg iter : Expr} {ifs : List Expr} {scope : Scope} {own : List (Str × Nat)} {pos : Pos} {ti te : TE} {g : TG} {tt : TT}
theorem pe_lcH (hc : HotC X) (hN : X.N.Nodup) (hi : PE X iter ti) (ok : BlkOk X.N X.env.scope scope own)
    (hg : ∀ (s : Shared) (H : Hp) (C : Addr) (cl : List (Str × Addr)) (fp : List Addr), PG (X.blk s H scope (compEnvC scope cl C X.env) fp) tg g)
    (ht : ∀ (s : Shared) (H : Hp) (C : Addr) (cl : List (Str × Addr)) (fp : List Addr), PTs (X.blk s H scope (compEnvC scope cl C X.env) fp) ifs tt)
    (he : ∀ (s : Shared) (H : Hp) (C : Addr) (cl : List (Str × Addr)) (fp : List Addr), PE (X.blk s H scope (compEnvC scope cl C X.env) fp) elt te)
    (hs : ∀ x, foldedSetIterable iter X.env x = pure x := by intro _; rfl) : PE X (.ListComp elt [⟨tg, iter, ifs, 0⟩] scope pos) (tLc (iList X.K ti) g tt te (own.map (·.2))) := by
  constructor
  intro pins s σ H Q I h
  obtain ⟨p, ⟨ph, v1, pd, pc⟩, hp⟩ := hc
  have hfree : ∀ y ∈ scope.names, y.2 = .free → ∃ c, X.env.cells.lookup y.1 = some c := fun y hy e => I.ok.has _ (ok.free y hy e)
  rw [eval_ListComp]
  refine wpAny_comprehension_free (use := none) rfl hs (closure_ok hfree) ok.kind (fun y hy e => by rw [ok.uniq y hy, e]) (thn (hi.run pins s σ H _ I h) fun xv s1 hx => ?_)
  obtain ⟨x, H2, I1, r1, a, ex, ⟨xs0, hq0⟩, q⟩ := hx
  subst ex
  cases r1
  obtain ⟨its0, _, pl0, _⟩ := I1.list hq0
  apply wpAny_pyIter_list pl0.isList
  -- the iterator at it
  have I2 : Inv X pins σ H2 { s1 with heap := s1.heap.push { cls := .type "list_iterator", data := .fields #[.ref a, .int 0 0] } } := I1.kept (t' := s1.toks) fun b o e => Heap.get?_push_of_some _ e
  have st2 : Heap.IsListIter (s1.heap.push { cls := .type "list_iterator", data := .fields #[.ref a, .int 0 0] }) s1.heap.objs.size a 0 := ⟨_, Heap.get?_push_size _ rfl, rfl, rfl⟩
  have f2 := I1.fpOk (Nat.le_refl _) (I1.hok.fresh (Nat.le_refl _))
  have lit : s1.heap.objs.size < (s1.heap.push { cls := .type "list_iterator", data := .fields #[.ref a, .int 0 0] }).objs.size := by rw [Heap.size_push]; exact Nat.lt_succ_self _
  generalize s1.heap.objs.size = it at st2 f2 lit
  generalize hsh2 : ({ s1 with heap := s1.heap.push { cls := .type "list_iterator", data := .fields #[.ref a, .int 0 0] } } : Shared) = s2 at I2
  have hh2 : s1.heap.push { cls := .type "list_iterator", data := .fields #[.ref a, .int 0 0] } = s2.heap := by rw [← hsh2]
  rw [hh2] at st2 lit
  clear hsh2 hh2
  refine wpAny_newObj_type (newEnv_comp ?_) (by show 0 ≤ sizeLine; decide)
  generalize hD : s2.heap.objs.size = D
  have hDn : H2 D = none := I2.hok.fresh (Nat.le_of_eq hD)
  obtain ⟨W, ⟨m0, w0⟩, turn⟩ := q D hDn
  -- the new list
  have I3 : Inv X pins σ (upd H2 D (.lst [])) { s2 with heap := s2.heap.push { cls := .type "list", data := .seq ([] : List Value).toArray } } :=
    I2.laid (t' := s2.toks) (fun b o e => Heap.get?_push_of_some _ e) (Nat.le_of_eq hD) ⟨Nat.zero_le _, [], 0, .nil, by rw [← hD]; exact Heap.get?_push_size _ rfl⟩
  have st3 : Heap.IsListIter (s2.heap.push { cls := .type "list", data := .seq ([] : List Value).toArray }) it a 0 := st2.at fun o e => Heap.get?_push_of_some _ e
  have lt3 : it < (s2.heap.push { cls := .type "list", data := .seq ([] : List Value).toArray }).objs.size := by rw [Heap.size_push]; exact Nat.lt_succ_of_lt lit
  have f3 : FpOk X pins (upd H2 D (.lst [])) it := ⟨by rw [upd_ne (by rw [← hD]; exact Nat.ne_of_lt lit)]; exact f2.1, f2.2⟩
  generalize hH3 : upd H2 D (.lst []) = H3 at I3 f3 w0
  generalize hs3 : ({ s2 with heap := s2.heap.push { cls := .type "list", data := .seq ([] : List Value).toArray } } : Shared) = s3 at I3
  have hh3 : s2.heap.push { cls := .type "list", data := .seq ([] : List Value).toArray } = s3.heap := by rw [← hs3]
  rw [hh3] at st3 lt3
  obtain ⟨p1, p2, p3, p4, p5⟩ := I3.pin p (List.mem_append_left _ hp)
  have f3all : ∀ b ∈ [it], FpOk X pins H3 b ∧ b < s3.heap.objs.size := fun b hb => by
    rw [List.mem_singleton.mp hb]
    exact ⟨f3, lt3⟩
  have pit : p.1 ≠ it := f3.2.2.2.2.2 p (List.mem_append_left _ hp)
  have I4 := block_start I3 ok hN f3all
  have pg := hg s3 H3 s3.heap.objs.size (cellsFrom (s3.heap.objs.size + 1) scope.names (cloFrom X.env.cells scope.names [])) [it]
  have pt := ht s3 H3 s3.heap.objs.size (cellsFrom (s3.heap.objs.size + 1) scope.names (cloFrom X.env.cells scope.names [])) [it]
  have pe := he s3 H3 s3.heap.objs.size (cellsFrom (s3.heap.objs.size + 1) scope.names (cloFrom X.env.cells scope.names [])) [it]
  show codeAny _ _ (.compStart (.ListComp elt [⟨tg, iter, ifs, 0⟩] scope pos) 0 (.ref it) (.ref D) (compEnvC scope (cellsFrom (s3.heap.objs.size + 1) scope.names (cloFrom X.env.cells scope.names [])) s3.heap.objs.size X.env)) (compPost (model X.prog X.w) X.A X.xe none (EP X pins σ Q) (.ref D) s3.heap.objs.size) { s3 with heap := pushCells (s3.heap.push { cls := .type "dict", data := .dict #[] }) scope.names }
  generalize hce : compEnvC scope (cellsFrom (s3.heap.objs.size + 1) scope.names (cloFrom X.env.cells scope.names [])) s3.heap.objs.size X.env = ce at I4 pg pt pe ⊢
  have cL : ce.locals = s3.heap.objs.size := by rw [← hce] <;> rfl
  have up4 : ∀ b o, s3.heap.get? b = some o → (pushCells (s3.heap.push { cls := .type "dict", data := .dict #[] }) scope.names).get? b = some o := fun b o e => pushCells_keeps _ _ _ _ (Heap.get?_push_of_some _ e)
  have st4 : Heap.IsListIter (pushCells (s3.heap.push { cls := .type "dict", data := .dict #[] }) scope.names) it a 0 := st3.at fun o e => up4 _ o e
  have P4 := up4 _ _ p1
  generalize hs4 : ({ s3 with heap := pushCells (s3.heap.push { cls := .type "dict", data := .dict #[] }) scope.names } : Shared) = s4 at I4 ⊢
  have hh4 : pushCells (s3.heap.push { cls := .type "dict", data := .dict #[] }) scope.names = s4.heap := by rw [← hs4]
  rw [hh4] at st4 P4
  have nfs : p.1 ∉ frs X.stack := fun hm => by
    rcases List.mem_cons.mp (I3.stkSub p.1 hm) with e | hm
    · exact p3 e
    · exact p4 hm
  have nloc : p.1 ≠ ce.locals := by rw [cL]; exact Nat.ne_of_lt (Heap.lt_size p1)
  have J4 : Inv (X.blk s3 H3 scope ce [it]) [p] (wipe σ (own.map (·.2))) H3 s4 := I4.pins_of fun q hq => by
    rw [List.mem_singleton.mp hq]
    exact ⟨P4, p2, nloc, nfs, p5⟩
  have stat : ∀ {σ' : L2.St} {H' : Hp} {s' : Shared}, Inv (X.blk s3 H3 scope ce [it]) [p] σ' H' s' → H' it = none → FpOk (X.blk s3 H3 scope ce [it]) [p] H' it := fun {σ' H' s'} I' hn =>
    ⟨hn, (I'.ok.exf it (List.mem_singleton.mpr rfl)).1, I'.ok.exfs it (List.mem_singleton.mpr rfl), .inl (List.mem_singleton.mpr rfl), fun x c e => (I'.ok.exf it (List.mem_singleton.mpr rfl)).2 x c e, fun q hq => by
      have hq : q ∈ ([] : List (Addr × Obj)) ++ [p] := hq
      rw [List.nil_append] at hq
      rw [List.mem_singleton.mp hq]
      exact pit⟩
  have loop : codeAny (model X.prog X.w) X.A (.compLoop (.ListComp elt [⟨tg, iter, ifs, 0⟩] scope pos) 0 (.ref it) (.ref D) ce) (compPost (model X.prog X.w) X.A X.xe none (EP X pins σ Q) (.ref D) s3.heap.objs.size) s4 := by
    refine compLoop_any (fun n s' => ∃ i H', Inv (X.blk s3 H3 scope ce [it]) [p] (wipe σ (own.map (·.2))) H' s' ∧ s'.heap.IsListIter it a i ∧ H' it = none ∧ W i n H') ?_ m0 ⟨0, H3, J4, st4, f3.1, w0⟩
    rintro n s5 ⟨i, H5, I5, st5, n5, w5⟩
    obtain ⟨g0, g1, g2, g3, g4, g5⟩ := stat I5 n5
    rcases turn i n H5 w5 with ⟨stop, qq⟩ | ⟨go, Nx, hNx, step⟩
    · obtain ⟨xs, hq, hx⟩ := stop
      obtain ⟨its, rv, pl, hz⟩ := I5.list hq
      have hl := rv.length
      have P5 := (I5.pin p (List.mem_append_right _ (List.mem_singleton.mpr rfl))).1
      refine end_hot (x1 := p.1) ⟨ph, p.2, v1, P5, pd, pc⟩ pit st5 pl.isList (by simp; omega) fun h' eb => ?_
      have I6 : Inv (X.blk s3 H3 scope ce [it]) [p] (wipe σ (own.map (·.2))) H5 { s5 with heap := h' } := I5.turned (t' := s5.toks) (fun b o hb e => eb b o hb e) g0 g1 g3 g4 g5
      have I7 : Inv X pins σ H5 { s5 with heap := h' } := I3.call' (ch := [it]) I6.os I6.base I6.hok I6.bare fun b hb => by
        rw [List.mem_singleton.mp hb]
        exact ⟨f3.2.2.2.1, f3.2.1, f3.2.2.2.2.1, f3.2.2.2.2.2⟩
      have nC : H5 s3.heap.objs.size = none := by
        have z : H5 ce.locals = none := I6.free
        rw [cL] at z
        exact z
      obtain ⟨m, hn, _⟩ := I6.loc
      have hn : Heap.Ns h' ce.locals m := hn
      rw [cL] at hn
      obtain ⟨k0, k1, k2, k3, k4, k5⟩ := I3.fpOk (Nat.le_refl _) nC
      exact ⟨m, hn, fun h'' sb => ⟨.ref D, H5, I7.turned (t' := s5.toks) (fun b o hb e => (sb.2 b hb).trans e) k0 k1 k3 k4 k5, rfl, qq⟩⟩
    · obtain ⟨xs, x, hq, hx⟩ := go
      obtain ⟨its, rv, pl, hz⟩ := I5.list hq
      obtain ⟨u, hu, ru⟩ := rv.get hx
      refine wpAny_pyNext_list_item st5 pl.isList (x := u) (by simpa using hu) fun h6 st6 sb => ?_
      have I6 : Inv (X.blk s3 H3 scope ce [it]) [p] (wipe σ (own.map (·.2))) H5 { s5 with heap := h6 } := I5.turned (t' := s5.toks) (fun b o hb e => (sb.2 b hb).trans e) g0 g1 g3 g4 g5
      have yl : (Itl X.K a).yld i H5 x H5 := ⟨rfl, fun ys hy => by rw [I5.list_inj hy hq]; exact hx⟩
      obtain ⟨o6, ho6, hc6, hd6⟩ := id st6
      refine thnF (go_of (s := { s5 with heap := h6 }) ho6 hc6 hd6 (by decide) (Q := fun _ s' => s' = { s5 with heap := h6 }) rfl) fun _ s7 h7 => ?_
      subst h7
      have hobj : ∀ b ∈ [it], ∃ o, h6.get? b = some o ∧ ∀ v, o.data ≠ .cell v := fun b hb => by
        rw [List.mem_singleton.mp hb]
        exact ⟨o6, ho6, fun v z => by rw [hd6] at z; cases z⟩
      have I7 := I6.pinned (fp := [it]) (fun b hb => by rw [List.mem_singleton.mp hb]; exact stat I6 n5) hobj
      refine thnF (pg.run _ { s5 with heap := h6 } _ H5 x u _ I7 ru (step x H5 yl)) fun _ s8 ⟨σ8, H8, I8, hw8, q8⟩ => ?_
      refine thnF (pt.run _ s8 σ8 H8 _ I8 q8) fun b s9 ⟨H9, I9, q9⟩ => ?_
      have fin : ∀ {s' : Shared} {H' : Hp}, Inv (X.blk s3 H3 scope ce [it]) ([p] ++ pinsAt [it] h6) σ8 H' s' → Nx H' → ∃ m, m < n ∧ ∃ i H', Inv (X.blk s3 H3 scope ce [it]) [p] (wipe σ (own.map (·.2))) H' s' ∧ s'.heap.IsListIter it a i ∧ H' it = none ∧ W i m H' := fun {s' H'} I' nx => by
        obtain ⟨m', hm, w'⟩ := hNx H' nx
        have z := I'.pin (it, o6) (List.mem_append_right _ (List.mem_append_right _ (mem_pinsAt (List.mem_singleton.mpr rfl) ho6)))
        have hl : (wipe σ (own.map (·.2))).length = σ8.length := by rw [← hw8, wipe_length]
        refine ⟨m', hm, i + 1, H', (I'.unpinned (pins := [p])).weak hl (fun j v e => ?_), ⟨o6, z.1, hc6, hd6⟩, z.2.1, w'⟩
        rw [← hw8] at e
        exact (wipe_some e).1
      cases b with
      | false =>
        simp only [Bool.false_eq_true, if_false] at q9 ⊢
        exact fin I9 q9
      | true =>
        simp only [if_true] at q9 ⊢
        refine thnF (pe.run _ s9 σ8 H9 _ I9 q9) fun z s10 ⟨yv, H10, I10, r10, acc, hD10, hz10, nx⟩ => ?_
        exact app_ok (X := X.blk s3 H3 scope ce [it]) I10 hD10 hz10 r10 fun s11 I11 => fin I11 nx
  exact codeAny_compStart_list loop (wpAny_pyIter_listiter st4 loop)
end
end HotL
set_option maxRecDepth 100000
set_option maxHeartbeats 4000000
/-! a def that is handed the exception that is handled -/
namespace HotL
open PySem PySem.Spec PyProof.Rows L2 HotX L2H
/-- what a def promises while p is handled -/
structure FnP (p : Addr × Obj) (P : Program) (w : World) (K : PySem.W.Frag) (mg : Str → Option Value) (base : Heap) (k : Nat) (f : Addr) (fd : FuncData) (ps : List Str) (sp : Sp) : Prop where
  len : ∀ vs H Q E, sp vs H Q E → vs.length = ps.length
  run : ∀ (A : Around) (outer : List Env) (s : Shared) (H : Hp) (args : Args) (us : List Value) (vs : List V) (Q : VK) (E : XK), RoomH k A → Hot1 A p → PinOk outer H s p → Env0 P w K mg base A outer s H → BindsTo s fd args (ps.zip us) → Vals vs us → sp vs H Q E →
    codeAny (model P w) A (.call (.ref f) args) (CR CX0 outer P w H s Q E) s
section
variable {p : Addr × Obj} {P : Program} {w : World} {K : PySem.W.Frag} {mg : Str → Option Value} {base : Heap} {k : Nat} {f : Addr}
theorem fn_ofP {name qual : Str} {params : Arguments} {body : List Stmt} {scope : Scope} {dV kV doc pm cdv ct oc : Value} {an od : Option Addr} {osl : Array (Option Value)} {N ps : List Str} {sp : Sp}
    (lk : K.lookup f = some ⟨oc, od, .func (PySem.W.fnOf name qual params body scope dV kV doc pm an cdv ct), osl⟩) (hcd : PySem.W.codeIn K cdv qual = true) (S : FnScope N ps scope) (len : ∀ vs H Q E, sp vs H Q E → vs.length = ps.length)
    (hbody : ∀ (A : Around) (outer : List Env) (s : Shared) (H : Hp) (vs : List V) (Q : VK) (E : XK), Hot1 A p → RoomH k (A.deeper (envOfC qual scope s.heap.objs.size f cdv)) → sp vs H Q E →
      ∃ t, PSs (cxH CX0 P w K mg base N qual scope f cdv A outer s H E p) body t ∧ t { nx := fun _ H' => Q .non H', rt := Q } (L2.start N vs) H) :
    FnP p P w K mg base (k + 1) f (PySem.W.fnOf name qual params body scope dV kV doc pm an cdv ct) ps sp := by
  constructor
  · exact len
  intro A outer s H args us vs Q E hr hot hpin e0 hb r hsp
  have hl := len _ _ _ _ hsp
  have up : ∀ b o, base.get? b = some o → s.heap.get? b = some o := fun b o e => (e0.bs b o e).1
  have KX := e0.mod.kin.keeps up
  have lim := e0.mod.nolimit.keeps up
  have hkind : ∀ y ∈ ps.zip us, scope.names.lookup y.1 = some .local ∨ (scope.names.lookup y.1 = some .cell ∧ ((cellsFrom (s.heap.objs.size + 1) scope.names []).lookup y.1).isSome = true) := by
    rintro ⟨n, v⟩ hy
    exact (S.par n (List.of_mem_zip hy).1).elim .inl fun q => .inr ⟨q, PySem.W.cellsFrom_some _ _ _ (.inl q)⟩
  refine codeAny_call_function hr.depth (KX _ _ lk) rfl S.co S.gen rfl (PySem.W.codeRec_of KX hcd) (hb _ _ _ _ ?_)
  refine wpAny_newFunctionEnv_cells S.kind hkind fun env he s1 x => ?_
  subst he
  refine ⟨lim.keeps x.toInCall.keep, codeAny_func ?_⟩
  obtain ⟨t, ht, hq⟩ := hbody A outer s H vs Q E hot (hr.deeper _) hsp
  have I := inv_startH (CX := CX0) (K := K) (mg := mg) (base := base) (E := E) S hpin e0 hl r x
  refine wpAny_mono (ht.run [] s1 (L2.start N vs) H _ I hq) (fun fl s' hs => ?_) fun _ _ z => z
  cases fl with
  | ret u =>
    obtain ⟨v, σ', H', J, rv, q⟩ := hs
    exact ⟨v, H', J.os, J.bare, J.base, J.hok, rv, q⟩
  | next =>
    obtain ⟨σ', H', J, q⟩ := hs
    exact ⟨V.non, H', J.os, J.bare, J.base, J.hok, rfl, q⟩
  | brk =>
    obtain ⟨_, _, _, q⟩ := hs
    exact q.elim
  | cont =>
    obtain ⟨_, _, _, q⟩ := hs
    exact q.elim
end
section
variable {p : Addr × Obj} {X : Cx} {k : Nat} {f : Addr} {fd : FuncData} {ps : List Str} {sp : Sp} {x : Str} {q pos : Pos} {e : Expr} {es : List Expr} {t : TA}
theorem pe_callP (F : FnP p X.prog X.w X.K X.mg X.base k f fd ps sp) (hr : RoomH k X.A) (hot : Hot1 X.A p) (hp : p ∈ X.pn) (hg : Gl X x) (hm : X.mg x = some (.ref f)) (hk : PySem.W.keepIn X.K (.ref f) = true) (hb : Binds X.K fd ps [])
    (ha : PA X (e :: es) t) (hdb : (x == ("__debug__" : Str)) = false := by decide) (he : starEach (e :: es) X.env = (false, eval e X.env) :: starEach es X.env := by rfl) (hpl : (backTo pos (starEach es X.env)).any (·.1) = false := by rfl) :
    PE X (.Call (.Name x q) (e :: es) [] pos) (tCallS sp (fun _ => E0) t) := by
  constructor
  intro pins s σ H Q I h
  refine wpAny_Call_Name_kw (ld_glob I hg hm ?_ hdb)
  refine PySem.W.callWith_K (h₀ := X.base) I.ok.mod.kin hk (thn (ha.run pos pins s σ H _ I h) fun us s1 z => ?_) he hpl
  obtain ⟨vs, H1, I1, r, sq⟩ := z
  refine ⟨I1.kIn, ?_⟩
  have hl : us.length = ps.length := by rw [← r.length]; exact F.len _ _ _ _ sq
  have b := hb s1 us I1.kIn (by rw [List.append_nil]; exact hl)
  rw [List.append_nil] at b
  obtain ⟨p1, p2, p3, p4, p5⟩ := I1.pin p (List.mem_append_left _ hp)
  have hpin : PinOk X.stack H1 s1 p := ⟨p1, p2, fun hm => (List.mem_cons.mp (I1.stkSub p.1 hm)).elim p3 p4, p5⟩
  refine wpAny_call (codeAny_mono (F.run X.A X.stack s1 H1 ⟨us, []⟩ us vs Q E0 hr hot hpin I1.env0 b r sq) fun r s' hq => ?_)
  cases r with
  | error e => exact hq.elim
  | ok fl =>
    cases fl with
    | ret u => exact I1.after hq
    | next => exact hq.elim
    | brk => exact hq.elim
    | cont => exact hq.elim
/-- isinstance of the exception that is handled -/
theorem call_isP {D : Addr} (C : ExcC X.K D) (hp : p ∈ X.pn) (hz : Zc (.ref D) none p.2) (hf : ∃ vs, p.2.data = .fields vs) : CallR X (.builtin "isinstance") (rIsE X.K D p.1) := by
  intro pins s σ H xs us Q I r h
  obtain ⟨c, cv, b, rfl, hcv, e, q⟩ := h
  cases r with
  | cons rx rr =>
    cases rr with
    | cons rt rr =>
      cases rr
      cases rx
      cases hcv _ rt
      have hget := (I.pin p (List.mem_append_left _ hp)).1
      obtain ⟨vs, hv⟩ := hf
      obtain ⟨pa, oc, od, oda, osl⟩ := p
      obtain ⟨h1, h2⟩ := hz
      dsimp only at h1 h2 hv hget
      subst h1 h2 hv
      exact PySem.W.kia_one (PySem.W.handS_kitx_exc C.hg C.hk C.hs C.hd C.ha C.hn C.ht C.hm) I.kIn ⟨hget, rfl, rfl, trivial⟩ e (fun z => nomatch z) fun tk => ⟨.bl b, H, I.kept (t' := tk) fun _ _ z => z, rfl, q⟩
end
end HotL
set_option maxRecDepth 100000
set_option maxHeartbeats 4000000
/-! isinstance of the handled exception, where it has a dict -/
namespace HotL
open PySem PySem.Spec PyProof.Rows L2 HotX L2H
def rIsED (K : PySem.W.Frag) (D a dd : Addr) : List V → Hp → VK → Prop := fun xs H Q => ∃ (c : V) (cv : Value) (b : Bool) (fs : List (Str × V)), xs = [.ref a, c] ∧ (∀ u, RelV c u → u = cv) ∧ PySem.W.kitOne K (.ref D) cv = some b ∧ H dd = some (.xd fs) ∧ Q (.bl b) H
section
variable {p : Addr × Obj} {X : Cx}
theorem call_isPD {D dd : Addr} (C : ExcC X.K D) (hp : p ∈ X.pn) (hz : Zc (.ref D) (some dd) p.2) (hf : ∃ vs, p.2.data = .fields vs) : CallR X (.builtin "isinstance") (rIsED X.K D p.1 dd) := by
  intro pins s σ H xs us Q I r h
  obtain ⟨c, cv, b, fs, rfl, hcv, e, hd, q⟩ := h
  cases r with
  | cons rx rr =>
    cases rr with
    | cons rt rr =>
      cases rr
      cases rx
      cases hcv _ rt
      have hget := (I.pin p (List.mem_append_left _ hp)).1
      obtain ⟨vs, hv⟩ := hf
      have hx : ObjOk X.prog X.w H s.heap dd (.xd fs) := I.hok dd _ hd
      obtain ⟨mA, hns, _⟩ := hx
      obtain ⟨od, ho, _⟩ := lookIn_ns hns
      have J : PySem.W.InstAt s.heap p.1 p.2 D (some od) := ⟨hget, hz.1, by unfold PySem.W.notCls; rw [hv] <;> rfl, by rw [hz.2]; exact ho⟩
      have hcl : (PySem.W.clsIn X.K D).isSome = true := by
        obtain ⟨cd, hc, _⟩ := PySem.W.any_some C.hd
        rw [hc] <;> rfl
      exact PySem.W.kia_one (PySem.W.kitx_exc hcl C.hg C.hk C.hs C.ha C.hn C.ht C.hm) I.kIn J e (fun z => nomatch z) fun tk => ⟨.bl b, H, I.kept (t' := tk) fun _ _ z => z, rfl, q⟩
end
end HotL
set_option maxRecDepth 100000
set_option maxHeartbeats 8000000
namespace WS
open PySem L2 L2H
/-- the classes of exceptions, as the law asks of one of them -/
structure ErrTxt (K : PySem.W.Frag) (mg : Str → Option Value) (D cBS cNA cMA cNO cBT : Addr) : Prop where
  ec : ExcC K D
  gBS : mg "BadSheet" = some (.ref cBS)
  gNA : mg "NoAnswer" = some (.ref cNA)
  gMA : mg "ManyAnswers" = some (.ref cMA)
  gNO : mg "NotOne" = some (.ref cNO)
  gBT : mg "BadText" = some (.ref cBT)
  gVE : mg "ValueError" = none
def kindOf (K : PySem.W.Frag) (D cBS cNA cMA cNO cBT : Addr) (b1 b2 b3 b4 b5 : Bool) : Prop :=
  PySem.W.kitOne K (.ref D) (.ref cBS) = some b1 ∧ PySem.W.kitOne K (.ref D) (.ref cNA) = some b2 ∧ PySem.W.kitOne K (.ref D) (.ref cMA) = some b3 ∧ PySem.W.kitOne K (.ref D) (.ref cNO) = some b4 ∧ PySem.W.kitOne K (.ref D) (.ref cBT) = some b5 ∧ PySem.W.kitOne K (.ref D) (.type "ValueError") = some true
def spIs (p : Addr × Obj) : Sp := fun vs H Q _ => vs = [.ref p.1, .str "not"] ∧ ∀ H', Same H H' → Q (.bl true) H'
section
variable {p : Addr × Obj} {P : Program} {w : World} {K : PySem.W.Frag} {mg : Str → Option Value} {base : Heap}
theorem scLIs : FnScope ["_law_e", "_law_word_here", "_law_kinds", "_law_words", "_law_one"] ["_law_e", "_law_word_here"] (defScope sLIs) := ⟨rfl, rfl, rfl, by decide +kernel, rfl, by decide +kernel, by decide +kernel⟩
theorem ok_lis {f D cBS cNA cMA cNO cBT : Addr} {fd : FuncData} (F : Fun K "_law_is" "_law_is" sLIs f fd) (z_isinstance : mg "isinstance" = none) (T : ErrTxt K mg D cBS cNA cMA cNO cBT) (kd : kindOf K D cBS cNA cMA cNO cBT false false false true false)
    (hz : Zc (.ref D) none p.2) (hf : ∃ vs, p.2.data = .fields vs) : HotL.FnP p P w K mg base 1 f fd ["_law_e", "_law_word_here"] (spIs p) := by
  obtain ⟨oc, od, kV, doc, pm, an, cdv, ct, osl, rfl, lk, hcd⟩ := F.ex
  refine HotL.fn_ofP lk hcd scLIs (fun vs H Q E h => ?_) (fun A outer s H vs Q E hot hr h => ?_)
  · obtain ⟨rfl, _⟩ := h
    rfl
  · obtain ⟨rfl, k⟩ := h
    have nd := scLIs.nd
    have hu64 : (A.deeper (PyProof.Rows.envOfC "_law_is" (defScope sLIs) s.heap.objs.size f cdv)).units + 64 < cLine := by have := hr.un; omega
    obtain ⟨k1, k2, k3, k4, k5, k6⟩ := kd
    have hpn : p ∈ [p] := List.mem_singleton.mpr rfl
    have hotc : ∀ {X : Cx}, X.A = A.deeper (PyProof.Rows.envOfC "_law_is" (defScope sLIs) s.heap.objs.size f cdv) → X.pn = [p] → HotC X := fun e1 e2 => ⟨p, by rw [e1]; exact hot, by rw [e2]; exact hpn⟩
    refine ⟨_, (pss_cons (ps_set (i := 2) nd rfl (.inl rfl) (pe_lst (pa_cons (pe_callB (HotL.call_isP T.ec hpn hz hf) (by rfl) z_isinstance (by decide +kernel) (pa_cons (pv 0) (pa_cons (pe_glob (v := .ref cBS) (by rfl) T.gBS rfl) pa_nil))) (pa_cons (pe_callB (HotL.call_isP T.ec hpn hz hf) (by rfl) z_isinstance (by decide +kernel) (pa_cons (pv 0) (pa_cons (pe_glob (v := .ref cNA) (by rfl) T.gNA rfl) pa_nil))) (pa_cons (pe_callB (HotL.call_isP T.ec hpn hz hf) (by rfl) z_isinstance (by decide +kernel) (pa_cons (pv 0) (pa_cons (pe_glob (v := .ref cMA) (by rfl) T.gMA rfl) pa_nil))) (pa_cons (pe_callB (HotL.call_isP T.ec hpn hz hf) (by rfl) z_isinstance (by decide +kernel) (pa_cons (pv 0) (pa_cons (pe_glob (v := .ref cNO) (by rfl) T.gNO rfl) pa_nil))) pa_nil))))))
      (pss_cons (ps_expr (pe_bm PySem.F.plainAttrs_list PySem.F.slot_list_append PySem.F.type_list_append mt_append (pv 2) (pa_cons (pe_callB (HotL.call_isP T.ec hpn hz hf) (by rfl) z_isinstance (by decide +kernel) (pa_cons (pv 0) (pa_cons (pe_glob (v := .ref cBT) (by rfl) T.gBT rfl) pa_nil))) pa_nil)))
      (pss_cons (ps_set (i := 3) nd rfl (.inl rfl) (pe_lst (pa_cons pe_str (pa_cons pe_str (pa_cons pe_str (pa_cons pe_str (pa_cons pe_str pa_nil)))))))
      (pss_one (ps_ret (pe_and (pe_callB (HotL.call_isP T.ec hpn hz hf) (by rfl) z_isinstance (by decide +kernel) (pa_cons (pv 0) (pa_cons (pe_bltn (v := .ty "ValueError") (by rfl) T.gVE (by decide +kernel) rfl) pa_nil))) (pe_one (pe_cmpR (op_eqD hu64) (pv 2) (HotL.pe_lcH (own := [("_law_one", 4)]) (g := (gName 4)) (tt := tYes) (hotc rfl rfl) nd (pv 3) (blkOk_by (own := [("_law_one", 4)]) (N := ["_law_e", "_law_word_here", "_law_kinds", "_law_words", "_law_one"]) (sc := defScope sLIs) (by decide +kernel)) (fun _ _ _ _ _ => (pg_name (i := 4) nd rfl (.inl rfl))) (fun _ _ _ _ _ => pts_nil) (fun _ _ _ _ _ => (pe_cmpR op_eq (pv 1) (pv 4) (nomark _)))) (nomark _))))))))), ?_⟩
    refine ⟨_, rfl, _, _, false, rfl, fun u h => h, k1, _, rfl, _, _, false, rfl, fun u h => h, k2, _, rfl, _, _, false, rfl, fun u h => h, k3, _, rfl, _, _, true, rfl, fun u h => h, k4, by show 4 ≤ sizeLine; decide, fun q hq => ?_⟩
    have s1 : Same H (upd H q (.lst [.bl false, .bl false, .bl false, .bl true])) := Same.new hq
    have hq1 : (upd H q (.lst [.bl false, .bl false, .bl false, .bl true])) q = some (.lst [.bl false, .bl false, .bl false, .bl true]) := upd_same
    refine ⟨_, rfl, .inl ⟨rfl, _, SqL.of hq1⟩, _, rfl, _, _, false, rfl, fun u h => h, k5, q, _, _, rfl, rfl, hq1, by show 4 < sizeLine; decide, ?_⟩
    have s2 : Same H (upd (upd H q (.lst [.bl false, .bl false, .bl false, .bl true])) q (.lst ([.bl false, .bl false, .bl false, .bl true] ++ [.bl false]))) := Same.mut s1 hq
    have hq2 : (upd (upd H q (.lst [.bl false, .bl false, .bl false, .bl true])) q (.lst ([.bl false, .bl false, .bl false, .bl true] ++ [.bl false]))) q = some (.lst [.bl false, .bl false, .bl false, .bl true, .bl false]) := upd_same
    generalize upd (upd H q (.lst [.bl false, .bl false, .bl false, .bl true])) q (.lst ([.bl false, .bl false, .bl false, .bl true] ++ [.bl false])) = H2 at s2 hq2
    refine ⟨by show 5 ≤ sizeLine; decide, fun w2 hw2 => ?_⟩
    have s3 : Same H2 (upd H2 w2 (.lst [.str "sheet", .str "none", .str "many", .str "not", .str "text"])) := Same.new hw2
    have hw3 : (upd H2 w2 (.lst [.str "sheet", .str "none", .str "many", .str "not", .str "text"])) w2 = some (.lst [.str "sheet", .str "none", .str "many", .str "not", .str "text"]) := upd_same
    generalize upd H2 w2 (.lst [.str "sheet", .str "none", .str "many", .str "not", .str "text"]) = H3 at s3 hw3
    have hw3 : H3 w2 = some (.lst ((["sheet", "none", "many", "not", "text"] : List Str).map V.str)) := hw3
    have hq3 := s3 _ _ hq2
    refine ⟨_, rfl, _, _, true, rfl, fun u h => h, k6, true, rfl, iteT ?_⟩
    refine ⟨_, rfl, _, rfl, w2, rfl, ⟨_, SqL.of hw3⟩, fun D hD => ?_⟩
    have hqD := ne_of_none hq3 hD
    generalize hws : (["sheet", "none", "many", "not", "text"] : List Str) = ws at hw3
    have hl5 : ws.length = 5 := by rw [← hws] <;> rfl
    refine lc_list (K := K) (a := w2) (xs := ws.map V.str) (fun j H4 => H4 = upd H3 D (.lst ((ws.take j).map fun z => V.bl (decide (V.str "not" = V.str z))))) rfl
      (fun j H4 _ e => by rw [e]; exact SqL.of ((upd_ne (ne_of_none hw3 hD)).trans hw3)) ?_ ?_
    · rintro j y H4 hj rfl
      obtain ⟨z, hz', rfl⟩ : ∃ z, ws[j]? = some z ∧ y = V.str z := by
        rw [List.getElem?_map] at hj
        cases e : ws[j]? with
        | none => rw [e] at hj; cases hj
        | some z => rw [e] at hj; exact ⟨z, rfl, (Option.some.inj hj).symm⟩
      refine ⟨rfl, _, rfl, _, rfl, rfl, _, upd_same, ?_, ?_⟩
      · rw [List.length_map, List.length_take]
        exact line_lt (by omega)
      · rw [upd_upd, List.take_add_one, hz', List.map_append] <;> rfl
    · rintro H4 rfl
      rw [List.length_map, List.take_length]
      have hqf : (upd H3 D (.lst (ws.map fun z => V.bl (decide (V.str "not" = V.str z))))) q = some (.lst [.bl false, .bl false, .bl false, .bl true, .bl false]) := (upd_ne hqD).trans hq3
      have hDf : (upd H3 D (.lst (ws.map fun z => V.bl (decide (V.str "not" = V.str z))))) D = some (.lst [.bl false, .bl false, .bl false, .bl true, .bl false]) := by
        rw [upd_same, ← hws]
        have e : ((["sheet", "none", "many", "not", "text"] : List Str).map fun z => V.bl (decide (V.str "not" = V.str z))) = [.bl false, .bl false, .bl false, .bl true, .bl false] := by decide +kernel
        rw [e]
      refine ⟨_, _, .lst (SqL.of hqf) (.cons (.bl _) (.cons (.bl _) (.cons (.bl _) (.cons (.bl _) (.cons (.bl _) .nil))))), .lst (SqL.of hDf) (.cons (.bl _) (.cons (.bl _) (.cons (.bl _) (.cons (.bl _) (.cons (.bl _) .nil))))), rfl, rfl, ?_⟩
      exact k _ ((s2.trans s3).trans (Same.new hD))
end
end WS
set_option maxRecDepth 100000
set_option maxHeartbeats 8000000
namespace WS
open PySem L2 L2H
def kindW (K : PySem.W.Frag) (D cBS cNA cMA cNO cBT : Addr) (wd : Str) (b1 b2 b3 b4 b5 : Bool) : Prop :=
  kindOf K D cBS cNA cMA cNO cBT b1 b2 b3 b4 b5 ∧ ((["sheet", "none", "many", "not", "text"] : List Str).map fun z => V.bl (decide (V.str wd = V.str z))) = [.bl b1, .bl b2, .bl b3, .bl b4, .bl b5]
def spIsW (p : Addr × Obj) (dd : Addr) (wd : Str) : Sp := fun vs H Q _ => vs = [.ref p.1, .str wd] ∧ (∃ fs, H dd = some (.xd fs)) ∧ ∀ H', Same H H' → Q (.bl true) H'
section
variable {p : Addr × Obj} {P : Program} {w : World} {K : PySem.W.Frag} {mg : Str → Option Value} {base : Heap}
theorem scLIsW : FnScope ["_law_e", "_law_word_here", "_law_kinds", "_law_words", "_law_one"] ["_law_e", "_law_word_here"] (defScope sLIs) := ⟨rfl, rfl, rfl, by decide +kernel, rfl, by decide +kernel, by decide +kernel⟩
theorem ok_lisW {f D dd cBS cNA cMA cNO cBT : Addr} {fd : FuncData} {wd : Str} {b1 b2 b3 b4 b5 : Bool} (F : Fun K "_law_is" "_law_is" sLIs f fd) (z_isinstance : mg "isinstance" = none) (T : ErrTxt K mg D cBS cNA cMA cNO cBT) (kd : kindW K D cBS cNA cMA cNO cBT wd b1 b2 b3 b4 b5)
    (hz : Zc (.ref D) (some dd) p.2) (hf : ∃ vs, p.2.data = .fields vs) : HotL.FnP p P w K mg base 1 f fd ["_law_e", "_law_word_here"] (spIsW p dd wd) := by
  obtain ⟨oc, od, kV, doc, pm, an, cdv, ct, osl, rfl, lk, hcd⟩ := F.ex
  refine HotL.fn_ofP lk hcd scLIsW (fun vs H Q E h => ?_) (fun A outer s H vs Q E hot hr h => ?_)
  · obtain ⟨rfl, _⟩ := h
    rfl
  · obtain ⟨rfl, ⟨fs, hdd⟩, k⟩ := h
    have nd := scLIsW.nd
    have hu64 : (A.deeper (PyProof.Rows.envOfC "_law_is" (defScope sLIs) s.heap.objs.size f cdv)).units + 64 < cLine := by have := hr.un; omega
    obtain ⟨⟨k1, k2, k3, k4, k5, k6⟩, hwd⟩ := kd
    have hpn : p ∈ [p] := List.mem_singleton.mpr rfl
    have hotc : ∀ {X : Cx}, X.A = A.deeper (PyProof.Rows.envOfC "_law_is" (defScope sLIs) s.heap.objs.size f cdv) → X.pn = [p] → HotC X := fun e1 e2 => ⟨p, by rw [e1]; exact hot, by rw [e2]; exact hpn⟩
    refine ⟨_, (pss_cons (ps_set (i := 2) nd rfl (.inl rfl) (pe_lst (pa_cons (pe_callB (HotL.call_isPD T.ec hpn hz hf) (by rfl) z_isinstance (by decide +kernel) (pa_cons (pv 0) (pa_cons (pe_glob (v := .ref cBS) (by rfl) T.gBS rfl) pa_nil))) (pa_cons (pe_callB (HotL.call_isPD T.ec hpn hz hf) (by rfl) z_isinstance (by decide +kernel) (pa_cons (pv 0) (pa_cons (pe_glob (v := .ref cNA) (by rfl) T.gNA rfl) pa_nil))) (pa_cons (pe_callB (HotL.call_isPD T.ec hpn hz hf) (by rfl) z_isinstance (by decide +kernel) (pa_cons (pv 0) (pa_cons (pe_glob (v := .ref cMA) (by rfl) T.gMA rfl) pa_nil))) (pa_cons (pe_callB (HotL.call_isPD T.ec hpn hz hf) (by rfl) z_isinstance (by decide +kernel) (pa_cons (pv 0) (pa_cons (pe_glob (v := .ref cNO) (by rfl) T.gNO rfl) pa_nil))) pa_nil))))))
      (pss_cons (ps_expr (pe_bm PySem.F.plainAttrs_list PySem.F.slot_list_append PySem.F.type_list_append mt_append (pv 2) (pa_cons (pe_callB (HotL.call_isPD T.ec hpn hz hf) (by rfl) z_isinstance (by decide +kernel) (pa_cons (pv 0) (pa_cons (pe_glob (v := .ref cBT) (by rfl) T.gBT rfl) pa_nil))) pa_nil)))
      (pss_cons (ps_set (i := 3) nd rfl (.inl rfl) (pe_lst (pa_cons pe_str (pa_cons pe_str (pa_cons pe_str (pa_cons pe_str (pa_cons pe_str pa_nil)))))))
      (pss_one (ps_ret (pe_and (pe_callB (HotL.call_isPD T.ec hpn hz hf) (by rfl) z_isinstance (by decide +kernel) (pa_cons (pv 0) (pa_cons (pe_bltn (v := .ty "ValueError") (by rfl) T.gVE (by decide +kernel) rfl) pa_nil))) (pe_one (pe_cmpR (op_eqD hu64) (pv 2) (HotL.pe_lcH (own := [("_law_one", 4)]) (g := (gName 4)) (tt := tYes) (hotc rfl rfl) nd (pv 3) (blkOk_by (own := [("_law_one", 4)]) (N := ["_law_e", "_law_word_here", "_law_kinds", "_law_words", "_law_one"]) (sc := defScope sLIs) (by decide +kernel)) (fun _ _ _ _ _ => (pg_name (i := 4) nd rfl (.inl rfl))) (fun _ _ _ _ _ => pts_nil) (fun _ _ _ _ _ => (pe_cmpR op_eq (pv 1) (pv 4) (nomark _)))) (nomark _))))))))), ?_⟩
    have hl0 : ∀ {l : List V}, l.length = 4 → l.length < sizeLine := fun h => by rw [h]; decide
    refine ⟨_, rfl, _, _, b1, fs, rfl, fun u h => h, k1, hdd, _, rfl, _, _, b2, fs, rfl, fun u h => h, k2, hdd, _, rfl, _, _, b3, fs, rfl, fun u h => h, k3, hdd, _, rfl, _, _, b4, fs, rfl, fun u h => h, k4, hdd, by show 4 ≤ sizeLine; decide, fun q hq => ?_⟩
    have s1 : Same H (upd H q (.lst [.bl b1, .bl b2, .bl b3, .bl b4])) := Same.new hq
    have hq1 : (upd H q (.lst [.bl b1, .bl b2, .bl b3, .bl b4])) q = some (.lst [.bl b1, .bl b2, .bl b3, .bl b4]) := upd_same
    refine ⟨_, rfl, .inl ⟨rfl, _, SqL.of hq1⟩, _, rfl, _, _, b5, fs, rfl, fun u h => h, k5, s1 _ _ hdd, q, _, _, rfl, rfl, hq1, by show 4 < sizeLine; decide, ?_⟩
    have s2 : Same H (upd (upd H q (.lst [.bl b1, .bl b2, .bl b3, .bl b4])) q (.lst ([.bl b1, .bl b2, .bl b3, .bl b4] ++ [.bl b5]))) := Same.mut s1 hq
    have hq2 : (upd (upd H q (.lst [.bl b1, .bl b2, .bl b3, .bl b4])) q (.lst ([.bl b1, .bl b2, .bl b3, .bl b4] ++ [.bl b5]))) q = some (.lst [.bl b1, .bl b2, .bl b3, .bl b4, .bl b5]) := upd_same
    generalize upd (upd H q (.lst [.bl b1, .bl b2, .bl b3, .bl b4])) q (.lst ([.bl b1, .bl b2, .bl b3, .bl b4] ++ [.bl b5])) = H2 at s2 hq2
    refine ⟨by show 5 ≤ sizeLine; decide, fun w2 hw2 => ?_⟩
    have s3 : Same H2 (upd H2 w2 (.lst [.str "sheet", .str "none", .str "many", .str "not", .str "text"])) := Same.new hw2
    have hw3 : (upd H2 w2 (.lst [.str "sheet", .str "none", .str "many", .str "not", .str "text"])) w2 = some (.lst [.str "sheet", .str "none", .str "many", .str "not", .str "text"]) := upd_same
    generalize upd H2 w2 (.lst [.str "sheet", .str "none", .str "many", .str "not", .str "text"]) = H3 at s3 hw3
    have hw3 : H3 w2 = some (.lst ((["sheet", "none", "many", "not", "text"] : List Str).map V.str)) := hw3
    have hq3 := s3 _ _ hq2
    refine ⟨_, rfl, _, _, true, fs, rfl, fun u h => h, k6, (s2.trans s3) _ _ hdd, true, rfl, iteT ?_⟩
    refine ⟨_, rfl, _, rfl, w2, rfl, ⟨_, SqL.of hw3⟩, fun D hD => ?_⟩
    have hqD := ne_of_none hq3 hD
    generalize hws : (["sheet", "none", "many", "not", "text"] : List Str) = ws at hw3 hwd
    have hl5 : ws.length = 5 := by rw [← hws] <;> rfl
    refine lc_list (K := K) (a := w2) (xs := ws.map V.str) (fun j H4 => H4 = upd H3 D (.lst ((ws.take j).map fun z => V.bl (decide (V.str wd = V.str z))))) rfl
      (fun j H4 _ e => by rw [e]; exact SqL.of ((upd_ne (ne_of_none hw3 hD)).trans hw3)) ?_ ?_
    · rintro j y H4 hj rfl
      obtain ⟨z, hz', rfl⟩ : ∃ z, ws[j]? = some z ∧ y = V.str z := by
        rw [List.getElem?_map] at hj
        cases e : ws[j]? with
        | none => rw [e] at hj; cases hj
        | some z => rw [e] at hj; exact ⟨z, rfl, (Option.some.inj hj).symm⟩
      refine ⟨rfl, _, rfl, _, rfl, rfl, _, upd_same, ?_, ?_⟩
      · rw [List.length_map, List.length_take]
        exact line_lt (by omega)
      · rw [upd_upd, List.take_add_one, hz', List.map_append] <;> rfl
    · rintro H4 rfl
      rw [List.length_map, List.take_length]
      have hqf : (upd H3 D (.lst (ws.map fun z => V.bl (decide (V.str wd = V.str z))))) q = some (.lst [.bl b1, .bl b2, .bl b3, .bl b4, .bl b5]) := (upd_ne hqD).trans hq3
      have hDf : (upd H3 D (.lst (ws.map fun z => V.bl (decide (V.str wd = V.str z))))) D = some (.lst [.bl b1, .bl b2, .bl b3, .bl b4, .bl b5]) := by
        rw [upd_same, hwd]
      refine ⟨_, _, .lst (SqL.of hqf) (.cons (.bl _) (.cons (.bl _) (.cons (.bl _) (.cons (.bl _) (.cons (.bl _) .nil))))), .lst (SqL.of hDf) (.cons (.bl _) (.cons (.bl _) (.cons (.bl _) (.cons (.bl _) (.cons (.bl _) .nil))))), rfl, rfl, ?_⟩
      cases b1 <;> cases b2 <;> cases b3 <;> cases b4 <;> cases b5 <;> exact k _ ((s2.trans s3).trans (Same.new hD))
end
end WS
set_option maxRecDepth 100000
set_option maxHeartbeats 4000000
namespace WS
open PySem PySem.Spec PyProof.Rows L2 L2H
/-- around a body nothing is let out -/
theorem takes0N {X : Cx} : L2N.Takes X (fun _ _ _ _ => False) := fun _ _ x => by
  obtain ⟨_, _, _, _, _, _, _, _, _, _, _, _, _, _, _, _, z⟩ := x
  exact z.elim
/-- what a suite asks of _law_is(e, "not") -/
def tIsS (C a : Addr) (cls : Value) (d : Option Addr) (t : TA) : TE := fun σ H Q => cls = .ref C ∧ d = none ∧ t σ H fun vs H1 => vs = [.ref a, .str "not"] ∧ ∀ H', Same H1 H' → Q (.bl true) H'
section
variable {X : Cx} {C a f : Addr} {fd : FuncData} {k : Nat} {x : Str} {q pos : Pos} {e : Expr} {es : List Expr} {t : TA} {oe : Obj} {cls : Value} {d : Option Addr} {pn : List (Addr × Obj)}
theorem pe_isS (hz : L2N.Zn cls d oe) (hf : ∃ vs, oe.data = .fields vs)
    (G : ∀ p : Addr × Obj, Zc (.ref C) none p.2 → (∃ vs, p.2.data = .fields vs) → HotL.FnP p X.prog X.w X.K X.mg X.base k f fd ["_law_e", "_law_word_here"] (spIs p))
    (hr : Room k X.A) (hg : Gl (X.suite a ((a, oe) :: pn)) x) (hm : X.mg x = some (.ref f)) (hk : PySem.W.keepIn X.K (.ref f) = true) (hb : Binds X.K fd ["_law_e", "_law_word_here"] [])
    (ha : PA (X.suite a ((a, oe) :: pn)) (e :: es) t) (hdb : (x == ("__debug__" : Str)) = false := by decide) (he : starEach (e :: es) X.env = (false, eval e X.env) :: starEach es X.env := by rfl) (hpl : (backTo pos (starEach es X.env)).any (·.1) = false := by rfl) :
    PE (X.suite a ((a, oe) :: pn)) (.Call (.Name x q) (e :: es) [] pos) (tIsS C a cls d t) := by
  constructor
  intro pins s σ H Q I h
  obtain ⟨hc, hd, h⟩ := h
  subst hc hd
  obtain ⟨vs, hv⟩ := id hf
  have hrh : RoomH k (X.suite a ((a, oe) :: pn)).A := ⟨hr.dp, hr.un⟩
  have hot : Hot1 (X.suite a ((a, oe) :: pn)).A (a, oe) := ⟨rfl, vs, hv, hz.2.2 vs hv⟩
  exact (HotL.pe_callP (X := X.suite a ((a, oe) :: pn)) (p := (a, oe)) (G (a, oe) hz.zc hf) hrh hot List.mem_cons_self hg hm hk hb ha hdb he hpl).run pins s σ H Q I h
end
end WS
set_option maxRecDepth 100000
set_option maxHeartbeats 8000000
namespace WS
open PySem L2
def spWhole : Sp := fun vs H Q _ => ∃ v : Int, vs = [.int v] ∧ Q (.bl true) H
section
variable {P : Program} {w : World} {K : PySem.W.Frag} {mg : Str → Option Value} {base : Heap}
theorem scWhole : FnScope ["_law_found"] ["_law_found"] (defScope sWhole) := ⟨rfl, rfl, rfl, by decide +kernel, rfl, by decide +kernel, by decide +kernel⟩
theorem ok_whole {f : Addr} {fd : FuncData} (F : Fun K "_law_whole" "_law_whole" sWhole f fd) (z_isinstance : mg "isinstance" = none) (z_int : mg "int" = none) (z_bool : mg "bool" = none) :
    FnOk P w K mg base CX0 1 f fd ["_law_found"] spWhole := by
  refine F.ok scWhole (fun vs H Q E h => ?_) (fun cdv A outer s H vs Q E hr h => ?_)
  · obtain ⟨v, rfl, _⟩ := h
    rfl
  · obtain ⟨v, rfl, k⟩ := h
    have nd := scWhole.nd
    have hu := hu_of hr
    refine ⟨_, (pss_one (ps_ret (pe_and (pe_callB call_isi (by rfl) z_isinstance (by decide +kernel) (pa_cons (pv 0) (pa_cons (pe_bltn (v := .ty "int") (by rfl) z_int PyProof.Rows.boot_int rfl) pa_nil))) (pe_one (pe_not (pe_callB call_isi (by rfl) z_isinstance (by decide +kernel) (pa_cons (pv 0) (pa_cons (pe_bltn (v := .ty "bool") (by rfl) z_bool PyProof.Rows.boot_bool rfl) pa_nil)))))))), ?_⟩
    refine ⟨_, rfl, _, _, _, _, true, rfl, .ty _, .base (.int _), kit_ty (by decide +kernel), _, rfl, iteT ?_⟩
    exact ⟨_, rfl, _, _, _, _, false, rfl, .ty _, .base (.int _), kit_ty (by decide +kernel), _, rfl, k⟩
end
end WS
set_option maxRecDepth 100000
set_option maxHeartbeats 8000000
namespace WS
open PySem PySem.Spec PyProof.Rows L2 L2H
theorem hotOf {A : Around} {a : Addr} {oe : Obj} {cls : Value} {d : Option Addr} (hz : L2N.Zn cls d oe) (hf : ∃ vs, oe.data = .fields vs) : Hot1 (A.mark (some (.ref a))) (a, oe) := by
  obtain ⟨vs, hv⟩ := hf
  exact ⟨rfl, vs, hv, hz.2.2 vs hv⟩
/-- sep.join(xs), its reading with K by name -/
def rJoinK (K : PySem.W.Frag) : V → List V → Hp → VK → Prop := fun x xs H Q => ∃ a p, ∃ ys : List Str, x = .str a ∧ xs = [.ref p] ∧ (SqL K H p (ys.map V.str) ∨ SqT K H p (ys.map V.str)) ∧ (ys.map (·.length)).sum + ys.length * a.length ≤ 16777216 ∧ Q (.str (Txt.join a ys)) H
theorem mt_joinK {X : Cx} : MtR X "str.join" (rJoinK X.K) := mt_join
/-- what a suite asks of _law_is(e, word), e of one of two classes with a dict -/
def tIsW2 (C1 C2 a : Addr) (cls : Value) (d : Option Addr) (wd1 wd2 : Str) (t : TA) : TE := fun σ H Q => ∃ dd, d = some dd ∧
  ((cls = .ref C1 ∧ t σ H fun vs H1 => vs = [.ref a, .str wd1] ∧ (∃ fs, H1 dd = some (.xd fs)) ∧ ∀ H', Same H1 H' → Q (.bl true) H') ∨ (cls = .ref C2 ∧ t σ H fun vs H1 => vs = [.ref a, .str wd2] ∧ (∃ fs, H1 dd = some (.xd fs)) ∧ ∀ H', Same H1 H' → Q (.bl true) H'))
section
variable {X : Cx} {C1 C2 a f : Addr} {fd : FuncData} {k : Nat} {x : Str} {q pos : Pos} {e : Expr} {es : List Expr} {t : TA} {oe : Obj} {cls : Value} {d : Option Addr} {pn : List (Addr × Obj)} {wd1 wd2 : Str}
theorem pe_isW2 (hz : L2N.Zn cls d oe) (hf : ∃ vs, oe.data = .fields vs)
    (G1 : ∀ (p : Addr × Obj) (dd : Addr), Zc (.ref C1) (some dd) p.2 → (∃ vs, p.2.data = .fields vs) → HotL.FnP p X.prog X.w X.K X.mg X.base k f fd ["_law_e", "_law_word_here"] (spIsW p dd wd1))
    (G2 : ∀ (p : Addr × Obj) (dd : Addr), Zc (.ref C2) (some dd) p.2 → (∃ vs, p.2.data = .fields vs) → HotL.FnP p X.prog X.w X.K X.mg X.base k f fd ["_law_e", "_law_word_here"] (spIsW p dd wd2))
    (hr : Room k X.A) (hg : Gl (X.suite a ((a, oe) :: pn)) x) (hm : X.mg x = some (.ref f)) (hk : PySem.W.keepIn X.K (.ref f) = true) (hb : Binds X.K fd ["_law_e", "_law_word_here"] [])
    (ha : PA (X.suite a ((a, oe) :: pn)) (e :: es) t) (hdb : (x == ("__debug__" : Str)) = false := by decide) (he : starEach (e :: es) X.env = (false, eval e X.env) :: starEach es X.env := by rfl) (hpl : (backTo pos (starEach es X.env)).any (·.1) = false := by rfl) :
    PE (X.suite a ((a, oe) :: pn)) (.Call (.Name x q) (e :: es) [] pos) (tIsW2 C1 C2 a cls d wd1 wd2 t) := by
  constructor
  intro pins s σ H Q I h
  have hrh : RoomH k (X.suite a ((a, oe) :: pn)).A := ⟨hr.dp, hr.un⟩
  obtain ⟨dd, hd, h⟩ := h
  subst hd
  rcases h with ⟨hc, h⟩ | ⟨hc, h⟩
  · subst hc
    exact (HotL.pe_callP (X := X.suite a ((a, oe) :: pn)) (p := (a, oe)) (G1 (a, oe) dd hz.zc hf) hrh (hotOf hz hf) List.mem_cons_self hg hm hk hb ha hdb he hpl).run pins s σ H Q I h
  · subst hc
    exact (HotL.pe_callP (X := X.suite a ((a, oe) :: pn)) (p := (a, oe)) (G2 (a, oe) dd hz.zc hf) hrh (hotOf hz hf) List.mem_cons_self hg hm hk hb ha hdb he hpl).run pins s σ H Q I h
end
section
variable {p : Addr × Obj} {P : Program} {w : World} {K : PySem.W.Frag} {mg : Str → Option Value} {base : Heap}
theorem ok_wholeP {f : Addr} {fd : FuncData} (F : Fun K "_law_whole" "_law_whole" sWhole f fd) (z_isinstance : mg "isinstance" = none) (z_int : mg "int" = none) (z_bool : mg "bool" = none) :
    HotL.FnP p P w K mg base 1 f fd ["_law_found"] spWhole := by
  obtain ⟨oc, od, kV, doc, pm, an, cdv, ct, osl, rfl, lk, hcd⟩ := F.ex
  refine HotL.fn_ofP lk hcd scWhole (fun vs H Q E h => ?_) (fun A outer s H vs Q E hot hr h => ?_)
  · obtain ⟨v, rfl, _⟩ := h
    rfl
  · obtain ⟨v, rfl, k⟩ := h
    have nd := scWhole.nd
    refine ⟨_, (pss_one (ps_ret (pe_and (pe_callB call_isi (by rfl) z_isinstance (by decide +kernel) (pa_cons (pv 0) (pa_cons (pe_bltn (v := .ty "int") (by rfl) z_int PyProof.Rows.boot_int rfl) pa_nil))) (pe_one (pe_not (pe_callB call_isi (by rfl) z_isinstance (by decide +kernel) (pa_cons (pv 0) (pa_cons (pe_bltn (v := .ty "bool") (by rfl) z_bool PyProof.Rows.boot_bool rfl) pa_nil)))))))), ?_⟩
    refine ⟨_, rfl, _, _, _, _, true, rfl, .ty _, .base (.int _), kit_ty (by decide +kernel), _, rfl, iteT ?_⟩
    exact ⟨_, rfl, _, _, _, _, false, rfl, .ty _, .base (.int _), kit_ty (by decide +kernel), _, rfl, k⟩
end
def spRefused18 : Sp := fun vs H Q _ => ∃ (rl : Addr) (r0 : Str) (rs : List Str) (wd : Str) (n : Int), vs = [.ref rl, .str wd, .int n] ∧ H rl = some (.lst ((r0 :: rs).map V.str)) ∧ rs.length ≤ 9 ∧ (∀ r ∈ r0 :: rs, r.length ≤ 60 ∧ 10 ∉ r.cps.toList) ∧
  ((wd = "text" ∧ firstBad r0 rs n) ∨ (wd = "sheet" ∧ ∃ i why, goodRows r0 rs i why)) ∧ ∀ H', Same H H' → Q (.bl true) H'
section
variable {P : Program} {w : World} {K : PySem.W.Frag} {mg : Str → Option Value} {base : Heap}
theorem scLRefused : FnScope ["_law_rows", "_law_word_here", "_law_at", "_law_e"] ["_law_rows", "_law_word_here", "_law_at"] (defScope sLRefused) := ⟨rfl, rfl, rfl, by decide +kernel, rfl, by decide +kernel, by decide +kernel⟩
theorem ok_lrefused {f cBS cBT cSE fRd fIs fWh : Addr} {fd fdRd fdIs fdWh : FuncData} (F : Fun K "_law_refused" "_law_refused" sLRefused f fd)
    (gSE : mg "SumError" = some (.ref cSE)) (hexmS : PySem.W.exmOne K (.ref cBS) (.ref cSE) = some true) (hexmT : PySem.W.exmOne K (.ref cBT) (.ref cSE) = some true) (TX : XfC K cBT) (n_row : PySem.W.findIn K (.ref cBT) "row" = some none)
    (S_read : Site K mg "read" fRd fdRd ["text"]) (X_read : FnOk P w K mg base (L2N.CX P w) 6 fRd fdRd ["text"] (spReadX cBS cBT))
    (S__law_is : Site K mg "_law_is" fIs fdIs ["_law_e", "_law_word_here"]) (G1 : ∀ (p : Addr × Obj) (dd : Addr), Zc (.ref cBS) (some dd) p.2 → (∃ vs, p.2.data = .fields vs) → HotL.FnP p P w K mg base 1 fIs fdIs ["_law_e", "_law_word_here"] (spIsW p dd "sheet"))
    (G2 : ∀ (p : Addr × Obj) (dd : Addr), Zc (.ref cBT) (some dd) p.2 → (∃ vs, p.2.data = .fields vs) → HotL.FnP p P w K mg base 1 fIs fdIs ["_law_e", "_law_word_here"] (spIsW p dd "text"))
    (S__law_whole : Site K mg "_law_whole" fWh fdWh ["_law_found"]) (W__law_whole : ∀ p : Addr × Obj, HotL.FnP p P w K mg base 1 fWh fdWh ["_law_found"] spWhole) :
    FnOk P w K mg base CX0 7 f fd ["_law_rows", "_law_word_here", "_law_at"] spRefused18 := by
  refine F.ok scLRefused (fun vs H Q E h => ?_) (fun cdv A outer s H vs Q E hr h => ?_)
  · obtain ⟨rl, r0, rs, wd, n, rfl, _⟩ := h
    rfl
  · obtain ⟨rl, r0, rs, wd, n, rfl, hrl, h9, hrw, hk, k⟩ := h
    have nd := scLRefused.nd
    have hr1 : Room 1 _ := hr.mono (by decide)
    refine ⟨_, pss_cons (L2N.ps_try_as (i := 3) rfl rfl nd rfl rfl ⟨by rfl, by decide +kernel, .inl gSE⟩ takes0N
        (fun W pn xe tk _ => pss_one (ps_expr (pe_callS X_read hr (by rfl) S_read.g S_read.k S_read.b (fun σ => L2N.passAt tk σ) (pa_cons (pe_m1 (r := rJoinK K) PySem.F.slot_str_join PySem.F.type_str_join mt_joinK pe_str (pv 0)) pa_nil))))
        (fun a oe cls d pn hz hf => pss_one (ps_ret (pe_and ((pe_isW2 hz hf G1 G2 hr1 (by rfl) S__law_is.g S__law_is.k S__law_is.b (pa_cons (pv 3) (pa_cons (pv 1) pa_nil))))
          (pe_one (pe_or (pe_cmpR op_eq (pv 1) pe_str (nomark _))
          (pe_one (pe_and ((HotL.pe_callP (W__law_whole (a, oe)) ⟨hr1.dp, hr1.un⟩ (hotOf hz hf) List.mem_cons_self (by rfl) S__law_whole.g S__law_whole.k S__law_whole.b (pa_cons (pe_xf TX n_row hz.zc hf (pv 3)) pa_nil)))
          (pe_one (pe_cmpR op_eq (pe_xf TX n_row hz.zc hf (pv 3)) (pv 2) (nomark _)))))))))))
      (pss_one (ps_ret pe_bl)), ?_⟩
    have hlenT : ((r0 :: rs).map (·.length)).sum + (r0 :: rs).length * 1 ≤ 700 := by
      have h2 : ((r0 :: rs).map (·.length)).sum ≤ (r0 :: rs).length * 60 := sum_map_le fun z hz => (hrw z hz).1
      have h3 : (r0 :: rs).length = rs.length + 1 := rfl
      omega
    refine ⟨⟨_, rfl⟩, _, rfl, ("\n" : Str), rl, r0 :: rs, rfl, rfl, .inl (SqL.of hrl), ?_, ?_⟩
    · rw [show ("\n" : Str).length = 1 from rfl]
      omega
    rw [txt_join]
    refine ⟨r0, rs, rfl, h9, hrw, ?_⟩
    rcases hk with ⟨rfl, hfb⟩ | ⟨rfl, i, why, hg⟩
    · refine .inl ⟨n, hfb, fun dd H' hdd s1 hx => ?_⟩
      refine ⟨true, hexmT, fun _ a ha => ?_, fun h => nomatch h⟩
      have l1 : (rowFs n).lookup ("row" : Str) = some (V.int n) := by
        unfold rowFs
        rw [List.lookup_cons, show (("row" : Str) == "row") = true from by decide +kernel]
      refine ⟨dd, rfl, .inr ⟨rfl, _, rfl, _, rfl, rfl, ⟨_, hx⟩, fun H2 s2 => ?_⟩⟩
      have hx2 := s2 _ _ hx
      refine ⟨_, rfl, iteT ?_⟩
      refine ⟨_, rfl, rfl, _, rfl, iteF ?_⟩
      refine ⟨_, rfl, rfl, rfl, dd, _, _, rfl, hx2, l1, n, rfl, _, rfl, iteT ?_⟩
      refine ⟨_, rfl, rfl, rfl, dd, _, _, rfl, hx2, l1, _, rfl, rfl, ?_⟩
      rw [decide_eq_true rfl]
      exact k _ (s1.trans s2)
    · refine .inr ⟨i, why, hg, fun dd H' hdd s1 hx => ?_⟩
      refine ⟨true, hexmS, fun _ a ha => ?_, fun h => nomatch h⟩
      refine ⟨dd, rfl, .inl ⟨rfl, _, rfl, _, rfl, rfl, ⟨_, hx⟩, fun H2 s2 => ?_⟩⟩
      refine ⟨_, rfl, iteT ?_⟩
      refine ⟨_, rfl, rfl, _, rfl, ?_⟩
      exact iteT (k _ (s1.trans s2))
end
end WS
set_option maxRecDepth 100000
set_option maxHeartbeats 8000000
namespace WS
open PySem L2 SetT
section
variable {P : Program} {w : World} {K : PySem.W.Frag} {mg : Str → Option Value} {base : Heap}
theorem scLaw18 : FnScope ["_law_script", "_law_d", "_law_base", "_law_sums", "_law_rows", "_law_addends", "_law_total", "_law_bad_here", "_law_at", "_law_nones"] ["_law_script"] (defScope sLaw) := ⟨rfl, rfl, rfl, by decide +kernel, rfl, by decide +kernel, by decide +kernel⟩
theorem ok_law18 {f fD fN fW fB fR : Addr} {fd fdD fdN fdW fdB fdR : FuncData} (F : Fun K "law" "law" sLaw f fd) (z_str : mg "str" = none) (z_len : mg "len" = none)
    (S__law_dice : Site K mg "_law_dice" fD fdD ["_law_script"]) (G__law_dice : FnOk P w K mg base CX0 1 fD fdD ["_law_script"] (spDice K))
    (S__law_next : Site K mg "_law_next" fN fdN ["_law_dice_here", "_law_many"]) (G__law_next : FnOk P w K mg base CX0 1 fN fdN ["_law_dice_here", "_law_many"] (spNext K))
    (S__law_sheet : Site K mg "_law_sheet" fW fdW ["_law_d"]) (G__law_sheet : FnOk P w K mg base CX0 3 fW fdW ["_law_d"] (spSheet K))
    (S__law_bad : Site K mg "_law_bad" fB fdB ["_law_d", "_law_rows"]) (G__law_bad : FnOk P w K mg base CX0 2 fB fdB ["_law_d", "_law_rows"] (spLBad K))
    (S__law_refused : Site K mg "_law_refused" fR fdR ["_law_rows", "_law_word_here", "_law_at"]) (G__law_refused : FnOk P w K mg base CX0 7 fR fdR ["_law_rows", "_law_word_here", "_law_at"] spRefused18) :
    FnOk P w K mg base CX0 8 f fd ["_law_script"] (spLaw K) := by
  refine F.ok scLaw18 (fun vs H Q E h => ?_) (fun cdv A outer s H vs Q E hr h => ?_)
  · obtain ⟨a, ns, rfl, _⟩ := h
    rfl
  · obtain ⟨a, ns, rfl, hsq, k⟩ := h
    have nd := scLaw18.nd
    have hr__law_dice : Room 1 _ := hr.mono (by decide)
    have hr__law_next : Room 1 _ := hr.mono (by decide)
    have hr__law_sheet : Room 3 _ := hr.mono (by decide)
    have hr__law_bad : Room 2 _ := hr.mono (by decide)
    have hr__law_refused : Room 7 _ := hr
    refine ⟨_, (pss_cons (ps_set (i := 1) nd rfl (.inl rfl) (pe_call G__law_dice hr__law_dice (by rfl) S__law_dice.g S__law_dice.k S__law_dice.b .nil pass0 (pa_cons (pv 0) pa_nil)))
      (pss_cons (ps_asg (pe_call G__law_sheet hr__law_sheet (by rfl) S__law_sheet.g S__law_sheet.k S__law_sheet.b .nil pass0 (pa_cons (pv 1) pa_nil)) (pg_tup rfl (pgs_cons (pg_name (i := 2) nd rfl (.inl rfl)) (pgs_cons (pg_name (i := 3) nd rfl (.inl rfl)) pgs_nil))))
      (pss_cons (ps_set (i := 4) nd rfl (.inl rfl) (pe_lst (pa_cons (pe_op op_add_str pe_str (pe_callTy call_str_int (by rfl) z_str (by decide +kernel) (pa_cons (pv 2) pa_nil))) pa_nil)))
      (pss_cons (ps_for PassesOwn.never rfl (pi_list (pv 3)) (pg_tup rfl (pgs_cons (pg_name (i := 5) nd rfl (.inl rfl)) (pgs_cons (pg_name (i := 6) nd rfl (.inl rfl)) pgs_nil))) (pss_one (ps_expr (pe_bm PySem.F.plainAttrs_list PySem.F.slot_list_append PySem.F.type_list_append mt_append (pv 4) (pa_cons (pe_op op_add_str (pe_op op_add_str (pe_join pe_str (pv 5)) pe_str) (pv 6)) pa_nil)))))
      (pss_cons (ps_asg (pe_call G__law_bad hr__law_bad (by rfl) S__law_bad.g S__law_bad.k S__law_bad.b .nil pass0 (pa_cons (pv 1) (pa_cons (pv 4) pa_nil))) (pg_tup rfl (pgs_cons (pg_name (i := 7) nd rfl (.inl rfl)) (pgs_cons (pg_name (i := 8) nd rfl (.inl rfl)) pgs_nil))))
      (Evl.pss_cut (ps_if (pt_cmpR op_eq (pe_call G__law_next hr__law_next (by rfl) S__law_next.g S__law_next.k S__law_next.b .nil pass0 (pa_cons (pv 1) (pa_cons pe_int pa_nil))) pe_int (nomark _)) (pss_one (ps_set (i := 7) nd rfl (.inl rfl) (pe_op op_cat (pv 7) (pe_lst (pa_cons pe_str pa_nil))))) pss_nil)
      (pss_cons (ps_if (PW.pt (pw_or (pt_not (pt_val (pe_call G__law_refused hr__law_refused (by rfl) S__law_refused.g S__law_refused.k S__law_refused.b .nil pass0 (pa_cons (pv 7) (pa_cons pe_str (pa_cons (pv 8) pa_nil)))))) (pw_or1 (pt_not (pt_val (pe_call G__law_refused hr__law_refused (by rfl) S__law_refused.g S__law_refused.k S__law_refused.b .nil pass0 (pa_cons (pe_op op_cat (pe_op op_cat (pe_lst (pa_cons pe_str pa_nil)) (pe_slice sl_list (pv 4) (po_some pe_int) po_none)) (pe_lst (pa_cons pe_str pa_nil))) (pa_cons pe_str (pa_cons (pe_callB call_len_seq (by rfl) z_len PySem.boot_len (pa_cons (pv 4) pa_nil)) pa_nil))))))))) (pss_one (ps_ret pe_bl)) pss_nil)
      (pss_cons (ps_set (i := 9) nd rfl (.inl rfl) (pe_lst (pa_cons (pe_op op_cat (pe_lst (pa_cons pe_str pa_nil)) (pe_slice sl_list (pv 4) (po_some pe_int) po_none)) (pa_cons (pe_op op_cat (pe_lst (pa_cons pe_str pa_nil)) (pe_slice sl_list (pv 4) (po_some pe_int) po_none)) (pa_cons (pe_slice sl_list (pv 4) po_none (po_some pe_int)) (pa_cons (pe_op op_cat (pe_slice sl_list (pv 4) po_none (po_some pe_int)) (pe_op op_rep (pe_lst (pa_cons pe_str pa_nil)) pe_int)) pa_nil))))))
      (pss_cons (ps_set (i := 9) nd rfl (.inl rfl) (pe_op op_cat (pv 9) (pe_lst (pa_cons (pe_op op_cat (pe_slice sl_list (pv 4) po_none (po_some pe_int)) (pe_lst (pa_cons pe_str pa_nil))) (pa_cons (pe_lst (pa_cons pe_str (pa_cons pe_str pa_nil))) pa_nil)))))
      (pss_one (ps_ret (pe_call G__law_refused hr__law_refused (by rfl) S__law_refused.g S__law_refused.k S__law_refused.b .nil pass0 (pa_cons (pe_ix (r := rIxL K) ix_list (pv 9) (pe_call G__law_next hr__law_next (by rfl) S__law_next.g S__law_next.k S__law_next.b .nil pass0 (pa_cons (pv 1) (pa_cons (pe_callB call_len_seq (by rfl) z_len PySem.boot_len (pa_cons (pv 9) pa_nil)) pa_nil))) (fun _ _ => rfl)) (pa_cons pe_str (pa_cons pe_int pa_nil))))))))))))))), ?_⟩
    refine ⟨_, rfl, a, ns, rfl, hsq, fun d H1 hd0 s1 D1 => ?_⟩
    refine ⟨_, rfl, d, a, ns, rfl, D1, fun t sl ts H2 b ss ht0 hsl0 D2 b2 ht hsl hsa ok => ?_⟩
    refine ⟨t, _, rfl, SqT.of ht, rfl, _, _, rfl, _, _, rfl, rfl, ?_⟩
    have V' := ok.valid
    have hf := V'.few
    have B := HeadOk.of V'.b2 V'.b12
    have hl := hsa.len
    have hb2 := V'.b2
    have hb12 := V'.b12
    have hlog : b.natAbs.log2 < 1920 := Nat.lt_of_le_of_lt (Nat.log2_le_self _) (by omega)
    have hn2 : (toString b : Str).length ≤ 2 := B.l2
    have ha5 : ("base " : Str).length = 5 := rfl
    refine ⟨_, rfl, b, rfl, hlog, _, _, rfl, rfl, line_of (by omega), by show 1 ≤ sizeLine; decide, fun m hm => ?_⟩
    have hslm : sl ≠ m := ne_of_none hsl hm
    have s23 : Same H2 (upd H2 m (.lst [.str (headS b)])) := Same.new hm
    have hm1 : (upd H2 m (.lst [.str (headS b)])) m = some (.lst ((headS b :: (ss.take 0).map rowS).map V.str)) := upd_same
    refine ⟨_, rfl, sl, rfl, ⟨_, SqL.of (s23 _ _ hsl)⟩, for_list (K := K) (a := sl) (xs := ts.map V.ref) (fun i σ H3 => ∃ v5 v6, σ = [some (.ref a), some (.ref d), some (.int b), some (.ref sl), some (.ref m), v5, v6, none, none, none] ∧ Same H2 H3 ∧ H3 m = some (.lst ((headS b :: (ss.take i).map rowS).map V.str)))
      ⟨none, none, rfl, s23, hm1⟩ (fun i σ H3 _ ⟨_, _, _, s3, _⟩ => SqL.of (s3 _ _ hsl)) ?_ ?_⟩
    · rintro i y σ H3 hi ⟨v5, v6, rfl, s3, hm3⟩
      obtain ⟨t', ht', rfl⟩ := refs_at hi
      have hil : i < ts.length := (List.getElem?_eq_some_iff.mp ht').1
      have hiss : i < ss.length := hl ▸ hil
      have hs : ss[i]? = some ss[i] := List.getElem?_eq_getElem hiss
      generalize hsg : ss[i] = sm at hs
      have hsm : sm ∈ ss := List.mem_of_getElem? hs
      obtain ⟨u, ht1, hu1⟩ := (hsa.get i t' sm ht' hs).same s3
      have h4 := (V'.many sm hsm).2
      have hz : ∀ z ∈ sm.1 ++ [sm.2], z.length ≤ 6 := fun z hz => (valid_len V' hsm z hz).2
      have hrl := row_len h4 hz
      have hs6 : (sm.1.map (·.length)).sum ≤ sm.1.length * 6 := sum_map_le fun z h => hz z (List.mem_append_left _ h)
      have h6 := hz sm.2 (List.mem_append_right _ List.mem_cons_self)
      have e3 : (" = " : Str).length = 3 := rfl
      refine ⟨t', _, rfl, SqT.of ht1, rfl, _, _, rfl, _, _, rfl, rfl, ?_⟩
      refine ⟨_, rfl, .inl ⟨rfl, _, SqL.of hm3⟩, ⟨_, rfl⟩, _, rfl, plusT, u, sm.1, rfl, rfl, .inr (SqT.of hu1), ?_, ?_⟩
      · rw [show plusT.length = 3 from rfl]
        omega
      rw [txt_join]
      refine ⟨_, _, rfl, rfl, line_of (by omega), _, rfl, _, _, rfl, rfl, line_of (by rw [PySem.Str.length_append]; omega), m, _, _, rfl, rfl, hm3, ?_, ?_⟩
      · rw [List.length_map, List.length_cons, List.length_map, List.length_take]
        exact line_lt (by omega)
      · refine ⟨_, _, rfl, Same.mut s3 hm, ?_⟩
        rw [upd_same, take_snoc hs, List.map_append, ← List.cons_append, List.map_append] <;> rfl
    rintro σ H3 ⟨v5, v6, rfl, s3, hm3⟩
    rw [List.length_map, hl, List.take_length] at hm3
    have D3 := D2.same s3
    have hlr : (headS b :: ss.map rowS).length = ss.length + 1 := by rw [List.length_cons, List.length_map]
    refine ⟨_, rfl, _, rfl, d, a, ns, m, headS b :: ss.map rowS, rfl, D3, hm3, by omega, by omega, fun tb lb rows' n H4 D4 b4 htb hlb hbad => ?_⟩
    obtain ⟨r0, rs, rfl, hfb, hrs4, hfit⟩ := bad_first V' hbad
    refine ⟨tb, _, rfl, SqT.of htb, rfl, _, _, rfl, _, _, rfl, rfl, ?_⟩
    have hm4 := b4 _ _ (strs_off D3 hm3) hm3
    refine ⟨fun σ H6 => ∃ lb' rs', σ = [some (.ref a), some (.ref d), some (.int b), some (.ref sl), some (.ref m), v5, v6, some (.ref lb'), some (.int (n : Int)), none] ∧ Dice K H6 d a ns ∧ H6 m = some (.lst ((headS b :: ss.map rowS).map V.str)) ∧ H6 lb' = some (.lst ((r0 :: rs').map V.str)) ∧ firstBad r0 rs' (n : Int) ∧ rs'.length ≤ 9 ∧ ∀ r ∈ r0 :: rs', rowFit r, ?_, ?_⟩
    · refine ⟨_, rfl, d, a, ns, 2, rfl, D4, by decide, by decide, fun v H5 v0 v1 D5 b5 e5 => ⟨rfl, _, rfl, ?_⟩⟩
      have hm5 := b5 _ _ (strs_off D4 hm4) hm4
      have hlb5 := b5 _ _ (strs_off D4 hlb) hlb
      refine ite2 (fun _ => ?_) (fun _ => ?_)
      · refine ⟨_, rfl, by show 1 ≤ sizeLine; decide, fun p hp => ⟨_, _, _, _, rfl, rfl, (Same.new hp) _ _ hlb5, upd_same, ?_, fun p2 hp2 => ?_⟩⟩
        · rw [List.length_map, List.length_cons]
          exact line_of (by show _ + 1 ≤ _; omega)
        · have s57 : Same H5 (upd (upd H5 p (.lst [.str "no row"])) p2 (.lst ((r0 :: rs).map V.str ++ [.str "no row"]))) := (Same.new hp).trans (Same.new hp2)
          refine ⟨p2, rs ++ [("no row" : Str)], rfl, D5.same s57, s57 _ _ hm5, ?_, firstBad_app hfb _, by rw [List.length_append]; show _ + 1 ≤ 9; omega, fun r hr => ?_⟩
          · rw [upd_same, ← List.cons_append, List.map_append] <;> rfl
          · rw [← List.cons_append] at hr
            rcases List.mem_append.mp hr with h | h
            · exact hfit r h
            · rw [List.mem_singleton.mp h]
              exact ⟨by decide +kernel, by decide +kernel⟩
      · exact ⟨lb, rs, rfl, D5, hm5, hlb5, hfb, by omega, hfit⟩
    rintro σ H6 ⟨lb', rs', rfl, D6, hm6, hlb6, hfb', h9, hfit'⟩
    have cut1 : cutV ((headS b :: ss.map rowS).map V.str) (some 1) none = (ss.map rowS).map V.str := by
      rw [show (1 : Int) = ((1 : Nat) : Int) from rfl, cut_from] <;> rfl
    have cut2 : cutV ((headS b :: ss.map rowS).map V.str) none (some 1) = ([headS b] : List Str).map V.str := by
      rw [show (1 : Int) = ((1 : Nat) : Int) from rfl, cut_upto] <;> rfl
    have hsl3 : (ss.map rowS).length ≤ 3 := by rw [List.length_map]; omega
    have hsf : ∀ r ∈ ss.map rowS, rowFit r := fun r hr => (row_goods V' hr).2.1
    have fit1 : rowFit "base 1" := ⟨by decide +kernel, by decide +kernel⟩
    have fit13 : rowFit "base 13" := ⟨by decide +kernel, by decide +kernel⟩
    have fit0 : rowFit "" := ⟨by decide +kernel, by decide +kernel⟩
    have fitA : rowFit "a = a" := ⟨by decide +kernel, by decide +kernel⟩
    have fitB : rowFit "a + a + a + a + a = b" := ⟨by decide +kernel, by decide +kernel⟩
    have fitC : rowFit "base 2" ∧ rowFit "ab + c = d" := ⟨⟨by decide +kernel, by decide +kernel⟩, by decide +kernel, by decide +kernel⟩
    have fitH := head_fit V'
    refine ⟨_, rfl, _, rfl, lb', r0, rs', "text", n, rfl, hlb6, h9, hfit', .inl ⟨rfl, hfb'⟩, fun H7 s7 => ⟨_, rfl, iteF ?_⟩⟩
    have D7 := D6.same s7
    have hm7 := s7 _ _ hm6
    refine ⟨by show 1 ≤ sizeLine; decide, fun p1 hp1 => ?_⟩
    have s8 := Same.new (o := .lst [.str "base 1"]) hp1
    have x8 : (upd H7 p1 (.lst [.str "base 1"])) p1 = some (.lst [.str "base 1"]) := upd_same
    generalize upd H7 p1 (.lst [.str "base 1"]) = H8 at s8 x8
    refine ⟨_, rfl, _, rfl, m, _, rfl, SqL.of (s8 _ _ hm7), fun p2 hp2 => ?_⟩
    rw [cut1]
    have s9 := Same.new (o := .lst ((ss.map rowS).map V.str)) hp2
    have x9 : (upd H8 p2 (.lst ((ss.map rowS).map V.str))) p2 = some (.lst ((ss.map rowS).map V.str)) := upd_same
    generalize upd H8 p2 (.lst ((ss.map rowS).map V.str)) = H9 at s9 x9
    refine ⟨_, _, _, _, rfl, rfl, s9 _ _ x8, x9, ?_, fun p3 hp3 => ⟨by show 1 ≤ sizeLine; decide, fun p4 hp4 => ?_⟩⟩
    · rw [List.length_map]
      exact line_of (by show 1 + _ ≤ _; omega)
    have s11 : Same H9 (upd (upd H9 p3 (.lst ([.str "base 1"] ++ (ss.map rowS).map V.str))) p4 (.lst [.str ""])) := (Same.new hp3).trans (Same.new hp4)
    have x10 : (upd (upd H9 p3 (.lst ([.str "base 1"] ++ (ss.map rowS).map V.str))) p4 (.lst [.str ""])) p3 = some (.lst ([.str "base 1"] ++ (ss.map rowS).map V.str)) := (upd_ne (ne_of_none upd_same hp4)).trans upd_same
    have x11 : (upd (upd H9 p3 (.lst ([.str "base 1"] ++ (ss.map rowS).map V.str))) p4 (.lst [.str ""])) p4 = some (.lst [.str ""]) := upd_same
    generalize upd (upd H9 p3 (.lst ([.str "base 1"] ++ (ss.map rowS).map V.str))) p4 (.lst [.str ""]) = H11 at s11 x10 x11
    refine ⟨_, _, _, _, rfl, rfl, x10, x11, ?_, fun p5 hp5 => ?_⟩
    · rw [List.length_append, List.length_map]
      exact line_of (by show 1 + _ + 1 ≤ _; omega)
    have s12 : Same H11 (upd H11 p5 (.lst ([.str "base 1"] ++ (ss.map rowS).map V.str ++ [.str ""]))) := Same.new hp5
    have x12 : (upd H11 p5 (.lst ([.str "base 1"] ++ (ss.map rowS).map V.str ++ [.str ""]))) p5 = some (.lst ((("base 1" : Str) :: (ss.map rowS ++ [("" : Str)])).map V.str)) := by
      rw [upd_same, List.map_cons, List.map_append] <;> rfl
    generalize upd H11 p5 (.lst ([.str "base 1"] ++ (ss.map rowS).map V.str ++ [.str ""])) = H12 at s12 x12
    have s712 := ((s8.trans s9).trans s11).trans s12
    have D12 := D7.same s712
    have hm12 := s712 _ _ hm7
    refine ⟨_, rfl, m, _, rfl, .inl (SqL.of hm12), p5, "base 1", ss.map rowS ++ [("" : Str)], "text", _, rfl, x12, by rw [List.length_append]; show _ + 1 ≤ 9; omega, fun r hr => ?_, .inl ⟨rfl, ?_⟩, fun H13 s13 => ⟨_, rfl, iteF ?_⟩⟩
    · rcases List.mem_cons.mp hr with rfl | hr
      · exact fit1
      rcases List.mem_append.mp hr with hr | hr
      · exact hsf r hr
      · rw [List.mem_singleton.mp hr]; exact fit0
    · rw [List.length_map, hlr]
      exact late_first V'
    have D13 := D12.same s13
    have hm13 := s13 _ _ hm12
    -- the sheets that cannot be
    refine ⟨by show 1 ≤ sizeLine; decide, fun q1 hq1 => ?_⟩
    have t1 := Same.new (o := .lst [.str "base 1"]) hq1
    have y1 : (upd H13 q1 (.lst [.str "base 1"])) q1 = some (.lst [.str "base 1"]) := upd_same
    generalize upd H13 q1 (.lst [.str "base 1"]) = J1 at t1 y1
    refine ⟨_, rfl, _, rfl, m, _, rfl, SqL.of (t1 _ _ hm13), fun q2 hq2 => ?_⟩
    rw [cut1]
    refine ⟨_, _, _, _, rfl, rfl, (Same.new hq2) _ _ y1, upd_same, ?_, fun l1 hl1 => ?_⟩
    · rw [List.length_map]
      exact line_of (by show 1 + _ ≤ _; omega)
    have t2 : Same H13 (upd (upd J1 q2 (.lst ((ss.map rowS).map V.str))) l1 (.lst ([.str "base 1"] ++ (ss.map rowS).map V.str))) := t1.trans ((Same.new hq2).trans (Same.new hl1))
    have z1 : (upd (upd J1 q2 (.lst ((ss.map rowS).map V.str))) l1 (.lst ([.str "base 1"] ++ (ss.map rowS).map V.str))) l1 = some (.lst ((("base 1" : Str) :: ss.map rowS).map V.str)) := upd_same
    generalize upd (upd J1 q2 (.lst ((ss.map rowS).map V.str))) l1 (.lst ([.str "base 1"] ++ (ss.map rowS).map V.str)) = J2 at t2 z1
    refine ⟨by show 1 ≤ sizeLine; decide, fun q3 hq3 => ?_⟩
    have t3 := Same.new (o := .lst [.str "base 13"]) hq3
    have y3 : (upd J2 q3 (.lst [.str "base 13"])) q3 = some (.lst [.str "base 13"]) := upd_same
    generalize upd J2 q3 (.lst [.str "base 13"]) = J3 at t3 y3
    refine ⟨_, rfl, _, rfl, m, _, rfl, SqL.of ((t2.trans t3) _ _ hm13), fun q4 hq4 => ?_⟩
    rw [cut1]
    refine ⟨_, _, _, _, rfl, rfl, (Same.new hq4) _ _ y3, upd_same, ?_, fun l2 hl2 => ?_⟩
    · rw [List.length_map]
      exact line_of (by show 1 + _ ≤ _; omega)
    have t4 : Same J2 (upd (upd J3 q4 (.lst ((ss.map rowS).map V.str))) l2 (.lst ([.str "base 13"] ++ (ss.map rowS).map V.str))) := t3.trans ((Same.new hq4).trans (Same.new hl2))
    have z2 : (upd (upd J3 q4 (.lst ((ss.map rowS).map V.str))) l2 (.lst ([.str "base 13"] ++ (ss.map rowS).map V.str))) l2 = some (.lst ((("base 13" : Str) :: ss.map rowS).map V.str)) := upd_same
    generalize upd (upd J3 q4 (.lst ((ss.map rowS).map V.str))) l2 (.lst ([.str "base 13"] ++ (ss.map rowS).map V.str)) = J4 at t4 z2
    have z1 := t4 _ _ z1
    refine ⟨_, rfl, _, rfl, m, _, rfl, SqL.of ((t2.trans t4) _ _ hm13), fun l3 hl3 => ?_⟩
    rw [cut2]
    have t5 : Same J4 (upd J4 l3 (.lst (([headS b] : List Str).map V.str))) := Same.new hl3
    have z3 : (upd J4 l3 (.lst (([headS b] : List Str).map V.str))) l3 = some (.lst ((headS b :: ([] : List Str)).map V.str)) := upd_same
    generalize upd J4 l3 (.lst (([headS b] : List Str).map V.str)) = J5 at t5 z3
    refine ⟨_, rfl, _, rfl, m, _, rfl, SqL.of (((t2.trans t4).trans t5) _ _ hm13), fun q5 hq5 => ?_⟩
    rw [cut2]
    have t6 : Same J5 (upd J5 q5 (.lst (([headS b] : List Str).map V.str))) := Same.new hq5
    have y6 : (upd J5 q5 (.lst (([headS b] : List Str).map V.str))) q5 = some (.lst (([headS b] : List Str).map V.str)) := upd_same
    generalize upd J5 q5 (.lst (([headS b] : List Str).map V.str)) = J6 at t6 y6
    refine ⟨by show 1 ≤ sizeLine; decide, fun q6 hq6 => ⟨_, 4, [.str "a = a"], rfl, rfl, upd_same, by decide, by decide, by show 1 * 4 ≤ sizeLine; decide, fun q7 hq7 => ?_⟩⟩
    have t7 : Same J6 (upd (upd J6 q6 (.lst [.str "a = a"])) q7 (.lst (List.replicate (4 : Int).toNat [V.str "a = a"]).flatten)) := (Same.new hq6).trans (Same.new hq7)
    have y7 : (upd (upd J6 q6 (.lst [.str "a = a"])) q7 (.lst (List.replicate (4 : Int).toNat [V.str "a = a"]).flatten)) q7 = some (.lst [.str "a = a", .str "a = a", .str "a = a", .str "a = a"]) := upd_same
    generalize upd (upd J6 q6 (.lst [.str "a = a"])) q7 (.lst (List.replicate (4 : Int).toNat [V.str "a = a"]).flatten) = J7 at t7 y7
    have y7 : J7 q7 = some (.lst [.str "a = a", .str "a = a", .str "a = a", .str "a = a"]) := y7
    refine ⟨_, _, _, _, rfl, rfl, t7 _ _ y6, y7, by show 1 + 4 ≤ sizeLine; decide, fun l4 hl4 => ?_⟩
    have t8 : Same J5 (upd J7 l4 (.lst (([headS b] : List Str).map V.str ++ [.str "a = a", .str "a = a", .str "a = a", .str "a = a"]))) := (t6.trans t7).trans (Same.new hl4)
    have z4 : (upd J7 l4 (.lst (([headS b] : List Str).map V.str ++ [.str "a = a", .str "a = a", .str "a = a", .str "a = a"]))) l4 = some (.lst ((headS b :: (["a = a", "a = a", "a = a", "a = a"] : List Str)).map V.str)) := upd_same
    generalize upd J7 l4 (.lst (([headS b] : List Str).map V.str ++ [.str "a = a", .str "a = a", .str "a = a", .str "a = a"])) = J8 at t8 z4
    have z1 := (t5.trans t8) _ _ z1
    have z2 := (t5.trans t8) _ _ z2
    have z3 := t8 _ _ z3
    have t18 := ((t2.trans t4).trans t5).trans t8
    refine ⟨by show 4 ≤ sizeLine; decide, fun nl hnl => ?_⟩
    have t9 : Same J8 (upd J8 nl (.lst [.ref l1, .ref l2, .ref l3, .ref l4])) := Same.new hnl
    have w1 : (upd J8 nl (.lst [.ref l1, .ref l2, .ref l3, .ref l4])) nl = some (.lst [.ref l1, .ref l2, .ref l3, .ref l4]) := upd_same
    generalize upd J8 nl (.lst [.ref l1, .ref l2, .ref l3, .ref l4]) = J9 at t9 w1
    have hm9 := (t18.trans t9) _ _ hm13
    refine ⟨_, rfl, _, rfl, _, rfl, m, _, rfl, SqL.of hm9, fun q8 hq8 => ?_⟩
    rw [cut2]
    refine ⟨by show 1 ≤ sizeLine; decide, fun q9 hq9 => ⟨_, _, _, _, rfl, rfl, (upd_ne (ne_of_none upd_same hq9)).trans upd_same, upd_same, by show 1 + 1 ≤ sizeLine; decide, fun l5 hl5 => ?_⟩⟩
    have t10 : Same J9 (upd (upd (upd J9 q8 (.lst (([headS b] : List Str).map V.str))) q9 (.lst [.str "a + a + a + a + a = b"])) l5 (.lst (([headS b] : List Str).map V.str ++ [.str "a + a + a + a + a = b"]))) := ((Same.new hq8).trans (Same.new hq9)).trans (Same.new hl5)
    have z5 : (upd (upd (upd J9 q8 (.lst (([headS b] : List Str).map V.str))) q9 (.lst [.str "a + a + a + a + a = b"])) l5 (.lst (([headS b] : List Str).map V.str ++ [.str "a + a + a + a + a = b"]))) l5 = some (.lst ((headS b :: (["a + a + a + a + a = b"] : List Str)).map V.str)) := upd_same
    generalize upd (upd (upd J9 q8 (.lst (([headS b] : List Str).map V.str))) q9 (.lst [.str "a + a + a + a + a = b"])) l5 (.lst (([headS b] : List Str).map V.str ++ [.str "a + a + a + a + a = b"])) = J10 at t10 z5
    refine ⟨by show 2 ≤ sizeLine; decide, fun l6 hl6 => ?_⟩
    have t11 : Same J10 (upd J10 l6 (.lst [.str "base 2", .str "ab + c = d"])) := Same.new hl6
    have z6 : (upd J10 l6 (.lst [.str "base 2", .str "ab + c = d"])) l6 = some (.lst ((("base 2" : Str) :: (["ab + c = d"] : List Str)).map V.str)) := upd_same
    generalize upd J10 l6 (.lst [.str "base 2", .str "ab + c = d"]) = J11 at t11 z6
    refine ⟨by show 2 ≤ sizeLine; decide, fun nl2 hnl2 => ⟨_, _, _, _, rfl, rfl, ((t10.trans t11).trans (Same.new hnl2)) _ _ w1, upd_same, by show 4 + 2 ≤ sizeLine; decide, fun nl3 hnl3 => ?_⟩⟩
    have t12 : Same J11 (upd (upd J11 nl2 (.lst [.ref l5, .ref l6])) nl3 (.lst ([.ref l1, .ref l2, .ref l3, .ref l4] ++ [.ref l5, .ref l6]))) := (Same.new hnl2).trans (Same.new hnl3)
    have w2 : (upd (upd J11 nl2 (.lst [.ref l5, .ref l6])) nl3 (.lst ([.ref l1, .ref l2, .ref l3, .ref l4] ++ [.ref l5, .ref l6]))) nl3 = some (.lst (([l1, l2, l3, l4, l5, l6] : List Addr).map V.ref)) := upd_same
    generalize upd (upd J11 nl2 (.lst [.ref l5, .ref l6])) nl3 (.lst ([.ref l1, .ref l2, .ref l3, .ref l4] ++ [.ref l5, .ref l6])) = J12 at t12 w2
    have t13 := ((t9.trans t10).trans t11).trans t12
    have D14 := D13.same (t18.trans t13)
    have ez : ([l1, l2, l3, l4, l5, l6] : List Addr).length = 6 := rfl
    refine ⟨_, rfl, _, rfl, _, rfl, nl3, _, rfl, .inl (SqL.of w2), d, a, ns, _, rfl, D14, by rw [List.length_map, ez]; decide, by rw [List.length_map, ez]; decide, fun v H15 v0 v1 D15 b15 e15 => ?_⟩
    rw [List.length_map, ez] at v1
    have pick : ∀ i : Nat, i < 6 → ∃ (l : Addr) (p0 : Str) (ps : List Str) (why : Str), ([l1, l2, l3, l4, l5, l6] : List Addr)[i]? = some l ∧ J12 l = some (.lst ((p0 :: ps).map V.str)) ∧ ps.length ≤ 9 ∧ (∀ r ∈ p0 :: ps, rowFit r) ∧ goodRows p0 ps 0 why := by
      have z1 := t13 _ _ z1
      have z2 := t13 _ _ z2
      have z3 := t13 _ _ z3
      have z4 := t13 _ _ z4
      have z5 := (t11.trans t12) _ _ z5
      have z6 := t12 _ _ z6
      intro i hi
      rcases i with _ | _ | _ | _ | _ | _ | i
      · exact ⟨l1, _, _, _, rfl, z1, by omega, fun r hr => (List.mem_cons.mp hr).elim (fun e => e ▸ fit1) (hsf r), none1 V'⟩
      · exact ⟨l2, _, _, _, rfl, z2, by omega, fun r hr => (List.mem_cons.mp hr).elim (fun e => e ▸ fit13) (hsf r), none2 V'⟩
      · exact ⟨l3, _, _, _, rfl, z3, by decide, fun r hr => (List.mem_cons.mp hr).elim (fun e => e ▸ fitH) (fun h => by cases h), none3 V'⟩
      · refine ⟨l4, _, _, _, rfl, z4, by decide, fun r hr => (List.mem_cons.mp hr).elim (fun e => e ▸ fitH) (fun h => ?_), none4 V'⟩
        have : r = "a = a" := by simpa using h
        rw [this]; exact fitA
      · refine ⟨l5, _, _, _, rfl, z5, by decide, fun r hr => (List.mem_cons.mp hr).elim (fun e => e ▸ fitH) (fun h => ?_), none5 V'⟩
        have : r = "a + a + a + a + a = b" := by simpa using h
        rw [this]; exact fitB
      · refine ⟨l6, _, _, _, rfl, z6, by decide, fun r hr => (List.mem_cons.mp hr).elim (fun e => e ▸ fitC.1) (fun h => ?_), none6⟩
        have : r = "ab + c = d" := by simpa using h
        rw [this]; exact fitC.2
      · omega
    obtain ⟨j, rfl⟩ : ∃ j : Nat, v = (j : Int) := ⟨v.toNat, by omega⟩
    obtain ⟨l, p0, ps, why, hli, hlj, hps, hpf, hgood⟩ := pick j (by omega)
    refine ⟨nl3, _, _, .ref l, rfl, rfl, SqL.of (b15 _ _ (refs_off D14 w2) w2), at_of (j := j) rfl (by rw [List.getElem?_map, hli] <;> rfl), ?_⟩
    exact ⟨l, p0, ps, "sheet", 0, rfl, b15 _ _ (strs_off D14 hlj) hlj, hps, hpf, .inr ⟨rfl, 0, why, hgood⟩, fun H16 _ => k H16⟩
end
end WS
set_option maxRecDepth 100000
set_option maxHeartbeats 8000000
namespace WS
open PySem L2
theorem all_mk {l : PySem.W.OpenLaw} {w : World} {K : PySem.W.Frag} {h : Heap} {mg : Str → Option Value} {fa C_Sheet C_BadSheet C_NoAnswer C_ManyAnswers C_NotOne C_BadText C_SumError : Addr} (X : K.In h) (G : h.Ns mainGlobals mg) (hfa : mg "law" = some (.ref fa))
    {f_check_counts : Addr} {od_check_counts an_check_counts : Option Addr} {sl_check_counts : Array (Option Value)} {oc_check_counts kV_check_counts dc_check_counts pm_check_counts cd_check_counts ct_check_counts : Value}
    {f_check_sums : Addr} {od_check_sums an_check_sums : Option Addr} {sl_check_sums : Array (Option Value)} {oc_check_sums kV_check_sums dc_check_sums pm_check_sums cd_check_sums ct_check_sums : Value}
    {f_is_word : Addr} {od_is_word an_is_word : Option Addr} {sl_is_word : Array (Option Value)} {oc_is_word kV_is_word dc_is_word pm_is_word cd_is_word ct_is_word : Value}
    {f_sum_row : Addr} {od_sum_row an_sum_row : Option Addr} {sl_sum_row : Array (Option Value)} {oc_sum_row kV_sum_row dc_sum_row pm_sum_row cd_sum_row ct_sum_row : Value}
    {f_read : Addr} {od_read an_read : Option Addr} {sl_read : Array (Option Value)} {oc_read kV_read dc_read pm_read cd_read ct_read : Value}
    {f_is_base_row : Addr} {od_is_base_row an_is_base_row : Option Addr} {sl_is_base_row : Array (Option Value)} {oc_is_base_row kV_is_base_row dc_is_base_row pm_is_base_row cd_is_base_row ct_is_base_row : Value}
    {f_words_of : Addr} {od_words_of an_words_of : Option Addr} {sl_words_of : Array (Option Value)} {oc_words_of kV_words_of dc_words_of pm_words_of cd_words_of ct_words_of : Value}
    {f__law_dice : Addr} {od__law_dice an__law_dice : Option Addr} {sl__law_dice : Array (Option Value)} {oc__law_dice kV__law_dice dc__law_dice pm__law_dice cd__law_dice ct__law_dice : Value}
    {f__law_next : Addr} {od__law_next an__law_next : Option Addr} {sl__law_next : Array (Option Value)} {oc__law_next kV__law_next dc__law_next pm__law_next cd__law_next ct__law_next : Value}
    {f__law_whole : Addr} {od__law_whole an__law_whole : Option Addr} {sl__law_whole : Array (Option Value)} {oc__law_whole kV__law_whole dc__law_whole pm__law_whole cd__law_whole ct__law_whole : Value}
    {f__law_word : Addr} {od__law_word an__law_word : Option Addr} {sl__law_word : Array (Option Value)} {oc__law_word kV__law_word dc__law_word pm__law_word cd__law_word ct__law_word : Value}
    {f__law_names : Addr} {od__law_names an__law_names : Option Addr} {sl__law_names : Array (Option Value)} {oc__law_names kV__law_names dc__law_names pm__law_names cd__law_names ct__law_names : Value}
    {f__law_sum : Addr} {od__law_sum an__law_sum : Option Addr} {sl__law_sum : Array (Option Value)} {oc__law_sum kV__law_sum dc__law_sum pm__law_sum cd__law_sum ct__law_sum : Value}
    {f__law_sheet : Addr} {od__law_sheet an__law_sheet : Option Addr} {sl__law_sheet : Array (Option Value)} {oc__law_sheet kV__law_sheet dc__law_sheet pm__law_sheet cd__law_sheet ct__law_sheet : Value}
    {f__law_is : Addr} {od__law_is an__law_is : Option Addr} {sl__law_is : Array (Option Value)} {oc__law_is kV__law_is dc__law_is pm__law_is cd__law_is ct__law_is : Value}
    {f__law_bad : Addr} {od__law_bad an__law_bad : Option Addr} {sl__law_bad : Array (Option Value)} {oc__law_bad kV__law_bad dc__law_bad pm__law_bad cd__law_bad ct__law_bad : Value}
    {f__law_refused : Addr} {od__law_refused an__law_refused : Option Addr} {sl__law_refused : Array (Option Value)} {oc__law_refused kV__law_refused dc__law_refused pm__law_refused cd__law_refused ct__law_refused : Value}
    {f_law : Addr} {od_law an_law : Option Addr} {sl_law : Array (Option Value)} {oc_law kV_law dc_law pm_law cd_law ct_law : Value}
    {f_BadSheet_init : Addr} {od_BadSheet_init an_BadSheet_init : Option Addr} {sl_BadSheet_init : Array (Option Value)} {oc_BadSheet_init kV_BadSheet_init dc_BadSheet_init pm_BadSheet_init cd_BadSheet_init ct_BadSheet_init : Value}
    {f_BadText_init : Addr} {od_BadText_init an_BadText_init : Option Addr} {sl_BadText_init : Array (Option Value)} {oc_BadText_init kV_BadText_init dc_BadText_init pm_BadText_init cd_BadText_init ct_BadText_init : Value}
    {f_Sheet_init : Addr} {od_Sheet_init an_Sheet_init : Option Addr} {sl_Sheet_init : Array (Option Value)} {oc_Sheet_init kV_Sheet_init dc_Sheet_init pm_Sheet_init cd_Sheet_init ct_Sheet_init : Value}
    {t_LEAST_BASE : Tok}
    {t_MOST_BASE : Tok}
    {t_MOST_SUMS : Tok}
    {t_MOST_ADDENDS : Tok}
    {t_MOST_IN_WORD : Tok}
    {t_MOST_LETTERS : Tok}
    {t_SMALL_LETTERS : Tok}
    {t_AHEAD_OF_BASE : Tok}
    {t_FIGURES : Tok}
    (a_Sheet : PySem.W.nsIn K mainGlobals "Sheet" = some (some (.ref C_Sheet)))
    (a_check_counts : PySem.W.nsIn K mainGlobals "check_counts" = some (some (.ref f_check_counts))) (l_check_counts : K.lookup f_check_counts = some ⟨oc_check_counts, od_check_counts, .func (PySem.W.fnOf "check_counts" "check_counts" (defArgs sCounts) (defBody sCounts) (defScope sCounts) .none kV_check_counts dc_check_counts pm_check_counts an_check_counts cd_check_counts ct_check_counts), sl_check_counts⟩) (c_check_counts : PySem.W.codeIn K cd_check_counts "check_counts" = true) (k_check_counts : PySem.W.keepIn K (.ref f_check_counts) = true)
    (a_check_sums : PySem.W.nsIn K mainGlobals "check_sums" = some (some (.ref f_check_sums))) (l_check_sums : K.lookup f_check_sums = some ⟨oc_check_sums, od_check_sums, .func (PySem.W.fnOf "check_sums" "check_sums" (defArgs sCheck) (defBody sCheck) (defScope sCheck) .none kV_check_sums dc_check_sums pm_check_sums an_check_sums cd_check_sums ct_check_sums), sl_check_sums⟩) (c_check_sums : PySem.W.codeIn K cd_check_sums "check_sums" = true) (k_check_sums : PySem.W.keepIn K (.ref f_check_sums) = true)
    (a_is_word : PySem.W.nsIn K mainGlobals "is_word" = some (some (.ref f_is_word))) (l_is_word : K.lookup f_is_word = some ⟨oc_is_word, od_is_word, .func (PySem.W.fnOf "is_word" "is_word" (defArgs sIsWord) (defBody sIsWord) (defScope sIsWord) .none kV_is_word dc_is_word pm_is_word an_is_word cd_is_word ct_is_word), sl_is_word⟩) (c_is_word : PySem.W.codeIn K cd_is_word "is_word" = true) (k_is_word : PySem.W.keepIn K (.ref f_is_word) = true)
    (a_sum_row : PySem.W.nsIn K mainGlobals "sum_row" = some (some (.ref f_sum_row))) (l_sum_row : K.lookup f_sum_row = some ⟨oc_sum_row, od_sum_row, .func (PySem.W.fnOf "sum_row" "sum_row" (defArgs sSumRow) (defBody sSumRow) (defScope sSumRow) .none kV_sum_row dc_sum_row pm_sum_row an_sum_row cd_sum_row ct_sum_row), sl_sum_row⟩) (c_sum_row : PySem.W.codeIn K cd_sum_row "sum_row" = true) (k_sum_row : PySem.W.keepIn K (.ref f_sum_row) = true)
    (a_read : PySem.W.nsIn K mainGlobals "read" = some (some (.ref f_read))) (l_read : K.lookup f_read = some ⟨oc_read, od_read, .func (PySem.W.fnOf "read" "read" (defArgs sRead) (defBody sRead) (defScope sRead) .none kV_read dc_read pm_read an_read cd_read ct_read), sl_read⟩) (c_read : PySem.W.codeIn K cd_read "read" = true) (k_read : PySem.W.keepIn K (.ref f_read) = true)
    (a_is_base_row : PySem.W.nsIn K mainGlobals "is_base_row" = some (some (.ref f_is_base_row))) (l_is_base_row : K.lookup f_is_base_row = some ⟨oc_is_base_row, od_is_base_row, .func (PySem.W.fnOf "is_base_row" "is_base_row" (defArgs sIsBaseRow) (defBody sIsBaseRow) (defScope sIsBaseRow) .none kV_is_base_row dc_is_base_row pm_is_base_row an_is_base_row cd_is_base_row ct_is_base_row), sl_is_base_row⟩) (c_is_base_row : PySem.W.codeIn K cd_is_base_row "is_base_row" = true) (k_is_base_row : PySem.W.keepIn K (.ref f_is_base_row) = true)
    (a_words_of : PySem.W.nsIn K mainGlobals "words_of" = some (some (.ref f_words_of))) (l_words_of : K.lookup f_words_of = some ⟨oc_words_of, od_words_of, .func (PySem.W.fnOf "words_of" "words_of" (defArgs sWordsOf) (defBody sWordsOf) (defScope sWordsOf) .none kV_words_of dc_words_of pm_words_of an_words_of cd_words_of ct_words_of), sl_words_of⟩) (c_words_of : PySem.W.codeIn K cd_words_of "words_of" = true) (k_words_of : PySem.W.keepIn K (.ref f_words_of) = true)
    (a__law_dice : PySem.W.nsIn K mainGlobals "_law_dice" = some (some (.ref f__law_dice))) (l__law_dice : K.lookup f__law_dice = some ⟨oc__law_dice, od__law_dice, .func (PySem.W.fnOf "_law_dice" "_law_dice" (defArgs sDice) (defBody sDice) (defScope sDice) .none kV__law_dice dc__law_dice pm__law_dice an__law_dice cd__law_dice ct__law_dice), sl__law_dice⟩) (c__law_dice : PySem.W.codeIn K cd__law_dice "_law_dice" = true) (k__law_dice : PySem.W.keepIn K (.ref f__law_dice) = true)
    (a__law_next : PySem.W.nsIn K mainGlobals "_law_next" = some (some (.ref f__law_next))) (l__law_next : K.lookup f__law_next = some ⟨oc__law_next, od__law_next, .func (PySem.W.fnOf "_law_next" "_law_next" (defArgs sNext) (defBody sNext) (defScope sNext) .none kV__law_next dc__law_next pm__law_next an__law_next cd__law_next ct__law_next), sl__law_next⟩) (c__law_next : PySem.W.codeIn K cd__law_next "_law_next" = true) (k__law_next : PySem.W.keepIn K (.ref f__law_next) = true)
    (a__law_whole : PySem.W.nsIn K mainGlobals "_law_whole" = some (some (.ref f__law_whole))) (l__law_whole : K.lookup f__law_whole = some ⟨oc__law_whole, od__law_whole, .func (PySem.W.fnOf "_law_whole" "_law_whole" (defArgs sWhole) (defBody sWhole) (defScope sWhole) .none kV__law_whole dc__law_whole pm__law_whole an__law_whole cd__law_whole ct__law_whole), sl__law_whole⟩) (c__law_whole : PySem.W.codeIn K cd__law_whole "_law_whole" = true) (k__law_whole : PySem.W.keepIn K (.ref f__law_whole) = true)
    (a__law_word : PySem.W.nsIn K mainGlobals "_law_word" = some (some (.ref f__law_word))) (l__law_word : K.lookup f__law_word = some ⟨oc__law_word, od__law_word, .func (PySem.W.fnOf "_law_word" "_law_word" (defArgs sWord) (defBody sWord) (defScope sWord) .none kV__law_word dc__law_word pm__law_word an__law_word cd__law_word ct__law_word), sl__law_word⟩) (c__law_word : PySem.W.codeIn K cd__law_word "_law_word" = true) (k__law_word : PySem.W.keepIn K (.ref f__law_word) = true)
    (a__law_names : PySem.W.nsIn K mainGlobals "_law_names" = some (some (.ref f__law_names))) (l__law_names : K.lookup f__law_names = some ⟨oc__law_names, od__law_names, .func (PySem.W.fnOf "_law_names" "_law_names" (defArgs sNames) (defBody sNames) (defScope sNames) .none kV__law_names dc__law_names pm__law_names an__law_names cd__law_names ct__law_names), sl__law_names⟩) (c__law_names : PySem.W.codeIn K cd__law_names "_law_names" = true) (k__law_names : PySem.W.keepIn K (.ref f__law_names) = true)
    (a__law_sum : PySem.W.nsIn K mainGlobals "_law_sum" = some (some (.ref f__law_sum))) (l__law_sum : K.lookup f__law_sum = some ⟨oc__law_sum, od__law_sum, .func (PySem.W.fnOf "_law_sum" "_law_sum" (defArgs sSum) (defBody sSum) (defScope sSum) .none kV__law_sum dc__law_sum pm__law_sum an__law_sum cd__law_sum ct__law_sum), sl__law_sum⟩) (c__law_sum : PySem.W.codeIn K cd__law_sum "_law_sum" = true) (k__law_sum : PySem.W.keepIn K (.ref f__law_sum) = true)
    (a__law_sheet : PySem.W.nsIn K mainGlobals "_law_sheet" = some (some (.ref f__law_sheet))) (l__law_sheet : K.lookup f__law_sheet = some ⟨oc__law_sheet, od__law_sheet, .func (PySem.W.fnOf "_law_sheet" "_law_sheet" (defArgs sSheet) (defBody sSheet) (defScope sSheet) .none kV__law_sheet dc__law_sheet pm__law_sheet an__law_sheet cd__law_sheet ct__law_sheet), sl__law_sheet⟩) (c__law_sheet : PySem.W.codeIn K cd__law_sheet "_law_sheet" = true) (k__law_sheet : PySem.W.keepIn K (.ref f__law_sheet) = true)
    (a__law_is : PySem.W.nsIn K mainGlobals "_law_is" = some (some (.ref f__law_is))) (l__law_is : K.lookup f__law_is = some ⟨oc__law_is, od__law_is, .func (PySem.W.fnOf "_law_is" "_law_is" (defArgs sLIs) (defBody sLIs) (defScope sLIs) .none kV__law_is dc__law_is pm__law_is an__law_is cd__law_is ct__law_is), sl__law_is⟩) (c__law_is : PySem.W.codeIn K cd__law_is "_law_is" = true) (k__law_is : PySem.W.keepIn K (.ref f__law_is) = true)
    (a__law_bad : PySem.W.nsIn K mainGlobals "_law_bad" = some (some (.ref f__law_bad))) (l__law_bad : K.lookup f__law_bad = some ⟨oc__law_bad, od__law_bad, .func (PySem.W.fnOf "_law_bad" "_law_bad" (defArgs sLBad) (defBody sLBad) (defScope sLBad) .none kV__law_bad dc__law_bad pm__law_bad an__law_bad cd__law_bad ct__law_bad), sl__law_bad⟩) (c__law_bad : PySem.W.codeIn K cd__law_bad "_law_bad" = true) (k__law_bad : PySem.W.keepIn K (.ref f__law_bad) = true)
    (a__law_refused : PySem.W.nsIn K mainGlobals "_law_refused" = some (some (.ref f__law_refused))) (l__law_refused : K.lookup f__law_refused = some ⟨oc__law_refused, od__law_refused, .func (PySem.W.fnOf "_law_refused" "_law_refused" (defArgs sLRefused) (defBody sLRefused) (defScope sLRefused) .none kV__law_refused dc__law_refused pm__law_refused an__law_refused cd__law_refused ct__law_refused), sl__law_refused⟩) (c__law_refused : PySem.W.codeIn K cd__law_refused "_law_refused" = true) (k__law_refused : PySem.W.keepIn K (.ref f__law_refused) = true)
    (a_law : PySem.W.nsIn K mainGlobals "law" = some (some (.ref f_law))) (l_law : K.lookup f_law = some ⟨oc_law, od_law, .func (PySem.W.fnOf "law" "law" (defArgs sLaw) (defBody sLaw) (defScope sLaw) .none kV_law dc_law pm_law an_law cd_law ct_law), sl_law⟩) (c_law : PySem.W.codeIn K cd_law "law" = true) (k_law : PySem.W.keepIn K (.ref f_law) = true)
    (a_BadSheet_init : PySem.W.findIn K (.ref C_BadSheet) "__init__" = some (some (.ref f_BadSheet_init))) (i_BadSheet_init : PySem.W.isFn K (.ref f_BadSheet_init) = true) (l_BadSheet_init : K.lookup f_BadSheet_init = some ⟨oc_BadSheet_init, od_BadSheet_init, .func (PySem.W.fnOf "__init__" "BadSheet.__init__" (defArgs sBsInit) (defBody sBsInit) (defScope sBsInit) .none kV_BadSheet_init dc_BadSheet_init pm_BadSheet_init an_BadSheet_init cd_BadSheet_init ct_BadSheet_init), sl_BadSheet_init⟩) (c_BadSheet_init : PySem.W.codeIn K cd_BadSheet_init "BadSheet.__init__" = true) (k_BadSheet_init : PySem.W.keepIn K (.ref f_BadSheet_init) = true)
    (a_BadText_init : PySem.W.findIn K (.ref C_BadText) "__init__" = some (some (.ref f_BadText_init))) (i_BadText_init : PySem.W.isFn K (.ref f_BadText_init) = true) (l_BadText_init : K.lookup f_BadText_init = some ⟨oc_BadText_init, od_BadText_init, .func (PySem.W.fnOf "__init__" "BadText.__init__" (defArgs sBtInit) (defBody sBtInit) (defScope sBtInit) .none kV_BadText_init dc_BadText_init pm_BadText_init an_BadText_init cd_BadText_init ct_BadText_init), sl_BadText_init⟩) (c_BadText_init : PySem.W.codeIn K cd_BadText_init "BadText.__init__" = true) (k_BadText_init : PySem.W.keepIn K (.ref f_BadText_init) = true)
    (a_Sheet_init : PySem.W.findIn K (.ref C_Sheet) "__init__" = some (some (.ref f_Sheet_init))) (i_Sheet_init : PySem.W.isFn K (.ref f_Sheet_init) = true) (l_Sheet_init : K.lookup f_Sheet_init = some ⟨oc_Sheet_init, od_Sheet_init, .func (PySem.W.fnOf "__init__" "Sheet.__init__" (defArgs sShInit) (defBody sShInit) (defScope sShInit) .none kV_Sheet_init dc_Sheet_init pm_Sheet_init an_Sheet_init cd_Sheet_init ct_Sheet_init), sl_Sheet_init⟩) (c_Sheet_init : PySem.W.codeIn K cd_Sheet_init "Sheet.__init__" = true) (k_Sheet_init : PySem.W.keepIn K (.ref f_Sheet_init) = true)
    (pg_Sheet : PySem.W.plainGet K C_Sheet Str.empty = true) (hd_Sheet : PySem.W.hasDictIn K C_Sheet = true) (po_Sheet : PySem.W.plainOver K C_Sheet = true) (sa_Sheet : PySem.W.findIn K (.ref C_Sheet) "__setattr__" = some (some (.builtin "object.__setattr__")))
    (mk_Sheet : PySem.W.makesIn K C_Sheet = true) (kc_Sheet : PySem.W.keepIn K (.ref C_Sheet) = true)
    (n_Sheet_base : PySem.W.findIn K (.ref C_Sheet) "base" = some none)
    (n_Sheet_kept : PySem.W.findIn K (.ref C_Sheet) "kept" = some none)
    (y_ValueError : PySem.W.nsIn K mainGlobals "ValueError" = some none)
    (y_all : PySem.W.nsIn K mainGlobals "all" = some none)
    (y_bool : PySem.W.nsIn K mainGlobals "bool" = some none)
    (y_enumerate : PySem.W.nsIn K mainGlobals "enumerate" = some none)
    (y_int : PySem.W.nsIn K mainGlobals "int" = some none)
    (y_isinstance : PySem.W.nsIn K mainGlobals "isinstance" = some none)
    (y_len : PySem.W.nsIn K mainGlobals "len" = some none)
    (y_list : PySem.W.nsIn K mainGlobals "list" = some none)
    (y_min : PySem.W.nsIn K mainGlobals "min" = some none)
    (y_range : PySem.W.nsIn K mainGlobals "range" = some none)
    (y_set : PySem.W.nsIn K mainGlobals "set" = some none)
    (y_str : PySem.W.nsIn K mainGlobals "str" = some none)
    (y_sum : PySem.W.nsIn K mainGlobals "sum" = some none)
    (y_tuple : PySem.W.nsIn K mainGlobals "tuple" = some none)
    (x_LEAST_BASE : PySem.W.nsIn K mainGlobals "LEAST_BASE" = some (some (.int 2 t_LEAST_BASE)))
    (x_MOST_BASE : PySem.W.nsIn K mainGlobals "MOST_BASE" = some (some (.int 12 t_MOST_BASE)))
    (x_MOST_SUMS : PySem.W.nsIn K mainGlobals "MOST_SUMS" = some (some (.int 3 t_MOST_SUMS)))
    (x_MOST_ADDENDS : PySem.W.nsIn K mainGlobals "MOST_ADDENDS" = some (some (.int 4 t_MOST_ADDENDS)))
    (x_MOST_IN_WORD : PySem.W.nsIn K mainGlobals "MOST_IN_WORD" = some (some (.int 6 t_MOST_IN_WORD)))
    (x_MOST_LETTERS : PySem.W.nsIn K mainGlobals "MOST_LETTERS" = some (some (.int 8 t_MOST_LETTERS)))
    (x_SMALL_LETTERS : PySem.W.nsIn K mainGlobals "SMALL_LETTERS" = some (some (.str abc t_SMALL_LETTERS)))
    (x_AHEAD_OF_BASE : PySem.W.nsIn K mainGlobals "AHEAD_OF_BASE" = some (some (.str aheadT t_AHEAD_OF_BASE)))
    (x_FIGURES : PySem.W.nsIn K mainGlobals "FIGURES" = some (some (.str figT t_FIGURES)))
    {nmX0 qX0 : Str} {NX0 : Addr} {bsX0 bmX0 : List Value} {snX0 : List Str} {subX0 : List Value} {abX0 : Bool} {colX0 : Option Bool} {ddX0 : Option Addr} {k0X0 k1X0 k2X0 k3X0 k5X0 : Option Value} {nmX1 qX1 : Str} {NX1 : Addr} {bsX1 bmX1 : List Value} {snX1 : List Str} {subX1 : List Value} {abX1 : Bool} {colX1 : Option Bool} {ddX1 : Option Addr} {k0X1 k1X1 k2X1 k3X1 k5X1 : Option Value} 
    (a_BadSheet : PySem.W.nsIn K mainGlobals "BadSheet" = some (some (.ref C_BadSheet)))
    (a_NoAnswer : PySem.W.nsIn K mainGlobals "NoAnswer" = some (some (.ref C_NoAnswer)))
    (a_ManyAnswers : PySem.W.nsIn K mainGlobals "ManyAnswers" = some (some (.ref C_ManyAnswers)))
    (a_NotOne : PySem.W.nsIn K mainGlobals "NotOne" = some (some (.ref C_NotOne)))
    (a_BadText : PySem.W.nsIn K mainGlobals "BadText" = some (some (.ref C_BadText)))
    (a_SumError : PySem.W.nsIn K mainGlobals "SumError" = some (some (.ref C_SumError)))
    (sb_SumError : PySem.W.subIn K (.ref C_SumError) (.type "BaseException") = some true)
    (hd_SumError : PySem.W.hasDictIn K C_SumError = true)
    (ty_SumError : PySem.W.typeIn K (.ref C_SumError) = some (.type "type"))
    (rd_SumError : PySem.W.readsIn K C_SumError (.type "type") = true)
    (ga_SumError : PySem.W.specialIn K (.ref C_SumError) "__getattribute__" = some (some (.builtin "type.__getattribute__")))
    (it_SumError : PySem.W.findCls K (.ref C_SumError) (.type "type") "__init__" = some (.val (.builtin "ValueError.__init__")))
    (hn_any : PySem.W.specialIn K (.builtin "object.__class__") "__get__" = some (some (.builtin "getset_descriptor.__get__")))
    (ht_any : PySem.W.takesIn K (.builtin "object.__class__") = some true)
    (cl_BadSheet : K.lookup C_BadSheet = some (excClassObj nmX0 qX0 C_BadSheet NX0 bsX0 bmX0 true snX0 subX0 abX0 colX0 ddX0 k0X0 k1X0 k2X0 k3X0 k5X0 "ValueError.__new__"))
    (rv_BadSheet : PySem.HandSPX.refsVE bmX0 = true)
    (st_BadSheet : PySem.W.findIn K (.ref C_BadSheet) "__setattr__" = some (some (.builtin "object.__setattr__")))
    (kp_BadSheet : PySem.W.keepIn K (.ref C_BadSheet) = true)
    (sb_BadSheet : PySem.W.subIn K (.ref C_BadSheet) (.type "BaseException") = some true)
    (ty_BadSheet : PySem.W.typeIn K (.ref C_BadSheet) = some (.type "type"))
    (tf_BadSheet : PySem.W.typeIn K (.ref f_BadSheet_init) = some (.type "function"))
    (n_BadSheet_at : PySem.W.findIn K (.ref C_BadSheet) "at" = some none)
    (n_BadSheet_why : PySem.W.findIn K (.ref C_BadSheet) "why" = some none)
    (sn_BadSheet : PySem.W.subIn K (.ref C_BadSheet) (.ref C_SumError) = some true)
    (hg_BadSheet : PySem.W.findIn K (.ref C_BadSheet) "__getattribute__" = some (some (.builtin "BaseException.__getattribute__")))
    (hk_BadSheet : PySem.W.findIn K (.ref C_BadSheet) "__getattr__" = some none)
    (hd_BadSheet : PySem.W.hasDictIn K C_BadSheet = true)
    (ha_BadSheet : PySem.W.findIn K (.ref C_BadSheet) "__class__" = some (some (.builtin "object.__class__")))
    (hm_BadSheet : PySem.W.mroIn K C_BadSheet (.type "object") = some true)
    (ki_BadSheet_BadSheet : PySem.W.kitOne K (.ref C_BadSheet) (.ref C_BadSheet) = some true)
    (ki_BadSheet_NoAnswer : PySem.W.kitOne K (.ref C_BadSheet) (.ref C_NoAnswer) = some false)
    (ki_BadSheet_ManyAnswers : PySem.W.kitOne K (.ref C_BadSheet) (.ref C_ManyAnswers) = some false)
    (ki_BadSheet_NotOne : PySem.W.kitOne K (.ref C_BadSheet) (.ref C_NotOne) = some false)
    (ki_BadSheet_BadText : PySem.W.kitOne K (.ref C_BadSheet) (.ref C_BadText) = some false)
    (ki_BadSheet_ValueError : PySem.W.kitOne K (.ref C_BadSheet) (.type "ValueError") = some true)
    (cl_BadText : K.lookup C_BadText = some (excClassObj nmX1 qX1 C_BadText NX1 bsX1 bmX1 true snX1 subX1 abX1 colX1 ddX1 k0X1 k1X1 k2X1 k3X1 k5X1 "ValueError.__new__"))
    (rv_BadText : PySem.HandSPX.refsVE bmX1 = true)
    (st_BadText : PySem.W.findIn K (.ref C_BadText) "__setattr__" = some (some (.builtin "object.__setattr__")))
    (kp_BadText : PySem.W.keepIn K (.ref C_BadText) = true)
    (sb_BadText : PySem.W.subIn K (.ref C_BadText) (.type "BaseException") = some true)
    (ty_BadText : PySem.W.typeIn K (.ref C_BadText) = some (.type "type"))
    (tf_BadText : PySem.W.typeIn K (.ref f_BadText_init) = some (.type "function"))
    (n_BadText_row : PySem.W.findIn K (.ref C_BadText) "row" = some none)
    (sn_BadText : PySem.W.subIn K (.ref C_BadText) (.ref C_SumError) = some true)
    (hg_BadText : PySem.W.findIn K (.ref C_BadText) "__getattribute__" = some (some (.builtin "BaseException.__getattribute__")))
    (hk_BadText : PySem.W.findIn K (.ref C_BadText) "__getattr__" = some none)
    (hd_BadText : PySem.W.hasDictIn K C_BadText = true)
    (ha_BadText : PySem.W.findIn K (.ref C_BadText) "__class__" = some (some (.builtin "object.__class__")))
    (hm_BadText : PySem.W.mroIn K C_BadText (.type "object") = some true)
    (ki_BadText_BadSheet : PySem.W.kitOne K (.ref C_BadText) (.ref C_BadSheet) = some false)
    (ki_BadText_NoAnswer : PySem.W.kitOne K (.ref C_BadText) (.ref C_NoAnswer) = some false)
    (ki_BadText_ManyAnswers : PySem.W.kitOne K (.ref C_BadText) (.ref C_ManyAnswers) = some false)
    (ki_BadText_NotOne : PySem.W.kitOne K (.ref C_BadText) (.ref C_NotOne) = some false)
    (ki_BadText_BadText : PySem.W.kitOne K (.ref C_BadText) (.ref C_BadText) = some true)
    (ki_BadText_ValueError : PySem.W.kitOne K (.ref C_BadText) (.type "ValueError") = some true)
    : ∃ fd : FuncData, (∀ (s : Shared) (v : Value), BindsTo s fd ⟨[v], []⟩ [("_law_script", v)]) ∧ ∀ base : Heap, K.In base → base.Ns mainGlobals mg → FnOk l.prog w K mg base CX0 8 fa fd ["_law_script"] (spLaw K) := by
  have e := hfa.symm.trans (PySem.W.mg_of X G a_law)
  cases e
  have T_Sheet : SheetTxt K mg C_Sheet := ⟨⟨pg_Sheet, hd_Sheet, po_Sheet, sa_Sheet⟩, n_Sheet_base, n_Sheet_kept, PySem.W.mg_of X G a_Sheet⟩
  have F_check_counts := fun_mk (st := sCounts) l_check_counts c_check_counts k_check_counts
  have b_check_counts := F_check_counts.binds (ps := ["base", "sums"]) fun _ _ _ _ _ _ us hl => match us, hl with | [_, _], _ => rfl
  have S_check_counts : Site K mg "check_counts" f_check_counts _ ["base", "sums"] := ⟨PySem.W.mg_of X G a_check_counts, k_check_counts, b_check_counts⟩
  have F_check_sums := fun_mk (st := sCheck) l_check_sums c_check_sums k_check_sums
  have b_check_sums := F_check_sums.binds (ps := ["base", "sums"]) fun _ _ _ _ _ _ us hl => match us, hl with | [_, _], _ => rfl
  have S_check_sums : Site K mg "check_sums" f_check_sums _ ["base", "sums"] := ⟨PySem.W.mg_of X G a_check_sums, k_check_sums, b_check_sums⟩
  have F_is_word := fun_mk (st := sIsWord) l_is_word c_is_word k_is_word
  have b_is_word := F_is_word.binds (ps := ["text"]) fun _ _ _ _ _ _ us hl => match us, hl with | [_], _ => rfl
  have S_is_word : Site K mg "is_word" f_is_word _ ["text"] := ⟨PySem.W.mg_of X G a_is_word, k_is_word, b_is_word⟩
  have F_sum_row := fun_mk (st := sSumRow) l_sum_row c_sum_row k_sum_row
  have b_sum_row := F_sum_row.binds (ps := ["addends", "total"]) fun _ _ _ _ _ _ us hl => match us, hl with | [_, _], _ => rfl
  have S_sum_row : Site K mg "sum_row" f_sum_row _ ["addends", "total"] := ⟨PySem.W.mg_of X G a_sum_row, k_sum_row, b_sum_row⟩
  have F_read := fun_mk (st := sRead) l_read c_read k_read
  have b_read := F_read.binds (ps := ["text"]) fun _ _ _ _ _ _ us hl => match us, hl with | [_], _ => rfl
  have S_read : Site K mg "read" f_read _ ["text"] := ⟨PySem.W.mg_of X G a_read, k_read, b_read⟩
  have F_is_base_row := fun_mk (st := sIsBaseRow) l_is_base_row c_is_base_row k_is_base_row
  have b_is_base_row := F_is_base_row.binds (ps := ["row"]) fun _ _ _ _ _ _ us hl => match us, hl with | [_], _ => rfl
  have S_is_base_row : Site K mg "is_base_row" f_is_base_row _ ["row"] := ⟨PySem.W.mg_of X G a_is_base_row, k_is_base_row, b_is_base_row⟩
  have F_words_of := fun_mk (st := sWordsOf) l_words_of c_words_of k_words_of
  have b_words_of := F_words_of.binds (ps := ["row"]) fun _ _ _ _ _ _ us hl => match us, hl with | [_], _ => rfl
  have S_words_of : Site K mg "words_of" f_words_of _ ["row"] := ⟨PySem.W.mg_of X G a_words_of, k_words_of, b_words_of⟩
  have F__law_dice := fun_mk (st := sDice) l__law_dice c__law_dice k__law_dice
  have b__law_dice := F__law_dice.binds (ps := ["_law_script"]) fun _ _ _ _ _ _ us hl => match us, hl with | [_], _ => rfl
  have S__law_dice : Site K mg "_law_dice" f__law_dice _ ["_law_script"] := ⟨PySem.W.mg_of X G a__law_dice, k__law_dice, b__law_dice⟩
  have F__law_next := fun_mk (st := sNext) l__law_next c__law_next k__law_next
  have b__law_next := F__law_next.binds (ps := ["_law_dice_here", "_law_many"]) fun _ _ _ _ _ _ us hl => match us, hl with | [_, _], _ => rfl
  have S__law_next : Site K mg "_law_next" f__law_next _ ["_law_dice_here", "_law_many"] := ⟨PySem.W.mg_of X G a__law_next, k__law_next, b__law_next⟩
  have F__law_whole := fun_mk (st := sWhole) l__law_whole c__law_whole k__law_whole
  have b__law_whole := F__law_whole.binds (ps := ["_law_found"]) fun _ _ _ _ _ _ us hl => match us, hl with | [_], _ => rfl
  have S__law_whole : Site K mg "_law_whole" f__law_whole _ ["_law_found"] := ⟨PySem.W.mg_of X G a__law_whole, k__law_whole, b__law_whole⟩
  have F__law_word := fun_mk (st := sWord) l__law_word c__law_word k__law_word
  have b__law_word := F__law_word.binds (ps := ["_law_number", "_law_base", "_law_names_here"]) fun _ _ _ _ _ _ us hl => match us, hl with | [_, _, _], _ => rfl
  have S__law_word : Site K mg "_law_word" f__law_word _ ["_law_number", "_law_base", "_law_names_here"] := ⟨PySem.W.mg_of X G a__law_word, k__law_word, b__law_word⟩
  have F__law_names := fun_mk (st := sNames) l__law_names c__law_names k__law_names
  have b__law_names := F__law_names.binds (ps := ["_law_d", "_law_base"]) fun _ _ _ _ _ _ us hl => match us, hl with | [_, _], _ => rfl
  have S__law_names : Site K mg "_law_names" f__law_names _ ["_law_d", "_law_base"] := ⟨PySem.W.mg_of X G a__law_names, k__law_names, b__law_names⟩
  have F__law_sum := fun_mk (st := sSum) l__law_sum c__law_sum k__law_sum
  have b__law_sum := F__law_sum.binds (ps := ["_law_d", "_law_base", "_law_names_here"]) fun _ _ _ _ _ _ us hl => match us, hl with | [_, _, _], _ => rfl
  have S__law_sum : Site K mg "_law_sum" f__law_sum _ ["_law_d", "_law_base", "_law_names_here"] := ⟨PySem.W.mg_of X G a__law_sum, k__law_sum, b__law_sum⟩
  have F__law_sheet := fun_mk (st := sSheet) l__law_sheet c__law_sheet k__law_sheet
  have b__law_sheet := F__law_sheet.binds (ps := ["_law_d"]) fun _ _ _ _ _ _ us hl => match us, hl with | [_], _ => rfl
  have S__law_sheet : Site K mg "_law_sheet" f__law_sheet _ ["_law_d"] := ⟨PySem.W.mg_of X G a__law_sheet, k__law_sheet, b__law_sheet⟩
  have F__law_is := fun_mk (st := sLIs) l__law_is c__law_is k__law_is
  have b__law_is := F__law_is.binds (ps := ["_law_e", "_law_word_here"]) fun _ _ _ _ _ _ us hl => match us, hl with | [_, _], _ => rfl
  have S__law_is : Site K mg "_law_is" f__law_is _ ["_law_e", "_law_word_here"] := ⟨PySem.W.mg_of X G a__law_is, k__law_is, b__law_is⟩
  have F__law_bad := fun_mk (st := sLBad) l__law_bad c__law_bad k__law_bad
  have b__law_bad := F__law_bad.binds (ps := ["_law_d", "_law_rows"]) fun _ _ _ _ _ _ us hl => match us, hl with | [_, _], _ => rfl
  have S__law_bad : Site K mg "_law_bad" f__law_bad _ ["_law_d", "_law_rows"] := ⟨PySem.W.mg_of X G a__law_bad, k__law_bad, b__law_bad⟩
  have F__law_refused := fun_mk (st := sLRefused) l__law_refused c__law_refused k__law_refused
  have b__law_refused := F__law_refused.binds (ps := ["_law_rows", "_law_word_here", "_law_at"]) fun _ _ _ _ _ _ us hl => match us, hl with | [_, _, _], _ => rfl
  have S__law_refused : Site K mg "_law_refused" f__law_refused _ ["_law_rows", "_law_word_here", "_law_at"] := ⟨PySem.W.mg_of X G a__law_refused, k__law_refused, b__law_refused⟩
  have F_law := fun_mk (st := sLaw) l_law c_law k_law
  have b_law := F_law.binds (ps := ["_law_script"]) fun _ _ _ _ _ _ us hl => match us, hl with | [_], _ => rfl
  have F_BadSheet_init := fun_mk (st := sBsInit) l_BadSheet_init c_BadSheet_init k_BadSheet_init
  have b_BadSheet_init := F_BadSheet_init.binds (ps := ["self", "at", "why"]) fun _ _ _ _ _ _ us hl => match us, hl with | [_, _, _], _ => rfl
  have F_BadText_init := fun_mk (st := sBtInit) l_BadText_init c_BadText_init k_BadText_init
  have b_BadText_init := F_BadText_init.binds (ps := ["self", "row"]) fun _ _ _ _ _ _ us hl => match us, hl with | [_, _], _ => rfl
  have F_Sheet_init := fun_mk (st := sShInit) l_Sheet_init c_Sheet_init k_Sheet_init
  have b_Sheet_init := F_Sheet_init.binds (ps := ["self", "base", "sums"]) fun _ _ _ _ _ _ us hl => match us, hl with | [_, _, _], _ => rfl
  have K_Sheet : Mk K C_Sheet f_Sheet_init := ⟨mk_Sheet, a_Sheet_init, i_Sheet_init, kc_Sheet⟩
  have z_ValueError := PySem.W.mg_none_of X G y_ValueError
  have z_all := PySem.W.mg_none_of X G y_all
  have z_bool := PySem.W.mg_none_of X G y_bool
  have z_enumerate := PySem.W.mg_none_of X G y_enumerate
  have z_int := PySem.W.mg_none_of X G y_int
  have z_isinstance := PySem.W.mg_none_of X G y_isinstance
  have z_len := PySem.W.mg_none_of X G y_len
  have z_list := PySem.W.mg_none_of X G y_list
  have z_min := PySem.W.mg_none_of X G y_min
  have z_range := PySem.W.mg_none_of X G y_range
  have z_set := PySem.W.mg_none_of X G y_set
  have z_str := PySem.W.mg_none_of X G y_str
  have z_sum := PySem.W.mg_none_of X G y_sum
  have z_tuple := PySem.W.mg_none_of X G y_tuple
  have m_LEAST_BASE := PySem.W.mg_of X G x_LEAST_BASE
  have m_MOST_BASE := PySem.W.mg_of X G x_MOST_BASE
  have m_MOST_SUMS := PySem.W.mg_of X G x_MOST_SUMS
  have m_MOST_ADDENDS := PySem.W.mg_of X G x_MOST_ADDENDS
  have m_MOST_IN_WORD := PySem.W.mg_of X G x_MOST_IN_WORD
  have m_MOST_LETTERS := PySem.W.mg_of X G x_MOST_LETTERS
  have m_SMALL_LETTERS := PySem.W.mg_of X G x_SMALL_LETTERS
  have m_AHEAD_OF_BASE := PySem.W.mg_of X G x_AHEAD_OF_BASE
  have m_FIGURES := PySem.W.mg_of X G x_FIGURES
  have B_SumError : BaseC K C_SumError := ⟨rd_SumError, ga_SumError, it_SumError⟩
  have g_SumError := PySem.W.mg_of X G a_SumError
  have O_BadSheet : OexC K C_BadSheet := ⟨⟨nmX0, qX0, NX0, bsX0, bmX0, snX0, subX0, abX0, colX0, ddX0, k0X0, k1X0, k2X0, k3X0, k5X0, cl_BadSheet, rv_BadSheet⟩, st_BadSheet, sb_BadSheet, ty_BadSheet, kp_BadSheet⟩
  have g_BadSheet := PySem.W.mg_of X G a_BadSheet
  have X_BadSheet : XfC K C_BadSheet := ⟨hg_BadSheet, hk_BadSheet, sb_BadSheet, hd_BadSheet⟩
  have T_ErrBadSheet : ErrTxt K mg C_BadSheet C_BadSheet C_NoAnswer C_ManyAnswers C_NotOne C_BadText := ⟨⟨hg_BadSheet, hk_BadSheet, sb_BadSheet, hd_BadSheet, ha_BadSheet, hn_any, ht_any, hm_BadSheet⟩, PySem.W.mg_of X G a_BadSheet, PySem.W.mg_of X G a_NoAnswer, PySem.W.mg_of X G a_ManyAnswers, PySem.W.mg_of X G a_NotOne, PySem.W.mg_of X G a_BadText, z_ValueError⟩
  have K_ErrBadSheet : kindW K C_BadSheet C_BadSheet C_NoAnswer C_ManyAnswers C_NotOne C_BadText "sheet" true false false false false := ⟨⟨ki_BadSheet_BadSheet, ki_BadSheet_NoAnswer, ki_BadSheet_ManyAnswers, ki_BadSheet_NotOne, ki_BadSheet_BadText, ki_BadSheet_ValueError⟩, by decide +kernel⟩
  have e_BadSheet := PySem.W.exm_ref sb_SumError hd_SumError ty_SumError sn_BadSheet
  have O_BadText : OexC K C_BadText := ⟨⟨nmX1, qX1, NX1, bsX1, bmX1, snX1, subX1, abX1, colX1, ddX1, k0X1, k1X1, k2X1, k3X1, k5X1, cl_BadText, rv_BadText⟩, st_BadText, sb_BadText, ty_BadText, kp_BadText⟩
  have g_BadText := PySem.W.mg_of X G a_BadText
  have X_BadText : XfC K C_BadText := ⟨hg_BadText, hk_BadText, sb_BadText, hd_BadText⟩
  have T_ErrBadText : ErrTxt K mg C_BadText C_BadSheet C_NoAnswer C_ManyAnswers C_NotOne C_BadText := ⟨⟨hg_BadText, hk_BadText, sb_BadText, hd_BadText, ha_BadText, hn_any, ht_any, hm_BadText⟩, PySem.W.mg_of X G a_BadSheet, PySem.W.mg_of X G a_NoAnswer, PySem.W.mg_of X G a_ManyAnswers, PySem.W.mg_of X G a_NotOne, PySem.W.mg_of X G a_BadText, z_ValueError⟩
  have K_ErrBadText : kindW K C_BadText C_BadSheet C_NoAnswer C_ManyAnswers C_NotOne C_BadText "text" false false false false true := ⟨⟨ki_BadText_BadSheet, ki_BadText_NoAnswer, ki_BadText_ManyAnswers, ki_BadText_NotOne, ki_BadText_BadText, ki_BadText_ValueError⟩, by decide +kernel⟩
  have e_BadText := PySem.W.exm_ref sb_SumError hd_SumError ty_SumError sn_BadText
  refine ⟨PySem.W.fnOf "law" "law" (defArgs sLaw) (defBody sLaw) (defScope sLaw) .none kV_law dc_law pm_law an_law cd_law ct_law, fun s v => .of_eq rfl, fun base _ _ => ?_⟩
  have G__law_dice := ok_dice (P := l.prog) (w := w) (mg := mg) (base := base) F__law_dice z_len z_int
  have G__law_next := ok_next (P := l.prog) (w := w) (mg := mg) (base := base) F__law_next z_len
  have G__law_names := ok_names (P := l.prog) (w := w) (mg := mg) (base := base) F__law_names z_range S__law_next G__law_next
  have G__law_word := ok_word (P := l.prog) (w := w) (mg := mg) (base := base) F__law_word
  have G__law_sum := ok_sum (P := l.prog) (w := w) (mg := mg) (base := base) F__law_sum z_range z_tuple z_sum S__law_next G__law_next S__law_word G__law_word
  have G__law_sheet := ok_sheet (P := l.prog) (w := w) (mg := mg) (base := base) F__law_sheet z_range z_int S__law_next G__law_next S__law_names G__law_names S__law_sum G__law_sum
  have G__law_bad := ok_lbad (P := l.prog) (w := w) (mg := mg) (base := base) F__law_bad z_len S__law_next G__law_next
  have G_is_word := ok_isword (P := l.prog) (w := w) (mg := mg) (base := base) F_is_word z_len z_all m_MOST_IN_WORD m_SMALL_LETTERS
  have G_is_base_row := ok_isbaseX (P := l.prog) (w := w) (mg := mg) (base := base) F_is_base_row z_len z_all m_AHEAD_OF_BASE m_FIGURES
  have G_sum_row := ok_sumrowX (P := l.prog) (w := w) (mg := mg) (base := base) F_sum_row
  have G_words_of := ok_wordsofX (P := l.prog) (w := w) (mg := mg) (base := base) F_words_of z_all S_is_word G_is_word S_sum_row G_sum_row
  have G_read := ok_readX (P := l.prog) (w := w) (mg := mg) (base := base) F_read T_Sheet (show TextTxt l.prog w K mg base C_BadText f_BadText_init _ from ⟨O_BadText, a_BadText_init, tf_BadText, ok_btinit (P := l.prog) (w := w) (mg := mg) (base := base) F_BadText_init O_BadText g_SumError B_SumError n_BadText_row, b_BadText_init, g_BadText⟩) z_len z_range z_tuple z_int m_AHEAD_OF_BASE K_Sheet b_Sheet_init (ok_shinitX (P := l.prog) (w := w) (mg := mg) (base := base) F_Sheet_init T_Sheet z_list S_check_counts (ok_countsX (P := l.prog) (w := w) (mg := mg) (base := base) F_check_counts (show BadTxt l.prog w K mg base C_BadSheet f_BadSheet_init _ from ⟨O_BadSheet, a_BadSheet_init, tf_BadSheet, ok_bsinit (P := l.prog) (w := w) (mg := mg) (base := base) F_BadSheet_init O_BadSheet g_SumError B_SumError n_BadSheet_at n_BadSheet_why, b_BadSheet_init, g_BadSheet⟩) z_len m_LEAST_BASE m_MOST_BASE m_MOST_SUMS) S_check_sums (ok_checkX (P := l.prog) (w := w) (mg := mg) (base := base) F_check_sums (show BadTxt l.prog w K mg base C_BadSheet f_BadSheet_init _ from ⟨O_BadSheet, a_BadSheet_init, tf_BadSheet, ok_bsinit (P := l.prog) (w := w) (mg := mg) (base := base) F_BadSheet_init O_BadSheet g_SumError B_SumError n_BadSheet_at n_BadSheet_why, b_BadSheet_init, g_BadSheet⟩) z_len z_set z_all z_min z_enumerate m_MOST_ADDENDS m_MOST_LETTERS S_is_word G_is_word)) S_is_base_row G_is_base_row S_words_of G_words_of
  have G__law_is := fun (p : Addr × Obj) (dd : Addr) (hz : Zc (.ref C_BadSheet) (some dd) p.2) (hf : ∃ vs, p.2.data = .fields vs) => ok_lisW (p := p) (dd := dd) (wd := "sheet") (P := l.prog) (w := w) (mg := mg) (base := base) F__law_is z_isinstance T_ErrBadSheet K_ErrBadSheet hz hf
  have G__law_whole := fun (p : Addr × Obj) => ok_wholeP (p := p) (P := l.prog) (w := w) (mg := mg) (base := base) F__law_whole z_isinstance z_int z_bool
  have G__law_refused := ok_lrefused (P := l.prog) (w := w) (mg := mg) (base := base) F__law_refused g_SumError e_BadSheet e_BadText X_BadText n_BadText_row S_read G_read S__law_is G__law_is (fun (p : Addr × Obj) (dd : Addr) (hz : Zc (.ref C_BadText) (some dd) p.2) (hf : ∃ vs, p.2.data = .fields vs) => ok_lisW (p := p) (dd := dd) (wd := "text") (P := l.prog) (w := w) (mg := mg) (base := base) F__law_is z_isinstance T_ErrBadText K_ErrBadText hz hf) S__law_whole G__law_whole
  exact ok_law18 F_law z_str z_len S__law_dice G__law_dice S__law_next G__law_next S__law_sheet G__law_sheet S__law_bad G__law_bad S__law_refused G__law_refused
theorem walk {l : PySem.W.OpenLaw} {q : Program} {loose : List Str} {XP : (Str → Option Value) → Heap → Prop} {YP : World → Heap → Prop} {d : DefRec} {K : Params → PySem.W.Frag} (hn : l.most = some 63) (hdf : d.params.defaults = [])
    (hY : ∀ (w : World) (h : Heap), YP w h → (K w.params).In h)
    (F : ∀ (w : World) (mg : Str → Option Value) (fa : Addr) (h : Heap), (K w.params).In h → h.Ns mainGlobals mg → mg d.name = some (.ref fa) →
      ∃ fd : FuncData, (∀ (s : Shared) (u : Value), BindsTo s fd ⟨[u], []⟩ [("_law_script", u)]) ∧ ∀ base : Heap, (K w.params).In base → base.Ns mainGlobals mg → FnOk l.prog w (K w.params) mg base CX0 8 fa fd ["_law_script"] (spLaw (K w.params))) :
    PySem.W.WalkO q loose XP YP l.row.toRowW d [] (fun f vs => PySem.call f vs) :=
  L2.walk_of (n := 63) (k := 8) (x := "_law_script") (CX := fun _ => CX0) (sp := fun w => spLaw (K w.params)) hn (by decide) hdf ⟨rfl, by decide, by decide⟩ hY F (fun _ _ a ns hl _ hS => ⟨a, ns, rfl, hS, fun _ => rfl⟩) fun _ _ _ _ _ z => z
end WS
open PySem PySem.W PyProof.Rows
set_option maxRecDepth 100000 in
set_option maxHeartbeats 0 in
theorem PySem.Challenge.cw_wordsums_k18_texts_refused_holds : PySem.Challenge.rw_wordsums_k18_texts_refused.Holds := by
  w_on; o_law; k_head; (case hw => w_witness2)
  k_fill
  refine WS.walk (l := PySem.Challenge.rw_wordsums_k18_texts_refused) rfl rfl (fun w h Y => PySem.W.kIn_of Y) ?F
  case F =>
    intro w mg fa h KX G hmg
    refine' WS.all_mk KX G hmg ?a_Sheet ?a_check_counts ?l_check_counts ?c_check_counts ?k_check_counts ?a_check_sums ?l_check_sums ?c_check_sums ?k_check_sums ?a_is_word ?l_is_word ?c_is_word ?k_is_word ?a_sum_row ?l_sum_row ?c_sum_row ?k_sum_row ?a_read ?l_read ?c_read ?k_read ?a_is_base_row ?l_is_base_row ?c_is_base_row ?k_is_base_row ?a_words_of ?l_words_of ?c_words_of ?k_words_of ?a__law_dice ?l__law_dice ?c__law_dice ?k__law_dice ?a__law_next ?l__law_next ?c__law_next ?k__law_next ?a__law_whole ?l__law_whole ?c__law_whole ?k__law_whole ?a__law_word ?l__law_word ?c__law_word ?k__law_word ?a__law_names ?l__law_names ?c__law_names ?k__law_names ?a__law_sum ?l__law_sum ?c__law_sum ?k__law_sum ?a__law_sheet ?l__law_sheet ?c__law_sheet ?k__law_sheet ?a__law_is ?l__law_is ?c__law_is ?k__law_is ?a__law_bad ?l__law_bad ?c__law_bad ?k__law_bad ?a__law_refused ?l__law_refused ?c__law_refused ?k__law_refused ?a_law ?l_law ?c_law ?k_law ?a_BadSheet_init ?i_BadSheet_init ?l_BadSheet_init ?c_BadSheet_init ?k_BadSheet_init ?a_BadText_init ?i_BadText_init ?l_BadText_init ?c_BadText_init ?k_BadText_init ?a_Sheet_init ?i_Sheet_init ?l_Sheet_init ?c_Sheet_init ?k_Sheet_init ?pg_Sheet ?hd_Sheet ?po_Sheet ?sa_Sheet ?mk_Sheet ?kc_Sheet ?n_Sheet_base ?n_Sheet_kept ?y_ValueError ?y_all ?y_bool ?y_enumerate ?y_int ?y_isinstance ?y_len ?y_list ?y_min ?y_range ?y_set ?y_str ?y_sum ?y_tuple ?x_LEAST_BASE ?x_MOST_BASE ?x_MOST_SUMS ?x_MOST_ADDENDS ?x_MOST_IN_WORD ?x_MOST_LETTERS ?x_SMALL_LETTERS ?x_AHEAD_OF_BASE ?x_FIGURES ?a_BadSheet ?a_NoAnswer ?a_ManyAnswers ?a_NotOne ?a_BadText ?a_SumError ?sb_SumError ?hd_SumError ?ty_SumError ?rd_SumError ?ga_SumError ?it_SumError ?hn_any ?ht_any ?cl_BadSheet ?rv_BadSheet ?st_BadSheet ?kp_BadSheet ?sb_BadSheet ?ty_BadSheet ?tf_BadSheet ?n_BadSheet_at ?n_BadSheet_why ?sn_BadSheet ?hg_BadSheet ?hk_BadSheet ?hd_BadSheet ?ha_BadSheet ?hm_BadSheet ?ki_BadSheet_BadSheet ?ki_BadSheet_NoAnswer ?ki_BadSheet_ManyAnswers ?ki_BadSheet_NotOne ?ki_BadSheet_BadText ?ki_BadSheet_ValueError ?cl_BadText ?rv_BadText ?st_BadText ?kp_BadText ?sb_BadText ?ty_BadText ?tf_BadText ?n_BadText_row ?sn_BadText ?hg_BadText ?hk_BadText ?hd_BadText ?ha_BadText ?hm_BadText ?ki_BadText_BadSheet ?ki_BadText_NoAnswer ?ki_BadText_ManyAnswers ?ki_BadText_NotOne ?ki_BadText_BadText ?ki_BadText_ValueError
    (case a_BadSheet => k_is); (case a_NoAnswer => k_is); (case a_ManyAnswers => k_is); (case a_NotOne => k_is); (case a_BadText => k_is); (case a_SumError => k_is); (case a_Sheet => k_is); (case a_check_counts => k_is)
    (case l_check_counts => k_is); (case c_check_counts => k_is); (case k_check_counts => k_is); (case a_check_sums => k_is); (case l_check_sums => k_is); (case c_check_sums => k_is); (case k_check_sums => k_is); (case a_is_word => k_is)
    (case l_is_word => k_is); (case c_is_word => k_is); (case k_is_word => k_is); (case a_sum_row => k_is); (case l_sum_row => k_is); (case c_sum_row => k_is); (case k_sum_row => k_is); (case a_read => k_is)
    (case l_read => k_is); (case c_read => k_is); (case k_read => k_is); (case a_is_base_row => k_is); (case l_is_base_row => k_is); (case c_is_base_row => k_is); (case k_is_base_row => k_is); (case a_words_of => k_is)
    (case l_words_of => k_is); (case c_words_of => k_is); (case k_words_of => k_is); (case a__law_dice => k_is); (case l__law_dice => k_is); (case c__law_dice => k_is); (case k__law_dice => k_is); (case a__law_next => k_is)
    (case l__law_next => k_is); (case c__law_next => k_is); (case k__law_next => k_is); (case a__law_whole => k_is); (case l__law_whole => k_is); (case c__law_whole => k_is); (case k__law_whole => k_is); (case a__law_word => k_is)
    (case l__law_word => k_is); (case c__law_word => k_is); (case k__law_word => k_is); (case a__law_names => k_is); (case l__law_names => k_is); (case c__law_names => k_is); (case k__law_names => k_is); (case a__law_sum => k_is)
    (case l__law_sum => k_is); (case c__law_sum => k_is); (case k__law_sum => k_is); (case a__law_sheet => k_is); (case l__law_sheet => k_is); (case c__law_sheet => k_is); (case k__law_sheet => k_is); (case a__law_is => k_is)
    (case l__law_is => k_is); (case c__law_is => k_is); (case k__law_is => k_is); (case a__law_bad => k_is); (case l__law_bad => k_is); (case c__law_bad => k_is); (case k__law_bad => k_is); (case a__law_refused => k_is)
    (case l__law_refused => k_is); (case c__law_refused => k_is); (case k__law_refused => k_is); (case a_law => k_is); (case l_law => k_is); (case c_law => k_is); (case k_law => k_is); (case a_BadSheet_init => k_is)
    (case i_BadSheet_init => k_is); (case l_BadSheet_init => k_is); (case c_BadSheet_init => k_is); (case k_BadSheet_init => k_is); (case a_BadText_init => k_is); (case i_BadText_init => k_is); (case l_BadText_init => k_is); (case c_BadText_init => k_is)
    (case k_BadText_init => k_is); (case a_Sheet_init => k_is); (case i_Sheet_init => k_is); (case l_Sheet_init => k_is); (case c_Sheet_init => k_is); (case k_Sheet_init => k_is); (case pg_Sheet => k_is); (case hd_Sheet => k_is)
    (case po_Sheet => k_is); (case sa_Sheet => k_is); (case mk_Sheet => k_is); (case kc_Sheet => k_is); (case n_Sheet_base => k_is); (case n_Sheet_kept => k_is); (case y_ValueError => k_is); (case y_all => k_is)
    (case y_bool => k_is); (case y_enumerate => k_is); (case y_int => k_is); (case y_isinstance => k_is); (case y_len => k_is); (case y_list => k_is); (case y_min => k_is); (case y_range => k_is)
    (case y_set => k_is); (case y_str => k_is); (case y_sum => k_is); (case y_tuple => k_is); (case x_LEAST_BASE => k_is); (case x_MOST_BASE => k_is); (case x_MOST_SUMS => k_is); (case x_MOST_ADDENDS => k_is)
    (case x_MOST_IN_WORD => k_is); (case x_MOST_LETTERS => k_is); (case x_SMALL_LETTERS => k_is); (case x_AHEAD_OF_BASE => k_is); (case x_FIGURES => k_is); (case sb_SumError => k_is); (case hd_SumError => k_is); (case ty_SumError => k_is)
    (case rd_SumError => k_is); (case ga_SumError => k_is); (case it_SumError => k_is); (case hn_any => k_is); (case ht_any => k_is); (case cl_BadSheet => k_is); (case rv_BadSheet => first | rfl | decide +kernel); (case st_BadSheet => k_is)
    (case kp_BadSheet => k_is); (case sb_BadSheet => k_is); (case ty_BadSheet => k_is); (case tf_BadSheet => k_is); (case n_BadSheet_at => k_is); (case n_BadSheet_why => k_is); (case sn_BadSheet => k_is); (case hg_BadSheet => k_is)
    (case hk_BadSheet => k_is); (case hd_BadSheet => k_is); (case ha_BadSheet => k_is); (case hm_BadSheet => k_is); (case ki_BadSheet_BadSheet => kit_is); (case ki_BadSheet_NoAnswer => kit_is); (case ki_BadSheet_ManyAnswers => kit_is); (case ki_BadSheet_NotOne => kit_is)
    (case ki_BadSheet_BadText => kit_is); (case ki_BadSheet_ValueError => kit_is); (case cl_BadText => k_is); (case rv_BadText => first | rfl | decide +kernel); (case st_BadText => k_is); (case kp_BadText => k_is); (case sb_BadText => k_is); (case ty_BadText => k_is)
    (case tf_BadText => k_is); (case n_BadText_row => k_is); (case sn_BadText => k_is); (case hg_BadText => k_is); (case hk_BadText => k_is); (case hd_BadText => k_is); (case ha_BadText => k_is); (case hm_BadText => k_is)
    (case ki_BadText_BadSheet => kit_is); (case ki_BadText_NoAnswer => kit_is); (case ki_BadText_ManyAnswers => kit_is); (case ki_BadText_NotOne => kit_is); (case ki_BadText_BadText => kit_is); (case ki_BadText_ValueError => kit_is)
