import PyProof.Rows.All
import Wide.All
import OpenK.AllK
import Wide.FinOn
import HandS.ForMost
import HandS.Star
import HandS.Zip
import HandS.IsInst
import HandS.Conv
import HandS.Wide
import HandS.Evl
import HandS.Walk
import HandS.FStr
import PyProof.StrLawsTight
import PyProof.StrLawsChain
import PyProof.Rows.StrItems
import PyProof.Rows.SetFrom
import PyProof.StrWalks
import HandS.Strs
import HandS.Style
import PyProof.Rows.StrStep
import KE.KRevSl
import HandS.StrMore
import PySem.Challenge.RW_wordsums_k17_written_and_read
set_option Elab.async false
set_option linter.all false
set_option maxRecDepth 100000
set_option maxHeartbeats 4000000
namespace WS
open PySem L2
def top (i : Nat) : Stmt := PySem.Challenge.pw_wordsums_k17_written_and_read.main.body.getD i (.Pass ⟨0, 0, 0, 0⟩)
abbrev sBsInit : Stmt := inClass (top 2) 0
abbrev sBtInit : Stmt := inClass (top 3) 0
abbrev sShInit : Stmt := inClass (top 12) 0
abbrev sShSums : Stmt := inClass (top 12) 1
abbrev sShLetters : Stmt := inClass (top 12) 2
abbrev sCounts : Stmt := top 13
abbrev sCheck : Stmt := top 14
abbrev sIsWord : Stmt := top 15
abbrev sColCount : Stmt := top 16
abbrev sLetterAt : Stmt := top 17
abbrev sColOf : Stmt := top 18
abbrev sWritten : Stmt := top 22
abbrev sSumRow : Stmt := top 23
abbrev sRead : Stmt := top 24
abbrev sIsBaseRow : Stmt := top 25
abbrev sWordsOf : Stmt := top 26
abbrev sDice : Stmt := top 28
abbrev sNext : Stmt := top 29
abbrev sWhole : Stmt := top 30
abbrev sLike : Stmt := top 31
abbrev sWord : Stmt := top 32
abbrev sNames : Stmt := top 33
abbrev sSum : Stmt := top 34
abbrev sSheet : Stmt := top 35
abbrev sWide : Stmt := top 36
abbrev sLText : Stmt := top 37
abbrev sLaw : Stmt := top 38
end WS
set_option maxRecDepth 100000
set_option maxHeartbeats 4000000
namespace WS
open PySem L2
/-- all that was tracked, but what stands at d, is as it was -/
def But (d : Addr) (H H' : Hp) : Prop := ∀ b o, b ≠ d → H b = some o → H' b = some o
theorem But.refl (d : Addr) (H : Hp) : But d H H := fun _ _ _ h => h
theorem But.trans {d : Addr} {H H1 H2 : Hp} (a : But d H H1) (b : But d H1 H2) : But d H H2 := fun c o n h => b c o n (a c o n h)
theorem But.of {d : Addr} {H H' : Hp} (a : Same H H') : But d H H' := fun b o _ h => a b o h
theorem But.upd {d : Addr} {H : Hp} {o : HO} : But d H (upd H d o) := fun b u n h => by
  rw [upd_ne n]; exact h
theorem Same.new {H : Hp} {p : Addr} {o : HO} (hp : H p = none) : Same H (upd H p o) := fun b u h => by
  rw [upd_ne (ne_of_none h hp)]; exact h
theorem But.new {d : Addr} {H : Hp} {p : Addr} {o : HO} (hp : H p = none) : But d H (L2.upd H p o) := .of (Same.new hp)
/-- an object that H did not know may change -/
theorem But.mut {d : Addr} {H H' : Hp} {p : Addr} {o : HO} (e : But d H H') (hp : H p = none) : But d H (L2.upd H' p o) := fun b u n h => by
  rw [upd_ne (ne_of_none h hp)]; exact e b u n h
theorem Same.mut {H H' : Hp} {p : Addr} {o : HO} (e : Same H H') (hp : H p = none) : Same H (L2.upd H' p o) := fun b u h => by
  rw [upd_ne (ne_of_none h hp)]; exact e b u h
theorem But.free {d : Addr} {H H' : Hp} (e : But d H H') {p : Addr} (hd : H' d ≠ none) (h : H' p = none) : H p = none := by
  cases q : H p with
  | none => rfl
  | some o =>
    by_cases n : p = d
    · subst n; exact absurd h hd
    · rw [e p o n q] at h; cases h
theorem rd_but {d : Addr} {H H' : Hp} {a : Addr} {u : HO} (e : But d H H') (n : a ≠ d) (h : Rd H a u) : Rd H' a u := by
  rcases h with h | ⟨o, h⟩
  · exact .inl (e a _ n h)
  · exact .inr ⟨o, e a _ n h⟩
theorem sqL_but {K : PySem.W.Frag} {d : Addr} {H H' : Hp} {a : Addr} {xs : List V} (e : But d H H') (n : a ≠ d) (h : SqL K H a xs) : SqL K H' a xs := by
  rcases h with h | h
  · exact .inl (rd_but e n h)
  · exact .inr h
theorem sqL_same {K : PySem.W.Frag} {H H' : Hp} {a : Addr} {xs : List V} (e : Same H H') (h : SqL K H a xs) : SqL K H' a xs := e.seq h
theorem sqT_same {K : PySem.W.Frag} {H H' : Hp} {a : Addr} {xs : List V} (e : Same H H') (h : SqT K H a xs) : SqT K H' a xs := by
  rcases h with (h | ⟨o, h⟩) | h
  · exact .inl (.inl (e _ _ h))
  · exact .inl (.inr ⟨o, e _ _ h⟩)
  · exact .inr h
theorem line_of {n : Nat} (h : n ≤ 1000000) : n ≤ sizeLine := Nat.le_trans h (by decide)
theorem line_lt {n : Nat} (h : n < 1000000) : n < sizeLine := Nat.lt_of_lt_of_le h (by decide)
/-! ### the dice -/
/-- the heap without what stands at d -/
def off (H : Hp) (d : Addr) : Hp := fun b => if b = d then none else H b
theorem off_at {H : Hp} {d b : Addr} {o : HO} (h : off H d b = some o) : b ≠ d ∧ H b = some o := by
  unfold off at h
  by_cases e : b = d
  · rw [if_pos e] at h; cases h
  · rw [if_neg e] at h; exact ⟨e, h⟩
theorem off_ne {H : Hp} {d b : Addr} (n : b ≠ d) : off H d b = H b := by
  unfold off; rw [if_neg n]
theorem off_in (H : Hp) (d : Addr) : Same (off H d) H := fun b o h => (off_at h).2
theorem But.off {d : Addr} {H H' : Hp} (e : But d H H') : Same (WS.off H d) (WS.off H' d) := fun b o h => by
  obtain ⟨n, h⟩ := off_at h
  rw [off_ne n]; exact e b o n h
/-- the dice at d: the script at a, how many are taken, the mixed number, what is left of a great one -/
structure Dice (K : PySem.W.Frag) (H : Hp) (d a : Addr) (ns : List Int) : Prop where
  ex : ∃ (i : Nat) (m c : Int), H d = some (.lst [.ref a, .int i, .int m, .int c]) ∧ 0 ≤ m ∧ m < 2147483647
  sqo : SqL K (off H d) a (ns.map V.int)
section
variable {K : PySem.W.Frag} {H H' H0 : Hp} {d a p : Addr} {ns : List Int} {o : HO}
theorem Dice.sq (D : Dice K H d a ns) : SqL K H a (ns.map V.int) := sqL_same (off_in H d) D.sqo
theorem Dice.ne (D : Dice K H d a ns) : H d ≠ none := by
  obtain ⟨i, m, c, h, _⟩ := D.ex
  rw [h]; intro z; cases z
theorem Dice.upd {i : Nat} {m c : Int} (D : Dice K H d a ns) (h0 : 0 ≤ m) (h1 : m < 2147483647) : Dice K (L2.upd H d (.lst [.ref a, .int i, .int m, .int c])) d a ns :=
  ⟨⟨i, m, c, upd_same, h0, h1⟩, sqL_same (But.off But.upd) D.sqo⟩
theorem Dice.same (D : Dice K H d a ns) (e : Same H H') : Dice K H' d a ns := by
  obtain ⟨i, m, c, h, h0, h1⟩ := D.ex
  exact ⟨⟨i, m, c, e _ _ h, h0, h1⟩, sqL_same (But.of e).off D.sqo⟩
theorem Dice.new (D : Dice K H d a ns) (hp : H p = none) : Dice K (L2.upd H p o) d a ns := D.same (Same.new hp)
theorem Dice.neOf (D : Dice K H d a ns) (hp : H p = none) : p ≠ d := fun e => D.ne (e ▸ hp)
/-- an object that was not there when the dice stood at H0 may change -/
theorem Dice.mut (D0 : Dice K H0 d a ns) (e : But d H0 H) (D : Dice K H d a ns) (hp : H0 p = none) : Dice K (L2.upd H p o) d a ns := by
  obtain ⟨i, m, c, h, h0, h1⟩ := D.ex
  exact ⟨⟨i, m, c, (by rw [upd_ne (Ne.symm (D0.neOf hp))]; exact h), h0, h1⟩, sqL_same (e.mut hp).off D0.sqo⟩
end
/-- where a def of the text stands, as its callers need it -/
structure Site (K : PySem.W.Frag) (mg : Str → Option Value) (x : Str) (f : Addr) (fd : FuncData) (ps : List Str) : Prop where
  g : mg x = some (.ref f)
  k : PySem.W.keepIn K (.ref f) = true
  b : Binds K fd ps []
section
variable {K : PySem.W.Frag}
theorem isi_ok {H : Hp} {Q : VK} {x : V} {T0 T : String} {b : Bool} (ty : TyX K H x (.type T0)) (e : kitB T0 T = some b) (q : Q (.bl b) H) : rIsi K [x, .ty T] H Q :=
  ⟨x, .ty T, .type T0, .type T, b, rfl, .ty T, ty, kit_ty e, q⟩
theorem tyInt {H : Hp} (i : Int) : TyX K H (.int i) (.type "int") := .base (.int i)
theorem tyStr {H : Hp} (z : Str) : TyX K H (.str z) (.type "str") := .base (.str z)
theorem tyLst {H : Hp} {a : Addr} {xs : List V} (h : H a = some (.lst xs)) : TyX K H (.ref a) (.type "list") := .base (.lst h)
theorem tyTup {H : Hp} {a : Addr} {xs : List V} (h : H a = some (.tup xs)) : TyX K H (.ref a) (.type "tuple") := .base (.tup h)
end
end WS
set_option maxRecDepth 100000
set_option maxHeartbeats 4000000
namespace WS
open PySem L2
/-- _law_next(d, many): some number below many; of the heap the dice alone is changed -/
def spNext (K : PySem.W.Frag) : Sp := fun vs H Q _ => ∃ (d a : Addr) (ns : List Int) (m : Int), vs = [.ref d, .int m] ∧ Dice K H d a ns ∧ 0 < m ∧ m < 1073741824 ∧
  ∀ (v : Int) (H' : Hp), 0 ≤ v → v < m → Dice K H' d a ns → But d H H' → (∀ b, b ≠ d → H' b = H b) → Q (.int v) H'
section
variable {P : Program} {w : World} {K : PySem.W.Frag} {mg : Str → Option Value} {base : Heap}
theorem scNext : FnScope ["_law_dice_here", "_law_many", "_law_found", "_law_cell"] ["_law_dice_here", "_law_many"] (defScope sNext) := ⟨rfl, rfl, rfl, by decide +kernel, rfl, by decide +kernel, by decide +kernel⟩
theorem ok_next {f : Addr} {fd : FuncData} (F : Fun K "_law_next" "_law_next" sNext f fd) (z_len : mg "len" = none) : FnOk P w K mg base CX0 1 f fd ["_law_dice_here", "_law_many"] (spNext K) := by
  refine F.ok scNext (fun vs H Q E h => ?_) (fun cdv A outer s H vs Q E hr h => ?_)
  · obtain ⟨d, a, ns, m, rfl, _⟩ := h
    rfl
  · obtain ⟨d, a, ns, m, rfl, D, h0, h1, k⟩ := h
    obtain ⟨i, mx, c, hd, m0, m1⟩ := id D.ex
    have nd := scNext.nd
    refine ⟨_, (pss_cons (ps_if (pt_cmpR op_gt (pe_ix (r := rIxL K) ix_list (pv 0) pe_int (fun _ _ => rfl)) pe_int (nomark _)) (pss_cons (ps_set (i := 2) nd rfl (.inl rfl) (pe_op op_mod (pe_ix (r := rIxL K) ix_list (pv 0) pe_int (fun _ _ => rfl)) (pv 1)))
      (pss_cons (ps_asg (pe_op op_fdiv (pe_ix (r := rIxL K) ix_list (pv 0) pe_int (fun _ _ => rfl)) (pv 1)) (pg_sub (pv 0) pe_int set_list))
      (pss_one (ps_ret (pv 2))))) pss_nil)
      (pss_cons (ps_asg (pe_op op_add (pe_ix (r := rIxL K) ix_list (pv 0) pe_int (fun _ _ => rfl)) pe_int) (pg_sub (pv 0) pe_int set_list))
      (pss_cons (ps_if (pt_cmpR op_le (pe_ix (r := rIxL K) ix_list (pv 0) pe_int (fun _ _ => rfl)) (pe_callB call_len_seq (by rfl) z_len PySem.boot_len (pa_cons (pe_ix (r := rIxL K) ix_list (pv 0) pe_int (fun _ _ => rfl)) pa_nil)) (nomark _)) (pss_cons (ps_set (i := 3) nd rfl (.inl rfl) (pe_ix (r := rIxL K) ix_list (pe_ix (r := rIxL K) ix_list (pv 0) pe_int (fun _ _ => rfl)) (pe_op op_sub (pe_ix (r := rIxL K) ix_list (pv 0) pe_int (fun _ _ => rfl)) pe_int) (fun _ _ => rfl)))
      (pss_cons (ps_asg (pe_ifExp (pt_cmpR op_ge (pv 3) (pe_op op_pow pe_int pe_int) (nomark _)) (pe_op op_fdiv (pv 3) (pv 1)) pe_int) (pg_sub (pv 0) pe_int set_list))
      (pss_one (ps_ret (pe_op op_mod (pv 3) (pv 1)))))) pss_nil)
      (pss_cons (ps_asg (pe_op op_mod (pe_op op_mul (pe_ix (r := rIxL K) ix_list (pv 0) pe_int (fun _ _ => rfl)) pe_int) pe_int) (pg_sub (pv 0) pe_int set_list))
      (pss_one (ps_ret (pe_op op_mod (pe_op op_fdiv (pe_ix (r := rIxL K) ix_list (pv 0) pe_int (fun _ _ => rfl)) pe_int) (pv 1)))))))), ?_⟩
    have hmod : ∀ x : Int, 0 ≤ x % m ∧ x % m < m := fun x => ⟨Int.emod_nonneg x (by omega), Int.emod_lt_of_pos x h0⟩
    refine ⟨_, rfl, d, _, 3, _, rfl, rfl, SqL.of hd, rfl, _, _, rfl, rfl, _, rfl, ?_⟩
    refine ite2 (fun _ => ?_) (fun _ => ?_)
    · refine ⟨_, rfl, d, _, 3, _, rfl, rfl, SqL.of hd, rfl, _, rfl, _, _, rfl, rfl, h0, ?_⟩
      refine ⟨_, rfl, d, _, 3, _, rfl, rfl, SqL.of hd, rfl, _, rfl, _, _, rfl, rfl, ⟨h0, h1⟩, _, rfl, d, _, 3, 3, rfl, rfl, hd, rfl, _, rfl, ?_⟩
      exact k _ _ (hmod _).1 (hmod _).2 (D.upd m0 m1) But.upd (fun b hb => upd_ne hb)
    · refine ⟨_, rfl, d, _, 1, _, rfl, rfl, SqL.of hd, rfl, _, _, rfl, rfl, _, rfl, d, _, 1, 1, rfl, rfl, hd, rfl, ?_⟩
      have D1 : Dice K (upd H d (.lst [.ref a, .int ((i + 1 : Nat) : Int), .int mx, .int c])) d a ns := D.upd m0 m1
      show tSeq _ _ _ _ (upd H d (.lst [.ref a, .int ((i + 1 : Nat) : Int), .int mx, .int c]))
      have e1 : ∀ b, b ≠ d → (upd H d (.lst [.ref a, .int ((i + 1 : Nat) : Int), .int mx, .int c])) b = H b := fun b hb => upd_ne hb
      have hd1 : (upd H d (.lst [.ref a, .int ((i + 1 : Nat) : Int), .int mx, .int c])) d = some (.lst [.ref a, .int ((i + 1 : Nat) : Int), .int mx, .int c]) := upd_same
      generalize upd H d (.lst [.ref a, .int ((i + 1 : Nat) : Int), .int mx, .int c]) = H1 at D1 e1 hd1
      have b1 : But d H H1 := fun b o n h => by rw [e1 b n]; exact h
      refine ⟨_, rfl, d, _, 1, _, rfl, rfl, SqL.of hd1, rfl, _, rfl, d, _, 0, _, rfl, rfl, SqL.of hd1, rfl, a, _, rfl, .inl D1.sq, _, _, rfl, rfl, _, rfl, ?_⟩
      refine ite2 (fun hle => ?_) (fun _ => ?_)
      · have hle' : i < ns.length := by
          have := of_decide_eq_true hle
          rw [List.length_map] at this
          omega
        have hx : (ns.map V.int)[i]? = some (.int ns[i]) := by
          rw [List.getElem?_map, List.getElem?_eq_getElem hle'] <;> rfl
        refine ⟨_, rfl, d, _, 0, _, rfl, rfl, SqL.of hd1, rfl, _, rfl, d, _, 1, _, rfl, rfl, SqL.of hd1, rfl, _, _, rfl, rfl, a, _, _, _, rfl, rfl, D1.sq, at_of (j := i) (by omega) hx, ?_⟩
        refine ⟨_, rfl, _, _, rfl, rfl, ⟨by decide, by decide, by decide⟩, _, _, rfl, rfl, _, rfl, ?_⟩
        refine ite2 (fun _ => ?_) (fun _ => ?_)
        · refine ⟨_, rfl, _, rfl, _, _, rfl, rfl, ⟨h0, h1⟩, _, rfl, d, _, 3, 3, rfl, rfl, hd1, rfl, _, rfl, _, rfl, _, _, rfl, rfl, h0, ?_⟩
          exact k _ _ (hmod _).1 (hmod _).2 (D1.upd m0 m1) (b1.trans But.upd) (fun b hb => (upd_ne hb).trans (e1 b hb))
        · refine ⟨_, rfl, d, _, 3, 3, rfl, rfl, hd1, rfl, _, rfl, _, rfl, _, _, rfl, rfl, h0, ?_⟩
          exact k _ _ (hmod _).1 (hmod _).2 (D1.upd m0 m1) (b1.trans But.upd) (fun b hb => (upd_ne hb).trans (e1 b hb))
      · refine ⟨_, rfl, d, _, 2, _, rfl, rfl, SqL.of hd1, rfl, _, _, rfl, rfl, .inl ⟨by omega, by omega⟩, _, _, rfl, rfl, (by show (0 : Int) < 2147483647; decide), _, rfl, d, _, 2, 2, rfl, rfl, hd1, rfl, ?_⟩
        refine ⟨_, rfl, d, _, 2, _, rfl, rfl, SqL.of upd_same, rfl, _, _, rfl, rfl, ⟨by decide, by decide⟩, _, rfl, _, _, rfl, rfl, h0, ?_⟩
        exact k _ _ (hmod _).1 (hmod _).2 (D1.upd (Int.emod_nonneg _ (by decide)) (Int.emod_lt_of_pos _ (by decide))) (b1.trans But.upd) (fun b hb => (upd_ne hb).trans (e1 b hb))
end
end WS
set_option maxRecDepth 100000
set_option maxHeartbeats 4000000
namespace WS
open PySem L2
theorem ints_at {ns : List Int} {i : Nat} {y : V} (h : (ns.map V.int)[i]? = some y) : ∃ z, ns[i]? = some z ∧ y = V.int z := by
  rw [List.getElem?_map] at h
  cases e : ns[i]? with
  | none =>
    rw [e] at h
    cases h
  | some z =>
    rw [e] at h
    exact ⟨z, rfl, (Option.some.inj h).symm⟩
/-- _law_dice(script): new dice over it -/
def spDice (K : PySem.W.Frag) : Sp := fun vs H Q _ => ∃ (a : Addr) (ns : List Int), vs = [.ref a] ∧ SqL K H a (ns.map V.int) ∧ ∀ (p : Addr) (H' : Hp), H p = none → Same H H' → Dice K H' p a ns → Q (.ref p) H'
section
variable {P : Program} {w : World} {K : PySem.W.Frag} {mg : Str → Option Value} {base : Heap}
theorem scDice : FnScope ["_law_script", "_law_mixed", "_law_cell"] ["_law_script"] (defScope sDice) := ⟨rfl, rfl, rfl, by decide +kernel, rfl, by decide +kernel, by decide +kernel⟩
theorem ok_dice {f : Addr} {fd : FuncData} (F : Fun K "_law_dice" "_law_dice" sDice f fd) (z_len : mg "len" = none) (z_int : mg "int" = none) : FnOk P w K mg base CX0 1 f fd ["_law_script"] (spDice K) := by
  refine F.ok scDice (fun vs H Q E h => ?_) (fun cdv A outer s H vs Q E hr h => ?_)
  · obtain ⟨a, ns, rfl, _⟩ := h
    rfl
  · obtain ⟨a, ns, rfl, hs, k⟩ := h
    have nd := scDice.nd
    refine ⟨_, (pss_cons (ps_set (i := 1) nd rfl (.inl rfl) pe_int)
      (pss_cons (ps_for PassesOwn.never rfl (pi_list (pv 0)) (pg_name (i := 2) nd rfl (.inl rfl)) (pss_one (ps_set (i := 1) nd rfl (.inl rfl) (pe_op op_mod (pe_op op_add (pe_op op_add (pe_op op_mul (pv 1) pe_int) (pe_op op_mul (pe_op op_mod (pv 2) pe_int) pe_int)) pe_int) pe_int))))
      (pss_one (ps_ret (pe_lst (pa_cons (pv 0) (pa_cons pe_int (pa_cons (pe_op op_mul (pv 1) (pe_callTy call_int1 (by rfl) z_int (by decide +kernel) (pa_cons (pe_cmpR op_gt (pe_callB call_len_seq (by rfl) z_len PySem.boot_len (pa_cons (pv 0) pa_nil)) pe_int (nomark _)) pa_nil))) (pa_cons pe_int pa_nil))))))))), ?_⟩
    refine ⟨_, rfl, a, rfl, ⟨_, hs⟩, for_list (K := K) (a := a) (xs := ns.map V.int) (fun i σ H2 => H2 = H ∧ ∃ (m : Int) (v : Option V), σ = [some (.ref a), some (.int m), v] ∧ 0 ≤ m ∧ m < 2147483647)
      ⟨rfl, 0, none, rfl, by decide, by decide⟩ (fun i σ H2 _ ⟨e, _⟩ => e ▸ hs) ?_ ?_⟩
    · rintro i y σ H2 hi ⟨rfl, m, v, rfl, m0, m1⟩
      obtain ⟨z, hz, rfl⟩ := ints_at hi
      refine ⟨_, rfl, _, _, rfl, rfl, .inl ⟨by omega, by omega⟩, _, rfl, _, _, rfl, rfl, (by show (0 : Int) < 2147483647; decide), _, _, rfl, rfl, .inl ⟨?_, ?_⟩, _, _, rfl, rfl, _, _, rfl, rfl, _, _, rfl, rfl, (by show (0 : Int) < 2147483647; decide), ?_⟩
      · have := Int.emod_nonneg z (by decide : (2147483647 : Int) ≠ 0); omega
      · have := Int.emod_lt_of_pos z (by decide : (0 : Int) < 2147483647); omega
      · exact ⟨rfl, _, _, rfl, Int.emod_nonneg _ (by decide), Int.emod_lt_of_pos _ (by decide)⟩
    · rintro σ H2 ⟨rfl, m, v, rfl, m0, m1⟩
      refine ⟨_, rfl, _, rfl, _, rfl, a, _, rfl, .inl hs, _, _, rfl, rfl, .inr ⟨_, rfl, _, _, rfl, rfl, .inl ⟨by omega, by omega⟩, (by show 4 ≤ sizeLine; decide), fun p hp => ?_⟩⟩
      have so : SqL K (off (upd H2 p (.lst [.ref a, .int 0, .int (m * (if decide ((2 : Int) < ((ns.map V.int).length : Nat)) = true then 1 else 0)), .int 0])) p) a (ns.map V.int) :=
        sqL_same (fun b o h => by rw [off_ne (ne_of_none h hp), upd_ne (ne_of_none h hp)]; exact h) hs
      refine k p _ hp (Same.new hp) ⟨⟨0, m * (if decide ((2 : Int) < ((ns.map V.int).length : Nat)) = true then 1 else 0), 0, upd_same, ?_, ?_⟩, so⟩
      · split <;> omega
      · split <;> omega
end
end WS
set_option maxRecDepth 100000
set_option maxHeartbeats 4000000
namespace WS
open PySem L2
def spLaw (K : PySem.W.Frag) : Sp := fun vs H Q _ => ∃ (a : Addr) (ns : List Int), vs = [.ref a] ∧ SqL K H a (ns.map V.int) ∧ ∀ H', Q (.bl true) H'
theorem old_of {C x dx : Addr} {H H3 : Hp} (nx : H x = none) (ndx : H dx = none) (kp : ∀ a o, a ≠ x → (upd (upd H dx (.own x)) x (.ins C dx [])) a = some o → H3 a = some o) : Same H H3 := fun b o e => by
  have hbx := ne_of_none e nx
  have hbd := ne_of_none e ndx
  exact kp b o hbx (by rw [upd_ne hbx, upd_ne hbd]; exact e)
theorem refs_off {K : PySem.W.Frag} {H : Hp} {d a l : Addr} {ns : List Int} {ts : List Addr} (D : Dice K H d a ns) (hl : H l = some (.lst (ts.map V.ref))) : l ≠ d := by
  intro e
  subst e
  obtain ⟨i, m, c, h, _⟩ := D.ex
  rw [h] at hl
  have := HO.lst.inj (Option.some.inj hl)
  rcases ts with _ | ⟨x, _ | ⟨y, r⟩⟩
  · cases this
  · cases this
  · injection this with _ h2
    injection h2 with h3 _
    cases h3
end WS
set_option maxRecDepth 100000
set_option maxHeartbeats 4000000
namespace WS
open PySem L2
/-- two values that are alike in kind and content, at most n deep: ints, texts, lists, tuples -/
def Alike (H : Hp) : Nat → V → V → Prop
  | 0, x, y => (∃ i, x = .int i ∧ y = .int i) ∨ (∃ z, x = .str z ∧ y = .str z)
  | n + 1, x, y => ((∃ i, x = .int i ∧ y = .int i) ∨ (∃ z, x = .str z ∧ y = .str z)) ∨
      ∃ (a b : Addr) (xs ys : List V), x = .ref a ∧ y = .ref b ∧ ((H a = some (.lst xs) ∧ H b = some (.lst ys)) ∨ (H a = some (.tup xs) ∧ H b = some (.tup ys))) ∧ xs.length = ys.length ∧ xs.length ≤ 10000000 ∧
        ∀ (i : Nat) (u v : V), xs[i]? = some u → ys[i]? = some v → Alike H n u v
theorem Alike.same {H H' : Hp} (e : Same H H') : ∀ {n : Nat} {x y : V}, Alike H n x y → Alike H' n x y
  | 0, x, y, h => h
  | n + 1, x, y, h => by
    rcases h with h | ⟨a, b, xs, ys, rfl, rfl, hh, hl, hz, hi⟩
    · exact .inl h
    · refine .inr ⟨a, b, xs, ys, rfl, rfl, ?_, hl, hz, fun i u v h1 h2 => (hi i u v h1 h2).same e⟩
      rcases hh with ⟨h1, h2⟩ | ⟨h1, h2⟩
      · exact .inl ⟨e _ _ h1, e _ _ h2⟩
      · exact .inr ⟨e _ _ h1, e _ _ h2⟩
end WS
set_option maxRecDepth 100000
set_option maxHeartbeats 4000000
namespace WS
open PySem L2
/-- _law_like(found, due) of two that are alike: True -/
def spLike (n : Nat) : Sp := fun vs H Q _ => ∃ (x y : V), vs = [x, y] ∧ Alike H n x y ∧ Q (.bl true) H
section
variable {P : Program} {w : World} {K : PySem.W.Frag} {mg : Str → Option Value} {base : Heap}
theorem scLike : FnScope ["_law_found", "_law_due", "_law_k"] ["_law_found", "_law_due"] (defScope sLike) := ⟨rfl, rfl, rfl, by decide +kernel, rfl, by decide +kernel, by decide +kernel⟩
theorem ok_like {f : Addr} {fd : FuncData} (F : Fun K "_law_like" "_law_like" sLike f fd) (S__law_like : Site K mg "_law_like" f fd ["_law_found", "_law_due"]) (z_isinstance : mg "isinstance" = none) (z_str : mg "str" = none) (z_int : mg "int" = none) (z_bool : mg "bool" = none)
    (z_tuple : mg "tuple" = none) (z_list : mg "list" = none) (z_len : mg "len" = none) (z_range : mg "range" = none) : ∀ n : Nat, FnOk P w K mg base CX0 (n + 1) f fd ["_law_found", "_law_due"] (spLike n)
  | 0 => by
    refine F.ok scLike (fun vs H Q E h => ?_) (fun cdv A outer s H vs Q E hr h => ?_)
    · obtain ⟨x, y, rfl, _⟩ := h
      rfl
    · obtain ⟨x, y, rfl, h, k⟩ := h
      have nd := scLike.nd
      refine ⟨_, (pss_cons (ps_if (pt_val (pe_callB call_isi (by rfl) z_isinstance (by decide +kernel) (pa_cons (pv 1) (pa_cons (pe_bltn (v := .ty "str") (by rfl) z_str PyProof.Rows.boot_str rfl) pa_nil)))) (pss_one (ps_ret (pe_and (pe_callB call_isi (by rfl) z_isinstance (by decide +kernel) (pa_cons (pv 0) (pa_cons (pe_bltn (v := .ty "str") (by rfl) z_str PyProof.Rows.boot_str rfl) pa_nil))) (pe_one (pe_cmpR op_eq (pv 0) (pv 1) (nomark _)))))) pss_nil)
      (pss_cons (ps_if (pt_val (pe_callB call_isi (by rfl) z_isinstance (by decide +kernel) (pa_cons (pv 1) (pa_cons (pe_bltn (v := .ty "int") (by rfl) z_int PyProof.Rows.boot_int rfl) pa_nil)))) (pss_one (ps_ret (pe_and (pe_callB call_isi (by rfl) z_isinstance (by decide +kernel) (pa_cons (pv 0) (pa_cons (pe_bltn (v := .ty "int") (by rfl) z_int PyProof.Rows.boot_int rfl) pa_nil))) (pe_and (pe_not (pe_callB call_isi (by rfl) z_isinstance (by decide +kernel) (pa_cons (pv 0) (pa_cons (pe_bltn (v := .ty "bool") (by rfl) z_bool PyProof.Rows.boot_bool rfl) pa_nil)))) (pe_one (pe_cmpR op_eq (pv 0) (pv 1) (nomark _))))))) pss_nil) pss_never)), ?_⟩
      rcases h with ⟨i, rfl, rfl⟩ | ⟨z, rfl, rfl⟩
      · refine ⟨_, rfl, _, _, _, _, false, rfl, .ty _, tyInt i, kit_ty (by decide +kernel), _, rfl, iteF ?_⟩
        refine ⟨_, rfl, _, _, _, _, true, rfl, .ty _, tyInt i, kit_ty (by decide +kernel), _, rfl, iteT ?_⟩
        refine ⟨_, rfl, _, _, _, _, true, rfl, .ty _, tyInt i, kit_ty (by decide +kernel), _, rfl, iteT ?_⟩
        refine ⟨_, rfl, _, _, _, _, false, rfl, .ty _, tyInt i, kit_ty (by decide +kernel), _, rfl, _, rfl, iteT ?_⟩
        refine ⟨_, rfl, _, rfl, rfl, ?_⟩
        rw [decide_eq_true rfl]
        exact k
      · refine ⟨_, rfl, _, _, _, _, true, rfl, .ty _, tyStr z, kit_ty (by decide +kernel), _, rfl, iteT ?_⟩
        refine ⟨_, rfl, _, _, _, _, true, rfl, .ty _, tyStr z, kit_ty (by decide +kernel), _, rfl, iteT ?_⟩
        refine ⟨_, rfl, _, rfl, rfl, ?_⟩
        rw [decide_eq_true rfl]
        exact k
  | n + 1 => by
    have G__law_like := ok_like F S__law_like z_isinstance z_str z_int z_bool z_tuple z_list z_len z_range n
    refine F.ok scLike (fun vs H Q E h => ?_) (fun cdv A outer s H vs Q E hr h => ?_)
    · obtain ⟨x, y, rfl, _⟩ := h
      rfl
    · obtain ⟨x, y, rfl, h, k⟩ := h
      have nd := scLike.nd
      have hr__law_like := hr
      refine ⟨_, (pss_cons (ps_if (pt_val (pe_callB call_isi (by rfl) z_isinstance (by decide +kernel) (pa_cons (pv 1) (pa_cons (pe_bltn (v := .ty "str") (by rfl) z_str PyProof.Rows.boot_str rfl) pa_nil)))) (pss_one (ps_ret (pe_and (pe_callB call_isi (by rfl) z_isinstance (by decide +kernel) (pa_cons (pv 0) (pa_cons (pe_bltn (v := .ty "str") (by rfl) z_str PyProof.Rows.boot_str rfl) pa_nil))) (pe_one (pe_cmpR op_eq (pv 0) (pv 1) (nomark _)))))) pss_nil)
      (pss_cons (ps_if (pt_val (pe_callB call_isi (by rfl) z_isinstance (by decide +kernel) (pa_cons (pv 1) (pa_cons (pe_bltn (v := .ty "int") (by rfl) z_int PyProof.Rows.boot_int rfl) pa_nil)))) (pss_one (ps_ret (pe_and (pe_callB call_isi (by rfl) z_isinstance (by decide +kernel) (pa_cons (pv 0) (pa_cons (pe_bltn (v := .ty "int") (by rfl) z_int PyProof.Rows.boot_int rfl) pa_nil))) (pe_and (pe_not (pe_callB call_isi (by rfl) z_isinstance (by decide +kernel) (pa_cons (pv 0) (pa_cons (pe_bltn (v := .ty "bool") (by rfl) z_bool PyProof.Rows.boot_bool rfl) pa_nil)))) (pe_one (pe_cmpR op_eq (pv 0) (pv 1) (nomark _))))))) pss_nil)
      (pss_cons (ps_if (pt_cmpR op_isN (pv 1) pe_non (nomark _)) (pss_one (ps_ret (pe_cmpR op_isN (pv 0) pe_non (nomark _)))) pss_nil)
      (pss_cons (ps_if (PW.pt (pw_or (pt_cmpR op_ne (pe_callB call_isi (by rfl) z_isinstance (by decide +kernel) (pa_cons (pv 1) (pa_cons (pe_bltn (v := .ty "tuple") (by rfl) z_tuple PyProof.Rows.boot_tuple rfl) pa_nil))) (pe_callB call_isi (by rfl) z_isinstance (by decide +kernel) (pa_cons (pv 0) (pa_cons (pe_bltn (v := .ty "tuple") (by rfl) z_tuple PyProof.Rows.boot_tuple rfl) pa_nil))) (nomark _)) (pw_or1 (pt_cmpR op_ne (pe_callB call_isi (by rfl) z_isinstance (by decide +kernel) (pa_cons (pv 1) (pa_cons (pe_bltn (v := .ty "list") (by rfl) z_list PyProof.Rows.boot_list rfl) pa_nil))) (pe_callB call_isi (by rfl) z_isinstance (by decide +kernel) (pa_cons (pv 0) (pa_cons (pe_bltn (v := .ty "list") (by rfl) z_list PyProof.Rows.boot_list rfl) pa_nil))) (nomark _))))) (pss_one (ps_ret pe_bl)) pss_nil)
      (pss_cons (ps_if (pt_cmpR op_ne (pe_callB call_len_seq (by rfl) z_len PySem.boot_len (pa_cons (pv 0) pa_nil)) (pe_callB call_len_seq (by rfl) z_len PySem.boot_len (pa_cons (pv 1) pa_nil)) (nomark _)) (pss_one (ps_ret pe_bl)) pss_nil)
      (pss_cons (ps_for PassesOwn.never rfl (pi_range1 (by rfl) z_range (pa_cons (pe_callB call_len_seq (by rfl) z_len PySem.boot_len (pa_cons (pv 1) pa_nil)) pa_nil)) (pg_name (i := 2) nd rfl (.inl rfl)) (pss_one (ps_if (pt_not (pt_val (pe_call G__law_like hr__law_like (by rfl) S__law_like.g S__law_like.k S__law_like.b .nil pass0 (pa_cons (pe_ix (r := rIx K) ix_seq (pv 0) (pv 2) (fun _ _ => rfl)) (pa_cons (pe_ix (r := rIx K) ix_seq (pv 1) (pv 2) (fun _ _ => rfl)) pa_nil))))) (pss_one (ps_ret pe_bl)) pss_nil)))
      (pss_one (ps_ret pe_bl)))))))), ?_⟩
      rcases h with (⟨i, rfl, rfl⟩ | ⟨z, rfl, rfl⟩) | ⟨a, b, xs, ys, rfl, rfl, hh, hl, hz, hi⟩
      · refine ⟨_, rfl, _, _, _, _, false, rfl, .ty _, tyInt i, kit_ty (by decide +kernel), _, rfl, iteF ?_⟩
        refine ⟨_, rfl, _, _, _, _, true, rfl, .ty _, tyInt i, kit_ty (by decide +kernel), _, rfl, iteT ?_⟩
        refine ⟨_, rfl, _, _, _, _, true, rfl, .ty _, tyInt i, kit_ty (by decide +kernel), _, rfl, iteT ?_⟩
        refine ⟨_, rfl, _, _, _, _, false, rfl, .ty _, tyInt i, kit_ty (by decide +kernel), _, rfl, _, rfl, iteT ?_⟩
        refine ⟨_, rfl, _, rfl, rfl, ?_⟩
        rw [decide_eq_true rfl]
        exact k
      · refine ⟨_, rfl, _, _, _, _, true, rfl, .ty _, tyStr z, kit_ty (by decide +kernel), _, rfl, iteT ?_⟩
        refine ⟨_, rfl, _, _, _, _, true, rfl, .ty _, tyStr z, kit_ty (by decide +kernel), _, rfl, iteT ?_⟩
        refine ⟨_, rfl, _, rfl, rfl, ?_⟩
        rw [decide_eq_true rfl]
        exact k
      · have nx : ∀ (i : Nat) (u v : V), xs[i]? = some u → ys[i]? = some v → Alike H n u v := hi
        rcases hh with ⟨h1, h2⟩ | ⟨h1, h2⟩
        · refine ⟨_, rfl, _, _, _, _, false, rfl, .ty _, tyLst h2, kit_ty (by decide +kernel), _, rfl, iteF ?_⟩
          refine ⟨_, rfl, _, _, _, _, false, rfl, .ty _, tyLst h2, kit_ty (by decide +kernel), _, rfl, iteF ?_⟩
          refine ⟨_, rfl, rfl, _, rfl, iteF ?_⟩
          refine ⟨_, rfl, _, _, _, _, false, rfl, .ty _, tyLst h2, kit_ty (by decide +kernel), _, rfl, _, _, _, _, false, rfl, .ty _, tyLst h1, kit_ty (by decide +kernel), rfl, _, rfl, iteF ?_⟩
          refine ⟨_, rfl, _, _, _, _, true, rfl, .ty _, tyLst h2, kit_ty (by decide +kernel), _, rfl, _, _, _, _, true, rfl, .ty _, tyLst h1, kit_ty (by decide +kernel), rfl, _, rfl, iteF ?_⟩
          refine ⟨_, rfl, a, _, rfl, .inl (.of h1), _, rfl, b, _, rfl, .inl (.of h2), rfl, _, rfl, iteNS (by rw [hl]) ?_⟩
          refine ⟨_, rfl, b, _, rfl, .inl (.of h2), _, rfl, by omega, by omega, for_range (lo := 0) (n := ((ys.length : Nat) : Int).toNat) (fun i σ H2 => H2 = H ∧ ∃ v, σ = [some (.ref a), some (.ref b), v]) ⟨rfl, none, rfl⟩ ?_ ?_⟩
          · rintro i σ H2 hi' ⟨rfl, v, rfl⟩
            have hi2 : i < ys.length := by omega
            have hu : xs[i]? = some xs[i] := List.getElem?_eq_getElem (by omega)
            have hv : ys[i]? = some ys[i] := List.getElem?_eq_getElem hi2
            refine ⟨_, rfl, _, rfl, .inl ⟨a, xs, _, _, rfl, rfl, .of h1, at_of (j := i) (by omega) hu, _, rfl, _, rfl, .inl ⟨b, ys, _, _, rfl, rfl, .of h2, at_of (j := i) (by omega) hv, _, _, rfl, nx i _ _ hu hv, true, rfl, iteF ?_⟩⟩⟩
            exact ⟨rfl, _, rfl⟩
          · rintro σ H2 ⟨rfl, v, rfl⟩
            exact k
        · refine ⟨_, rfl, _, _, _, _, false, rfl, .ty _, tyTup h2, kit_ty (by decide +kernel), _, rfl, iteF ?_⟩
          refine ⟨_, rfl, _, _, _, _, false, rfl, .ty _, tyTup h2, kit_ty (by decide +kernel), _, rfl, iteF ?_⟩
          refine ⟨_, rfl, rfl, _, rfl, iteF ?_⟩
          refine ⟨_, rfl, _, _, _, _, true, rfl, .ty _, tyTup h2, kit_ty (by decide +kernel), _, rfl, _, _, _, _, true, rfl, .ty _, tyTup h1, kit_ty (by decide +kernel), rfl, _, rfl, iteF ?_⟩
          refine ⟨_, rfl, _, _, _, _, false, rfl, .ty _, tyTup h2, kit_ty (by decide +kernel), _, rfl, _, _, _, _, false, rfl, .ty _, tyTup h1, kit_ty (by decide +kernel), rfl, _, rfl, iteF ?_⟩
          refine ⟨_, rfl, a, _, rfl, .inr (.of h1), _, rfl, b, _, rfl, .inr (.of h2), rfl, _, rfl, iteNS (by rw [hl]) ?_⟩
          refine ⟨_, rfl, b, _, rfl, .inr (.of h2), _, rfl, by omega, by omega, for_range (lo := 0) (n := ((ys.length : Nat) : Int).toNat) (fun i σ H2 => H2 = H ∧ ∃ v, σ = [some (.ref a), some (.ref b), v]) ⟨rfl, none, rfl⟩ ?_ ?_⟩
          · rintro i σ H2 hi' ⟨rfl, v, rfl⟩
            have hi2 : i < ys.length := by omega
            have hu : xs[i]? = some xs[i] := List.getElem?_eq_getElem (by omega)
            have hv : ys[i]? = some ys[i] := List.getElem?_eq_getElem hi2
            refine ⟨_, rfl, _, rfl, .inr (.inl ⟨a, xs, _, _, rfl, rfl, .of h1, at_of (j := i) (by omega) hu, _, rfl, _, rfl, .inr (.inl ⟨b, ys, _, _, rfl, rfl, .of h2, at_of (j := i) (by omega) hv, _, _, rfl, nx i _ _ hu hv, true, rfl, iteF ?_⟩)⟩)⟩
            exact ⟨rfl, _, rfl⟩
          · rintro σ H2 ⟨rfl, v, rfl⟩
            exact k
end
end WS
set_option maxRecDepth 100000
set_option maxHeartbeats 4000000
namespace WS
open PySem L2
/-- lists one behind another with c between -/
def jl (c : List Nat) : List (List Nat) → List Nat
  | [] => []
  | [x] => x
  | x :: y :: r => x ++ c ++ jl c (y :: r)
theorem join_jl (s : Str) : ∀ ps : List Str, (Str.join s ps).cps.toList = jl s.cps.toList (ps.map (·.cps.toList))
  | [] => rfl
  | [x] => rfl
  | x :: y :: r => by
    show (x ++ s ++ Str.join s (y :: r)).cps.toList = x.cps.toList ++ s.cps.toList ++ jl s.cps.toList ((y :: r).map (·.cps.toList))
    rw [← join_jl s (y :: r), PySem.Str.cps_append, Array.toList_append, PySem.Str.cps_append, Array.toList_append]
theorem cut_inj {c : Nat} : ∀ {a b x y : List Nat}, c ∉ a → c ∉ b → a ++ c :: x = b ++ c :: y → a = b ∧ x = y
  | [], [], x, y, _, _, h => ⟨rfl, (List.cons.inj h).2⟩
  | [], d :: b, x, y, _, hb, h => absurd (List.mem_cons.mpr (.inl (List.cons.inj h).1)) hb
  | d :: a, [], x, y, ha, _, h => absurd (List.mem_cons.mpr (.inl (List.cons.inj h).1.symm)) ha
  | d :: a, e :: b, x, y, ha, hb, h => by
    obtain ⟨rfl, h2⟩ := List.cons.inj h
    obtain ⟨rfl, e⟩ := cut_inj (fun m => ha (List.mem_cons_of_mem _ m)) (fun m => hb (List.mem_cons_of_mem _ m)) h2
    exact ⟨rfl, e⟩
theorem jl_inj {c : Nat} : ∀ {A B : List (List Nat)}, A ≠ [] → B ≠ [] → (∀ a ∈ A, c ∉ a) → (∀ b ∈ B, c ∉ b) → jl [c] A = jl [c] B → A = B
  | [], _, h, _, _, _, _ => absurd rfl h
  | _ :: _, [], _, h, _, _, _ => absurd rfl h
  | [x], [y], _, _, _, _, h => by rw [show x = y from h]
  | [x], y :: z :: r, _, _, ha, _, h => by
    have h : x = y ++ [c] ++ jl [c] (z :: r) := h
    exact absurd (by rw [h]; simp) (ha x List.mem_cons_self)
  | x :: z :: r, [y], _, _, _, hb, h => by
    have h : x ++ [c] ++ jl [c] (z :: r) = y := h
    exact absurd (by rw [← h]; simp) (hb y List.mem_cons_self)
  | x :: x2 :: r, y :: y2 :: q, _, _, ha, hb, h => by
    have h : x ++ [c] ++ jl [c] (x2 :: r) = y ++ [c] ++ jl [c] (y2 :: q) := h
    rw [List.append_assoc, List.append_assoc] at h
    obtain ⟨rfl, e⟩ := cut_inj (ha x List.mem_cons_self) (hb y List.mem_cons_self) h
    rw [jl_inj (by simp) (by simp) (fun a m => ha a (List.mem_cons_of_mem _ m)) (fun b m => hb b (List.mem_cons_of_mem _ m)) e]
theorem str_ext {a b : Str} (h : a.cps.toList = b.cps.toList) : a = b := by
  cases a; cases b
  congr 1
  exact Array.toList_inj.mp h
/-- a text of parts that hold no c, c between, is split into these parts -/
theorem split_parts {c : Nat} {x : Str} {ps : List Str} (hx : x.cps.toList = jl [c] (ps.map (·.cps.toList))) (hne : ps ≠ []) (hf : ∀ p ∈ ps, c ∉ p.cps.toList) : Txt.split x ⟨#[c]⟩ = ps := by
  have h1 := PySem.StrLaws.join_split x ⟨#[c]⟩
  have h2 := PySem.StrLaws.split_free x c
  have h3 := PyProof.Rows.split_pos x ⟨#[c]⟩
  generalize Txt.split x ⟨#[c]⟩ = L at h1 h2 h3
  have e : jl [c] (L.map (·.cps.toList)) = jl [c] (ps.map (·.cps.toList)) := by
    rw [← hx, ← h1, join_jl]
  have hm : L.map (·.cps.toList) = ps.map (·.cps.toList) := by
    refine jl_inj (c := c) (fun z => ?_) (fun z => hne (List.map_eq_nil_iff.mp z)) (fun a ha => ?_) (fun a ha => ?_) e
    · rw [List.map_eq_nil_iff.mp z] at h3
      simp at h3
    · obtain ⟨p, hp, rfl⟩ := List.mem_map.mp ha
      exact h2 p hp
    · obtain ⟨p, hp, rfl⟩ := List.mem_map.mp ha
      exact hf p hp
  have inj : ∀ {A B : List Str}, A.map (·.cps.toList) = B.map (·.cps.toList) → A = B := by
    intro A
    induction A with
    | nil => intro B h; exact (List.map_eq_nil_iff.mp h.symm).symm
    | cons a r ih =>
      intro B h
      cases B with
      | nil => cases h
      | cons b q =>
        rw [List.map_cons, List.map_cons] at h
        obtain ⟨h1, h2⟩ := List.cons.inj h
        rw [str_ext h1, ih h2]
  exact inj hm
/-- every second item -/
def evens {α : Type} : List α → List α
  | [] => []
  | [x] => [x]
  | x :: _ :: r => x :: evens r
theorem evens_map {α β : Type} (f : α → β) : ∀ l : List α, (evens l).map f = evens (l.map f)
  | [] => rfl
  | [x] => rfl
  | x :: y :: r => by
    show f x :: (evens r).map f = f x :: evens (r.map f)
    rw [evens_map f r]
theorem pick_evens {α : Type} : ∀ l : List α, ((List.range ((l.length + 1) / 2)).map fun k => 2 * k).filterMap (l[·]?) = evens l
  | [] => by simp [evens]
  | [x] => by simp [evens]
  | x :: y :: r => by
    have ih := pick_evens r
    have e : ((x :: y :: r).length + 1) / 2 = (r.length + 1) / 2 + 1 := by
      rw [List.length_cons, List.length_cons]
      omega
    rw [e, List.range_succ_eq_map, List.map_cons, List.map_map]
    show (2 * 0 :: (List.range ((r.length + 1) / 2)).map ((fun k => 2 * k) ∘ Nat.succ)).filterMap ((x :: y :: r)[·]?) = x :: evens r
    rw [List.filterMap_cons]
    show x :: ((List.range ((r.length + 1) / 2)).map ((fun k => 2 * k) ∘ Nat.succ)).filterMap ((x :: y :: r)[·]?) = _
    rw [← ih, List.filterMap_map, List.filterMap_map]
    refine congrArg (fun l => x :: l) ?_
    refine congrArg (fun f => List.filterMap f _) ?_
    funext k
    show (x :: y :: r)[2 * (k + 1)]? = r[2 * k]?
    rw [show 2 * (k + 1) = 2 * k + 1 + 1 by omega, List.getElem?_cons_succ, List.getElem?_cons_succ]
end WS
namespace Ev2
open PySem PySem.Spec PyProof.Rows L2
theorem ev_pick (items : Array Value) : slicePick items none none (some 2) = (WS.evens items.toList).toArray := by
  unfold slicePick
  show ((sliceRange 0 (items.size : Int) 2).filterMap (items[·]?)).toArray = _
  have e : sliceRange 0 (items.size : Int) 2 = (List.range ((items.size + 1) / 2)).map fun k => 2 * k := by
    unfold sliceRange
    rw [if_pos (by decide)]
    by_cases h : (0 : Int) < items.size
    · rw [if_pos h]
      have e1 : (((items.size : Int) - 0 + 2 - 1) / 2).toNat = (items.size + 1) / 2 := by omega
      show (List.range (((items.size : Int) - 0 + 2 - 1) / 2).toNat).map _ = _
      rw [e1]
      refine List.map_congr_left fun k _ => ?_
      omega
    · rw [if_neg h]
      have : items.size = 0 := by omega
      rw [this] <;> rfl
  rw [e, ← WS.pick_evens items.toList, Array.length_toList]
  congr 2
  funext k
  exact (Array.getElem?_toList).symm
def tEv2 (K : PySem.W.Frag) (te : TE) : TE := fun σ H Q => te σ H fun x H1 => ∃ a xs, x = .ref a ∧ SqL K H1 a xs ∧ ∀ p, H1 p = none → Q (.ref p) (upd H1 p (.lst (WS.evens xs)))
theorem vals_evens : ∀ {xs : List V} {us : List Value}, Vals xs us → Vals (WS.evens xs) (WS.evens us)
  | _, _, .nil => .nil
  | _, _, .cons a .nil => .cons a .nil
  | _, _, .cons a (.cons _ t) => .cons a (vals_evens t)
theorem evens_len {α : Type} : ∀ l : List α, (WS.evens l).length ≤ l.length
  | [] => Nat.le_refl _
  | [_] => Nat.le_refl _
  | x :: _ :: r => by
    have := evens_len r
    show (WS.evens r).length + 1 ≤ r.length + 1 + 1
    omega
theorem pe_ev2 {X : Cx} {e : Expr} {te : TE} {k : Nat} {p1 p3 pos : Pos} (he : PE X e te) : PE X (.Subscript e (.Slice none none (some (.Constant (.int 2) k p1)) p3) pos) (tEv2 X.K te) := by
  refine ⟨fun pins s σ H Q I h => ?_⟩
  refine Subscript_ (thn (he.run pins s σ H _ I h) fun v s1 ⟨x, H1, I1, r1, q1⟩ => ?_)
  obtain ⟨a, xs, ex, hx, q⟩ := q1
  subst ex
  cases r1
  have hst : PO X (some (.Constant (.int 2) k p1)) (tPart (tC (.int 2))) := po_some pe_int
  refine wpAny_Slice (thn (po_none.run pins s1 σ H1 (fun o H2 => o = none ∧ H2 = H1) I1 ⟨rfl, rfl⟩) fun vl s2 ⟨l, H2, I2, pl, el, e2⟩ => ?_)
  subst el e2
  refine thn (po_none.run pins s2 σ H2 (fun o H3 => o = none ∧ H3 = H2) I2 ⟨rfl, rfl⟩) fun vu s3 ⟨u, H3, I3, pu, eu, e3⟩ => ?_
  subst eu e3
  refine thn (hst.run pins s3 σ H3 (fun o H4 => o = some 2 ∧ H4 = H3) I3 ⟨2, rfl, rfl, rfl⟩) fun vs s4 ⟨o, H4, I4, ps, eo, e4⟩ => ?_
  subst eo e4
  have I5 : Inv X pins σ H4 { s4 with heap := s4.heap.push { cls := .type "slice", data := .fields #[vl, vu, vs] } } := I4.kept (t' := s4.toks) fun b ob q => Heap.get?_push_of_some _ q
  obtain ⟨its, r, ht, hz⟩ := I5.list hx
  have hlen := r.length
  show wpAny (model X.prog X.w) X.A (subscriptTail e (.Slice none none (some (.Constant (.int 2) k p1)) p3) (.ref a) (.ref s4.heap.objs.size)) (EP X pins σ Q) X.xe { s4 with heap := s4.heap.push { cls := .type "slice", data := .fields #[vl, vu, vs] } }
  refine tail_any (ops := [.ref a, .ref s4.heap.objs.size]) ht.isList.typeIs (PySem.slot_list_getitem.lookup) ?_ (by with_unfolding_all rfl)
  refine wpAny_getItem_list_slice ht.isList (Heap.IsSliceOf.new _ vl vu vs) pl pu ps (by decide) ?_ (by rw [List.size_toArray]; omega)
  rw [ev_pick]
  refine ⟨.ref _, _, I5.laid (t' := s4.toks) (o := .lst (WS.evens xs)) (fun b ob q => Heap.get?_push_of_some _ q) (Nat.le_refl _) ?_, rfl, q _ (I5.hok.fresh (Nat.le_refl _))⟩
  have hl := evens_len xs
  exact ⟨by omega, _, 0, vals_evens r, Heap.get?_push_size _ rfl⟩
end Ev2
set_option maxRecDepth 100000
set_option maxHeartbeats 4000000
namespace WS
open PySem L2
/-- a text of one sign -/
def sg (c : Nat) : V := .str ⟨#[c]⟩
theorem sg_at {cs : List Nat} {i : Nat} (h : i < cs.length) : (cs.map sg)[i]? = some (sg cs[i]) := by
  rw [List.getElem?_map, List.getElem?_eq_getElem h] <;> rfl
/-- a word of at most L signs, each one of cs -/
structure WordOk (cs : List Nat) (L : Nat) (z : Str) : Prop where
  ne : z.cps.toList ≠ []
  len : z.cps.toList.length ≤ L
  mem : ∀ c ∈ z.cps.toList, c ∈ cs
theorem WordOk.length {cs : List Nat} {L : Nat} {z : Str} (h : WordOk cs L z) : 1 ≤ z.length ∧ z.length ≤ L := by
  have e : z.cps.toList.length = z.length := Array.length_toList
  have a := h.len
  have b := List.length_pos_iff.mpr h.ne
  omega
theorem wordOne {cs : List Nat} {L : Nat} {c : Nat} (hL : 1 ≤ L) (h : c ∈ cs) : WordOk cs L ⟨#[c]⟩ :=
  ⟨by simp, hL, fun x hx => by
    have : x = c := by simpa using hx
    rw [this]; exact h⟩
theorem wordCons {cs : List Nat} {L : Nat} {c : Nat} {z : Str} (h : WordOk cs L z) (hc : c ∈ cs) (hl : z.cps.toList.length + 1 ≤ L) : WordOk cs L ((⟨#[c]⟩ : Str) ++ z) := by
  have e : ((⟨#[c]⟩ : Str) ++ z).cps.toList = c :: z.cps.toList := by
    rw [PySem.Str.cps_append, Array.toList_append] <;> rfl
  refine ⟨by rw [e]; simp, by rw [e]; exact hl, fun x hx => ?_⟩
  rw [e] at hx
  rcases List.mem_cons.mp hx with rfl | hx
  · exact hc
  · exact h.mem x hx
def spWord (K : PySem.W.Frag) : Sp := fun vs H Q _ => ∃ (n b : Int) (l : Addr) (cs : List Nat) (L : Nat), vs = [.int n, .int b, .ref l] ∧ SqL K H l (cs.map sg) ∧ (cs.length : Int) = b ∧ 2 ≤ b ∧ b < 1073741824 ∧ 0 ≤ n ∧ n < b ^ L ∧ 1 ≤ L ∧ L ≤ 1000 ∧
  ∀ z, WordOk cs L z → Q (.str z) H
section
variable {P : Program} {w : World} {K : PySem.W.Frag} {mg : Str → Option Value} {base : Heap}
theorem scWord : FnScope ["_law_number", "_law_base", "_law_names_here", "_law_word_here"] ["_law_number", "_law_base", "_law_names_here"] (defScope sWord) := ⟨rfl, rfl, rfl, by decide +kernel, rfl, by decide +kernel, by decide +kernel⟩
theorem pow_step {b n : Int} {k : Nat} (hb : 2 ≤ b) (hn : b ≤ n) (h : n < b ^ k) : 2 ≤ k ∧ n / b < b ^ (k - 1) := by
  have h2 : 2 ≤ k := by
    rcases k with _ | _ | k
    · simp at h; omega
    · have e : b ^ (0 + 1) = b := by rw [Int.pow_succ, Int.pow_zero, Int.one_mul]
      omega
    · omega
  refine ⟨h2, Int.ediv_lt_of_lt_mul (by omega) ?_⟩
  obtain ⟨j, rfl⟩ : ∃ j, k = j + 1 := ⟨k - 1, by omega⟩
  rw [Int.pow_succ] at h
  exact h
theorem ok_word {f : Addr} {fd : FuncData} (F : Fun K "_law_word" "_law_word" sWord f fd) : FnOk P w K mg base CX0 1 f fd ["_law_number", "_law_base", "_law_names_here"] (spWord K) := by
  refine F.ok scWord (fun vs H Q E h => ?_) (fun cdv A outer s H vs Q E hr h => ?_)
  · obtain ⟨n, b, l, cs, L, rfl, _⟩ := h
    rfl
  · obtain ⟨n, b, l, cs, L, rfl, hs, hc, b2, b3, n0, n1, hL, L1, k⟩ := h
    have nd := scWord.nd
    refine ⟨_, (pss_cons (ps_set (i := 3) nd rfl (.inl rfl) (pe_ix (r := rIxL K) ix_list (pv 2) (pe_op op_mod (pv 0) (pv 1)) (fun _ _ => rfl)))
      (pss_cons (ps_while PassesOwn.never (pt_cmpR op_ge (pv 0) (pv 1) (nomark _)) (pss_cons (ps_set (i := 0) nd rfl (.inl rfl) (pe_op op_fdiv (pv 0) (pv 1)))
      (pss_one (ps_set (i := 3) nd rfl (.inl rfl) (pe_op op_add_str (pe_ix (r := rIxL K) ix_list (pv 2) (pe_op op_mod (pv 0) (pv 1)) (fun _ _ => rfl)) (pv 3))))))
      (pss_one (ps_ret (pv 3))))), ?_⟩
    have pick : ∀ x : Int, 0 ≤ x → ∃ c, c ∈ cs ∧ atI (cs.map sg) (x % b) = some (sg c) := fun x hx => by
      have h0 := Int.emod_nonneg x (by omega : b ≠ 0)
      have h1 := Int.emod_lt_of_pos x (by omega : 0 < b)
      have hi : (x % b).toNat < cs.length := by omega
      exact ⟨cs[(x % b).toNat], List.getElem_mem hi, at_of (j := (x % b).toNat) (by omega) (sg_at hi)⟩
    obtain ⟨c, hcm, hcx⟩ := pick n n0
    refine ⟨_, rfl, _, rfl, _, rfl, _, _, rfl, rfl, (by show (0 : Int) < b; omega), l, _, _, _, rfl, rfl, hs, hcx, ?_⟩
    refine while_by (fun σ H2 => H2 = H ∧ ∃ (n' : Int) (z : Str), σ = [some (.int n'), some (.int b), some (.ref l), some (.str z)] ∧ 0 ≤ n' ∧ WordOk cs L z ∧ n' < b ^ (L + 1 - z.cps.toList.length))
      (fun σ _ => match σ with | some (.int n') :: _ => n'.toNat | _ => 0) ⟨rfl, n, _, rfl, n0, wordOne hL hcm, n1⟩ ?_ ?_
    · rintro σ H2 ⟨rfl, n', z, rfl, h0, hz, hb⟩
      refine ⟨_, rfl, _, rfl, _, _, rfl, rfl, _, rfl, ite2 (fun hge => ?_) (fun _ => ?_)⟩
      · have hge' : b ≤ n' := of_decide_eq_true hge
        obtain ⟨h2, hlt⟩ := pow_step b2 hge' hb
        have hd0 : 0 ≤ n' / b := Int.ediv_nonneg h0 (by omega)
        have hdl : n' / b < n' := Int.ediv_lt_of_lt_mul (by omega) (by have := Int.mul_le_mul_of_nonneg_left b2 h0; omega)
        obtain ⟨c', hcm', hcx'⟩ := pick (n' / b) hd0
        have hzl := hz.len
        refine ⟨_, rfl, _, rfl, _, _, rfl, rfl, ⟨by omega, b3⟩, _, rfl, _, rfl, _, rfl, _, _, rfl, rfl, (by show (0 : Int) < b; omega), l, _, _, _, rfl, rfl, hs, hcx', _, rfl, _, _, rfl, rfl, ?_, ?_⟩
        · have e : z.cps.toList.length = z.length := Array.length_toList
          show 1 + z.length ≤ sizeLine
          exact line_of (by omega)
        · refine ⟨⟨rfl, _, _, rfl, hd0, wordCons hz hcm' (by omega), ?_⟩, ?_⟩
          · have e : ((⟨#[c']⟩ : Str) ++ z).cps.toList.length = z.cps.toList.length + 1 := by
              rw [PySem.Str.cps_append, Array.toList_append, List.length_append, Nat.add_comm] <;> rfl
            rw [e]
            have e2 : L + 1 - (z.cps.toList.length + 1) = L + 1 - z.cps.toList.length - 1 := by omega
            rw [e2]
            exact hlt
          · show (n' / b).toNat < n'.toNat
            omega
      · exact ⟨_, rfl, k z hz⟩
    · rintro σ H2 Q1 Q2 hq ⟨x, hx, y, hy, i, j, e1, e2, c, e3, h⟩
      exact ⟨x, hx, y, hy, i, j, e1, e2, c, e3, hq _ _ h⟩
end
end WS
set_option maxRecDepth 100000
set_option maxHeartbeats 4000000
namespace WS
open PySem L2
theorem at_ofG {α : Type} {xs : List α} {z : Int} {j : Nat} {v : α} (e : z = (j : Int)) (h : xs[j]? = some v) : atI xs z = some v := by
  rw [e]; exact atI_nat h
/-- the letters that a sheet's words are made of -/
structure NamesOk (cs : List Nat) (b : Int) : Prop where
  len : (cs.length : Int) = b
  nd : cs.Nodup
  low : ∀ c ∈ cs, 97 ≤ c ∧ c ≤ 122
def abc : Str := "abcdefghijklmnopqrstuvwxyz"
theorem abc_len : abc.length = 26 := by decide +kernel
theorem abc_all : ∀ i : Nat, i < 26 → abc.cps.toList[i]? = some (97 + i) := by decide +kernel
def letter (t s : Int) (i : Nat) : Nat := 97 + ((t + s * (0 + (i : Int))) % 26).toNat
theorem steps_six {j : Nat} (h : j < 6) : ∃ s : Int, ([V.int 1, .int 3, .int 5, .int 7, .int 9, .int 11])[j]? = some (.int s) ∧ (s = 1 ∨ s = 3 ∨ s = 5 ∨ s = 7 ∨ s = 9 ∨ s = 11) := by
  rcases j with _ | _ | _ | _ | _ | _ | j
  · exact ⟨1, rfl, by decide⟩
  · exact ⟨3, rfl, by decide⟩
  · exact ⟨5, rfl, by decide⟩
  · exact ⟨7, rfl, by decide⟩
  · exact ⟨9, rfl, by decide⟩
  · exact ⟨11, rfl, by decide⟩
  · omega
theorem letter_inj {t s : Int} {i j : Nat} (hs : s = 1 ∨ s = 3 ∨ s = 5 ∨ s = 7 ∨ s = 9 ∨ s = 11) (hi : i < 12) (hj : j < 12) (h : letter t s i = letter t s j) : i = j := by
  unfold letter at h
  rcases hs with rfl | rfl | rfl | rfl | rfl | rfl <;> omega
theorem names_ok {t s : Int} {n : Nat} (hs : s = 1 ∨ s = 3 ∨ s = 5 ∨ s = 7 ∨ s = 9 ∨ s = 11) (hn : n ≤ 12) : NamesOk ((List.range n).map (letter t s)) n := by
  refine ⟨by rw [List.length_map, List.length_range], ?_, fun c hc => ?_⟩
  · rw [List.Nodup, List.pairwise_map]
    refine List.Pairwise.imp_of_mem (R := fun a b => a ≠ b) (fun {a b} ha hb hab e => ?_) (show (List.range n).Nodup from List.nodup_range)
    have := List.mem_range.mp ha
    have := List.mem_range.mp hb
    exact hab (letter_inj hs (by omega) (by omega) e)
  · obtain ⟨i, _, rfl⟩ := List.mem_map.mp hc
    unfold letter
    omega
/-- _law_names(d, base) -/
def spNames (K : PySem.W.Frag) : Sp := fun vs H Q _ => ∃ (d a : Addr) (ns : List Int) (b : Int), vs = [.ref d, .int b] ∧ Dice K H d a ns ∧ 2 ≤ b ∧ b ≤ 12 ∧
  ∀ (p : Addr) (H' : Hp) (cs : List Nat), H p = none → Dice K H' d a ns → But d H H' → H' p = some (.lst (cs.map sg)) → NamesOk cs b → Q (.ref p) H'
section
variable {P : Program} {w : World} {K : PySem.W.Frag} {mg : Str → Option Value} {base : Heap}
theorem scNames : FnScope ["_law_d", "_law_base", "_law_turn", "_law_step", "_law_k"] ["_law_d", "_law_base"] (defScope sNames) := ⟨rfl, rfl, rfl, by decide +kernel, rfl, by decide +kernel, by decide +kernel⟩
theorem ok_names {f fN : Addr} {fd fdN : FuncData} (F : Fun K "_law_names" "_law_names" sNames f fd) (z_range : mg "range" = none) (S__law_next : Site K mg "_law_next" fN fdN ["_law_dice_here", "_law_many"])
    (G__law_next : FnOk P w K mg base CX0 1 fN fdN ["_law_dice_here", "_law_many"] (spNext K)) : FnOk P w K mg base CX0 2 f fd ["_law_d", "_law_base"] (spNames K) := by
  refine F.ok scNames (fun vs H Q E h => ?_) (fun cdv A outer s H vs Q E hr h => ?_)
  · obtain ⟨d, a, ns, b, rfl, _⟩ := h
    rfl
  · obtain ⟨d, a, ns, b, rfl, D, b2, b12, k⟩ := h
    have nd := scNames.nd
    have hr__law_next := hr
    refine ⟨_, (pss_cons (ps_set (i := 2) nd rfl (.inr rfl) (pe_call G__law_next hr__law_next (by rfl) S__law_next.g S__law_next.k S__law_next.b .nil pass0 (pa_cons (pv 0) (pa_cons pe_int pa_nil))))
      (pss_cons (ps_set (i := 3) nd rfl (.inr rfl) (pe_ix (r := rIxL K) ix_list (pe_lst (pa_cons pe_int (pa_cons pe_int (pa_cons pe_int (pa_cons pe_int (pa_cons pe_int (pa_cons pe_int pa_nil))))))) (pe_call G__law_next hr__law_next (by rfl) S__law_next.g S__law_next.k S__law_next.b .nil pass0 (pa_cons (pv 0) (pa_cons pe_int pa_nil))) (fun _ _ => rfl)))
      (pss_one (ps_ret (pe_lc (own := [("_law_k", 4)]) (g := (gName 4)) (tt := tYes) rfl nd (pi_range1 (by rfl) z_range (pa_cons (pv 1) pa_nil)) (blkOk_by (own := [("_law_k", 4)]) (N := ["_law_d", "_law_base", "_law_turn", "_law_step", "_law_k"]) (sc := defScope sNames) (by decide +kernel)) (fun _ _ _ _ _ => (pg_name (i := 4) nd rfl (.inl rfl))) (fun _ _ _ _ _ => pts_nil) (fun _ _ _ _ _ => (pe_ix (r := rIxS) ix_str pe_str (pe_op op_mod (pe_op op_add (pv 2) (pe_op op_mul (pv 3) (pv 4))) pe_int) (fun _ _ => rfl)))))))), ?_⟩
    refine ⟨_, rfl, d, a, ns, 26, rfl, D, by decide, by decide, fun t H1 t0 t1 D1 b1 _ => ?_⟩
    refine ⟨by show 6 ≤ sizeLine; decide, fun q hq => ?_⟩
    refine ⟨_, rfl, d, a, ns, 6, rfl, D1.new hq, by decide, by decide, fun j H2 j0 j1 D2 b2' e2 => ?_⟩
    have hqd : q ≠ d := D1.neOf hq
    obtain ⟨st, hst, hs6⟩ := steps_six (j := j.toNat) (by omega)
    refine ⟨q, _, j, _, rfl, rfl, SqL.of ((e2 q hqd).trans upd_same), at_of (j := j.toNat) (by omega) hst, ?_⟩
    have b3 : But d H H2 := (b1.trans (But.new hq)).trans b2'
    refine ⟨_, rfl, b, rfl, by omega, by omega, fun p hp => ?_⟩
    have hp0 : H p = none := b3.free D2.ne hp
    refine lc_range (lo := 0) (n := b.toNat) (fun i H3 => H3 = upd H2 p (.lst (((List.range i).map (letter t st)).map sg))) rfl ?_ ?_
    · rintro i H3 hi rfl
      refine ⟨rfl, _, rfl, _, rfl, _, rfl, _, _, rfl, rfl, .inl ⟨by omega, by omega⟩, _, _, rfl, rfl, _, _, rfl, rfl, (by show (0 : Int) < 26; decide), ?_⟩
      have h0 := Int.emod_nonneg (t + st * (0 + (i : Int))) (by decide : (26 : Int) ≠ 0)
      have h1 := Int.emod_lt_of_pos (t + st * (0 + (i : Int))) (by decide : (0 : Int) < 26)
      refine ⟨abc, (t + st * (0 + (i : Int))) % 26, letter t st i, rfl, rfl, (by rw [abc_len]; decide), ?_, ?_⟩
      · show atI abc.cps.toList ((t + st * (0 + (i : Int))) % 26) = some (letter t st i)
        have := abc_all ((t + st * (0 + (i : Int))) % 26).toNat (by omega)
        exact at_ofG (j := ((t + st * (0 + (i : Int))) % 26).toNat) (by omega) this
      · refine ⟨_, upd_same, ?_, ?_⟩
        · rw [List.length_map, List.length_map, List.length_range]
          exact line_lt (by omega)
        · rw [upd_upd, List.range_succ, List.map_append, List.map_append]
          rfl
    · rintro H3 rfl
      refine k p _ ((List.range b.toNat).map (letter t st)) hp0 (D2.new hp) (b3.trans (But.new hp)) upd_same ?_
      have := names_ok (t := t) hs6 (n := b.toNat) (by omega)
      rw [Int.toNat_of_nonneg (by omega)] at this
      exact this
end
end WS
set_option maxRecDepth 100000
set_option maxHeartbeats 4000000
namespace WS
open PySem L2
/-! ### what a drawn sum is -/
structure SumOk (cs : List Nat) (b : Int) (ws : List Str) (tot : Str) : Prop where
  many : 1 ≤ ws.length ∧ ws.length ≤ 4
  adds : ∀ w ∈ ws, WordOk cs 6 w
  total : WordOk cs 6 tot
  big : 6 < b → ws.length = 2 ∧ (∀ w ∈ ws, WordOk cs 1 w) ∧ WordOk cs 2 tot
theorem WordOk.mono {cs : List Nat} {L L' : Nat} {z : Str} (h : WordOk cs L z) (l : L ≤ L') : WordOk cs L' z := ⟨h.ne, Nat.le_trans h.len l, h.mem⟩
theorem join_empty : ∀ xs : List Str, (Str.join Str.empty xs).cps.toList = (xs.map (·.cps.toList)).flatten
  | [] => rfl
  | [x] => by show x.cps.toList = x.cps.toList ++ []; rw [List.append_nil]
  | x :: y :: r => by
    show (x ++ Str.empty ++ Str.join Str.empty (y :: r)).cps.toList = x.cps.toList ++ ((y :: r).map (·.cps.toList)).flatten
    rw [← join_empty (y :: r), PySem.Str.cps_append, Array.toList_append, PySem.Str.cps_append, Array.toList_append]
    show x.cps.toList ++ [] ++ _ = _
    rw [List.append_nil]
theorem join_signs (cs : List Nat) : (Str.join Str.empty (cs.map fun c => (⟨#[c]⟩ : Str))).cps.toList = cs := by
  rw [join_empty, List.map_map]
  induction cs with
  | nil => rfl
  | cons c r ih =>
    show [c] ++ (r.map _).flatten = c :: r
    rw [ih] <;> rfl
theorem word_join {cs xs : List Nat} {L : Nat} (h0 : xs ≠ []) (h1 : xs.length ≤ L) (h2 : ∀ c ∈ xs, c ∈ cs) : WordOk cs L (Str.join Str.empty (xs.map fun c => (⟨#[c]⟩ : Str))) :=
  ⟨by rw [join_signs]; exact h0, by rw [join_signs]; exact h1, by rw [join_signs]; exact h2⟩
theorem sg_strs (xs : List Nat) : xs.map sg = (xs.map fun c => (⟨#[c]⟩ : Str)).map V.str := by
  rw [List.map_map] <;> rfl
theorem cutV_1 (xs : List V) (h : 1 ≤ xs.length) : cutV xs (some 1) none = xs.drop 1 := by
  unfold cutV
  have e : HT.sIx xs.length 0 (some 1) = 1 := by
    have := HT.sIx_nat xs.length 0 1
    rw [show ((1 : Nat) : Int) = 1 from rfl] at this
    rw [this]; omega
  rw [e, HT.sIx_none]
  exact List.take_of_length_le (by rw [List.length_drop] <;> exact Nat.le_refl _)
/-- the limits of the numbers that are drawn -/
def limOf (b : Int) : Int := if 6 < b then b else if b < 5 then b * b * b * b else b * b * b
def lengthOf (b : Int) : Nat := if 6 < b then 1 else 4
theorem lim_facts {b : Int} (h2 : 2 ≤ b) (h12 : b ≤ 12) : 0 < limOf b ∧ limOf b < 1073741824 ∧ limOf b ≤ b ^ lengthOf b ∧ 4 * limOf b ≤ b ^ 6 ∧ (6 < b → 2 * limOf b ≤ b ^ 2) := by
  have e : b = 2 ∨ b = 3 ∨ b = 4 ∨ b = 5 ∨ b = 6 ∨ b = 7 ∨ b = 8 ∨ b = 9 ∨ b = 10 ∨ b = 11 ∨ b = 12 := by omega
  rcases e with rfl | rfl | rfl | rfl | rfl | rfl | rfl | rfl | rfl | rfl | rfl <;> decide
theorem sum_le : ∀ {xs : List Int} {m : Int}, (∀ x ∈ xs, 0 ≤ x ∧ x < m) → 0 ≤ xs.sum ∧ xs.sum ≤ xs.length * (m - 1)
  | [], m, _ => by simp
  | x :: r, m, h => by
    obtain ⟨a, b⟩ := sum_le (xs := r) fun y hy => h y (List.mem_cons_of_mem _ hy)
    obtain ⟨c, d⟩ := h x List.mem_cons_self
    rw [List.sum_cons, List.length_cons]
    refine ⟨by omega, ?_⟩
    have : ((r.length + 1 : Nat) : Int) * (m - 1) = r.length * (m - 1) + (m - 1) := by
      rw [Int.natCast_add, Int.add_mul]; simp
    rw [this]; omega
theorem sum_lim {b : Int} (h2 : 2 ≤ b) (h12 : b ≤ 12) {xs : List Int} (h : ∀ x ∈ xs, 0 ≤ x ∧ x < limOf b) (hl : xs.length ≤ 4) : 0 ≤ xs.sum ∧ xs.sum < b ^ 6 ∧ (6 < b → xs.length = 2 → xs.sum < b ^ 2) := by
  obtain ⟨a, c⟩ := sum_le h
  obtain ⟨l0, _, _, l4, l2⟩ := lim_facts h2 h12
  have hm : (xs.length : Int) * (limOf b - 1) ≤ 4 * (limOf b - 1) := Int.mul_le_mul_of_nonneg_right (by omega) (by omega)
  refine ⟨a, by omega, fun hb he => ?_⟩
  have := l2 hb
  rw [he] at c
  omega
end WS
set_option maxRecDepth 100000
set_option maxHeartbeats 8000000
namespace WS
open PySem L2
theorem names_off {K : PySem.W.Frag} {H : Hp} {d a l : Addr} {ns : List Int} {cs : List Nat} (D : Dice K H d a ns) (hl : H l = some (.lst (cs.map sg))) : l ≠ d := by
  intro e
  subst e
  obtain ⟨i, m, c, h, _⟩ := D.ex
  rw [h] at hl
  have := HO.lst.inj (Option.some.inj hl)
  rcases cs with _ | ⟨x, r⟩
  · cases this
  · injection this with h1 _
    cases h1
/-- _law_sum(d, base, names): one sum -/
def spSum (K : PySem.W.Frag) : Sp := fun vs H Q _ => ∃ (d a : Addr) (ns : List Int) (b : Int) (l : Addr) (cs : List Nat), vs = [.ref d, .int b, .ref l] ∧ Dice K H d a ns ∧ 2 ≤ b ∧ b ≤ 12 ∧ H l = some (.lst (cs.map sg)) ∧ (cs.length : Int) = b ∧
  ∀ (t u : Addr) (H' : Hp) (ws : List Str) (tot : Str), H t = none → H u = none → Dice K H' d a ns → But d H H' → H' t = some (.tup [.ref u, .str tot]) → H' u = some (.tup (ws.map V.str)) → SumOk cs b ws tot → Q (.ref t) H'
section
variable {P : Program} {w : World} {K : PySem.W.Frag} {mg : Str → Option Value} {base : Heap}
theorem scSum : FnScope ["_law_d", "_law_base", "_law_names_here", "_law_limit", "_law_many", "_law_words", "_law_k", "_law_size", "_law_numbers", "_law_j", "_law_number"] ["_law_d", "_law_base", "_law_names_here"] (defScope sSum) := ⟨rfl, rfl, rfl, by decide +kernel, rfl, by decide +kernel, by decide +kernel⟩
theorem ok_sum {f fN fW : Addr} {fd fdN fdW : FuncData} (F : Fun K "_law_sum" "_law_sum" sSum f fd) (z_range : mg "range" = none) (z_tuple : mg "tuple" = none) (z_sum : mg "sum" = none)
    (S__law_next : Site K mg "_law_next" fN fdN ["_law_dice_here", "_law_many"]) (G__law_next : FnOk P w K mg base CX0 1 fN fdN ["_law_dice_here", "_law_many"] (spNext K))
    (S__law_word : Site K mg "_law_word" fW fdW ["_law_number", "_law_base", "_law_names_here"]) (G__law_word : FnOk P w K mg base CX0 1 fW fdW ["_law_number", "_law_base", "_law_names_here"] (spWord K)) :
    FnOk P w K mg base CX0 2 f fd ["_law_d", "_law_base", "_law_names_here"] (spSum K) := by
  refine F.ok scSum (fun vs H Q E h => ?_) (fun cdv A outer s H vs Q E hr h => ?_)
  · obtain ⟨d, a, ns, b, l, cs, rfl, _⟩ := h
    rfl
  · obtain ⟨d, a, ns, b, l, cs, rfl, D, b2, b12, hl, hcs, k⟩ := h
    have nd := scSum.nd
    have hr__law_next := hr
    have hr__law_word := hr
    have hld := names_off D hl
    obtain ⟨l0, l30, lL, l4, l2⟩ := lim_facts b2 b12
    have pick : ∀ v : Int, 0 ≤ v → v < b → ∃ c, c ∈ cs ∧ atI (cs.map sg) v = some (sg c) := fun v h0 h1 => by
      have hi : v.toNat < cs.length := by omega
      exact ⟨cs[v.toNat], List.getElem_mem hi, at_of (j := v.toNat) (by omega) (sg_at hi)⟩
    refine ⟨_, (pss_cons (ps_set (i := 3) nd rfl (.inr rfl) (pe_op op_mul (pe_op op_mul (pv 1) (pv 1)) (pv 1)))
      (Evl.pss_cut (ps_if (pt_cmpR op_lt (pv 1) pe_int (nomark _)) (pss_one (ps_set (i := 3) nd rfl (.inr rfl) (pe_op op_mul (pv 3) (pv 1)))) pss_nil)
      (pss_cons (ps_set (i := 4) nd rfl (.inl rfl) (pe_op op_add pe_int (pe_call G__law_next hr__law_next (by rfl) S__law_next.g S__law_next.k S__law_next.b .nil pass0 (pa_cons (pv 0) (pa_cons pe_int pa_nil)))))
      (Evl.pss_cut (ps_if (pt_cmpR op_gt (pv 1) pe_int (nomark _)) (pss_cons (ps_set (i := 3) nd rfl (.inr rfl) (pv 1))
      (pss_one (ps_set (i := 4) nd rfl (.inl rfl) pe_int))) pss_nil)
      (Evl.pss_cut (ps_if (PW.pt (pw_and (pt_cmpR op_eq (pe_call G__law_next hr__law_next (by rfl) S__law_next.g S__law_next.k S__law_next.b .nil pass0 (pa_cons (pv 0) (pa_cons pe_int pa_nil))) pe_int (nomark _)) (pw_and1 (pt_cmpR op_lt (pv 1) pe_int (nomark _))))) (pss_cons (ps_set (i := 5) nd rfl (.inl rfl) (pe_lst pa_nil))
      (pss_cons (ps_for PassesOwn.never rfl (pi_range1 (by rfl) z_range (pa_cons (pe_op op_add (pv 4) pe_int) pa_nil)) (pg_name (i := 6) nd rfl (.inl rfl)) (pss_cons (ps_set (i := 7) nd rfl (.inl rfl) (pe_op op_add pe_int (pe_call G__law_next hr__law_next (by rfl) S__law_next.g S__law_next.k S__law_next.b .nil pass0 (pa_cons (pv 0) (pa_cons pe_int pa_nil)))))
      (Evl.pss_cut (ps_if (PW.pt (pw_and (pt_cmpR op_lt (pv 1) pe_int (nomark _)) (pw_and1 (pt_cmpR op_eq (pe_call G__law_next hr__law_next (by rfl) S__law_next.g S__law_next.k S__law_next.b .nil pass0 (pa_cons (pv 0) (pa_cons pe_int pa_nil))) pe_int (nomark _))))) (pss_one (ps_set (i := 7) nd rfl (.inl rfl) (pe_op op_add pe_int (pe_call G__law_next hr__law_next (by rfl) S__law_next.g S__law_next.k S__law_next.b .nil pass0 (pa_cons (pv 0) (pa_cons pe_int pa_nil)))))) pss_nil)
      (pss_one (ps_expr (pe_bm PySem.F.plainAttrs_list PySem.F.slot_list_append PySem.F.type_list_append mt_append (pv 5) (pa_cons (pe_join pe_str (pe_lc (own := [("_law_j", 9)]) (g := (gName 9)) (tt := tYes) rfl nd (pi_range1 (by rfl) z_range (pa_cons (pv 7) pa_nil)) (blkOk_by (own := [("_law_j", 9)]) (N := ["_law_d", "_law_base", "_law_names_here", "_law_limit", "_law_many", "_law_words", "_law_k", "_law_size", "_law_numbers", "_law_j", "_law_number"]) (sc := defScope sSum) (by decide +kernel)) (fun _ _ _ _ _ => (pg_name (i := 9) nd rfl (.inl rfl))) (fun _ _ _ _ _ => pts_nil) (fun _ _ _ _ _ => (pe_ix (r := rIxL K) ix_list (pv 2) (pe_call G__law_next hr__law_next (by rfl) S__law_next.g S__law_next.k S__law_next.b .nil pass0 (pa_cons (pv 0) (pa_cons (pv 1) pa_nil))) (fun _ _ => rfl))))) pa_nil)))))))
      (pss_one (ps_ret (pe_tup (pa_cons (pe_callTy call_tuple_of (by rfl) z_tuple (by decide +kernel) (pa_cons (pe_slice sl_list (pv 5) (po_some pe_int) po_none) pa_nil)) (pa_cons (pe_ix (r := rIxL K) ix_list (pv 5) pe_int (fun _ _ => rfl)) pa_nil))))))) pss_nil)
      (pss_cons (ps_setLc (i := 8) (own := [("_law_k", 6)]) (g := (gName 6)) (tt := tYes) rfl nd rfl rfl (sw_true rfl rfl rfl (by decide +kernel)) (pi_range1 (by rfl) z_range (pa_cons (pv 4) pa_nil)) (blkOk_by (own := [("_law_k", 6)]) (N := ["_law_d", "_law_base", "_law_names_here", "_law_limit", "_law_many", "_law_words", "_law_k", "_law_size", "_law_numbers", "_law_j", "_law_number"]) (sc := defScope sSum) (by decide +kernel)) (fun _ _ _ _ _ => (pg_name (i := 6) nd rfl (.inl rfl))) (fun _ _ _ _ _ => pts_nil) (fun _ _ _ _ _ => (pe_call G__law_next hr__law_next (by rfl) S__law_next.g S__law_next.k S__law_next.b .nil pass0 (pa_cons (pv 0) (pa_cons (pv 3) pa_nil)))))
      (pss_one (ps_ret (pe_tup (pa_cons (pe_callTy call_tuple_of (by rfl) z_tuple (by decide +kernel) (pa_cons (pe_lc (own := [("_law_number", 10)]) (g := (gName 10)) (tt := tYes) rfl nd (pi_list (pv 8)) (blkOk_by (own := [("_law_number", 10)]) (N := ["_law_d", "_law_base", "_law_names_here", "_law_limit", "_law_many", "_law_words", "_law_k", "_law_size", "_law_numbers", "_law_j", "_law_number"]) (sc := defScope sSum) (by decide +kernel)) (fun _ _ _ _ _ => (pg_name (i := 10) nd rfl (.inl rfl))) (fun _ _ _ _ _ => pts_nil) (fun _ _ _ _ _ => (pe_call G__law_word hr__law_word (by rfl) S__law_word.g S__law_word.k S__law_word.b .nil pass0 (pa_cons (pv 10) (pa_cons (pv 1) (pa_cons (pv 2) pa_nil)))))) pa_nil)) (pa_cons (pe_call G__law_word hr__law_word (by rfl) S__law_word.g S__law_word.k S__law_word.b .nil pass0 (pa_cons (pe_callB (cr_sum rfl) (by rfl) z_sum (by decide +kernel) (pa_cons (pv 8) pa_nil)) (pa_cons (pv 1) (pa_cons (pv 2) pa_nil)))) pa_nil))))))))))), ?_⟩
    refine ⟨_, rfl, _, rfl, _, _, rfl, rfl, .inl ⟨by omega, by omega⟩, _, rfl, _, _, rfl, rfl, .inr ⟨by omega, by omega⟩, ?_⟩
    refine ⟨fun σ H1 => H = H1 ∧ σ = [some (.ref d), some (.int b), some (.ref l), some (.int (if b < 5 then b * b * b * b else b * b * b)), none, none, none, none, none, none, none], ?_, ?_⟩
    · refine ⟨_, rfl, _, _, rfl, rfl, _, rfl, ite2 (fun c => ?_) (fun c => ?_)⟩
      · refine ⟨_, rfl, _, rfl, _, _, rfl, rfl, .inr ⟨by omega, by omega⟩, rfl, ?_⟩
        rw [if_pos (of_decide_eq_true c)] <;> rfl
      · refine ⟨rfl, ?_⟩
        rw [if_neg (fun h => c (decide_eq_true h))] <;> rfl
    · rintro σ H1 ⟨rfl, rfl⟩
      refine ⟨_, rfl, d, a, ns, 4, rfl, D, by decide, by decide, fun v H1' v0 v1 D1 b1 _ => ?_⟩
      refine ⟨_, _, rfl, rfl, ?_⟩
      refine ⟨fun σ H2 => H2 = H1' ∧ ∃ m : Int, σ = [some (.ref d), some (.int b), some (.ref l), some (.int (limOf b)), some (.int m), none, none, none, none, none, none] ∧ 1 ≤ m ∧ m ≤ 4 ∧ (6 < b → m = 2), ?_, ?_⟩
      · refine ⟨_, rfl, _, _, rfl, rfl, _, rfl, ite2 (fun c => ?_) (fun c => ?_)⟩
        · refine ⟨_, rfl, rfl, 2, ?_, by decide, by decide, fun _ => rfl⟩
          have e : limOf b = b := by unfold limOf; rw [if_pos (of_decide_eq_true c)]
          rw [e] <;> rfl
        · refine ⟨rfl, 1 + v, ?_, by omega, by omega, fun h => absurd (decide_eq_true h) c⟩
          have e : limOf b = if b < 5 then b * b * b * b else b * b * b := by unfold limOf; rw [if_neg (fun h => c (decide_eq_true h))]
          rw [e] <;> rfl
      · rintro σ H2 ⟨rfl, m, rfl, m0, m4, mb⟩
        refine ⟨fun σ H3 => σ = [some (.ref d), some (.int b), some (.ref l), some (.int (limOf b)), some (.int m), none, none, none, none, none, none] ∧ Dice K H3 d a ns ∧ But d H H3, ?_, ?_⟩
        · refine ⟨_, rfl, d, a, ns, 4, rfl, D1, by decide, by decide, fun v' H3 v0' v1' D3 b3 _ => ?_⟩
          refine ⟨rfl, _, rfl, ite2 (fun c => ?_) (fun c => iteF ?_)⟩
          · refine ⟨_, rfl, _, _, rfl, rfl, _, rfl, ite2 (fun c => ?_) (fun c => ?_)⟩
            · -- the words' branch
              have hb7 : b < 7 := of_decide_eq_true c
              have b3' := b1.trans b3
              refine ⟨by show 0 ≤ sizeLine; decide, fun wl hwl => ?_⟩
              have hw0 : H wl = none := b3'.free D3.ne hwl
              have hwd : wl ≠ d := D3.neOf hwl
              refine ⟨_, rfl, _, _, rfl, rfl, _, rfl, by omega, by omega, for_range (lo := 0) (n := (m + 1).toNat) (fun i σ H4 => ∃ (ws : List Str) (v6 v7 : Option V), σ = [some (.ref d), some (.int b), some (.ref l), some (.int (limOf b)), some (.int m), some (.ref wl), v6, v7, none, none, none] ∧
                  Dice K H4 d a ns ∧ But d H H4 ∧ H4 wl = some (.lst (ws.map V.str)) ∧ ws.length = i ∧ ∀ w ∈ ws, WordOk cs 6 w)
                ⟨[], none, none, rfl, D3.new hwl, b3'.trans (But.new hwl), upd_same, rfl, fun w hw => nomatch hw⟩ ?_ ?_⟩
              · rintro i σ H4 hi ⟨ws, v6, v7, rfl, D4, b4, hws, hwn, hwo⟩
                refine ⟨_, rfl, d, a, ns, 3, rfl, D4, by decide, by decide, fun v H5 v0 v1 D5 b5 e5 => ?_⟩
                refine ⟨_, _, rfl, rfl, ?_⟩
                refine ⟨fun σ H6 => ∃ sz : Int, σ = [some (.ref d), some (.int b), some (.ref l), some (.int (limOf b)), some (.int m), some (.ref wl), some (.int (0 + (i : Int))), some (.int sz), none, none, none] ∧ 1 ≤ sz ∧ sz ≤ 6 ∧
                    Dice K H6 d a ns ∧ But d H H6 ∧ H6 wl = some (.lst (ws.map V.str)), ?_, ?_⟩
                · have out : ∃ sz : Int, [some (V.ref d), some (V.int b), some (V.ref l), some (V.int (limOf b)), some (V.int m), some (V.ref wl), some (V.int (0 + (i : Int))), some (V.int (1 + v)), none, none, none] = [some (.ref d), some (.int b), some (.ref l), some (.int (limOf b)), some (.int m), some (.ref wl), some (.int (0 + (i : Int))), some (.int sz), none, none, none] ∧ 1 ≤ sz ∧ sz ≤ 6 ∧
                    Dice K H5 d a ns ∧ But d H H5 ∧ H5 wl = some (.lst (ws.map V.str)) := ⟨1 + v, rfl, by omega, by omega, D5, b4.trans b5, (e5 wl hwd).trans hws⟩
                  refine ⟨_, rfl, _, _, rfl, rfl, _, rfl, ite2 (fun _ => ?_) (fun _ => iteF out)⟩
                  refine ⟨_, rfl, d, a, ns, 4, rfl, D5, by decide, by decide, fun v2 H6 _ _ D6 b6 e6 => ?_⟩
                  refine ⟨rfl, _, rfl, ite2 (fun _ => ?_) (fun _ => ?_)⟩
                  · refine ⟨_, rfl, d, a, ns, 6, rfl, D6, by decide, by decide, fun v3 H7 v30 v31 D7 b7 e7 => ?_⟩
                    exact ⟨_, _, rfl, rfl, 1 + v3, rfl, by omega, by omega, D7, ((b4.trans b5).trans b6).trans b7, (e7 wl hwd).trans ((e6 wl hwd).trans ((e5 wl hwd).trans hws))⟩
                  · exact ⟨1 + v, rfl, by omega, by omega, D6, (b4.trans b5).trans b6, (e6 wl hwd).trans ((e5 wl hwd).trans hws)⟩
                · rintro σ H6 ⟨sz, rfl, sz1, sz6, D6, b6, hw6⟩
                  refine ⟨_, rfl, .inl ⟨rfl, _, SqL.of hw6⟩, ⟨_, rfl⟩, _, rfl, sz, rfl, by omega, by omega, fun D' hD' => ?_⟩
                  have hD0 : H D' = none := b6.free D6.ne hD'
                  have hDd : D' ≠ d := D6.neOf hD'
                  have hDw : wl ≠ D' := ne_of_none hw6 hD'
                  refine lc_range (lo := 0) (n := sz.toNat) (fun j H7 => ∃ xs : List Nat, H7 D' = some (.lst (xs.map sg)) ∧ xs.length = j ∧ (∀ c ∈ xs, c ∈ cs) ∧ Dice K H7 d a ns ∧ But d H H7 ∧ H7 wl = some (.lst (ws.map V.str)))
                    ⟨[], upd_same, rfl, (fun c hc => nomatch hc), D6.new hD', b6.trans (But.new hD'), (upd_ne hDw).trans hw6⟩ ?_ ?_
                  · rintro j H7 hj ⟨xs, hx, hxn, hxc, D7, b7, hw7⟩
                    refine ⟨rfl, _, rfl, _, rfl, _, rfl, d, a, ns, b, rfl, D7, by omega, by omega, fun v H8 v0 v1 D8 b8 e8 => ?_⟩
                    obtain ⟨cc, hcm, hcx⟩ := pick v v0 v1
                    refine ⟨l, _, v, _, rfl, rfl, SqL.of ((b7.trans b8) l _ hld hl), hcx, xs.map sg, (e8 D' hDd).trans hx, by rw [List.length_map]; exact line_lt (by omega), xs ++ [cc], ?_, ?_, ?_, D.mut (b7.trans b8) D8 hD0, (b7.trans b8).mut hD0, ?_⟩
                    · rw [upd_same, List.map_append] <;> rfl
                    · rw [List.length_append, hxn] <;> rfl
                    · intro y hy
                      rcases List.mem_append.mp hy with hy | hy
                      · exact hxc y hy
                      · have : y = cc := by simpa using hy
                        rw [this]; exact hcm
                    · rw [upd_ne hDw]; exact (e8 wl hwd).trans hw7
                  · rintro H7 ⟨xs, hx, hxn, hxc, D7, b7, hw7⟩
                    have hsum : ((xs.map fun c => (⟨#[c]⟩ : Str)).map (·.length)).sum = xs.length := by
                      rw [List.map_map]
                      clear hx hxn hxc
                      induction xs with
                      | nil => rfl
                      | cons c r ih =>
                        rw [List.map_cons, List.sum_cons, ih, List.length_cons, Nat.add_comm] <;> rfl
                    refine ⟨_, D', xs.map fun c => (⟨#[c]⟩ : Str), rfl, rfl, .inl (SqL.of (by rw [← sg_strs]; exact hx)), ?_, ?_⟩
                    · rw [hsum]
                      show xs.length + _ * 0 ≤ 16777216
                      omega
                    · refine ⟨wl, _, _, rfl, rfl, hw7, by rw [List.length_map]; exact line_lt (by omega), ?_⟩
                      have hok : WordOk cs 6 (Txt.join ("" : Str) (xs.map fun c => (⟨#[c]⟩ : Str))) := by
                        have e : Txt.join ("" : Str) (xs.map fun c => (⟨#[c]⟩ : Str)) = Str.join Str.empty (xs.map fun c => (⟨#[c]⟩ : Str)) := StrLaws.glued_eq_join _ _
                        rw [e]
                        exact word_join (fun e => by rw [e] at hxn; simp at hxn; omega) (by omega) hxc
                      refine ⟨ws ++ [Txt.join ("" : Str) (xs.map fun c => (⟨#[c]⟩ : Str))], _, _, rfl, D.mut b7 D7 hw0, b7.mut hw0, ?_, ?_, ?_⟩
                      · rw [upd_same, List.map_append] <;> rfl
                      · rw [List.length_append, hwn] <;> rfl
                      · intro y hy
                        rcases List.mem_append.mp hy with hy | hy
                        · exact hwo y hy
                        · have : y = _ := List.mem_singleton.mp hy
                          rw [this]; exact hok
              · rintro σ H4 ⟨ws, v6, v7, rfl, D4, b4, hws, hwn, hwo⟩
                obtain ⟨w0, wr, rfl⟩ : ∃ w0 wr, ws = w0 :: wr := by
                  rcases ws with _ | ⟨w0, wr⟩
                  · simp at hwn; omega
                  · exact ⟨w0, wr, rfl⟩
                refine ⟨_, rfl, _, rfl, wl, _, rfl, SqL.of hws, fun p hp => ?_⟩
                refine ⟨p, _, rfl, .inl ⟨SqL.of upd_same, fun u hu => ?_⟩⟩
                have hwp : wl ≠ p := ne_of_none hws hp
                have hpu : p ≠ u := fun e => by
                  rw [e, upd_same] at hu
                  cases hu
                have hu4 : H4 u = none := by
                  rw [upd_ne (Ne.symm hpu)] at hu
                  exact hu
                have hwu : wl ≠ u := ne_of_none hws hu4
                refine ⟨_, rfl, wl, (w0 :: wr).map V.str, 0, V.str w0, rfl, rfl, SqL.of ?_, at_of (j := 0) rfl rfl, by show 2 ≤ sizeLine; decide, fun t ht => ?_⟩
                · rw [upd_ne hwu, upd_ne hwp]; exact hws
                · have hut : u ≠ t := ne_of_none upd_same ht
                  have ht4 : H4 t = none := by
                    rw [upd_ne (Ne.symm hut)] at ht
                    by_cases e : t = p
                    · rw [e, upd_same] at ht; cases ht
                    · rw [upd_ne e] at ht; exact ht
                  have n3 : ∀ {o o' o'' : HO}, Same H4 (upd (upd (upd H4 p o) u o') t o'') := fun b' o h => by
                    rw [upd_ne (ne_of_none h ht4), upd_ne (ne_of_none h hu4), upd_ne (ne_of_none h hp)]; exact h
                  refine k t u _ wr w0 (b4.free D4.ne ht4) (b4.free D4.ne hu4) (D4.same n3) (b4.trans (But.of n3)) upd_same ?_ ?_
                  · rw [upd_ne hut, upd_same, cutV_1 _ (by rw [List.length_map, List.length_cons]; omega)]
                    rfl
                  · have hl' : wr.length + 1 = (m + 1).toNat := hwn
                    exact ⟨by omega, fun w hw => hwo w (List.mem_cons_of_mem _ hw), hwo w0 List.mem_cons_self, fun h => by omega⟩
            · exact ⟨rfl, D3, b1.trans b3⟩
          · exact ⟨rfl, D3, b1.trans b3⟩
        · rintro σ H3 ⟨rfl, D3, b3⟩
          -- the numbers' branch
          refine ⟨_, rfl, m, rfl, by omega, by omega, fun D' hD' => ?_⟩
          have hD0 : H D' = none := b3.free D3.ne hD'
          have hDd : D' ≠ d := D3.neOf hD'
          refine lc_range (lo := 0) (n := m.toNat) (fun j H7 => ∃ xs : List Int, H7 D' = some (.lst (xs.map V.int)) ∧ xs.length = j ∧ (∀ x ∈ xs, 0 ≤ x ∧ x < limOf b) ∧ Dice K H7 d a ns ∧ But d H H7)
            ⟨[], upd_same, rfl, (fun c hc => nomatch hc), D3.new hD', b3.trans (But.new hD')⟩ ?_ ?_
          · rintro j H7 hj ⟨xs, hx, hxn, hxc, D7, b7⟩
            refine ⟨rfl, _, rfl, _, rfl, d, a, ns, limOf b, rfl, D7, l0, l30, fun v H8 v0 v1 D8 b8 e8 => ?_⟩
            refine ⟨xs.map V.int, (e8 D' hDd).trans hx, by rw [List.length_map]; exact line_lt (by omega), xs ++ [v], ?_, ?_, ?_, D.mut (b7.trans b8) D8 hD0, (b7.trans b8).mut hD0⟩
            · rw [upd_same, List.map_append] <;> rfl
            · rw [List.length_append, hxn] <;> rfl
            · intro y hy
              rcases List.mem_append.mp hy with hy | hy
              · exact hxc y hy
              · have : y = v := by simpa using hy
                rw [this]; exact ⟨v0, v1⟩
          · rintro H7 ⟨xs, hx, hxn, hxc, D7, b7⟩
            obtain ⟨s0, s6, s2⟩ := sum_lim b2 b12 hxc (by omega)
            have hl7 : H7 l = some (.lst (cs.map sg)) := b7 l _ hld hl
            refine ⟨_, rfl, D', rfl, ⟨_, SqL.of hx⟩, fun D2 hD2 => ?_⟩
            have hD2x : D' ≠ D2 := ne_of_none hx hD2
            have hD2l : l ≠ D2 := ne_of_none hl7 hD2
            refine lc_list (K := K) (a := D') (xs := xs.map V.int) (fun j H8 => ∃ ws : List Str, H8 = upd H7 D2 (.lst (ws.map V.str)) ∧ ws.length = j ∧ ∀ w ∈ ws, WordOk cs (lengthOf b) w)
              ⟨[], rfl, rfl, fun w hw => nomatch hw⟩ (fun j H8 _ ⟨ws, e, _⟩ => by rw [e]; exact SqL.of ((upd_ne hD2x).trans hx)) ?_ ?_
            · rintro j y H8 hj ⟨ws, rfl, hwn, hwo⟩
              obtain ⟨z, hz, rfl⟩ := ints_at hj
              obtain ⟨z0, z1⟩ := hxc z (List.mem_of_getElem? hz)
              have hjl : j < xs.length := (List.getElem?_eq_some_iff.mp hz).1
              have hL : 1 ≤ lengthOf b ∧ lengthOf b ≤ 4 := by unfold lengthOf; split <;> omega
              refine ⟨rfl, _, rfl, _, rfl, _, rfl, z, b, l, cs, lengthOf b, rfl, SqL.of ((upd_ne hD2l).trans hl7), hcs, b2, by omega, z0, by omega, hL.1, by omega, fun zz hzz => ?_⟩
              refine ⟨ws.map V.str, upd_same, by rw [List.length_map]; exact line_lt (by omega), ws ++ [zz], ?_, ?_, ?_⟩
              · rw [upd_upd, List.map_append] <;> rfl
              · rw [List.length_append, hwn] <;> rfl
              · intro y hy
                rcases List.mem_append.mp hy with hy | hy
                · exact hwo y hy
                · have : y = zz := by simpa using hy
                  rw [this]; exact hzz
            · rintro H8 ⟨ws, rfl, hwn, hwo⟩
              rw [List.length_map] at hwn
              refine ⟨D2, _, rfl, .inl ⟨SqL.of upd_same, fun u hu => ?_⟩⟩
              have hu2 : u ≠ D2 := fun e => by
                rw [e, upd_same] at hu
                cases hu
              have hu7 : H7 u = none := by
                rw [upd_ne hu2] at hu
                exact hu
              have sm : ∀ {o o' : HO}, Same H7 (upd (upd H7 D2 o) u o') := fun b' o h => by
                rw [upd_ne (ne_of_none h hu7), upd_ne (ne_of_none h hD2)]; exact h
              refine ⟨_, rfl, D', xs, rfl, SqL.of (sm _ _ hx), _, rfl, _, rfl, xs.sum, b, l, cs, if 6 < b then 2 else 6, rfl, SqL.of (sm _ _ hl7), hcs, b2, by omega, s0, ?_, by split <;> omega, by split <;> omega, fun tot htot => ?_⟩
              · split
                · rename_i h
                  exact s2 h (by have := mb h; omega)
                · exact s6
              · refine ⟨by show 2 ≤ sizeLine; decide, fun t ht => ?_⟩
                have hut : u ≠ t := ne_of_none upd_same ht
                have ht7 : H7 t = none := by
                  rw [upd_ne (Ne.symm hut)] at ht
                  by_cases e : t = D2
                  · rw [e, upd_same] at ht; cases ht
                  · rw [upd_ne e] at ht; exact ht
                have n3 : ∀ {o o' o'' : HO}, Same H7 (upd (upd (upd H7 D2 o) u o') t o'') := fun b' o h => by
                  rw [upd_ne (ne_of_none h ht7), upd_ne (ne_of_none h hu7), upd_ne (ne_of_none h hD2)]; exact h
                refine k t u _ ws tot (b7.free D7.ne ht7) (b7.free D7.ne hu7) (D7.same n3) (b7.trans (But.of n3)) upd_same ((upd_ne hut).trans upd_same) ?_
                have hL : lengthOf b ≤ 6 := by unfold lengthOf; split <;> omega
                refine ⟨by omega, fun w hw => (hwo w hw).mono hL, htot.mono (by split <;> omega), fun h => ?_⟩
                have e1 : lengthOf b = 1 := by unfold lengthOf; rw [if_pos h]
                rw [if_pos h] at htot
                have := mb h
                exact ⟨by omega, fun w hw => e1 ▸ hwo w hw, htot⟩
end
end WS
set_option maxRecDepth 100000
set_option maxHeartbeats 8000000
namespace WS
open PySem L2
abbrev WSum := List Str × Str
/-- a sum at t: a tuple of its addends' tuple and its total -/
def SumAt (H : Hp) (t : Addr) (s : WSum) : Prop := ∃ u, H t = some (.tup [.ref u, .str s.2]) ∧ H u = some (.tup (s.1.map V.str))
structure SumsAt (H : Hp) (ts : List Addr) (ss : List WSum) : Prop where
  len : ts.length = ss.length
  get : ∀ (i : Nat) (t : Addr) (s : WSum), ts[i]? = some t → ss[i]? = some s → SumAt H t s
theorem SumAt.same {H H' : Hp} {t : Addr} {s : WSum} (e : Same H H') (h : SumAt H t s) : SumAt H' t s := by
  obtain ⟨u, h1, h2⟩ := h
  exact ⟨u, e _ _ h1, e _ _ h2⟩
theorem SumsAt.same {H H' : Hp} {ts : List Addr} {ss : List WSum} (e : Same H H') (h : SumsAt H ts ss) : SumsAt H' ts ss := ⟨h.len, fun i t s a b => (h.get i t s a b).same e⟩
theorem tup_ne {K : PySem.W.Frag} {H : Hp} {d a u : Addr} {ns : List Int} {xs : List V} (D : Dice K H d a ns) (h : H u = some (.tup xs)) : u ≠ d := by
  obtain ⟨i, m, c, hd, _⟩ := D.ex
  exact ne_of h hd (fun z => by cases z)
theorem SumAt.but {K : PySem.W.Frag} {H H' : Hp} {d a t : Addr} {ns : List Int} {s : WSum} (D : Dice K H d a ns) (e : But d H H') (h : SumAt H t s) : SumAt H' t s := by
  obtain ⟨u, h1, h2⟩ := h
  exact ⟨u, e _ _ (tup_ne D h1) h1, e _ _ (tup_ne D h2) h2⟩
theorem SumsAt.but {K : PySem.W.Frag} {H H' : Hp} {d a : Addr} {ns : List Int} {ts : List Addr} {ss : List WSum} (D : Dice K H d a ns) (e : But d H H') (h : SumsAt H ts ss) : SumsAt H' ts ss := ⟨h.len, fun i t s a b => (h.get i t s a b).but D e⟩
theorem SumAt.mut {H H' : Hp} {t p : Addr} {s : WSum} {o : HO} (h : SumAt H t s) (hp : ∃ xs, H p = some (.lst xs)) : SumAt (upd H p o) t s := by
  obtain ⟨u, h1, h2⟩ := h
  obtain ⟨xs, hp⟩ := hp
  exact ⟨u, (upd_ne (ne_of h1 hp (fun z => by cases z))).trans h1, (upd_ne (ne_of h2 hp (fun z => by cases z))).trans h2⟩
theorem SumsAt.mut {H : Hp} {p : Addr} {ts : List Addr} {ss : List WSum} {o : HO} (h : SumsAt H ts ss) (hp : ∃ xs, H p = some (.lst xs)) : SumsAt (upd H p o) ts ss := ⟨h.len, fun i t s a b => (h.get i t s a b).mut (H' := H) hp⟩
theorem SumsAt.snoc {H : Hp} {ts : List Addr} {ss : List WSum} {t : Addr} {s : WSum} (h : SumsAt H ts ss) (ht : SumAt H t s) : SumsAt H (ts ++ [t]) (ss ++ [s]) := by
  refine ⟨by rw [List.length_append, List.length_append, h.len] <;> rfl, fun i t' s' a b => ?_⟩
  by_cases hi : i < ts.length
  · rw [List.getElem?_append_left hi] at a
    rw [List.getElem?_append_left (h.len ▸ hi)] at b
    exact h.get i t' s' a b
  · rw [List.getElem?_append_right (by omega)] at a
    rw [List.getElem?_append_right (by have := h.len; omega)] at b
    rw [← h.len] at b
    rcases hj : i - ts.length with _ | j
    · rw [hj] at a b
      have e1 : t = t' := Option.some.inj a
      have e2 : s = s' := Option.some.inj b
      rw [← e1, ← e2]; exact ht
    · rw [hj] at a; simp at a
theorem SumsAt.append {H : Hp} {ts ts' : List Addr} {ss ss' : List WSum} (h : SumsAt H ts ss) (h' : SumsAt H ts' ss') : SumsAt H (ts ++ ts') (ss ++ ss') := by
  refine ⟨by rw [List.length_append, List.length_append, h.len, h'.len], fun i t s a b => ?_⟩
  by_cases hi : i < ts.length
  · rw [List.getElem?_append_left hi] at a
    rw [List.getElem?_append_left (h.len ▸ hi)] at b
    exact h.get i t s a b
  · rw [List.getElem?_append_right (by omega)] at a
    rw [List.getElem?_append_right (by have := h.len; omega)] at b
    rw [← h.len] at b
    exact h'.get _ t s a b
/-- a sheet that is drawn -/
structure SheetOk (b : Int) (ss : List WSum) : Prop where
  b2 : 2 ≤ b
  b12 : b ≤ 12
  few : 1 ≤ ss.length ∧ ss.length ≤ 3
  cs : ∃ cs, NamesOk cs b ∧ ∀ s ∈ ss, SumOk cs b s.1 s.2
  big : 6 < b → ss.length = 1
theorem two_at {x y : V} (c : Bool) : atI [x, y] (if c = true then 1 else 0) = some (if c = true then y else x) := by
  cases c <;> rfl
theorem four_at {j : Nat} (h : j < 4) : ∃ s : Int, ([V.int 0, .int 0, .int 1, .int 2])[j]? = some (.int s) ∧ 0 ≤ s ∧ s ≤ 2 := by
  rcases j with _ | _ | _ | _ | j
  · exact ⟨0, rfl, by decide⟩
  · exact ⟨0, rfl, by decide⟩
  · exact ⟨1, rfl, by decide⟩
  · exact ⟨2, rfl, by decide⟩
  · omega
/-- _law_sheet(d) -/
def spSheet (K : PySem.W.Frag) : Sp := fun vs H Q _ => ∃ (d a : Addr) (ns : List Int), vs = [.ref d] ∧ Dice K H d a ns ∧
  ∀ (t sl : Addr) (ts : List Addr) (H' : Hp) (b : Int) (ss : List WSum), H t = none → H sl = none → Dice K H' d a ns → But d H H' → H' t = some (.tup [.int b, .ref sl]) → H' sl = some (.lst (ts.map V.ref)) → SumsAt H' ts ss → SheetOk b ss → Q (.ref t) H'
section
variable {P : Program} {w : World} {K : PySem.W.Frag} {mg : Str → Option Value} {base : Heap}
theorem scSheet : FnScope ["_law_d", "_law_base", "_law_names_here", "_law_sums", "_law_k"] ["_law_d"] (defScope sSheet) := ⟨rfl, rfl, rfl, by decide +kernel, rfl, by decide +kernel, by decide +kernel⟩
theorem ok_sheet {f fN fM fS : Addr} {fd fdN fdM fdS : FuncData} (F : Fun K "_law_sheet" "_law_sheet" sSheet f fd) (z_range : mg "range" = none) (z_int : mg "int" = none)
    (S__law_next : Site K mg "_law_next" fN fdN ["_law_dice_here", "_law_many"]) (G__law_next : FnOk P w K mg base CX0 1 fN fdN ["_law_dice_here", "_law_many"] (spNext K))
    (S__law_names : Site K mg "_law_names" fM fdM ["_law_d", "_law_base"]) (G__law_names : FnOk P w K mg base CX0 2 fM fdM ["_law_d", "_law_base"] (spNames K))
    (S__law_sum : Site K mg "_law_sum" fS fdS ["_law_d", "_law_base", "_law_names_here"]) (G__law_sum : FnOk P w K mg base CX0 2 fS fdS ["_law_d", "_law_base", "_law_names_here"] (spSum K)) :
    FnOk P w K mg base CX0 3 f fd ["_law_d"] (spSheet K) := by
  refine F.ok scSheet (fun vs H Q E h => ?_) (fun cdv A outer s H vs Q E hr h => ?_)
  · obtain ⟨d, a, ns, rfl, _⟩ := h
    rfl
  · obtain ⟨d, a, ns, rfl, D, k⟩ := h
    have nd := scSheet.nd
    have hr__law_next : Room 1 _ := hr.mono (by decide)
    have hr__law_names := hr
    have hr__law_sum := hr
    refine ⟨_, (pss_cons (ps_set (i := 1) nd rfl (.inr rfl) (pe_ix (r := rIxL K) ix_list (pe_lst (pa_cons (pe_op op_add pe_int (pe_call G__law_next hr__law_next (by rfl) S__law_next.g S__law_next.k S__law_next.b .nil pass0 (pa_cons (pv 0) (pa_cons pe_int pa_nil)))) (pa_cons (pe_op op_add pe_int (pe_call G__law_next hr__law_next (by rfl) S__law_next.g S__law_next.k S__law_next.b .nil pass0 (pa_cons (pv 0) (pa_cons pe_int pa_nil)))) pa_nil))) (pe_callTy call_int1 (by rfl) z_int (by decide +kernel) (pa_cons (pe_cmpR op_eq (pe_call G__law_next hr__law_next (by rfl) S__law_next.g S__law_next.k S__law_next.b .nil pass0 (pa_cons (pv 0) (pa_cons pe_int pa_nil))) pe_int (nomark _)) pa_nil)) (fun _ _ => rfl)))
      (pss_cons (ps_set (i := 2) nd rfl (.inr rfl) (pe_call G__law_names hr__law_names (by rfl) S__law_names.g S__law_names.k S__law_names.b .nil pass0 (pa_cons (pv 0) (pa_cons (pv 1) pa_nil))))
      (pss_cons (ps_set (i := 3) nd rfl (.inl rfl) (pe_lst (pa_cons (pe_call G__law_sum hr__law_sum (by rfl) S__law_sum.g S__law_sum.k S__law_sum.b .nil pass0 (pa_cons (pv 0) (pa_cons (pv 1) (pa_cons (pv 2) pa_nil)))) pa_nil)))
      (Evl.pss_cut (ps_if (pt_cmpR op_lt (pv 1) pe_int (nomark _)) (pss_one (ps_set (i := 3) nd rfl (.inl rfl) (pe_op op_cat (pv 3) (pe_lc (own := [("_law_k", 4)]) (g := (gName 4)) (tt := tYes) rfl nd (pi_range1 (by rfl) z_range (pa_cons (pe_ix (r := rIxL K) ix_list (pe_lst (pa_cons pe_int (pa_cons pe_int (pa_cons pe_int (pa_cons pe_int pa_nil))))) (pe_call G__law_next hr__law_next (by rfl) S__law_next.g S__law_next.k S__law_next.b .nil pass0 (pa_cons (pv 0) (pa_cons pe_int pa_nil))) (fun _ _ => rfl)) pa_nil)) (blkOk_by (own := [("_law_k", 4)]) (N := ["_law_d", "_law_base", "_law_names_here", "_law_sums", "_law_k"]) (sc := defScope sSheet) (by decide +kernel)) (fun _ _ _ _ _ => (pg_name (i := 4) nd rfl (.inl rfl))) (fun _ _ _ _ _ => pts_nil) (fun _ _ _ _ _ => (pe_call G__law_sum hr__law_sum (by rfl) S__law_sum.g S__law_sum.k S__law_sum.b .nil pass0 (pa_cons (pv 0) (pa_cons (pv 1) (pa_cons (pv 2) pa_nil))))))))) pss_nil)
      (pss_one (ps_ret (pe_tup (pa_cons (pv 1) (pa_cons (pv 3) pa_nil))))))))), ?_⟩
    refine ⟨_, rfl, d, a, ns, 5, rfl, D, by decide, by decide, fun v1 H1 v10 v11 D1 b1 _ => ?_⟩
    refine ⟨_, _, rfl, rfl, _, rfl, d, a, ns, 6, rfl, D1, by decide, by decide, fun v2 H2 v20 v21 D2 b2 _ => ?_⟩
    refine ⟨_, _, rfl, rfl, by show 2 ≤ sizeLine; decide, fun q hq => ?_⟩
    refine ⟨_, rfl, d, a, ns, 6, rfl, D2.new hq, by decide, by decide, fun v3 H3 v30 v31 D3 b3 e3 => ?_⟩
    refine ⟨rfl, .inr ⟨_, rfl, q, _, _, _, rfl, rfl, SqL.of ((e3 q (D2.neOf hq)).trans upd_same), two_at _, ?_⟩⟩
    obtain ⟨b, hb, b2', b12⟩ : ∃ b : Int, (if decide (V.int v3 = V.int 5) = true then V.int (7 + v2) else V.int (2 + v1)) = V.int b ∧ 2 ≤ b ∧ b ≤ 12 := by
      split
      · exact ⟨_, rfl, by omega, by omega⟩
      · exact ⟨_, rfl, by omega, by omega⟩
    rw [hb]
    have b4 : But d H H3 := ((b1.trans b2).trans (But.new hq)).trans b3
    refine ⟨_, rfl, _, rfl, d, a, ns, b, rfl, D3, b2', b12, fun l H4 cs hl0 D4 b5 hl N => ?_⟩
    refine ⟨_, rfl, _, rfl, _, rfl, d, a, ns, b, l, cs, rfl, D4, b2', b12, hl, N.len, fun t1 u1 H5 ws1 tot1 ht1 hu1 D5 b6 h51 h52 ok1 => ?_⟩
    have b7 : But d H H5 := (b4.trans b5).trans b6
    have hld := names_off D4 hl
    refine ⟨by show 1 ≤ sizeLine; decide, fun sl hsl => ?_⟩
    have hsl0 : H sl = none := b7.free D5.ne hsl
    have hsld : sl ≠ d := D5.neOf hsl
    refine ⟨fun σ H6 => ∃ (sl' : Addr) (ts : List Addr) (ss : List WSum), σ = [some (.ref d), some (.int b), some (.ref l), some (.ref sl'), none] ∧ H sl' = none ∧ Dice K H6 d a ns ∧ But d H H6 ∧ H6 sl' = some (.lst (ts.map V.ref)) ∧ SumsAt H6 ts ss ∧ SheetOk b ss, ?_, ?_⟩
    · have sat1 : SumsAt (upd H5 sl (.lst [.ref t1])) [t1] [(ws1, tot1)] := ⟨rfl, fun i t s h1 h2 => by
        rcases i with _ | i
        · have e1 : t1 = t := Option.some.inj h1
          have e2 : (ws1, tot1) = s := Option.some.inj h2
          rw [← e1, ← e2]
          exact SumAt.same (Same.new hsl) ⟨u1, h51, h52⟩
        · simp at h1⟩
      refine ⟨_, rfl, _, _, rfl, rfl, _, rfl, ite2 (fun hb7 => ?_) (fun hb7 => ?_)⟩
      · have hb7' : b < 7 := of_decide_eq_true hb7
        refine ⟨_, rfl, by show 4 ≤ sizeLine; decide, fun q2 hq2 => ?_⟩
        have D6 : Dice K (upd H5 sl (.lst [.ref t1])) d a ns := D5.new hsl
        refine ⟨_, rfl, d, a, ns, 4, rfl, D6.new hq2, by decide, by decide, fun v4 H7 v40 v41 D7 b8 e8 => ?_⟩
        obtain ⟨mm, hmm, m0, m2⟩ := four_at (j := v4.toNat) (by omega)
        refine ⟨q2, _, v4, _, rfl, rfl, SqL.of ((e8 q2 (D6.neOf hq2)).trans upd_same), at_of (j := v4.toNat) (by omega) hmm, mm, rfl, by omega, by omega, fun D' hD' => ?_⟩
        have b9 : But d (upd H5 sl (.lst [.ref t1])) H7 := (But.new hq2).trans b8
        have b9' : But d H H7 := (b7.trans (But.new hsl)).trans b9
        have hD0 : H D' = none := b9'.free D7.ne hD'
        have hsl7 : H7 sl = some (.lst [.ref t1]) := b9 sl _ hsld upd_same
        have hslD : sl ≠ D' := ne_of_none hsl7 hD'
        refine lc_range (lo := 0) (n := mm.toNat) (fun j H8 => ∃ (ts : List Addr) (ss : List WSum), H8 D' = some (.lst (ts.map V.ref)) ∧ SumsAt H8 ts ss ∧ ss.length = j ∧ (∀ s ∈ ss, SumOk cs b s.1 s.2) ∧ Dice K H8 d a ns ∧ But d H H8 ∧ But d H7 H8)
          ⟨[], [], upd_same, ⟨rfl, fun i t s h => by simp at h⟩, rfl, (fun s hs => nomatch hs), D7.new hD', b9'.trans (But.new hD'), But.new hD'⟩ ?_ ?_
        · rintro j H8 hj ⟨ts, ss, hx, hsa, hsn, hso, D8, b10, b10'⟩
          have hl8 : H8 l = some (.lst (cs.map sg)) := b10' l _ hld (b9 l _ hld (by
            have : l ≠ sl := ne_of_none (b6 l _ hld hl) hsl
            rw [upd_ne this]; exact b6 l _ hld hl))
          refine ⟨rfl, _, rfl, _, rfl, _, rfl, d, a, ns, b, l, cs, rfl, D8, b2', b12, hl8, N.len, fun t2 u2 H9 ws2 tot2 ht2 hu2 D9 b11 h91 h92 ok2 => ?_⟩
          have hDd : D' ≠ d := D7.neOf hD'
          refine ⟨ts.map V.ref, b11 D' _ hDd hx, by rw [List.length_map, hsa.len]; exact line_lt (by omega), ts ++ [t2], ss ++ [(ws2, tot2)], ?_, ?_, ?_, ?_, D.mut (b10.trans b11) D9 hD0, (b10.trans b11).mut hD0, (b10'.trans b11).mut hD'⟩
          · rw [upd_same, List.map_append] <;> rfl
          · exact ((hsa.but D8 b11).snoc ⟨u2, h91, h92⟩).mut ⟨_, b11 D' _ hDd hx⟩
          · rw [List.length_append, hsn] <;> rfl
          · intro s hs
            rcases List.mem_append.mp hs with hs | hs
            · exact hso s hs
            · have : s = (ws2, tot2) := by simpa using hs
              rw [this]; exact ok2
        · rintro H8 ⟨ts, ss, hx, hsa, hsn, hso, D8, b10, b10'⟩
          have hsl8 : H8 sl = some (.lst [.ref t1]) := b10' sl _ hsld hsl7
          refine ⟨_, _, _, _, rfl, rfl, hsl8, hx, ?_, fun p hp => ?_⟩
          · have := hsa.len
            rw [List.length_map]
            exact line_of (by show 1 + ts.length ≤ 1000000; omega)
          · refine ⟨p, t1 :: ts, (ws1, tot1) :: ss, rfl, b10.free D8.ne hp, D8.new hp, b10.trans (But.new hp), upd_same, ?_, ?_⟩
            · have z : SumsAt H8 [t1] [(ws1, tot1)] := (sat1.but D6 (b9)).but D7 b10'
              exact SumsAt.same (Same.new hp) (SumsAt.append z hsa)
            · exact ⟨b2', b12, by rw [List.length_cons]; omega, ⟨cs, N, fun s hs => by
                rcases List.mem_cons.mp hs with rfl | hs
                · exact ok1
                · exact hso s hs⟩, fun h => by omega⟩
      · exact ⟨sl, [t1], [(ws1, tot1)], rfl, hsl0, D5.new hsl, b7.trans (But.new hsl), upd_same, sat1, ⟨b2', b12, ⟨Nat.le_refl _, by show 1 ≤ 3; omega⟩, ⟨cs, N, fun s hs => by
          have : s = (ws1, tot1) := by simpa using hs
          rw [this]; exact ok1⟩, fun _ => rfl⟩⟩
    · rintro σ H6 ⟨sl', ts, ss, rfl, hsl', D6, b6, hs6, hsa, ok⟩
      refine ⟨_, rfl, _, rfl, by show 2 ≤ sizeLine; decide, fun t ht => ?_⟩
      exact k t sl' ts _ b ss (b6.free D6.ne ht) hsl' (D6.new ht) (b6.trans (But.new ht)) upd_same ((upd_ne (ne_of_none hs6 ht)).trans hs6) (hsa.same (Same.new ht)) ok
end
end WS
set_option maxRecDepth 100000
set_option maxHeartbeats 8000000
namespace SetT
open PySem PySem.Spec PyProof.Rows
/-- the signs of a text that are met first, in their order -/
def addS (xs : List Str) (x : Str) : List Str := if xs.any (· == x) = true then xs else xs ++ [x]
def sign (c : Nat) : Str := ⟨#[c]⟩
def metS (cs : List Nat) : List Str := cs.foldl (fun a c => addS a (sign c)) []
theorem metS_snoc (cs : List Nat) (c : Nat) : metS (cs ++ [c]) = addS (metS cs) (sign c) := by
  unfold metS; rw [List.foldl_append] <;> rfl
theorem addS_le (xs : List Str) (x : Str) : (addS xs x).length ≤ xs.length + 1 := by
  unfold addS; split
  · omega
  · rw [List.length_append] <;> exact Nat.le_refl _
theorem metS_le (cs : List Nat) : (metS cs).length ≤ cs.length := by
  have : ∀ (r : List Nat) (a : List Str), (r.foldl (fun a c => addS a (sign c)) a).length ≤ a.length + r.length := by
    intro r
    induction r with
    | nil => intro a; exact Nat.le_refl _
    | cons c r ih =>
      intro a
      have h1 := ih (addS a (sign c))
      have h2 := addS_le a (sign c)
      rw [List.foldl_cons, List.length_cons]
      omega
  have h := this cs []
  simpa [metS] using h
theorem addS_any (xs : List Str) (v k : Str) : (addS xs v).any (· == k) = (xs.any (· == k) || decide (k = v)) := by
  unfold addS
  by_cases h : xs.any (· == v) = true
  · rw [if_pos h]
    by_cases e : k = v
    · subst e; rw [h]; simp
    · simp [e]
  · rw [if_neg h, List.any_append]
    by_cases e : k = v
    · subst e; simp
    · have hb : (v == k) = false := by simpa [beq_iff_eq] using (fun h' : v = k => e h'.symm)
      simp [hb, e]
theorem addS_len (xs : List Str) (v : Str) : (addS xs v).length = if xs.any (· == v) then xs.length else xs.length + 1 := by
  unfold addS; split <;> simp
section
variable {prog : Program} {w : World} {A : Around} {R : Result → Shared → Prop} {I : Addr} {fp wr : List Addr} {G : Array GenState → Array GenState → Prop} {n : Nat} {St : Nat → Shared → Prop}
theorem loopT {x : Str} (W : WalksS prog w A.in1 I fp wr G n (SignAt x) St) (S : Addr) (hSf : S ∉ fp) (hn : x.cps.size = n) (hb : n + 1 < scanBound) :
    ∀ (k i : Nat) (s : Shared), n - i = k → i ≤ n → St i s →
      s.heap.SetOf (PySem.strKind prog w) S (fun k' => (metS (x.cps.toList.take i)).any (· == k')) (metS (x.cps.toList.take i)).length →
      (∀ s', Moved (S :: wr) G s s' → s'.heap.SetOf (PySem.strKind prog w) S (fun k' => (metS x.cps.toList).any (· == k')) (metS x.cps.toList).length → R (.ok (.ret .none)) s') →
      codeAny (model prog w) A (.builtin "set.update.loop" ⟨[.ref S, .ref I], []⟩) R s := by
  have hSw : S ∉ wr := fun h => hSf (W.sub _ h)
  have hsub : ∀ b ∈ wr, b ∈ S :: wr := fun b hb => List.mem_cons_of_mem _ hb
  intro k
  induction k with
  | zero =>
    intro i s hk hi hst hS hR
    have hin : i = n := by omega
    subst hin
    refine codeAny_builtin PyProof.Rows.F.entry_set_update_loop ?_
    rw [Around.under_plainId PyProof.Rows.F.plain_set_update_loop _]
    show wpAny _ A.in1 (pyNext (.ref I) >>= _) _ _ s
    refine wpAny_bind (W.done s _ _ hst fun s' hm => ?_)
    show wpAny _ A.in1 (ret Value.none) _ _ s'
    have e : x.cps.toList.take i = x.cps.toList := List.take_of_length_le (by rw [Array.length_toList, hn] <;> exact Nat.le_refl _)
    rw [e] at hS
    exact wpAny_pure (hR s' (hm.mono hsub) (by
      obtain ⟨o, es, ep, t, ho, rest⟩ := hS
      exact ⟨o, es, ep, t, hm.heap S _ hSw ho, rest⟩))
  | succ k ih =>
    intro i s hk hi hst hS hR
    have hlt : i < n := by omega
    refine codeAny_builtin PyProof.Rows.F.entry_set_update_loop ?_
    rw [Around.under_plainId PyProof.Rows.F.plain_set_update_loop _]
    show wpAny _ A.in1 (pyNext (.ref I) >>= _) _ _ s
    refine wpAny_bind (W.item i s _ _ hlt hst fun v s' hP hst' hm => ?_)
    obtain ⟨c, t, hc, rfl⟩ := hP
    have hcl : x.cps.toList.take (i + 1) = x.cps.toList.take i ++ [c] := by
      rw [List.take_add_one, Array.getElem?_toList, hc] <;> rfl
    have hS' : s'.heap.SetOf (PySem.strKind prog w) S (fun k' => (metS (x.cps.toList.take i)).any (· == k')) (metS (x.cps.toList.take i)).length := by
      obtain ⟨o, es, ep, tb, ho, rest⟩ := hS
      exact ⟨o, es, ep, tb, hm.heap S _ hSw ho, rest⟩
    show wpAny _ A.in1 (holding [Value.str (sign c) t] (setAdd S (.str (sign c) t)) >>= _) _ _ s'
    refine wpAny_bind (wpAny_holding ?_)
    unfold setAdd
    refine wpAny_holding ?_
    refine wpAny_bind ((PySem.strKind prog w).pyHash (k := sign c) (strKind_is _ _ _ _) ?_)
    have hroom : (metS (x.cps.toList.take i)).length + 1 < scanBound := by
      have h1 := metS_le (x.cps.toList.take i)
      rw [List.length_take] at h1
      omega
    refine wpAny_setAddHashed_of (knd := PySem.strKind prog w) (s := { s' with toks := s'.toks + 1 }) (strKind_is _ _ _ _) rfl hS' hroom fun h' hsb hS2 => ?_
    have hSi : h'.SetOf (PySem.strKind prog w) S (fun k' => (metS (x.cps.toList.take (i + 1))).any (· == k')) (metS (x.cps.toList.take (i + 1))).length :=
      SetOf_congr hS2 (fun k' => by rw [hcl, metS_snoc, addS_any]) (by rw [hcl, metS_snoc, addS_len])
    refine wpAny_pure ⟨plainId_quiet PyProof.Rows.F.plain_set_update_loop _, ih (i + 1) _ (by omega) hlt (W.frame _ s' _ _ hst' (Nat.le_succ _) fun b hb o e => ?_) hSi fun s'' hm'' hS'' => ?_⟩
    · rw [hsb.2 b (fun h : b = S => hSf (by rw [← h]; exact hb))]; exact e
    · refine hR s'' (Moved.trans W.gtrans ((hm.mono hsub).then_heap (Nat.le_succ _) fun b o hb e => ?_) hm'') hS''
      rw [hsb.2 b (fun h : b = S => hb (by rw [h]; exact List.mem_cons_self))]; exact e
end
section
variable {prog : Program} {w : World} {A : Around} {E : Value → Shared → Prop} {s : Shared}
theorem call_set_text {x : Str} {tx : Tok} {Q : Value → Shared → Prop} (hh : A.handled = none) (hb : x.cps.size + 1 < scanBound)
    (h : ∀ (h' : Heap) (tk : Nat), h'.SetOf (PySem.strKind prog w) s.heap.objs.size (fun k' => (metS x.cps.toList).any (· == k')) (metS x.cps.toList).length →
      (∀ b o, b < s.heap.objs.size → s.heap.get? b = some o → h'.get? b = some o) → Q (.ref s.heap.objs.size) { s with heap := h', toks := tk }) :
    wpAny (model prog w) A (call (.type "set") [.str x tx]) Q E s := by
  obtain ⟨c, tl, hmro⟩ := PySem.F.called_set.mro
  have hmade := PySem.F.called_set.made
  have hsub := PySem.F.called_set.sub
  refine wpAny_call (codeAny_of_tree ?_)
  show wpAny _ _ (callAny (.type "set") _) _ _ _
  refine wpAny_pure ⟨Code.quiet_builtin _ (by decide +kernel), codeAny_builtin PySem.F.entry_type_call ?_⟩
  rw [Around.under_plain (weight_type_call_type "set" [.str x tx] []) rfl]
  have h1 := PySem.F.called_set.notType
  have h2 := PySem.F.called_set.canCreate
  have hct := PySem.F.typeCall_set_1 (.str x tx)
  repeat (any_goals (first | assumption | wp_step))
  refine codeAny_mono (code_set_new_1 (.str x tx) (E := E) (Q₁ := fun obj s₁ => ∃ led : Bool, obj = .ref s.heap.objs.size ∧ s₁ = { s with heap := s.heap.push { cls := .type "set", dict := none, data := .set #[] 0 (.fresh 0 0 led) } }) fun led => ⟨led, rfl, rfl⟩) fun r s₁ hr => ?_
  cases r with
  | error e => exact hr
  | ok fl =>
    cases fl with
    | ret obj =>
      obtain ⟨led, rfl, rfl⟩ := hr
      have hS : (s.heap.push { cls := .type "set", dict := none, data := .set #[] 0 (.fresh 0 0 led) }).get? s.heap.objs.size = some { cls := .type "set", dict := none, data := .set #[] 0 (.fresh 0 0 led) } := Heap.get?_push_size _ rfl
      have hT : Shared.TypeIs { s with heap := s.heap.push { cls := .type "set", dict := none, data := .set #[] 0 (.fresh 0 0 led) } } (.ref s.heap.objs.size) "set" := ⟨_, hS, rfl⟩
      have hli := PySem.F.called_set.init.lookup
      have hbi := PySem.F.called_set.init.bind (.ref s.heap.objs.size)
      repeat (any_goals (first | assumption | wp_step))
      refine codeAny_mono (codeAny_call_builtin (R := wants (fun r s₂ => r = .none ∧ ∃ h' tk, s₂ = { s with heap := h', toks := tk } ∧
          h'.SetOf (PySem.strKind prog w) s.heap.objs.size (fun k' => (metS x.cps.toList).any (· == k')) (metS x.cps.toList).length ∧
          (∀ b o, b < s.heap.objs.size → s.heap.get? b = some o → h'.get? b = some o)) E) PySem.F.called_set.init.plain PySem.F.entry_set_init (check_set_init_1 hT ?_)) fun r₂ s₂ hr₂ => ?_
      · have hsls := PySem.F.sub_str_set
        have hslf := PySem.F.sub_str_frozenset
        have hne : (Value.type "str" == Value.type "dict") = false := by decide
        unfold Builtin.«set.__init__» noKeywords Builtin.Frozenset.updateFrom
        generalize hPI : pyIter = PI
        wp_walk
        subst hPI
        refine wpAny_pyIter_str fun o St W hst => ?_
        refine wpAny_bind (wpAny_runValue ?_)
        have hh3 : A.in1.in1.in1.handled = none := by simp [hh]
        have hSf : s.heap.objs.size ∉ [(s.heap.push { cls := .type "set", dict := none, data := .set #[] 0 (.fresh 0 0 led) }).objs.size] := by
          rw [Heap.size_push]; simp only [List.mem_singleton]
          exact Nat.ne_of_lt (Nat.lt_succ_self _)
        refine loopT (W _ hh3).toS s.heap.objs.size
          hSf rfl hb (x.cps.size - 0) 0 _ (by omega) (Nat.zero_le _) hst ?hS0 ?hR
        case hS0 =>
          have hget : ((s.heap.push { cls := .type "set", dict := none, data := .set #[] 0 (.fresh 0 0 led) }).push o).get? s.heap.objs.size
              = some { cls := .type "set", dict := none, data := .set #[] 0 (.fresh 0 0 led) } := Heap.get?_push_of_some _ hS
          exact PyProof.Rows.SetOf_congr ((PyProof.Rows.setObjOf_fresh (knd := PySem.strKind prog w) led).setOf hget (by unfold scanBound; omega)) (fun _ => rfl) rfl
        case hR =>
          intro s' hm hS'
          obtain ⟨h', g', d', tk', os'⟩ := s'
          have eg : g' = s.gens := hm.gens
          have ed : d' = s.drawn := hm.drawn
          have eo : os' = s.os := hm.os
          subst eg; subst ed; subst eo
          show wpAny _ _ _ _ _ _
          refine wpAny_pure ?_
          show wpAny _ _ (ret Value.none) _ _ _
          refine wpAny_pure ⟨rfl, h', tk', rfl, hS', fun b o' hb e => ?_⟩
          have hb1 : b ≠ s.heap.objs.size := Nat.ne_of_lt hb
          have hb2 : b ≠ (s.heap.push { cls := .type "set", dict := none, data := .set #[] 0 (.fresh 0 0 led) }).objs.size := by
            rw [Heap.size_push]; exact Nat.ne_of_lt (Nat.lt_succ_of_lt hb)
          exact hm.heap b o' (by simp only [List.mem_cons, List.mem_singleton, List.not_mem_nil, or_false, not_or]; exact ⟨hb1, hb2⟩) (Heap.get?_push_of_some _ (Heap.get?_push_of_some _ e))
      · cases r₂ with
        | error e => exact hr₂
        | ok fl₂ =>
          cases fl₂ with
          | ret r =>
            obtain ⟨rfl, h', tk, rfl, hS', hk'⟩ := hr₂
            repeat (any_goals (first | assumption | wp_step))
            exact h _ _ hS' hk'
          | _ => exact hr₂.elim
    | _ => exact hr.elim
end
end SetT
set_option maxRecDepth 100000
set_option maxHeartbeats 4000000
namespace SetT
open PySem PySem.Spec PyProof.Rows L2
theorem nodup_le {α : Type} [DecidableEq α] : ∀ {l m : List α}, l.Nodup → (∀ x ∈ l, x ∈ m) → l.length ≤ m.length
  | [], _, _, _ => Nat.zero_le _
  | a :: r, m, hn, hs => by
    have ha : a ∈ m := hs a List.mem_cons_self
    have hr := nodup_le (l := r) (m := m.erase a) (List.nodup_cons.mp hn).2 fun x hx => by
      have hxa : x ≠ a := fun e => (List.nodup_cons.mp hn).1 (e ▸ hx)
      exact (List.mem_erase_of_ne hxa).mpr (hs x (List.mem_cons_of_mem _ hx))
    rw [List.length_erase_of_mem ha] at hr
    have := List.length_pos_of_mem ha
    rw [List.length_cons]
    omega
theorem any_mem {xs : List Str} {x : Str} : xs.any (· == x) = true ↔ x ∈ xs := by
  rw [List.any_eq_true]
  constructor
  · rintro ⟨y, hy, e⟩
    have : y = x := eq_of_beq e
    exact this ▸ hy
  · intro h
    exact ⟨x, h, beq_self_eq_true x⟩
theorem addS_nodup {xs : List Str} {x : Str} (h : xs.Nodup) : (addS xs x).Nodup := by
  unfold addS
  split
  · exact h
  · rename_i hx
    rw [List.nodup_append]
    refine ⟨h, by simp, fun a ha b hb e => hx (any_mem.mpr ?_)⟩
    have : b = x := by simpa using hb
    rw [← this, ← e]; exact ha
theorem addS_mem {xs : List Str} {x y : Str} (h : y ∈ addS xs x) : y ∈ xs ∨ y = x := by
  unfold addS at h
  split at h
  · exact .inl h
  · rcases List.mem_append.mp h with h | h
    · exact .inl h
    · exact .inr (by simpa using h)
theorem metS_ok : ∀ (cs : List Nat), (metS cs).Nodup ∧ ∀ y ∈ metS cs, ∃ c ∈ cs, y = sign c := by
  have : ∀ (r : List Nat) (a : List Str), a.Nodup → (r.foldl (fun a c => addS a (sign c)) a).Nodup ∧ ∀ y ∈ r.foldl (fun a c => addS a (sign c)) a, y ∈ a ∨ ∃ c ∈ r, y = sign c := by
    intro r
    induction r with
    | nil => intro a h; exact ⟨h, fun y hy => .inl hy⟩
    | cons c r ih =>
      intro a h
      obtain ⟨h1, h2⟩ := ih (addS a (sign c)) (addS_nodup h)
      refine ⟨h1, fun y hy => ?_⟩
      rcases h2 y hy with h3 | ⟨d, hd, e⟩
      · rcases addS_mem h3 with h4 | h4
        · exact .inl h4
        · exact .inr ⟨c, List.mem_cons_self, h4⟩
      · exact .inr ⟨d, List.mem_cons_of_mem _ hd, e⟩
  intro cs
  obtain ⟨h1, h2⟩ := this cs [] List.nodup_nil
  refine ⟨h1, fun y hy => ?_⟩
  rcases h2 y hy with h | h
  · cases h
  · exact h
/-- a text of letters of cs has at most as many unlike signs -/
theorem metS_few {xs cs : List Nat} (h : ∀ c ∈ xs, c ∈ cs) : (metS xs).length ≤ cs.length := by
  obtain ⟨h1, h2⟩ := metS_ok xs
  have := nodup_le (m := cs.map sign) h1 fun y hy => by
    obtain ⟨c, hc, e⟩ := h2 y hy
    exact List.mem_map.mpr ⟨c, h c hc, e.symm⟩
  rwa [List.length_map] at this
/-- len(set(e)), e a text -/
def tLenSetT (ta : TE) : TE := fun σ H Q => ta σ H fun x H1 => ∃ z : Str, x = .str z ∧ z.length ≤ 4000 ∧ Q (.int ((metS z.cps.toList).length : Nat)) H1
theorem pe_lenSetT {X : Cx} {a : Expr} {ta : TE} {p p2 q pos : Pos} (hg : Gl X "len") (hm : X.mg "len" = none) (hg2 : Gl X "set") (hm2 : X.mg "set" = none) (ha : PE X a ta) (hc : X.calm = true := by rfl)
    (na : starEach [a] X.env = (false, eval a X.env) :: starEach [] X.env := by rfl) : PE X (.Call (.Name "len" p) [.Call (.Name "set" p2) [a] [] q] [] pos) (tLenSetT ta) := by
  refine ⟨fun pins s σ H Q I h => ?_⟩
  refine Call_ (ld_blt I hg hm boot_len ?_)
  refine PyProof.Rows.callWith_builtin1 (PyProof.Rows.args_cons ?_ rfl) rfl rfl
  refine Call_ (ld_blt I hg2 hm2 boot_set ?_)
  refine PyProof.Rows.callWith_type1 (PyProof.Rows.args_cons (thn (ha.run pins s σ H _ I h) fun v s1 ⟨x, H1, I1, r1, q1⟩ => PyProof.Rows.args_nil ?_) na) na rfl
  obtain ⟨z, rfl, hl, q1⟩ := q1
  obtain ⟨t, rfl⟩ := r1
  have hz : z.cps.size ≤ 4000 := hl
  refine call_set_text (I1.ok.hd hc) (by unfold scanBound; omega) fun h' tk hS hk => ?_
  refine PyProof.Rows.args_nil ?_
  obtain ⟨o, es, ep, t, ho, hex, hd, _, _, _, hf, hn⟩ := hS
  have I2 : Inv X pins σ H1 { s1 with heap := h', toks := tk } := I1.kept fun b o e => hk b o (Heap.lt_size e) e
  have hle := metS_le z.cps.toList
  have hz2 : z.cps.toList.length = z.cps.size := Array.length_toList
  have hz3 : ((metS z.cps.toList).length : Int) < 2 ^ 63 := by omega
  exact call_len_set ho hex hd hf (by rw [hn]; exact hz3) ⟨.int (metS z.cps.toList).length, H1, I2.tok _, ⟨_, by rw [hn]⟩, q1⟩
end SetT
set_option maxRecDepth 100000
set_option maxHeartbeats 8000000
namespace WS
open PySem L2
/-- whether a text is a word of a sheet -/
def isWord (z : Str) : Bool := decide (1 ≤ z.length) && decide (z.length ≤ 6) && z.cps.toList.all fun c => decide (c ∈ abc.cps.toList)
theorem isWord_iff {z : Str} : isWord z = true ↔ (1 ≤ z.length ∧ z.length ≤ 6) ∧ ∀ c ∈ z.cps.toList, c ∈ abc.cps.toList := by
  unfold isWord
  rw [Bool.and_eq_true, Bool.and_eq_true, decide_eq_true_iff, decide_eq_true_iff, List.all_eq_true]
  exact ⟨fun h => ⟨h.1, fun c hc => of_decide_eq_true (h.2 c hc)⟩, fun h => ⟨h.1, fun c hc => decide_eq_true (h.2 c hc)⟩⟩
theorem abc_mem {c : Nat} (h : 97 ≤ c ∧ c ≤ 122) : c ∈ abc.cps.toList := by
  have := abc_all (c - 97) (by omega)
  rw [show 97 + (c - 97) = c by omega] at this
  exact List.mem_of_getElem? this
theorem isWord_ok {cs : List Nat} {b : Int} {z : Str} (N : NamesOk cs b) (h : WordOk cs 6 z) : isWord z = true :=
  isWord_iff.mpr ⟨h.length, fun c hc => abc_mem (N.low c (h.mem c hc))⟩
def spIsWord : Sp := fun vs H Q _ => ∃ z : Str, vs = [.str z] ∧ z.length ≤ 1000 ∧ ∀ H', Same H H' → Q (.bl (isWord z)) H'
section
variable {P : Program} {w : World} {K : PySem.W.Frag} {mg : Str → Option Value} {base : Heap}
theorem scIsWord : FnScope ["text", "sign"] ["text"] (defScope sIsWord) := ⟨rfl, rfl, rfl, by decide +kernel, rfl, by decide +kernel, by decide +kernel⟩
theorem ok_isword {f : Addr} {fd : FuncData} {t1 t2 : Tok} (F : Fun K "is_word" "is_word" sIsWord f fd) (z_len : mg "len" = none) (z_all : mg "all" = none) (m_MOST_IN_WORD : mg "MOST_IN_WORD" = some (.int 6 t1)) (m_SMALL_LETTERS : mg "SMALL_LETTERS" = some (.str abc t2)) :
    FnOk P w K mg base CX0 1 f fd ["text"] spIsWord := by
  refine F.ok scIsWord (fun vs H Q E h => ?_) (fun cdv A outer s H vs Q E hr h => ?_)
  · obtain ⟨z, rfl, _⟩ := h
    rfl
  · obtain ⟨z, rfl, hz, k⟩ := h
    have nd := scIsWord.nd
    have hz' : z.cps.size ≤ 1000 := hz
    refine ⟨_, (pss_one (ps_ret (pe_and (pe_chain op_le op_le pe_int (pe_callB call_len_str (by rfl) z_len PySem.boot_len (pa_cons (pv 0) pa_nil)) (pe_glob (v := .int 6) (by rfl) m_MOST_IN_WORD ⟨_, rfl⟩)) (pe_one (pe_callB (cr_all rfl) (by rfl) z_all (by decide +kernel) (pa_cons (pe_lc (own := [("sign", 1)]) (g := (gName 1)) (tt := tYes) rfl nd (pi_str (pv 0)) (blkOk_by (own := [("sign", 1)]) (N := ["text", "sign"]) (sc := defScope sIsWord) (by decide +kernel)) (fun _ _ _ _ _ => (pg_name (i := 1) nd rfl (.inl rfl))) (fun _ _ _ _ _ => pts_nil) (fun _ _ _ _ _ => (pe_cmpR op_in_sign (pv 1) (pe_glob (v := .str abc) (by rfl) m_SMALL_LETTERS ⟨_, rfl⟩) (by rfl)))) pa_nil)))))), ?_⟩
    refine ⟨_, rfl, z, rfl, line_of (by omega), _, _, rfl, rfl, _, rfl, ite2 (fun h1 => ?_) (fun h1 => ?_)⟩
    · refine ⟨_, _, rfl, rfl, _, rfl, ite2 (fun h2 => ?_) (fun h2 => ?_)⟩
      · refine ⟨_, rfl, z, rfl, fun D hD => lc_it walk_str (fun i H2 => H2 = upd H D (.lst ((z.cps.toList.take i).map fun c => V.bl (decide (c ∈ abc.cps.toList))))) rfl (fun _ _ _ _ => trivial) ?_ ?_⟩
        · rintro i x H2 H3 hi rfl ⟨rfl, c, hc, rfl⟩
          refine ⟨rfl, _, rfl, c, abc, rfl, rfl, _, upd_same, ?_, ?_⟩
          · rw [List.length_map, List.length_take]
            exact line_lt (by omega)
          · rw [upd_upd, List.take_add_one, Array.getElem?_toList, hc, List.map_append] <;> rfl
        · rintro H2 rfl
          have e : z.cps.toList.take z.cps.size = z.cps.toList := List.take_of_length_le (by rw [Array.length_toList] <;> exact Nat.le_refl _)
          rw [e]
          refine ⟨D, z.cps.toList.map fun c => decide (c ∈ abc.cps.toList), rfl, SqL.of (by rw [upd_same, List.map_map] <;> rfl), ?_⟩
          have e2 : (z.cps.toList.map fun c => decide (c ∈ abc.cps.toList)).all id = isWord z := by
            have a1 : (1 ≤ z.length) := by have := of_decide_eq_true h1; omega
            have a2 : (z.length ≤ 6) := by have := of_decide_eq_true h2; omega
            unfold isWord
            rw [decide_eq_true a1, decide_eq_true a2, List.all_map]
            rfl
          rw [e2]
          exact k _ (Same.new hD)
      · have e2 : isWord z = false := by
          have a2 : ¬ (z.length ≤ 6) := fun a => h2 (decide_eq_true (by omega))
          unfold isWord
          rw [decide_eq_false a2]
          simp
        have := k _ (Same.refl H)
        rw [e2] at this
        exact this
    · have e2 : isWord z = false := by
        have a2 : ¬ (1 ≤ z.length) := fun a => h1 (decide_eq_true (by omega))
        unfold isWord
        rw [decide_eq_false a2]
        simp
      have := k _ (Same.refl H)
      rw [e2] at this
      exact ⟨_, rfl, iteF this⟩
end
end WS
set_option maxRecDepth 100000
set_option maxHeartbeats 4000000
namespace WS
open PySem L2 SetT
/-- all words of some sums, in the order in which they stand -/
def wordsOf (ss : List WSum) : List Str := (ss.map fun s => s.1 ++ [s.2]).flatten
def signsOf (ws : List Str) : List Nat := (ws.map (·.cps.toList)).flatten
/-- a sheet that can be -/
structure Valid (b : Int) (ss : List WSum) : Prop where
  b2 : 2 ≤ b
  b12 : b ≤ 12
  few : 1 ≤ ss.length ∧ ss.length ≤ 3
  many : ∀ s ∈ ss, 1 ≤ s.1.length ∧ s.1.length ≤ 4
  words : ∀ z ∈ wordsOf ss, isWord z = true
  lets : ((metS (signsOf (wordsOf ss))).length : Int) ≤ b ∧ (metS (signsOf (wordsOf ss))).length ≤ 8
theorem metS_grow (xs ys : List Nat) : (metS xs).length ≤ (metS (xs ++ ys)).length := by
  have : ∀ (r : List Nat) (a : List Str), a.length ≤ (r.foldl (fun a c => addS a (sign c)) a).length := by
    intro r
    induction r with
    | nil => intro a; exact Nat.le_refl _
    | cons c r ih =>
      intro a
      have h1 := ih (addS a (sign c))
      have h2 : a.length ≤ (addS a (sign c)).length := by rw [addS_len]; split <;> omega
      exact Nat.le_trans h2 h1
  unfold metS
  rw [List.foldl_append]
  exact this ys _
theorem wordsOf_append (a b : List WSum) : wordsOf (a ++ b) = wordsOf a ++ wordsOf b := by
  unfold wordsOf; rw [List.map_append, List.flatten_append]
theorem signsOf_append (a b : List Str) : signsOf (a ++ b) = signsOf a ++ signsOf b := by
  unfold signsOf; rw [List.map_append, List.flatten_append]
theorem wordsOf_take {ss : List WSum} {i : Nat} {s : WSum} (h : ss[i]? = some s) : wordsOf (ss.take (i + 1)) = wordsOf (ss.take i) ++ (s.1 ++ [s.2]) := by
  rw [List.take_add_one, h, wordsOf_append]
  show _ ++ wordsOf [s] = _
  unfold wordsOf
  simp
theorem wordsOf_take_mem {ss : List WSum} {i : Nat} {z : Str} (h : z ∈ wordsOf (ss.take i)) : z ∈ wordsOf ss := by
  have : wordsOf ss = wordsOf (ss.take i) ++ wordsOf (ss.drop i) := by rw [← wordsOf_append, List.take_append_drop]
  rw [this]; exact List.mem_append_left _ h
theorem Valid.prefix {b : Int} {ss : List WSum} (V : Valid b ss) (i : Nat) : ((metS (signsOf (wordsOf (ss.take i)))).length : Int) ≤ b ∧ (metS (signsOf (wordsOf (ss.take i)))).length ≤ 8 := by
  have : wordsOf ss = wordsOf (ss.take i) ++ wordsOf (ss.drop i) := by rw [← wordsOf_append, List.take_append_drop]
  have h := metS_grow (signsOf (wordsOf (ss.take i))) (signsOf (wordsOf (ss.drop i)))
  rw [← signsOf_append, ← this] at h
  have := V.lets
  omega
theorem Valid.word_len {b : Int} {ss : List WSum} (V : Valid b ss) {z : Str} (h : z ∈ wordsOf ss) : 1 ≤ z.length ∧ z.length ≤ 6 := (isWord_iff.mp (V.words z h)).1
theorem wordsOf_len {ss : List WSum} (h : ∀ s ∈ ss, s.1.length ≤ 4) : (wordsOf ss).length ≤ 5 * ss.length := by
  induction ss with
  | nil => exact Nat.le_refl _
  | cons s r ih =>
    have h1 := ih fun x hx => h x (List.mem_cons_of_mem _ hx)
    have h2 := h s List.mem_cons_self
    have e : wordsOf (s :: r) = (s.1 ++ [s.2]) ++ wordsOf r := rfl
    rw [e, List.length_append, List.length_append, List.length_cons]
    show s.1.length + 1 + (wordsOf r).length ≤ 5 * (r.length + 1)
    omega
theorem sum_lens {ws : List Str} {m : Nat} (h : ∀ z ∈ ws, z.length ≤ m) : (ws.map (·.length)).sum ≤ m * ws.length := by
  induction ws with
  | nil => exact Nat.le_refl _
  | cons z r ih =>
    have h1 := ih fun x hx => h x (List.mem_cons_of_mem _ hx)
    have h2 := h z List.mem_cons_self
    rw [List.map_cons, List.sum_cons, List.length_cons, Nat.mul_add]
    omega
theorem join_signsOf (ws : List Str) : (Txt.join ("" : Str) ws).cps.toList = signsOf ws := by
  have e : Txt.join ("" : Str) ws = Str.join Str.empty ws := StrLaws.glued_eq_join _ _
  rw [e, join_empty] <;> rfl
theorem mem_wordsOf {ss : List WSum} {s : WSum} {z : Str} (hs : s ∈ ss) (h : z ∈ s.1 ∨ z = s.2) : z ∈ wordsOf ss := by
  unfold wordsOf
  refine List.mem_flatten.mpr ⟨s.1 ++ [s.2], List.mem_map.mpr ⟨s, hs, rfl⟩, ?_⟩
  rcases h with h | h
  · exact List.mem_append_left _ h
  · exact List.mem_append_right _ (by simp [h])
theorem of_wordsOf {ss : List WSum} {z : Str} (h : z ∈ wordsOf ss) : ∃ s ∈ ss, z ∈ s.1 ∨ z = s.2 := by
  unfold wordsOf at h
  obtain ⟨l, hl, hz⟩ := List.mem_flatten.mp h
  obtain ⟨s, hs, rfl⟩ := List.mem_map.mp hl
  refine ⟨s, hs, ?_⟩
  rcases List.mem_append.mp hz with h | h
  · exact .inl h
  · exact .inr (by simpa using h)
theorem signsOf_len {ws : List Str} {m : Nat} (h : ∀ z ∈ ws, z.cps.toList.length ≤ m) : (signsOf ws).length ≤ m * ws.length := by
  induction ws with
  | nil => exact Nat.le_refl _
  | cons z r ih =>
    have h1 := ih fun x hx => h x (List.mem_cons_of_mem _ hx)
    have h2 := h z List.mem_cons_self
    have e : signsOf (z :: r) = z.cps.toList ++ signsOf r := rfl
    rw [e, List.length_append, List.length_cons, Nat.mul_add]
    omega
/-- what the law draws can be -/
theorem SheetOk.valid {b : Int} {ss : List WSum} (S : SheetOk b ss) : Valid b ss := by
  obtain ⟨cs, N, ok⟩ := S.cs
  refine ⟨S.b2, S.b12, S.few, fun s hs => (ok s hs).many, fun z hz => ?_, ?_⟩
  · obtain ⟨s, hs, hz⟩ := of_wordsOf hz
    rcases hz with hz | rfl
    · exact isWord_ok N ((ok s hs).adds z hz)
    · exact isWord_ok N (ok s hs).total
  · have hcs : (metS (signsOf (wordsOf ss))).length ≤ cs.length := metS_few fun c hc => by
      unfold signsOf at hc
      obtain ⟨l, hl, hc⟩ := List.mem_flatten.mp hc
      obtain ⟨z, hz, rfl⟩ := List.mem_map.mp hl
      obtain ⟨s, hs, hz⟩ := of_wordsOf hz
      rcases hz with hz | rfl
      · exact ((ok s hs).adds z hz).mem c hc
      · exact (ok s hs).total.mem c hc
    have hN := N.len
    have h12 := S.b12
    refine ⟨by omega, ?_⟩
    by_cases h6 : 6 < b
    · have h1 := S.big h6
      obtain ⟨s, rfl⟩ : ∃ s, ss = [s] := by
        rcases ss with _ | ⟨s, _ | ⟨t, r⟩⟩
        · simp at h1
        · exact ⟨s, rfl⟩
        · simp at h1
      obtain ⟨g1, g2, g3⟩ := (ok s List.mem_cons_self).big h6
      have e : signsOf (wordsOf [s]) = signsOf s.1 ++ s.2.cps.toList := by
        have : wordsOf [s] = s.1 ++ [s.2] := by unfold wordsOf; simp
        rw [this, signsOf_append]
        unfold signsOf; simp
      have l1 := signsOf_len (m := 1) fun z hz => (g2 z hz).len
      have l2 := g3.len
      have l3 := metS_le (signsOf (wordsOf [s]))
      rw [e, List.length_append] at l3
      rw [e]
      omega
    · omega
end WS
set_option maxRecDepth 100000
set_option maxHeartbeats 4000000
namespace WS
open PySem L2 SetT
def plusT : Str := " + "
def isT : Str := " = "
def aheadT : Str := "base "
def numT (b : Int) : Str := toString b
def figT : Str := "0123456789"
/-- a sum as a row -/
def rowS (s : WSum) : Str := Str.join plusT s.1 ++ isT ++ s.2
def headS (b : Int) : Str := aheadT ++ numT b
/-- a sheet as a text -/
def textS (b : Int) (ss : List WSum) : Str := Str.join ("\n" : Str) (headS b :: ss.map rowS)
def toks : List Str → Str → List Str
  | [], t => [t]
  | [w], t => [w, ("=" : Str), t]
  | w :: v :: r, t => w :: ("+" : Str) :: toks (v :: r) t
theorem toks_evens : ∀ (ws : List Str) (t : Str), evens (toks ws t) = ws ++ [t]
  | [], t => rfl
  | [w], t => rfl
  | w :: v :: r, t => by
    show w :: evens (toks (v :: r) t) = w :: ((v :: r) ++ [t])
    rw [toks_evens]
theorem app_cps (a b : Str) : (a ++ b).cps.toList = a.cps.toList ++ b.cps.toList := by
  rw [PySem.Str.cps_append, Array.toList_append]
theorem toks_cps : ∀ (ws : List Str) (t : Str), ws ≠ [] → (Str.join plusT ws ++ isT ++ t).cps.toList = jl [32] ((toks ws t).map (·.cps.toList))
  | [], t, h => absurd rfl h
  | [w], t, _ => by
    show (w ++ isT ++ t).cps.toList = w.cps.toList ++ [32] ++ ([61] ++ [32] ++ t.cps.toList)
    rw [app_cps, app_cps, show isT.cps.toList = [32, 61, 32] from rfl]
    simp
  | w :: v :: r, t, _ => by
    have ih := toks_cps (v :: r) t (by simp)
    show (w ++ plusT ++ Str.join plusT (v :: r) ++ isT ++ t).cps.toList = jl [32] (w.cps.toList :: [43] :: (toks (v :: r) t).map (·.cps.toList))
    rw [app_cps, app_cps] at ih
    rw [app_cps, app_cps, app_cps, app_cps]
    have hne : (toks (v :: r) t).map (·.cps.toList) ≠ [] := by cases r <;> simp [toks]
    generalize (toks (v :: r) t).map (·.cps.toList) = Z at ih hne
    cases Z with
    | nil => exact absurd rfl hne
    | cons z q =>
      show _ = w.cps.toList ++ [32] ++ ([43] ++ [32] ++ jl [32] (z :: q))
      rw [← ih, show plusT.cps.toList = [32, 43, 32] from rfl]
      simp
theorem abc_range {c : Nat} (h : c ∈ abc.cps.toList) : 97 ≤ c := by
  have e : ∀ c ∈ abc.cps.toList, 97 ≤ c := by decide +kernel
  exact e c h
theorem word_range {z : Str} (h : isWord z = true) {c : Nat} (hc : c ∈ z.cps.toList) : 97 ≤ c := abc_range ((isWord_iff.mp h).2 c hc)
theorem toks_mem : ∀ {ws : List Str} {t z : Str}, z ∈ toks ws t → z ∈ ws ++ [t] ∨ z = ("=" : Str) ∨ z = ("+" : Str)
  | [], t, z, h => .inl h
  | [w], t, z, h => by
    rcases List.mem_cons.mp h with rfl | h
    · exact .inl (by simp)
    rcases List.mem_cons.mp h with rfl | h
    · exact .inr (.inl rfl)
    · rw [List.mem_singleton.mp h]
      exact .inl (by simp)
  | w :: v :: r, t, z, h => by
    rcases List.mem_cons.mp h with rfl | h
    · exact .inl (by simp)
    rcases List.mem_cons.mp h with rfl | h
    · exact .inr (.inr rfl)
    · rcases toks_mem h with h | h
      · exact .inl (List.mem_cons_of_mem _ h)
      · exact .inr h
theorem jl_mem {c d : Nat} : ∀ {L : List (List Nat)}, c ∈ jl [d] L → c = d ∨ ∃ x ∈ L, c ∈ x
  | [], h => by cases h
  | [x], h => .inr ⟨x, List.mem_cons_self, h⟩
  | x :: y :: r, h => by
    have h : c ∈ x ++ [d] ++ jl [d] (y :: r) := h
    rcases List.mem_append.mp h with h | h
    · rcases List.mem_append.mp h with h | h
      · exact .inr ⟨x, List.mem_cons_self, h⟩
      · exact .inl (List.mem_singleton.mp h)
    · rcases jl_mem h with h | ⟨z, hz, h⟩
      · exact .inl h
      · exact .inr ⟨z, List.mem_cons_of_mem _ hz, h⟩
/-- the words of a row, parted by blanks -/
theorem row_split {s : WSum} (h1 : s.1 ≠ []) (hw : ∀ z ∈ s.1 ++ [s.2], isWord z = true) : Txt.split (rowS s) (" " : Str) = toks s.1 s.2 := by
  refine split_parts (c := 32) (toks_cps s.1 s.2 h1) (fun e => ?_) (fun p hp hm => ?_)
  · have := toks_evens s.1 s.2
    rw [e] at this
    simp [evens] at this
  · rcases toks_mem hp with h | rfl | rfl
    · have := word_range (hw p h) hm
      omega
    · exact absurd hm (by decide)
    · exact absurd hm (by decide)
theorem row_no10 {s : WSum} (h1 : s.1 ≠ []) (hw : ∀ z ∈ s.1 ++ [s.2], isWord z = true) : 10 ∉ (rowS s).cps.toList := by
  unfold rowS
  rw [toks_cps s.1 s.2 h1]
  intro h
  rcases jl_mem h with h | ⟨x, hx, h⟩
  · cases h
  · obtain ⟨p, hp, rfl⟩ := List.mem_map.mp hx
    rcases toks_mem hp with h' | rfl | rfl
    · have := word_range (hw p h') h
      omega
    · exact absurd h (by decide)
    · exact absurd h (by decide)
/-- what is asked of the row of the base -/
def headOk (b : Int) : Bool := Txt.startswith (headS b) aheadT && decide (Txt.removeprefix (headS b) aheadT = numT b) && decide (1 ≤ (numT b).length) && decide ((numT b).length ≤ 2) && !decide ((numT b).cps.toList[0]? = some 48) && (numT b).cps.toList.all (fun c => decide (c ∈ figT.cps.toList)) && decide (PySem.intText? (numT b) = some b) && decide (10 ∉ (headS b).cps.toList) && decide ((headS b).length ≤ 7)
theorem head_ok {b : Int} (h2 : 2 ≤ b) (h12 : b ≤ 12) : headOk b = true := by
  have : b = 2 ∨ b = 3 ∨ b = 4 ∨ b = 5 ∨ b = 6 ∨ b = 7 ∨ b = 8 ∨ b = 9 ∨ b = 10 ∨ b = 11 ∨ b = 12 := by omega
  rcases this with rfl | rfl | rfl | rfl | rfl | rfl | rfl | rfl | rfl | rfl | rfl <;> decide +kernel
structure HeadOk (b : Int) : Prop where
  st : Txt.startswith (headS b) aheadT = true
  rm : Txt.removeprefix (headS b) aheadT = numT b
  l1 : 1 ≤ (numT b).length
  l2 : (numT b).length ≤ 2
  n0 : (numT b).cps.toList[0]? ≠ some 48
  fg : ∀ c ∈ (numT b).cps.toList, c ∈ figT.cps.toList
  it : PySem.intText? (numT b) = some b
  n10 : 10 ∉ (headS b).cps.toList
  hl : (headS b).length ≤ 7
theorem HeadOk.of {b : Int} (h2 : 2 ≤ b) (h12 : b ≤ 12) : HeadOk b := by
  have h := head_ok h2 h12
  unfold headOk at h
  simp only [Bool.and_eq_true, decide_eq_true_eq, Bool.not_eq_true', decide_eq_false_iff_not, List.all_eq_true] at h
  obtain ⟨⟨⟨⟨⟨⟨⟨⟨g1, g2⟩, g3⟩, g4⟩, g5⟩, g6⟩, g7⟩, g8⟩, g9⟩ := h
  exact ⟨g1, g2, g3, g4, g5, g6, g7, g8, g9⟩
/-- the rows of a sheet's text -/
theorem text_split {b : Int} {ss : List WSum} (V : Valid b ss) : Txt.split (textS b ss) ("\n" : Str) = headS b :: ss.map rowS := by
  have h2 := V.b2
  have h12 := V.b12
  refine split_parts (c := 10) ?_ (by simp) (fun p hp => ?_)
  · unfold textS
    rw [join_jl]
    rfl
  · rcases List.mem_cons.mp hp with rfl | hp
    · exact (HeadOk.of h2 h12).n10
    · obtain ⟨s, hs, rfl⟩ := List.mem_map.mp hp
      have hm := V.many s hs
      exact row_no10 (fun e => by rw [e] at hm; simp at hm) fun z hz => V.words z (mem_wordsOf hs ((List.mem_append.mp hz).elim .inl fun h => .inr (by simpa using h)))
theorem sum_map_le {α : Type} {f : α → Nat} {m : Nat} : ∀ {l : List α}, (∀ x ∈ l, f x ≤ m) → (l.map f).sum ≤ l.length * m
  | [], _ => Nat.zero_le _
  | x :: r, h => by
    have h1 := h x List.mem_cons_self
    have h2 := sum_map_le (f := f) (m := m) (l := r) fun y hy => h y (List.mem_cons_of_mem _ hy)
    rw [List.map_cons, List.sum_cons, List.length_cons, Nat.succ_mul]
    omega
theorem row_len {s : WSum} (h4 : s.1.length ≤ 4) (hw : ∀ z ∈ s.1 ++ [s.2], z.length ≤ 6) : (Str.join plusT s.1).length ≤ 36 ∧ (rowS s).length ≤ 45 := by
  have h1 := PySem.StrLaws.join_length_le plusT s.1
  have h2 : (s.1.map (·.length)).sum ≤ s.1.length * 6 := sum_map_le fun z hz => hw z (List.mem_append_left _ hz)
  have h3 : plusT.length = 3 := rfl
  have h5 : isT.length = 3 := rfl
  have h6 := hw s.2 (List.mem_append_right _ List.mem_cons_self)
  rw [h3] at h1
  unfold rowS
  rw [PySem.Str.length_append, PySem.Str.length_append, h5]
  omega
theorem valid_len {b : Int} {ss : List WSum} (V : Valid b ss) {s : WSum} (hs : s ∈ ss) : ∀ z ∈ s.1 ++ [s.2], isWord z = true ∧ z.length ≤ 6 := fun z hz => by
  have := V.words z (mem_wordsOf hs ((List.mem_append.mp hz).elim .inl fun h => .inr (by simpa using h)))
  exact ⟨this, (isWord_iff.mp this).1.2⟩
theorem text_len {b : Int} {ss : List WSum} (V : Valid b ss) : ((headS b :: ss.map rowS).map (·.length)).sum ≤ 142 ∧ (textS b ss).length ≤ 200 := by
  have hH := (HeadOk.of V.b2 V.b12).hl
  have hf := V.few
  have h1 := PySem.StrLaws.join_length_le ("\n" : Str) (headS b :: ss.map rowS)
  have h2 : ((ss.map rowS).map (·.length)).sum ≤ (ss.map rowS).length * 45 := sum_map_le fun z hz => by
    obtain ⟨s, hs, rfl⟩ := List.mem_map.mp hz
    exact (row_len (V.many s hs).2 fun z hz => (valid_len V hs z hz).2).2
  rw [List.length_map] at h2
  have h3 : ("\n" : Str).length = 1 := rfl
  rw [h3, List.length_cons, List.length_map] at h1
  have e : ((headS b :: ss.map rowS).map (·.length)).sum = (headS b).length + ((ss.map rowS).map (·.length)).sum := rfl
  rw [e] at h1 ⊢
  unfold textS
  omega
end WS
set_option maxRecDepth 100000
set_option maxHeartbeats 8000000
namespace WS
open PySem L2 SetT
/-- check_counts(base, sums) of a sheet that can be -/
def spCounts : Sp := fun vs H Q _ => ∃ (b : Int) (sl : Addr) (xs : List V), vs = [.int b, .ref sl] ∧ H sl = some (.lst xs) ∧ 2 ≤ b ∧ b ≤ 12 ∧ 1 ≤ xs.length ∧ xs.length ≤ 3 ∧ Q .non H
def spCheck : Sp := fun vs H Q _ => ∃ (b : Int) (sl : Addr) (ts : List Addr) (ss : List WSum), vs = [.int b, .ref sl] ∧ H sl = some (.lst (ts.map V.ref)) ∧ SumsAt H ts ss ∧ Valid b ss ∧ ∀ H', Same H H' → Q .non H'
theorem refs_at {ts : List Addr} {i : Nat} {y : V} (h : (ts.map V.ref)[i]? = some y) : ∃ t, ts[i]? = some t ∧ y = V.ref t := by
  rw [List.getElem?_map] at h
  cases e : ts[i]? with
  | none => rw [e] at h; cases h
  | some t => rw [e] at h; exact ⟨t, rfl, (Option.some.inj h).symm⟩
theorem strs_at' {ws : List Str} {i : Nat} {y : V} (h : (ws.map V.str)[i]? = some y) : ∃ z, ws[i]? = some z ∧ y = V.str z := by
  rw [List.getElem?_map] at h
  cases e : ws[i]? with
  | none => rw [e] at h; cases h
  | some t => rw [e] at h; exact ⟨t, rfl, (Option.some.inj h).symm⟩
section
variable {P : Program} {w : World} {K : PySem.W.Frag} {mg : Str → Option Value} {base : Heap}
theorem scCounts : FnScope ["base", "sums"] ["base", "sums"] (defScope sCounts) := ⟨rfl, rfl, rfl, by decide +kernel, rfl, by decide +kernel, by decide +kernel⟩
theorem ok_counts {f : Addr} {fd : FuncData} {t1 t2 t3 : Tok} (F : Fun K "check_counts" "check_counts" sCounts f fd) (z_len : mg "len" = none) (m_LEAST_BASE : mg "LEAST_BASE" = some (.int 2 t1)) (m_MOST_BASE : mg "MOST_BASE" = some (.int 12 t2)) (m_MOST_SUMS : mg "MOST_SUMS" = some (.int 3 t3)) :
    FnOk P w K mg base CX0 1 f fd ["base", "sums"] spCounts := by
  refine F.ok scCounts (fun vs H Q E h => ?_) (fun cdv A outer s H vs Q E hr h => ?_)
  · obtain ⟨b, sl, xs, rfl, _⟩ := h
    rfl
  · obtain ⟨b, sl, xs, rfl, hsl, b2, b12, n1, n3, k⟩ := h
    have nd := scCounts.nd
    refine ⟨_, (pss_cons (ps_if (pt_not (pt_chain op_le op_le (pe_glob (v := .int 2) (by rfl) m_LEAST_BASE ⟨_, rfl⟩) (pv 0) (pe_glob (v := .int 12) (by rfl) m_MOST_BASE ⟨_, rfl⟩))) (pss_one ps_never) pss_nil)
      (pss_one (ps_if (pt_not (pt_chain op_le op_le pe_int (pe_callB call_len_seq (by rfl) z_len PySem.boot_len (pa_cons (pv 1) pa_nil)) (pe_glob (v := .int 3) (by rfl) m_MOST_SUMS ⟨_, rfl⟩))) (pss_one ps_never) pss_nil))), ?_⟩
    refine ⟨_, rfl, _, _, rfl, rfl, _, rfl, ?_⟩
    rw [decide_eq_true b2]
    refine iteT ⟨_, _, rfl, rfl, _, rfl, ?_⟩
    rw [decide_eq_true b12]
    refine iteF ?_
    refine ⟨_, rfl, sl, _, rfl, .inl (SqL.of hsl), _, _, rfl, rfl, _, rfl, ?_⟩
    rw [decide_eq_true (by omega)]
    refine iteT ⟨_, _, rfl, rfl, _, rfl, ?_⟩
    rw [decide_eq_true (by omega)]
    exact iteF k
theorem scCheck : FnScope ["base", "sums", "words", "at", "addends", "total", "word"] ["base", "sums"] (defScope sCheck) := ⟨rfl, rfl, rfl, by decide +kernel, rfl, by decide +kernel, by decide +kernel⟩
theorem ok_check {f fI : Addr} {fd fdI : FuncData} {t1 t2 : Tok} (F : Fun K "check_sums" "check_sums" sCheck f fd) (z_len : mg "len" = none) (z_set : mg "set" = none) (z_all : mg "all" = none) (z_min : mg "min" = none) (z_enumerate : mg "enumerate" = none)
    (m_MOST_ADDENDS : mg "MOST_ADDENDS" = some (.int 4 t1)) (m_MOST_LETTERS : mg "MOST_LETTERS" = some (.int 8 t2)) (S_is_word : Site K mg "is_word" fI fdI ["text"]) (G_is_word : FnOk P w K mg base CX0 1 fI fdI ["text"] spIsWord) :
    FnOk P w K mg base CX0 2 f fd ["base", "sums"] spCheck := by
  refine F.ok scCheck (fun vs H Q E h => ?_) (fun cdv A outer s H vs Q E hr h => ?_)
  · obtain ⟨b, sl, ts, ss, rfl, _⟩ := h
    rfl
  · obtain ⟨b, sl, ts, ss, rfl, hsl, hsa, V', k⟩ := h
    have nd := scCheck.nd
    have hr_is_word := hr
    refine ⟨_, (pss_cons (ps_set (i := 2) nd rfl (.inl rfl) (pe_lst pa_nil))
      (pss_one (ps_for PassesOwn.never rfl (pi_enum (by rfl) z_enumerate (pa_cons (pv 1) pa_nil)) (pg_tup rfl (pgs_cons (pg_name (i := 3) nd rfl (.inl rfl)) (pgs_cons (pg_tup rfl (pgs_cons (pg_name (i := 4) nd rfl (.inl rfl)) (pgs_cons (pg_name (i := 5) nd rfl (.inl rfl)) pgs_nil))) pgs_nil))) (pss_cons (ps_if (pt_not (pt_chain op_le op_le pe_int (pe_callB call_len_seq (by rfl) z_len PySem.boot_len (pa_cons (pv 4) pa_nil)) (pe_glob (v := .int 4) (by rfl) m_MOST_ADDENDS ⟨_, rfl⟩))) (pss_one ps_never) pss_nil)
      (pss_cons (ps_if (pt_not (pt_val (pe_callB (cr_all rfl) (by rfl) z_all (by decide +kernel) (pa_cons (pe_lc (own := [("word", 6)]) (g := (gName 6)) (tt := tYes) rfl nd (pi_tup (pe_tup (StX.pa_star (pv 4) (pa_cons (pv 5) pa_nil)))) (blkOk_by (own := [("word", 6)]) (N := ["base", "sums", "words", "at", "addends", "total", "word"]) (sc := defScope sCheck) (by decide +kernel)) (fun _ _ _ _ _ => (pg_name (i := 6) nd rfl (.inl rfl))) (fun _ _ _ _ _ => pts_nil) (fun _ _ _ _ _ => (pe_call G_is_word hr_is_word (by rfl) S_is_word.g S_is_word.k S_is_word.b .nil pass0 (pa_cons (pv 6) pa_nil)))) pa_nil)))) (pss_one ps_never) pss_nil)
      (pss_cons (ps_expr (pe_bm PySem.F.plainAttrs_list PySem.F.slot_list_extend PySem.F.type_list_extend mt_extend (pv 2) (pa_cons (pe_lst (StX.pa_star (pv 4) (pa_cons (pv 5) pa_nil))) pa_nil)))
      (pss_one (ps_if (pt_cmpR op_gt (pe_lenSetT (by rfl) z_len (by rfl) z_set (pe_join pe_str (pv 2))) (pe_callB (call_min2 rfl) (by rfl) z_min (by decide +kernel) (pa_cons (pe_glob (v := .int 8) (by rfl) m_MOST_LETTERS ⟨_, rfl⟩) (pa_cons (pv 0) pa_nil))) (nomark _)) (pss_one ps_never) pss_nil)))))))), ?_⟩
    refine ⟨by show 0 ≤ sizeLine; decide, fun wl hwl => ?_⟩
    have hslw : sl ≠ wl := ne_of_none hsl hwl
    refine ⟨_, rfl, sl, _, rfl, SqL.of ((upd_ne hslw).trans hsl), for_it (walk_enum (xs := ts.map V.ref)) (fun i σ H2 => ∃ v3 v4 v5, σ = [some (.int b), some (.ref sl), some (.ref wl), v3, v4, v5, none] ∧ Same H H2 ∧ H2 wl = some (.lst ((wordsOf (ss.take i)).map V.str)))
      ⟨none, none, none, rfl, Same.new hwl, upd_same⟩ (fun i σ H2 _ ⟨_, _, _, _, s2, _⟩ => SqL.of (s2 _ _ hsl)) ?_ ?_⟩
    · rintro i x σ H2 H3 hi ⟨v3, v4, v5, rfl, s2, hw⟩ ⟨T, x1, x2, rfl, hT, rfl, e1, e2⟩
      rw [List.length_map] at hi
      have e1' : x1 = .int (i : Nat) := (Option.some.inj e1).symm
      subst e1'
      obtain ⟨t, ht, rfl⟩ := refs_at e2
      have hiss : i < ss.length := hsa.len ▸ hi
      have hs : ss[i]? = some ss[i] := List.getElem?_eq_getElem hiss
      generalize hsg : ss[i] = sm at hs
      have hsm : sm ∈ ss := List.mem_of_getElem? hs
      have s3 : Same H (upd H2 T (.tup [.int (i : Nat), .ref t])) := s2.trans (Same.new hT)
      obtain ⟨u, ht1, hu1⟩ := (hsa.get i t sm ht hs).same s3
      have hwT : wl ≠ T := ne_of_none hw hT
      have hw3 : (upd H2 T (.tup [.int (i : Nat), .ref t])) wl = some (.lst ((wordsOf (ss.take i)).map V.str)) := (upd_ne hwT).trans hw
      have hTu : (upd H2 T (.tup [.int (i : Nat), .ref t])) T = some (.tup [.int (i : Nat), .ref t]) := upd_same
      generalize upd H2 T (.tup [.int (i : Nat), .ref t]) = H3 at s3 ht1 hu1 hw3 hTu
      obtain ⟨m1, m4⟩ := V'.many sm hsm
      refine ⟨T, _, rfl, SqT.of hTu, rfl, _, _, rfl, _, _, rfl, t, _, rfl, SqT.of ht1, rfl, _, _, rfl, _, _, rfl, rfl, rfl, ?_⟩
      -- the count of the addends
      refine ⟨_, rfl, u, _, rfl, .inr (SqT.of hu1), _, _, rfl, rfl, _, rfl, ?_⟩
      rw [List.length_map, decide_eq_true (by omega)]
      refine iteT ⟨_, _, rfl, rfl, _, rfl, ?_⟩
      rw [decide_eq_true (by omega)]
      refine iteF ?_
      -- its words
      refine ⟨_, rfl, u, _, rfl, .inl (SqT.of hu1), _, rfl, ?_, fun q hq => ?_⟩
      · rw [List.length_append, List.length_map]
        exact line_of (by show _ + 1 ≤ _; omega)
      refine ⟨q, rfl, ⟨_, SqT.of upd_same⟩, fun D hD => ?_⟩
      have hqD : q ≠ D := ne_of_none upd_same hD
      have hD3 : H3 D = none := by rw [upd_ne (Ne.symm hqD)] at hD; exact hD
      have hwq : wl ≠ q := ne_of_none hw3 hq
      have hwD : wl ≠ D := ne_of_none hw3 hD3
      refine lc_tup (K := K) (a := q) (xs := sm.1.map V.str ++ [.str sm.2]) (fun j H4 => H4 D = some (.lst ((List.replicate j true).map V.bl)) ∧ Same (upd H3 q (.tup (sm.1.map V.str ++ [.str sm.2]))) H4)
        ⟨upd_same, Same.new hD⟩ (fun j H4 _ ⟨_, s4⟩ => SqT.of (s4 _ _ upd_same)) ?_ ?_
      · rintro j y H4 hj ⟨hD4, s4⟩
        have hy : sm.1.map V.str ++ [V.str sm.2] = (sm.1 ++ [sm.2]).map V.str := by rw [List.map_append] <;> rfl
        rw [hy] at hj
        obtain ⟨z, hz, rfl⟩ := strs_at' hj
        have hjl : j < (sm.1 ++ [sm.2]).length := (List.getElem?_eq_some_iff.mp hz).1
        rw [List.length_append] at hjl
        have hjl' : j < sm.1.length + 1 := hjl
        have hzm : z ∈ wordsOf ss := by
          have := List.mem_of_getElem? hz
          refine mem_wordsOf hsm ?_
          rcases List.mem_append.mp this with h | h
          · exact .inl h
          · exact .inr (by simpa using h)
        refine ⟨rfl, _, rfl, z, rfl, by have := V'.word_len hzm; omega, fun H5 s5 => ?_⟩
        refine ⟨_, s5 _ _ hD4, ?_, ?_, ?_⟩
        · rw [List.length_map, List.length_replicate]
          exact line_lt (by omega)
        · rw [upd_same, V'.words z hzm, List.replicate_succ', List.map_append] <;> rfl
        · exact Same.mut (s4.trans s5) hD
      · rintro H4 ⟨hD4, s4⟩
        rw [List.length_append, List.length_map] at hD4
        refine ⟨D, _, rfl, SqL.of hD4, _, rfl, ?_⟩
        have ea : (List.replicate (sm.1.length + [V.str sm.2].length) true).all id = true := by simp
        rw [ea]
        refine iteF ?_
        have s34 : Same H3 H4 := (Same.new hq).trans s4
        have s04 : Same H H4 := s3.trans s34
        have hw4 := s34 _ _ hw3
        -- words.extend
        refine ⟨_, rfl, .inl ⟨rfl, _, SqL.of hw4⟩, _, rfl, u, _, rfl, .inl (SqT.of (s34 _ _ hu1)), _, rfl, ?_, fun q2 hq2 => ?_⟩
        · rw [List.length_append, List.length_map]
          exact line_of (by show _ + 1 ≤ _; omega)
        have hwl4 := wordsOf_len (ss := ss.take i) fun s hs => (V'.many s (List.mem_of_mem_take hs)).2
        rw [List.length_take] at hwl4
        have hf := V'.few
        refine ⟨wl, q2, _, _, rfl, rfl, (upd_ne (ne_of_none hw4 hq2)).trans hw4, upd_same, ?_, ?_⟩
        · rw [List.length_map, List.length_append, List.length_map]
          exact line_of (by show _ + (_ + 1) ≤ _; omega)
        have ew : (wordsOf (ss.take i)).map V.str ++ (sm.1.map V.str ++ [V.str sm.2]) = (wordsOf (ss.take (i + 1))).map V.str := by
          rw [wordsOf_take hs, List.map_append, List.map_append] <;> rfl
        rw [ew]
        -- the letters so far
        have hwl5 := wordsOf_len (ss := ss.take (i + 1)) fun s hs => (V'.many s (List.mem_of_mem_take hs)).2
        rw [List.length_take] at hwl5
        have hsum := sum_lens (ws := wordsOf (ss.take (i + 1))) (m := 6) fun z hz => (V'.word_len (wordsOf_take_mem hz)).2
        have hjs := join_signsOf (wordsOf (ss.take (i + 1)))
        have hjl := signsOf_len (ws := wordsOf (ss.take (i + 1))) (m := 6) fun z hz => by
          have := (V'.word_len (wordsOf_take_mem hz)).2
          have e : z.cps.toList.length = z.length := Array.length_toList
          omega
        obtain ⟨p1, p2⟩ := V'.prefix (i + 1)
        refine ⟨⟨_, rfl⟩, _, rfl, _, wl, wordsOf (ss.take (i + 1)), rfl, rfl, .inl (SqL.of upd_same), ?_, ?_⟩
        · show _ + _ * 0 ≤ _
          omega
        refine ⟨_, rfl, ?_, ?_⟩
        · have e : (Txt.join ("" : Str) (wordsOf (ss.take (i + 1)))).cps.toList.length = (Txt.join ("" : Str) (wordsOf (ss.take (i + 1)))).length := Array.length_toList
          rw [hjs] at e
          omega
        rw [hjs]
        refine ⟨_, rfl, _, _, rfl, _, _, rfl, rfl, _, rfl, ?_⟩
        rw [decide_eq_false (by split <;> omega)]
        refine iteF ?_
        exact ⟨_, _, _, rfl, Same.mut (s04.trans (Same.new hq2)) hwl, upd_same⟩
    · rintro σ H2 ⟨v3, v4, v5, rfl, s2, hw⟩
      exact k _ s2
end
end WS
set_option maxRecDepth 100000
set_option maxHeartbeats 4000000
namespace RevS
open PySem PySem.Spec PyProof.Rows L2
/-- a text from its end -/
def revT (z : Str) : Str := ⟨z.cps.toList.reverse.toArray⟩
theorem pick_all (z : Str) : (Builtin.Str.strSliceIndices none none (-1) z.length).filterMap (z.cps[·]?) = z.cps.toList.reverse := by
  unfold Builtin.Str.strSliceIndices
  show (sliceRange ((z.cps.size : Int) - 1) (-1) (-1)).filterMap (z.cps[·]?) = _
  rw [PySem.W.krv_sliceRange]
  have : ∀ (l : List Nat) (n : Nat), l.length = n → ((List.range n).map fun k => n - 1 - k).filterMap (l[·]?) = l.reverse := by
    intro l
    induction l with
    | nil => intro n h; subst h; rfl
    | cons c r ih =>
      intro n h
      subst h
      have e : (List.range (r.length + 1)).map (fun k => r.length + 1 - 1 - k) = ((List.range r.length).map fun k => (r.length - 1 - k) + 1) ++ [0] := by
        rw [List.range_succ, List.map_append]
        congr 1
        · apply List.map_congr_left
          intro k hk
          have := List.mem_range.mp hk
          omega
        · simp
      show ((List.range (r.length + 1)).map (fun k => r.length + 1 - 1 - k)).filterMap ((c :: r)[·]?) = _
      rw [e, List.filterMap_append, List.reverse_cons]
      congr 1
      have h2 := ih r.length rfl
      rw [List.filterMap_map] at h2 ⊢
      rw [← h2]
      apply congrArg (fun f => List.filterMap f _)
      funext k
      simp
  have h := this z.cps.toList z.cps.size Array.length_toList
  simpa [Array.getElem?_toList] using h
def tRevS (te : TE) : TE := fun σ H Q => te σ H fun x H1 => ∃ z : Str, x = .str z ∧ z.length ≤ sizeLine ∧ Q (.str (revT z)) H1
theorem pe_revS {X : Cx} {e : Expr} {te : TE} {k : Nat} {p1 p2 p3 pos : Pos} (he : PE X e te) : PE X (.Subscript e (.Slice none none (some (.UnaryOp .USub (.Constant (.int 1) k p1) p2)) p3) pos) (tRevS te) := by
  refine ⟨fun pins s σ H Q I h => ?_⟩
  refine Subscript_ (thn (he.run pins s σ H _ I h) fun v s1 ⟨x, H1, I1, r1, q1⟩ => ?_)
  obtain ⟨z, ex, hz, q⟩ := q1
  subst ex
  obtain ⟨t, rfl⟩ := r1
  have hst : PO X (some (.UnaryOp .USub (.Constant (.int 1) k p1) p2)) (tPart (tUn (rU fun i => .int (-i)) (tC (.int 1)))) := po_some (pe_un un_neg pe_int)
  refine wpAny_Slice (thn (po_none.run pins s1 σ H1 (fun o H2 => o = none ∧ H2 = H1) I1 ⟨rfl, rfl⟩) fun vl s2 ⟨l, H2, I2, pl, el, e2⟩ => ?_)
  subst el e2
  refine thn (po_none.run pins s2 σ H2 (fun o H3 => o = none ∧ H3 = H2) I2 ⟨rfl, rfl⟩) fun vu s3 ⟨u, H3, I3, pu, eu, e3⟩ => ?_
  subst eu e3
  refine thn (hst.run pins s3 σ H3 (fun o H4 => o = some (-1) ∧ H4 = H3) I3 ⟨1, rfl, -1, rfl, rfl, rfl⟩) fun vs s4 ⟨o, H4, I4, ps, eo, e4⟩ => ?_
  subst eo e4
  cases pl
  cases pu
  cases ps
  rename_i uk _
  have I5 : L2.Inv X pins σ H4 { s4 with heap := s4.heap.push { cls := .type "slice", data := .fields #[.none, .none, .int (-1) uk] } } := I4.kept (t' := s4.toks) fun b ob q => Heap.get?_push_of_some _ q
  refine tail_any (ops := [.ref s4.heap.objs.size, .str z t]) (typeIs_str _ _ _) F.slot_str_getitem.lookup (wpAny_getItem_str_slice (l := none) (u := none) (st := some (-1, uk)) ⟨_, Heap.get?_push_size _ rfl, rfl, rfl⟩ rfl ?_) (by with_unfolding_all rfl)
  show Made.post (if ((-1 : Int) == 1 && (Builtin.Str.strSliceIndices none none (-1) z.length).length == z.length) = true then Made.val (.str z t)
    else Made.str ⟨((Builtin.Str.strSliceIndices none none (-1) z.length).filterMap (z.cps[·]?)).toArray⟩) _ _
  rw [if_neg (by simp), pick_all]
  have hl : (revT z).length ≤ sizeLine := by
    have e : (revT z).length = z.length := by
      show z.cps.toList.reverse.toArray.size = z.cps.size
      simp
    rw [e]; exact hz
  exact ⟨hl, .str (revT z), H4, I5.tok _, ⟨_, rfl⟩, q⟩
end RevS
set_option maxRecDepth 100000
set_option maxHeartbeats 4000000
namespace WS
open PySem L2 SetT
/-- the letter of a word in a column, counted from the right -/
def letterAt (z : Str) (p : Nat) : Str := match z.cps.toList.reverse[p]? with | some c => ⟨#[c]⟩ | none => Str.empty
def col (ws : List Str) (p : Nat) : List Nat := ws.filterMap fun z => z.cps.toList.reverse[p]?
def maxLen (ws : List Str) : Nat := ws.foldl (fun a z => max a z.length) 0
def rawSum (ws : List Str) : List Nat := ((List.range (maxLen ws)).map (col ws)).flatten
def rawOf (ss : List WSum) : List Nat := (ss.map fun s => rawSum (s.1 ++ [s.2])).flatten
def addN (L : List Nat) (c : Nat) : List Nat := if c ∈ L then L else L ++ [c]
/-- each of them once, where it stands first -/
def dd (r : List Nat) : List Nat := r.foldl addN []
def lettersOf (ss : List WSum) : List Nat := dd (rawOf ss)
theorem dd_snoc (r : List Nat) (c : Nat) : dd (r ++ [c]) = addN (dd r) c := by
  unfold dd; rw [List.foldl_append] <;> rfl
theorem addN_nodup {L : List Nat} {c : Nat} (h : L.Nodup) : (addN L c).Nodup := by
  unfold addN
  split
  · exact h
  · rename_i hx
    rw [List.nodup_append]
    refine ⟨h, by simp, fun a ha b hb e => hx ?_⟩
    have : b = c := by simpa using hb
    rw [← this, ← e]; exact ha
theorem addN_mem {L : List Nat} {c y : Nat} : y ∈ addN L c ↔ y ∈ L ∨ y = c := by
  unfold addN
  split
  · rename_i h
    exact ⟨.inl, fun h' => h'.elim id fun e => e ▸ h⟩
  · rw [List.mem_append, List.mem_singleton]
theorem dd_fold (r : List Nat) : ∀ a : List Nat, a.Nodup → (r.foldl addN a).Nodup ∧ ∀ y, y ∈ r.foldl addN a ↔ y ∈ a ∨ y ∈ r := by
  induction r with
  | nil => intro a h; exact ⟨h, fun y => by simp⟩
  | cons c r ih =>
    intro a h
    obtain ⟨h1, h2⟩ := ih (addN a c) (addN_nodup h)
    refine ⟨h1, fun y => ?_⟩
    rw [List.foldl_cons, h2, addN_mem, List.mem_cons]
    constructor
    · rintro ((h | h) | h)
      · exact .inl h
      · exact .inr (.inl h)
      · exact .inr (.inr h)
    · rintro (h | h | h)
      · exact .inl (.inl h)
      · exact .inl (.inr h)
      · exact .inr h
theorem dd_nodup (r : List Nat) : (dd r).Nodup := (dd_fold r [] List.nodup_nil).1
theorem dd_mem {r : List Nat} {y : Nat} : y ∈ dd r ↔ y ∈ r := by
  unfold dd
  rw [(dd_fold r [] List.nodup_nil).2 y]
  simp
def Abc (r : List Nat) : Prop := ∀ c ∈ r, c ∈ abc.cps.toList
theorem Abc.append {r r' : List Nat} (h : Abc r) (h' : Abc r') : Abc (r ++ r') := fun c hc => (List.mem_append.mp hc).elim (h c) (h' c)
theorem Abc.take {r : List Nat} (h : Abc r) (n : Nat) : Abc (r.take n) := fun c hc => h c (List.mem_of_mem_take hc)
theorem abc_size : abc.cps.toList.length = 26 := by decide +kernel
theorem Abc.len {r : List Nat} (h : Abc r) : (dd r).length ≤ 26 := by
  rw [← abc_size]
  exact nodup_le (dd_nodup r) fun c hc => h c (dd_mem.mp hc)
theorem col_abc {ws : List Str} {p : Nat} (h : ∀ z ∈ ws, isWord z = true) : Abc (col ws p) := fun c hc => by
  obtain ⟨z, hz, e⟩ := List.mem_filterMap.mp hc
  exact (isWord_iff.mp (h z hz)).2 c (List.mem_reverse.mp (List.mem_of_getElem? e))
theorem flat_abc {α : Type} {l : List α} {f : α → List Nat} (h : ∀ x ∈ l, Abc (f x)) : Abc (l.map f).flatten := fun c hc => by
  obtain ⟨m, hm, hc⟩ := List.mem_flatten.mp hc
  obtain ⟨x, hx, rfl⟩ := List.mem_map.mp hm
  exact h x hx c hc
theorem raw_abc {ws : List Str} (h : ∀ z ∈ ws, isWord z = true) : Abc (rawSum ws) := flat_abc fun p _ => col_abc h
theorem words_of {b : Int} {ss : List WSum} (V : Valid b ss) {s : WSum} (hs : s ∈ ss) : ∀ z ∈ s.1 ++ [s.2], isWord z = true := fun z hz => V.words z (mem_wordsOf hs ((List.mem_append.mp hz).elim .inl fun h => .inr (by simpa using h)))
theorem rawOf_abc {b : Int} {ss : List WSum} (V : Valid b ss) (n : Nat) : Abc (rawOf (ss.take n)) := flat_abc fun s hs => raw_abc (words_of V (List.mem_of_mem_take hs))
theorem rawOf_take {ss : List WSum} {i : Nat} {s : WSum} (h : ss[i]? = some s) : rawOf (ss.take (i + 1)) = rawOf (ss.take i) ++ rawSum (s.1 ++ [s.2]) := by
  unfold rawOf
  rw [List.take_add_one, h, List.map_append, List.flatten_append]
  simp
theorem range_flat (f : Nat → List Nat) (j : Nat) : ((List.range (j + 1)).map f).flatten = ((List.range j).map f).flatten ++ f j := by
  rw [List.range_succ, List.map_append, List.flatten_append]
  simp
theorem maxLen_fold (ws : List Str) : ∀ a : Nat, a ≤ ws.foldl (fun a z => max a z.length) a ∧ (∀ z ∈ ws, z.length ≤ ws.foldl (fun a z => max a z.length) a) ∧ (ws.foldl (fun a z => max a z.length) a = a ∨ ∃ z ∈ ws, ws.foldl (fun a z => max a z.length) a = z.length) := by
  induction ws with
  | nil => intro a; exact ⟨Nat.le_refl _, (fun z hz => nomatch hz), .inl rfl⟩
  | cons x r ih =>
    intro a
    obtain ⟨h1, h2, h3⟩ := ih (max a x.length)
    rw [List.foldl_cons]
    refine ⟨by omega, fun z hz => ?_, ?_⟩
    · rcases List.mem_cons.mp hz with rfl | hz
      · omega
      · exact h2 z hz
    · rcases h3 with h3 | ⟨z, hz, h3⟩
      · rw [h3]
        by_cases c : a ≤ x.length
        · exact .inr ⟨x, List.mem_cons_self, by omega⟩
        · exact .inl (by omega)
      · exact .inr ⟨z, List.mem_cons_of_mem _ hz, h3⟩
theorem maxLen_le {ws : List Str} {z : Str} (h : z ∈ ws) : z.length ≤ maxLen ws := (maxLen_fold ws 0).2.1 z h
theorem maxLen_is {ws : List Str} {m : Int} (h : m ∈ ws.map fun z => (z.length : Int)) (hle : ∀ n ∈ ws.map (fun z => (z.length : Int)), n ≤ m) : m = maxLen ws := by
  obtain ⟨z, hz, rfl⟩ := List.mem_map.mp h
  have h1 := maxLen_le hz
  rcases (maxLen_fold ws 0).2.2 with h2 | ⟨y, hy, h2⟩
  · have h2 : maxLen ws = 0 := h2
    omega
  · have h2 : maxLen ws = y.length := h2
    have := hle _ (List.mem_map.mpr ⟨y, hy, rfl⟩)
    omega
theorem maxLen_bound {ws : List Str} {m : Nat} (h : ∀ z ∈ ws, z.length ≤ m) : maxLen ws ≤ m := by
  rcases (maxLen_fold ws 0).2.2 with h2 | ⟨y, hy, h2⟩
  · have h2 : maxLen ws = 0 := h2
    omega
  · have h2 : maxLen ws = y.length := h2
    have := h y hy
    omega
theorem rev_at {xs : List Nat} {p : Nat} (h : p < xs.length) : atI xs (-1 - (p : Int)) = xs.reverse[p]? := by
  unfold atI ixN
  rw [if_neg (by omega), if_pos (by omega), List.getElem?_reverse h]
  show xs[_]? = _
  congr 1
  omega
theorem letterAt_some {z : Str} {p c : Nat} (h : z.cps.toList.reverse[p]? = some c) : letterAt z p = ⟨#[c]⟩ := by
  unfold letterAt; rw [h]
theorem letterAt_none {z : Str} {p : Nat} (h : z.cps.toList.reverse[p]? = none) : letterAt z p = Str.empty := by
  unfold letterAt; rw [h]
theorem rev_some {z : Str} {p : Nat} (h : p < z.length) : ∃ c, z.cps.toList.reverse[p]? = some c := by
  have e : z.cps.toList.reverse.length = z.length := by rw [List.length_reverse] <;> exact Array.length_toList
  exact ⟨_, List.getElem?_eq_getElem (by omega)⟩
theorem rev_none {z : Str} {p : Nat} (h : ¬ p < z.length) : z.cps.toList.reverse[p]? = none := by
  have e : z.cps.toList.reverse.length = z.length := by rw [List.length_reverse] <;> exact Array.length_toList
  exact List.getElem?_eq_none (by omega)
theorem col_snoc_some {ws : List Str} {z : Str} {p c : Nat} (h : z.cps.toList.reverse[p]? = some c) : col (ws ++ [z]) p = col ws p ++ [c] := by
  unfold col; rw [List.filterMap_append]; simp [h]
theorem col_snoc_none {ws : List Str} {z : Str} {p : Nat} (h : z.cps.toList.reverse[p]? = none) : col (ws ++ [z]) p = col ws p := by
  unfold col; rw [List.filterMap_append]; simp [h]
theorem take_snoc {α : Type} {l : List α} {i : Nat} {x : α} (h : l[i]? = some x) : l.take (i + 1) = l.take i ++ [x] := by
  rw [List.take_add_one, h] <;> rfl
/-- a dict of letters, each True -/
def kvOf (c : Nat) : Key × V := (Sum.inr ⟨#[c]⟩, .bl true)
theorem kv_inj {c d : Nat} (h : (⟨#[c]⟩ : Str) = ⟨#[d]⟩) : c = d := by
  have := congrArg (fun s : Str => s.cps.toList) h
  simpa using this
theorem put_kv (L : List Nat) (c : Nat) : putK (L.map kvOf) (Sum.inr ⟨#[c]⟩ : Key) (.bl true) = (addN L c).map kvOf := by
  unfold putK addN
  have hany : ((L.map kvOf).any fun kv => decide (kv.1 = (Sum.inr ⟨#[c]⟩ : Key))) = decide (c ∈ L) := by
    induction L with
    | nil => simp
    | cons d r ih =>
      rw [List.map_cons, List.any_cons, ih]
      by_cases e : d = c
      · subst e; simp [kvOf]
      · have : ¬ ((kvOf d).1 = (Sum.inr ⟨#[c]⟩ : Key)) := fun h => e (kv_inj (Sum.inr.inj h))
        rw [decide_eq_false this]
        have e' : ¬ c = d := fun h => e h.symm
        simp [e']
  rw [hany]
  by_cases h : c ∈ L
  · rw [decide_eq_true h, if_pos rfl, if_pos h, List.map_map]
    apply List.map_congr_left
    intro d _
    show (if (kvOf d).1 = _ then ((kvOf d).1, V.bl true) else kvOf d) = kvOf d
    split <;> rfl
  · rw [decide_eq_false h, if_neg Bool.false_ne_true, if_neg h, List.map_append] <;> rfl
end WS
set_option maxRecDepth 100000
set_option maxHeartbeats 8000000
namespace WS
open PySem L2 SetT
def spLetterAt : Sp := fun vs H Q _ => ∃ (z : Str) (p : Nat), vs = [.str z, .int (p : Nat)] ∧ z.length ≤ 1000 ∧ Q (.str (letterAt z p)) H
def spColCount (K : PySem.W.Frag) : Sp := fun vs H Q _ => ∃ (u : Addr) (ws : List Str) (tot : Str), vs = [.ref u, .str tot] ∧ H u = some (.tup (ws.map V.str)) ∧ (∀ z ∈ ws ++ [tot], z.length ≤ 1000) ∧ ws.length ≤ 1000 ∧ ∀ H', Same H H' → Q (.int (maxLen (ws ++ [tot]) : Nat)) H'
def spColOf (K : PySem.W.Frag) : Sp := fun vs H Q _ => ∃ (q : Addr) (ws : List Str) (p : Nat), vs = [.ref q, .int (p : Nat)] ∧ H q = some (.tup (ws.map V.str)) ∧ (∀ z ∈ ws, z.length ≤ 1000) ∧ ws.length ≤ 1000 ∧ ∀ D H', H D = none → Same H H' → H' D = some (.lst ((col ws p).map sg)) → Q (.ref D) H'
section
variable {P : Program} {w : World} {K : PySem.W.Frag} {mg : Str → Option Value} {base : Heap}
theorem scLetterAt : FnScope ["word", "place"] ["word", "place"] (defScope sLetterAt) := ⟨rfl, rfl, rfl, by decide +kernel, rfl, by decide +kernel, by decide +kernel⟩
theorem ok_letterat {f : Addr} {fd : FuncData} (F : Fun K "letter_at" "letter_at" sLetterAt f fd) (z_len : mg "len" = none) : FnOk P w K mg base CX0 1 f fd ["word", "place"] spLetterAt := by
  refine F.ok scLetterAt (fun vs H Q E h => ?_) (fun cdv A outer s H vs Q E hr h => ?_)
  · obtain ⟨z, p, rfl, _⟩ := h
    rfl
  · obtain ⟨z, p, rfl, hz, k⟩ := h
    refine ⟨_, (pss_one (ps_ret (pe_ifExp (pt_cmpR op_lt (pv 1) (pe_callB call_len_str (by rfl) z_len PySem.boot_len (pa_cons (pv 0) pa_nil)) (nomark _)) (pe_ix (r := rIxS) ix_str (pv 0) (pe_op op_sub (pe_un un_neg pe_int) (pv 1)) (fun _ _ => rfl)) pe_str))), ?_⟩
    refine ⟨_, rfl, _, rfl, z, rfl, line_of (by omega), _, _, rfl, rfl, _, rfl, ite2 (fun c => ?_) (fun c => ?_)⟩
    · have hp : p < z.length := by have := of_decide_eq_true c; omega
      obtain ⟨ch, hc⟩ := rev_some hp
      refine ⟨_, rfl, 1, rfl, _, rfl, _, _, rfl, rfl, z, -1 - (p : Int), ch, rfl, rfl, line_of (by omega), ?_, ?_⟩
      · rw [rev_at (show p < z.cps.toList.length by rw [Array.length_toList]; exact hp)]
        exact hc
      · rw [letterAt_some hc] at k
        exact k
    · have hp : ¬ p < z.length := fun h => c (decide_eq_true (by omega))
      rw [letterAt_none (rev_none hp)] at k
      exact k
theorem scColCount : FnScope ["addends", "total", "word"] ["addends", "total"] (defScope sColCount) := ⟨rfl, rfl, rfl, by decide +kernel, rfl, by decide +kernel, by decide +kernel⟩
theorem ok_colcount {f : Addr} {fd : FuncData} (F : Fun K "column_count" "column_count" sColCount f fd) (z_len : mg "len" = none) (z_max : mg "max" = none) : FnOk P w K mg base CX0 1 f fd ["addends", "total"] (spColCount K) := by
  refine F.ok scColCount (fun vs H Q E h => ?_) (fun cdv A outer s H vs Q E hr h => ?_)
  · obtain ⟨u, ws, tot, rfl, _⟩ := h
    rfl
  · obtain ⟨u, ws, tot, rfl, hu1, hz, hn, k⟩ := h
    have nd := scColCount.nd
    refine ⟨_, (pss_one (ps_ret (pe_callB (cr_max rfl) (by rfl) z_max (by decide +kernel) (pa_cons (pe_lc (own := [("word", 2)]) (g := (gName 2)) (tt := tYes) rfl nd (pi_tup (pe_tup (StX.pa_star (pv 0) (pa_cons (pv 1) pa_nil)))) (blkOk_by (own := [("word", 2)]) (N := ["addends", "total", "word"]) (sc := defScope sColCount) (by decide +kernel)) (fun _ _ _ _ _ => (pg_name (i := 2) nd rfl (.inl rfl))) (fun _ _ _ _ _ => pts_nil) (fun _ _ _ _ _ => (pe_callB call_len_str (by rfl) z_len PySem.boot_len (pa_cons (pv 2) pa_nil)))) pa_nil)))), ?_⟩
    refine ⟨_, rfl, u, _, rfl, .inl (SqT.of hu1), _, rfl, ?_, fun q hq => ?_⟩
    · rw [List.length_append, List.length_map]
      exact line_of (by show _ + 1 ≤ _; omega)
    refine ⟨q, rfl, ⟨_, SqT.of upd_same⟩, fun D hD => ?_⟩
    have hy : ws.map V.str ++ [V.str tot] = (ws ++ [tot]).map V.str := by rw [List.map_append] <;> rfl
    rw [hy] at hD ⊢
    refine lc_tup (K := K) (a := q) (xs := (ws ++ [tot]).map V.str) (fun j H4 => H4 = upd (upd H q (.tup ((ws ++ [tot]).map V.str))) D (.lst ((((ws ++ [tot]).take j).map fun z => (z.length : Int)).map V.int))) rfl
      (fun j H4 _ e => by rw [e]; exact SqT.of ((upd_ne (ne_of_none upd_same hD)).trans upd_same)) ?_ ?_
    · rintro j y H4 hj rfl
      obtain ⟨z, hz', rfl⟩ := strs_at' hj
      have hjl : j < (ws ++ [tot]).length := (List.getElem?_eq_some_iff.mp hz').1
      rw [List.length_append] at hjl
      have hjl' : j < ws.length + 1 := hjl
      refine ⟨rfl, _, rfl, z, rfl, line_of (by have := hz z (List.mem_of_getElem? hz'); omega), _, upd_same, ?_, ?_⟩
      · rw [List.length_map, List.length_map, List.length_take]
        exact line_lt (by omega)
      · have e : (((ws ++ [tot]).take (j + 1)).map fun z => (z.length : Int)).map V.int = (((ws ++ [tot]).take j).map fun z => (z.length : Int)).map V.int ++ [V.int (z.length : Nat)] := by
          rw [take_snoc hz', List.map_append, List.map_append] <;> rfl
        rw [upd_upd, e]
    · rintro H4 rfl
      rw [List.length_map, List.take_length]
      refine ⟨D, _, rfl, SqL.of upd_same, ?_, fun m hm hle => ?_⟩
      · rw [List.length_map, List.length_append]
        show 0 < _ + 1
        omega
      · rw [maxLen_is hm hle]
        exact k _ (Same.mut (Same.new hq) (by rw [upd_ne (Ne.symm (ne_of_none upd_same hD))] at hD; exact hD))
theorem scColOf : FnScope ["words", "place", "word"] ["words", "place"] (defScope sColOf) := ⟨rfl, rfl, rfl, by decide +kernel, rfl, by decide +kernel, by decide +kernel⟩
theorem ok_colof {f fA : Addr} {fd fdA : FuncData} (F : Fun K "column_of" "column_of" sColOf f fd) (z_len : mg "len" = none) (S_letter_at : Site K mg "letter_at" fA fdA ["word", "place"]) (G_letter_at : FnOk P w K mg base CX0 1 fA fdA ["word", "place"] spLetterAt) :
    FnOk P w K mg base CX0 2 f fd ["words", "place"] (spColOf K) := by
  refine F.ok scColOf (fun vs H Q E h => ?_) (fun cdv A outer s H vs Q E hr h => ?_)
  · obtain ⟨q, ws, p, rfl, _⟩ := h
    rfl
  · obtain ⟨q, ws, p, rfl, hq, hz, hn, k⟩ := h
    have nd := scColOf.nd
    have hr_letter_at := hr
    refine ⟨_, (pss_one (ps_ret (pe_lc (own := [("word", 2)]) (g := (gName 2))  rfl nd (pi_tup (pv 0)) (blkOk_by (own := [("word", 2)]) (N := ["words", "place", "word"]) (sc := defScope sColOf) (by decide +kernel)) (fun _ _ _ _ _ => (pg_name (i := 2) nd rfl (.inl rfl))) (fun _ _ _ _ _ => pts_one (pt_cmpR op_lt (pv 1) (pe_callB call_len_str (by rfl) z_len PySem.boot_len (pa_cons (pv 2) pa_nil)) (nomark _))) (fun _ _ _ _ _ => (pe_call G_letter_at hr_letter_at (by rfl) S_letter_at.g S_letter_at.k S_letter_at.b .nil pass0 (pa_cons (pv 2) (pa_cons (pv 1) pa_nil))))))), ?_⟩
    refine ⟨_, rfl, q, rfl, ⟨_, SqT.of hq⟩, fun D hD => ?_⟩
    refine lc_tup (K := K) (a := q) (xs := ws.map V.str) (fun j H4 => H4 = upd H D (.lst ((col (ws.take j) p).map sg))) rfl
      (fun j H4 _ e => by rw [e]; exact SqT.of ((upd_ne (ne_of_none hq hD)).trans hq)) ?_ ?_
    · rintro j y H4 hj rfl
      obtain ⟨z, hz', rfl⟩ := strs_at' hj
      have hjl : j < ws.length := (List.getElem?_eq_some_iff.mp hz').1
      have hzl := hz z (List.mem_of_getElem? hz')
      refine ⟨rfl, _, rfl, _, rfl, z, rfl, line_of (by omega), _, _, rfl, rfl, _, rfl, ite2 (fun c => ?_) (fun c => ?_)⟩
      · have hp : p < z.length := by have := of_decide_eq_true c; omega
        obtain ⟨ch, hc⟩ := rev_some hp
        refine ⟨_, rfl, _, rfl, z, p, rfl, hzl, _, upd_same, ?_, ?_⟩
        · have : (col (ws.take j) p).length ≤ ws.length := Nat.le_trans (List.length_filterMap_le _ _) (by rw [List.length_take]; omega)
          rw [List.length_map]
          exact line_lt (by omega)
        · rw [upd_upd, take_snoc hz', col_snoc_some hc, letterAt_some hc, List.map_append] <;> rfl
      · have hp : ¬ p < z.length := fun h => c (decide_eq_true (by omega))
        show upd H D _ = upd H D _
        rw [take_snoc hz', col_snoc_none (rev_none hp)]
    · rintro H4 rfl
      rw [List.length_map, List.take_length]
      exact k D _ hD (Same.new hD) upd_same
end
end WS
set_option maxRecDepth 100000
set_option maxHeartbeats 8000000
namespace WS
open PySem L2 SetT
theorem bk_ne : ¬ (("base" : Str) = "kept") := by decide +kernel
/-- a sheet's attributes, in the order in which they are stored -/
def flds (b : Int) (kl : Addr) : List (Str × V) := putF "kept" (.ref kl) (putF "base" (.int b) [])
theorem flds_kept (b : Int) (kl : Addr) : (flds b kl).lookup ("kept" : Str) = some (.ref kl) := by
  unfold flds; rw [lookup_putF, if_pos rfl]
theorem flds_base (b : Int) (kl : Addr) : (flds b kl).lookup ("base" : Str) = some (.int b) := by
  unfold flds; rw [lookup_putF, if_neg bk_ne, lookup_putF, if_pos rfl]
theorem flds_no (b : Int) (kl : Addr) {m : Str} (h1 : ¬ m = "kept") (h2 : ¬ m = "base") : (flds b kl).lookup m = none := by
  unfold flds
  rw [lookup_putF, if_neg h1, lookup_putF, if_neg h2] <;> rfl
/-- a Sheet at p: its base, its list of sums at kl -/
structure ShAt (C : Addr) (H : Hp) (p : Addr) (b : Int) (kl : Addr) (ts : List Addr) : Prop where
  ob : ∃ dx, H p = some (.ins C dx (flds b kl))
  kp : H kl = some (.lst (ts.map V.ref))
theorem ShAt.same {C : Addr} {H H' : Hp} {p : Addr} {b : Int} {kl : Addr} {ts : List Addr} (h : ShAt C H p b kl ts) (e : Same H H') : ShAt C H' p b kl ts := by
  obtain ⟨⟨dx, h1⟩, h2⟩ := h
  exact ⟨⟨dx, e _ _ h1⟩, e _ _ h2⟩
structure SheetTxt (K : PySem.W.Frag) (mg : Str → Option Value) (C : Addr) : Prop where
  cl : Cls K C
  nB : NoAttr K C "base"
  nK : NoAttr K C "kept"
  g : mg "Sheet" = some (.ref C)
def spShInit (C : Addr) : Sp := fun vs H Q _ => ∃ (p dx : Addr) (b : Int) (sl : Addr) (ts : List Addr) (ss : List WSum), vs = [.ref p, .int b, .ref sl] ∧ H p = some (.ins C dx []) ∧ H sl = some (.lst (ts.map V.ref)) ∧ SumsAt H ts ss ∧ Valid b ss ∧
  ∀ kl H', H kl = none → ShAt C H' p b kl ts → (∀ a o, a ≠ p → H a = some o → H' a = some o) → Q .non H'
def spShLetters (C : Addr) : Sp := fun vs H Q _ => ∃ (p : Addr) (b : Int) (kl : Addr) (ts : List Addr) (ss : List WSum), vs = [.ref p] ∧ ShAt C H p b kl ts ∧ SumsAt H ts ss ∧ Valid b ss ∧
  ∀ q H', H q = none → Same H H' → H' q = some (.lst ((lettersOf ss).map sg)) → Q (.ref q) H'
section
variable {P : Program} {w : World} {K : PySem.W.Frag} {mg : Str → Option Value} {base : Heap}
theorem scShInit : FnScope ["self", "base", "sums"] ["self", "base", "sums"] (defScope sShInit) := ⟨rfl, rfl, rfl, by decide +kernel, rfl, by decide +kernel, by decide +kernel⟩
theorem ok_shinit {f C fA fB : Addr} {fd fdA fdB : FuncData} (F : Fun K "__init__" "Sheet.__init__" sShInit f fd) (T : SheetTxt K mg C) (z_list : mg "list" = none)
    (S_check_counts : Site K mg "check_counts" fA fdA ["base", "sums"]) (G_check_counts : FnOk P w K mg base CX0 1 fA fdA ["base", "sums"] spCounts)
    (S_check_sums : Site K mg "check_sums" fB fdB ["base", "sums"]) (G_check_sums : FnOk P w K mg base CX0 2 fB fdB ["base", "sums"] spCheck) :
    FnOk P w K mg base CX0 3 f fd ["self", "base", "sums"] (spShInit C) := by
  refine F.ok scShInit (fun vs H Q E h => ?_) (fun cdv A outer s H vs Q E hr h => ?_)
  · obtain ⟨p, dx, b, sl, ts, ss, rfl, _⟩ := h
    rfl
  · obtain ⟨p, dx, b, sl, ts, ss, rfl, hp, hsl, hsa, V', k⟩ := h
    have nd := scShInit.nd
    have hr_check_counts : Room 1 _ := hr.mono (by decide)
    have hr_check_sums := hr
    refine ⟨_, (pss_cons (ps_expr (pe_call G_check_counts hr_check_counts (by rfl) S_check_counts.g S_check_counts.k S_check_counts.b .nil pass0 (pa_cons (pv 1) (pa_cons (pv 2) pa_nil))))
      (pss_cons (ps_expr (pe_call G_check_sums hr_check_sums (by rfl) S_check_sums.g S_check_sums.k S_check_sums.b .nil pass0 (pa_cons (pv 1) (pa_cons (pv 2) pa_nil))))
      (pss_cons (ps_fld (pv 0) (pv 1) rfl)
      (pss_one (ps_fld (pv 0) (pe_callTy call_list_of (by rfl) z_list (by decide +kernel) (pa_cons (pv 2) pa_nil)) rfl))))), ?_⟩
    have hl := hsa.len
    have hf := V'.few
    refine ⟨_, rfl, _, rfl, b, sl, _, rfl, hsl, V'.b2, V'.b12, by rw [List.length_map]; omega, by rw [List.length_map]; omega, ?_⟩
    refine ⟨_, rfl, _, rfl, b, sl, ts, ss, rfl, hsl, hsa, V', fun H1 s1 => ?_⟩
    have hp1 := s1 _ _ hp
    have hsl1 := s1 _ _ hsl
    have hpsl : sl ≠ p := ne_of hsl1 hp1 (fun z => by cases z)
    refine ⟨_, rfl, _, rfl, p, C, dx, [], rfl, hp1, T.cl, T.nB, (by show 0 < 1000; decide), ?_⟩
    refine ⟨_, rfl, sl, _, rfl, .inl (SqL.of ((upd_ne hpsl).trans hsl1)), fun kl hkl => ?_⟩
    have hpk : p ≠ kl := fun e => by
      rw [← e, upd_same] at hkl
      cases hkl
    have hkl1 : H1 kl = none := by rw [upd_ne (Ne.symm hpk)] at hkl; exact hkl
    refine ⟨_, rfl, p, C, dx, _, rfl, (upd_ne hpk).trans upd_same, T.cl, T.nK, (by show 1 < 1000; decide), ?_⟩
    refine k kl _ (Same.free s1 hkl1) ⟨⟨dx, upd_same⟩, (upd_ne (Ne.symm hpk)).trans upd_same⟩ fun a o ha hao => ?_
    rw [upd_ne ha, upd_ne (ne_of_none (s1 _ _ hao) hkl1), upd_ne ha]
    exact s1 _ _ hao
theorem scShLetters : FnScope ["self", "met", "addends", "total", "place", "letter"] ["self"] (defScope sShLetters) := ⟨rfl, rfl, rfl, by decide +kernel, rfl, by decide +kernel, by decide +kernel⟩
theorem ok_shletters {f C fA fB : Addr} {fd fdA fdB : FuncData} (F : Fun K "letters" "Sheet.letters" sShLetters f fd) (T : SheetTxt K mg C) (z_list : mg "list" = none) (z_range : mg "range" = none)
    (S_column_count : Site K mg "column_count" fA fdA ["addends", "total"]) (G_column_count : FnOk P w K mg base CX0 1 fA fdA ["addends", "total"] (spColCount K))
    (S_column_of : Site K mg "column_of" fB fdB ["words", "place"]) (G_column_of : FnOk P w K mg base CX0 2 fB fdB ["words", "place"] (spColOf K)) :
    FnOk P w K mg base CX0 3 f fd ["self"] (spShLetters C) := by
  refine F.ok scShLetters (fun vs H Q E h => ?_) (fun cdv A outer s H vs Q E hr h => ?_)
  · obtain ⟨p, b, kl, ts, ss, rfl, _⟩ := h
    rfl
  · obtain ⟨p, b, kl, ts, ss, rfl, A', hsa, V', k⟩ := h
    have nd := scShLetters.nd
    have hu := hu_of hr
    have hr_column_count : Room 1 _ := hr.mono (by decide)
    have hr_column_of := hr
    obtain ⟨⟨dx, hp⟩, hkl⟩ := id A'
    refine ⟨_, (pss_cons (ps_set (i := 1) nd rfl (.inl rfl) pe_dnewK)
      (pss_cons (ps_for PassesOwn.never rfl (pi_list (pe_fld (pv 0) rfl)) (pg_tup rfl (pgs_cons (pg_name (i := 2) nd rfl (.inl rfl)) (pgs_cons (pg_name (i := 3) nd rfl (.inl rfl)) pgs_nil))) (pss_one (ps_for PassesOwn.never rfl (pi_range1 (by rfl) z_range (pa_cons (pe_call G_column_count hr_column_count (by rfl) S_column_count.g S_column_count.k S_column_count.b .nil pass0 (pa_cons (pv 2) (pa_cons (pv 3) pa_nil))) pa_nil)) (pg_name (i := 4) nd rfl (.inl rfl)) (pss_one (ps_for PassesOwn.never rfl (pi_list (pe_call G_column_of hr_column_of (by rfl) S_column_of.g S_column_of.k S_column_of.b .nil pass0 (pa_cons (pe_tup (StX.pa_star (pv 2) (pa_cons (pv 3) pa_nil))) (pa_cons (pv 4) pa_nil)))) (pg_name (i := 5) nd rfl (.inl rfl)) (pss_one (ps_dput hu (pv 1) (pv 5) pe_bl rfl)))))))
      (pss_one (ps_ret (pe_callTy (call_list_dK rfl) (by rfl) z_list (by decide +kernel) (pa_cons (pv 1) pa_nil)))))), ?_⟩
    refine fun m hm => ?_
    have hkm : kl ≠ m := ne_of_none hkl hm
    refine ⟨_, rfl, p, C, dx, _, _, rfl, (upd_ne (ne_of_none hp hm)).trans hp, T.cl, T.nK, flds_kept _ _, kl, rfl, ⟨_, SqL.of ((upd_ne hkm).trans hkl)⟩,
      for_list (K := K) (a := kl) (xs := ts.map V.ref) (fun i σ H2 => ∃ v2 v3 v4 v5, σ = [some (.ref p), some (.ref m), v2, v3, v4, v5] ∧ Same H H2 ∧ H2 m = some (.dK ((dd (rawOf (ss.take i))).map kvOf)))
      ⟨none, none, none, none, rfl, Same.new hm, upd_same⟩ (fun i σ H2 _ ⟨_, _, _, _, _, s2, _⟩ => SqL.of (s2 _ _ hkl)) ?_ ?_⟩
    · rintro i x σ H2 hi ⟨v2, v3, v4, v5, rfl, s2, hm2⟩
      obtain ⟨t, ht, rfl⟩ := refs_at hi
      have hil : i < ts.length := (List.getElem?_eq_some_iff.mp ht).1
      have hiss : i < ss.length := hsa.len ▸ hil
      have hs : ss[i]? = some ss[i] := List.getElem?_eq_getElem hiss
      generalize hsg : ss[i] = sm at hs
      have hsm : sm ∈ ss := List.mem_of_getElem? hs
      obtain ⟨u, ht1, hu1⟩ := (hsa.get i t sm ht hs).same s2
      have hw := words_of V' hsm
      have hwl : ∀ z ∈ sm.1 ++ [sm.2], z.length ≤ 6 := fun z hz => (isWord_iff.mp (hw z hz)).1.2
      obtain ⟨m1, m4⟩ := V'.many sm hsm
      have hml := maxLen_bound hwl
      refine ⟨t, _, rfl, SqT.of ht1, rfl, _, _, rfl, _, _, rfl, rfl, ?_⟩
      refine ⟨_, rfl, _, rfl, u, sm.1, sm.2, rfl, hu1, fun z hz => by have := hwl z hz; omega, by omega, fun H3 s3 => ?_⟩
      have s03 := s2.trans s3
      refine ⟨_, rfl, by omega, by omega, for_range (lo := 0) (n := ((maxLen (sm.1 ++ [sm.2]) : Nat) : Int).toNat) (fun j σ H4 => ∃ v4 v5, σ = [some (.ref p), some (.ref m), some (.ref u), some (.str sm.2), v4, v5] ∧ Same H H4 ∧
          H4 m = some (.dK ((dd (rawOf (ss.take i) ++ ((List.range j).map (col (sm.1 ++ [sm.2]))).flatten)).map kvOf)))
        ⟨v4, v5, rfl, s03, ?_⟩ ?_ ?_⟩
      · rw [s3 _ _ hm2]; simp
      · rintro j σ H4 hj ⟨v4', v5', rfl, s4, hm4⟩
        obtain ⟨u', ht4, hu4⟩ := (hsa.get i t sm ht hs).same s4
        have hu4 : H4 u = some (.tup (sm.1.map V.str)) := by
          have h1 := s4 t _ ((hsa.get i t sm ht hs).choose_spec.1)
          rw [ht4] at h1
          have h2 := (HO.tup.inj (Option.some.inj h1))
          have h3 := s2 t _ ((hsa.get i t sm ht hs).choose_spec.1)
          rw [ht1] at h3
          have h4 := (HO.tup.inj (Option.some.inj h3))
          rw [← h4] at h2
          injection h2 with h2 _
          injection h2 with h2
          rw [← h2]; exact hu4
        refine ⟨_, rfl, u, _, rfl, .inl (SqT.of hu4), _, rfl, ?_, fun q hq => ?_⟩
        · rw [List.length_append, List.length_map]
          exact line_of (by show _ + 1 ≤ _; omega)
        have hy : sm.1.map V.str ++ [V.str sm.2] = (sm.1 ++ [sm.2]).map V.str := by rw [List.map_append] <;> rfl
        rw [hy]
        refine ⟨_, rfl, q, sm.1 ++ [sm.2], j, (by rw [Int.zero_add] <;> rfl), upd_same, fun z hz => by have := hwl z hz; omega, by rw [List.length_append]; show _ + 1 ≤ _; omega, fun D H5 hD s5 hD5 => ?_⟩
        have s45 : Same H4 H5 := (Same.new hq).trans s5
        have hm5 := s45 _ _ hm4
        have hmD : m ≠ D := ne_of hm5 hD5 (fun z => by cases z)
        have rabc := rawOf_abc V' i
        have cabc : Abc ((List.range j).map (col (sm.1 ++ [sm.2]))).flatten := flat_abc fun p _ => col_abc hw
        refine ⟨D, rfl, ⟨_, SqL.of hD5⟩, for_list (K := K) (a := D) (xs := (col (sm.1 ++ [sm.2]) j).map sg) (fun n σ H6 => ∃ v5, σ = [some (.ref p), some (.ref m), some (.ref u), some (.str sm.2), some (.int (0 + (j : Int))), v5] ∧ Same H H6 ∧ H6 D = some (.lst ((col (sm.1 ++ [sm.2]) j).map sg)) ∧
            H6 m = some (.dK ((dd (rawOf (ss.take i) ++ ((List.range j).map (col (sm.1 ++ [sm.2]))).flatten ++ (col (sm.1 ++ [sm.2]) j).take n)).map kvOf)))
          ⟨_, rfl, s4.trans s45, hD5, by rw [hm5]; simp⟩ (fun n σ H6 _ ⟨_, _, _, h, _⟩ => SqL.of h) ?_ ?_⟩
        · rintro n y σ H6 hn ⟨v5'', rfl, s6, hD6, hm6⟩
          obtain ⟨c, hc, rfl⟩ : ∃ c, (col (sm.1 ++ [sm.2]) j)[n]? = some c ∧ y = sg c := by
            rw [List.getElem?_map] at hn
            cases e : (col (sm.1 ++ [sm.2]) j)[n]? with
            | none => rw [e] at hn; cases hn
            | some c => rw [e] at hn; exact ⟨c, rfl, (Option.some.inj hn).symm⟩
          refine ⟨_, rfl, _, rfl, m, _, rfl, DPut.k (k := Sum.inr ⟨#[c]⟩) hm6 ?_, ?_⟩
          · rw [List.length_map]
            have := ((rabc.append cabc).append ((col_abc hw (p := j)).take n)).len
            exact small1000 (by omega)
          · refine ⟨_, rfl, Same.mut s6 hm, (upd_ne (Ne.symm hmD)).trans hD6, ?_⟩
            · rw [upd_same, put_kv, ← dd_snoc, List.append_assoc, List.append_assoc, List.append_assoc, ← take_snoc hc]
        · rintro σ H6 ⟨v5'', rfl, s6, hD6, hm6⟩
          refine ⟨_, _, rfl, s6, ?_⟩
          rw [hm6, List.length_map, List.take_length, range_flat, List.append_assoc]
      · rintro σ H4 ⟨v4', v5', rfl, s4, hm4⟩
        refine ⟨_, _, _, _, rfl, s4, ?_⟩
        rw [hm4, rawOf_take hs]
        rfl
    · rintro σ H2 ⟨v2, v3, v4, v5, rfl, s2, hm2⟩
      rw [List.length_map, hsa.len, List.take_length] at hm2
      refine ⟨_, rfl, m, _, rfl, hm2, fun q hq => ?_⟩
      refine k q _ (Same.free s2 hq) (s2.trans (Same.new hq)) ?_
      rw [upd_same, List.map_map] <;> rfl
end
end WS
set_option maxRecDepth 100000
set_option maxHeartbeats 8000000
namespace WS
open PySem L2 SetT RevS
theorem txt_join (s : Str) (ws : List Str) : Txt.join s ws = Str.join s ws := PySem.StrLaws.glued_eq_join s ws
def spSumRow (K : PySem.W.Frag) : Sp := fun vs H Q _ => ∃ (q : Addr) (s : WSum), vs = [.ref q, .str s.2] ∧ (SqL K H q (s.1.map V.str) ∨ SqT K H q (s.1.map V.str)) ∧ s.1.length ≤ 4 ∧ (∀ z ∈ s.1 ++ [s.2], z.length ≤ 6) ∧ Q (.str (rowS s)) H
section
variable {P : Program} {w : World} {K : PySem.W.Frag} {mg : Str → Option Value} {base : Heap}
theorem scSumRow : FnScope ["addends", "total"] ["addends", "total"] (defScope sSumRow) := ⟨rfl, rfl, rfl, by decide +kernel, rfl, by decide +kernel, by decide +kernel⟩
theorem ok_sumrow {f : Addr} {fd : FuncData} (F : Fun K "sum_row" "sum_row" sSumRow f fd) : FnOk P w K mg base CX0 1 f fd ["addends", "total"] (spSumRow K) := by
  refine F.ok scSumRow (fun vs H Q E h => ?_) (fun cdv A outer s H vs Q E hr h => ?_)
  · obtain ⟨q, s, rfl, _⟩ := h
    rfl
  · obtain ⟨q, sm, rfl, hq, h4, hz, k⟩ := h
    have nd := scSumRow.nd
    have hl := row_len h4 hz
    have hs : (sm.1.map (·.length)).sum ≤ sm.1.length * 6 := sum_map_le fun z h => hz z (List.mem_append_left _ h)
    have h6 := hz sm.2 (List.mem_append_right _ List.mem_cons_self)
    refine ⟨_, (pss_one (ps_ret (pe_op op_add_str (pe_op op_add_str (pe_join pe_str (pv 0)) pe_str) (pv 1)))), ?_⟩
    refine ⟨⟨_, rfl⟩, _, rfl, plusT, q, sm.1, rfl, rfl, hq, ?_, ?_⟩
    · rw [show plusT.length = 3 from rfl]
      omega
    rw [txt_join]
    have e3 : (" = " : Str).length = 3 := rfl
    refine ⟨_, _, rfl, rfl, line_of (by omega), _, rfl, _, _, rfl, rfl, line_of (by rw [PySem.Str.length_append]; omega), k⟩
end
end WS
set_option maxRecDepth 100000
set_option maxHeartbeats 8000000
namespace WS
open PySem L2 SetT RevS
def spLText : Sp := fun vs H Q _ => ∃ (b : Int) (sl : Addr) (ts : List Addr) (ss : List WSum), vs = [.int b, .ref sl] ∧ H sl = some (.lst (ts.map V.ref)) ∧ SumsAt H ts ss ∧ Valid b ss ∧ ∀ H', Same H H' → Q (.str (textS b ss)) H'
section
variable {P : Program} {w : World} {K : PySem.W.Frag} {mg : Str → Option Value} {base : Heap}
theorem scLText : FnScope ["_law_base", "_law_sums", "_law_rows", "_law_addends", "_law_total"] ["_law_base", "_law_sums"] (defScope sLText) := ⟨rfl, rfl, rfl, by decide +kernel, rfl, by decide +kernel, by decide +kernel⟩
theorem ok_ltext {f : Addr} {fd : FuncData} (F : Fun K "_law_text" "_law_text" sLText f fd) (z_str : mg "str" = none) : FnOk P w K mg base CX0 1 f fd ["_law_base", "_law_sums"] spLText := by
  refine F.ok scLText (fun vs H Q E h => ?_) (fun cdv A outer s H vs Q E hr h => ?_)
  · obtain ⟨b, sl, ts, ss, rfl, _⟩ := h
    rfl
  · obtain ⟨b, sl, ts, ss, rfl, hsl, hsa, V', k⟩ := h
    have nd := scLText.nd
    have b2 := V'.b2
    have b12 := V'.b12
    have B := HeadOk.of b2 b12
    have hf := V'.few
    have hl := hsa.len
    have tl := text_len V'
    have hlog : b.natAbs.log2 < 1920 := Nat.lt_of_le_of_lt (Nat.log2_le_self _) (by omega)
    have hn2 : (toString b : Str).length ≤ 2 := B.l2
    have ha5 : ("base " : Str).length = 5 := rfl
    refine ⟨_, (pss_cons (ps_set (i := 2) nd rfl (.inl rfl) (pe_lst (pa_cons (pe_op op_add_str pe_str (pe_callTy call_str_int (by rfl) z_str (by decide +kernel) (pa_cons (pv 0) pa_nil))) pa_nil)))
      (pss_cons (ps_for PassesOwn.never rfl (pi_list (pv 1)) (pg_tup rfl (pgs_cons (pg_name (i := 3) nd rfl (.inl rfl)) (pgs_cons (pg_name (i := 4) nd rfl (.inl rfl)) pgs_nil))) (pss_one (ps_expr (pe_bm PySem.F.plainAttrs_list PySem.F.slot_list_append PySem.F.type_list_append mt_append (pv 2) (pa_cons (pe_op op_add_str (pe_op op_add_str (pe_join pe_str (pv 3)) pe_str) (pv 4)) pa_nil)))))
      (pss_one (ps_ret (pe_join pe_str (pv 2)))))), ?_⟩
    refine ⟨_, rfl, b, rfl, hlog, _, _, rfl, rfl, line_of (by omega), by show 1 ≤ sizeLine; decide, fun m hm => ?_⟩
    have s1 : Same H (upd H m (.lst [.str (headS b)])) := Same.new hm
    have hm1 : (upd H m (.lst [.str (headS b)])) m = some (.lst ((headS b :: (ss.take 0).map rowS).map V.str)) := upd_same
    refine ⟨_, rfl, sl, rfl, ⟨_, SqL.of (s1 _ _ hsl)⟩, for_list (K := K) (a := sl) (xs := ts.map V.ref) (fun i σ H3 => ∃ v3 v4, σ = [some (.int b), some (.ref sl), some (.ref m), v3, v4] ∧ Same H H3 ∧ H3 m = some (.lst ((headS b :: (ss.take i).map rowS).map V.str)))
      ⟨none, none, rfl, s1, hm1⟩ (fun i σ H3 _ ⟨_, _, _, s3, _⟩ => SqL.of (s3 _ _ hsl)) ?_ ?_⟩
    · rintro i y σ H3 hi ⟨v3, v4, rfl, s3, hm3⟩
      obtain ⟨t, ht, rfl⟩ := refs_at hi
      have hil : i < ts.length := (List.getElem?_eq_some_iff.mp ht).1
      have hiss : i < ss.length := hl ▸ hil
      have hs : ss[i]? = some ss[i] := List.getElem?_eq_getElem hiss
      generalize hsg : ss[i] = sm at hs
      have hsm : sm ∈ ss := List.mem_of_getElem? hs
      obtain ⟨u, ht1, hu1⟩ := (hsa.get i t sm ht hs).same s3
      have h4 := (V'.many sm hsm).2
      have hz : ∀ z ∈ sm.1 ++ [sm.2], z.length ≤ 6 := fun z hz => (valid_len V' hsm z hz).2
      have hrl := row_len h4 hz
      have hs6 : (sm.1.map (·.length)).sum ≤ sm.1.length * 6 := sum_map_le fun z h => hz z (List.mem_append_left _ h)
      have h6 := hz sm.2 (List.mem_append_right _ List.mem_cons_self)
      have e3 : (" = " : Str).length = 3 := rfl
      refine ⟨t, _, rfl, SqT.of ht1, rfl, _, _, rfl, _, _, rfl, rfl, ?_⟩
      refine ⟨_, rfl, .inl ⟨rfl, _, SqL.of hm3⟩, ⟨_, rfl⟩, _, rfl, plusT, u, sm.1, rfl, rfl, .inr (SqT.of hu1), ?_, ?_⟩
      · rw [show plusT.length = 3 from rfl]
        omega
      rw [txt_join]
      refine ⟨_, _, rfl, rfl, line_of (by omega), _, rfl, _, _, rfl, rfl, line_of (by rw [PySem.Str.length_append]; omega), m, _, _, rfl, rfl, hm3, ?_, ?_⟩
      · rw [List.length_map, List.length_cons, List.length_map, List.length_take]
        exact line_lt (by omega)
      · refine ⟨_, _, rfl, Same.mut s3 hm, ?_⟩
        rw [upd_same, take_snoc hs, List.map_append, ← List.cons_append, List.map_append] <;> rfl
    · rintro σ H3 ⟨v3, v4, rfl, s3, hm3⟩
      rw [List.length_map, hl, List.take_length] at hm3
      refine ⟨⟨_, rfl⟩, _, rfl, ("\n" : Str), m, headS b :: ss.map rowS, rfl, rfl, .inl (SqL.of hm3), ?_, ?_⟩
      · rw [show ("\n" : Str).length = 1 from rfl, List.length_cons, List.length_map]
        omega
      rw [txt_join]
      exact k H3 s3
end
end WS
set_option maxRecDepth 100000
set_option maxHeartbeats 8000000
namespace WS
open PySem L2 SetT RevS
theorem inV_sg (c : Nat) (L : List Nat) : inV (sg c) (L.map sg) = decide (c ∈ L) := by
  unfold inV
  induction L with
  | nil => simp
  | cons d r ih =>
    rw [List.map_cons, List.any_cons, ih]
    by_cases e : c = d
    · subst e; simp [eqV, sg]
    · have h1 : eqV (sg d) (sg c) = false := by
        show ((⟨#[d]⟩ : Str) == ⟨#[c]⟩) = false
        simpa [beq_iff_eq] using fun h => e (kv_inj h).symm
      rw [h1]
      simp [e]
theorem flat_sg (L : List Nat) : (L.map sg).all flatV = true := by
  rw [List.all_map, List.all_eq_true]
  intro c _
  rfl
theorem cut_letter (z : Str) (p : Nat) : cutS (revT z) (some (0 + (p : Int))) (some (0 + (p : Int) + 1)) = letterAt z p := by
  unfold cutS letterAt
  have er : (revT z).cps.toList = z.cps.toList.reverse := by unfold revT; simp
  have e0 : (0 + (p : Int)) = ((p : Nat) : Int) := Int.zero_add _
  have e1 : (0 + (p : Int) + 1) = ((p + 1 : Nat) : Int) := by omega
  rw [e1, e0, HT.sIx_nat, HT.sIx_nat, er]
  have hl : (revT z).length = z.cps.toList.reverse.length := by rw [← er] <;> exact Array.length_toList.symm
  rw [hl]
  generalize z.cps.toList.reverse = l
  rcases h : l[p]? with _ | c
  · have : l.length ≤ p := List.getElem?_eq_none_iff.mp h
    have e : min (p + 1) l.length - min p l.length = 0 := by omega
    rw [e]
    rfl
  · have hp : p < l.length := (List.getElem?_eq_some_iff.mp h).1
    have e2 : min (p + 1) l.length - min p l.length = 1 := by omega
    have e3 : min p l.length = p := by omega
    rw [e2, e3]
    have e4 : (l.drop p).take 1 = [c] := by
      rw [List.drop_eq_getElem_cons hp]
      have : l[p] = c := by
        rw [List.getElem?_eq_getElem hp] at h
        exact Option.some.inj h
      rw [this] <;> rfl
    rw [e4]
end WS
set_option maxRecDepth 100000
set_option maxHeartbeats 8000000
namespace WS
open PySem L2 SetT RevS
/-- what the signs cs are worth, the first one's figure the highest -/
def worthOf (b : Int) (fg : Nat → Int) (cs : List Nat) : Int := cs.foldl (fun a c => a * b + fg c) 0
theorem worthOf_snoc (b : Int) (fg : Nat → Int) (cs : List Nat) (c : Nat) : worthOf b fg (cs ++ [c]) = worthOf b fg cs * b + fg c := by
  unfold worthOf; rw [List.foldl_append] <;> rfl
/-- the same from the end: what is found, and the scale -/
def backOf (b : Int) (fg : Nat → Int) : List Nat → Int
  | [] => 0
  | c :: r => fg c + b * backOf b fg r
theorem back_worth (b : Int) (fg : Nat → Int) (cs : List Nat) : backOf b fg cs.reverse = worthOf b fg cs := by
  have : ∀ (r : List Nat), worthOf b fg r.reverse = backOf b fg r := by
    intro r
    induction r with
    | nil => rfl
    | cons c r ih =>
      rw [List.reverse_cons, worthOf_snoc, ih]
      show _ = fg c + b * backOf b fg r
      rw [Int.mul_comm b]; omega
  rw [← this, List.reverse_reverse]
def powI (b : Int) : Nat → Int
  | 0 => 1
  | n + 1 => powI b n * b
theorem back_snoc (b : Int) (fg : Nat → Int) : ∀ (r : List Nat) (c : Nat), backOf b fg (r ++ [c]) = backOf b fg r + powI b r.length * fg c
  | [], c => by simp [backOf, powI]
  | d :: r, c => by
    show fg d + b * backOf b fg (r ++ [c]) = fg d + b * backOf b fg r + powI b r.length * b * fg c
    rw [back_snoc b fg r c, Int.mul_add, ← Int.add_assoc]
    congr 1
    rw [Int.mul_comm (powI b r.length) b, Int.mul_assoc]
def HasFigs (kvs : List (Key × V)) (fg : Nat → Int) (cs : List Nat) : Prop := ∀ c ∈ cs, valV kvs (Sum.inr ⟨#[c]⟩ : Key) = some (.int (fg c))
end WS
set_option maxRecDepth 100000
set_option maxHeartbeats 4000000
namespace WS
open PySem L2 SetT RevS
/-- a dict of figures: letters and what they stand for -/
def kvsOf (L : List Nat) (vs : List Int) : List (Key × V) := (L.zip vs).map fun p => ((Sum.inr ⟨#[p.1]⟩ : Key), V.int p.2)
theorem kvsOf_none : ∀ {L : List Nat} {vs : List Int} {c : Nat}, c ∉ L → valV (kvsOf L vs) (Sum.inr ⟨#[c]⟩ : Key) = none
  | [], _, _, _ => rfl
  | d :: L, [], _, _ => rfl
  | d :: L, v :: vs, c, h => by
    show valV (((Sum.inr ⟨#[d]⟩ : Key), V.int v) :: kvsOf L vs) _ = none
    rw [valV_neg (fun e => h (by rw [kv_inj (Sum.inr.inj e)]; exact List.mem_cons_self))]
    exact kvsOf_none fun hc => h (List.mem_cons_of_mem _ hc)
theorem kvsOf_some : ∀ {L : List Nat} {vs : List Int} {c : Nat}, c ∈ L → L.length ≤ vs.length → ∃ v ∈ vs, valV (kvsOf L vs) (Sum.inr ⟨#[c]⟩ : Key) = some (.int v)
  | [], _, _, h, _ => nomatch h
  | d :: L, [], _, _, hl => by simp at hl
  | d :: L, v :: vs, c, h, hl => by
    by_cases e : d = c
    · subst e
      exact ⟨v, List.mem_cons_self, valV_pos rfl⟩
    · have hc : c ∈ L := by
        rcases List.mem_cons.mp h with h | h
        · exact absurd h.symm e
        · exact h
      obtain ⟨y, hy, ey⟩ := kvsOf_some (vs := vs) hc (by simpa using hl)
      refine ⟨y, List.mem_cons_of_mem _ hy, ?_⟩
      show valV (((Sum.inr ⟨#[d]⟩ : Key), V.int v) :: kvsOf L vs) _ = _
      rw [valV_neg (fun e' => e (kv_inj (Sum.inr.inj e')))]
      exact ey
theorem kvsOf_snoc {L : List Nat} {vs : List Int} {c : Nat} {v : Int} (hl : L.length = vs.length) : kvsOf (L ++ [c]) (vs ++ [v]) = kvsOf L vs ++ [((Sum.inr ⟨#[c]⟩ : Key), V.int v)] := by
  unfold kvsOf
  rw [List.zip_append hl, List.map_append] <;> rfl
theorem kvsOf_put {L : List Nat} {vs : List Int} {c : Nat} {v : Int} (hl : L.length = vs.length) (hc : c ∉ L) : putK (kvsOf L vs) (Sum.inr ⟨#[c]⟩ : Key) (.int v) = kvsOf (L ++ [c]) (vs ++ [v]) := by
  rw [putK_new _ (kvsOf_none hc), kvsOf_snoc hl]
theorem kvsOf_len (L : List Nat) (vs : List Int) : (kvsOf L vs).length ≤ L.length := by
  unfold kvsOf; rw [List.length_map, List.length_zip]; exact Nat.min_le_left _ _
def fgOf (L : List Nat) (vs : List Int) (c : Nat) : Int := match valV (kvsOf L vs) (Sum.inr ⟨#[c]⟩ : Key) with | some (.int v) => v | _ => 0
theorem fgOf_some {L : List Nat} {vs : List Int} {c : Nat} (h : c ∈ L) (hl : L.length ≤ vs.length) : valV (kvsOf L vs) (Sum.inr ⟨#[c]⟩ : Key) = some (.int (fgOf L vs c)) ∧ fgOf L vs c ∈ vs := by
  obtain ⟨v, hv, e⟩ := kvsOf_some h hl
  have e2 : fgOf L vs c = v := by unfold fgOf; rw [e]
  rw [e2]; exact ⟨e, hv⟩
theorem mem_letters {ss : List WSum} {s : WSum} {z : Str} {c : Nat} (hs : s ∈ ss) (hz : z ∈ s.1 ++ [s.2]) (hc : c ∈ z.cps.toList) : c ∈ lettersOf ss := by
  unfold lettersOf
  refine dd_mem.mpr (List.mem_flatten.mpr ⟨rawSum (s.1 ++ [s.2]), List.mem_map.mpr ⟨s, hs, rfl⟩, ?_⟩)
  obtain ⟨p, hp⟩ := List.mem_iff_getElem?.mp (List.mem_reverse.mpr hc)
  have hpl : p < z.cps.toList.reverse.length := (List.getElem?_eq_some_iff.mp hp).1
  rw [List.length_reverse, Array.length_toList] at hpl
  have := maxLen_le hz
  have hpl' : p < z.length := hpl
  exact List.mem_flatten.mpr ⟨col (s.1 ++ [s.2]) p, List.mem_map.mpr ⟨p, List.mem_range.mpr (by omega), rfl⟩, List.mem_filterMap.mpr ⟨z, hz, hp⟩⟩
theorem lettersOf_abc {b : Int} {ss : List WSum} (V : Valid b ss) : Abc (rawOf ss) := by
  have := rawOf_abc V ss.length
  rwa [List.take_length] at this
end WS
set_option maxRecDepth 100000
set_option maxHeartbeats 4000000
namespace SetT
open PySem PySem.Spec PyProof.Rows L2
/-- how many unlike ones a list of ints has -/
def distI (ns : List Int) : Nat := (firstMet (fun i => ns.getD i 0) ns.length).length
theorem distI_le (ns : List Int) : distI ns ≤ ns.length := firstMet_length_le _ _
def tLenSetN (K : PySem.W.Frag) (ta : TE) : TE := fun σ H Q => ta σ H fun x H1 => ∃ (l : Addr) (ns : List Int), x = .ref l ∧ SqL K H1 l (ns.map V.int) ∧ ns.length ≤ 4000 ∧ Q (.int (distI ns : Nat)) H1
theorem pe_lenSetN {X : Cx} {a : Expr} {ta : TE} {p p2 q pos : Pos} (hg : Gl X "len") (hm : X.mg "len" = none) (hg2 : Gl X "set") (hm2 : X.mg "set" = none) (ha : PE X a ta) (hc : X.calm = true := by rfl)
    (na : starEach [a] X.env = (false, eval a X.env) :: starEach [] X.env := by rfl) : PE X (.Call (.Name "len" p) [.Call (.Name "set" p2) [a] [] q] [] pos) (tLenSetN X.K ta) := by
  refine ⟨fun pins s σ H Q I h => Call_ (ld_blt I hg hm boot_len ?_)⟩
  refine PyProof.Rows.callWith_builtin1 (PyProof.Rows.args_cons ?_ rfl) rfl rfl
  refine Call_ (ld_blt I hg2 hm2 boot_set (PyProof.Rows.callWith_type1 (PyProof.Rows.args_cons (thn (ha.run pins s σ H _ I h) fun v s1 ⟨x, H1, I1, r1, q1⟩ => PyProof.Rows.args_nil ?_) na) na rfl))
  obtain ⟨l, ns, rfl, hq, hl, q1⟩ := q1
  cases r1
  obtain ⟨its, r, pl, hz⟩ := I1.list hq
  have hsz : its.toArray.size = ns.length := by
    have := r.length
    rw [List.length_map] at this
    rw [List.size_toArray]; omega
  refine call_set_list (ns := ns) (I1.ok.hd hc) pl.isList (by simpa using RZ.intsAre_vals r) (by rw [hsz]; unfold scanBound; omega) fun h' tk hS hk => PyProof.Rows.args_nil ?_
  rw [hsz] at hS
  obtain ⟨o, es, ep, t, ho, hex, hd, _, _, _, hf, hn⟩ := hS
  have hle := distI_le ns
  have hn' : es.size = distI ns := hn
  have I2 : L2.Inv X pins σ H1 { s1 with heap := h', toks := tk } := I1.kept fun b o e => hk b o (Heap.lt_size e) e
  exact call_len_set ho hex hd hf (by omega) ⟨.int (distI ns : Nat), H1, I2.tok _, ⟨_, by rw [hn']⟩, q1⟩
end SetT
set_option maxRecDepth 100000
set_option maxHeartbeats 4000000
namespace WS
open PySem L2 SetT RevS
def firstsW (ws : List Str) : List Nat := ws.filterMap fun z => if 1 < z.length then z.cps.toList.head? else none
def firstsOf (ss : List WSum) : List Nat := (ss.map fun s => firstsW (s.1 ++ [s.2])).flatten
def sumHolds (b : Int) (fg : Nat → Int) (s : WSum) : Bool := decide ((s.1.map fun z => worthOf b fg z.cps.toList).sum = worthOf b fg s.2.cps.toList)
def badFigs (b : Int) (ns : List Int) : Bool := decide (distI ns < ns.length) || ns.any (fun x => decide (x < 0)) || ns.any (fun x => decide (b ≤ x))
def noNought (fg : Nat → Int) (cs : List Nat) : Bool := !(cs.any fun c => decide (fg c = 0))
/-- whether figures are an answer -/
def keepsB (b : Int) (ss : List WSum) (L : List Nat) (fg : Nat → Int) : Bool := !(badFigs b (L.map fg)) && noNought fg (firstsOf ss) && ss.all (sumHolds b fg)
theorem noNought_append (fg : Nat → Int) (a b : List Nat) : noNought fg (a ++ b) = (noNought fg a && noNought fg b) := by
  unfold noNought; rw [List.any_append, Bool.not_or]
theorem keeps_sums (b : Int) (fg : Nat → Int) (ss : List WSum) : (noNought fg (firstsOf ss) && ss.all (sumHolds b fg)) = ss.all fun s => noNought fg (firstsW (s.1 ++ [s.2])) && sumHolds b fg s := by
  induction ss with
  | nil => rfl
  | cons s r ih =>
    have e : firstsOf (s :: r) = firstsW (s.1 ++ [s.2]) ++ firstsOf r := rfl
    rw [e, noNought_append, List.all_cons, List.all_cons, ← ih]
    cases noNought fg (firstsW (s.1 ++ [s.2])) <;> cases noNought fg (firstsOf r) <;> cases sumHolds b fg s <;> cases r.all (sumHolds b fg) <;> rfl
theorem min_neg {ns : List Int} {m : Int} (h : m ∈ ns) (hle : ∀ y ∈ ns, m ≤ y) : decide (m < 0) = ns.any fun x => decide (x < 0) := by
  rw [Bool.eq_iff_iff, List.any_eq_true, decide_eq_true_iff]
  constructor
  · intro h'; exact ⟨m, h, decide_eq_true h'⟩
  · rintro ⟨y, hy, e⟩
    have := hle y hy
    have := of_decide_eq_true e
    omega
theorem max_big {ns : List Int} {m b : Int} (h : m ∈ ns) (hle : ∀ y ∈ ns, y ≤ m) : decide (b ≤ m) = ns.any fun x => decide (b ≤ x) := by
  rw [Bool.eq_iff_iff, List.any_eq_true, decide_eq_true_iff]
  constructor
  · intro h'; exact ⟨m, h, decide_eq_true h'⟩
  · rintro ⟨y, hy, e⟩
    have := hle y hy
    have := of_decide_eq_true e
    omega
theorem firsts_snoc_long {ws : List Str} {z : Str} {c : Nat} (h : 1 < z.length) (hc : z.cps.toList.head? = some c) : firstsW (ws ++ [z]) = firstsW ws ++ [c] := by
  unfold firstsW; rw [List.filterMap_append]; simp [h, hc]
theorem firsts_snoc_short {ws : List Str} {z : Str} (h : ¬ 1 < z.length) : firstsW (ws ++ [z]) = firstsW ws := by
  unfold firstsW; rw [List.filterMap_append]; simp [h]
theorem head_of {z : Str} (h : 1 ≤ z.length) : ∃ c, z.cps.toList.head? = some c ∧ z.cps.toList[0]? = some c ∧ c ∈ z.cps.toList := by
  have e : z.cps.toList.length = z.length := Array.length_toList
  rcases hz : z.cps.toList with _ | ⟨c, r⟩
  · rw [hz] at e; simp at e; omega
  · exact ⟨c, rfl, rfl, List.mem_cons_self⟩
theorem firstsOf_take {ss : List WSum} {i : Nat} {s : WSum} (h : ss[i]? = some s) : firstsOf (ss.take (i + 1)) = firstsOf (ss.take i) ++ firstsW (s.1 ++ [s.2]) := by
  unfold firstsOf
  rw [List.take_add_one, h, List.map_append, List.flatten_append]
  simp
theorem firstsW_len (ws : List Str) : (firstsW ws).length ≤ ws.length := List.length_filterMap_le _ _
theorem firstsOf_len {ss : List WSum} (h : ∀ s ∈ ss, s.1.length ≤ 4) : (firstsOf ss).length ≤ 5 * ss.length := by
  induction ss with
  | nil => exact Nat.le_refl _
  | cons s r ih =>
    have h1 := ih fun x hx => h x (List.mem_cons_of_mem _ hx)
    have h2 := h s List.mem_cons_self
    have e : firstsOf (s :: r) = firstsW (s.1 ++ [s.2]) ++ firstsOf r := rfl
    have h3 := firstsW_len (s.1 ++ [s.2])
    rw [List.length_append] at h3
    have h3' : (firstsW (s.1 ++ [s.2])).length ≤ s.1.length + 1 := h3
    rw [e, List.length_append, List.length_cons]
    omega
theorem firsts_in {ss : List WSum} {c : Nat} (h : c ∈ firstsOf ss) : c ∈ lettersOf ss := by
  obtain ⟨l, hl, hc⟩ := List.mem_flatten.mp h
  obtain ⟨s, hs, rfl⟩ := List.mem_map.mp hl
  obtain ⟨z, hz, e⟩ := List.mem_filterMap.mp hc
  split at e
  · exact mem_letters hs hz (List.mem_of_mem_head? (Option.mem_def.mpr e))
  · cases e
theorem letters_ne {b : Int} {ss : List WSum} (V : Valid b ss) : 1 ≤ (lettersOf ss).length := by
  have hf := V.few.1
  rcases ss with _ | ⟨s, r⟩
  · simp at hf
  · have hw : isWord s.2 = true := V.words s.2 (mem_wordsOf List.mem_cons_self (.inr rfl))
    obtain ⟨c, _, _, hc⟩ := head_of (isWord_iff.mp hw).1.1
    exact List.length_pos_of_mem (mem_letters (ss := s :: r) List.mem_cons_self (List.mem_append_right _ List.mem_cons_self) hc)
end WS
set_option maxRecDepth 100000
set_option maxHeartbeats 8000000
namespace WS
open PySem L2 SetT RevS
def spShSums (C : Addr) : Sp := fun vs H Q _ => ∃ (p : Addr) (b : Int) (kl : Addr) (ts : List Addr), vs = [.ref p] ∧ ShAt C H p b kl ts ∧ ts.length ≤ 1000 ∧ ∀ q H', H q = none → Same H H' → H' q = some (.lst (ts.map V.ref)) → Q (.ref q) H'
section
variable {P : Program} {w : World} {K : PySem.W.Frag} {mg : Str → Option Value} {base : Heap}
theorem scShSums : FnScope ["self"] ["self"] (defScope sShSums) := ⟨rfl, rfl, rfl, by decide +kernel, rfl, by decide +kernel, by decide +kernel⟩
theorem ok_shsums {f C : Addr} {fd : FuncData} (F : Fun K "sums" "Sheet.sums" sShSums f fd) (T : SheetTxt K mg C) (z_list : mg "list" = none) : FnOk P w K mg base CX0 1 f fd ["self"] (spShSums C) := by
  refine F.ok scShSums (fun vs H Q E h => ?_) (fun cdv A outer s H vs Q E hr h => ?_)
  · obtain ⟨p, b, kl, ts, rfl, _⟩ := h
    rfl
  · obtain ⟨p, b, kl, ts, rfl, A', hn, k⟩ := h
    obtain ⟨⟨dx, hp⟩, hkl⟩ := id A'
    refine ⟨_, (pss_one (ps_ret (pe_callTy call_list_of (by rfl) z_list (by decide +kernel) (pa_cons (pe_fld (pv 0) rfl) pa_nil)))), ?_⟩
    exact ⟨_, rfl, p, C, dx, _, _, rfl, hp, T.cl, T.nK, flds_kept _ _, kl, _, rfl, .inl (SqL.of hkl), fun q hq => k q _ hq (Same.new hq) upd_same⟩
end
end WS
set_option maxRecDepth 100000
set_option maxHeartbeats 8000000
namespace WS
open PySem L2 SetT RevS
def spWritten (C : Addr) : Sp := fun vs H Q _ => ∃ (p : Addr) (b : Int) (kl : Addr) (ts : List Addr) (ss : List WSum), vs = [.ref p] ∧ ShAt C H p b kl ts ∧ SumsAt H ts ss ∧ Valid b ss ∧ ∀ H', Same H H' → Q (.str (textS b ss)) H'
section
variable {P : Program} {w : World} {K : PySem.W.Frag} {mg : Str → Option Value} {base : Heap}
theorem scWritten : FnScope ["sheet", "rows", "addends", "total"] ["sheet"] (defScope sWritten) := ⟨rfl, rfl, rfl, by decide +kernel, rfl, by decide +kernel, by decide +kernel⟩
theorem ok_written {f C fS fR : Addr} {fd fdS fdR : FuncData} {t1 : Tok} (F : Fun K "written" "written" sWritten f fd) (T : SheetTxt K mg C) (m_AHEAD_OF_BASE : mg "AHEAD_OF_BASE" = some (.str aheadT t1))
    (MS : Meth K C "sums" fS) (bS : Binds K fdS ["self"] []) (GS : FnOk P w K mg base CX0 1 fS fdS ["self"] (spShSums C))
    (S_sum_row : Site K mg "sum_row" fR fdR ["addends", "total"]) (G_sum_row : FnOk P w K mg base CX0 1 fR fdR ["addends", "total"] (spSumRow K)) :
    FnOk P w K mg base CX0 2 f fd ["sheet"] (spWritten C) := by
  refine F.ok scWritten (fun vs H Q E h => ?_) (fun cdv A outer s H vs Q E hr h => ?_)
  · obtain ⟨p, b, kl, ts, ss, rfl, _⟩ := h
    rfl
  · obtain ⟨p, b, kl, ts, ss, rfl, A', hsa, V', k⟩ := h
    have nd := scWritten.nd
    have hr_sum_row := hr
    refine ⟨_, (pss_cons (ps_set (i := 1) nd rfl (.inl rfl) (pe_lst (pa_cons (pe_joined (.cons (pe_fmt (pe_glob (v := .str aheadT) (by rfl) m_AHEAD_OF_BASE ⟨_, rfl⟩)) (.cons (pe_fmt (pe_fld (pv 0) rfl)) .nil))) pa_nil)))
      (pss_cons (ps_expr (pe_bm PySem.F.plainAttrs_list PySem.F.slot_list_extend PySem.F.type_list_extend mt_extend (pv 1) (pa_cons (pe_lc (own := [("addends", 2), ("total", 3)]) (g := (gTup K 2 (gCons (gName 2) (gCons (gName 3) gNil)))) (tt := tYes) rfl nd (pi_list (pe_meth0 (pv 0) T.cl MS GS hr bS .nil pass0)) (blkOk_by (own := [("addends", 2), ("total", 3)]) (N := ["sheet", "rows", "addends", "total"]) (sc := defScope sWritten) (by decide +kernel)) (fun _ _ _ _ _ => (pg_tup rfl (pgs_cons (pg_name (i := 2) nd rfl (.inl rfl)) (pgs_cons (pg_name (i := 3) nd rfl (.inl rfl)) pgs_nil)))) (fun _ _ _ _ _ => pts_nil) (fun _ _ _ _ _ => (pe_call G_sum_row hr_sum_row (by rfl) S_sum_row.g S_sum_row.k S_sum_row.b .nil pass0 (pa_cons (pv 2) (pa_cons (pv 3) pa_nil))))) pa_nil)))
      (pss_one (ps_ret (pe_join pe_str (pv 1)))))), ?_⟩
    obtain ⟨⟨dx, hp⟩, hkl⟩ := id A'
    have b2 := V'.b2
    have b12 := V'.b12
    have B := HeadOk.of b2 b12
    have hf := V'.few
    have tl := text_len V'
    have hn2 : (toString b : Str).length ≤ 2 := B.l2
    have ha5 : aheadT.length = 5 := rfl
    have he0 : Str.empty.length = 0 := rfl
    have hlog : b.natAbs.log2 < 1920 := Nat.lt_of_le_of_lt (Nat.log2_le_self _) (by omega)
    refine .inl ⟨aheadT, rfl, by decide, aheadT, rfl, by decide, ?_⟩
    refine ⟨_, rfl, p, C, dx, _, _, rfl, hp, T.cl, T.nB, flds_base _ _, .inr ⟨b, rfl, hlog, _, rfl, ?_, ?_⟩⟩
    · rw [PySem.Str.length_append, PySem.Str.length_append]
      exact line_of (by omega)
    have e0 : Str.empty ++ aheadT ++ (toString b : Str) = headS b := by
      unfold headS numT
      rw [PySem.Str.append_left_empty (x := Str.empty) (y := aheadT) rfl]
    rw [e0]
    refine ⟨by show 1 ≤ sizeLine; decide, fun m hm => ?_⟩
    have s1 : Same H (upd H m (.lst [.str (headS b)])) := Same.new hm
    have hm1 : (upd H m (.lst [.str (headS b)])) m = some (.lst [.str (headS b)]) := upd_same
    generalize upd H m (.lst [.str (headS b)]) = H1 at s1 hm1
    have A1 := A'.same s1
    have hl := hsa.len
    refine ⟨_, rfl, .inl ⟨rfl, _, SqL.of hm1⟩, _, rfl, p, dx, _, rfl, s1 _ _ hp, flds_no _ _ (by decide +kernel) (by decide +kernel), p, b, kl, ts, rfl, A1, by omega, fun q H2 hq s2 hq2 => ?_⟩
    have s02 := s1.trans s2
    refine ⟨q, rfl, ⟨_, SqL.of hq2⟩, fun D hD => ?_⟩
    refine lc_list (K := K) (a := q) (xs := ts.map V.ref) (fun j H4 => H4 = upd H2 D (.lst (((ss.take j).map rowS).map V.str))) rfl
      (fun j H4 _ e => by rw [e]; exact SqL.of ((upd_ne (ne_of_none hq2 hD)).trans hq2)) ?_ ?_
    · rintro j y H4 hj rfl
      obtain ⟨t, ht, rfl⟩ := refs_at hj
      have hjl : j < ts.length := (List.getElem?_eq_some_iff.mp ht).1
      have hjs : j < ss.length := hl ▸ hjl
      have hs : ss[j]? = some ss[j] := List.getElem?_eq_getElem hjs
      generalize hsg : ss[j] = sm at hs
      have hsm : sm ∈ ss := List.mem_of_getElem? hs
      obtain ⟨u, ht1, hu1⟩ := (hsa.get j t sm ht hs).same (s02.trans (Same.new (o := .lst (((ss.take j).map rowS).map V.str)) hD))
      refine ⟨t, _, rfl, SqT.of ht1, rfl, _, _, rfl, _, _, rfl, rfl, rfl, ?_⟩
      refine ⟨_, rfl, _, rfl, u, sm, rfl, .inr (SqT.of hu1), (V'.many sm hsm).2, fun z hz => (valid_len V' hsm z hz).2, _, upd_same, ?_, ?_⟩
      · rw [List.length_map, List.length_map, List.length_take]
        exact line_lt (by omega)
      · rw [upd_upd, take_snoc hs, List.map_append, List.map_append] <;> rfl
    · rintro H4 rfl
      rw [List.length_map, hl, List.take_length]
      have s4 : Same H2 (upd H2 D (.lst ((ss.map rowS).map V.str))) := Same.new hD
      have hD4 : (upd H2 D (.lst ((ss.map rowS).map V.str))) D = some (.lst ((ss.map rowS).map V.str)) := upd_same
      generalize upd H2 D (.lst ((ss.map rowS).map V.str)) = H4 at s4 hD4
      have hm4 := s4 _ _ (s2 _ _ hm1)
      refine ⟨m, D, _, _, rfl, rfl, hm4, hD4, ?_, ?_⟩
      · rw [List.length_map, List.length_map]
        exact line_of (by show 1 + ss.length ≤ _; omega)
      have s5 : Same H (upd H4 m (.lst ([V.str (headS b)] ++ (ss.map rowS).map V.str))) := Same.mut (s02.trans s4) hm
      have hm5 : (upd H4 m (.lst ([V.str (headS b)] ++ (ss.map rowS).map V.str))) m = some (.lst ((headS b :: ss.map rowS).map V.str)) := upd_same
      generalize upd H4 m (.lst ([V.str (headS b)] ++ (ss.map rowS).map V.str)) = H5 at s5 hm5
      refine ⟨⟨_, rfl⟩, _, rfl, ("\n" : Str), m, headS b :: ss.map rowS, rfl, rfl, .inl (SqL.of hm5), ?_, ?_⟩
      · rw [show ("\n" : Str).length = 1 from rfl, List.length_cons, List.length_map]
        omega
      rw [txt_join]
      exact k H5 s5
end
end WS
set_option maxRecDepth 100000
set_option maxHeartbeats 8000000
namespace WS
open PySem L2 SetT
def spIsBase : Sp := fun vs H Q _ => ∃ (b : Int), vs = [.str (headS b)] ∧ HeadOk b ∧ ∀ H', Same H H' → Q (.bl true) H'
section
variable {P : Program} {w : World} {K : PySem.W.Frag} {mg : Str → Option Value} {base : Heap}
theorem scIsBase : FnScope ["row", "figures", "sign"] ["row"] (defScope sIsBaseRow) := ⟨rfl, rfl, rfl, by decide +kernel, rfl, by decide +kernel, by decide +kernel⟩
theorem ok_isbase {f : Addr} {fd : FuncData} {t1 t2 : Tok} (F : Fun K "is_base_row" "is_base_row" sIsBaseRow f fd) (z_len : mg "len" = none) (z_all : mg "all" = none) (m_AHEAD_OF_BASE : mg "AHEAD_OF_BASE" = some (.str aheadT t1)) (m_FIGURES : mg "FIGURES" = some (.str figT t2)) :
    FnOk P w K mg base CX0 1 f fd ["row"] spIsBase := by
  refine F.ok scIsBase (fun vs H Q E h => ?_) (fun cdv A outer s H vs Q E hr h => ?_)
  · obtain ⟨b, rfl, _⟩ := h
    rfl
  · obtain ⟨b, rfl, B, k⟩ := h
    have nd := scIsBase.nd
    refine ⟨_, (pss_cons (ps_if (pt_not (pt_val (pe_m1 PySem.F.slot_str_startswith PySem.F.type_str_startswith mt_startswith (pv 0) (pe_glob (v := .str aheadT) (by rfl) m_AHEAD_OF_BASE ⟨_, rfl⟩)))) (pss_one (ps_ret pe_bl)) pss_nil)
      (pss_cons (ps_set (i := 1) nd rfl (.inl rfl) (pe_m1 PySem.F.slot_str_removeprefix PySem.F.type_str_removeprefix mt_removeprefix (pv 0) (pe_glob (v := .str aheadT) (by rfl) m_AHEAD_OF_BASE ⟨_, rfl⟩)))
      (pss_cons (ps_if (PW.pt (pw_or (pt_not (pt_chain op_le op_le pe_int (pe_callB call_len_str (by rfl) z_len PySem.boot_len (pa_cons (pv 1) pa_nil)) pe_int)) (pw_or1 (pt_cmpR op_eq (pe_ix (r := rIxS) ix_str (pv 1) pe_int (fun _ _ => rfl)) pe_str (nomark _))))) (pss_one (ps_ret pe_bl)) pss_nil)
      (pss_one (ps_ret (pe_callB (cr_all rfl) (by rfl) z_all (by decide +kernel) (pa_cons (pe_lc (own := [("sign", 2)]) (g := (gName 2)) (tt := tYes) rfl nd (pi_str (pv 1)) (blkOk_by (own := [("sign", 2)]) (N := ["row", "figures", "sign"]) (sc := defScope sIsBaseRow) (by decide +kernel)) (fun _ _ _ _ _ => (pg_name (i := 2) nd rfl (.inl rfl))) (fun _ _ _ _ _ => pts_nil) (fun _ _ _ _ _ => (pe_cmpR op_in_sign (pv 2) (pe_glob (v := .str figT) (by rfl) m_FIGURES ⟨_, rfl⟩) (by rfl)))) pa_nil))))))), ?_⟩
    have hl7 := B.hl
    have l1 := B.l1
    have l2 := B.l2
    refine ⟨_, rfl, ⟨_, rfl⟩, _, _, rfl, rfl, _, rfl, ?_⟩
    rw [B.st]
    refine iteF ⟨_, rfl, ⟨_, rfl⟩, _, _, rfl, rfl, line_of (by omega), ?_⟩
    rw [B.rm]
    obtain ⟨c, hc⟩ : ∃ c, (numT b).cps.toList[0]? = some c := by
      have hl : 0 < (numT b).cps.toList.length := by rw [Array.length_toList]; exact l1
      exact ⟨_, List.getElem?_eq_getElem hl⟩
    have hn0 := B.n0
    have hfg := B.fg
    generalize numT b = z at l1 l2 hc hn0 hfg
    have hz' : z.cps.size ≤ 2 := l2
    refine ⟨_, rfl, z, rfl, line_of (by omega), _, _, rfl, rfl, _, rfl, ?_⟩
    rw [decide_eq_true (show (1 : Int) ≤ (z.length : Nat) by omega)]
    refine iteT ⟨_, _, rfl, rfl, _, rfl, ?_⟩
    rw [decide_eq_true (show ((z.length : Nat) : Int) ≤ 2 by omega)]
    refine iteF ⟨_, rfl, z, 0, c, rfl, rfl, line_of (by omega), at_ofG (j := 0) rfl hc, rfl, _, rfl, ?_⟩
    have hne : decide (V.str ⟨#[c]⟩ = V.str ("0" : Str)) = false := decide_eq_false fun e => hn0 (by
      have e1 : (⟨#[c]⟩ : Str) = ⟨#[48]⟩ := V.str.inj e
      have e2 : [c] = [48] := congrArg (fun s : Str => s.cps.toList) e1
      rw [hc, (List.cons.inj e2).1])
    rw [hne]
    refine iteF ?_
    refine ⟨_, rfl, z, rfl, fun D hD => lc_it walk_str (fun i H2 => H2 = upd H D (.lst ((z.cps.toList.take i).map fun c => V.bl (decide (c ∈ figT.cps.toList))))) rfl (fun _ _ _ _ => trivial) ?_ ?_⟩
    · rintro i x H2 H3 hi rfl ⟨rfl, c, hc, rfl⟩
      refine ⟨rfl, _, rfl, c, figT, rfl, rfl, _, upd_same, ?_, ?_⟩
      · rw [List.length_map, List.length_take]
        exact line_lt (by omega)
      · rw [upd_upd, List.take_add_one, Array.getElem?_toList, hc, List.map_append] <;> rfl
    · rintro H2 rfl
      have e : z.cps.toList.take z.cps.size = z.cps.toList := List.take_of_length_le (by rw [Array.length_toList] <;> exact Nat.le_refl _)
      rw [e]
      refine ⟨D, z.cps.toList.map fun c => decide (c ∈ figT.cps.toList), rfl, SqL.of (by rw [upd_same, List.map_map] <;> rfl), ?_⟩
      have e2 : (z.cps.toList.map fun c => decide (c ∈ figT.cps.toList)).all id = true := by
        rw [List.all_map, List.all_eq_true]
        exact fun c hc => decide_eq_true (hfg c hc)
      rw [e2]
      exact k _ (Same.new hD)
end
end WS
set_option maxRecDepth 100000
set_option maxHeartbeats 8000000
namespace WS
open PySem L2 SetT RevS
theorem cut_back (xs : List V) (y : V) : cutV (xs ++ [y]) none (some (-1)) = xs := by
  have e1 : HT.sIx (xs ++ [y]).length (xs ++ [y]).length (some (-1)) = xs.length := by
    show (if (-1 : Int) < 0 then ((-1 : Int) + ((xs ++ [y]).length : Int)).toNat else min (-1 : Int).toNat (xs ++ [y]).length) = _
    rw [if_pos (by decide), List.length_append, List.length_singleton]
    omega
  unfold cutV
  rw [e1]
  show (List.drop 0 (xs ++ [y])).take (xs.length - 0) = xs
  rw [List.drop_zero, Nat.sub_zero, List.take_left]
def spWordsOf : Sp := fun vs H Q _ => ∃ (s : WSum), vs = [.str (rowS s)] ∧ s.1 ≠ [] ∧ s.1.length ≤ 4 ∧ (∀ z ∈ s.1 ++ [s.2], isWord z = true ∧ z.length ≤ 6) ∧ ∀ q H', H q = none → Same H H' → H' q = some (.lst ((s.1 ++ [s.2]).map V.str)) → Q (.ref q) H'
section
variable {P : Program} {w : World} {K : PySem.W.Frag} {mg : Str → Option Value} {base : Heap}
theorem scWordsOf : FnScope ["row", "words", "word"] ["row"] (defScope sWordsOf) := ⟨rfl, rfl, rfl, by decide +kernel, rfl, by decide +kernel, by decide +kernel⟩
theorem ok_wordsof {f fW fR : Addr} {fd fdW fdR : FuncData} (F : Fun K "words_of" "words_of" sWordsOf f fd) (z_all : mg "all" = none) (S_is_word : Site K mg "is_word" fW fdW ["text"]) (G_is_word : FnOk P w K mg base CX0 1 fW fdW ["text"] spIsWord)
    (S_sum_row : Site K mg "sum_row" fR fdR ["addends", "total"]) (G_sum_row : FnOk P w K mg base CX0 1 fR fdR ["addends", "total"] (spSumRow K)) :
    FnOk P w K mg base CX0 2 f fd ["row"] spWordsOf := by
  refine F.ok scWordsOf (fun vs H Q E h => ?_) (fun cdv A outer s H vs Q E hr h => ?_)
  · obtain ⟨s, rfl, _⟩ := h
    rfl
  · obtain ⟨sm, rfl, h1, h4, hw, k⟩ := h
    have nd := scWordsOf.nd
    have hr_is_word := hr
    have hr_sum_row := hr
    refine ⟨_, (pss_cons (ps_set (i := 1) nd rfl (.inl rfl) (Ev2.pe_ev2 (pe_split (pv 0) pe_str)))
      (pss_cons (ps_if (PW.pt (pw_and (pt_val (pe_callB (cr_all rfl) (by rfl) z_all (by decide +kernel) (pa_cons (pe_lc (own := [("word", 2)]) (g := (gName 2)) (tt := tYes) rfl nd (pi_list (pv 1)) (blkOk_by (own := [("word", 2)]) (N := ["row", "words", "word"]) (sc := defScope sWordsOf) (by decide +kernel)) (fun _ _ _ _ _ => (pg_name (i := 2) nd rfl (.inl rfl))) (fun _ _ _ _ _ => pts_nil) (fun _ _ _ _ _ => (pe_call G_is_word hr_is_word (by rfl) S_is_word.g S_is_word.k S_is_word.b .nil pass0 (pa_cons (pv 2) pa_nil)))) pa_nil))) (pw_and1 (pt_cmpR op_eq (pe_call G_sum_row hr_sum_row (by rfl) S_sum_row.g S_sum_row.k S_sum_row.b .nil pass0 (pa_cons (pe_slice sl_list (pv 1) po_none (po_some (pe_un un_neg pe_int))) (pa_cons (pe_ix (r := rIxL K) ix_list (pv 1) (pe_un un_neg pe_int) (fun _ _ => rfl)) pa_nil))) (pv 0) (nomark _))))) (pss_one (ps_ret (pv 1))) pss_nil)
      (pss_one (ps_ret (pe_lst pa_nil))))), ?_⟩
    have hrl := row_len h4 fun z hz => (hw z hz).2
    have hzl : ∀ z ∈ sm.1 ++ [sm.2], z.length ≤ 6 := fun z hz => (hw z hz).2
    refine ⟨_, rfl, ⟨_, rfl⟩, rowS sm, (" " : Str), rfl, rfl, rfl, line_of (by omega), fun q hq => ?_⟩
    rw [row_split h1 fun z hz => (hw z hz).1]
    refine ⟨q, _, rfl, SqL.of upd_same, fun q2 hq2 => ?_⟩
    rw [← evens_map, toks_evens]
    have s1 : Same H (upd (upd H q (.lst ((toks sm.1 sm.2).map V.str))) q2 (.lst ((sm.1 ++ [sm.2]).map V.str))) := (Same.new hq).trans (Same.new hq2)
    have hq21 : (upd (upd H q (.lst ((toks sm.1 sm.2).map V.str))) q2 (.lst ((sm.1 ++ [sm.2]).map V.str))) q2 = some (.lst ((sm.1 ++ [sm.2]).map V.str)) := upd_same
    have hq20 : H q2 = none := by
      have hne : q2 ≠ q := fun e => by rw [e, upd_same] at hq2; cases hq2
      rw [upd_ne hne] at hq2
      exact hq2
    generalize upd (upd H q (.lst ((toks sm.1 sm.2).map V.str))) q2 (.lst ((sm.1 ++ [sm.2]).map V.str)) = H1 at s1 hq21
    refine ⟨_, rfl, q2, rfl, ⟨_, SqL.of hq21⟩, fun D hD => ?_⟩
    have hqD := ne_of_none hq21 hD
    have hlen : (sm.1 ++ [sm.2]).length ≤ 5 := by rw [List.length_append, List.length_singleton]; omega
    refine lc_list (K := K) (a := q2) (xs := (sm.1 ++ [sm.2]).map V.str) (fun j H4 => H4 D = some (.lst ((List.replicate j true).map V.bl)) ∧ Same H1 H4)
      ⟨upd_same, Same.new hD⟩ (fun j H4 _ ⟨_, s4⟩ => SqL.of (s4 _ _ hq21)) ?_ ?_
    · rintro j y H4 hj ⟨hD4, s4⟩
      obtain ⟨z, hz, rfl⟩ := strs_at' hj
      have hjl : j < (sm.1 ++ [sm.2]).length := (List.getElem?_eq_some_iff.mp hz).1
      have hzm := hw z (List.mem_of_getElem? hz)
      refine ⟨rfl, _, rfl, z, rfl, by omega, fun H5 s5 => ?_⟩
      refine ⟨_, s5 _ _ hD4, ?_, ?_, ?_⟩
      · rw [List.length_map, List.length_replicate]
        exact line_lt (by omega)
      · rw [upd_same, hzm.1, List.replicate_succ', List.map_append] <;> rfl
      · exact Same.mut (s4.trans s5) hD
    · rintro H4 ⟨hD4, s4⟩
      refine ⟨D, _, rfl, SqL.of hD4, _, rfl, ?_⟩
      have e2 : (List.replicate ((sm.1 ++ [sm.2]).map V.str).length true).all id = true := by
        rw [List.all_eq_true]
        exact fun x hx => (List.mem_replicate.mp hx).2
      rw [e2]
      have hq24 := s4 _ _ hq21
      refine iteT ⟨_, rfl, _, rfl, _, rfl, q2, _, rfl, SqL.of hq24, fun q3 hq3 => ?_⟩
      have e3 : cutV ((sm.1 ++ [sm.2]).map V.str) none (some (-1)) = sm.1.map V.str := by
        rw [List.map_append]
        exact cut_back _ _
      rw [e3]
      have s5 : Same H4 (upd H4 q3 (.lst (sm.1.map V.str))) := Same.new hq3
      have hq35 : (upd H4 q3 (.lst (sm.1.map V.str))) q3 = some (.lst (sm.1.map V.str)) := upd_same
      generalize upd H4 q3 (.lst (sm.1.map V.str)) = H5 at s5 hq35
      refine ⟨_, rfl, _, rfl, q2, _, -1, _, rfl, rfl, SqL.of (s5 _ _ hq24), ?_, q3, sm, rfl, .inl (SqL.of hq35), h4, hzl, ?_⟩
      · rw [List.map_append]
        exact atI_last _ _
      refine ⟨_, rfl, rfl, _, rfl, ?_⟩
      rw [decide_eq_true rfl]
      exact iteT ⟨_, rfl, k q2 H5 hq20 ((s1.trans s4).trans s5) (s5 _ _ hq24)⟩
end
end WS
set_option maxRecDepth 100000
set_option maxHeartbeats 8000000
namespace WS
open PySem L2 SetT RevS
def spRead17 (C : Addr) : Sp := fun vs H Q _ => ∃ (b : Int) (ss : List WSum), vs = [.str (textS b ss)] ∧ Valid b ss ∧ ∀ p kl ts H', H p = none → Same H H' → ShAt C H' p b kl ts → SumsAt H' ts ss → Q (.ref p) H'
section
variable {P : Program} {w : World} {K : PySem.W.Frag} {mg : Str → Option Value} {base : Heap}
theorem scRead17 : FnScope ["text", "rows", "sums", "number", "words"] ["text"] (defScope sRead) := ⟨rfl, rfl, rfl, by decide +kernel, rfl, by decide +kernel, by decide +kernel⟩
theorem ok_read17 {f C fI fB fW : Addr} {fd fdI fdB fdW : FuncData} {t1 : Tok} (F : Fun K "read" "read" sRead f fd) (T : SheetTxt K mg C) (z_len : mg "len" = none) (z_range : mg "range" = none) (z_tuple : mg "tuple" = none) (z_int : mg "int" = none) (m_AHEAD_OF_BASE : mg "AHEAD_OF_BASE" = some (.str aheadT t1))
    (M : Mk K C fI) (bI : Binds K fdI ["self", "base", "sums"] []) (GI : FnOk P w K mg base CX0 3 fI fdI ["self", "base", "sums"] (spShInit C))
    (S_is_base_row : Site K mg "is_base_row" fB fdB ["row"]) (G_is_base_row : FnOk P w K mg base CX0 1 fB fdB ["row"] spIsBase)
    (S_words_of : Site K mg "words_of" fW fdW ["row"]) (G_words_of : FnOk P w K mg base CX0 2 fW fdW ["row"] spWordsOf) :
    FnOk P w K mg base CX0 5 f fd ["text"] (spRead17 C) := by
  refine F.ok scRead17 (fun vs H Q E h => ?_) (fun cdv A outer s H vs Q E hr h => ?_)
  · obtain ⟨b, ss, rfl, _⟩ := h
    rfl
  · obtain ⟨b, ss, rfl, V', k⟩ := h
    have nd := scRead17.nd
    have hr_sheet : Room 4 _ := hr
    have hr_is_base_row : Room 1 _ := hr.mono (by decide)
    have hr_words_of : Room 2 _ := hr.mono (by decide)
    refine ⟨_, (pss_cons (ps_set (i := 1) nd rfl (.inl rfl) (pe_split (pv 0) pe_str))
      (pss_cons (ps_if (pt_not (pt_val (pe_call G_is_base_row hr_is_base_row (by rfl) S_is_base_row.g S_is_base_row.k S_is_base_row.b .nil pass0 (pa_cons (pe_ix (r := rIxL K) ix_list (pv 1) pe_int (fun _ _ => rfl)) pa_nil)))) (pss_one ps_never) pss_nil)
      (pss_cons (ps_set (i := 2) nd rfl (.inl rfl) (pe_lst pa_nil))
      (pss_cons (ps_for PassesOwn.never rfl (pi_range2 (by rfl) z_range (pa_cons pe_int (pa_cons (pe_callB call_len_seq (by rfl) z_len PySem.boot_len (pa_cons (pv 1) pa_nil)) pa_nil))) (pg_name (i := 3) nd rfl (.inl rfl)) (pss_cons (ps_set (i := 4) nd rfl (.inl rfl) (pe_call G_words_of hr_words_of (by rfl) S_words_of.g S_words_of.k S_words_of.b .nil pass0 (pa_cons (pe_ix (r := rIxL K) ix_list (pv 1) (pv 3) (fun _ _ => rfl)) pa_nil)))
      (pss_cons (ps_if (pt_not (pt_truth (pv 4) (by intro _; rfl))) (pss_one ps_never) pss_nil)
      (pss_one (ps_expr (pe_bm PySem.F.plainAttrs_list PySem.F.slot_list_append PySem.F.type_list_append mt_append (pv 2) (pa_cons (pe_tup (pa_cons (pe_callTy call_tuple_of (by rfl) z_tuple (by decide +kernel) (pa_cons (pe_slice sl_list (pv 4) po_none (po_some (pe_un un_neg pe_int))) pa_nil)) (pa_cons (pe_ix (r := rIxL K) ix_list (pv 4) (pe_un un_neg pe_int) (fun _ _ => rfl)) pa_nil))) pa_nil)))))))
      (pss_one (ps_ret (pe_make M GI hr_sheet (by rfl) T.g bI .nil pass0 (pa_cons (pe_callTy call_int_str (by rfl) z_int (by decide +kernel) (pa_cons (pe_m1 PySem.F.slot_str_removeprefix PySem.F.type_str_removeprefix mt_removeprefix (pe_ix (r := rIxL K) ix_list (pv 1) pe_int (fun _ _ => rfl)) (pe_glob (v := .str aheadT) (by rfl) m_AHEAD_OF_BASE ⟨_, rfl⟩)) pa_nil)) (pa_cons (pv 2) pa_nil))))))))), ?_⟩
    have b2 := V'.b2
    have b12 := V'.b12
    have B := HeadOk.of b2 b12
    have hf := V'.few
    have tl := (text_len V').2
    have hl7 := B.hl
    have hl2 := B.l2
    refine ⟨_, rfl, ⟨_, rfl⟩, textS b ss, ("\n" : Str), rfl, rfl, rfl, line_of (by omega), fun q hq => ?_⟩
    rw [text_split V']
    have s1 : Same H (upd H q (.lst ((headS b :: ss.map rowS).map V.str))) := Same.new hq
    have hq1 : (upd H q (.lst ((headS b :: ss.map rowS).map V.str))) q = some (.lst ((headS b :: ss.map rowS).map V.str)) := upd_same
    generalize upd H q (.lst ((headS b :: ss.map rowS).map V.str)) = H1 at s1 hq1
    refine ⟨_, rfl, q, _, 0, _, rfl, rfl, SqL.of hq1, at_of (j := 0) rfl rfl, b, rfl, B, fun H2 s2 => ⟨_, rfl, iteF ?_⟩⟩
    have hq2 := s2 _ _ hq1
    refine ⟨by show 0 ≤ sizeLine; decide, fun m hm => ?_⟩
    have hm0 : H m = none := Same.free (s1.trans s2) hm
    have s3 : Same H2 (upd H2 m (.lst [])) := Same.new hm
    have hm3 : (upd H2 m (.lst [])) m = some (.lst []) := upd_same
    generalize upd H2 m (.lst []) = H3 at s3 hm3
    have hq3 := s3 _ _ hq2
    have hlen : ((headS b :: ss.map rowS).map V.str).length = ss.length + 1 := by rw [List.length_map, List.length_cons, List.length_map]
    have hqm : q ≠ m := ne_of_none hq2 hm
    refine ⟨_, rfl, q, _, rfl, .inl (SqL.of hq3), ?_⟩
    rw [hlen]
    refine ⟨1, _, rfl, ⟨by omega, by omega, by omega, by omega⟩, for_range (lo := 1) (n := (((ss.length + 1 : Nat) : Int) - 1).toNat) (fun i σ H4 => ∃ v3 v4 ts, σ = [some (.str (textS b ss)), some (.ref q), some (.ref m), v3, v4] ∧ Same H2 H4 ∧ H4 m = some (.lst (ts.map V.ref)) ∧ SumsAt H4 ts (ss.take i))
      ⟨none, none, [], rfl, s3, hm3, ⟨rfl, fun i t s h => by simp at h⟩⟩ ?_ ?_⟩
    · rintro i σ H4 hi ⟨v3, v4, ts, rfl, s4, hm4, hsa⟩
      have hil : i < ss.length := by omega
      have hs : ss[i]? = some ss[i] := List.getElem?_eq_getElem hil
      generalize hsg : ss[i] = sm at hs
      have hsm : sm ∈ ss := List.mem_of_getElem? hs
      have hm1 := V'.many sm hsm
      have hq4 := s4 _ _ hq2
      refine ⟨_, rfl, _, rfl, q, _, _, .str (rowS sm), rfl, rfl, SqL.of hq4, at_of (j := i + 1) (by omega) (by rw [List.getElem?_map, List.getElem?_cons_succ, List.getElem?_map, hs] <;> rfl), sm, rfl, fun e => by rw [e] at hm1; simp at hm1, hm1.2, valid_len V' hsm, fun wq H5 hwq s5 hwq5 => ?_⟩
      refine ⟨_, rfl, _, .inl ⟨_, SqL.of hwq5, rfl⟩, ?_⟩
      have hne : (!((sm.1 ++ [sm.2]).map V.str).isEmpty) = true := by cases sm.1 <;> rfl
      rw [hne]
      refine iteF ?_
      have hm5 := s5 _ _ hm4
      refine ⟨_, rfl, .inl ⟨rfl, _, SqL.of hm5⟩, _, rfl, _, rfl, _, rfl, wq, _, rfl, SqL.of hwq5, fun q3 hq3' => ?_⟩
      have e3 : cutV ((sm.1 ++ [sm.2]).map V.str) none (some (-1)) = sm.1.map V.str := by
        rw [List.map_append]
        exact cut_back _ _
      rw [e3]
      have s6 : Same H5 (upd H5 q3 (.lst (sm.1.map V.str))) := Same.new hq3'
      have hq36 : (upd H5 q3 (.lst (sm.1.map V.str))) q3 = some (.lst (sm.1.map V.str)) := upd_same
      generalize upd H5 q3 (.lst (sm.1.map V.str)) = H6 at s6 hq36
      refine ⟨q3, _, rfl, .inl ⟨SqL.of hq36, fun u hu => ?_⟩⟩
      have s7 : Same H6 (upd H6 u (.tup (sm.1.map V.str))) := Same.new hu
      have hu7 : (upd H6 u (.tup (sm.1.map V.str))) u = some (.tup (sm.1.map V.str)) := upd_same
      generalize upd H6 u (.tup (sm.1.map V.str)) = H7 at s7 hu7
      have s57 := s6.trans s7
      refine ⟨_, rfl, _, rfl, wq, _, -1, .str sm.2, rfl, rfl, SqL.of (s57 _ _ hwq5), ?_, by show 2 ≤ sizeLine; decide, fun t ht => ?_⟩
      · rw [List.map_append]
        exact atI_last _ _
      have s8 : Same H7 (upd H7 t (.tup [.ref u, .str sm.2])) := Same.new ht
      have ht8 : (upd H7 t (.tup [.ref u, .str sm.2])) t = some (.tup [.ref u, .str sm.2]) := upd_same
      generalize upd H7 t (.tup [.ref u, .str sm.2]) = H8 at s8 ht8
      have s48 := s5.trans (s57.trans s8)
      have hm8 := s48 _ _ hm4
      refine ⟨m, _, _, rfl, rfl, hm8, ?_, ?_⟩
      · rw [List.length_map, hsa.len, List.length_take]
        exact line_lt (by omega)
      · refine ⟨_, _, ts ++ [t], rfl, Same.mut (s4.trans s48) hm, by rw [upd_same, List.map_append] <;> rfl, ?_⟩
        rw [take_snoc hs]
        exact ((hsa.same s48).snoc ⟨u, ht8, s8 _ _ hu7⟩).mut ⟨_, hm8⟩
    · rintro σ H4 ⟨v3, v4, ts, rfl, s4, hm4, hsa⟩
      have e : (((ss.length + 1 : Nat) : Int) - 1).toNat = ss.length := by omega
      rw [e, List.take_length] at hsa
      have hq4 := s4 _ _ hq2
      refine ⟨_, rfl, q, _, 0, _, rfl, rfl, SqL.of hq4, at_of (j := 0) rfl rfl, ⟨_, rfl⟩, _, _, rfl, rfl, line_of (by omega), ?_⟩
      rw [B.rm]
      refine ⟨_, b, rfl, B.it, by omega, _, rfl, fun x dx nx ndx nex => ?_⟩
      have s0 : Same H4 (upd (upd H4 dx (.own x)) x (.ins C dx [])) := fun c o e => by
        rw [upd_ne (ne_of_none e nx), upd_ne (ne_of_none e ndx)]; exact e
      refine ⟨x, dx, b, m, ts, ss, rfl, upd_same, s0 _ _ hm4, hsa.same s0, V', fun kl H5 hkl A5 kp => ⟨rfl, ?_⟩⟩
      have s45 : Same H4 H5 := old_of nx ndx kp
      have s05 := (s1.trans s2).trans (s4.trans s45)
      exact k x kl ts H5 (Same.free ((s1.trans s2).trans s4) nx) s05 A5 (hsa.same s45)
end
end WS
set_option maxRecDepth 100000
set_option maxHeartbeats 8000000
namespace WS
open PySem L2 SetT RevS
theorem alike_str' (H : Hp) (n : Nat) (z : Str) : Alike H n (.str z) (.str z) := by
  cases n with
  | zero => exact .inr ⟨z, rfl, rfl⟩
  | succ n => exact .inl (.inr ⟨z, rfl, rfl⟩)
theorem alike_int' (H : Hp) (n : Nat) (i : Int) : Alike H n (.int i) (.int i) := by
  cases n with
  | zero => exact .inl ⟨i, rfl, rfl⟩
  | succ n => exact .inl (.inl ⟨i, rfl, rfl⟩)
theorem sums_alike {H : Hp} {a c : Addr} {ts ts' : List Addr} {ss : List WSum} (ha : H a = some (.lst (ts.map V.ref))) (hc : H c = some (.lst (ts'.map V.ref))) (h : SumsAt H ts ss) (h' : SumsAt H ts' ss) (hl : ss.length ≤ 3) (h4 : ∀ s ∈ ss, s.1.length ≤ 4) : Alike H 3 (.ref a) (.ref c) := by
  have l1 := h.len
  have l2 := h'.len
  refine .inr ⟨a, c, _, _, rfl, rfl, .inl ⟨ha, hc⟩, by rw [List.length_map, List.length_map]; omega, by rw [List.length_map]; omega, fun i u v hu hv => ?_⟩
  obtain ⟨r, hr, rfl⟩ := refs_at hu
  obtain ⟨r', hr', rfl⟩ := refs_at hv
  have hi : i < ss.length := by rw [← l1]; exact (List.getElem?_eq_some_iff.mp hr).1
  have hx : ss[i]? = some ss[i] := List.getElem?_eq_getElem hi
  have hxm : ss[i] ∈ ss := List.getElem_mem hi
  obtain ⟨u1, g1, g2⟩ := h.get i r _ hr hx
  obtain ⟨u2, g3, g4⟩ := h'.get i r' _ hr' hx
  refine .inr ⟨r, r', _, _, rfl, rfl, .inr ⟨g1, g3⟩, rfl, by show 2 ≤ _; decide, fun j u v hu hv => ?_⟩
  rcases j with _ | _ | j
  · cases Option.some.inj hu
    cases Option.some.inj hv
    refine .inr ⟨u1, u2, _, _, rfl, rfl, .inr ⟨g2, g4⟩, rfl, by rw [List.length_map]; have := h4 _ hxm; omega, fun j u v hu hv => ?_⟩
    cases Option.some.inj (hu.symm.trans hv)
    obtain ⟨z, _, rfl⟩ := strs_at' hu
    exact alike_str' _ _ _
  · cases Option.some.inj hu
    cases Option.some.inj hv
    exact alike_str' _ _ _
  · cases hu
section
variable {P : Program} {w : World} {K : PySem.W.Frag} {mg : Str → Option Value} {base : Heap}
theorem scLaw17 : FnScope ["_law_script", "_law_d", "_law_one", "_law_other", "_law_base", "_law_sums", "_law_text_here", "_law_sheet_here", "_law_found"] ["_law_script"] (defScope sLaw) := ⟨rfl, rfl, rfl, by decide +kernel, rfl, by decide +kernel, by decide +kernel⟩
theorem ok_law17 {f C fD fW fI fT fRd fWr fS fLk : Addr} {fd fdD fdW fdI fdT fdRd fdWr fdS fdLk : FuncData} (F : Fun K "law" "law" sLaw f fd) (T : SheetTxt K mg C) (z_isinstance : mg "isinstance" = none) (z_str : mg "str" = none)
    (S__law_dice : Site K mg "_law_dice" fD fdD ["_law_script"]) (G__law_dice : FnOk P w K mg base CX0 1 fD fdD ["_law_script"] (spDice K))
    (S__law_sheet : Site K mg "_law_sheet" fW fdW ["_law_d"]) (G__law_sheet : FnOk P w K mg base CX0 3 fW fdW ["_law_d"] (spSheet K))
    (M : Mk K C fI) (bI : Binds K fdI ["self", "base", "sums"] []) (GI : FnOk P w K mg base CX0 3 fI fdI ["self", "base", "sums"] (spShInit C))
    (MS : Meth K C "sums" fS) (bS : Binds K fdS ["self"] []) (GS : FnOk P w K mg base CX0 1 fS fdS ["self"] (spShSums C))
    (S__law_text : Site K mg "_law_text" fT fdT ["_law_base", "_law_sums"]) (G__law_text : FnOk P w K mg base CX0 1 fT fdT ["_law_base", "_law_sums"] spLText)
    (S_read : Site K mg "read" fRd fdRd ["text"]) (G_read : FnOk P w K mg base CX0 5 fRd fdRd ["text"] (spRead17 C))
    (S_written : Site K mg "written" fWr fdWr ["sheet"]) (G_written : FnOk P w K mg base CX0 2 fWr fdWr ["sheet"] (spWritten C))
    (S__law_like : Site K mg "_law_like" fLk fdLk ["_law_found", "_law_due"]) (G__law_like : FnOk P w K mg base CX0 5 fLk fdLk ["_law_found", "_law_due"] (spLike 4)) :
    FnOk P w K mg base CX0 6 f fd ["_law_script"] (spLaw K) := by
  refine F.ok scLaw17 (fun vs H Q E h => ?_) (fun cdv A outer s H vs Q E hr h => ?_)
  · obtain ⟨a, ns, rfl, _⟩ := h
    rfl
  · obtain ⟨a, ns, rfl, hsq, k⟩ := h
    have nd := scLaw17.nd
    have hr__law_dice : Room 1 _ := hr.mono (by decide)
    have hr__law_sheet : Room 3 _ := hr.mono (by decide)
    have hr_sheet : Room 4 _ := hr.mono (by decide)
    have hr_sums : Room 1 _ := hr.mono (by decide)
    have hr__law_text : Room 1 _ := hr.mono (by decide)
    have hr_read : Room 5 _ := hr
    have hr_written : Room 2 _ := hr.mono (by decide)
    have hr__law_like : Room 5 _ := hr
    refine ⟨_, (pss_cons (ps_set (i := 1) nd rfl (.inl rfl) (pe_call G__law_dice hr__law_dice (by rfl) S__law_dice.g S__law_dice.k S__law_dice.b .nil pass0 (pa_cons (pv 0) pa_nil)))
      (pss_cons (ps_set (i := 2) nd rfl (.inl rfl) (pe_call G__law_sheet hr__law_sheet (by rfl) S__law_sheet.g S__law_sheet.k S__law_sheet.b .nil pass0 (pa_cons (pv 1) pa_nil)))
      (pss_cons (ps_set (i := 3) nd rfl (.inl rfl) (pe_call G__law_sheet hr__law_sheet (by rfl) S__law_sheet.g S__law_sheet.k S__law_sheet.b .nil pass0 (pa_cons (pv 1) pa_nil)))
      (pss_cons (ps_for PassesOwn.never rfl (pi_list (pe_lst (pa_cons (pv 2) (pa_cons (pv 3) (pa_cons (pv 2) pa_nil))))) (pg_tup rfl (pgs_cons (pg_name (i := 4) nd rfl (.inl rfl)) (pgs_cons (pg_name (i := 5) nd rfl (.inl rfl)) pgs_nil))) (pss_cons (ps_set (i := 6) nd rfl (.inl rfl) (pe_call G__law_text hr__law_text (by rfl) S__law_text.g S__law_text.k S__law_text.b .nil pass0 (pa_cons (pv 4) (pa_cons (pv 5) pa_nil))))
      (pss_cons (ps_set (i := 7) nd rfl (.inl rfl) (pe_call G_read hr_read (by rfl) S_read.g S_read.k S_read.b .nil pass0 (pa_cons (pv 6) pa_nil)))
      (pss_cons (ps_if (pt_not (pt_val (pe_call G__law_like hr__law_like (by rfl) S__law_like.g S__law_like.k S__law_like.b .nil pass0 (pa_cons (pe_lst (pa_cons (pe_fld (pv 7) rfl) (pa_cons (pe_meth0 (pv 7) T.cl MS GS hr_sums bS .nil pass0) pa_nil))) (pa_cons (pe_lst (pa_cons (pv 4) (pa_cons (pv 5) pa_nil))) pa_nil))))) (pss_one (ps_ret pe_bl)) pss_nil)
      (pss_cons (ps_set (i := 8) nd rfl (.inl rfl) (pe_call G_written hr_written (by rfl) S_written.g S_written.k S_written.b .nil pass0 (pa_cons (pe_make M GI hr_sheet (by rfl) T.g bI .nil pass0 (pa_cons (pv 4) (pa_cons (pv 5) pa_nil))) pa_nil)))
      (pss_one (ps_if (PW.pt (pw_or (pt_not (pt_val (pe_callB call_isi (by rfl) z_isinstance (by decide +kernel) (pa_cons (pv 8) (pa_cons (pe_bltn (v := .ty "str") (by rfl) z_str PyProof.Rows.boot_str rfl) pa_nil))))) (pw_or1 (pt_cmpR op_ne (pv 8) (pv 6) (nomark _))))) (pss_one (ps_ret pe_bl)) pss_nil)))))))
      (pss_one (ps_ret pe_bl)))))), ?_⟩
    refine ⟨_, rfl, a, ns, rfl, hsq, fun d H1 hd0 s1 D1 => ?_⟩
    refine ⟨_, rfl, d, a, ns, rfl, D1, fun t sl ts H2 b ss ht0 hsl0 D2 b2 ht hsl hsa ok => ?_⟩
    refine ⟨_, rfl, d, a, ns, rfl, D2, fun t' sl' ts' H3 b' ss' ht0' hsl0' D3 b3 ht' hsl' hsa' ok' => ?_⟩
    have ht3 := b3 _ _ (tup_ne D2 ht) ht
    have hsl3 := b3 _ _ (refs_off D2 hsl) hsl
    have hsa3 := hsa.but D2 b3
    refine ⟨_, rfl, _, rfl, _, rfl, by show 3 ≤ sizeLine; decide, fun L hL => ?_⟩
    have s34 : Same H3 (upd H3 L (.lst [.ref t, .ref t', .ref t])) := Same.new hL
    have hL4 : (upd H3 L (.lst [.ref t, .ref t', .ref t])) L = some (.lst [.ref t, .ref t', .ref t]) := upd_same
    generalize upd H3 L (.lst [.ref t, .ref t', .ref t]) = H4 at s34 hL4
    have pick : ∀ (i : Nat) (y : V), ([V.ref t, .ref t', .ref t])[i]? = some y → ∃ tt sl ts b ss, y = .ref tt ∧ H4 tt = some (.tup [.int b, .ref sl]) ∧ H4 sl = some (.lst (ts.map V.ref)) ∧ SumsAt H4 ts ss ∧ SheetOk b ss := fun i y h => by
      rcases i with _ | _ | _ | i
      · cases Option.some.inj h
        exact ⟨t, sl, ts, b, ss, rfl, s34 _ _ ht3, s34 _ _ hsl3, hsa3.same s34, ok⟩
      · cases Option.some.inj h
        exact ⟨t', sl', ts', b', ss', rfl, s34 _ _ ht', s34 _ _ hsl', hsa'.same s34, ok'⟩
      · cases Option.some.inj h
        exact ⟨t, sl, ts, b, ss, rfl, s34 _ _ ht3, s34 _ _ hsl3, hsa3.same s34, ok⟩
      · simp at h
    refine ⟨L, rfl, ⟨_, SqL.of hL4⟩, for_list (K := K) (a := L) (xs := [V.ref t, .ref t', .ref t]) (fun i σ H5 => ∃ v4 v5 v6 v7 v8, σ = [some (.ref a), some (.ref d), some (.ref t), some (.ref t'), v4, v5, v6, v7, v8] ∧ Same H4 H5)
      ⟨none, none, none, none, none, rfl, Same.refl _⟩ (fun i σ H5 _ ⟨_, _, _, _, _, _, s5⟩ => SqL.of (s5 _ _ hL4)) ?_ ?_⟩
    · rintro i y σ H5 hi ⟨v4, v5, v6, v7, v8, rfl, s5⟩
      obtain ⟨tt, sl, ts, b, ss, rfl, htt, hsl, hsa, ok⟩ := pick i y hi
      have V' := ok.valid
      have hf := V'.few
      have hl := hsa.len
      have hsl5 := s5 _ _ hsl
      have hsa5 := hsa.same s5
      refine ⟨tt, _, rfl, SqT.of (s5 _ _ htt), rfl, _, _, rfl, _, _, rfl, rfl, ?_⟩
      refine ⟨_, rfl, _, rfl, b, sl, ts, ss, rfl, hsl5, hsa5, V', fun H6 s6 => ?_⟩
      refine ⟨_, rfl, b, ss, rfl, V', fun p kl ts2 H7 hp s7 A7 hsa7 => ?_⟩
      have s57 := s6.trans s7
      have hl7 := hsa7.len
      obtain ⟨⟨dx, hpi⟩, hkl⟩ := id A7
      refine ⟨_, rfl, p, C, dx, _, _, rfl, hpi, T.cl, T.nB, flds_base _ _, _, rfl, p, dx, _, rfl, hpi, flds_no _ _ (by decide +kernel) (by decide +kernel), p, b, kl, ts2, rfl, A7, by omega, fun q H8 hq s8 hq8 => ?_⟩
      refine ⟨by show 2 ≤ sizeLine; decide, fun l1 hl1 => ?_⟩
      have s9 : Same H8 (upd H8 l1 (.lst [.int b, .ref q])) := Same.new hl1
      have hl19 : (upd H8 l1 (.lst [.int b, .ref q])) l1 = some (.lst [.int b, .ref q]) := upd_same
      generalize upd H8 l1 (.lst [.int b, .ref q]) = H9 at s9 hl19
      refine ⟨_, rfl, _, rfl, by show 2 ≤ sizeLine; decide, fun l2 hl2 => ?_⟩
      have s10 : Same H9 (upd H9 l2 (.lst [.int b, .ref sl])) := Same.new hl2
      have hl210 : (upd H9 l2 (.lst [.int b, .ref sl])) l2 = some (.lst [.int b, .ref sl]) := upd_same
      generalize upd H9 l2 (.lst [.int b, .ref sl]) = H10 at s10 hl210
      have s710 := (s8.trans s9).trans s10
      have s510 := s57.trans s710
      have al : Alike H10 3 (.ref q) (.ref sl) := sums_alike ((s9.trans s10) _ _ hq8) (s510 _ _ hsl5) (hsa7.same s710) (hsa5.same s510) hf.2 fun s hs => (V'.many s hs).2
      refine ⟨_, _, rfl, .inr ⟨l1, l2, _, _, rfl, rfl, .inl ⟨s10 _ _ hl19, hl210⟩, rfl, by show 2 ≤ _; decide, fun j u v hu hv => ?_⟩, ?_⟩
      · rcases j with _ | _ | j
        · cases Option.some.inj hu
          cases Option.some.inj hv
          exact alike_int' _ _ _
        · cases Option.some.inj hu
          cases Option.some.inj hv
          exact al
        · simp at hu
      refine ⟨_, rfl, iteF ?_⟩
      refine ⟨_, rfl, _, rfl, fun x dx2 nx ndx nex => ?_⟩
      have s0 : Same H10 (upd (upd H10 dx2 (.own x)) x (.ins C dx2 [])) := fun c o e => by
        rw [upd_ne (ne_of_none e nx), upd_ne (ne_of_none e ndx)]; exact e
      refine ⟨x, dx2, b, sl, ts, ss, rfl, upd_same, s0 _ _ (s510 _ _ hsl5), (hsa5.same s510).same s0, V', fun kl2 H11 hkl2 A11 kp => ⟨rfl, ?_⟩⟩
      have s11 : Same H10 H11 := old_of nx ndx kp
      refine ⟨x, b, kl2, ts, ss, rfl, A11, (hsa5.same s510).same s11, V', fun H12 s12 => ?_⟩
      refine ⟨_, rfl, _, _, _, _, true, rfl, .ty _, tyStr (textS b ss), kit_ty (by decide +kernel), _, rfl, iteF ⟨_, rfl, _, rfl, rfl, _, rfl, ?_⟩⟩
      rw [decide_eq_true rfl]
      exact iteF ⟨_, _, _, _, _, rfl, s5.trans ((s510.trans s11).trans s12)⟩
    · rintro σ H5 ⟨v4, v5, v6, v7, v8, rfl, s5⟩
      exact k _
end
end WS
set_option maxRecDepth 100000
set_option maxHeartbeats 8000000
namespace WS
open PySem L2
theorem all_mk {l : PySem.W.OpenLaw} {w : World} {K : PySem.W.Frag} {h : Heap} {mg : Str → Option Value} {fa C_Sheet : Addr} (X : K.In h) (G : h.Ns mainGlobals mg) (hfa : mg "law" = some (.ref fa))
    {f_check_counts : Addr} {od_check_counts an_check_counts : Option Addr} {sl_check_counts : Array (Option Value)} {oc_check_counts kV_check_counts dc_check_counts pm_check_counts cd_check_counts ct_check_counts : Value}
    {f_check_sums : Addr} {od_check_sums an_check_sums : Option Addr} {sl_check_sums : Array (Option Value)} {oc_check_sums kV_check_sums dc_check_sums pm_check_sums cd_check_sums ct_check_sums : Value}
    {f_is_word : Addr} {od_is_word an_is_word : Option Addr} {sl_is_word : Array (Option Value)} {oc_is_word kV_is_word dc_is_word pm_is_word cd_is_word ct_is_word : Value}
    {f_written : Addr} {od_written an_written : Option Addr} {sl_written : Array (Option Value)} {oc_written kV_written dc_written pm_written cd_written ct_written : Value}
    {f_sum_row : Addr} {od_sum_row an_sum_row : Option Addr} {sl_sum_row : Array (Option Value)} {oc_sum_row kV_sum_row dc_sum_row pm_sum_row cd_sum_row ct_sum_row : Value}
    {f_read : Addr} {od_read an_read : Option Addr} {sl_read : Array (Option Value)} {oc_read kV_read dc_read pm_read cd_read ct_read : Value}
    {f_is_base_row : Addr} {od_is_base_row an_is_base_row : Option Addr} {sl_is_base_row : Array (Option Value)} {oc_is_base_row kV_is_base_row dc_is_base_row pm_is_base_row cd_is_base_row ct_is_base_row : Value}
    {f_words_of : Addr} {od_words_of an_words_of : Option Addr} {sl_words_of : Array (Option Value)} {oc_words_of kV_words_of dc_words_of pm_words_of cd_words_of ct_words_of : Value}
    {f__law_dice : Addr} {od__law_dice an__law_dice : Option Addr} {sl__law_dice : Array (Option Value)} {oc__law_dice kV__law_dice dc__law_dice pm__law_dice cd__law_dice ct__law_dice : Value}
    {f__law_next : Addr} {od__law_next an__law_next : Option Addr} {sl__law_next : Array (Option Value)} {oc__law_next kV__law_next dc__law_next pm__law_next cd__law_next ct__law_next : Value}
    {f__law_like : Addr} {od__law_like an__law_like : Option Addr} {sl__law_like : Array (Option Value)} {oc__law_like kV__law_like dc__law_like pm__law_like cd__law_like ct__law_like : Value}
    {f__law_word : Addr} {od__law_word an__law_word : Option Addr} {sl__law_word : Array (Option Value)} {oc__law_word kV__law_word dc__law_word pm__law_word cd__law_word ct__law_word : Value}
    {f__law_names : Addr} {od__law_names an__law_names : Option Addr} {sl__law_names : Array (Option Value)} {oc__law_names kV__law_names dc__law_names pm__law_names cd__law_names ct__law_names : Value}
    {f__law_sum : Addr} {od__law_sum an__law_sum : Option Addr} {sl__law_sum : Array (Option Value)} {oc__law_sum kV__law_sum dc__law_sum pm__law_sum cd__law_sum ct__law_sum : Value}
    {f__law_sheet : Addr} {od__law_sheet an__law_sheet : Option Addr} {sl__law_sheet : Array (Option Value)} {oc__law_sheet kV__law_sheet dc__law_sheet pm__law_sheet cd__law_sheet ct__law_sheet : Value}
    {f__law_text : Addr} {od__law_text an__law_text : Option Addr} {sl__law_text : Array (Option Value)} {oc__law_text kV__law_text dc__law_text pm__law_text cd__law_text ct__law_text : Value}
    {f_law : Addr} {od_law an_law : Option Addr} {sl_law : Array (Option Value)} {oc_law kV_law dc_law pm_law cd_law ct_law : Value}
    {f_Sheet_init : Addr} {od_Sheet_init an_Sheet_init : Option Addr} {sl_Sheet_init : Array (Option Value)} {oc_Sheet_init kV_Sheet_init dc_Sheet_init pm_Sheet_init cd_Sheet_init ct_Sheet_init : Value}
    {f_Sheet_sums : Addr} {od_Sheet_sums an_Sheet_sums : Option Addr} {sl_Sheet_sums : Array (Option Value)} {oc_Sheet_sums kV_Sheet_sums dc_Sheet_sums pm_Sheet_sums cd_Sheet_sums ct_Sheet_sums : Value}
    {t_LEAST_BASE : Tok}
    {t_MOST_BASE : Tok}
    {t_MOST_SUMS : Tok}
    {t_MOST_ADDENDS : Tok}
    {t_MOST_IN_WORD : Tok}
    {t_MOST_LETTERS : Tok}
    {t_SMALL_LETTERS : Tok}
    {t_AHEAD_OF_BASE : Tok}
    {t_FIGURES : Tok}
    (a_Sheet : PySem.W.nsIn K mainGlobals "Sheet" = some (some (.ref C_Sheet)))
    (a_check_counts : PySem.W.nsIn K mainGlobals "check_counts" = some (some (.ref f_check_counts))) (l_check_counts : K.lookup f_check_counts = some ⟨oc_check_counts, od_check_counts, .func (PySem.W.fnOf "check_counts" "check_counts" (defArgs sCounts) (defBody sCounts) (defScope sCounts) .none kV_check_counts dc_check_counts pm_check_counts an_check_counts cd_check_counts ct_check_counts), sl_check_counts⟩) (c_check_counts : PySem.W.codeIn K cd_check_counts "check_counts" = true) (k_check_counts : PySem.W.keepIn K (.ref f_check_counts) = true)
    (a_check_sums : PySem.W.nsIn K mainGlobals "check_sums" = some (some (.ref f_check_sums))) (l_check_sums : K.lookup f_check_sums = some ⟨oc_check_sums, od_check_sums, .func (PySem.W.fnOf "check_sums" "check_sums" (defArgs sCheck) (defBody sCheck) (defScope sCheck) .none kV_check_sums dc_check_sums pm_check_sums an_check_sums cd_check_sums ct_check_sums), sl_check_sums⟩) (c_check_sums : PySem.W.codeIn K cd_check_sums "check_sums" = true) (k_check_sums : PySem.W.keepIn K (.ref f_check_sums) = true)
    (a_is_word : PySem.W.nsIn K mainGlobals "is_word" = some (some (.ref f_is_word))) (l_is_word : K.lookup f_is_word = some ⟨oc_is_word, od_is_word, .func (PySem.W.fnOf "is_word" "is_word" (defArgs sIsWord) (defBody sIsWord) (defScope sIsWord) .none kV_is_word dc_is_word pm_is_word an_is_word cd_is_word ct_is_word), sl_is_word⟩) (c_is_word : PySem.W.codeIn K cd_is_word "is_word" = true) (k_is_word : PySem.W.keepIn K (.ref f_is_word) = true)
    (a_written : PySem.W.nsIn K mainGlobals "written" = some (some (.ref f_written))) (l_written : K.lookup f_written = some ⟨oc_written, od_written, .func (PySem.W.fnOf "written" "written" (defArgs sWritten) (defBody sWritten) (defScope sWritten) .none kV_written dc_written pm_written an_written cd_written ct_written), sl_written⟩) (c_written : PySem.W.codeIn K cd_written "written" = true) (k_written : PySem.W.keepIn K (.ref f_written) = true)
    (a_sum_row : PySem.W.nsIn K mainGlobals "sum_row" = some (some (.ref f_sum_row))) (l_sum_row : K.lookup f_sum_row = some ⟨oc_sum_row, od_sum_row, .func (PySem.W.fnOf "sum_row" "sum_row" (defArgs sSumRow) (defBody sSumRow) (defScope sSumRow) .none kV_sum_row dc_sum_row pm_sum_row an_sum_row cd_sum_row ct_sum_row), sl_sum_row⟩) (c_sum_row : PySem.W.codeIn K cd_sum_row "sum_row" = true) (k_sum_row : PySem.W.keepIn K (.ref f_sum_row) = true)
    (a_read : PySem.W.nsIn K mainGlobals "read" = some (some (.ref f_read))) (l_read : K.lookup f_read = some ⟨oc_read, od_read, .func (PySem.W.fnOf "read" "read" (defArgs sRead) (defBody sRead) (defScope sRead) .none kV_read dc_read pm_read an_read cd_read ct_read), sl_read⟩) (c_read : PySem.W.codeIn K cd_read "read" = true) (k_read : PySem.W.keepIn K (.ref f_read) = true)
    (a_is_base_row : PySem.W.nsIn K mainGlobals "is_base_row" = some (some (.ref f_is_base_row))) (l_is_base_row : K.lookup f_is_base_row = some ⟨oc_is_base_row, od_is_base_row, .func (PySem.W.fnOf "is_base_row" "is_base_row" (defArgs sIsBaseRow) (defBody sIsBaseRow) (defScope sIsBaseRow) .none kV_is_base_row dc_is_base_row pm_is_base_row an_is_base_row cd_is_base_row ct_is_base_row), sl_is_base_row⟩) (c_is_base_row : PySem.W.codeIn K cd_is_base_row "is_base_row" = true) (k_is_base_row : PySem.W.keepIn K (.ref f_is_base_row) = true)
    (a_words_of : PySem.W.nsIn K mainGlobals "words_of" = some (some (.ref f_words_of))) (l_words_of : K.lookup f_words_of = some ⟨oc_words_of, od_words_of, .func (PySem.W.fnOf "words_of" "words_of" (defArgs sWordsOf) (defBody sWordsOf) (defScope sWordsOf) .none kV_words_of dc_words_of pm_words_of an_words_of cd_words_of ct_words_of), sl_words_of⟩) (c_words_of : PySem.W.codeIn K cd_words_of "words_of" = true) (k_words_of : PySem.W.keepIn K (.ref f_words_of) = true)
    (a__law_dice : PySem.W.nsIn K mainGlobals "_law_dice" = some (some (.ref f__law_dice))) (l__law_dice : K.lookup f__law_dice = some ⟨oc__law_dice, od__law_dice, .func (PySem.W.fnOf "_law_dice" "_law_dice" (defArgs sDice) (defBody sDice) (defScope sDice) .none kV__law_dice dc__law_dice pm__law_dice an__law_dice cd__law_dice ct__law_dice), sl__law_dice⟩) (c__law_dice : PySem.W.codeIn K cd__law_dice "_law_dice" = true) (k__law_dice : PySem.W.keepIn K (.ref f__law_dice) = true)
    (a__law_next : PySem.W.nsIn K mainGlobals "_law_next" = some (some (.ref f__law_next))) (l__law_next : K.lookup f__law_next = some ⟨oc__law_next, od__law_next, .func (PySem.W.fnOf "_law_next" "_law_next" (defArgs sNext) (defBody sNext) (defScope sNext) .none kV__law_next dc__law_next pm__law_next an__law_next cd__law_next ct__law_next), sl__law_next⟩) (c__law_next : PySem.W.codeIn K cd__law_next "_law_next" = true) (k__law_next : PySem.W.keepIn K (.ref f__law_next) = true)
    (a__law_like : PySem.W.nsIn K mainGlobals "_law_like" = some (some (.ref f__law_like))) (l__law_like : K.lookup f__law_like = some ⟨oc__law_like, od__law_like, .func (PySem.W.fnOf "_law_like" "_law_like" (defArgs sLike) (defBody sLike) (defScope sLike) .none kV__law_like dc__law_like pm__law_like an__law_like cd__law_like ct__law_like), sl__law_like⟩) (c__law_like : PySem.W.codeIn K cd__law_like "_law_like" = true) (k__law_like : PySem.W.keepIn K (.ref f__law_like) = true)
    (a__law_word : PySem.W.nsIn K mainGlobals "_law_word" = some (some (.ref f__law_word))) (l__law_word : K.lookup f__law_word = some ⟨oc__law_word, od__law_word, .func (PySem.W.fnOf "_law_word" "_law_word" (defArgs sWord) (defBody sWord) (defScope sWord) .none kV__law_word dc__law_word pm__law_word an__law_word cd__law_word ct__law_word), sl__law_word⟩) (c__law_word : PySem.W.codeIn K cd__law_word "_law_word" = true) (k__law_word : PySem.W.keepIn K (.ref f__law_word) = true)
    (a__law_names : PySem.W.nsIn K mainGlobals "_law_names" = some (some (.ref f__law_names))) (l__law_names : K.lookup f__law_names = some ⟨oc__law_names, od__law_names, .func (PySem.W.fnOf "_law_names" "_law_names" (defArgs sNames) (defBody sNames) (defScope sNames) .none kV__law_names dc__law_names pm__law_names an__law_names cd__law_names ct__law_names), sl__law_names⟩) (c__law_names : PySem.W.codeIn K cd__law_names "_law_names" = true) (k__law_names : PySem.W.keepIn K (.ref f__law_names) = true)
    (a__law_sum : PySem.W.nsIn K mainGlobals "_law_sum" = some (some (.ref f__law_sum))) (l__law_sum : K.lookup f__law_sum = some ⟨oc__law_sum, od__law_sum, .func (PySem.W.fnOf "_law_sum" "_law_sum" (defArgs sSum) (defBody sSum) (defScope sSum) .none kV__law_sum dc__law_sum pm__law_sum an__law_sum cd__law_sum ct__law_sum), sl__law_sum⟩) (c__law_sum : PySem.W.codeIn K cd__law_sum "_law_sum" = true) (k__law_sum : PySem.W.keepIn K (.ref f__law_sum) = true)
    (a__law_sheet : PySem.W.nsIn K mainGlobals "_law_sheet" = some (some (.ref f__law_sheet))) (l__law_sheet : K.lookup f__law_sheet = some ⟨oc__law_sheet, od__law_sheet, .func (PySem.W.fnOf "_law_sheet" "_law_sheet" (defArgs sSheet) (defBody sSheet) (defScope sSheet) .none kV__law_sheet dc__law_sheet pm__law_sheet an__law_sheet cd__law_sheet ct__law_sheet), sl__law_sheet⟩) (c__law_sheet : PySem.W.codeIn K cd__law_sheet "_law_sheet" = true) (k__law_sheet : PySem.W.keepIn K (.ref f__law_sheet) = true)
    (a__law_text : PySem.W.nsIn K mainGlobals "_law_text" = some (some (.ref f__law_text))) (l__law_text : K.lookup f__law_text = some ⟨oc__law_text, od__law_text, .func (PySem.W.fnOf "_law_text" "_law_text" (defArgs sLText) (defBody sLText) (defScope sLText) .none kV__law_text dc__law_text pm__law_text an__law_text cd__law_text ct__law_text), sl__law_text⟩) (c__law_text : PySem.W.codeIn K cd__law_text "_law_text" = true) (k__law_text : PySem.W.keepIn K (.ref f__law_text) = true)
    (a_law : PySem.W.nsIn K mainGlobals "law" = some (some (.ref f_law))) (l_law : K.lookup f_law = some ⟨oc_law, od_law, .func (PySem.W.fnOf "law" "law" (defArgs sLaw) (defBody sLaw) (defScope sLaw) .none kV_law dc_law pm_law an_law cd_law ct_law), sl_law⟩) (c_law : PySem.W.codeIn K cd_law "law" = true) (k_law : PySem.W.keepIn K (.ref f_law) = true)
    (a_Sheet_init : PySem.W.findIn K (.ref C_Sheet) "__init__" = some (some (.ref f_Sheet_init))) (i_Sheet_init : PySem.W.isFn K (.ref f_Sheet_init) = true) (l_Sheet_init : K.lookup f_Sheet_init = some ⟨oc_Sheet_init, od_Sheet_init, .func (PySem.W.fnOf "__init__" "Sheet.__init__" (defArgs sShInit) (defBody sShInit) (defScope sShInit) .none kV_Sheet_init dc_Sheet_init pm_Sheet_init an_Sheet_init cd_Sheet_init ct_Sheet_init), sl_Sheet_init⟩) (c_Sheet_init : PySem.W.codeIn K cd_Sheet_init "Sheet.__init__" = true) (k_Sheet_init : PySem.W.keepIn K (.ref f_Sheet_init) = true)
    (a_Sheet_sums : PySem.W.findIn K (.ref C_Sheet) "sums" = some (some (.ref f_Sheet_sums))) (i_Sheet_sums : PySem.W.isFn K (.ref f_Sheet_sums) = true) (l_Sheet_sums : K.lookup f_Sheet_sums = some ⟨oc_Sheet_sums, od_Sheet_sums, .func (PySem.W.fnOf "sums" "Sheet.sums" (defArgs sShSums) (defBody sShSums) (defScope sShSums) .none kV_Sheet_sums dc_Sheet_sums pm_Sheet_sums an_Sheet_sums cd_Sheet_sums ct_Sheet_sums), sl_Sheet_sums⟩) (c_Sheet_sums : PySem.W.codeIn K cd_Sheet_sums "Sheet.sums" = true) (k_Sheet_sums : PySem.W.keepIn K (.ref f_Sheet_sums) = true)
    (pg_Sheet : PySem.W.plainGet K C_Sheet Str.empty = true) (hd_Sheet : PySem.W.hasDictIn K C_Sheet = true) (po_Sheet : PySem.W.plainOver K C_Sheet = true) (sa_Sheet : PySem.W.findIn K (.ref C_Sheet) "__setattr__" = some (some (.builtin "object.__setattr__")))
    (mk_Sheet : PySem.W.makesIn K C_Sheet = true) (kc_Sheet : PySem.W.keepIn K (.ref C_Sheet) = true)
    (n_Sheet_base : PySem.W.findIn K (.ref C_Sheet) "base" = some none)
    (n_Sheet_kept : PySem.W.findIn K (.ref C_Sheet) "kept" = some none)
    (y_all : PySem.W.nsIn K mainGlobals "all" = some none)
    (y_bool : PySem.W.nsIn K mainGlobals "bool" = some none)
    (y_enumerate : PySem.W.nsIn K mainGlobals "enumerate" = some none)
    (y_int : PySem.W.nsIn K mainGlobals "int" = some none)
    (y_isinstance : PySem.W.nsIn K mainGlobals "isinstance" = some none)
    (y_len : PySem.W.nsIn K mainGlobals "len" = some none)
    (y_list : PySem.W.nsIn K mainGlobals "list" = some none)
    (y_min : PySem.W.nsIn K mainGlobals "min" = some none)
    (y_range : PySem.W.nsIn K mainGlobals "range" = some none)
    (y_set : PySem.W.nsIn K mainGlobals "set" = some none)
    (y_str : PySem.W.nsIn K mainGlobals "str" = some none)
    (y_sum : PySem.W.nsIn K mainGlobals "sum" = some none)
    (y_tuple : PySem.W.nsIn K mainGlobals "tuple" = some none)
    (x_LEAST_BASE : PySem.W.nsIn K mainGlobals "LEAST_BASE" = some (some (.int 2 t_LEAST_BASE)))
    (x_MOST_BASE : PySem.W.nsIn K mainGlobals "MOST_BASE" = some (some (.int 12 t_MOST_BASE)))
    (x_MOST_SUMS : PySem.W.nsIn K mainGlobals "MOST_SUMS" = some (some (.int 3 t_MOST_SUMS)))
    (x_MOST_ADDENDS : PySem.W.nsIn K mainGlobals "MOST_ADDENDS" = some (some (.int 4 t_MOST_ADDENDS)))
    (x_MOST_IN_WORD : PySem.W.nsIn K mainGlobals "MOST_IN_WORD" = some (some (.int 6 t_MOST_IN_WORD)))
    (x_MOST_LETTERS : PySem.W.nsIn K mainGlobals "MOST_LETTERS" = some (some (.int 8 t_MOST_LETTERS)))
    (x_SMALL_LETTERS : PySem.W.nsIn K mainGlobals "SMALL_LETTERS" = some (some (.str abc t_SMALL_LETTERS)))
    (x_AHEAD_OF_BASE : PySem.W.nsIn K mainGlobals "AHEAD_OF_BASE" = some (some (.str aheadT t_AHEAD_OF_BASE)))
    (x_FIGURES : PySem.W.nsIn K mainGlobals "FIGURES" = some (some (.str figT t_FIGURES)))
    : ∃ fd : FuncData, (∀ (s : Shared) (v : Value), BindsTo s fd ⟨[v], []⟩ [("_law_script", v)]) ∧ ∀ base : Heap, K.In base → base.Ns mainGlobals mg → FnOk l.prog w K mg base CX0 6 fa fd ["_law_script"] (spLaw K) := by
  have e := hfa.symm.trans (PySem.W.mg_of X G a_law)
  cases e
  have T_Sheet : SheetTxt K mg C_Sheet := ⟨⟨pg_Sheet, hd_Sheet, po_Sheet, sa_Sheet⟩, n_Sheet_base, n_Sheet_kept, PySem.W.mg_of X G a_Sheet⟩
  have F_check_counts := fun_mk (st := sCounts) l_check_counts c_check_counts k_check_counts
  have b_check_counts := F_check_counts.binds (ps := ["base", "sums"]) fun _ _ _ _ _ _ us hl => match us, hl with | [_, _], _ => rfl
  have S_check_counts : Site K mg "check_counts" f_check_counts _ ["base", "sums"] := ⟨PySem.W.mg_of X G a_check_counts, k_check_counts, b_check_counts⟩
  have F_check_sums := fun_mk (st := sCheck) l_check_sums c_check_sums k_check_sums
  have b_check_sums := F_check_sums.binds (ps := ["base", "sums"]) fun _ _ _ _ _ _ us hl => match us, hl with | [_, _], _ => rfl
  have S_check_sums : Site K mg "check_sums" f_check_sums _ ["base", "sums"] := ⟨PySem.W.mg_of X G a_check_sums, k_check_sums, b_check_sums⟩
  have F_is_word := fun_mk (st := sIsWord) l_is_word c_is_word k_is_word
  have b_is_word := F_is_word.binds (ps := ["text"]) fun _ _ _ _ _ _ us hl => match us, hl with | [_], _ => rfl
  have S_is_word : Site K mg "is_word" f_is_word _ ["text"] := ⟨PySem.W.mg_of X G a_is_word, k_is_word, b_is_word⟩
  have F_written := fun_mk (st := sWritten) l_written c_written k_written
  have b_written := F_written.binds (ps := ["sheet"]) fun _ _ _ _ _ _ us hl => match us, hl with | [_], _ => rfl
  have S_written : Site K mg "written" f_written _ ["sheet"] := ⟨PySem.W.mg_of X G a_written, k_written, b_written⟩
  have F_sum_row := fun_mk (st := sSumRow) l_sum_row c_sum_row k_sum_row
  have b_sum_row := F_sum_row.binds (ps := ["addends", "total"]) fun _ _ _ _ _ _ us hl => match us, hl with | [_, _], _ => rfl
  have S_sum_row : Site K mg "sum_row" f_sum_row _ ["addends", "total"] := ⟨PySem.W.mg_of X G a_sum_row, k_sum_row, b_sum_row⟩
  have F_read := fun_mk (st := sRead) l_read c_read k_read
  have b_read := F_read.binds (ps := ["text"]) fun _ _ _ _ _ _ us hl => match us, hl with | [_], _ => rfl
  have S_read : Site K mg "read" f_read _ ["text"] := ⟨PySem.W.mg_of X G a_read, k_read, b_read⟩
  have F_is_base_row := fun_mk (st := sIsBaseRow) l_is_base_row c_is_base_row k_is_base_row
  have b_is_base_row := F_is_base_row.binds (ps := ["row"]) fun _ _ _ _ _ _ us hl => match us, hl with | [_], _ => rfl
  have S_is_base_row : Site K mg "is_base_row" f_is_base_row _ ["row"] := ⟨PySem.W.mg_of X G a_is_base_row, k_is_base_row, b_is_base_row⟩
  have F_words_of := fun_mk (st := sWordsOf) l_words_of c_words_of k_words_of
  have b_words_of := F_words_of.binds (ps := ["row"]) fun _ _ _ _ _ _ us hl => match us, hl with | [_], _ => rfl
  have S_words_of : Site K mg "words_of" f_words_of _ ["row"] := ⟨PySem.W.mg_of X G a_words_of, k_words_of, b_words_of⟩
  have F__law_dice := fun_mk (st := sDice) l__law_dice c__law_dice k__law_dice
  have b__law_dice := F__law_dice.binds (ps := ["_law_script"]) fun _ _ _ _ _ _ us hl => match us, hl with | [_], _ => rfl
  have S__law_dice : Site K mg "_law_dice" f__law_dice _ ["_law_script"] := ⟨PySem.W.mg_of X G a__law_dice, k__law_dice, b__law_dice⟩
  have F__law_next := fun_mk (st := sNext) l__law_next c__law_next k__law_next
  have b__law_next := F__law_next.binds (ps := ["_law_dice_here", "_law_many"]) fun _ _ _ _ _ _ us hl => match us, hl with | [_, _], _ => rfl
  have S__law_next : Site K mg "_law_next" f__law_next _ ["_law_dice_here", "_law_many"] := ⟨PySem.W.mg_of X G a__law_next, k__law_next, b__law_next⟩
  have F__law_like := fun_mk (st := sLike) l__law_like c__law_like k__law_like
  have b__law_like := F__law_like.binds (ps := ["_law_found", "_law_due"]) fun _ _ _ _ _ _ us hl => match us, hl with | [_, _], _ => rfl
  have S__law_like : Site K mg "_law_like" f__law_like _ ["_law_found", "_law_due"] := ⟨PySem.W.mg_of X G a__law_like, k__law_like, b__law_like⟩
  have F__law_word := fun_mk (st := sWord) l__law_word c__law_word k__law_word
  have b__law_word := F__law_word.binds (ps := ["_law_number", "_law_base", "_law_names_here"]) fun _ _ _ _ _ _ us hl => match us, hl with | [_, _, _], _ => rfl
  have S__law_word : Site K mg "_law_word" f__law_word _ ["_law_number", "_law_base", "_law_names_here"] := ⟨PySem.W.mg_of X G a__law_word, k__law_word, b__law_word⟩
  have F__law_names := fun_mk (st := sNames) l__law_names c__law_names k__law_names
  have b__law_names := F__law_names.binds (ps := ["_law_d", "_law_base"]) fun _ _ _ _ _ _ us hl => match us, hl with | [_, _], _ => rfl
  have S__law_names : Site K mg "_law_names" f__law_names _ ["_law_d", "_law_base"] := ⟨PySem.W.mg_of X G a__law_names, k__law_names, b__law_names⟩
  have F__law_sum := fun_mk (st := sSum) l__law_sum c__law_sum k__law_sum
  have b__law_sum := F__law_sum.binds (ps := ["_law_d", "_law_base", "_law_names_here"]) fun _ _ _ _ _ _ us hl => match us, hl with | [_, _, _], _ => rfl
  have S__law_sum : Site K mg "_law_sum" f__law_sum _ ["_law_d", "_law_base", "_law_names_here"] := ⟨PySem.W.mg_of X G a__law_sum, k__law_sum, b__law_sum⟩
  have F__law_sheet := fun_mk (st := sSheet) l__law_sheet c__law_sheet k__law_sheet
  have b__law_sheet := F__law_sheet.binds (ps := ["_law_d"]) fun _ _ _ _ _ _ us hl => match us, hl with | [_], _ => rfl
  have S__law_sheet : Site K mg "_law_sheet" f__law_sheet _ ["_law_d"] := ⟨PySem.W.mg_of X G a__law_sheet, k__law_sheet, b__law_sheet⟩
  have F__law_text := fun_mk (st := sLText) l__law_text c__law_text k__law_text
  have b__law_text := F__law_text.binds (ps := ["_law_base", "_law_sums"]) fun _ _ _ _ _ _ us hl => match us, hl with | [_, _], _ => rfl
  have S__law_text : Site K mg "_law_text" f__law_text _ ["_law_base", "_law_sums"] := ⟨PySem.W.mg_of X G a__law_text, k__law_text, b__law_text⟩
  have F_law := fun_mk (st := sLaw) l_law c_law k_law
  have b_law := F_law.binds (ps := ["_law_script"]) fun _ _ _ _ _ _ us hl => match us, hl with | [_], _ => rfl
  have F_Sheet_init := fun_mk (st := sShInit) l_Sheet_init c_Sheet_init k_Sheet_init
  have b_Sheet_init := F_Sheet_init.binds (ps := ["self", "base", "sums"]) fun _ _ _ _ _ _ us hl => match us, hl with | [_, _, _], _ => rfl
  have K_Sheet : Mk K C_Sheet f_Sheet_init := ⟨mk_Sheet, a_Sheet_init, i_Sheet_init, kc_Sheet⟩
  have F_Sheet_sums := fun_mk (st := sShSums) l_Sheet_sums c_Sheet_sums k_Sheet_sums
  have b_Sheet_sums := F_Sheet_sums.binds (ps := ["self"]) fun _ _ _ _ _ _ us hl => match us, hl with | [_], _ => rfl
  have M_Sheet_sums : Meth K C_Sheet "sums" f_Sheet_sums := ⟨a_Sheet_sums, i_Sheet_sums, k_Sheet_sums⟩
  have z_all := PySem.W.mg_none_of X G y_all
  have z_bool := PySem.W.mg_none_of X G y_bool
  have z_enumerate := PySem.W.mg_none_of X G y_enumerate
  have z_int := PySem.W.mg_none_of X G y_int
  have z_isinstance := PySem.W.mg_none_of X G y_isinstance
  have z_len := PySem.W.mg_none_of X G y_len
  have z_list := PySem.W.mg_none_of X G y_list
  have z_min := PySem.W.mg_none_of X G y_min
  have z_range := PySem.W.mg_none_of X G y_range
  have z_set := PySem.W.mg_none_of X G y_set
  have z_str := PySem.W.mg_none_of X G y_str
  have z_sum := PySem.W.mg_none_of X G y_sum
  have z_tuple := PySem.W.mg_none_of X G y_tuple
  have m_LEAST_BASE := PySem.W.mg_of X G x_LEAST_BASE
  have m_MOST_BASE := PySem.W.mg_of X G x_MOST_BASE
  have m_MOST_SUMS := PySem.W.mg_of X G x_MOST_SUMS
  have m_MOST_ADDENDS := PySem.W.mg_of X G x_MOST_ADDENDS
  have m_MOST_IN_WORD := PySem.W.mg_of X G x_MOST_IN_WORD
  have m_MOST_LETTERS := PySem.W.mg_of X G x_MOST_LETTERS
  have m_SMALL_LETTERS := PySem.W.mg_of X G x_SMALL_LETTERS
  have m_AHEAD_OF_BASE := PySem.W.mg_of X G x_AHEAD_OF_BASE
  have m_FIGURES := PySem.W.mg_of X G x_FIGURES
  refine ⟨PySem.W.fnOf "law" "law" (defArgs sLaw) (defBody sLaw) (defScope sLaw) .none kV_law dc_law pm_law an_law cd_law ct_law, fun s v => .of_eq rfl, fun base _ _ => ?_⟩
  have G__law_dice := ok_dice (P := l.prog) (w := w) (mg := mg) (base := base) F__law_dice z_len z_int
  have G__law_next := ok_next (P := l.prog) (w := w) (mg := mg) (base := base) F__law_next z_len
  have G__law_names := ok_names (P := l.prog) (w := w) (mg := mg) (base := base) F__law_names z_range S__law_next G__law_next
  have G__law_word := ok_word (P := l.prog) (w := w) (mg := mg) (base := base) F__law_word
  have G__law_sum := ok_sum (P := l.prog) (w := w) (mg := mg) (base := base) F__law_sum z_range z_tuple z_sum S__law_next G__law_next S__law_word G__law_word
  have G__law_sheet := ok_sheet (P := l.prog) (w := w) (mg := mg) (base := base) F__law_sheet z_range z_int S__law_next G__law_next S__law_names G__law_names S__law_sum G__law_sum
  have G_check_counts := ok_counts (P := l.prog) (w := w) (mg := mg) (base := base) F_check_counts z_len m_LEAST_BASE m_MOST_BASE m_MOST_SUMS
  have G_is_word := ok_isword (P := l.prog) (w := w) (mg := mg) (base := base) F_is_word z_len z_all m_MOST_IN_WORD m_SMALL_LETTERS
  have G_check_sums := ok_check (P := l.prog) (w := w) (mg := mg) (base := base) F_check_sums z_len z_set z_all z_min z_enumerate m_MOST_ADDENDS m_MOST_LETTERS S_is_word G_is_word
  have G_Sheet_init := ok_shinit (P := l.prog) (w := w) (mg := mg) (base := base) F_Sheet_init T_Sheet z_list S_check_counts G_check_counts S_check_sums G_check_sums
  have G_Sheet_sums := ok_shsums (P := l.prog) (w := w) (mg := mg) (base := base) F_Sheet_sums T_Sheet z_list
  have G__law_text := ok_ltext (P := l.prog) (w := w) (mg := mg) (base := base) F__law_text z_str
  have G_is_base_row := ok_isbase (P := l.prog) (w := w) (mg := mg) (base := base) F_is_base_row z_len z_all m_AHEAD_OF_BASE m_FIGURES
  have G_sum_row := ok_sumrow (P := l.prog) (w := w) (mg := mg) (base := base) F_sum_row
  have G_words_of := ok_wordsof (P := l.prog) (w := w) (mg := mg) (base := base) F_words_of z_all S_is_word G_is_word S_sum_row G_sum_row
  have G_read := ok_read17 (P := l.prog) (w := w) (mg := mg) (base := base) F_read T_Sheet z_len z_range z_tuple z_int m_AHEAD_OF_BASE K_Sheet b_Sheet_init G_Sheet_init S_is_base_row G_is_base_row S_words_of G_words_of
  have G_written := ok_written (P := l.prog) (w := w) (mg := mg) (base := base) F_written T_Sheet m_AHEAD_OF_BASE M_Sheet_sums b_Sheet_sums G_Sheet_sums S_sum_row G_sum_row
  have G__law_like := ok_like (P := l.prog) (w := w) (mg := mg) (base := base) F__law_like S__law_like z_isinstance z_str z_int z_bool z_tuple z_list z_len z_range
  exact ok_law17 F_law T_Sheet z_isinstance z_str S__law_dice G__law_dice S__law_sheet G__law_sheet K_Sheet b_Sheet_init G_Sheet_init M_Sheet_sums b_Sheet_sums G_Sheet_sums S__law_text G__law_text S_read G_read S_written G_written S__law_like (G__law_like 4)
theorem walk {l : PySem.W.OpenLaw} {q : Program} {loose : List Str} {XP : (Str → Option Value) → Heap → Prop} {YP : World → Heap → Prop} {d : DefRec} {K : Params → PySem.W.Frag} (hn : l.most = some 63) (hdf : d.params.defaults = [])
    (hY : ∀ (w : World) (h : Heap), YP w h → (K w.params).In h)
    (F : ∀ (w : World) (mg : Str → Option Value) (fa : Addr) (h : Heap), (K w.params).In h → h.Ns mainGlobals mg → mg d.name = some (.ref fa) →
      ∃ fd : FuncData, (∀ (s : Shared) (u : Value), BindsTo s fd ⟨[u], []⟩ [("_law_script", u)]) ∧ ∀ base : Heap, (K w.params).In base → base.Ns mainGlobals mg → FnOk l.prog w (K w.params) mg base CX0 6 fa fd ["_law_script"] (spLaw (K w.params))) :
    PySem.W.WalkO q loose XP YP l.row.toRowW d [] (fun f vs => PySem.call f vs) :=
  L2.walk_of (n := 63) (k := 6) (x := "_law_script") (CX := fun _ => CX0) (sp := fun w => spLaw (K w.params)) hn (by decide) hdf ⟨rfl, by decide, by decide⟩ hY F (fun _ _ a ns hl _ hS => ⟨a, ns, rfl, hS, fun _ => rfl⟩) fun _ _ _ _ _ z => z
end WS
open PySem PySem.W PyProof.Rows
set_option maxRecDepth 100000 in
set_option maxHeartbeats 0 in
theorem PySem.Challenge.cw_wordsums_k17_written_and_read_holds : PySem.Challenge.rw_wordsums_k17_written_and_read.Holds := by
  w_on; o_law; k_head; (case hw => w_witness2)
  k_fill
  refine WS.walk (l := PySem.Challenge.rw_wordsums_k17_written_and_read) rfl rfl (fun w h Y => PySem.W.kIn_of Y) ?F
  case F =>
    intro w mg fa h KX G hmg
    refine' WS.all_mk KX G hmg ?a_Sheet ?a_check_counts ?l_check_counts ?c_check_counts ?k_check_counts ?a_check_sums ?l_check_sums ?c_check_sums ?k_check_sums ?a_is_word ?l_is_word ?c_is_word ?k_is_word ?a_written ?l_written ?c_written ?k_written ?a_sum_row ?l_sum_row ?c_sum_row ?k_sum_row ?a_read ?l_read ?c_read ?k_read ?a_is_base_row ?l_is_base_row ?c_is_base_row ?k_is_base_row ?a_words_of ?l_words_of ?c_words_of ?k_words_of ?a__law_dice ?l__law_dice ?c__law_dice ?k__law_dice ?a__law_next ?l__law_next ?c__law_next ?k__law_next ?a__law_like ?l__law_like ?c__law_like ?k__law_like ?a__law_word ?l__law_word ?c__law_word ?k__law_word ?a__law_names ?l__law_names ?c__law_names ?k__law_names ?a__law_sum ?l__law_sum ?c__law_sum ?k__law_sum ?a__law_sheet ?l__law_sheet ?c__law_sheet ?k__law_sheet ?a__law_text ?l__law_text ?c__law_text ?k__law_text ?a_law ?l_law ?c_law ?k_law ?a_Sheet_init ?i_Sheet_init ?l_Sheet_init ?c_Sheet_init ?k_Sheet_init ?a_Sheet_sums ?i_Sheet_sums ?l_Sheet_sums ?c_Sheet_sums ?k_Sheet_sums ?pg_Sheet ?hd_Sheet ?po_Sheet ?sa_Sheet ?mk_Sheet ?kc_Sheet ?n_Sheet_base ?n_Sheet_kept ?y_all ?y_bool ?y_enumerate ?y_int ?y_isinstance ?y_len ?y_list ?y_min ?y_range ?y_set ?y_str ?y_sum ?y_tuple ?x_LEAST_BASE ?x_MOST_BASE ?x_MOST_SUMS ?x_MOST_ADDENDS ?x_MOST_IN_WORD ?x_MOST_LETTERS ?x_SMALL_LETTERS ?x_AHEAD_OF_BASE ?x_FIGURES
    (case a_Sheet => k_is); (case a_check_counts => k_is); (case l_check_counts => k_is); (case c_check_counts => k_is); (case k_check_counts => k_is); (case a_check_sums => k_is); (case l_check_sums => k_is); (case c_check_sums => k_is)
    (case k_check_sums => k_is); (case a_is_word => k_is); (case l_is_word => k_is); (case c_is_word => k_is); (case k_is_word => k_is); (case a_written => k_is); (case l_written => k_is); (case c_written => k_is)
    (case k_written => k_is); (case a_sum_row => k_is); (case l_sum_row => k_is); (case c_sum_row => k_is); (case k_sum_row => k_is); (case a_read => k_is); (case l_read => k_is); (case c_read => k_is)
    (case k_read => k_is); (case a_is_base_row => k_is); (case l_is_base_row => k_is); (case c_is_base_row => k_is); (case k_is_base_row => k_is); (case a_words_of => k_is); (case l_words_of => k_is); (case c_words_of => k_is)
    (case k_words_of => k_is); (case a__law_dice => k_is); (case l__law_dice => k_is); (case c__law_dice => k_is); (case k__law_dice => k_is); (case a__law_next => k_is); (case l__law_next => k_is); (case c__law_next => k_is)
    (case k__law_next => k_is); (case a__law_like => k_is); (case l__law_like => k_is); (case c__law_like => k_is); (case k__law_like => k_is); (case a__law_word => k_is); (case l__law_word => k_is); (case c__law_word => k_is)
    (case k__law_word => k_is); (case a__law_names => k_is); (case l__law_names => k_is); (case c__law_names => k_is); (case k__law_names => k_is); (case a__law_sum => k_is); (case l__law_sum => k_is); (case c__law_sum => k_is)
    (case k__law_sum => k_is); (case a__law_sheet => k_is); (case l__law_sheet => k_is); (case c__law_sheet => k_is); (case k__law_sheet => k_is); (case a__law_text => k_is); (case l__law_text => k_is); (case c__law_text => k_is)
    (case k__law_text => k_is); (case a_law => k_is); (case l_law => k_is); (case c_law => k_is); (case k_law => k_is); (case a_Sheet_init => k_is); (case i_Sheet_init => k_is); (case l_Sheet_init => k_is)
    (case c_Sheet_init => k_is); (case k_Sheet_init => k_is); (case a_Sheet_sums => k_is); (case i_Sheet_sums => k_is); (case l_Sheet_sums => k_is); (case c_Sheet_sums => k_is); (case k_Sheet_sums => k_is); (case pg_Sheet => k_is)
    (case hd_Sheet => k_is); (case po_Sheet => k_is); (case sa_Sheet => k_is); (case mk_Sheet => k_is); (case kc_Sheet => k_is); (case n_Sheet_base => k_is); (case n_Sheet_kept => k_is); (case y_all => k_is)
    (case y_bool => k_is); (case y_enumerate => k_is); (case y_int => k_is); (case y_isinstance => k_is); (case y_len => k_is); (case y_list => k_is); (case y_min => k_is); (case y_range => k_is)
    (case y_set => k_is); (case y_str => k_is); (case y_sum => k_is); (case y_tuple => k_is); (case x_LEAST_BASE => k_is); (case x_MOST_BASE => k_is); (case x_MOST_SUMS => k_is); (case x_MOST_ADDENDS => k_is)
    (case x_MOST_IN_WORD => k_is); (case x_MOST_LETTERS => k_is); (case x_SMALL_LETTERS => k_is); (case x_AHEAD_OF_BASE => k_is); (case x_FIGURES => k_is)
