import PyProof.Rows.All
import Wide.All
import OpenK.AllK
import Wide.FinOn
import HandS.ForMost
import HandS.Defaults
import HandS.More
import HandS.TupAny
import HandS.TupMul
import HandS.Exc
import HandS.ExcInit
import HandS.ExcField
import HandS.ExcIs
import HandS.TryOnly
import HandS.WordsExc
import HandS.Lambda
import HandS.EndTab
import HandS.HeadWalk
import HandS.HeadHook4
import PySem.Challenge.RW_oldmap_k03_maps_validated
import KE.GoesMore
import KE.GoesEnum
import HandS.Nested
import KE.KExcIs
import HandS.Property
import HandS.OwnEq
import HandS.IsInst
import HandS.Walk
import HandS.ExcOwn
import PyProof.ExcBaseAll.ValueError
import PyProof.CollectIter
import PyProof.WalksMore
import PyProof.MakeMany
import HandS.Set
import PyProof.CollectStr
import PyProof.Rows.SortStr
import HandS.Zip
import HandS.ExcValue
import HandS.Head0
import HandS.Head1
import HandS.Head2
set_option Elab.async false
set_option linter.all false
set_option maxRecDepth 100000
set_option maxHeartbeats 0
namespace Om
open PySem PySem.Spec PyProof.Rows L2
def top (i : Nat) : Stmt := PySem.Challenge.pw_oldmap_k03_maps_validated.main.body.getD i (.Pass ⟨0, 0, 0, 0⟩)
/-- a def of the top -/
abbrev FnP (K : PySem.W.Frag) (x qual : Str) (st : Stmt) (f : Addr) (fd : FuncData) : Prop := FunD K x qual (defArgs st) (defBody st) (defScope st) [] [] f fd
/-- a def as its callers know it -/
structure Cal (P : Program) (w : World) (K : PySem.W.Frag) (mg : Str → Option Value) (base : Heap) (CX : CXT) (k : Nat) (x : Str) (ps : List Str) (sp : Sp) : Prop where
  ex : ∃ (f : Addr) (fd : FuncData), FnOk P w K mg base CX k f fd ps sp ∧ mg x = some (.ref f) ∧ PySem.W.keepIn K (.ref f) = true ∧ Binds K fd ps []
theorem pe_cal {X : Cx} {CX : CXT} {k : Nat} {x : Str} {ps : List Str} {sp : Sp} {E : XK} {e : Expr} {es : List Expr} {t : TA} {p pos : Pos} (C : Cal X.prog X.w X.K X.mg X.base CX k x ps sp) (hr : Room k X.A) (hx : Passes CX X E) (ha : PA X (e :: es) t) (hg : Gl X x := by rfl)
    (hdb : (x == ("__debug__" : Str)) = false := by decide) (he : starEach (e :: es) X.env = (false, eval e X.env) :: starEach es X.env := by rfl) (hpl : (backTo pos (starEach es X.env)).any (·.1) = false := by rfl) :
    PE X (.Call (.Name x p) (e :: es) [] pos) (tCall sp [] E t) := by
  obtain ⟨f, fd, F, hm, hk, hb⟩ := C.ex
  exact pe_call F hr hg hm hk hb .nil hx ha (hdb := hdb) (he := he) (hpl := hpl)
/-- all but two objects stay -/
def Kp (b l : Addr) (H H' : Hp) : Prop := ∀ c o, H c = some o → c ≠ b → c ≠ l → H' c = some o
theorem Kp.refl (b l : Addr) (H : Hp) : Kp b l H H := fun _ _ h _ _ => h
theorem Kp.trans {b l : Addr} {H H1 H2 : Hp} (a : Kp b l H H1) (c : Kp b l H1 H2) : Kp b l H H2 := fun x o h n1 n2 => c x o (a x o h n1 n2) n1 n2
theorem Kp.of {b l : Addr} {H H' : Hp} (a : Same H H') : Kp b l H H' := fun x o h _ _ => a x o h
theorem Kp.upd1 {b l : Addr} {H H' : Hp} {o : HO} (a : Kp b l H H') : Kp b l H (upd H' b o) := fun x u h n1 n2 => by rw [upd_ne n1]; exact a x u h n1 n2
theorem Kp.upd2 {b l : Addr} {H H' : Hp} {o : HO} (a : Kp b l H H') : Kp b l H (upd H' l o) := fun x u h n1 n2 => by rw [upd_ne n2]; exact a x u h n1 n2
theorem Same.new {H H' : Hp} {p : Addr} {o : HO} (a : Same H H') (h : H' p = none) : Same H (upd H' p o) := fun x u e => by
  rw [upd_ne (ne_of_none (a x u e) h)]
  exact a x u e
/-- the box of numbers that a law draws from -/
structure Box (H : Hp) (b l : Addr) : Prop where
  ex : ∃ (ns : List Int) (z : Int), H b = some (.lst [.ref l, .int z]) ∧ H l = some (.lst (ns.map V.int)) ∧ ns.length ≤ 63
theorem Box.ne {H : Hp} {b l : Addr} (B : Box H b l) : b ≠ l := by
  obtain ⟨ns, z, h1, h2, _⟩ := B.ex
  refine ne_of h1 h2 fun e => ?_
  have e2 : [V.ref l, V.int z] = ns.map V.int := HO.lst.inj e
  cases ns with
  | nil => cases e2
  | cons n r =>
    injection e2 with e3 _
    cases e3
theorem Box.same {H H' : Hp} {b l : Addr} (B : Box H b l) (s : Same H H') : Box H' b l := by
  obtain ⟨ns, z, h1, h2, h3⟩ := B.ex
  exact ⟨ns, z, s _ _ h1, s _ _ h2, h3⟩
def spBegun (K : PySem.W.Frag) : Sp := fun vs H Q _ => ∃ (a : Addr) (ns : List Int), vs = [.ref a] ∧ SqL K H a (ns.map V.int) ∧ ns.length ≤ 63 ∧
  ∀ (b l : Addr) (H' : Hp), H b = none → H l = none → Same H H' → Box H' b l → Q (.ref b) H'
def spTake : Sp := fun vs H Q _ => ∃ (b l : Addr) (m : Int), vs = [.ref b, .int m] ∧ Box H b l ∧ 0 < m ∧ m ≤ 1000000 ∧
  ∀ (n : Int) (H' : Hp), 0 ≤ n → n < m → Box H' b l → Kp b l H H' → Q (.int n) H'
section
variable {P : Program} {w : World} {K : PySem.W.Frag} {mg : Str → Option Value} {base : Heap}
theorem fun_binds {x qual : Str} {st : Stmt} {f : Addr} {fd : FuncData} {ps : List Str} (F : FnP K x qual st f fd)
    (h : ∀ (kV doc pm : Value) (an : Option Addr) (cdv ct : Value) (us : List Value), us.length = ps.length → bindArgs (PySem.W.fnOf x qual (defArgs st) (defBody st) (defScope st) .none kV doc pm an cdv ct) ⟨us, []⟩ = pure (ps.zip us)) : Binds K fd ps [] := FunD.bindsN F h
end
/-! ### begun -/
abbrev sBegun : Stmt := top 34
section
variable {P : Program} {w : World} {K : PySem.W.Frag} {mg : Str → Option Value} {base : Heap}
theorem scBegun : FnScope ["_law_script", "_law_stirred", "_law_cell"] ["_law_script"] (defScope sBegun) := ⟨rfl, rfl, rfl, by decide +kernel, rfl, by decide +kernel, by decide +kernel⟩
theorem ok_begun {f : Addr} {fd : FuncData} (F : FnP K "_law_begun" "_law_begun" sBegun f fd) (gint : mg "int" = none) (glist : mg "list" = none) (glen : mg "len" = none) :
    FnOk P w K mg base CX0 1 f fd ["_law_script"] (spBegun K) := by
  refine F.ok scBegun (fun vs H Q E h => ?_) (fun cdv A outer s H vs Q E hr h => ?_)
  · obtain ⟨a, ns, rfl, _⟩ := h
    rfl
  · obtain ⟨a, ns, rfl, hS, hlen, k⟩ := h
    have nd := scBegun.nd
    refine ⟨_, PSs.nox (pss_cons (ps_set (i := 1) nd rfl (.inl rfl) pe_int)
      (pss_cons (ps_for PassesOwn.never rfl (pi_list (pv 0)) (pg_name (i := 2) nd rfl (.inl rfl))
        (pss_one (ps_set (i := 1) nd rfl (.inl rfl) (pe_op op_modN (pe_callTy call_int1 (by rfl) gint boot_int (pa_cons (pe_op op_add (pe_op op_add (pe_op op_mul (pv 1) pe_int) (pe_op op_mul (pv 2) pe_int)) pe_int) pa_nil)) pe_int))))
      (pss_one (ps_ret (pe_lst (pa_cons (pe_callTy call_list_of (by rfl) glist (by decide +kernel) (pa_cons (pv 0) pa_nil))
        (pa_cons (pe_op op_mul (pv 1) (pe_callTy call_int1 (by rfl) gint boot_int (pa_cons (pe_cmpR op_gt (pe_callB call_len_seq (by rfl) glen PySem.boot_len (pa_cons (pv 0) pa_nil)) pe_int (nomark _)) pa_nil))) pa_nil))))))), ?_⟩
    refine ⟨_, rfl, a, rfl, ⟨_, hS⟩, for_list (K := K) (a := a) (xs := ns.map V.int) (fun i σ H2 => ∃ (z : Int) (v : Option V), σ = [some (.ref a), some (.int z), v] ∧ H2 = H)
      ⟨0, none, rfl, rfl⟩ (fun i σ H2 _ ⟨_, _, _, e⟩ => by rw [e]; exact hS) ?_ ?_⟩
    · rintro i y σ H2 hi ⟨z, v, rfl, rfl⟩
      obtain ⟨n, rfl⟩ : ∃ n, y = V.int n := by
        rw [List.getElem?_map] at hi
        cases e : ns[i]? with
        | none => rw [e] at hi; cases hi
        | some n => rw [e] at hi; exact ⟨n, (Option.some.inj hi).symm⟩
      refine ⟨_, rfl, _, _, rfl, rfl, .inr ⟨by decide, by decide⟩, _, rfl, _, _, rfl, rfl, .inr ⟨by decide, by decide⟩, _, _, rfl, rfl, _, _, rfl, rfl, .inl ⟨_, rfl, ?_⟩⟩
      exact ⟨_, _, rfl, rfl, (by show (2147483647 : Int) ≠ 0; decide), _, _, rfl, rfl⟩
    · rintro σ H2 ⟨z, v, rfl, rfl⟩
      refine ⟨_, rfl, a, _, rfl, .inl hS, fun l hl => ?_⟩
      have hS2 : SqL K (upd H2 l (.lst (ns.map V.int))) a (ns.map V.int) := Same.seq (Same.new (Same.refl H2) hl) hS
      refine ⟨_, rfl, _, rfl, a, _, rfl, .inl hS2, _, _, rfl, rfl, .inr ⟨_, rfl, ?_⟩⟩
      refine ⟨_, _, rfl, rfl, ?_, ?_⟩
      · refine .inr ?_
        split <;> exact ⟨by decide, by decide⟩
      · refine ⟨by show 2 ≤ sizeLine; decide, fun p hp => ?_⟩
        have npl : p ≠ l := fun e => by rw [e, upd_same] at hp; cases hp
        have hp0 : H2 p = none := by rw [upd_ne npl] at hp; exact hp
        refine k p l _ hp0 hl (Same.new (Same.new (Same.refl _) hl) hp) ⟨ns, _, upd_same, ?_, hlen⟩
        rw [upd_ne npl.symm, upd_same]
end
end Om

namespace Om
open PySem PySem.Spec PyProof.Rows L2
/-! ### data -/
theorem lay_ints : ∀ ns : List Int, PyData.canLayAll0 (ns.map PyData.int) = true
  | [] => by simp [PyData.canLayAll0]
  | n :: r => by simp [PyData.canLayAll0, PyData.canLay0, lay_ints r]
theorem dep_ints : ∀ ns : List Int, PyData.depthAll (ns.map PyData.int) = 0
  | [] => by simp [PyData.depthAll]
  | n :: r => by simp [PyData.depthAll, PyData.depth, dep_ints r]
theorem shaped_of {d : PyData} (h1 : d.canLay0 = true) (h2 : d.depth ≤ 64) : SeqAt.shaped d = true := by
  show (d.canLay0 && decide (d.depth ≤ 64)) = true
  rw [h1, decide_eq_true h2]
  rfl
theorem shaped_ints (ns : List Int) : SeqAt.shaped (.list (ns.map PyData.int)) = true :=
  shaped_of (by simp only [PyData.canLay0]; exact lay_ints ns) (by simp only [PyData.depth, dep_ints]; omega)
theorem shaped_nil : SeqAt.shaped (.list []) = true := shaped_of (by simp [PyData.canLay0, PyData.canLayAll0]) (by simp [PyData.depth, PyData.depthAll])
theorem dpAll_ints {K : PySem.W.Frag} {H : Hp} : ∀ ns : List Int, DpAll K H (ns.map V.int) (ns.map PyData.int)
  | [] => .nil
  | n :: r => .cons (.int n) (dpAll_ints r)
theorem eqv_ints_nil (ns : List Int) : PyData.eqv (.list (ns.map PyData.int)) (.list []) = ns.isEmpty := by
  cases ns <;> simp [PyData.eqv, PyData.eqvAll]
theorem fmod_pos {a m : Int} (h : 0 < m) : 0 ≤ a.fmod m ∧ a.fmod m < m := by
  rw [Int.fmod_eq_emod_of_nonneg _ (Int.le_of_lt h)]
  exact ⟨Int.emod_nonneg _ (by omega), Int.emod_lt_of_pos _ h⟩
theorem at0 {x : V} {r : List V} : atI (x :: r) 0 = some x := by
  unfold atI ixN
  rw [if_pos (by omega), if_pos (by simp)]
  rfl
theorem ix0 {x : V} {r : List V} : ixN (x :: r).length 0 = some 0 := by
  unfold ixN
  rw [if_pos (by omega), if_pos (by simp)]
  rfl
/-! ### take -/
abbrev sTake : Stmt := top 35
section
variable {P : Program} {w : World} {K : PySem.W.Frag} {mg : Str → Option Value} {base : Heap}
theorem scTake : FnScope ["_law_box", "_law_many", "_law_figure"] ["_law_box", "_law_many"] (defScope sTake) := ⟨rfl, rfl, rfl, by decide +kernel, rfl, by decide +kernel, by decide +kernel⟩
theorem ok_take {f : Addr} {fd : FuncData} (F : FnP K "_law_take" "_law_take" sTake f fd) (gint : mg "int" = none) :
    FnOk P w K mg base CX0 1 f fd ["_law_box", "_law_many"] spTake := by
  refine F.ok scTake (fun vs H Q E h => ?_) (fun cdv A outer s H vs Q E hr h => ?_)
  · obtain ⟨b, l, m, rfl, _⟩ := h
    rfl
  · obtain ⟨b, l, m, rfl, B, hm0, hm1, k⟩ := h
    have nd := scTake.nd
    have nbl := B.ne
    obtain ⟨ns, z, hb, hl, hlen⟩ := B.ex
    refine ⟨_, PSs.nox (pss_cons (ps_if (pt_cmpR (op_eqD hr.units) (pe_ix ix_list (pv 0) pe_int (fun _ _ => rfl)) (pe_lst pa_nil) (nomark _))
          (pss_cons (ps_asg (pe_op op_modN (pe_callTy call_int1 (by rfl) gint boot_int (pa_cons (pe_op op_mul (pe_ix ix_list (pv 0) pe_int (fun _ _ => rfl)) pe_int) pa_nil)) pe_int) (pg_sub (pv 0) pe_int set_list))
          (pss_one (ps_ret (pe_op op_modN (pe_callTy call_int1 (by rfl) gint boot_int (pa_cons (pe_op op_fdivN (pe_ix ix_list (pv 0) pe_int (fun _ _ => rfl)) pe_int) pa_nil)) (pv 1))))) pss_nil)
      (pss_cons (ps_set (i := 2) nd rfl (.inl rfl) (pe_ix ix_list (pe_ix ix_list (pv 0) pe_int (fun _ _ => rfl)) pe_int (fun _ _ => rfl)))
      (pss_cons (ps_asg (pe_op op_fdivN (pv 2) (pv 1)) (pg_sub (pe_ix ix_list (pv 0) pe_int (fun _ _ => rfl)) pe_int set_list))
      (pss_cons (ps_if (PW.pt (pw_or (pt_cmpR op_eq (pe_ix ix_list (pe_ix ix_list (pv 0) pe_int (fun _ _ => rfl)) pe_int (fun _ _ => rfl)) pe_int (nomark _))
            (pw_or1 (pt_cmpR op_eq (pe_ix ix_list (pe_ix ix_list (pv 0) pe_int (fun _ _ => rfl)) pe_int (fun _ _ => rfl)) (pe_un un_neg pe_int) (nomark _)))))
          (pss_one (ps_expr (pe_bm PySem.F.plainAttrs_list PySem.F.slot_list_pop PySem.F.type_list_pop mt_popAt (pe_ix ix_list (pv 0) pe_int (fun _ _ => rfl)) (pa_cons pe_int pa_nil)))) pss_nil)
      (pss_one (ps_ret (pe_op op_modN (pv 2) (pv 1)))))))), ?_⟩
    refine ⟨_, rfl, b, _, 0, _, rfl, rfl, .inl (.inl hb), rfl, by show 0 ≤ sizeLine; decide, fun e he => ?_⟩
    have ebe : b ≠ e := ne_of_none hb he
    have ele : l ≠ e := ne_of_none hl he
    have hb1 : (upd H e (.lst [])) b = some (.lst [.ref l, .int z]) := by rw [upd_ne ebe]; exact hb
    have hl1 : (upd H e (.lst [])) l = some (.lst (ns.map V.int)) := by rw [upd_ne ele]; exact hl
    have K1 : Kp b l H (upd H e (.lst [])) := Kp.of (Same.new (Same.refl H) he)
    refine ⟨_, _, .lst (.inl (.inl hl1)) (dpAll_ints ns), .lst (.inl (.inl upd_same)) .nil, shaped_ints ns, shaped_nil, _, rfl, ?_⟩
    rw [eqv_ints_nil]
    cases ns with
    | nil =>
      refine iteT ?_
      refine ⟨_, rfl, b, _, 1, _, rfl, rfl, .inl (.inl hb1), rfl, _, _, rfl, rfl, .inr ⟨by decide, by decide⟩, .inl ⟨_, rfl, ?_⟩⟩
      refine ⟨_, _, rfl, rfl, (by show (2147483647 : Int) ≠ 0; decide), _, rfl, b, _, 1, 1, rfl, rfl, hb1, rfl, ?_⟩
      refine ⟨_, rfl, b, _, 1, _, rfl, rfl, .inl (.inl upd_same), rfl, _, _, rfl, rfl, ⟨by decide, by decide⟩, .inl ⟨_, rfl, _, rfl, _, _, rfl, rfl, (by show m ≠ 0; omega), ?_⟩⟩
      refine k _ _ (fmod_pos hm0).1 (fmod_pos hm0).2 ⟨[], _, upd_same, ?_, hlen⟩ (K1.upd1)
      rw [upd_ne nbl.symm]
      exact hl1
    | cons n r =>
      refine iteF ?_
      refine ⟨_, rfl, b, _, 0, _, rfl, rfl, .inl (.inl hb1), rfl, l, _, 0, _, rfl, rfl, .inl (.inl hl1), at0, ?_⟩
      refine ⟨_, rfl, _, rfl, _, _, rfl, rfl, ⟨(by show m ≠ 0; omega), (by show m.natAbs < 1073741824; omega)⟩, _, rfl, b, _, 0, _, rfl, rfl, .inl (.inl hb1), rfl, l, _, 0, 0, rfl, rfl, hl1, ix0, ?_⟩
      have hb2 : (upd (upd H e (.lst [])) l (.lst (((n :: r).map V.int).set 0 (.int (n.fdiv m))))) b = some (.lst [.ref l, .int z]) := by rw [upd_ne nbl]; exact hb1
      have hl2 : (upd (upd H e (.lst [])) l (.lst (((n :: r).map V.int).set 0 (.int (n.fdiv m))))) l = some (.lst (((n.fdiv m) :: r).map V.int)) := upd_same
      refine ⟨_, rfl, b, _, 0, _, rfl, rfl, .inl (.inl hb2), rfl, l, _, 0, _, rfl, rfl, .inl (.inl hl2), at0, rfl, _, rfl, ?_⟩
      have fin : ∀ H3, Box H3 b l → Kp b l H H3 → Q (.int (n.fmod m)) H3 := fun H3 B3 k3 => k _ H3 (fmod_pos hm0).1 (fmod_pos hm0).2 B3 k3
      have pop : (tDrop (tBM K "list" rPopAt (tOp (rIxL K) (tVar 0) (tC (.int 0))) (tCons (tC (.int 0)) tNil))) { nx := fun σ H => (tRet (tOp (rI (fun _ j => j ≠ 0) fun i j => .int (i.fmod j)) (tVar 2) (tVar 1))) { nx := fun _ H' => Q .non H', rt := Q } σ H, rt := Q } [some (.ref b), some (.int m), some (.int n)] (upd (upd H e (.lst [])) l (.lst (((n :: r).map V.int).set 0 (.int (n.fdiv m))))) := by
        refine ⟨_, rfl, b, _, 0, _, rfl, rfl, .inl (.inl hb2), rfl, .inl ⟨rfl, _, .inl (.inl hl2)⟩, l, _, 0, 0, _, rfl, rfl, hl2, by decide, by decide, ?_, rfl, ?_⟩
        · simp [seqIndex?]
        · refine ⟨_, rfl, _, rfl, _, _, rfl, rfl, (by show m ≠ 0; omega), fin _ ⟨r, z, ?_, upd_same, ?_⟩ ?_⟩
          · rw [upd_ne nbl]; exact hb2
          · have := hlen; simp at this; omega
          · exact Kp.upd2 (Kp.upd2 K1)
      refine ite2 (fun hz => ?_) (fun hz => ?_)
      · exact iteT pop
      · refine ⟨_, rfl, b, _, 0, _, rfl, rfl, .inl (.inl hb2), rfl, l, _, 0, _, rfl, rfl, .inl (.inl hl2), at0, _, rfl, rfl, _, rfl, ?_⟩
        refine ite2 (fun hz => ?_) (fun hz => ?_)
        · exact pop
        · refine ⟨_, rfl, _, rfl, _, _, rfl, rfl, (by show m ≠ 0; omega), fin _ ⟨(n.fdiv m) :: r, z, hb2, hl2, ?_⟩ (Kp.upd2 K1)⟩
          have := hlen; simp at this ⊢; omega
end
end Om

namespace Om
open PySem PySem.Spec PyProof.Rows L2
/-! ### texts as lists of codes -/
def tx (cs : List Nat) : Str := ⟨cs.toArray⟩
theorem tx_cps (cs : List Nat) : (tx cs).cps.toList = cs := by simp [tx]
theorem tx_len (cs : List Nat) : (tx cs).length = cs.length := by simp [tx, Str.length]
theorem tx_app (a b : List Nat) : tx a ++ tx b = tx (a ++ b) := by
  show Str.append (tx a) (tx b) = tx (a ++ b)
  simp [tx, Str.append]
theorem tx_inj {a b : List Nat} (h : tx a = tx b) : a = b := by
  have e : (tx a).cps.toList = (tx b).cps.toList := by rw [h]
  rw [tx_cps, tx_cps] at e
  exact e
theorem of_tx (s : Str) : tx s.cps.toList = s := by
  obtain ⟨c⟩ := s
  simp [tx]
theorem join_tx : ∀ cs : List Nat, Str.join ⟨#[]⟩ (cs.map fun c => tx [c]) = tx cs
  | [] => rfl
  | [c] => rfl
  | c :: d :: r => by
    have ih := join_tx (d :: r)
    show tx [c] ++ (⟨#[]⟩ : Str) ++ Str.join ⟨#[]⟩ ((d :: r).map fun c => tx [c]) = tx (c :: d :: r)
    rw [ih]
    have e0 : (⟨#[]⟩ : Str) = tx [] := rfl
    rw [e0, tx_app, tx_app]
    rfl
theorem empty_tx : Str.ofString "" = (⟨#[]⟩ : Str) := by decide +kernel
def okSign (c : Nat) : Prop := c = 46 ∨ c = 126 ∨ (65 ≤ c ∧ c ≤ 90)
/-- what a law draws as rows -/
structure RowsOk (m : Nat) (rows : List (List Nat)) : Prop where
  h1 : 1 ≤ rows.length
  hm : rows.length ≤ m
  w : ∃ wd, 1 ≤ wd ∧ wd ≤ m ∧ ∀ r ∈ rows, r.length = wd ∧ ∀ c ∈ r, okSign c
def vt (r : List Nat) : V := .str (tx r)
def spRows : Sp := fun vs H Q _ => ∃ (b l : Addr) (m : Nat), vs = [.ref b, .int m] ∧ Box H b l ∧ 1 ≤ m ∧ m ≤ 12 ∧
  ∀ (p : Addr) (rows : List (List Nat)) (H' : Hp), RowsOk m rows → H p = none → H' p = some (.tup (rows.map vt)) → Box H' b l → Kp b l H H' → Q (.ref p) H'
def rJoin (K : PySem.W.Frag) : V → List V → Hp → VK → Prop := fun x xs H Q => ∃ a p, ∃ ys : List Str, x = .str a ∧ xs = [.ref p] ∧ (SqL K H p (ys.map V.str) ∨ SqT K H p (ys.map V.str)) ∧
      (ys.map (·.length)).sum + ys.length * a.length ≤ 16777216 ∧ Q (.str (Txt.join a ys)) H
theorem pe_joinK {X : Cx} {o e : Expr} {to te : TE} {apos pos : Pos} (ho : PE X o to) (he : PE X e te) (hs : starEach [e] X.env = [(false, eval e X.env)] := by rfl) (hbase : attributeBase o "join" X.env (eval o X.env) = eval o X.env := by rfl) (hline : (apos.endLine == pos.line) = true := by rfl) :
    PE X (.Call (.Attribute o "join" apos) [e] [] pos) (tM1 (rJoin X.K) to te) := pe_join ho he hs hbase hline
abbrev sRows : Stmt := top 37
/-- the scope of the i-th comprehension of a return's call -/
def retExpr (s : Stmt) : Expr := match s with
  | .Return (some e) _ => e
  | _ => .Constant .none 0 ⟨0, 0, 0, 0⟩
def arg0 (e : Expr) : Expr := match e with
  | .Call _ (a :: _) _ _ => a
  | _ => .Constant .none 0 ⟨0, 0, 0, 0⟩
def lcScope (e : Expr) : Scope := match e with
  | .ListComp _ _ sc _ => sc
  | _ => { kind := .function, names := [], isGenerator := false, isCoroutine := false }
def lcElt (e : Expr) : Expr := match e with
  | .ListComp e _ _ _ => e
  | _ => .Constant .none 0 ⟨0, 0, 0, 0⟩
def rowsLc : Expr := arg0 (retExpr ((defBody sRows).getD 2 (.Pass ⟨0, 0, 0, 0⟩)))
abbrev nRows : List Str := ["_law_box", "_law_most", "_law_height", "_law_width", "_law_signs_here", "_law_column", "_law_row"]
theorem scRows : FnScope nRows ["_law_box", "_law_most"] (defScope sRows) := ⟨rfl, rfl, rfl, by decide +kernel, rfl, by decide +kernel, by decide +kernel⟩
theorem blk1 : BlkOk nRows (defScope sRows) (lcScope rowsLc) [("_law_row", 6)] := blkOk_by (by decide +kernel)
/-- the scope of a comprehension within a def, as its own comprehensions see it -/
def relab (sc : Scope) (out : Scope) : Scope := { sc with names := sc.names.map fun (n, k) => if (k == NameKind.free && out.kind == .function && out.names.lookup n == some .cell) then (n, NameKind.cell) else (n, k) }
theorem blk2 : BlkOk nRows (relab (lcScope rowsLc) (defScope sRows)) (lcScope (arg0 (lcElt rowsLc))) [("_law_column", 5)] := blkOk_by (by decide +kernel)
def sg (i : Nat) : List Nat := [[46, 46, 46, 46, 126, 126, 65, 66, 75], [46, 46, 46, 46, 46, 46, 46, 46, 46, 46, 46, 126, 65, 66], [46, 46, 126, 126, 126, 126, 65], [65, 66, 75, 84, 90, 46, 46, 46, 46, 126]].getD i []
theorem sg_ok {i : Nat} (hi : i < 4) : ∀ c ∈ sg i, okSign c := by
  have : ∀ i : Fin 4, ∀ c ∈ sg i, c = 46 ∨ c = 126 ∨ (65 ≤ c ∧ c ≤ 90) := by decide
  exact this ⟨i, hi⟩
theorem sg_len {i : Nat} (hi : i < 4) : 1 ≤ (sg i).length ∧ (sg i).length ≤ 14 := by
  have : ∀ i : Fin 4, 1 ≤ (sg i).length ∧ (sg i).length ≤ 14 := by decide
  exact this ⟨i, hi⟩
def four : List V := [.str (Str.ofString "....~~ABK"), .str (Str.ofString "...........~AB"), .str (Str.ofString "..~~~~A"), .str (Str.ofString "ABKTZ....~")]
theorem four_at {n : Int} (h0 : 0 ≤ n) (h4 : n < 4) : atI four n = some (vt (sg n.toNat)) := by
  have e : n = 0 ∨ n = 1 ∨ n = 2 ∨ n = 3 := by omega
  have s0 : Str.ofString "....~~ABK" = tx (sg 0) := by decide +kernel
  have s1 : Str.ofString "...........~AB" = tx (sg 1) := by decide +kernel
  have s2 : Str.ofString "..~~~~A" = tx (sg 2) := by decide +kernel
  have s3 : Str.ofString "ABKTZ....~" = tx (sg 3) := by decide +kernel
  rcases e with rfl | rfl | rfl | rfl
  · show some (V.str _) = some (V.str _)
    rw [s0]; rfl
  · show some (V.str _) = some (V.str _)
    rw [s1]; rfl
  · show some (V.str _) = some (V.str _)
    rw [s2]; rfl
  · show some (V.str _) = some (V.str _)
    rw [s3]; rfl
theorem atI_of {α : Type} {xs : List α} {n : Int} (h0 : 0 ≤ n) (h1 : n < xs.length) : ∃ v, atI xs n = some v ∧ v ∈ xs := by
  have hj : n.toNat < xs.length := by omega
  refine ⟨xs[n.toNat], ?_, List.getElem_mem hj⟩
  have e : ((n.toNat : Nat) : Int) = n := by omega
  have z := atI_nat (xs := xs) (j := n.toNat) (v := xs[n.toNat]) (by simp [hj])
  rw [e] at z
  exact z
theorem tyes {σ : L2.St} {H : Hp} {f g : Hp → Prop} (h : f H) : tYes σ H fun b H3 => if b = true then f H3 else g H3 := by
  show (if true = true then f H else g H)
  rw [if_pos rfl]
  exact h
section
variable {P : Program} {w : World} {K : PySem.W.Frag} {mg : Str → Option Value} {base : Heap}
theorem ok_rows {f : Addr} {fd : FuncData} (F : FnP K "_law_rows" "_law_rows" sRows f fd) (T : Cal P w K mg base CX0 1 "_law_take" ["_law_box", "_law_many"] spTake)
    (grange : mg "range" = none) (gtuple : mg "tuple" = none) (glen : mg "len" = none) :
    FnOk P w K mg base CX0 2 f fd ["_law_box", "_law_most"] spRows := by
  refine F.ok scRows (fun vs H Q E h => ?_) (fun cdv A outer s H vs Q E hr h => ?_)
  · obtain ⟨b, l, m, rfl, _⟩ := h
    rfl
  · obtain ⟨b, l, m, rfl, B, hm0, hm1, k⟩ := h
    have nd := scRows.nd
    have nbl := B.ne
    refine ⟨_, PSs.nox (pss_cons (ps_asg (pe_tup (pa_cons (pe_op op_add pe_int (pe_cal T hr pass0 (pa_cons (pv 0) (pa_cons (pv 1) pa_nil)))) (pa_cons (pe_op op_add pe_int (pe_cal T hr pass0 (pa_cons (pv 0) (pa_cons (pv 1) pa_nil)))) pa_nil)))
          (pg_tup rfl (pgs_cons (pg_name (i := 2) nd rfl (.inl rfl)) (pgs_cons (pg_name (i := 3) nd rfl (.inr rfl)) pgs_nil))))
      (pss_cons (ps_set (i := 4) nd rfl (.inr rfl) (pe_ix ix_list (pe_lst (pa_cons pe_str (pa_cons pe_str (pa_cons pe_str (pa_cons pe_str pa_nil))))) (pe_cal T hr pass0 (pa_cons (pv 0) (pa_cons pe_int pa_nil))) (fun _ _ => rfl)))
      (pss_one (ps_ret (pe_callTy call_tuple_of (by rfl) gtuple (by decide +kernel) (pa_cons
        (pe_lc (own := [("_law_row", 6)]) (g := gName 6) (te := tM1 (rJoin K) _ _) rfl nd (pi_range1 rfl grange (pa_cons (pv 2) pa_nil)) blk1 (fun _ _ _ _ _ => pg_name (i := 6) nd rfl (.inl rfl)) (fun _ _ _ _ _ => pts_nil) (fun _ _ _ _ _ =>
          pe_joinK pe_str (pe_lc (own := [("_law_column", 5)]) (g := gName 5) rfl nd (pi_range1 rfl grange (pa_cons (pv 3) pa_nil)) blk2 (fun _ _ _ _ _ => pg_name (i := 5) nd rfl (.inl rfl)) (fun _ _ _ _ _ => pts_nil) (fun _ _ _ _ _ =>
            pe_ix ix_str (pv 4) (pe_cal T hr pass0 (pa_cons (pv 0) (pa_cons (pe_callB call_len_str (by rfl) glen PySem.boot_len (pa_cons (pv 4) pa_nil)) pa_nil))) (fun _ _ => rfl))))) pa_nil)))))), ?_⟩
    refine ⟨_, rfl, _, rfl, b, l, _, rfl, B, by omega, by omega, fun n1 H1 a1 a2 B1 K1 => ⟨_, _, rfl, rfl, ?_⟩⟩
    refine ⟨_, rfl, _, rfl, b, l, _, rfl, B1, by omega, by omega, fun n2 H2 b1 b2 B2 K2 => ⟨_, _, rfl, rfl, (by show 2 ≤ sizeLine; decide), fun p hp => ?_⟩⟩
    refine ⟨p, _, rfl, .inl (.inl upd_same), rfl, _, _, rfl, _, _, rfl, rfl, ?_⟩
    refine ⟨by show 4 ≤ sizeLine; decide, fun q hq => ?_⟩
    have B3 : Box (upd (upd H2 p (.tup [.int (1 + n1), .int (1 + n2)])) q (.lst four)) b l := B2.same (Same.new (Same.new (Same.refl H2) hp) hq)
    refine ⟨_, rfl, b, l, 4, rfl, B3, by decide, by decide, fun n3 H4 c1 c2 B4 K4 => ?_⟩
    obtain ⟨ns3, z3, hb3, hl3, _⟩ := B3.ex
    have K34 : Kp b l H H4 := ((K1.trans K2).trans (Kp.of (Same.new (Same.new (Same.refl H2) hp) hq))).trans K4
    have npb : q ≠ b := fun e => by
      have B2' := B2.same (Same.new (Same.refl H2) hp (o := .tup [.int (1 + n1), .int (1 + n2)]))
      obtain ⟨_, _, x1, _⟩ := B2'.ex
      rw [← e, hq] at x1; cases x1
    have npl : q ≠ l := fun e => by
      have B2' := B2.same (Same.new (Same.refl H2) hp (o := .tup [.int (1 + n1), .int (1 + n2)]))
      obtain ⟨_, _, _, x1, _⟩ := B2'.ex
      rw [← e, hq] at x1; cases x1
    have hq4 : H4 q = some (.lst four) := K4 q _ upd_same npb npl
    have i4 : n3.toNat < 4 := by omega
    refine ⟨q, _, n3, _, rfl, rfl, .inl (.inl hq4), four_at c1 c2, ?_⟩
    -- the rows
    have hwd : (1 + n2).toNat ≤ m := by omega
    refine ⟨_, rfl, _, rfl, by omega, by omega, fun D hD => lc_range (lo := 0) (n := (1 + n1).toNat) (fun j H' => ∃ rows : List (List Nat), rows.length = j ∧ (∀ r ∈ rows, r.length = (1 + n2).toNat ∧ ∀ c ∈ r, okSign c) ∧ H' D = some (.lst (rows.map vt)) ∧ Box H' b l ∧ Kp b l H4 H')
      ⟨[], rfl, by simp, upd_same, B4.same (Same.new (Same.refl _) hD), Kp.of (Same.new (Same.refl _) hD)⟩ ?_ ?_⟩
    · rintro j H' hj ⟨rows, e1, e2, e3, B5, K5⟩
      have nDb : D ≠ b := fun e => by
        obtain ⟨_, _, x1, _⟩ := B4.ex
        rw [← e, hD] at x1; cases x1
      have nDl : D ≠ l := fun e => by
        obtain ⟨_, _, _, x1, _⟩ := B4.ex
        rw [← e, hD] at x1; cases x1
      refine ⟨rfl, tyes ?_⟩
      refine ⟨⟨_, rfl⟩, _, rfl, _, rfl, by omega, by omega, fun D2 hD2 => lc_range (lo := 0) (n := (1 + n2).toNat) (fun i H6 => ∃ cs : List Nat, cs.length = i ∧ (∀ c ∈ cs, okSign c) ∧ H6 D2 = some (.lst (cs.map fun c => vt [c])) ∧ Box H6 b l ∧ Kp b l H' H6)
        ⟨[], rfl, by simp, upd_same, B5.same (Same.new (Same.refl _) hD2), Kp.of (Same.new (Same.refl _) hD2)⟩ ?_ ?_⟩
      · rintro i H6 hi ⟨cs, f1, f2, f3, B6, K6⟩
        have nb2 : D2 ≠ b := fun e => by
          obtain ⟨_, _, x1, _⟩ := B5.ex
          rw [← e, hD2] at x1; cases x1
        have nl2 : D2 ≠ l := fun e => by
          obtain ⟨_, _, _, x1, _⟩ := B5.ex
          rw [← e, hD2] at x1; cases x1
        have sl := sg_len i4
        refine ⟨rfl, tyes ?_⟩
        refine ⟨_, rfl, _, rfl, _, rfl, _, rfl, (by show (tx _).length ≤ sizeLine; rw [tx_len]; exact Nat.le_trans sl.2 (by decide)), b, l, _, rfl, B6, ?_, ?_, fun n H7 g1 g2 B7 K7 => ?_⟩
        · rw [tx_len]; omega
        · rw [tx_len]; omega
        · rw [tx_len] at g2
          obtain ⟨c, hc, hm⟩ := atI_of (xs := sg n3.toNat) g1 g2
          refine ⟨_, _, c, rfl, rfl, (by rw [tx_len]; exact Nat.le_trans sl.2 (by decide)), (by rw [tx_cps]; exact hc), ?_⟩
          have f4 := K7 D2 _ f3 nb2 nl2
          refine ⟨_, f4, ?_, cs ++ [c], by simp [f1], ?_, ?_, ?_, ?_⟩
          · rw [List.length_map, f1]
            exact Nat.lt_of_lt_of_le hi (Nat.le_trans hwd (Nat.le_trans hm1 (by decide)))
          · intro c' hc'
            rcases List.mem_append.mp hc' with h | h
            · exact f2 c' h
            · rw [List.mem_singleton.mp h]; exact sg_ok i4 c hm
          · rw [upd_same, List.map_append]; rfl
          · obtain ⟨u1, u2, u3, u4, u5⟩ := B7.ex
            exact ⟨u1, u2, by rw [upd_ne nb2.symm]; exact u3, by rw [upd_ne nl2.symm]; exact u4, u5⟩
          · intro x o hx n1' n2'
            have hne : x ≠ D2 := ne_of_none hx hD2
            rw [upd_ne hne]
            exact K7 x o (K6 x o hx n1' n2') n1' n2'
      · rintro H6 ⟨cs, f1, f2, f3, B6, K6⟩
        refine ⟨_, D2, cs.map fun c => tx [c], rfl, rfl, .inl (.inl (.inl (by rw [f3, List.map_map]; rfl))), ?_, ?_⟩
        · rw [empty_tx]
          have e5 : ∀ l : List Nat, ((l.map fun c => tx [c]).map (·.length)).sum = l.length := by
            intro l
            induction l with
            | nil => rfl
            | cons a r ih => simp only [List.map_cons, List.sum_cons, ih, tx_len, List.length_cons, List.length_nil]; omega
          rw [e5]
          show cs.length + _ * 0 ≤ _
          omega
        · rw [empty_tx, TL.join_eq, join_tx]
          have f4 := K6 D _ e3 nDb nDl
          refine ⟨_, f4, ?_, rows ++ [cs], by simp [e1], ?_, ?_, ?_, ?_⟩
          · rw [List.length_map, e1]
            exact Nat.lt_of_lt_of_le hj (Nat.le_trans (show (1 + n1).toNat ≤ 12 by omega) (by decide))
          · intro r hr'
            rcases List.mem_append.mp hr' with h | h
            · exact e2 r h
            · rw [List.mem_singleton.mp h]; exact ⟨f1, f2⟩
          · rw [upd_same, List.map_append]; rfl
          · obtain ⟨u1, u2, u3, u4, u5⟩ := B6.ex
            exact ⟨u1, u2, by rw [upd_ne nDb.symm]; exact u3, by rw [upd_ne nDl.symm]; exact u4, u5⟩
          · intro x o hx n1' n2'
            have hne : x ≠ D := ne_of_none hx hD
            rw [upd_ne hne]
            exact K6 x o (K5 x o hx n1' n2') n1' n2'
    · rintro H' ⟨rows, e1, e2, e3, B5, K5⟩
      refine ⟨D, _, rfl, .inl ⟨.inl (.inl e3), fun t ht => ?_⟩⟩
      have kall := K34.trans K5
      refine k t rows _ ⟨by omega, by omega, (1 + n2).toNat, by omega, by omega, e2⟩ ?_ upd_same (B5.same (Same.new (Same.refl _) ht)) (kall.trans (Kp.of (Same.new (Same.refl _) ht)))
      cases hh : H t with
      | none => rfl
      | some o =>
        by_cases h1 : t = b
        · obtain ⟨_, _, x1, _⟩ := B5.ex
          rw [← h1, ht] at x1; cases x1
        · by_cases h2 : t = l
          · obtain ⟨_, _, _, x1, _⟩ := B5.ex
            rw [← h2, ht] at x1; cases x1
          · have := kall t o hh h1 h2
            rw [ht] at this; cases this
end
end Om

/-! enumerate(tuple) and enumerate(text) -/
namespace PySem
open Sem (wp)
open Builtin
set_option maxHeartbeats 2000000 in
theorem om_enum_new {u : Value} {ob : Obj} {Hh : Heap → Prop} (B : Begins u ob Hh) :
    Meets (Builtin.«enumerate.__new__» ⟨[.type "enumerate", u], []⟩) (fun _ R z => Hh z.heap ∧
      R (.ok (.ret (.ref (z.heap.push ob).objs.size))) { z with heap := (z.heap.push ob).push { cls := .type "enumerate", data := .fields #[.none, .bool false, .ref z.heap.objs.size, rawInt 0, .none, .none] } }) :=
  Meets.of_wp fun pr wo Ar Re st hq => by
    obtain ⟨hp0, gg, dd, tt, oo⟩ := st
    obtain ⟨hB, hq⟩ := hq
    have hs0 := sub_enumerate
    have step : ∀ {A' : Around} {E : Value → Shared → Prop} {Q : Value → Shared → Prop}, Q (.ref hp0.objs.size) ⟨hp0.push ob, gg, dd, tt, oo⟩ → wpAny (model pr wo) A' (pyIter u) Q E ⟨hp0, gg, dd, tt, oo⟩ :=
      fun q => B.iter pr wo _ _ ⟨hp0, gg, dd, tt, oo⟩ _ hB q
    wp_walk using step
    refine wpAny_stack_any fun zz => wpAny_pure ?_
    split
    · rename_i cc _ _ _ _ _
      cases (cc == Value.type "enumerate") <;> (wp_walk using step; exact ⟨_, rfl, hq⟩)
    · wp_walk using step
      exact ⟨_, rfl, hq⟩
theorem om_enum_call {prog : Program} {w : World} {A : Around} {E : Value → Shared → Prop} {s : Shared} {u : Value} {ob : Obj} {Hh : Heap → Prop} {Q : Value → Shared → Prop} (B : Begins u ob Hh) (hB : Hh s.heap)
    (hq : ∀ h', IsEnum h' (s.heap.objs.size + 1) s.heap.objs.size 0 .none → h'.get? s.heap.objs.size = some ob → (∀ b o, s.heap.get? b = some o → h'.get? b = some o) → Q (.ref (s.heap.objs.size + 1)) { s with heap := h' }) :
    wpAny (model prog w) A (call (.type "enumerate") [u]) Q E s := by
  refine callType_new F.called_enumerate (by decide) (F.typeCall_enumerate_1 _) (F.newCall_enumerate_1 _) (fun obj => F.args_object_init_2 obj _) F.entry_enumerate_new (om_enum_new B) ⟨hB, ?_⟩
  have z1 : (s.heap.push ob).objs.size = s.heap.objs.size + 1 := Heap.size_push ..
  show _ ∧ _
  rw [z1]
  have z2 : IsEnum ((s.heap.push ob).push { cls := .type "enumerate", data := .fields #[.none, .bool false, .ref s.heap.objs.size, rawInt 0, .none, .none] }) (s.heap.objs.size + 1) s.heap.objs.size 0 .none := by
    have z3 := Heap.get?_push_size (s.heap.push ob) (o := { cls := .type "enumerate", data := .fields #[.none, .bool false, .ref s.heap.objs.size, rawInt 0, .none, .none] }) rfl
    rw [z1] at z3
    exact z3
  exact ⟨⟨_, z2, rfl⟩, hq _ z2 (Heap.get?_push_of_some _ (Heap.get?_push_size _ B.free)) fun b o x => Heap.get?_push_of_some _ (Heap.get?_push_of_some _ x)⟩
end PySem
namespace Om
open PySem PySem.Spec PyProof.Rows L2
/-- the tuple's items in new pairs -/
def IteT (K : PySem.W.Frag) (a : Addr) (xs : List V) : It :=
  ⟨fun i H => SqT K H a xs ∧ i < xs.length, fun i H v H' => ∃ T x, v = .ref T ∧ H T = none ∧ H' = upd H T (.tup [.int (i : Nat), x]) ∧ xs[i]? = some x, fun i H => SqT K H a xs ∧ xs.length = i⟩
theorem turn_enumT {P : Program} {w : World} {K : PySem.W.Frag} {elts : List Expr} {kk : Nat} {tpos : Pos} {a e it : Addr} {xs : List V} (nae : a ≠ e) (nai : a ≠ it) (nei : e ≠ it) :
    Turn P w K (.Tuple elts kk tpos) (IteT K a xs) [e, it] e (fun i h => (∃ old, IsEnum h e it ((i : Nat) : Int) old) ∧ h.IsTupleIter it a i) where
  mem := by simp
  obj := fun i h ⟨⟨old, he⟩, o, ho, hc, hd⟩ b hb => by
    rcases (show b = e ∨ b = it by simpa using hb) with rfl | rfl
    · exact ⟨_, he, fun v q => nomatch q⟩
    · exact ⟨o, ho, fun v q => by rw [hd] at q; cases q⟩
  keep := fun i h h' ⟨⟨old, he⟩, hi⟩ k => ⟨⟨old, k e (by simp) _ he⟩, hi.at fun o q => k it (by simp) o q⟩
  item := by
    intro X eP ew eK hc i pins s σ H E I hf ⟨⟨old, he⟩, hit⟩ ⟨hq, hlt⟩
    subst eP ew eK
    obtain ⟨its, rv, tu, hz⟩ := I.tuple hq
    have hx : xs[i]? = some xs[i] := by simp [hlt]
    obtain ⟨u, hu, ru⟩ := rv.get hx
    have el : e < s.heap.objs.size := Heap.lt_size he
    have il : it < s.heap.objs.size := by obtain ⟨_, q, _⟩ := hit; exact Heap.lt_size q
    have hsz : i < its.toArray.size := by
      have := rv.length
      simp
      omega
    have hd0 : X.A.in1.handled = none := I.ok.hd hc
    refine wpAny_pyNext_enum_itemD (Draws.tuple hd0 it a nai its.toArray) he ⟨hit, tu⟩ hsz nei (by simp [nei, Ne.symm nae]) fun x h' tk hx2 ho hst hT hs2 hk => ?_
    obtain rfl : x = u := by
      have e1 : its.toArray[i]? = some x := hx2
      have e2 : its.toArray[i]? = some u := by simpa using hu
      rw [e1] at e2
      exact Option.some.inj e2
    refine ⟨_, rfl, wpAny_letOwnedTupleGo_enum (s := { s with heap := h', toks := tk + 1 }) ho fun h2 he2 sb => ?_⟩
    have hT2 := (sb.2 _ (Nat.ne_of_gt el)).trans hT
    have new : ObjOk X.prog X.w (upd H s.heap.objs.size (.tup [.int (i : Nat), xs[i]])) h2 s.heap.objs.size (.tup [.int (i : Nat), xs[i]]) :=
      ⟨(show 2 ≤ sizeLine by decide), [.int i tk, x], .cons ⟨_, rfl⟩ (.cons ru .nil), _, hT2, rfl, _, rfl⟩
    have I1 : Inv X pins σ (upd H s.heap.objs.size (.tup [.int (i : Nat), xs[i]])) { s with heap := h2, toks := tk + 1 } :=
      I.turnedNew (ch := [e, it]) (fun b ob hb q => (sb.2 b (by rintro rfl; simp at hb)).trans (hk b ob (by rintro rfl; simp at hb) (by rintro rfl; simp at hb) q)) hf (Nat.le_refl _) new
    have ei : ((i + 1 : Nat) : Int) = (i : Int) + 1 := by omega
    refine ⟨.ref s.heap.objs.size, _, I1, rfl, ⟨_, _, rfl, I.hok.fresh (Nat.le_refl _), rfl, hx⟩, ⟨⟨x, by rw [ei]; exact he2⟩, hst.1.at fun o q => (sb.2 it (Ne.symm nei)).trans q⟩, fun b hb => ?_⟩
    have hlt2 : b < s.heap.objs.size := by
      rcases (show b = e ∨ b = it by simpa using hb) with rfl | rfl
      · exact el
      · exact il
    rw [upd_ne (Nat.ne_of_lt hlt2)]
    exact (hf b hb).1
  done := by
    intro X eP ew eK hc i pins s σ H E I hf ⟨⟨old, he⟩, hit⟩ ⟨hq, hle⟩
    subst eP ew eK
    obtain ⟨its, rv, tu, hz⟩ := I.tuple hq
    obtain ⟨f0, f1, f2, f3, f4, f5⟩ := hf it (by simp)
    have hl := rv.length
    have hd0 : X.A.in1.handled = none := I.ok.hd hc
    obtain rfl : i = its.toArray.size := by simp; omega
    exact wpAny_pyNext_enum_endD (Draws.tuple hd0 it a nai its.toArray) he ⟨hit, tu⟩ fun h' eb => ⟨rfl, I.turned (t' := s.toks) (fun b o hb q => eb b o hb q) f0 f1 f3 f4 f5⟩
  self := fun A i s Q E ⟨⟨_, he⟩, _⟩ h => wpAny_pyIter_enum he h
def iEnumT (K : PySem.W.Frag) (ta : TA) : TI := fun σ H R => ta σ H fun vs H1 => ∃ a xs, vs = [.ref a] ∧ SqT K H1 a xs ∧ R (IteT K a xs) H1
theorem pi_enumT {X : Cx} {e : Expr} {ta : TA} {p pos tpos : Pos} {elts : List Expr} {kk : Nat} (hg : Gl X "enumerate") (hm : X.mg "enumerate" = none) (ha : PA X [e] ta) (hs : starEach [e] X.env = [(false, eval e X.env)] := by rfl) :
    PI X (.Tuple elts kk tpos) (.Call (.Name "enumerate" p) [e] [] pos) (iEnumT X.K ta) := by
  constructor
  intro pins s σ H R I h
  refine Call_ (ld_blt I hg hm boot_enumerate (PyProof.Rows.callWith_type1 (thn (ha.run pos pins s σ H _ I h) fun us s1 ⟨vs, H1, I1, r1, a, xs, ev, hq, q⟩ => ?_) hs rfl))
  subst ev
  cases r1 with
  | cons ra rr =>
    cases rr
    cases ra
    obtain ⟨its, rv, tu, hz⟩ := I1.tuple hq
    have la : a < s1.heap.objs.size := by obtain ⟨o, ho, _⟩ := tu; exact Heap.lt_size ho
    refine om_enum_call (begins_tuple a its.toArray) tu fun h' he hi hk => wpAny_pyIter_enum he ?_
    have I2 : Inv X pins σ H1 { s1 with heap := h' } := I1.kept (t' := s1.toks) hk
    refine ⟨s1.heap.objs.size + 1, [s1.heap.objs.size + 1, s1.heap.objs.size], _, _, H1, rfl, I2, turn_enumT (a := a) (xs := xs) (Nat.ne_of_lt (Nat.lt_succ_of_lt la)) (Nat.ne_of_lt la) (Nat.succ_ne_self _), ⟨⟨.none, he⟩, _, hi, rfl, rfl⟩, fun b hb => ?_, q⟩
    have hb2 : s1.heap.objs.size ≤ b := by
      rcases (show b = s1.heap.objs.size + 1 ∨ b = s1.heap.objs.size by simpa using hb) with rfl | rfl
      · omega
      · exact Nat.le_refl _
    exact I1.fpOk hb2 (I1.hok.fresh hb2)
/-- for i, x in enumerate(t): one turn from Pv i to Pv (i + 1) -/
theorem for_enumT {K : PySem.W.Frag} {a : Addr} {xs : List V} {g : TG} {tb : TS} {D : Ends} {σ : L2.St} {H : Hp} (Pv : Nat → L2.St → Hp → Prop) (h0 : Pv 0 σ H) (hl : ∀ i σ H, i ≤ xs.length → Pv i σ H → SqT K H a xs)
    (hs : ∀ i x T σ H, xs[i]? = some x → Pv i σ H → H T = none → g (.ref T) σ (upd H T (.tup [.int (i : Nat), x])) fun σ2 H2 => tb { D with nx := Pv (i + 1), ct := Pv (i + 1), bk := D.nx } σ2 H2) (hd : ∀ σ H, Pv xs.length σ H → D.nx σ H) :
    ∃ W : Nat → Nat → L2.St → Hp → Prop, (∃ m, W 0 m σ H) ∧ ∀ i m σ H, W i m σ H → ((IteT K a xs).stop i H ∧ D.nx σ H) ∨ ((IteT K a xs).go i H ∧ ∃ Nx : L2.St → Hp → Prop, (∀ σ' H', Nx σ' H' → ∃ m', m' < m ∧ W (i + 1) m' σ' H') ∧
      ∀ x H', (IteT K a xs).yld i H x H' → g x σ H' fun σ2 H2 => tb { D with nx := Nx, ct := Nx, bk := D.nx } σ2 H2) := by
  refine ⟨fun i m σ H => m = xs.length - i ∧ i ≤ xs.length ∧ Pv i σ H, ⟨xs.length, by omega, Nat.zero_le _, h0⟩, ?_⟩
  rintro i m σ H ⟨rfl, hi, p⟩
  have q := hl i σ H hi p
  by_cases hlt : i < xs.length
  · refine .inr ⟨⟨q, hlt⟩, Pv (i + 1), fun σ' H' p' => ⟨xs.length - (i + 1), by omega, rfl, hlt, p'⟩, fun x H' hy => ?_⟩
    obtain ⟨T, y, rfl, hT, rfl, hx⟩ := hy
    exact hs i y T σ H hx p hT
  · obtain rfl : i = xs.length := by omega
    exact .inl ⟨⟨q, rfl⟩, hd σ H p⟩
end Om

/-! the first wrong sign of rows: the program's way and the law's -/
namespace Om
def okB (c : Nat) : Bool := decide (c = 46 ∨ c = 126 ∨ (65 ≤ c ∧ c ≤ 90))
theorem okB_iff (c : Nat) : okB c = true ↔ okSign c := by unfold okB okSign; exact decide_eq_true_iff
/-- the first of n columns from i on that is missing or wrong -/
def fw (r : List Nat) : Nat → Nat → Option Nat
  | 0, _ => none
  | n + 1, i => if i = r.length ∨ okB (r.getD i 0) = false then some i else fw r n (i + 1)
def fwEnd (r : List Nat) (wd : Nat) : Option Nat := if wd < r.length then some wd else none
def orElse' (a b : Option Nat) : Option Nat := match a with
  | some c => some c
  | none => b
def fwc (r : List Nat) (wd : Nat) : Option Nat := orElse' (fw r wd 0) (fwEnd r wd)
def chkF (wd : Nat) : List (List Nat) → Nat → Option (Nat × Nat)
  | [], _ => none
  | r :: rs, i => if i = 12 then some (i, 0) else match fwc r wd with
    | some c => some (i, c)
    | none => chkF wd rs (i + 1)
def wdOf (r : List Nat) : Nat := max 1 (min r.length 12)
def chk : List (List Nat) → Option (Nat × Nat)
  | [] => some (0, 0)
  | r :: rs => chkF (wdOf r) (r :: rs) 0
def dc (w0 : Nat) (r : List Nat) : Nat → Nat → Option Nat
  | 0, _ => none
  | n + 1, i => if 12 ≤ i ∨ w0 ≤ i ∨ okB (r.getD i 0) = false then some i else dc w0 r n (i + 1)
def dcEnd (w0 : Nat) (r : List Nat) : Option Nat := if r.length < w0 then some r.length else none
def dcc (w0 : Nat) (r : List Nat) : Option Nat := orElse' (dc w0 r r.length 0) (dcEnd w0 r)
def dueF (w0 : Nat) : List (List Nat) → Nat → Option (Nat × Nat)
  | [], _ => none
  | r :: rs, i => if i = 12 then some (12, 0) else match dcc w0 r with
    | some c => some (i, c)
    | none => dueF w0 rs (i + 1)
def due : List (List Nat) → Option (Nat × Nat)
  | [] => some (0, 0)
  | [] :: _ => some (0, 0)
  | (c :: r) :: rs => dueF (r.length + 1) ((c :: r) :: rs) 0
theorem row_same {r : List Nat} {w0 wd : Nat} (hwd : wd = min w0 12) (hc : w0 ≤ 12 ∨ r.length = w0) :
    ∀ (m i n k : Nat), m = wd - i → i ≤ wd → i ≤ r.length → n = wd - i → k = r.length - i → orElse' (fw r n i) (fwEnd r wd) = orElse' (dc w0 r k i) (dcEnd w0 r) := by
  intro m
  induction m with
  | zero =>
    intro i n k hm hi hr hn hk
    obtain rfl : i = wd := by omega
    obtain rfl : n = 0 := by omega
    show fwEnd r i = _
    unfold fwEnd
    by_cases hl : i < r.length
    · rw [if_pos hl]
      obtain ⟨k', rfl⟩ : ∃ k', k = k' + 1 := ⟨k - 1, by omega⟩
      unfold dc
      rw [if_pos (by omega)]
      rfl
    · rw [if_neg hl]
      obtain rfl : k = 0 := by omega
      show none = dcEnd w0 r
      unfold dcEnd
      rw [if_neg (by omega)]
  | succ m ih =>
    intro i n k hm hi hr hn hk
    obtain ⟨n', rfl⟩ : ∃ n', n = n' + 1 := ⟨n - 1, by omega⟩
    by_cases he : i = r.length
    · obtain rfl : k = 0 := by omega
      unfold fw
      rw [if_pos (.inl he)]
      show some i = dcEnd w0 r
      unfold dcEnd
      rw [if_pos (by omega), he]
    · obtain ⟨k', rfl⟩ : ∃ k', k = k' + 1 := ⟨k - 1, by omega⟩
      unfold fw dc
      by_cases hb : okB (r.getD i 0) = false
      · rw [if_pos (.inr hb), if_pos (.inr (.inr hb))]
        rfl
      · rw [if_neg (by intro h; rcases h with h | h; exact he h; exact hb h), if_neg (by intro h; rcases h with h | h | h; omega; omega; exact hb h)]
        exact ih (i + 1) n' k' (by omega) (by omega) (by omega) (by omega) (by omega)
theorem fwc_dcc {r : List Nat} {w0 : Nat} (hc : w0 ≤ 12 ∨ r.length = w0) : fwc r (min w0 12) = dcc w0 r :=
  row_same (wd := min w0 12) rfl hc _ 0 _ _ rfl (Nat.zero_le _) (Nat.zero_le _) rfl rfl
theorem chkF_dueF {w0 : Nat} (h : w0 ≤ 12) : ∀ (rs : List (List Nat)) (i : Nat), chkF (min w0 12) rs i = dueF w0 rs i
  | [], _ => rfl
  | r :: rs, i => by
    unfold chkF dueF
    by_cases hi : i = 12
    · rw [if_pos hi, if_pos hi, hi]
    · rw [if_neg hi, if_neg hi, fwc_dcc (.inl h), chkF_dueF h rs (i + 1)]
theorem chk_due : ∀ rows : List (List Nat), chk rows = due rows
  | [] => rfl
  | [] :: rs => rfl
  | (c :: r) :: rs => by
    have hw : wdOf (c :: r) = min (r.length + 1) 12 := by unfold wdOf; simp only [List.length_cons]; omega
    show chkF (wdOf (c :: r)) ((c :: r) :: rs) 0 = dueF (r.length + 1) ((c :: r) :: rs) 0
    rw [hw]
    by_cases h : r.length + 1 ≤ 12
    · exact chkF_dueF h _ 0
    · unfold chkF dueF
      rw [if_neg (by decide), if_neg (by decide), fwc_dcc (r := c :: r) (w0 := r.length + 1) (.inr rfl)]
      have hs : ∃ x, dcc (r.length + 1) (c :: r) = some x := by
        rw [← fwc_dcc (r := c :: r) (w0 := r.length + 1) (.inr rfl)]
        unfold fwc fwEnd
        cases hf : fw (c :: r) (min (r.length + 1) 12) 0 with
        | some x => exact ⟨x, rfl⟩
        | none => exact ⟨_, if_pos (by simp only [List.length_cons]; omega)⟩
      obtain ⟨x, hx⟩ := hs
      rw [hx]
/-- rows that are good -/
theorem fw_none {r : List Nat} (h : ∀ c ∈ r, okSign c) : ∀ n i, i + n ≤ r.length → fw r n i = none
  | 0, _, _ => rfl
  | n + 1, i, hi => by
    unfold fw
    have h1 : okB (r.getD i 0) = true := by
      rw [okB_iff, List.getD_eq_getElem?_getD, List.getElem?_eq_getElem (by omega)]
      exact h _ (List.getElem_mem _)
    rw [if_neg (by rintro (h | h); · omega
                   · rw [h1] at h; cases h), fw_none h n (i + 1) (by omega)]
theorem chkF_none {wd : Nat} : ∀ (rs : List (List Nat)) (i : Nat), i + rs.length ≤ 12 → (∀ r ∈ rs, r.length = wd ∧ ∀ c ∈ r, okSign c) → chkF wd rs i = none
  | [], _, _, _ => rfl
  | r :: rs, i, hi, h => by
    obtain ⟨h1, h2⟩ := h r (List.mem_cons_self ..)
    unfold chkF
    have e : fwc r wd = none := by
      unfold fwc fwEnd
      rw [fw_none h2 wd 0 (by omega), if_neg (by omega)]
      rfl
    simp only [List.length_cons] at hi
    rw [if_neg (by omega), e]
    exact chkF_none rs (i + 1) (by omega) fun r hr => h r (List.mem_cons_of_mem _ hr)
theorem chk_rows {m : Nat} {rows : List (List Nat)} (h : RowsOk m rows) (hm : m ≤ 12) : chk rows = none := by
  obtain ⟨h1, h2, wd, w1, w2, hr⟩ := h
  cases rows with
  | nil => simp at h1
  | cons r rs =>
    have e := (hr r (List.mem_cons_self ..)).1
    have hw : wdOf r = wd := by unfold wdOf; omega
    show chkF (wdOf r) (r :: rs) 0 = none
    rw [hw]
    exact chkF_none _ 0 (by omega) hr
end Om

namespace Om
open PySem PySem.Spec PyProof.Rows L2
abbrev sFwc : Stmt := top 32
abbrev sChk : Stmt := top 31
abbrev sII : Stmt := inClass (top 10) 0
abbrev sIslI : Stmt := inClass (top 29) 0
def allSigns : Str := Str.ofString ".ABCDEFGHIJKLMNOPQRSTUVWXYZ~"
theorem allSigns_cps : allSigns.cps.toList = [46, 65, 66, 67, 68, 69, 70, 71, 72, 73, 74, 75, 76, 77, 78, 79, 80, 81, 82, 83, 84, 85, 86, 87, 88, 89, 90, 126] := by decide +kernel
theorem mem_allSigns (c : Nat) : decide (c ∈ allSigns.cps.toList) = okB c := by
  rw [allSigns_cps]
  unfold okB
  apply decide_eq_decide.mpr
  simp only [List.mem_cons, List.not_mem_nil, or_false]
  omega
def optV : Option Nat → V
  | some c => .int (c : Nat)
  | none => .non
def spFwc : Sp := fun vs H Q _ => ∃ (r : List Nat) (wd : Nat), vs = [.str (tx r), .int wd] ∧ r.length ≤ 1000 ∧ wd ≤ 12 ∧ Q (optV (fwc r wd)) H
theorem small_le {n : Nat} (h : n ≤ 1000) : n ≤ sizeLine := Nat.le_of_lt (small1000 h)
theorem fw_succ (r : List Nat) (n i : Nat) : fw r (n + 1) i = if i = r.length ∨ okB (r.getD i 0) = false then some i else fw r n (i + 1) := rfl
section
variable {P : Program} {w : World} {K : PySem.W.Frag} {mg : Str → Option Value} {base : Heap}
theorem scFwc : FnScope ["signs", "width", "column"] ["signs", "width"] (defScope sFwc) := ⟨rfl, rfl, rfl, by decide +kernel, rfl, by decide +kernel, by decide +kernel⟩
theorem ok_fwc {f : Addr} {fd : FuncData} (F : FnP K "_first_wrong_column" "_first_wrong_column" sFwc f fd) (grange : mg "range" = none) (glen : mg "len" = none) (gall : ∃ t, mg "ALL_SIGNS" = some (.str allSigns t)) :
    FnOk P w K mg base CX0 1 f fd ["signs", "width"] spFwc := by
  obtain ⟨t0, gall⟩ := gall
  refine F.ok scFwc (fun vs H Q E h => ?_) (fun cdv A outer s H vs Q E hr h => ?_)
  · obtain ⟨r, wd, rfl, _⟩ := h
    rfl
  · obtain ⟨r, wd, rfl, hl, hw, k⟩ := h
    have nd := scFwc.nd
    have hl2 : (tx r).length ≤ sizeLine := by rw [tx_len]; exact small_le hl
    refine ⟨_, PSs.nox (pss_cons (ps_for PassesOwn.never rfl (pi_range1 rfl grange (pa_cons (pv 1) pa_nil)) (pg_name (i := 2) nd rfl (.inl rfl))
        (pss_one (ps_if (PW.pt (pw_or (pt_cmpR op_eq (pv 2) (pe_callB call_len_str (by rfl) glen PySem.boot_len (pa_cons (pv 0) pa_nil)) (nomark _))
            (pw_or1 (pt_cmpR op_notIn_sign (pe_ix ix_str (pv 0) (pv 2) (fun _ _ => rfl)) (pe_glob (v := .str allSigns) rfl gall ⟨_, rfl⟩) rfl)))) (pss_one (ps_ret (pv 2))) pss_nil)))
      (pss_cons (ps_if (pt_cmpR op_gt (pe_callB call_len_str (by rfl) glen PySem.boot_len (pa_cons (pv 0) pa_nil)) (pv 1) (nomark _)) (pss_one (ps_ret (pv 1))) pss_nil)
      (pss_one (ps_ret pe_non)))), ?_⟩
    refine ⟨_, rfl, _, rfl, by omega, by omega, for_range (lo := 0) (n := (wd : Int).toNat) (fun i σ H' => H' = H ∧ (∃ v, σ = [some (.str (tx r)), some (.int wd), v]) ∧ fw r wd 0 = fw r (wd - i) i ∧ i ≤ r.length) ⟨rfl, ⟨none, rfl⟩, rfl, Nat.zero_le _⟩ ?_ ?_⟩
    · rintro i σ H' hi ⟨rfl, ⟨v, rfl⟩, hf, hir⟩
      have hi' : i < wd := by omega
      obtain ⟨n, hn⟩ : ∃ n, wd - i = n + 1 := ⟨wd - i - 1, by omega⟩
      have hn2 : n = wd - (i + 1) := by omega
      rw [hn, fw_succ] at hf
      refine ⟨_, rfl, _, rfl, _, rfl, hl2, rfl, _, rfl, ?_⟩
      have e1 : decide (V.int (0 + (i : Int)) = V.int ((tx r).length : Nat)) = decide (i = r.length) := by
        rw [tx_len]
        apply decide_eq_decide.mpr
        constructor
        · intro h; injection h with h; omega
        · intro h; subst h; rw [Int.zero_add]
      have ret : (i = r.length ∨ okB (r.getD i 0) = false) → Q (.int (0 + (i : Int))) H' := fun h => by
        rw [if_pos h] at hf
        have e2 : fwc r wd = some i := by
          unfold fwc
          rw [hf]
          rfl
        rw [e2] at k
        rw [Int.zero_add]
        exact k
      show (if decide (V.int (0 + (i : Int)) = V.int ((tx r).length : Nat)) = true then _ else _)
      rw [e1]
      refine ite2 (fun hz => ?_) (fun hz => ?_)
      · refine iteT ⟨_, rfl, ?_⟩
        exact ret (.inl (of_decide_eq_true hz))
      · have hne : i ≠ r.length := fun e => hz (decide_eq_true e)
        have hlt : i < r.length := by omega
        · refine ⟨_, rfl, _, rfl, _, _, r[i], rfl, rfl, hl2, ?_, _, _, rfl, rfl, _, rfl, ?_⟩
          · rw [tx_cps, Int.zero_add]
            exact atI_nat (by simp [hlt])
          · rw [mem_allSigns]
            have e3 : r.getD i 0 = r[i] := by rw [List.getD_eq_getElem?_getD, List.getElem?_eq_getElem hlt]; rfl
            rw [e3] at ret hf
            cases hb : okB r[i] with
            | false =>
              refine iteT ⟨_, rfl, ?_⟩
              exact ret (.inr hb)
            | true =>
              refine iteF ?_
              refine ⟨rfl, ⟨_, rfl⟩, ?_, hlt⟩
              rw [hf, if_neg (by rintro (h | h); · exact hne h
                                 · rw [hb] at h; cases h), hn2]
    · rintro σ H' ⟨rfl, ⟨v, rfl⟩, hf, hir⟩
      have e0 : (wd : Int).toNat = wd := by omega
      rw [e0, Nat.sub_self] at hf
      have hf : fw r wd 0 = none := hf
      refine ⟨_, rfl, _, rfl, hl2, _, rfl, _, _, rfl, rfl, _, rfl, ?_⟩
      have e2 : fwc r wd = fwEnd r wd := by
        unfold fwc
        rw [hf]
        rfl
      rw [e2] at k
      rw [tx_len]
      refine ite2 (fun hz => ?_) (fun hz => ?_)
      · have hz' : (wd : Int) < (r.length : Nat) := of_decide_eq_true hz
        refine ⟨_, rfl, ?_⟩
        unfold fwEnd at k
        rw [if_pos (by omega)] at k
        exact k
      · have hz' : ¬ (wd : Int) < (r.length : Nat) := fun h => hz (decide_eq_true h)
        unfold fwEnd at k
        rw [if_neg (by omega)] at k
        exact k
end
end Om

namespace Om
open PySem PySem.Spec PyProof.Rows L2
/-- what the top says of InvalidIsland, at C, its __init__ at fI -/
structure IsI (K : PySem.W.Frag) (mg : Str → Option Value) (C fI : Addr) : Prop where
  oex : OexC K C
  noR : PySem.W.findIn K (.ref C) "row" = some none
  noC : PySem.W.findIn K (.ref C) "column" = some none
  iC : PySem.W.findIn K (.ref C) "__init__" = some (some (.ref fI))
  tI : PySem.W.typeIn K (.ref fI) = some (.type "function")
  gC : mg "InvalidIsland" = some (.ref C)
def xdII (x y : V) : List (Str × V) := [(("column" : Str), y), (("row" : Str), x)]
def spII (C : Addr) : Sp := fun vs H Q _ => ∃ (a : Addr) (x y : V), vs = [.ref a, x, y] ∧ H a = some (exo a C none) ∧
  ∀ dx, H dx = none → dx ≠ a → Q .non (upd (upd (upd H dx (exd dx [(("row" : Str), x)])) a (exo a C (some dx))) dx (exd dx (xdII x y)))
theorem mkII {C : Addr} {H1 : Hp} {W : XK} {x y : V} (k : ∀ d H', H1 d = none → Same H1 H' → H' d = some (.xd (xdII x y)) → W (.ref C) (some d) H') :
    [x, y].length ≤ 1000 ∧ ∀ a, H1 a = none → spII C (.ref a :: ([x, y] ++ [])) (upd H1 a (exo a C none)) (fun v H2 => v = .non ∧ ∃ (d : Addr) (fs : List (Str × V)), H2 a = some (exo a C (some d)) ∧ H2 d = some (exd d fs) ∧ H1 d = none ∧ W (.ref C) (some d) (upd (del H2 a) d (.xd fs))) (fun _ _ _ => False) := by
  refine ⟨by simp, fun a ha => ⟨a, x, y, rfl, upd_same, fun dx h1 h2 => ⟨rfl, dx, _, ?_, upd_same, ?_, ?_⟩⟩⟩
  · rw [upd_ne (Ne.symm h2), upd_same]
  · rw [upd_ne h2] at h1; exact h1
  · rw [upd_ne h2] at h1
    refine k dx _ h1 (fun c o hc => ?_) upd_same
    have n1 : c ≠ dx := ne_of_none hc h1
    have n2 : c ≠ a := ne_of_none hc ha
    rw [upd_ne n1, del_ne n2, upd_ne n1, upd_ne n2, upd_ne n1, upd_ne n2]
    exact hc
theorem Same.tup {K : PySem.W.Frag} {H H' : Hp} {a : Addr} {xs : List V} (e : Same H H') (h : SqT K H a xs) : SqT K H' a xs := by
  rcases h with (h | ⟨o, h⟩) | h
  · exact .inl (.inl (e _ _ h))
  · exact .inl (.inr ⟨o, e _ _ h⟩)
  · exact .inr h
theorem chkF_cons (wd : Nat) (r : List Nat) (rs : List (List Nat)) (i : Nat) : chkF wd (r :: rs) i = if i = 12 then some (i, 0) else match fwc r wd with
    | some c => some (i, c)
    | none => chkF wd rs (i + 1) := rfl
def spChk (K : PySem.W.Frag) (C : Addr) : Sp := fun vs H Q E => ∃ (a : Addr) (rows : List (List Nat)), vs = [.ref a] ∧ SqT K H a (rows.map vt) ∧ rows.length ≤ 1000 ∧ (∀ r ∈ rows, r.length ≤ 1000) ∧
  (chk rows = none → ∀ H', Same H H' → Q .non H') ∧ ∀ r c, chk rows = some (r, c) → ∀ d H', H d = none → Same H H' → H' d = some (.xd (xdII (.int (r : Nat)) (.int (c : Nat)))) → E (.ref C) (some d) H'
section
variable {P : Program} {w : World} {K : PySem.W.Frag} {mg : Str → Option Value} {base : Heap} {C fI : Addr}
theorem scII : FnScope ["self", "row", "column"] ["self", "row", "column"] (defScope sII) := ⟨rfl, rfl, rfl, by decide +kernel, rfl, by decide +kernel, by decide +kernel⟩
theorem ok_II {fd : FuncData} (F : FnP K "__init__" "InvalidIsland.__init__" sII fI fd) (T : IsI K mg C fI) : FnOk P w K mg base CX0 1 fI fd ["self", "row", "column"] (spII C) := by
  refine F.ok scII (fun vs H Q E h => ?_) (fun cdv A outer s H vs Q E hr h => ?_)
  · obtain ⟨a, x, y, rfl, _⟩ := h
    rfl
  · obtain ⟨a, x, y, rfl, ha, k⟩ := h
    refine ⟨_, PSs.nox (pss_cons (ps_ost (pv 0) (pv 1)) (pss_one (ps_ost (pv 0) (pv 2)))), ?_⟩
    refine ⟨_, rfl, _, rfl, a, C, rfl, T.oex, T.noR, .inl ⟨ha, fun dx h1 h2 => ?_⟩⟩
    exact ⟨_, rfl, _, rfl, a, C, rfl, T.oex, T.noC, .inr ⟨dx, _, upd_same, (by rw [upd_ne h2]; exact upd_same), by simp, k dx h1 h2⟩⟩
abbrev nChk : List Str := ["rows", "width", "row", "signs", "column"]
theorem scChk : FnScope nChk ["rows"] (defScope sChk) := ⟨rfl, rfl, rfl, by decide +kernel, rfl, by decide +kernel, by decide +kernel⟩
theorem ok_chk {f : Addr} {fd fdI : FuncData} (F : FnP K "_check_rows" "_check_rows" sChk f fd) (T : IsI K mg C fI) (FI : FnOk P w K mg base CX0 1 fI fdI ["self", "row", "column"] (spII C)) (bI : Binds K fdI ["self", "row", "column"] [])
    (G : Cal P w K mg base CX0 1 "_first_wrong_column" ["signs", "width"] spFwc) (glen : mg "len" = none) (gmax : mg "max" = none) (gmin : mg "min" = none) (genum : mg "enumerate" = none) (glg : ∃ t, mg "LARGEST" = some (.int 12 t)) :
    FnOk P w K mg base (L2.CX P w) 3 f fd ["rows"] (spChk K C) := by
  obtain ⟨t0, glg⟩ := glg
  refine F.ok scChk (fun vs H Q E h => ?_) (fun cdv A outer s H vs Q E hr h => ?_)
  · obtain ⟨a, rows, rfl, _⟩ := h
    rfl
  · obtain ⟨a, rows, rfl, hS, hl, hrl, kN, kS⟩ := h
    have nd := scChk.nd
    have hr1 : Room 1 _ := hr.mono (by decide)
    refine ⟨_, pss_cons (ps_if (pt_cmpR op_eq (pe_callB call_len_seq (by rfl) glen PySem.boot_len (pa_cons (pv 0) pa_nil)) pe_int (nomark _))
          (pss_one (ps_raise rfl (takes_of rfl rfl rfl rfl) (pmk_oex T.oex T.iC T.tI FI hr bI .nil pass0 rfl T.gC (pa_cons pe_int (pa_cons pe_int pa_nil))))) pss_nil)
      (pss_cons (ps_set (i := 1) nd rfl (.inl rfl) (pe_callB (call_max2 rfl) (by rfl) gmax (by decide +kernel) (pa_cons pe_int (pa_cons
          (pe_callB (call_min2 rfl) (by rfl) gmin (by decide +kernel) (pa_cons (pe_callB call_len_str (by rfl) glen PySem.boot_len (pa_cons (pe_ix ix_tup (pv 0) pe_int (fun _ _ => rfl)) pa_nil)) (pa_cons (pe_glob (v := .int 12) rfl glg ⟨_, rfl⟩) pa_nil))) pa_nil))))
      (pss_one (ps_for (passes_of rfl) rfl (pi_enumT rfl genum (pa_cons (pv 0) pa_nil)) (pg_tup rfl (pgs_cons (pg_name (i := 2) nd rfl (.inl rfl)) (pgs_cons (pg_name (i := 3) nd rfl (.inl rfl)) pgs_nil)))
        (pss_cons (ps_if (pt_cmpR op_eq (pv 2) (pe_glob (v := .int 12) rfl glg ⟨_, rfl⟩) (nomark _))
            (pss_one (ps_raise rfl (takes_of rfl rfl rfl rfl) (pmk_oex T.oex T.iC T.tI FI hr bI .nil pass0 rfl T.gC (pa_cons (pv 2) (pa_cons pe_int pa_nil))))) pss_nil)
        (pss_cons (ps_set (i := 4) nd rfl (.inl rfl) (pe_cal G hr1 pass0 (pa_cons (pv 3) (pa_cons (pv 1) pa_nil))))
        (pss_one (ps_if (pt_cmpR op_notN (pv 4) pe_non (nomark _))
            (pss_one (ps_raise rfl (takes_of rfl rfl rfl rfl) (pmk_oex T.oex T.iC T.tI FI hr bI .nil pass0 rfl T.gC (pa_cons (pv 2) (pa_cons (pv 4) pa_nil))))) pss_nil))))))), ?_⟩
    refine ⟨_, rfl, a, _, rfl, .inr hS, rfl, _, rfl, ?_⟩
    cases rows with
    | nil =>
      refine iteT ?_
      exact mkII (W := E) fun d H' h1 h2 h3 => kS 0 0 rfl d H' h1 h2 h3
    | cons r0 rs =>
      have hne : ¬ decide (V.int (((r0 :: rs).map vt).length : Nat) = V.int 0) = true := fun h => by
        have h := of_decide_eq_true h
        injection h with h
        simp only [List.length_map, List.length_cons] at h
        omega
      rw [if_neg hne]
      have hr0 : (tx r0).length ≤ sizeLine := by rw [tx_len]; exact small_le (hrl r0 (List.mem_cons_self ..))
      refine ⟨_, rfl, a, _, 0, _, rfl, rfl, hS, at0, _, rfl, hr0, _, _, rfl, _, _, rfl, ?_⟩
      have ew : (if (if (12 : Int) < ((tx r0).length : Nat) then (12 : Int) else ((tx r0).length : Nat)) > 1 then (if (12 : Int) < ((tx r0).length : Nat) then (12 : Int) else ((tx r0).length : Nat)) else 1) = ((wdOf r0 : Nat) : Int) := by
        rw [tx_len]
        unfold wdOf
        split <;> split <;> omega
      rw [ew]
      have hwd : wdOf r0 ≤ 12 := by unfold wdOf; omega
      refine ⟨_, rfl, a, _, rfl, hS, for_enumT (K := K) (a := a) (xs := (r0 :: rs).map vt) (fun i σ H' => Same H H' ∧ (∃ v2 v3 v4, σ = [some (.ref a), some (.int (wdOf r0 : Nat)), v2, v3, v4]) ∧ chk (r0 :: rs) = chkF (wdOf r0) ((r0 :: rs).drop i) i)
        ⟨Same.refl H, ⟨_, _, _, rfl⟩, rfl⟩ (fun i σ H' _ p => Same.tup p.1 hS) ?_ ?_⟩
      · rintro i x T1 σ H1 hx ⟨sm, ⟨v2, v3, v4, rfl⟩, hc⟩ hT1
        rw [List.getElem?_map] at hx
        cases hri : (r0 :: rs)[i]? with
        | none => rw [hri] at hx; cases hx
        | some r =>
          rw [hri] at hx
          obtain rfl : vt r = x := Option.some.inj hx
          have hlt : i < (r0 :: rs).length := (List.getElem?_eq_some_iff.mp hri).1
          have hre : (r0 :: rs)[i] = r := (List.getElem?_eq_some_iff.mp hri).2
          have hmem : r ∈ r0 :: rs := hre ▸ List.getElem_mem hlt
          rw [List.drop_eq_getElem_cons hlt, hre, chkF_cons] at hc
          have sm1 : Same H (upd H1 T1 (.tup [.int (i : Nat), vt r])) := Same.new sm hT1
          refine ⟨T1, _, rfl, .inl (.inl upd_same), rfl, _, _, rfl, _, _, rfl, rfl, ?_⟩
          refine ⟨_, rfl, rfl, _, rfl, ?_⟩
          refine ite2 (fun hz => ?_) (fun hz => ?_)
          · have hz := of_decide_eq_true hz
            injection hz with hz
            have hi : i = 12 := by omega
            rw [if_pos hi] at hc
            refine ⟨_, rfl, ?_⟩
            exact mkII (W := E) fun d H' h1 h2 h3 => kS i 0 hc d H' (Same.free sm1 h1) (sm1.trans h2) h3
          · have hi : i ≠ 12 := fun h => hz (decide_eq_true (by rw [h]; rfl))
            rw [if_neg hi] at hc
            refine ⟨_, rfl, _, rfl, r, wdOf r0, rfl, hrl r hmem, hwd, ?_⟩
            refine ⟨_, rfl, rfl, _, rfl, ?_⟩
            cases hf : fwc r (wdOf r0) with
            | none =>
              rw [hf] at hc
              refine iteF ?_
              exact ⟨sm1, ⟨_, _, _, rfl⟩, hc⟩
            | some c =>
              rw [hf] at hc
              refine iteT ⟨_, rfl, _, rfl, ?_⟩
              exact mkII (W := E) fun d H' h1 h2 h3 => kS i c hc d H' (Same.free sm1 h1) (sm1.trans h2) h3
      · rintro σ H1 ⟨sm, ⟨v2, v3, v4, rfl⟩, hc⟩
        have e0 : (r0 :: rs).drop ((r0 :: rs).map vt).length = [] := by simp
        rw [e0] at hc
        exact kN hc H1 sm
end
end Om

/-! a lambda handed to a def, its parameters all with a written default; what it raises is wished for at the slots of the def that calls it -/
namespace Om
open PySem PySem.Spec PyProof.Rows L2 LamX
/-- the function object: as the library's, its defaults dV -/
abbrev lamFd (qual : Str) (params : Arguments) (body : Expr) (scope : Scope) (cl : List (Str × Addr)) (pm : Value) (c' : Addr) (ctv dV : Value) : FuncData :=
  { PySem.W.kla_fn "<lambda>" qual params body scope cl pm (.ref c') ctv with defaults := dV }
abbrev lamOb (qual : Str) (params : Arguments) (body : Expr) (scope : Scope) (cl : List (Str × Addr)) (pm : Value) (c' : Addr) (ctv dV : Value) : Obj :=
  { cls := .type "function", data := .func (lamFd qual params body scope cl pm c' ctv dV) }
section
variable {M : Model} {A : Around} {E : Value → Shared → Prop} {s : Shared} {qual : Str} {params : Arguments} {body : Expr} {scope : Scope} {env : Env} {c P : Addr} {ps : Array Value} {pos : Pos} {fl : Nat} {mg : Str → Option Value}
  {clos : List (Str × Addr)} {Q : Value → Shared → Prop} {dV : Value}
/-- its code object is new -/
theorem tail_new (e1 : closureFor scope env = pure clos) (e2 : env.globals = mainGlobals) (e3 : s.heap.Ns mainGlobals mg) (e4 : env.code = .ref c) (e5 : PySem.W.CodeHd s.heap c P) (e6 : s.heap.get? P = some { cls := .none, data := .fields ps })
    (e7 : TriplesOk ps.toList) (e8 : codeAmong pos ps.toList = none) (e9 : mainGlobals ≠ P) (e10 : s.heap.BuiltinsAt mg P)
    (k : ∀ c' ctv h' tk, Heap.ExtBut P s.heap h' → s.heap.objs.size ≤ c' → c' < h'.objs.size → h'.CodeRec (.ref c') qual → h'.get? P = some { cls := .none, data := .fields (ps ++ #[rawInt pos.line, rawInt pos.col, .ref c']) } →
      Q (.ref h'.objs.size) { s with heap := h'.push (lamOb qual params body scope clos ((mg "__name__").getD .none) c' ctv dV), toks := tk }) :
    wpAny M A (makeTail "<lambda>" qual params (.expr body) scope env dV .none none pos fl) Q E s := by
  obtain ⟨b1, o1, g1, g2, _, g3, g4, g5, g6, g7⟩ := e10
  unfold makeTail
  rw [e1, e2]
  refine wpAny_bind (wpAny_pure ?_)
  cases clos with
  | nil =>
    simp only [List.isEmpty_nil, if_true]
    refine wpAny_bind (wpAny_pure (wpAny_bind (wpAny_functionCodeX e4 (e5.code e6 e7) (e5.tab e6) e8 fun c' h' tk x1 x2 x3 _ x4 x5 _ => ?_)))
    have G2 := e3.extBut x1 e9
    exact wpAny_bind (wpAny_builtinsFor G2 g1 g2 (x1 _ _ g3 g4) g5 g6 g7 (wpAny_bind (wpAny_nsGet G2 (wpAny_bind (wpAny_pure (wpAny_newObj_type (k c' .none h' tk x1 x2 x3 x4 x5.2) (by size_fits)))))))
  | cons q r =>
    simp only [List.isEmpty_cons, Bool.false_eq_true, if_false]
    refine wpAny_bind (wpAny_newTextTuple ?_)
    have kp : ∀ (oT : Obj) (b : Addr) (o : Obj), s.heap.get? b = some o → (s.heap.push oT).get? b = some o := fun oT b o e => Heap.get?_push_of_some _ e
    refine wpAny_bind (wpAny_functionCodeX e4 ((e5.keeps (kp _)).code (kp _ _ _ e6) e7) ((e5.keeps (kp _)).tab (kp _ _ _ e6)) e8 fun c' h' tk x1 x2 x3 _ x4 x5 _ => ?_)
    have ex : Heap.ExtBut P s.heap h' := fun b o hb e => x1 b o hb (kp _ b o e)
    have G2 := (e3.push _).extBut x1 e9
    have sz : s.heap.objs.size ≤ c' := Nat.le_trans (by rw [Heap.size_push]; omega) x2
    exact wpAny_bind (wpAny_builtinsFor G2 g1 g2 (ex _ _ g3 g4) g5 g6 g7 (wpAny_bind (wpAny_nsGet G2 (wpAny_bind (wpAny_pure (wpAny_newObj_type (k c' _ h' tk ex sz x3 x4 x5.2) (by size_fits)))))))
/-- its code object stands in the table -/
theorem tail_hit {cv : Value} (e1 : closureFor scope env = pure clos) (e2 : env.globals = mainGlobals) (e3 : s.heap.Ns mainGlobals mg) (e4 : env.code = .ref c) (e5 : PySem.W.CodeHd s.heap c P) (e6 : s.heap.get? P = some { cls := .none, data := .fields ps })
    (e7 : TriplesOk ps.toList) (e8 : codeAmong pos ps.toList = some cv) (e10 : s.heap.BuiltinsAt mg P)
    (k : ∀ (ctv : Value) (h' : Heap) (tk : Tok), (∀ b o, s.heap.get? b = some o → h'.get? b = some o) → s.heap.objs.size ≤ h'.objs.size →
      Q (.ref h'.objs.size) { s with heap := h'.push { cls := .type "function", data := .func { PySem.W.kla_fn "<lambda>" qual params body scope clos ((mg "__name__").getD .none) cv ctv with defaults := dV } }, toks := tk }) :
    wpAny M A (makeTail "<lambda>" qual params (.expr body) scope env dV .none none pos fl) Q E s := by
  obtain ⟨b1, o1, g1, g2, _, g3, g4, g5, g6, g7⟩ := e10
  unfold makeTail
  rw [e1, e2]
  refine wpAny_bind (wpAny_pure ?_)
  cases clos with
  | nil =>
    simp only [List.isEmpty_nil, if_true]
    exact wpAny_bind (wpAny_pure (wpAny_bind (wpAny_functionCode_hit e4 (e5.code e6 e7) e8 (wpAny_bind (wpAny_builtinsFor e3 g1 g2 g4 g5 g6 g7 (wpAny_bind (wpAny_nsGet e3 (wpAny_bind (wpAny_pure (wpAny_newObj_type (k .none s.heap s.toks (fun _ _ e => e) (Nat.le_refl _)) (by size_fits)))))))))))
  | cons q r =>
    simp only [List.isEmpty_cons, Bool.false_eq_true, if_false]
    have kp : ∀ (oT : Obj) (b : Addr) (o : Obj), s.heap.get? b = some o → (s.heap.push oT).get? b = some o := fun oT b o e => Heap.get?_push_of_some _ e
    exact wpAny_bind (wpAny_newTextTuple (wpAny_bind (wpAny_functionCode_hit e4 ((e5.keeps (kp _)).code (kp _ _ _ e6) e7) e8 (wpAny_bind (wpAny_builtinsFor (e3.push _) g1 g2 (kp _ _ _ g4) g5 g6 g7
      (wpAny_bind (wpAny_nsGet (e3.push _) (wpAny_bind (wpAny_pure (wpAny_newObj_type (k _ _ s.toks (kp _) (by rw [Heap.size_push]; omega)) (by size_fits)))))))))))
end
section
variable {X : Cx} {pins : List (Addr × Obj)} {σ : L2.St} {H : Hp} {s : Shared}
/-- a lambda with one parameter whose default is a written int is made -/
theorem lam_mk1 {T : List (Addr × Str)} {c P : Addr} {params : Arguments} {body : Expr} {scope : Scope} {pos p0 : Pos} {i0 : Int} {j0 : Nat} {E : Value → Shared → Prop} {Q : Value → Shared → Prop} (I : Inv X pins σ H s) (TB : TabB X.base X.mg c P) (hcode : X.env.code = .ref c)
    (hm : (P, X.env.qual ++ "<lambda>") ∈ T) (hu : ∀ p ∈ T, p.1 = P → p.2 = X.env.qual ++ "<lambda>") (hT : Tabs T H) (hdef : defaultsOf params X.env = ([eval (.Constant (.int i0) j0 p0) X.env], [])) (hfree : ∀ y ∈ scope.names, y.2 = .free → ∃ c, X.env.cells.lookup y.1 = some c)
    (k : ∀ (f c' D : Addr) (t0 : Tok) (pm ctv : Value) (H1 : Hp) (s' : Shared), Inv X pins σ H1 s' → ExtN H H1 → Tabs T H1 → s'.heap.get? f = some (lamOb (X.env.qual ++ "<lambda>") params body scope (cloFrom X.env.cells scope.names []) pm c' ctv (.ref D)) →
      s'.heap.get? D = some { cls := .type "tuple", data := .seq #[.int i0 t0] } → H1 f = none → H1 D = none → f ∉ frs X.stack → D ∉ frs X.stack → H1 c' = some (CodeO c' (X.env.qual ++ "<lambda>")) → Q (.ref f) s') (hxe : E = X.xe) :
    wpAny (model X.prog X.w) X.A (eval (.Lambda params body scope pos) X.env) Q E s := by
  subst hxe
  rw [arm_eval_Lambda, hdef]
  show wpAny _ _ (do let dv ← evalAll [eval (.Constant (.int i0) j0 p0) X.env]; let kdv ← holding dv (evalAllOpt []); makeFunction "<lambda>" (X.env.qual ++ "<lambda>") params (.expr body) scope X.env dv kdv [] pos pos.line) Q X.xe s
  refine wpAny_bind (wpAny_bind (thn ((pe_int (X := X) (i := i0) (j := j0) (pos := p0)).run pins s σ H (fun v H' => v = .int i0 ∧ H' = H) I ⟨rfl, rfl⟩) fun u s1 ⟨v, H1, I1, r1, ev, eH⟩ => ?_))
  subst ev
  rw [eH] at I1
  obtain ⟨t0, rfl⟩ := r1
  refine wpAny_bind (wpAny_holding (wpAny_pure (wpAny_pure (wpAny_bind (wpAny_holding (wpAny_pure ?_))))))
  rw [makeFunction_eq]
  simp only [List.zip_nil_right, List.filterMap_nil, List.isEmpty_nil, List.isEmpty_cons, Bool.false_eq_true, if_false, if_true, pure_bind]
  refine wpAny_bind (wpAny_newTextTuple ?_)
  have eD : (s1.heap.push { cls := .type "tuple", data := .seq [Value.int i0 t0].toArray }).get? s1.heap.objs.size = some { cls := .type "tuple", data := .seq #[.int i0 t0] } := Heap.get?_push_size _ rfl
  have I2 : Inv X pins σ H { s1 with heap := s1.heap.push { cls := .type "tuple", data := .seq [Value.int i0 t0].toArray } } := I1.kept (t' := s1.toks) fun b o e => Heap.get?_push_of_some _ e
  have nD : H s1.heap.objs.size = none := I1.hok.fresh (Nat.le_refl _)
  have frN : ∀ f, s1.heap.objs.size ≤ f → f ∉ frs X.stack := fun f hf z => by
    rcases List.mem_cons.mp (I1.stkSub _ z) with e | e
    · have q1 := I1.lt
      rw [← e] at q1
      exact Nat.lt_irrefl _ (Nat.lt_of_lt_of_le q1 hf)
    · exact I1.nofs hf e
  have frD := frN s1.heap.objs.size (Nat.le_refl _)
  have szD : s1.heap.objs.size ≤ (s1.heap.push { cls := .type "tuple", data := .seq [Value.int i0 t0].toArray }).objs.size := by rw [Heap.size_push]; omega
  generalize s1.heap.objs.size = D at eD nD frN frD szD
  generalize hs2 : ({ s1 with heap := s1.heap.push { cls := .type "tuple", data := .seq [Value.int i0 t0].toArray } } : Shared) = s2 at I2
  have eh : s2.heap = s1.heap.push { cls := .type "tuple", data := .seq [Value.int i0 t0].toArray } := by rw [← hs2]
  rw [← eh] at eD szD
  obtain ⟨ps, tP, tt, ta⟩ := hT _ hm
  have bP : s2.heap.BuiltinsAt X.mg P := TB.bm.keeps I2.bk
  have oP : s2.heap.get? P = some { cls := .none, data := .fields ps } := I2.hok P _ tP
  cases hc : codeAmong pos ps.toList with
  | none =>
    refine tail_new (mg := X.mg) (closure_ok hfree) I2.ok.glob (I2.mod.glob.keeps I2.bk) hcode (TB.code.keeps I2.bk) oP tt hc TB.gP bP fun c' ctv h' tk x1 x2 x3 x4 x5 => ?_
    obtain ⟨c2, oc, vs, t, y1, y2, y3, y4⟩ := x4
    cases y1
    have nC : H c' = none := I2.hok.fresh x2
    have sz2 : s2.heap.objs.size ≤ h'.objs.size := Nat.le_trans x2 (Nat.le_of_lt x3)
    have J := inv_table (t' := tk) (more := #[rawInt pos.line, rawInt pos.col, .ref c']) (h' := h'.push (lamOb (X.env.qual ++ "<lambda>") params body scope (cloFrom X.env.cells scope.names []) ((X.mg "__name__").getD .none) c' ctv (.ref D))) I2 tP
      (fun b o hb e => Heap.get?_push_of_some _ (x1 b o hb e)) (Heap.get?_push_of_some _ x5) x2 ⟨oc, vs, t, Heap.get?_push_of_some _ y2, y3, y4⟩
    have nPC : P ≠ c' := ne_of_none tP nC
    have eN : ExtN H (upd (upd H P (.tbl (ps ++ #[rawInt pos.line, rawInt pos.col, .ref c']))) c' (CodeO c' (X.env.qual ++ "<lambda>"))) := fun b o e n => by
      have n1 : b ≠ P := fun z => by
        rw [z, tP] at e
        exact n ps (Option.some.inj e).symm
      rw [upd_ne (ne_of_none e nC), upd_ne n1]
      exact e
    have eL : (ps ++ #[rawInt pos.line, rawInt pos.col, .ref c']).toList = ps.toList ++ [rawInt pos.line, rawInt pos.col, .ref c'] := by simp
    have eD2 : (h'.push (lamOb (X.env.qual ++ "<lambda>") params body scope (cloFrom X.env.cells scope.names []) ((X.mg "__name__").getD .none) c' ctv (.ref D))).get? D = some { cls := .type "tuple", data := .seq #[.int i0 t0] } := by
      refine Heap.get?_push_of_some _ (x1 D _ (fun z => ?_) eD)
      rw [z, tP] at nD
      cases nD
    have lD : D < s2.heap.objs.size := Heap.lt_size eD
    have nDc : D ≠ c' := Nat.ne_of_lt (Nat.lt_of_lt_of_le lD x2)
    have nDP : D ≠ P := fun z => by rw [z, tP] at nD; cases nD
    refine k h'.objs.size c' D t0 ((X.mg "__name__").getD .none) ctv _ _ J eN (fun p hp => ?_) (Heap.get?_push_size _ rfl) eD2 ?_ ?_ (frN _ (Nat.le_trans szD sz2)) frD upd_same
    · by_cases hb : p.1 = P
      · rw [hu p hp hb, hb]
        refine ⟨_, by rw [upd_ne nPC, upd_same], by rw [eL]; exact PySem.TriplesOk_snoc _ _ _ _ tt, fun p' cv hcv => ?_⟩
        rw [eL] at hcv
        rcases among_app _ tt hcv with z | z
        · obtain ⟨c0, w1, w2⟩ := ta p' cv z
          exact ⟨c0, w1, eN _ _ w2 codeO_ne⟩
        · exact ⟨c', z, upd_same⟩
      · obtain ⟨ps2, a1, a2, a3⟩ := hT p hp
        refine ⟨ps2, by rw [upd_ne (ne_of_none a1 nC), upd_ne hb]; exact a1, a2, fun p' cv hcv => ?_⟩
        obtain ⟨c0, w1, w2⟩ := a3 p' cv hcv
        exact ⟨c0, w1, eN _ _ w2 codeO_ne⟩
    · rw [upd_ne (Nat.ne_of_gt x3), upd_ne (Nat.ne_of_gt (Nat.lt_of_lt_of_le (Heap.lt_size oP) sz2))]
      exact I2.hok.fresh sz2
    · rw [upd_ne nDc, upd_ne nDP]
      exact nD
  | some cv =>
    obtain ⟨c', y1, y2⟩ := ta pos cv hc
    subst y1
    refine tail_hit (mg := X.mg) (closure_ok hfree) I2.ok.glob (I2.mod.glob.keeps I2.bk) hcode (TB.code.keeps I2.bk) oP tt hc bP fun ctv h' tk x1 x2 => ?_
    have J : Inv X pins σ H { s2 with heap := h'.push (lamOb (X.env.qual ++ "<lambda>") params body scope (cloFrom X.env.cells scope.names []) ((X.mg "__name__").getD .none) c' ctv (.ref D)), toks := tk } := I2.kept fun b o e => Heap.get?_push_of_some _ (x1 b o e)
    exact k h'.objs.size c' D t0 ((X.mg "__name__").getD .none) ctv H _ J (ExtN.refl H) hT (Heap.get?_push_size _ rfl) (Heap.get?_push_of_some _ (x1 _ _ eD)) (I2.hok.fresh x2) nD (frN _ (Nat.le_trans szD x2)) frD y2
end
end Om

namespace Om
open PySem PySem.Spec PyProof.Rows L2 LamX
/-- the lambda's names: parameters (none of the maker's names), captured ones, globals -/
structure LamG (N : List Str) (sc scope : Scope) (xs : List Str) : Prop where
  kind : scope.kind = .function
  co : scope.isCoroutine = false
  gen : scope.isGenerator = false
  own : ∀ y ∈ scope.names, y.2 ≠ .cell ∧ (y.2 = .local → y.1 ∉ N)
  free : ∀ y ∈ scope.names, y.2 = .free → sc.names.lookup y.1 = some .cell ∨ sc.names.lookup y.1 = some .free
  par : ∀ x ∈ xs, scope.names.lookup x = some .local
def lamGB (N : List Str) (sc scope : Scope) (xs : List Str) : Bool :=
  decide (scope.kind = .function) && (!scope.isCoroutine && (!scope.isGenerator && ((scope.names.all fun y => !decide (y.2 = .cell) && (!decide (y.2 = .local) || !decide (y.1 ∈ N))) &&
    ((scope.names.all fun y => !decide (y.2 = .free) || (decide (sc.names.lookup y.1 = some .cell) || decide (sc.names.lookup y.1 = some .free))) && xs.all fun x => decide (scope.names.lookup x = some .local)))))
theorem lamG_by {N : List Str} {sc scope : Scope} {xs : List Str} (h : lamGB N sc scope xs = true) : LamG N sc scope xs := by
  unfold lamGB at h
  simp only [Bool.and_eq_true, Bool.or_eq_true, Bool.not_eq_true', decide_eq_true_eq, decide_eq_false_iff_not, List.all_eq_true] at h
  obtain ⟨h1, h2, h3, h4, h5, h6⟩ := h
  refine ⟨h1, h2, h3, fun y hy => ⟨(h4 y hy).1, fun e => ?_⟩, fun y hy e => ?_, h6⟩
  · rcases (h4 y hy).2 with z | z
    · exact absurd e z
    · exact z
  · rcases h5 y hy with z | z
    · exact absurd e z
    · exact z
theorem LamG.has {X : Cx} {N : List Str} {scope : Scope} {xs : List Str} (L : LamG N X.env.scope scope xs) (ok : X.Ok) : ∀ y ∈ scope.names, y.2 = .free → ∃ c, X.env.cells.lookup y.1 = some c := fun y hy e => (L.free y hy e).elim (fun k => ok.has _ (.inl k)) fun k => ok.has _ (.inr k)
section
variable {X : Cx} {pins : List (Addr × Obj)} {σ : L2.St} {H HZ : Hp} {s s1 : Shared}
theorem lam_startG {A : Around} {outer : List Env} {E : XK} {scope : Scope} {xs : List Str} {binds : List (Str × Value)} {f c' : Addr} {h1 : Heap} {tk : Nat} (I : Inv X pins σ H s) (L : LamG X.N X.env.scope scope xs) (e0 : Env0 X.prog X.w X.K X.mg X.base A outer s1 HZ)
    (hd : A.handled = none) (un : Un (frs X.stack) [] H HZ s.heap s1.heap) (hns : h1.Ns s1.heap.objs.size fun y => binds.reverse.lookup y) (kp : ∀ b o, s1.heap.get? b = some o → h1.get? b = some o) :
    Inv (lamCx X A outer s1 HZ E scope f c') [] σ HZ { s1 with heap := h1, toks := tk } := by
  have frees := L.has I.ok
  have cm : ∀ {y c}, (cloFrom X.env.cells scope.names []).lookup y = some c → X.env.cells.lookup y = some c := fun {y c} e => by
    rcases cloFrom_mem (PySem.mem_of_lookup e) with m | ⟨z1, z2⟩
    · cases m
    · obtain ⟨c1, z3⟩ := frees _ z1 rfl
      have z3 : X.env.cells.lookup y = some c1 := z3
      obtain rfl : c = c1 := by rw [z2, z3]; rfl
      exact z3
  have lk : ∀ {y}, scope.names.lookup y = some .free → ∃ c, (cloFrom X.env.cells scope.names []).lookup y = some c := fun {y} e =>
    mem_lookup (cloFrom_has (cells := X.env.cells) (acc := []) (show (y, NameKind.free) ∈ scope.names from PySem.mem_of_lookup e))
  have cellK : ∀ {c : Addr} {v : Option Value}, H c = none → s.heap.IsCell c v → h1.IsCell c v := fun {c v} n ⟨o, z1, z2⟩ => by
    obtain ⟨sl, q⟩ := un.any z1 n (by simp)
    exact ⟨_, kp _ _ q, z2⟩
  have nx : ∀ b : Addr, b ∉ (lamCx X A outer s1 HZ E scope f c').ex := fun b z => by cases z
  have visN : ∀ (i : Nat) (y : Str), X.N[i]? = some y → Vis scope y → scope.names.lookup y = some .free := fun i y e v => by
    rcases v with z | z | z
    · exact absurd (List.mem_of_getElem? e) ((L.own _ (PySem.mem_of_lookup z)).2 rfl)
    · exact absurd rfl (L.own _ (PySem.mem_of_lookup z)).1
    · exact z
  have okC : (lamCx X A outer s1 HZ E scope f c').Ok := {
    mod := e0.mod, kind := L.kind, glob := rfl, blt := rfl, above := Nat.le_refl _
    inj := fun y z c z1 z2 => I.ok.inj y z c (cm z1) (cm z2)
    has := fun y hy => by
      rcases (show scope.names.lookup y = some .cell ∨ scope.names.lookup y = some .free from hy) with z | z
      · exact absurd rfl (L.own _ (PySem.mem_of_lookup z)).1
      · exact lk z
    cab := fun y c z _ => by cases (show false = true from z)
    hd := fun _ => hd, frames := Around.frames_deeper e0.frames, stk := .inr ⟨rfl, rfl⟩, exf := fun b z => absurd z (nx b), bs := e0.bs, bsz := e0.bsz, noex := fun b _ _ => nx b, exfs := fun b z => absurd z (nx b), funs := e0.funs, frf := e0.frf }
  exact {
    ok := okC, os := rfl, bare := e0.bare, base := Un.kept kp
    loc := ⟨_, hns, fun i y v z1 z2 z3 => by
      have fr := visN i y z1 z3
      obtain ⟨m, mn, ml⟩ := I.loc
      obtain ⟨u, r, q⟩ := ml i y v z1 z2 ((L.free _ (PySem.mem_of_lookup fr) rfl).elim (fun k => .inr (.inl k)) fun k => .inr (.inr k))
      obtain ⟨c2, y2⟩ := lk fr
      refine ⟨u, r, .inr ⟨.inr fr, c2, y2, ?_⟩⟩
      rcases q with ⟨q1, _⟩ | ⟨_, c3, q2, q3⟩
      · have q1 : X.env.scope.names.lookup y = some .local := q1
        rcases L.free _ (PySem.mem_of_lookup fr) rfl with w | w
        · rw [show X.env.scope.names.lookup y = _ from w] at q1; cases q1
        · rw [show X.env.scope.names.lookup y = _ from w] at q1; cases q1
      · rw [cm y2] at q2
        cases q2
        exact cellK (I.freeC y _ (cm y2)) q3⟩
    cell := fun y c z => let ⟨v, q⟩ := I.cell y c (cm z); ⟨v, cellK (I.freeC y c (cm z)) q⟩
    free := e0.hok.fresh (Nat.le_refl _)
    freeC := fun y c z => let ⟨v, o, q, _⟩ := I.cell y c (cm z); un.free c o q (I.freeC y c (cm z)) (by simp)
    pin := fun q hq => by cases (show q ∈ ([] : List (Addr × Obj)) ++ [] from hq)
    hok := e0.hok.kept kp
    len := I.len }
/-- x(), in the def that got the lambda (in slot 0) -/
theorem pe_actG {CXg : CXT} {Eg : XK} {Ng : List Str} {qg : Str} {sg : Scope} {g f c' : Addr} {cdg pm ctv dV : Value} {params : Arguments} {body : Expr} {scope : Scope} {xs : List Str} {binds : List (Str × Value)} {hold : List (Addr × Obj)} {k : Nat} {a : Str} {pn : List (Addr × Obj)} {xe : Value → Shared → Prop} {W : WX} {tb : XK → TE} {p1 p2 : Pos}
    (I : Inv X pins σ H s) (L : LamG X.N X.env.scope scope xs) (hf : s.heap.get? f = some (lamOb (X.env.qual ++ "<lambda>") params body scope (cloFrom X.env.cells scope.names []) pm c' ctv dV)) (hfn : H f = none) (hfr : f ∉ frs X.stack)
    (hh : ∀ p ∈ hold, s.heap.get? p.1 = some p.2 ∧ H p.1 = none ∧ p.1 ∉ frs X.stack) (hbn : ∀ s' : Shared, (∀ p ∈ hold, s'.heap.get? p.1 = some p.2) → BindsTo s' (lamFd (X.env.qual ++ "<lambda>") params body scope (cloFrom X.env.cells scope.names []) pm c' ctv dV) ⟨[], []⟩ binds)
    (hbx : ∀ y ∈ binds, y.1 ∈ xs)
    (tk : Takes ((cxOf CXg X.prog X.w X.K X.mg X.base Ng qg sg g cdg X.A X.stack s H Eg).tr pn xe) W) (hr : Room (k + 1) (X.A.deeper (envOfC qg sg s.heap.objs.size g cdg)))
    (hbody : ∀ (A : Around) (outer : List Env) (s : Shared) (H : Hp) (E : XK), Room k (A.deeper (lamEnv X scope s.heap.objs.size f c')) → PE (lamCx X A outer s H E scope f c') body (tb E))
    (hN : Ng[0]? = some a) (hv : Vis sg a) (hd : (a == ("__debug__" : Str)) = false := by decide) (hcd : (a == ("__classdict__" : Str)) = false := by decide) :
    PE ((cxOf CXg X.prog X.w X.K X.mg X.base Ng qg sg g cdg X.A X.stack s H Eg).tr pn xe) (.Call (.Name a p1) [] [] p2)
      (fun σZ HZ Q => σZ[0]? = some (some (.ref f)) ∧ HZ c' = some (CodeO c' (X.env.qual ++ "<lambda>")) ∧ ∃ E : XK, (∀ cls d H', E cls d H' → W cls d σZ H') ∧ tb E σ HZ Q) := by
  constructor
  rintro pinsZ sZ σZ HZ Q IZ ⟨hs, hc, E, hW, ht⟩
  refine wpAny_Call_Name_kw (thn ((pe_var (pos := p1) (i := 0) hN hv hd hcd).run pinsZ sZ σZ HZ (fun v H1 => v = .ref f ∧ H1 = HZ) IZ ⟨.ref f, hs, rfl, rfl⟩) fun u s1 ⟨v, H1, I1, r1, ev, eH⟩ => ?_)
  subst ev
  rw [eH] at I1
  obtain rfl : u = Value.ref f := r1
  have of1 := I1.base.keep f _ hf hfn hfr (by intro z; cases z)
  have hold1 : ∀ p ∈ hold, s1.heap.get? p.1 = some p.2 := fun p hp => let ⟨z1, z2, z3⟩ := hh p hp; I1.base.keep p.1 _ z1 z2 z3 (by intro z; cases z)
  have un : Un (frs X.stack) [] H HZ s.heap s1.heap := I1.base
  obtain ⟨⟨oc, vs, t, y1, y2, y3⟩, _, _⟩ := I1.hok c' _ hc
  have called : codeAny (model X.prog X.w) (X.A.deeper (envOfC qg sg s.heap.objs.size g cdg)) (.call (.ref f) ⟨[], []⟩) (CR (L2.CX X.prog X.w) (envOfC qg sg s.heap.objs.size g cdg :: X.stack) X.prog X.w HZ s1 Q E) s1 := by
    refine PySem.W.kla_callFunE hr.depth of1 rfl L.co L.gen rfl ⟨c', oc, vs, t, rfl, y1, y2, y3⟩ (hbn s1 hold1 _ _ _ _ (wpAny_newFunctionEnv (fun y hy => (L.own y hy).1) (fun y hy => L.par _ (hbx y hy)) (fun h1 hns hsb => ⟨I1.nolimit.fresh _ hsb, ?_⟩) L.kind))
    have kp : ∀ b o, s1.heap.get? b = some o → h1.get? b = some o := fun b o e => hsb.extBut b o (Nat.ne_of_lt (Heap.lt_size e)) (Heap.get?_push_of_some _ e)
    have J : Inv (lamCx X (X.A.deeper (envOfC qg sg s.heap.objs.size g cdg)) (envOfC qg sg s.heap.objs.size g cdg :: X.stack) s1 HZ E scope f c') [] σ HZ { s1 with heap := h1, toks := s1.toks + binds.length } := lam_startG I L I1.env0 hr.hd un hns kp
    refine PySem.W.kla_codeExpr (wpAny_mono ((hbody _ _ s1 HZ E (hr.deeper _)).run [] _ _ HZ Q J ht) (fun v s' ⟨w', H', J', rv, q⟩ => ⟨w', H', J'.os, J'.bare, J'.base, J'.hok, rv, q⟩) fun e s' hq => hq)
  refine PySem.W.callWith_F0 ⟨_, _, _, _, of1⟩ (wpAny_call (codeAny_mono called fun r s' hq => ?_))
  match r, hq with
  | .error e, hq => exact tk _ _ (XE.of_call I1 hW hq)
  | .ok (.ret u), hq => exact I1.after hq
  | .ok .next, hq => exact False.elim hq
  | .ok .brk, hq => exact False.elim hq
  | .ok .cont, hq => exact False.elim hq
end
end Om

namespace Om
open PySem PySem.Spec PyProof.Rows L2 LamX
/-- the def at g calls what it got (in slot 0, its name a); TT: what it makes of the lambda's reading -/
def GivesG (X : Cx) (Ng : List Str) (x : Str) (sg : Scope) (g : Addr) (cdg : Value) (bg : List Stmt) (a : Str) (q : Str) (TT : (XK → Hp → VK → Prop) → Hp → VK → Prop) : Prop :=
  ∀ (f c' : Addr) (s : Shared) (H : Hp) (Q : VK) (tl : XK → Hp → VK → Prop),
    (∀ (W : WX) (pn : List (Addr × Obj)) (xe : Value → Shared → Prop) (p1 p2 : Pos), Takes ((cxOf L2.CX0 X.prog X.w X.K X.mg X.base Ng x sg g cdg X.A X.stack s H L2.E0).tr pn xe) W →
      PE ((cxOf L2.CX0 X.prog X.w X.K X.mg X.base Ng x sg g cdg X.A X.stack s H L2.E0).tr pn xe) (.Call (.Name a p1) [] [] p2) (fun σZ HZ Q => σZ[0]? = some (some (.ref f)) ∧ HZ c' = some (CodeO c' q) ∧ ∃ E : XK, (∀ cls d H', E cls d H' → W cls d σZ H') ∧ tl E HZ Q)) →
    H c' = some (CodeO c' q) → Room 2 (X.A.deeper (envOfC x sg s.heap.objs.size g cdg)) → TT tl H Q →
    ∃ t, PSs (cxOf L2.CX0 X.prog X.w X.K X.mg X.base Ng x sg g cdg X.A X.stack s H L2.E0).nox bg t ∧ t { nx := fun _ H' => Q .non H', rt := Q } (L2.start Ng [.ref f]) H
section
variable {X : Cx}
/-- behind the making: the def is called with the lambda -/
theorem lam_given {T : List (Addr × Str)} {TT : (XK → Hp → VK → Prop) → Hp → VK → Prop} {x a : Str} {g f c' : Addr} {k : Nat} {pg : Arguments} {bg : List Stmt} {sg : Scope} {dG kG doc pmg cdg ctg oc pm ctv dV : Value} {an od : Option Addr} {osl : Array (Option Value)} {Ng : List Str}
    {params : Arguments} {body : Expr} {scope : Scope} {t : XK → TE} {xs : List Str} {binds : List (Str × Value)} {hold : List (Addr × Obj)} {pins : List (Addr × Obj)} {σ : L2.St} {H1 : Hp} {s' : Shared} {Q : VK} {E' : Value → Shared → Prop}
    (lk : X.K.lookup g = some ⟨oc, od, .func (PySem.W.fnOf x x pg bg sg dG kG doc pmg an cdg ctg), osl⟩) (hcg : PySem.W.codeIn X.K cdg x = true) (hb : L2.Binds X.K (PySem.W.fnOf x x pg bg sg dG kG doc pmg an cdg ctg) [a] []) (Sg : FnScope Ng [a] sg) (hNg : Ng[0]? = some a) (hva : Vis sg a)
    (hG : GivesG X Ng x sg g cdg bg a (X.env.qual ++ "<lambda>") TT) (hr : Room (k + 2) X.A) (hr3 : Room 3 X.A) (L : LamG X.N X.env.scope scope xs) (I1 : Inv X pins σ H1 s')
    (hf : s'.heap.get? f = some (lamOb (X.env.qual ++ "<lambda>") params body scope (cloFrom X.env.cells scope.names []) pm c' ctv dV)) (hfn : H1 f = none) (hfr : f ∉ frs X.stack)
    (hh : ∀ p ∈ hold, s'.heap.get? p.1 = some p.2 ∧ H1 p.1 = none ∧ p.1 ∉ frs X.stack) (hbn : ∀ s' : Shared, (∀ p ∈ hold, s'.heap.get? p.1 = some p.2) → BindsTo s' (lamFd (X.env.qual ++ "<lambda>") params body scope (cloFrom X.env.cells scope.names []) pm c' ctv dV) ⟨[], []⟩ binds)
    (hbx : ∀ y ∈ binds, y.1 ∈ xs) (hco : H1 c' = some (CodeO c' (X.env.qual ++ "<lambda>"))) (hT : TT (fun E H' Q' => t E σ H' Q') H1 Q)
    (hbody : ∀ (A : Around) (outer : List Env) (s : Shared) (H : Hp) (E : XK), Room k (A.deeper (lamEnv X scope s.heap.objs.size f c')) → PE (lamCx X A outer s H E scope f c') body (t E))
    (hd : (a == ("__debug__" : Str)) = false := by decide) (hcd : (a == ("__classdict__" : Str)) = false := by decide) :
    wpAny (model X.prog X.w) X.A (call (.ref g) [.ref f]) (EP X pins σ Q) E' s' := by
  have called : codeAny (model X.prog X.w) X.A (.call (.ref g) ⟨[.ref f], []⟩) (CR L2.CX0 X.stack X.prog X.w H1 s' Q L2.E0) s' := by
    refine run_ofS (k := k + 1) (N := Ng) (ps := [a]) (us := [.ref f]) (vs := [.ref f]) lk hcg Sg hr I1.env0 (hb s' [.ref f] I1.kIn rfl) (.cons rfl .nil) rfl fun hr' => ?_
    obtain ⟨t', z1, z2⟩ := hG f c' s' H1 Q (fun E H' Q' => t E σ H' Q') (fun W pn xe p1 p2 tk => pe_actG I1 L hf hfn hfr hh hbn hbx tk hr' hbody hNg hva hd hcd) hco (hr3.deeper _) hT
    exact ⟨t', z1.nox, z2⟩
  refine wpAny_call (codeAny_mono called fun r s2 hq => ?_)
  match r, hq with
  | .error e, hq => exact (show False from hq).elim
  | .ok (.ret u), hq => exact I1.after hq
  | .ok .next, hq => exact False.elim hq
  | .ok .brk, hq => exact False.elim hq
  | .ok .cont, hq => exact False.elim hq
/-- x(lambda: body) -/
theorem pe_lamG0 {T : List (Addr × Str)} {TT : (XK → Hp → VK → Prop) → Hp → VK → Prop} {x a : Str} {g c P : Addr} {k : Nat} {pg : Arguments} {bg : List Stmt} {sg : Scope} {dG kG doc pmg cdg ctg oc : Value} {an od : Option Addr} {osl : Array (Option Value)} {Ng : List Str}
    {params : Arguments} {body : Expr} {scope : Scope} {t : XK → TE} {p lpos pos : Pos} (hg : Gl X x) (hm : X.mg x = some (.ref g)) (hk : PySem.W.keepIn X.K (.ref g) = true)
    (lk : X.K.lookup g = some ⟨oc, od, .func (PySem.W.fnOf x x pg bg sg dG kG doc pmg an cdg ctg), osl⟩) (hcg : PySem.W.codeIn X.K cdg x = true) (hb : L2.Binds X.K (PySem.W.fnOf x x pg bg sg dG kG doc pmg an cdg ctg) [a] []) (Sg : FnScope Ng [a] sg) (hNg : Ng[0]? = some a) (hva : Vis sg a)
    (hG : GivesG X Ng x sg g cdg bg a (X.env.qual ++ "<lambda>") TT)
    (TB : TabB X.base X.mg c P) (hcode : X.env.code = .ref c) (hmT : (P, X.env.qual ++ "<lambda>") ∈ T) (hu : ∀ p ∈ T, p.1 = P → p.2 = X.env.qual ++ "<lambda>") (hr : Room (k + 2) X.A) (hr3 : Room 3 X.A) (L : LamG X.N X.env.scope scope []) (hdef : defaultsOf params X.env = ([], []))
    (hbind : ∀ (q : Str) (cl : List (Str × Addr)) (pm : Value) (c' : Addr) (ctv : Value), bindArgs (lamFd q params body scope cl pm c' ctv .none) ⟨[], []⟩ = pure [])
    (hbody : ∀ (A : Around) (outer : List Env) (s : Shared) (H : Hp) (E : XK) (f c' : Addr), Room k (A.deeper (lamEnv X scope s.heap.objs.size f c')) → PE (lamCx X A outer s H E scope f c') body (t E))
    (hdb : (x == ("__debug__" : Str)) = false := by decide) (hd : (a == ("__debug__" : Str)) = false := by decide) (hcd : (a == ("__classdict__" : Str)) = false := by decide) :
    PE X (.Call (.Name x p) [.Lambda params body scope lpos] [] pos) (tLam T TT t) := by
  constructor
  rintro pins s σ H Q I ⟨hT, h⟩
  refine wpAny_Call_Name_kw (ld_glob I hg hm (PySem.W.callWith_K (h₀ := X.base) I.ok.mod.kin hk ?_ (by rfl) (by rfl)) hdb)
  show wpAny _ _ (spliced ((false, eval (.Lambda params body scope lpos) X.env) :: backTo pos (starEach [] X.env))) _ _ s
  refine Calls.spliced_cons (lam_make2 I TB hcode hmT hu hT hdef (L.has I.ok) fun f c' pm' ctv H1 s' I1 eN T1 hf hfn hfr hco => Calls.spliced_nil ⟨I1.kIn, ?_⟩)
  exact lam_given (T := T) (dV := .none) (xs := []) (binds := []) (hold := []) lk hcg hb Sg hNg hva hG hr hr3 L I1 hf hfn hfr (fun p hp => by cases hp) (fun s' _ => BindsTo.of_eq (hbind _ _ _ _ _)) (fun y hy => by cases hy) hco (h H1 eN T1) (fun A outer s H E hr2 => hbody A outer s H E f c' hr2) hd hcd
/-- x(lambda y=i: body) -/
theorem pe_lamG1 {T : List (Addr × Str)} {TT : (XK → Hp → VK → Prop) → Hp → VK → Prop} {x a y : Str} {g c P : Addr} {k : Nat} {pg : Arguments} {bg : List Stmt} {sg : Scope} {dG kG doc pmg cdg ctg oc : Value} {an od : Option Addr} {osl : Array (Option Value)} {Ng : List Str}
    {params : Arguments} {body : Expr} {scope : Scope} {t : XK → TE} {p lpos pos p0 : Pos} {i0 : Int} {j0 : Nat} (hg : Gl X x) (hm : X.mg x = some (.ref g)) (hk : PySem.W.keepIn X.K (.ref g) = true)
    (lk : X.K.lookup g = some ⟨oc, od, .func (PySem.W.fnOf x x pg bg sg dG kG doc pmg an cdg ctg), osl⟩) (hcg : PySem.W.codeIn X.K cdg x = true) (hb : L2.Binds X.K (PySem.W.fnOf x x pg bg sg dG kG doc pmg an cdg ctg) [a] []) (Sg : FnScope Ng [a] sg) (hNg : Ng[0]? = some a) (hva : Vis sg a)
    (hG : GivesG X Ng x sg g cdg bg a (X.env.qual ++ "<lambda>") TT)
    (TB : TabB X.base X.mg c P) (hcode : X.env.code = .ref c) (hmT : (P, X.env.qual ++ "<lambda>") ∈ T) (hu : ∀ p ∈ T, p.1 = P → p.2 = X.env.qual ++ "<lambda>") (hr : Room (k + 2) X.A) (hr3 : Room 3 X.A) (L : LamG X.N X.env.scope scope [y]) (hdef : defaultsOf params X.env = ([eval (.Constant (.int i0) j0 p0) X.env], []))
    (hbind : ∀ (q : Str) (cl : List (Str × Addr)) (pm : Value) (c' : Addr) (ctv : Value) (D : Addr) (v : Value), ∃ kk : Option (Array Value) → Sem (List (Str × Value)), bindArgs (lamFd q params body scope cl pm c' ctv (.ref D)) ⟨[], []⟩ = seqItems? (.ref D) >>= kk ∧ kk (some #[v]) = pure [(y, v)])
    (hbody : ∀ (A : Around) (outer : List Env) (s : Shared) (H : Hp) (E : XK) (f c' : Addr), Room k (A.deeper (lamEnv X scope s.heap.objs.size f c')) → PE (lamCx X A outer s H E scope f c') body (t E))
    (hdb : (x == ("__debug__" : Str)) = false := by decide) (hd : (a == ("__debug__" : Str)) = false := by decide) (hcd : (a == ("__classdict__" : Str)) = false := by decide) :
    PE X (.Call (.Name x p) [.Lambda params body scope lpos] [] pos) (tLam T TT t) := by
  constructor
  rintro pins s σ H Q I ⟨hT, h⟩
  refine wpAny_Call_Name_kw (ld_glob I hg hm (PySem.W.callWith_K (h₀ := X.base) I.ok.mod.kin hk ?_ (by rfl) (by rfl)) hdb)
  show wpAny _ _ (spliced ((false, eval (.Lambda params body scope lpos) X.env) :: backTo pos (starEach [] X.env))) _ _ s
  refine Calls.spliced_cons (lam_mk1 I TB hcode hmT hu hT hdef (L.has I.ok) (fun f c' D t0 pm' ctv H1 s' I1 eN T1 hf hD hfn hDn hfr hDr hco => Calls.spliced_nil ⟨I1.kIn, ?_⟩) rfl)
  refine lam_given (T := T) (dV := .ref D) (xs := [y]) (binds := [(y, .int i0 t0)]) (hold := [(D, { cls := .type "tuple", data := .seq #[.int i0 t0] })]) lk hcg hb Sg hNg hva hG hr hr3 L I1 hf hfn hfr (fun p hp => ?_) (fun s2 hs2 => ?_) (fun z hz => ?_) hco (h H1 eN T1) (fun A outer s H E hr2 => hbody A outer s H E f c' hr2) hd hcd
  · rw [List.mem_singleton.mp hp]
    exact ⟨hD, hDn, hDr⟩
  · obtain ⟨kk, z1, z2⟩ := hbind (X.env.qual ++ "<lambda>") (cloFrom X.env.cells scope.names []) pm' c' ctv D (.int i0 t0)
    intro M A' E2 Q2 hq
    rw [z1]
    refine wpAny_bind (wpAny_seqItems (hs2 _ (List.mem_singleton.mpr rfl)) rfl ?_)
    rw [z2]
    exact wpAny_pure hq
  · rw [List.mem_singleton.mp hz]
    exact List.mem_singleton.mpr rfl
end
end Om

namespace Om
open PySem PySem.Spec PyProof.Rows L2 LamX
/-! ### xs.count(y), the items flat -/
def rCntF (K : PySem.W.Frag) : V → List V → Hp → VK → Prop := fun x vs H Q => ∃ (p : Addr) (ys : List V) (y : V), x = .ref p ∧ vs = [y] ∧ SqL K H p ys ∧ flatV y = true ∧ ys.all flatV = true ∧ Q (.int ((ys.countP fun z => eqV z y) : Nat)) H
theorem cnt_flat {y : V} {uy : Value} : ∀ {ys : List V} {us : List Value}, Vals ys us → ys.all flatV = true → us.countP (eqU y) = ys.countP fun z => eqV z y
  | _, _, .nil, _ => rfl
  | v :: vs, u :: us, .cons r rr, hf => by
    simp only [List.all_cons, Bool.and_eq_true] at hf
    rw [List.countP_cons, List.countP_cons, cnt_flat (uy := uy) rr hf.2, eqU_of r hf.1]
theorem mt_countF {X : Cx} : MtR X "list.count" (rCntF X.K) := by
  rintro pins s σ H x xs v us Q I rx rxs ⟨p, ys, y, rfl, rfl, hs, fy, fys, q⟩
  cases rx
  cases rxs with
  | @cons _ uy _ ut ry rt =>
    cases rt
    obtain ⟨its, rv, ⟨⟨cls, dd, data, sl⟩, n, ho, hc, hdn, hd⟩, hlen⟩ := I.list hs
    simp only at hc hd
    subst hc hd
    refine call_meets PySem.F.slot_list_count ⟨_, ho, rfl⟩ PySem.F.entry_list_count (PySem.F.args_list_count_2 _ _) (SeqAt.list_countAt p its.toArray n dd sl uy (eqU y)) ⟨ho, fun u' hu' => mem_eqAt ry fy rv fys u' (by simpa using hu'), ?_⟩
    have ec : its.toArray.toList.countP (eqU y) = ys.countP fun z => eqV z y := cnt_flat (uy := uy) rv fys
    refine ⟨.int ((ys.countP fun z => eqV z y) : Nat), H, I.tok _, ⟨s.toks, ?_⟩, q⟩
    show Value.int ((its.toArray.toList.countP (eqU y) : Nat) : Int) s.toks = _
    rw [ec]
/-! ### isinstance(e, C), e the exception that the suite holds, of an own class -/
def rIsX (K : PySem.W.Frag) (a : Addr) (cls : Value) (d : Option Addr) : List V → Hp → VK → Prop := fun xs H Q => ∃ (D : Addr) (c : V) (cv : Value) (b : Bool), cls = .ref D ∧ ExcC K D ∧ xs = [.ref a, c] ∧ (∀ u, RelV c u → u = cv) ∧ PySem.W.kitOne K (.ref D) cv = some b ∧
  (∀ dd, d = some dd → ∃ fs, H dd = some (.xd fs)) ∧ Q (.bl b) H
theorem call_isX {X : Cx} {a : Addr} {cls : Value} {d : Option Addr} {oe : Obj} {pn : List (Addr × Obj)} (hz : Zc cls d oe) (hf : ∃ vs, oe.data = .fields vs) : CallR (X.suite a ((a, oe) :: pn)) (.builtin "isinstance") (rIsX X.K a cls d) := by
  rintro pins s σ H xs us Q I r ⟨D, c, cv, b, rfl, C, rfl, hcv, e, hd, q⟩
  cases r with
  | cons rx rr =>
    cases rr with
    | cons rt rr =>
      cases rr
      cases rx
      obtain rfl := hcv _ rt
      obtain ⟨hget, _⟩ := I.pin (a, oe) (List.mem_append.mpr (.inl List.mem_cons_self))
      obtain ⟨vs, hv⟩ := hf
      have no : PySem.W.notCls oe = true := by unfold PySem.W.notCls; rw [hv]
      have J : ∃ od, PySem.W.InstAt s.heap a oe D od := by
        cases d with
        | none => exact ⟨none, hget, hz.1, no, by rw [hz.2]; trivial⟩
        | some dd =>
          obtain ⟨fs, hx⟩ := hd dd rfl
          obtain ⟨mA, ⟨o, es, ep, ho, _⟩, _⟩ := I.hok dd _ hx
          exact ⟨some o, hget, hz.1, no, by rw [hz.2]; exact ho⟩
      obtain ⟨od, J⟩ := J
      have hcl : (PySem.W.clsIn X.K D).isSome = true := by
        obtain ⟨cd, hc, _⟩ := PySem.W.any_some C.hd
        rw [hc]
        rfl
      exact PySem.W.kia_one (PySem.W.kitx_exc (ox := oe) (od := od) hcl C.hg C.hk C.hs C.ha C.hn C.ht C.hm) I.kIn J e (fun z => nomatch z) fun tk => ⟨.bl b, H, I.kept (t' := tk) fun _ _ z => z, rfl, q⟩
end Om

namespace Om
open PySem PySem.Spec PyProof.Rows L2 LamX
abbrev sErr : Stmt := top 41
def nmE : Nat → Str
  | 0 => "InvalidIsland"
  | 1 => "InvalidMap"
  | 2 => "InvalidNumber"
  | 3 => "NoBeginning"
  | 4 => "NoWay"
  | 5 => "TooMany"
  | _ => "UnknownCell"
/-- what the top says of the errors' classes -/
structure ErrF (K : PySem.W.Frag) (mg : Str → Option Value) (C : Nat → Addr) (CM : Addr) : Prop where
  gM : mg "MapError" = some (.ref CM)
  g : ∀ i, i < 7 → mg (nmE i) = some (.ref (C i))
  exm : ∀ i, i < 7 → PySem.W.exmOne K (.ref (C i)) (.ref CM) = some true
  exc : ∀ i, i < 7 → ExcC K (C i)
  kit : ∀ i j, i < 7 → j < 7 → PySem.W.kitOne K (.ref (C i)) (.ref (C j)) = some (decide (j = i))
  kitV : ∀ i, i < 7 → PySem.W.kitOne K (.ref (C i)) (.type "ValueError") = some true
  xf0 : XfC K (C 0)
  noR : PySem.W.findIn K (.ref (C 0)) "row" = some none
  noC : PySem.W.findIn K (.ref (C 0)) "column" = some none
  xf1 : XfC K (C 1)
  noI : PySem.W.findIn K (.ref (C 1)) "index" = some none
  gi : mg "isinstance" = none
  gv : mg "ValueError" = none
/-- what _law_error makes of an error -/
inductive ErrOut (C : Nat → Addr) (Q : VK) : Value → Option Addr → Hp → Prop
  | isl {d : Addr} {x y : V} {H' : Hp} : H' d = some (.xd (xdII x y)) → (∀ p H2, H' p = none → Same H' H2 → H2 p = some (.tup [.str "InvalidIsland", x, y]) → Q (.ref p) H2) → ErrOut C Q (.ref (C 0)) (some d) H'
  | chart {d : Addr} {x : V} {H' : Hp} : H' d = some (.xd [(("index" : Str), x)]) → (∀ p H2, H' p = none → Same H' H2 → H2 p = some (.tup [.str "InvalidMap", x]) → Q (.ref p) H2) → ErrOut C Q (.ref (C 1)) (some d) H'
  | other {j : Nat} {H' : Hp} : 2 ≤ j → j < 7 → (∀ H2, Same H' H2 → Q (.str (nmE j)) H2) → ErrOut C Q (.ref (C j)) none H'
def TErr (C : Nat → Addr) : (XK → Hp → VK → Prop) → Hp → VK → Prop := fun tl H Q => tl (ErrOut C Q) H fun _ H' => Q (.str "") H'
/-! rules whose reading names the written part apart from the context -/
theorem isX_K {X : Cx} {K : PySem.W.Frag} {a : Addr} {cls : Value} {d : Option Addr} {oe : Obj} {pn : List (Addr × Obj)} (hK : X.K = K) (hz : Zc cls d oe) (hf : ∃ vs, oe.data = .fields vs) : CallR (X.suite a ((a, oe) :: pn)) (.builtin "isinstance") (rIsX K a cls d) := by
  subst hK
  exact call_isX hz hf
theorem bm_K {X : Cx} {K : PySem.W.Frag} {T id : String} {name : Str} {r : V → List V → Hp → VK → Prop} {o e : Expr} {es : List Expr} {to : TE} {t : TA} {apos cpos : Pos} (hK : X.K = K) (pa : PlainAttrs T) (slot : Slot T name id) (hty : typeOf (.builtin id) = pure (.type "method_descriptor")) (hm : MtR X id r) (ho : PE X o to) (ha : PA X (e :: es) t)
    (hbase : attributeBase o name X.env (eval o X.env) = eval o X.env := by rfl)
    (hfew : ((backTo cpos (starEach (e :: es) X.env)).all (fun x => !x.1) && (backToKw cpos (keywordEach [] X.env)).all (fun x => x.1.isSome) && decide ((e :: es).length + ([] : List Keyword).length + (if ([] : List Keyword).isEmpty then 0 else 1) < 30)) = true := by rfl)
    (hline : (apos.endLine == cpos.line) = true := by rfl) (hs : starEach (e :: es) X.env = (false, eval e X.env) :: starEach es X.env := by rfl) (hplain : (backTo cpos (starEach es X.env)).any (·.1) = false := by rfl) :
    PE X (.Call (.Attribute o name apos) (e :: es) [] cpos) (tBM K T r to t) := by
  subst hK
  exact pe_bm pa slot hty hm ho ha hbase hfew hline hs hplain
theorem cnt_K {X : Cx} {K : PySem.W.Frag} (hK : X.K = K) : MtR X "list.count" (rCntF K) := by
  subst hK
  exact mt_countF
theorem index_K {X : Cx} {K : PySem.W.Frag} (hK : X.K = K) : MtR X "list.index" (rIndex K) := by
  subst hK
  exact mt_index
theorem ixl_K {X : Cx} {K : PySem.W.Frag} (hK : X.K = K) : IxR X (rIxL K) := by
  subst hK
  exact ix_list
abbrev nErr : List Str := ["_law_work", "error", "_law_kinds", "_law_names", "_law_name"]
theorem scErr : FnScope nErr ["_law_work"] (defScope sErr) := ⟨rfl, rfl, rfl, by decide +kernel, rfl, by decide +kernel, by decide +kernel⟩
theorem iteT' {b : Bool} {A B : Prop} (h : b = true) (a : A) : if b = true then A else B := by
  rw [h, if_pos rfl]
  exact a
theorem iteF' {b : Bool} {A B : Prop} (h : b = false) (a : B) : if b = true then A else B := by
  rw [h, if_neg Bool.false_ne_true]
  exact a
def ksV (j : Nat) : List V := [.bl (decide (0 = j)), .bl (decide (1 = j)), .bl (decide (2 = j)), .bl (decide (3 = j)), .bl (decide (4 = j)), .bl (decide (5 = j)), .bl (decide (6 = j))]
def nmsV : List V := [.str (nmE 0), .str (nmE 1), .str (nmE 2), .str (nmE 3), .str (nmE 4), .str (nmE 5), .str (nmE 6)]
theorem ksV_flat (j : Nat) : (ksV j).all flatV = true := rfl
theorem ksV_count {j : Nat} (h : j < 7) : ((ksV j).countP fun z => eqV z (.bl true)) = 1 := by
  have e : ∀ j : Fin 7, ((ksV j).countP fun z => eqV z (.bl true)) = 1 := by decide
  exact e ⟨j, h⟩
theorem ksV_at {j : Nat} (h : j < 7) : (ksV j)[j]? = some (.bl true) := by
  have e : ∀ j : Fin 7, (ksV j)[j.val]? = some (.bl true) := by decide
  exact e ⟨j, h⟩
theorem ksV_ahead {j : Nat} (h : j < 7) {m : Nat} {z : V} (hm : m < j) (hz : (ksV j)[m]? = some z) : eqV z (.bl true) = false := by
  have e : ∀ j m : Fin 7, m.val < j.val → ((ksV j)[m.val]?.map fun z => eqV z (.bl true)) = some false := by decide
  have e2 := e ⟨j, h⟩ ⟨m, by omega⟩ hm
  rw [hz] at e2
  exact Option.some.inj e2
theorem nmsV_at {j : Nat} (h : j < 7) : atI nmsV ((j : Nat) : Int) = some (.str (nmE j)) := by
  refine atI_nat ?_
  have e : j = 0 ∨ j = 1 ∨ j = 2 ∨ j = 3 ∨ j = 4 ∨ j = 5 ∨ j = 6 := by omega
  rcases e with rfl | rfl | rfl | rfl | rfl | rfl | rfl <;> rfl
theorem nmE_inj {j : Nat} (h : j < 7) : (nmE j = nmE 0 ↔ j = 0) ∧ (nmE j = nmE 1 ↔ j = 1) := by
  have e : j = 0 ∨ j = 1 ∨ j = 2 ∨ j = 3 ∨ j = 4 ∨ j = 5 ∨ j = 6 := by omega
  rcases e with rfl | rfl | rfl | rfl | rfl | rfl | rfl <;> decide +kernel
section
variable {X : Cx} {C : Nat → Addr} {CM g : Addr} {cdg : Value} {q : Str}
theorem err_gives (T : ErrF X.K X.mg C CM) : GivesG X nErr "_law_error" (defScope sErr) g cdg (defBody sErr) "_law_work" q (TErr C) := by
  intro f c' s H Q tl act hc hr h
  have nd := scErr.nd
  refine ⟨_, pss_cons (ps_try_as (X := (cxOf L2.CX0 X.prog X.w X.K X.mg X.base nErr "_law_error" (defScope sErr) g cdg X.A X.stack s H L2.E0).nox) (i := 1) (c := .ref CM)
      (tb := fun W D σ H => σ[0]? = some (some (.ref f)) ∧ H c' = some (CodeO c' q) ∧ ∃ E : XK, (∀ cls d H', E cls d H' → W cls d σ H') ∧ tl E H (fun _ H' => D.nx σ H'))
      rfl rfl nd rfl rfl ⟨rfl, by decide, .inl T.gM⟩ L2.takes0 (fun W pn xe tk _ => ?_)
      (fun a oe cls d pn hz hf =>
        pss_cons (ps_set (i := 2) nd rfl (.inl rfl) (pe_lst (pa_cons (pe_callB (isX_K (K := X.K) rfl hz hf) (by rfl) T.gi (by decide +kernel) (pa_cons (pv 1) (pa_cons (pe_glob (v := .ref (C 0)) rfl (T.g 0 (by decide)) rfl) pa_nil)))
            (pa_cons (pe_callB (isX_K (K := X.K) rfl hz hf) (by rfl) T.gi (by decide +kernel) (pa_cons (pv 1) (pa_cons (pe_glob (v := .ref (C 1)) rfl (T.g 1 (by decide)) rfl) pa_nil)))
            (pa_cons (pe_callB (isX_K (K := X.K) rfl hz hf) (by rfl) T.gi (by decide +kernel) (pa_cons (pv 1) (pa_cons (pe_glob (v := .ref (C 2)) rfl (T.g 2 (by decide)) rfl) pa_nil))) pa_nil)))))
        (pss_cons (ps_set (i := 2) nd rfl (.inl rfl) (pe_op op_cat (pv 2) (pe_lst (pa_cons (pe_callB (isX_K (K := X.K) rfl hz hf) (by rfl) T.gi (by decide +kernel) (pa_cons (pv 1) (pa_cons (pe_glob (v := .ref (C 3)) rfl (T.g 3 (by decide)) rfl) pa_nil)))
            (pa_cons (pe_callB (isX_K (K := X.K) rfl hz hf) (by rfl) T.gi (by decide +kernel) (pa_cons (pv 1) (pa_cons (pe_glob (v := .ref (C 4)) rfl (T.g 4 (by decide)) rfl) pa_nil)))
            (pa_cons (pe_callB (isX_K (K := X.K) rfl hz hf) (by rfl) T.gi (by decide +kernel) (pa_cons (pv 1) (pa_cons (pe_glob (v := .ref (C 5)) rfl (T.g 5 (by decide)) rfl) pa_nil))) pa_nil))))))
        (pss_cons (ps_set (i := 2) nd rfl (.inl rfl) (pe_op op_cat (pv 2) (pe_lst (pa_cons (pe_callB (isX_K (K := X.K) rfl hz hf) (by rfl) T.gi (by decide +kernel) (pa_cons (pv 1) (pa_cons (pe_glob (v := .ref (C 6)) rfl (T.g 6 (by decide)) rfl) pa_nil))) pa_nil))))
        (pss_cons (ps_set (i := 3) nd rfl (.inl rfl) (pe_lst (pa_cons pe_str (pa_cons pe_str (pa_cons pe_str (pa_cons pe_str (pa_cons pe_str (pa_cons pe_str (pa_cons pe_str pa_nil)))))))))
        (pss_cons (ps_if (PW.pt (pw_or (pt_cmpR op_ne (bm_K (K := X.K) rfl PySem.F.plainAttrs_list PySem.F.slot_list_count PySem.F.type_list_count (cnt_K (K := X.K) rfl) (pv 2) (pa_cons pe_bl pa_nil)) pe_int (nomark _))
            (pw_or1 (pt_not (pt_val (pe_callB (isX_K (K := X.K) rfl hz hf) (by rfl) T.gi (by decide +kernel) (pa_cons (pv 1) (pa_cons (pe_bltn (v := .ty "ValueError") (by rfl) T.gv (by decide +kernel) rfl) pa_nil)))))))) (pss_one (ps_ret pe_str)) pss_nil)
        (pss_cons (ps_set (i := 4) nd rfl (.inl rfl) (pe_ix (ixl_K (K := X.K) rfl) (pv 3) (bm_K (K := X.K) rfl PySem.F.plainAttrs_list PySem.F.slot_list_index PySem.F.type_list_index (index_K (K := X.K) rfl) (pv 2) (pa_cons pe_bl pa_nil)) (fun _ _ => rfl)))
        (pss_cons (ps_if (pt_cmpR op_eq (pv 4) pe_str (nomark _)) (pss_one (ps_ret (pe_tup (pa_cons (pv 4) (pa_cons (pe_xf T.xf0 T.noR hz hf (pv 1)) (pa_cons (pe_xf T.xf0 T.noC hz hf (pv 1)) pa_nil)))))) pss_nil)
        (pss_one (ps_ret (pe_ifExp (pt_cmpR op_eq (pv 4) pe_str (nomark _)) (pe_tup (pa_cons (pv 4) (pa_cons (pe_xf T.xf1 T.noI hz hf (pv 1)) pa_nil))) (pv 4))))))))))))
      (pss_one (ps_ret pe_str)), ?_⟩
  · refine ⟨fun pins s' σ H' D I h' => ?_⟩
    obtain ⟨h1, h2, h3⟩ := h'
    exact (pss_one (ps_expr (act W pn xe _ _ tk))).run pins s' σ H' D I ⟨h1, h2, h3⟩
  · refine ⟨rfl, hc, ErrOut C Q, fun cls d H' out => ?_, h⟩
    have key : ∃ j, j < 7 ∧ cls = .ref (C j) ∧ (∀ dd, d = some dd → ∃ fs, H' dd = some (.xd fs)) ∧
        ((j = 0 ∧ ∃ dd x y, d = some dd ∧ H' dd = some (.xd (xdII x y)) ∧ ∀ p H2, H' p = none → Same H' H2 → H2 p = some (.tup [.str "InvalidIsland", x, y]) → Q (.ref p) H2) ∨
         (j = 1 ∧ ∃ dd x, d = some dd ∧ H' dd = some (.xd [(("index" : Str), x)]) ∧ ∀ p H2, H' p = none → Same H' H2 → H2 p = some (.tup [.str "InvalidMap", x]) → Q (.ref p) H2) ∨
         (2 ≤ j ∧ ∀ H2, Same H' H2 → Q (.str (nmE j)) H2)) := by
      cases out with
      | isl h1 h2 => exact ⟨0, by decide, rfl, fun dd e => by cases e; exact ⟨_, h1⟩, .inl ⟨rfl, _, _, _, rfl, h1, h2⟩⟩
      | chart h1 h2 => exact ⟨1, by decide, rfl, fun dd e => by cases e; exact ⟨_, h1⟩, .inr (.inl ⟨rfl, _, _, rfl, h1, h2⟩)⟩
      | other h1 h2 h3 => exact ⟨_, h2, rfl, fun dd e => (nomatch e), .inr (.inr ⟨h1, h3⟩)⟩
    obtain ⟨j, hj, ej, hd, fin⟩ := key
    refine ⟨true, by rw [ej]; exact T.exm j hj, fun _ a ha => ?_, fun z => by cases z⟩
    -- the kinds
    refine ⟨_, rfl, C j, _, _, _, ej, T.exc j hj, rfl, fun u r => r, T.kit j 0 hj (by decide), hd, _, rfl, C j, _, _, _, ej, T.exc j hj, rfl, fun u r => r, T.kit j 1 hj (by decide), hd,
      _, rfl, C j, _, _, _, ej, T.exc j hj, rfl, fun u r => r, T.kit j 2 hj (by decide), hd, (by show 3 ≤ sizeLine; decide), fun p1 hp1 => ?_⟩
    have S1 : Same H' (upd H' p1 (.lst [.bl (decide (0 = j)), .bl (decide (1 = j)), .bl (decide (2 = j))])) := Same.new (Same.refl _) hp1
    have hd1 : ∀ dd, d = some dd → ∃ fs, (upd H' p1 (.lst [.bl (decide (0 = j)), .bl (decide (1 = j)), .bl (decide (2 = j))])) dd = some (.xd fs) := fun dd e => let ⟨fs, z⟩ := hd dd e; ⟨fs, S1 _ _ z⟩
    refine ⟨_, rfl, _, rfl, C j, _, _, _, ej, T.exc j hj, rfl, fun u r => r, T.kit j 3 hj (by decide), hd1, _, rfl, C j, _, _, _, ej, T.exc j hj, rfl, fun u r => r, T.kit j 4 hj (by decide), hd1,
      _, rfl, C j, _, _, _, ej, T.exc j hj, rfl, fun u r => r, T.kit j 5 hj (by decide), hd1, (by show 3 ≤ sizeLine; decide), fun p2 hp2 => ?_⟩
    have k1 : (upd H' p1 (.lst [.bl (decide (0 = j)), .bl (decide (1 = j)), .bl (decide (2 = j))])) p1 = some (.lst [.bl (decide (0 = j)), .bl (decide (1 = j)), .bl (decide (2 = j))]) := upd_same
    generalize (upd H' p1 (.lst [.bl (decide (0 = j)), .bl (decide (1 = j)), .bl (decide (2 = j))])) = H1 at S1 hd1 hp2 k1 ⊢
    have k1' := (Same.new (Same.refl H1) hp2 (o := .lst [.bl (decide (3 = j)), .bl (decide (4 = j)), .bl (decide (5 = j))])) _ _ k1
    refine ⟨p1, p2, _, _, rfl, rfl, k1', upd_same, (by show 3 + 3 ≤ sizeLine; decide), fun p3 hp3 => ?_⟩
    have S3 := S1.trans (Same.new (Same.new (Same.refl H1) hp2 (o := .lst [.bl (decide (3 = j)), .bl (decide (4 = j)), .bl (decide (5 = j))])) hp3 (o := .lst ([.bl (decide (0 = j)), .bl (decide (1 = j)), .bl (decide (2 = j))] ++ [.bl (decide (3 = j)), .bl (decide (4 = j)), .bl (decide (5 = j))])))
    have k3 : (upd (upd H1 p2 (.lst [.bl (decide (3 = j)), .bl (decide (4 = j)), .bl (decide (5 = j))])) p3 (.lst ([.bl (decide (0 = j)), .bl (decide (1 = j)), .bl (decide (2 = j))] ++ [.bl (decide (3 = j)), .bl (decide (4 = j)), .bl (decide (5 = j))]))) p3 = _ := upd_same
    generalize (upd (upd H1 p2 (.lst [.bl (decide (3 = j)), .bl (decide (4 = j)), .bl (decide (5 = j))])) p3 (.lst ([.bl (decide (0 = j)), .bl (decide (1 = j)), .bl (decide (2 = j))] ++ [.bl (decide (3 = j)), .bl (decide (4 = j)), .bl (decide (5 = j))]))) = H3 at S3 k3 ⊢
    have hd3 : ∀ dd, d = some dd → ∃ fs, H3 dd = some (.xd fs) := fun dd e => let ⟨fs, z⟩ := hd dd e; ⟨fs, S3 _ _ z⟩
    refine ⟨_, rfl, _, rfl, C j, _, _, _, ej, T.exc j hj, rfl, fun u r => r, T.kit j 6 hj (by decide), hd3, (by show 1 ≤ sizeLine; decide), fun p4 hp4 => ?_⟩
    have k3' := (Same.new (Same.refl H3) hp4 (o := .lst [.bl (decide (6 = j))])) _ _ k3
    refine ⟨p3, p4, _, _, rfl, rfl, k3', upd_same, (by show 6 + 1 ≤ sizeLine; decide), fun p5 hp5 => ?_⟩
    have S5 := S3.trans (Same.new (Same.new (Same.refl H3) hp4 (o := .lst [.bl (decide (6 = j))])) hp5 (o := .lst (ksV j)))
    have k5 : (upd (upd H3 p4 (.lst [.bl (decide (6 = j))])) p5 (.lst (ksV j))) p5 = some (.lst (ksV j)) := upd_same
    show (fun (Hx : Hp) => _) (upd (upd H3 p4 (.lst [.bl (decide (6 = j))])) p5 (.lst (ksV j)))
    generalize (upd (upd H3 p4 (.lst [.bl (decide (6 = j))])) p5 (.lst (ksV j))) = H5 at S5 k5 ⊢
    -- the names
    refine ⟨by show 7 ≤ sizeLine; decide, fun p6 hp6 => ?_⟩
    have S6 := S5.trans (Same.new (Same.refl H5) hp6 (o := .lst nmsV))
    have k6 : (upd H5 p6 (.lst nmsV)) p6 = some (.lst nmsV) := upd_same
    have k56 : (upd H5 p6 (.lst nmsV)) p5 = some (.lst (ksV j)) := Same.new (Same.refl H5) hp6 _ _ k5
    show (fun (Hx : Hp) => _) (upd H5 p6 (.lst nmsV))
    generalize (upd H5 p6 (.lst nmsV)) = H6 at S6 k6 k56 ⊢
    have hd6 : ∀ dd, d = some dd → ∃ fs, H6 dd = some (.xd fs) := fun dd e => let ⟨fs, z⟩ := hd dd e; ⟨fs, S6 _ _ z⟩
    refine ⟨_, rfl, .inl ⟨rfl, _, .inl (.inl k56)⟩, p5, _, _, rfl, rfl, .inl (.inl k56), rfl, ksV_flat j, rfl, _, rfl, ?_⟩
    rw [ksV_count hj]
    refine iteNS rfl ?_
    refine ⟨_, rfl, C j, _, _, _, ej, T.exc j hj, rfl, fun u r => r, T.kitV j hj, hd6, _, rfl, ?_⟩
    refine ⟨_, rfl, _, rfl, .inl ⟨rfl, _, .inl (.inl k56)⟩, p5, _, _, j, _, rfl, rfl, .inl (.inl k56), rfl, ksV_flat j, ksV_at hj, rfl, fun m z hm hz => ksV_ahead hj hm hz, ?_⟩
    refine ⟨p6, _, _, _, rfl, rfl, .inl (.inl k6), nmsV_at hj, ?_⟩
    refine ⟨_, rfl, rfl, _, rfl, ?_⟩
    rcases fin with ⟨rfl, dd, x, y, ed, hx, k⟩ | ⟨rfl, dd, x, ed, hx, k⟩ | ⟨h2, k⟩
    · have lr : List.lookup ("row" : Str) (xdII x y) = some x := by
        unfold xdII
        rw [lookup_put, if_neg (by decide +kernel), lookup_put, if_pos rfl]
      have lc : List.lookup ("column" : Str) (xdII x y) = some y := by
        unfold xdII
        rw [lookup_put, if_pos rfl]
      refine iteT' (decide_eq_true rfl) ?_
      refine ⟨_, rfl, _, rfl, rfl, ej, dd, _, x, ed, S6 _ _ hx, lr, _, rfl, rfl, ej, dd, _, y, ed, S6 _ _ hx, lc, (by show 3 ≤ sizeLine; decide), fun p hp => ?_⟩
      exact k p _ (Same.free S6 hp) (S6.trans (Same.new (Same.refl _) hp)) upd_same
    · refine iteF' (decide_eq_false (by decide +kernel)) ?_
      refine ⟨_, rfl, rfl, _, rfl, ?_⟩
      refine iteT' (decide_eq_true rfl) ?_
      have li : List.lookup ("index" : Str) [(("index" : Str), x)] = some x := by rw [lookup_put, if_pos rfl]
      refine ⟨_, rfl, _, rfl, rfl, ej, dd, _, x, ed, S6 _ _ hx, li, (by show 2 ≤ sizeLine; decide), fun p hp => ?_⟩
      exact k p _ (Same.free S6 hp) (S6.trans (Same.new (Same.refl _) hp)) upd_same
    · have n0 : ¬ V.str (nmE j) = V.str (Str.ofString "InvalidIsland") := fun e => by
        injection e with e
        have := (nmE_inj hj).1.mp e
        omega
      have n1 : ¬ V.str (nmE j) = V.str (Str.ofString "InvalidMap") := fun e => by
        injection e with e
        have := (nmE_inj hj).2.mp e
        omega
      refine iteF' (decide_eq_false n0) ?_
      refine ⟨_, rfl, rfl, _, rfl, ?_⟩
      refine iteF' (decide_eq_false n1) ?_
      exact ⟨_, rfl, k _ S6⟩
end
end Om

namespace Om
open PySem PySem.Spec PyProof.Rows L2 LamX
/-! ### a text of some signs, several times -/
theorem foldl_rep (cs : List Nat) : ∀ (n : Nat) (acc : List Nat), (List.replicate n cs.toArray).foldl (· ++ ·) acc.toArray = (acc ++ (List.replicate n cs).flatten).toArray
  | 0, acc => by simp
  | n + 1, acc => by
    rw [List.replicate_succ, List.foldl_cons]
    have e : acc.toArray ++ cs.toArray = (acc ++ cs).toArray := by simp
    rw [e, foldl_rep cs n (acc ++ cs), List.replicate_succ, List.flatten_cons, List.append_assoc]
def rMulS : R2 := fun x y H Q => ∃ (cs : List Nat) (k : Int), x = .str (tx cs) ∧ y = .int k ∧ cs ≠ [] ∧ cs.length ≤ 1000 ∧ 2 ≤ k ∧ k ≤ 1000 ∧ Q (.str (tx (List.replicate k.toNat cs).flatten)) H
theorem op_mulS {X : Cx} : OpR X (binaryOp .Mult) rMulS := by
  rintro pins s σ H x y v u Q I rx ry ⟨cs, k, rfl, rfl, hne, hl, h2, h3, q⟩
  obtain ⟨t, rfl⟩ := rx
  obtain ⟨t', rfl⟩ := ry
  have hk : (List.replicate k.toNat cs).flatten.length ≤ 1000000 := by
    rw [PyProof.Rows.lm_len_rep_flat]
    have a1 : k.toNat * cs.length ≤ 1000 * 1000 := Nat.mul_le_mul (by omega) hl
    omega
  have hm : (tx cs).length * k.toNat ≤ 1000000 := by
    rw [tx_len]
    have a1 : cs.length * k.toNat ≤ 1000 * 1000 := Nat.mul_le_mul hl (by omega)
    omega
  have n1 : ¬ k < 1 := by omega
  have n2 : (k == 1 || (tx cs).length == 0) = false := by
    rw [tx_len, Bool.or_eq_false_iff]
    refine ⟨by simpa using (show ¬ k = 1 by omega), ?_⟩
    cases cs with
    | nil => exact absurd rfl hne
    | cons a r => rfl
  refine PySem.P.mul_str ?_ (fun _ _ => ?_) (fun _ _ => ?_) ?_
  · rw [decide_eq_false (show ¬ k < -(2 ^ 63 : Int) by omega), decide_eq_false (show ¬ k ≥ 2 ^ 63 by omega)]
    rfl
  · have e1 : (1000 : Int) ≤ (2 ^ 63 - 1) / k := by
      rw [Int.le_ediv_iff_mul_le (by omega)]
      have : 1000 * k ≤ 1000 * 1000 := Int.mul_le_mul_of_nonneg_left h3 (by omega)
      omega
    rw [tx_len]
    omega
  · refine decide_eq_false (show ¬ (tx cs).length * k.toNat > sizeLine from Nat.not_lt.mpr (Nat.le_trans hm (by decide)))
  · rw [if_neg n1, if_neg (by rw [n2]; exact Bool.false_ne_true)]
    have e2 : (⟨(List.replicate k.toNat (tx cs).cps).foldl (· ++ ·) #[]⟩ : Str) = tx (List.replicate k.toNat cs).flatten := by
      have := foldl_rep cs k.toNat []
      unfold tx
      rw [← List.nil_append (List.replicate k.toNat cs).flatten, ← this]
    rw [e2]
    exact ⟨by rw [tx_len]; exact Nat.le_trans hk (by decide), .str (tx (List.replicate k.toNat cs).flatten), H, I.tok _, ⟨_, rfl⟩, q⟩
/-! ### the island is made -/
/-- what the top says of Island, at CI -/
structure IslF (K : PySem.W.Frag) (mg : Str → Option Value) (CI fN : Addr) : Prop where
  cl : Cls K CI
  nR : NoAttr K CI "_rows"
  made : Mk K CI fN
  gI : mg "Island" = some (.ref CI)
def islFs (a : Addr) : List (Str × V) := putF "_rows" (.ref a) []
def spIsl (K : PySem.W.Frag) (CI C0 : Addr) : Sp := fun vs H Q E => ∃ (p dx a : Addr) (rows : List (List Nat)), vs = [.ref p, .ref a] ∧ H p = some (.ins CI dx []) ∧ SqT K H a (rows.map vt) ∧ rows.length ≤ 1000 ∧ (∀ r ∈ rows, r.length ≤ 1000) ∧
  (chk rows = none → ∀ H', (∀ b o, H b = some o → b ≠ p → H' b = some o) → H' p = some (.ins CI dx (islFs a)) → Q .non H') ∧
  ∀ r c, chk rows = some (r, c) → ∀ d H', H d = none → Same H H' → H' d = some (.xd (xdII (.int (r : Nat)) (.int (c : Nat)))) → E (.ref C0) (some d) H'
section
variable {P : Program} {w : World} {K : PySem.W.Frag} {mg : Str → Option Value} {base : Heap} {CI C0 fN : Addr}
theorem scIsl : FnScope ["self", "rows"] ["self", "rows"] (defScope sIslI) := ⟨rfl, rfl, rfl, by decide +kernel, rfl, by decide +kernel, by decide +kernel⟩
theorem ok_isl {fd : FuncData} (F : FnP K "__init__" "Island.__init__" sIslI fN fd) (T : IslF K mg CI fN) (G : Cal P w K mg base (L2.CX P w) 3 "_check_rows" ["rows"] (spChk K C0)) (gtuple : mg "tuple" = none) :
    FnOk P w K mg base (L2.CX P w) 4 fN fd ["self", "rows"] (spIsl K CI C0) := by
  refine F.ok scIsl (fun vs H Q E h => ?_) (fun cdv A outer s H vs Q E hr h => ?_)
  · obtain ⟨p, dx, a, rows, rfl, _⟩ := h
    rfl
  · obtain ⟨p, dx, a, rows, rfl, hp, hS, hl, hrl, kN, kS⟩ := h
    refine ⟨_, pss_cons (ps_expr (pe_cal G hr (E := E) (passes_call (W := fun cls d _ H => E cls d H) (takes_of rfl rfl rfl rfl) fun _ _ _ _ h => h) (pa_cons (pv 1) pa_nil)))
      (pss_one (ps_fld (pv 0) (pe_callTy call_tuple_of (by rfl) gtuple (by decide +kernel) (pa_cons (pv 1) pa_nil)) rfl)), ?_⟩
    refine ⟨_, rfl, a, rows, rfl, hS, hl, hrl, fun e H1 s1 => ?_, fun r c e d H' h1 h2 h3 => kS r c e d H' h1 h2 h3⟩
    refine ⟨_, rfl, a, _, rfl, .inr ⟨Same.tup s1 hS, ?_⟩⟩
    refine ⟨_, rfl, p, CI, dx, [], rfl, s1 _ _ hp, T.cl, T.nR, by decide, ?_⟩
    exact kN e _ (fun b o hb n => by rw [upd_ne n]; exact s1 _ _ hb) upd_same
end
end Om

namespace Om
open PySem PySem.Spec PyProof.Rows L2 LamX
def ansII (r c : Nat) : List V := [.str "InvalidIsland", .int (r : Nat), .int (c : Nat)]
def Lo (rows : List (List Nat)) : Prop := ∀ r ∈ rows, ∀ c ∈ r, c < 1000
/-! ### what stays from step to step of a law -/
/-- all but tables and the box stay -/
def Lv (b l : Addr) (H H' : Hp) : Prop := ∀ c o, H c = some o → (∀ ps, o ≠ .tbl ps) → c ≠ b → c ≠ l → H' c = some o
theorem Lv.refl (b l : Addr) (H : Hp) : Lv b l H H := fun _ _ h _ _ _ => h
theorem Lv.trans {b l : Addr} {H H1 H2 : Hp} (u : Lv b l H H1) (v : Lv b l H1 H2) : Lv b l H H2 := fun c o h n n1 n2 => v c o (u c o h n n1 n2) n n1 n2
theorem Kp.lv {b l : Addr} {H H' : Hp} (k : Kp b l H H') : Lv b l H H' := fun c o h _ n1 n2 => k c o h n1 n2
theorem lv_ext {b l : Addr} {H H' : Hp} (k : ExtN H H') : Lv b l H H' := fun c o h n _ _ => k c o h n
theorem lv_same {b l : Addr} {H H' : Hp} (k : Same H H') : Lv b l H H' := fun c o h _ _ _ => k c o h
theorem Lv.tup {K : PySem.W.Frag} {b l a : Addr} {H H' : Hp} {xs : List V} (v : Lv b l H H') (B : Box H b l) (h : SqT K H a xs) : SqT K H' a xs := by
  obtain ⟨ns, z, h1, h2, _⟩ := B.ex
  rcases h with (h | ⟨o, h⟩) | h
  · exact .inl (.inl (v _ _ h (fun ps e => by cases e) (ne_of h h1 fun e => by cases e) (ne_of h h2 fun e => by cases e)))
  · exact .inl (.inr ⟨o, v _ _ h (fun ps e => by cases e) (ne_of h h1 fun e => by cases e) (ne_of h h2 fun e => by cases e)⟩)
  · exact .inr h
theorem Box.ext {b l : Addr} {H H' : Hp} (B : Box H b l) (k : ExtN H H') : Box H' b l := by
  obtain ⟨ns, z, h1, h2, h3⟩ := B.ex
  exact ⟨ns, z, k _ _ h1 (fun ps e => by cases e), k _ _ h2 (fun ps e => by cases e), h3⟩
theorem tabs_kp {T : List (Addr × Str)} {b l : Addr} {H H' : Hp} (t : Tabs T H) (B : Box H b l) (k : Kp b l H H') : Tabs T H' := fun p hp => by
  obtain ⟨ns, z, h1, h2, _⟩ := B.ex
  obtain ⟨ps, q1, q2, q3⟩ := t p hp
  refine ⟨ps, k _ _ q1 (ne_of q1 h1 fun e => by cases e) (ne_of q1 h2 fun e => by cases e), q2, fun pos cv hc => ?_⟩
  obtain ⟨c, e1, e2⟩ := q3 pos cv hc
  exact ⟨c, e1, k _ _ e2 (ne_of e2 h1 fun e => by unfold CodeO at e; cases e) (ne_of e2 h2 fun e => by unfold CodeO at e; cases e)⟩
/-! ### tuples cut and put together -/
theorem catA_read {K : PySem.W.Frag} {a b : Addr} {xs ys : List V} {H : Hp} {Q : VK} (hx : SqT K H a xs) (hy : SqT K H b ys) (hl : xs.length + ys.length ≤ sizeLine) (k : ∀ p H', Same H H' → SqT K H' p (xs ++ ys) → Q (.ref p) H') : rCatA K (.ref a) (.ref b) H Q :=
  ⟨a, b, xs, ys, rfl, rfl, hx, hy, hl, fun e => k b H (Same.refl H) (by rw [e]; exact hy), fun _ e => k a H (Same.refl H) (by rw [e, List.append_nil]; exact hx), fun _ _ p hp => k p _ (Same.new (Same.refl H) hp) (.inl (.inl upd_same))⟩
theorem slA_read {K : PySem.W.Frag} {a : Addr} {xs : List V} {lo hi : Option Int} {H : Hp} {Q : VK} (hx : SqT K H a xs) (k : ∀ p H', Same H H' → SqT K H' p (cutV xs lo hi) → Q (.ref p) H') : rSlA K (.ref a) lo hi H Q := by
  refine ⟨a, xs, rfl, hx, fun ⟨e1, e2⟩ => k a H (Same.refl H) ?_, fun _ p hp => k p _ (Same.new (Same.refl H) hp) (.inl (.inl upd_same))⟩
  unfold cutV
  rw [e1, e2, List.drop_zero, Nat.sub_zero, List.take_length]
  exact hx
/-! ### rows with some bound -/
structure Good (rows : List (List Nat)) : Prop where
  len : rows.length ≤ 900
  row : ∀ r ∈ rows, r.length ≤ 1000 ∧ ∀ c ∈ r, c < 1000
theorem Good.lens {rows : List (List Nat)} (g : Good rows) : ∀ r ∈ rows, r.length ≤ 1000 := fun r h => (g.row r h).1
theorem Good.lo {rows : List (List Nat)} (g : Good rows) : Lo rows := fun r h => (g.row r h).2
theorem Good.le {rows : List (List Nat)} (g : Good rows) : rows.length ≤ 1000 := Nat.le_trans g.len (by decide)
theorem RowsOk.good {m : Nat} {rows : List (List Nat)} (h : RowsOk m rows) (hm : m ≤ 12) : Good rows := by
  obtain ⟨h1, h2, wd, w1, w2, hr⟩ := h
  refine ⟨by omega, fun r hr' => ⟨by have := (hr r hr').1; omega, fun c hc => ?_⟩⟩
  rcases (hr r hr').2 c hc with e | e | e <;> omega
theorem cutV_rows (rows : List (List Nat)) (lo hi : Option Int) : ∃ rs : List (List Nat), cutV (rows.map vt) lo hi = rs.map vt ∧ rs.length ≤ rows.length ∧ ∀ r ∈ rs, r ∈ rows := by
  refine ⟨(rows.drop (HT.sIx (rows.map vt).length 0 lo)).take (HT.sIx (rows.map vt).length (rows.map vt).length hi - HT.sIx (rows.map vt).length 0 lo), ?_, ?_, fun r h => List.mem_of_mem_drop (List.mem_of_mem_take h)⟩
  · unfold cutV
    rw [List.map_take, List.map_drop]
  · rw [List.length_take, List.length_drop]
    omega
theorem cutS_tx (r : List Nat) (lo hi : Option Int) : ∃ q : List Nat, cutS (tx r) lo hi = tx q ∧ q.length ≤ r.length ∧ ∀ c ∈ q, c ∈ r := by
  refine ⟨_, rfl, ?_, fun c h => ?_⟩
  · rw [List.length_take, List.length_drop, tx_cps]
    omega
  · have := List.mem_of_mem_drop (List.mem_of_mem_take h)
    rwa [tx_cps] at this
/-! ### the answers of _law_error and of _law_due -/
def Res (H : Hp) (v : V) : Option (Nat × Nat) → Prop
  | none => v = .str ""
  | some (r, c) => ∃ p, v = .ref p ∧ H p = some (.tup (ansII r c))
def dRes : Option (Nat × Nat) → PyData
  | none => .str ""
  | some (r, c) => .tuple [.str "InvalidIsland", .int (r : Nat), .int (c : Nat)]
theorem lay_dRes (o : Option (Nat × Nat)) : (dRes o).canLay0 = true := by
  cases o with
  | none => decide +kernel
  | some p =>
    obtain ⟨r, c⟩ := p
    have e : PyData.strOk ("InvalidIsland" : Str) = true := by decide +kernel
    simp only [dRes, PyData.canLay0, PyData.canLayAll0, e, Bool.and_self]
theorem shaped_dRes (o : Option (Nat × Nat)) : SeqAt.shaped (dRes o) = true := by
  refine shaped_of (lay_dRes o) ?_
  cases o with
  | none => decide +kernel
  | some p => simp [dRes, PyData.depth, PyData.depthAll]
theorem eqv_dRes (o : Option (Nat × Nat)) : PyData.eqv (dRes o) (dRes o) = true := PySem.SeqAt.eqv_refl _ (lay_dRes o)
theorem Res.dp {K : PySem.W.Frag} {H : Hp} {v : V} {o : Option (Nat × Nat)} (h : Res H v o) : Dp K H v (dRes o) := by
  cases o with
  | none =>
    obtain rfl : v = .str "" := h
    exact .str _
  | some p =>
    obtain ⟨r, c⟩ := p
    obtain ⟨q, rfl, hq⟩ := h
    exact .tup (.inl (.inl hq)) (.cons (.str _) (.cons (.int _) (.cons (.int _) .nil)))
theorem Res.same {H H' : Hp} {v : V} {o : Option (Nat × Nat)} (h : Res H v o) (s : Same H H') : Res H' v o := by
  cases o with
  | none => exact h
  | some p =>
    obtain ⟨r, c⟩ := p
    obtain ⟨q, rfl, hq⟩ := h
    exact ⟨q, rfl, s _ _ hq⟩
theorem Res.ext {H H' : Hp} {v : V} {o : Option (Nat × Nat)} (h : Res H v o) (s : ExtN H H') : Res H' v o := by
  cases o with
  | none => exact h
  | some p =>
    obtain ⟨r, c⟩ := p
    obtain ⟨q, rfl, hq⟩ := h
    exact ⟨q, rfl, s _ _ hq fun ps e => by cases e⟩
/-- _law_error(lambda: Island(x)), x rows -/
theorem err_isl {K : PySem.W.Frag} {CI : Addr} {C : Nat → Addr} {σ : L2.St} {H : Hp} {Q : VK} {ta : TA} {rows : List (List Nat)} (g : Good rows) (hta : ∀ Qa : List V → Hp → Prop, (∀ a H', Same H H' → SqT K H' a (rows.map vt) → Qa [.ref a] H') → ta σ H Qa)
    (k : ∀ v H', Same H H' → Res H' v (chk rows) → Q v H') : TErr C (fun E H' Q' => tMake CI (spIsl K CI (C 0)) [] E ta σ H' Q') H Q := by
  show ta σ H fun vs H1 => ∀ x dx, H1 x = none → H1 dx = none → dx ≠ x → spIsl K CI (C 0) (.ref x :: (vs ++ [])) (upd (upd H1 dx (.own x)) x (.ins CI dx [])) (fun v H2 => v = .non ∧ Q (.str "") H2) (ErrOut C Q)
  refine hta _ fun a H1 s1 hS x dx hx hdx hne => ?_
  have s2 : Same H1 (upd (upd H1 dx (.own x)) x (.ins CI dx [])) := fun c o hc => by
    rw [upd_ne (ne_of_none hc hx), upd_ne (ne_of_none hc hdx)]
    exact hc
  refine ⟨x, dx, a, rows, rfl, upd_same, Same.tup s2 hS, g.le, g.lens, fun e H2 k1 k2 => ⟨rfl, k _ H2 (fun c o hc => ?_) (by rw [e]; rfl)⟩, fun r c e d H2 h1 h2 h3 => ErrOut.isl h3 fun p H3 h4 h5 h6 => k _ H3 ((s1.trans (s2.trans h2)).trans h5) (by rw [e]; exact ⟨p, rfl, h6⟩)⟩
  exact k1 c o (s2 c o (s1 c o hc)) (ne_of_none (s1 c o hc) hx)
end Om

namespace Om
open PySem PySem.Spec PyProof.Rows L2 LamX
/-! ### own __getitem__, __contains__, __len__, __eq__ -/
/-- the class at C finds the name as the def at f -/
structure OwnM (K : PySem.W.Frag) (C : Addr) (n : Str) (f : Addr) : Prop where
  at_ : PySem.W.findIn K (.ref C) n = some (some (.ref f))
  fn : PySem.W.isFn K (.ref f) = true
  isF : PySem.W.fnIn K f = true
section
variable {X : Cx} {CX : CXT} {k : Nat} {C f : Addr} {fd : FuncData} {ps : List Str} {sp : Sp} {E : XK}
theorem run_fnS {A : Around} {pins : List (Addr × Obj)} {σ : L2.St} {H : Hp} {s : Shared} {Q : VK} {us : List Value} {vs : List V} (F : FnOk X.prog X.w X.K X.mg X.base CX k f fd ps sp) (sb : Sub X k A) (hb : Binds X.K fd ps []) (hx : Passes CX X E) (I : Inv X pins σ H s)
    (r : Vals vs us) (h : sp vs H Q E) : wpAny (model X.prog X.w) A (call (.ref f) us) (EP X pins σ Q) X.xe s := by
  have e0 : Env0 X.prog X.w X.K X.mg X.base A X.stack s H := by
    have e := I.env0
    exact ⟨by rw [sb.fr]; exact e.frames, e.mod, e.bs, e.bsz, e.funs, e.frf, e.hok, e.bare⟩
  have hl : us.length = ps.length := by rw [← r.length]; exact F.len _ _ _ _ h
  refine wpAny_call (codeAny_mono (F.run A X.stack s H ⟨us, []⟩ us vs Q E sb.room e0 (by
    have := hb s us I.kIn (by simpa using hl)
    simpa using this) r h) fun r s' hq => ?_)
  cases r with
  | error e => exact hx pins σ H s e s' I hq
  | ok fl =>
    cases fl with
    | ret w =>
      obtain ⟨v, H', I', rz, q⟩ := I.after hq
      exact ⟨v, H', I', rz, q⟩
    | next => exact False.elim hq
    | brk => exact False.elim hq
    | cont => exact False.elim hq
def rIxOwn (C : Addr) (sp : Sp) (E : XK) : R2 := fun x y H Q => ∃ a dx fs, x = .ref a ∧ H a = some (.ins C dx fs) ∧ sp [x, y] H Q E
theorem pe_ixOwn {a b : Expr} {ta tb : TE} {pos : Pos} (M : OwnM X.K C "__getitem__" f) (F : FnOk X.prog X.w X.K X.mg X.base CX k f fd ps sp) (hr : Room (k + 1) X.A) (hb : Binds X.K fd ps []) (hx : Passes CX X E) (ha : PE X a ta) (hi : PE X b tb)
    (hsl : ∀ v u, subscripted b true v u = runValue (.builtin "lifetime.subscript" ⟨[v, u], []⟩) := by intro v u; rfl) : PE X (.Subscript a b pos) (tOp (rIxOwn C sp E) ta tb) := by
  refine ⟨fun pins s σ H Q I h => ?_⟩
  refine Subscript_ (binT ha hi I h fun v u s2 x y H2 I2 rx ry q => ?_)
  obtain ⟨p, dx, fs, rfl, hp, q⟩ := q
  cases rx
  obtain ⟨mA, J, _⟩ := ins_get I2.hok hp
  obtain ⟨od, J, _⟩ := J.look
  obtain ⟨m, hF⟩ := I2.fr
  exact PySem.W.sub_K hF I2.ok.mod.kin J M.at_ M.isF M.fn (run_fnS F ⟨hr.in1, rfl⟩ hb hx I2 (.cons (show RelV (V.ref p) (Value.ref p) from rfl) (.cons ry .nil)) q) (hsl _ _)
def rInOwn (C : Addr) (sp : Sp) (E : XK) : R2 := fun x y H Q => ∃ a dx fs, y = .ref a ∧ H a = some (.ins C dx fs) ∧ sp [y, x] H (fun v H' => ∃ b, v = .bl b ∧ Q (.bl b) H') E
theorem op_inOwn (M : OwnM X.K C "__contains__" f) (F : FnOk X.prog X.w X.K X.mg X.base CX k f fd ps sp) (hr : Room k X.A) (hb : Binds X.K fd ps []) (hx : Passes CX X E) : OpR X (compareOp .In) (rInOwn C sp E) := by
  intro pins s σ H x y v u Q I rx ry h
  obtain ⟨p, dx, fs, rfl, hp, q⟩ := h
  cases ry
  obtain ⟨mA, J, _⟩ := ins_get I.hok hp
  obtain ⟨od, J, _⟩ := J.look
  obtain ⟨m, hF⟩ := I.fr
  refine PySem.W.in_K hF I.ok.mod.kin J M.at_ M.fn (wpAny_mono (run_fnS F ⟨hr, rfl⟩ hb hx I (.cons (show RelV (V.ref p) (Value.ref p) from rfl) (.cons rx .nil)) q) (fun r s' z => ?_) fun _ _ z => z)
  obtain ⟨z, H', I', rz, b, ez, q⟩ := z
  subst ez
  cases rz
  exact wpAny_truthy_bool ⟨.bl b, H', I', rfl, q⟩
def rNotInOwn (C : Addr) (sp : Sp) (E : XK) : R2 := fun x y H Q => ∃ a dx fs, y = .ref a ∧ H a = some (.ins C dx fs) ∧ sp [y, x] H (fun v H' => ∃ b, v = .bl b ∧ Q (.bl (!b)) H') E
theorem op_notInOwn (M : OwnM X.K C "__contains__" f) (F : FnOk X.prog X.w X.K X.mg X.base CX k f fd ps sp) (hr : Room k X.A) (hb : Binds X.K fd ps []) (hx : Passes CX X E) : OpR X (compareOp .NotIn) (rNotInOwn C sp E) := by
  intro pins s σ H x y v u Q I rx ry h
  obtain ⟨p, dx, fs, rfl, hp, q⟩ := h
  cases ry
  obtain ⟨mA, J, _⟩ := ins_get I.hok hp
  obtain ⟨od, J, _⟩ := J.look
  obtain ⟨m, hF⟩ := I.fr
  refine PySem.W.notIn_K hF I.ok.mod.kin J M.at_ M.fn (wpAny_mono (run_fnS F ⟨hr, rfl⟩ hb hx I (.cons (show RelV (V.ref p) (Value.ref p) from rfl) (.cons rx .nil)) q) (fun r s' z => ?_) fun _ _ z => z)
  obtain ⟨z, H', I', rz, b, ez, q⟩ := z
  subst ez
  cases rz
  exact wpAny_truthy_bool ⟨.bl (!b), H', I', rfl, q⟩
/-- both sides instances of C -/
def rEqOwn (C : Addr) (sp : Sp) (E : XK) : R2 := fun x y H Q => ∃ a dx fs b dy gs, x = .ref a ∧ H a = some (.ins C dx fs) ∧ y = .ref b ∧ H b = some (.ins C dy gs) ∧ sp [x, y] H (fun v H' => ∃ b, v = .bl b ∧ Q (.bl b) H') E
theorem op_eqOwn (M : OwnM X.K C "__eq__" f) (F : FnOk X.prog X.w X.K X.mg X.base CX k f fd ps sp) (hr : Room k X.A) (hb : Binds X.K fd ps []) (hx : Passes CX X E) : OpR X (compareOp .Eq) (rEqOwn C sp E) := by
  intro pins s σ H x y v u Q I rx ry h
  obtain ⟨p, dx, fs, q', dy, gs, rfl, hp, rfl, hq, q⟩ := h
  cases rx
  cases ry
  obtain ⟨mA, J, _⟩ := ins_get I.hok hp
  obtain ⟨od, J, _⟩ := J.look
  obtain ⟨mB, J', _⟩ := ins_get I.hok hq
  obtain ⟨od', J', _⟩ := J'.look
  obtain ⟨m, hF⟩ := I.fr
  show wpAny (model X.prog X.w) X.A (richCompare .Eq _ _) _ _ _
  refine PySem.W.cmp_K (op := .Eq) (tb := .ref C) hr.units0 hF I.ok.mod.kin J J'.type (by simp [PySem.W.notFirst]) M.at_ M.fn (wpAny_mono (run_fnS F ⟨hr, rfl⟩ hb hx I (.cons (show RelV (V.ref p) (Value.ref p) from rfl) (.cons (show RelV (V.ref q') (Value.ref q') from rfl) .nil)) q) (fun r s' z => ?_) fun _ _ z => z)
  obtain ⟨z, H', I', rz, b, ez, q⟩ := z
  subst ez
  cases rz
  exact ⟨.bl b, H', I', rfl, q⟩
/-- len(o) -/
def rLenOwn (C : Addr) (sp : Sp) (E : XK) : List V → Hp → VK → Prop := fun xs H Q => ∃ a dx fs, xs = [.ref a] ∧ H a = some (.ins C dx fs) ∧ sp xs H (fun v H' => ∃ n : Int, v = .int n ∧ 0 ≤ n ∧ n < 2 ^ 63 ∧ Q (.int n) H') E
theorem call_lenOwn (M : OwnM X.K C "__len__" f) (F : FnOk X.prog X.w X.K X.mg X.base CX k f fd ps sp) (hr : Room (k + 1) X.A) (hb : Binds X.K fd ps []) (hx : Passes CX X E) : CallR X (.builtin "len") (rLenOwn C sp E) := by
  intro pins s σ H xs us Q I r h
  obtain ⟨p, dx, fs, rfl, hp, q⟩ := h
  cases r with
  | cons r1 r2 =>
    cases r2
    cases r1
    obtain ⟨mA, J, _⟩ := ins_get I.hok hp
    obtain ⟨od, J, _⟩ := J.look
    obtain ⟨m, hF⟩ := I.fr
    refine PySem.W.len_K hF I.ok.mod.kin J M.at_ M.fn (wpAny_mono (run_fnS F ⟨hr.in1, rfl⟩ hb hx I (.cons (show RelV (V.ref p) (Value.ref p) from rfl) .nil) q) (fun r s' z => ?_) fun _ _ z => z)
    obtain ⟨z, H', I', rz, n, ez, n0, n1, q⟩ := z
    subst ez
    obtain ⟨t, rfl⟩ := rz
    exact ⟨⟨n0, n1⟩, .int n, H', I'.tok (s'.toks + 1), ⟨_, rfl⟩, q⟩
end
end Om

namespace Om
open PySem PySem.Spec PyProof.Rows L2
/-! ### enumerate(text) -/
def IteS (x : Str) : It :=
  ⟨fun i _ => i < x.cps.size, fun i H v H' => ∃ T c, v = .ref T ∧ H T = none ∧ H' = upd H T (.tup [.int (i : Nat), .str ⟨#[c]⟩]) ∧ x.cps[i]? = some c, fun i _ => x.cps.size = i⟩
theorem turn_enumS {P : Program} {w : World} {K : PySem.W.Frag} {elts : List Expr} {kk : Nat} {tpos : Pos} {e it : Addr} {x : Str} {t : Tok} (nei : e ≠ it) :
    Turn P w K (.Tuple elts kk tpos) (IteS x) [e, it] e (fun i h => (∃ old, IsEnum h e it ((i : Nat) : Int) old) ∧ h.IsStrIter it (strIterType x) x t i) where
  mem := by simp
  obj := fun i h ⟨⟨old, he⟩, o, ho, hc, hd⟩ b hb => by
    rcases (show b = e ∨ b = it by simpa using hb) with rfl | rfl
    · exact ⟨_, he, fun v q => nomatch q⟩
    · exact ⟨o, ho, fun v q => by rw [hd] at q; cases q⟩
  keep := fun i h h' ⟨⟨old, he⟩, hi⟩ k => ⟨⟨old, k e (by simp) _ he⟩, let ⟨o, q, r⟩ := hi; ⟨o, k it (by simp) o q, r⟩⟩
  item := by
    intro X eP ew eK hc i pins s σ H E I hf ⟨⟨old, he⟩, hit⟩ hlt
    subst eP ew eK
    have el : e < s.heap.objs.size := Heap.lt_size he
    have il : it < s.heap.objs.size := by obtain ⟨_, q, _⟩ := hit; exact Heap.lt_size q
    have hd0 : X.A.in1.handled = none := I.ok.hd hc
    refine wpAny_pyNext_enum_itemD (Draws.text hd0 it x t) he hit hlt nei (by simp [nei]) fun v h' tk hx2 ho hst hT hs2 hk => ?_
    obtain ⟨c, u, hxc, rfl⟩ := hx2
    refine ⟨_, rfl, wpAny_letOwnedTupleGo_enum (s := { s with heap := h', toks := tk + 1 }) ho fun h2 he2 sb => ?_⟩
    have hT2 := (sb.2 _ (Nat.ne_of_gt el)).trans hT
    have new : ObjOk X.prog X.w (upd H s.heap.objs.size (.tup [.int (i : Nat), .str ⟨#[c]⟩])) h2 s.heap.objs.size (.tup [.int (i : Nat), .str ⟨#[c]⟩]) :=
      ⟨(show 2 ≤ sizeLine by decide), [.int i tk, .str ⟨#[c]⟩ u], .cons ⟨_, rfl⟩ (.cons ⟨_, rfl⟩ .nil), _, hT2, rfl, _, rfl⟩
    have I1 : Inv X pins σ (upd H s.heap.objs.size (.tup [.int (i : Nat), .str ⟨#[c]⟩])) { s with heap := h2, toks := tk + 1 } :=
      I.turnedNew (ch := [e, it]) (fun b ob hb q => (sb.2 b (by rintro rfl; simp at hb)).trans (hk b ob (by rintro rfl; simp at hb) (by rintro rfl; simp at hb) q)) hf (Nat.le_refl _) new
    have ei : ((i + 1 : Nat) : Int) = (i : Int) + 1 := by omega
    refine ⟨.ref s.heap.objs.size, _, I1, rfl, ⟨_, c, rfl, I.hok.fresh (Nat.le_refl _), rfl, hxc⟩, ⟨⟨.str ⟨#[c]⟩ u, by rw [ei]; exact he2⟩, let ⟨o, q, r⟩ := hst; ⟨o, (sb.2 it (Ne.symm nei)).trans q, r⟩⟩, fun b hb => ?_⟩
    have hlt2 : b < s.heap.objs.size := by
      rcases (show b = e ∨ b = it by simpa using hb) with rfl | rfl
      · exact el
      · exact il
    rw [upd_ne (Nat.ne_of_lt hlt2)]
    exact (hf b hb).1
  done := by
    intro X eP ew eK hc i pins s σ H E I hf ⟨⟨old, he⟩, hit⟩ hle
    subst eP ew eK
    obtain ⟨f0, f1, f2, f3, f4, f5⟩ := hf it (by simp)
    have hd0 : X.A.in1.handled = none := I.ok.hd hc
    obtain rfl : i = x.cps.size := Eq.symm hle
    exact wpAny_pyNext_enum_endD (Draws.text hd0 it x t) he hit fun h' eb => ⟨rfl, I.turned (t' := s.toks) (fun b o hb q => eb b o hb q) f0 f1 f3 f4 f5⟩
  self := fun A i s Q E ⟨⟨_, he⟩, _⟩ h => wpAny_pyIter_enum he h
def iEnumS (ta : TA) : TI := fun σ H R => ta σ H fun vs H1 => ∃ x, vs = [.str x] ∧ R (IteS x) H1
theorem pi_enumS {X : Cx} {e : Expr} {ta : TA} {p pos tpos : Pos} {elts : List Expr} {kk : Nat} (hg : Gl X "enumerate") (hm : X.mg "enumerate" = none) (ha : PA X [e] ta) (hs : starEach [e] X.env = [(false, eval e X.env)] := by rfl) :
    PI X (.Tuple elts kk tpos) (.Call (.Name "enumerate" p) [e] [] pos) (iEnumS ta) := by
  constructor
  intro pins s σ H R I h
  refine Call_ (ld_blt I hg hm boot_enumerate (PyProof.Rows.callWith_type1 (thn (ha.run pos pins s σ H _ I h) fun us s1 ⟨vs, H1, I1, r1, x, ev, q⟩ => ?_) hs rfl))
  subst ev
  cases r1 with
  | cons ra rr =>
    cases rr
    obtain ⟨t, rfl⟩ := ra
    refine om_enum_call (begins_text x t) trivial fun h' he hi hk => wpAny_pyIter_enum he ?_
    have I2 : Inv X pins σ H1 { s1 with heap := h' } := I1.kept (t' := s1.toks) hk
    refine ⟨s1.heap.objs.size + 1, [s1.heap.objs.size + 1, s1.heap.objs.size], _, _, H1, rfl, I2, turn_enumS (x := x) (t := t) (Nat.succ_ne_self _), ⟨⟨.none, he⟩, _, hi, rfl, rfl⟩, fun b hb => ?_, q⟩
    have hb2 : s1.heap.objs.size ≤ b := by
      rcases (show b = s1.heap.objs.size + 1 ∨ b = s1.heap.objs.size by simpa using hb) with rfl | rfl
      · omega
      · exact Nat.le_refl _
    exact I1.fpOk hb2 (I1.hok.fresh hb2)
end Om

namespace Om
open PySem PySem.Spec PyProof.Rows L2
/-! ### walks of enumerate; a comprehension of two for over walks -/
def YEnum (xs : Nat → Option V) : Nat → Hp → V → Hp → Prop := fun i H v H' => ∃ T x, v = .ref T ∧ H T = none ∧ H' = upd H T (.tup [.int (i : Nat), x]) ∧ xs i = some x
theorem walk_enumT {K : PySem.W.Frag} {a : Addr} {xs : List V} : Walk (IteT K a xs) xs.length (fun H => SqT K H a xs) (YEnum fun i => xs[i]?) :=
  ⟨fun i _ hi q => ⟨q, hi⟩, fun _ q => ⟨q, rfl⟩, fun _ _ _ _ _ _ y => y⟩
theorem walk_enumS {x : Str} : Walk (IteS x) x.cps.size (fun _ => True) (YEnum fun i => x.cps[i]?.map fun c => .str ⟨#[c]⟩) :=
  ⟨fun i _ hi _ => hi, fun _ _ => rfl, fun i H v H' _ _ y => by
    obtain ⟨T, c, e1, e2, e3, e4⟩ := y
    exact ⟨T, _, e1, e2, e3, by show (x.cps[i]?).map _ = _; rw [e4]; rfl⟩⟩
section
variable {J : It} {n : Nat} {G : Hp → Prop} {Y : Nat → Hp → V → Hp → Prop}
/-- the inner walk of a comprehension of two for: Pv by the inner turn -/
theorem in_it (w : Walk J n G Y) {g : TG} {tt : TT} {te : TE} {vs : List Nat} {σ : L2.St} {H : Hp} {D : Addr} {Nx : Hp → Prop} (Pv : Nat → Hp → Prop) (h0 : Pv 0 H) (hG : ∀ i H, i ≤ n → Pv i H → G H)
    (hs : ∀ i x H H', i < n → Pv i H → Y i H x H' → g x (wipe σ vs) H' fun σ2 H2 => wipe σ2 vs = wipe σ vs ∧ tt σ2 H2 fun b H3 =>
      if b = true then te σ2 H3 fun y H4 => ∃ acc, H4 D = some (.lst acc) ∧ acc.length < sizeLine ∧ Pv (i + 1) (upd H4 D (.lst (acc ++ [y]))) else Pv (i + 1) H3) (hd : ∀ H, Pv n H → Nx H) :
    ∃ W1 : Nat → Nat → Hp → Prop, (∃ m, W1 0 m H) ∧ ∀ j k H, W1 j k H →
      (J.stop j H ∧ Nx H) ∨ (J.go j H ∧ ∃ Nx1 : Hp → Prop, (∀ H', Nx1 H' → ∃ k', k' < k ∧ W1 (j + 1) k' H') ∧ ∀ x H', J.yld j H x H' → g x (wipe σ vs) H' fun σ3 H5 => wipe σ3 vs = wipe σ vs ∧ tt σ3 H5 fun b H6 =>
        if b = true then te σ3 H6 fun y H7 => ∃ acc, H7 D = some (.lst acc) ∧ acc.length < sizeLine ∧ Nx1 (upd H7 D (.lst (acc ++ [y]))) else Nx1 H6) := by
  refine ⟨fun i m H => m = n - i ∧ i ≤ n ∧ Pv i H, ⟨n, by simp, Nat.zero_le _, h0⟩, ?_⟩
  rintro i m H ⟨rfl, hi, p⟩
  have q := hG i H hi p
  by_cases hlt : i < n
  · exact .inr ⟨w.goes i H hlt q, Pv (i + 1), fun H' p' => ⟨n - (i + 1), by omega, rfl, hlt, p'⟩, fun x H' y => hs i x H H' hlt p (w.yields i H x H' hlt q y)⟩
  · have e : i = n := by omega
    subst e
    exact .inl ⟨w.stops H q, hd H p⟩
/-- the outer walk: what a turn's inner part does is told by B, from Pv i to Pv (i + 1) -/
theorem out_it (w : Walk J n G Y) {H1 : Hp} {D : Addr} {Qd : Hp → Prop} {B : (Hp → Prop) → V → Hp → Prop} (Pv : Nat → Hp → Prop) (h0 : Pv 0 (upd H1 D (.lst []))) (hG : ∀ i H, i ≤ n → Pv i H → G H)
    (hs : ∀ i x H H', i < n → Pv i H → Y i H x H' → B (Pv (i + 1)) x H') (hd : ∀ H, Pv n H → Qd H) :
    ∃ W : Nat → Nat → Hp → Prop, (∃ m, W 0 m (upd H1 D (.lst []))) ∧ ∀ i m H, W i m H →
      (J.stop i H ∧ Qd H) ∨ (J.go i H ∧ ∃ Nx : Hp → Prop, (∀ H', Nx H' → ∃ m', m' < m ∧ W (i + 1) m' H') ∧ ∀ x H', J.yld i H x H' → B Nx x H') := by
  refine ⟨fun i m H => m = n - i ∧ i ≤ n ∧ Pv i H, ⟨n, by simp, Nat.zero_le _, h0⟩, ?_⟩
  rintro i m H ⟨rfl, hi, p⟩
  have q := hG i H hi p
  by_cases hlt : i < n
  · exact .inr ⟨w.goes i H hlt q, Pv (i + 1), fun H' p' => ⟨n - (i + 1), by omega, rfl, hlt, p'⟩, fun x H' y => hs i x H H' hlt p (w.yields i H x H' hlt q y)⟩
  · have e : i = n := by omega
    subst e
    exact .inl ⟨w.stops H q, hd H p⟩
end
end Om

namespace Om
open PySem PySem.Spec PyProof.Rows L2
abbrev sInR : Stmt := top 5
abbrev sLies : Stmt := top 30
def inR (v lo hi : Int) : Bool := decide (lo ≤ v) && decide (v ≤ hi)
def insd (rows : List (List Nat)) (i j : Int) : Bool := inR i 0 ((rows.length : Int) - 1) && inR j 0 (((rows.headD []).length : Int) - 1)
def spInR : Sp := fun vs H Q _ => ∃ v lo hi : Int, vs = [.int v, .int lo, .int hi] ∧ Q (.bl (inR v lo hi)) H
/-- rows of an island as they are kept -/
structure Shp (rows : List (List Nat)) : Prop where
  len : rows.length ≤ 1000
  row : ∀ r ∈ rows, r.length ≤ 1000
  ne : rows ≠ []
def spLies (K : PySem.W.Frag) : Sp := fun vs H Q _ => ∃ (p c : Addr) (rows : List (List Nat)) (i j : Int), vs = [.ref p, .ref c] ∧ SqT K H p (rows.map vt) ∧ Shp rows ∧ SqT K H c [.int i, .int j] ∧ Q (.bl (insd rows i j)) H
section
variable {P : Program} {w : World} {K : PySem.W.Frag} {mg : Str → Option Value} {base : Heap}
abbrev nInR : List Str := ["value", "least", "most"]
theorem scInR : FnScope nInR nInR (defScope sInR) := ⟨rfl, rfl, rfl, by decide +kernel, rfl, by decide +kernel, by decide +kernel⟩
theorem ok_inR {f : Addr} {fd : FuncData} (F : FnP K "in_range" "in_range" sInR f fd) (gisi : mg "isinstance" = none) (gint : mg "int" = none) (gbool : mg "bool" = none) : FnOk P w K mg base CX0 1 f fd nInR spInR := by
  refine F.ok scInR (fun vs H Q E h => ?_) (fun cdv A outer s H vs Q E hr h => ?_)
  · obtain ⟨v, lo, hi, rfl, _⟩ := h
    rfl
  · obtain ⟨v, lo, hi, rfl, k⟩ := h
    refine ⟨_, PSs.nox (pss_one (ps_ret (pe_and (pe_callB call_isi (by rfl) gisi (by decide +kernel) (pa_cons (pv 0) (pa_cons (pe_bltn (v := .ty "int") (by rfl) gint boot_int rfl) pa_nil)))
      (pe_and (pe_not (pe_callB call_isi (by rfl) gisi (by decide +kernel) (pa_cons (pv 0) (pa_cons (pe_bltn (v := .ty "bool") (by rfl) gbool (by decide +kernel) rfl) pa_nil))))
        (pe_one (pe_chain op_le op_le (pv 1) (pv 0) (pv 2))))))), ?_⟩
    refine ⟨_, rfl, _, _, _, _, _, rfl, .ty "int", .base (.int _), kit_ty (a := "int") (b := "int") (r := true) (by decide +kernel), ?_⟩
    refine ⟨true, rfl, iteT ?_⟩
    refine ⟨_, rfl, _, _, _, _, _, rfl, .ty "bool", .base (.int _), kit_ty (a := "int") (b := "bool") (r := false) (by decide +kernel), false, rfl, true, rfl, iteT ?_⟩
    refine ⟨_, rfl, _, rfl, _, _, rfl, rfl, _, rfl, ?_⟩
    unfold inR at k
    cases e : decide (lo ≤ v) with
    | true =>
      rw [e, Bool.true_and] at k
      exact iteT ⟨_, rfl, _, _, rfl, rfl, k⟩
    | false =>
      rw [e, Bool.false_and] at k
      exact iteF k
theorem scLies : FnScope ["rows", "cell", "row", "column"] ["rows", "cell"] (defScope sLies) := ⟨rfl, rfl, rfl, by decide +kernel, rfl, by decide +kernel, by decide +kernel⟩
theorem ok_lies {f : Addr} {fd : FuncData} (F : FnP K "_lies_within" "_lies_within" sLies f fd) (G : Cal P w K mg base CX0 1 "in_range" nInR spInR) (glen : mg "len" = none) : FnOk P w K mg base CX0 2 f fd ["rows", "cell"] (spLies K) := by
  refine F.ok scLies (fun vs H Q E h => ?_) (fun cdv A outer s H vs Q E hr h => ?_)
  · obtain ⟨p, c, rows, i, j, rfl, _⟩ := h
    rfl
  · obtain ⟨p, c, rows, i, j, rfl, hS, sh, hC, k⟩ := h
    have nd := scLies.nd
    have hr1 : Room 1 _ := hr.mono (by decide)
    refine ⟨_, PSs.nox (pss_cons (ps_asg (pv 1) (pg_tup rfl (pgs_cons (pg_name (i := 2) nd rfl (.inl rfl)) (pgs_cons (pg_name (i := 3) nd rfl (.inl rfl)) pgs_nil))))
      (pss_one (ps_ret (pe_and (pe_cal G hr1 pass0 (pa_cons (pv 2) (pa_cons pe_int (pa_cons (pe_op op_sub (pe_callB call_len_seq (by rfl) glen PySem.boot_len (pa_cons (pv 0) pa_nil)) pe_int) pa_nil))))
        (pe_one (pe_cal G hr1 pass0 (pa_cons (pv 3) (pa_cons pe_int (pa_cons (pe_op op_sub (pe_callB call_len_str (by rfl) glen PySem.boot_len (pa_cons (pe_ix ix_tup (pv 0) pe_int (fun _ _ => rfl)) pa_nil)) pe_int) pa_nil))))))))), ?_⟩
    obtain ⟨r0, rs, rfl⟩ : ∃ r0 rs, rows = r0 :: rs := by
      cases rows with
      | nil => exact absurd rfl sh.ne
      | cons r0 rs => exact ⟨r0, rs, rfl⟩
    have hr0 : (tx r0).length ≤ sizeLine := by rw [tx_len]; exact small_le (sh.row r0 (List.mem_cons_self ..))
    refine ⟨_, rfl, c, _, rfl, hC, rfl, _, _, rfl, _, _, rfl, rfl, ?_⟩
    refine ⟨_, rfl, _, rfl, p, _, rfl, .inr hS, _, _, rfl, rfl, i, 0, _, rfl, ?_⟩
    refine ⟨_, rfl, ?_⟩
    have k2 : Q (.bl (inR i 0 ((((r0 :: rs).map vt).length : Nat) - 1) && inR j 0 (((tx r0).length : Nat) - 1))) H := by
      rw [tx_len, List.length_map]; exact k
    cases e : inR i 0 ((((r0 :: rs).map vt).length : Nat) - 1) with
    | false =>
      rw [e, Bool.false_and] at k2
      exact iteF k2
    | true =>
      rw [e, Bool.true_and] at k2
      refine iteT ?_
      exact ⟨_, rfl, _, rfl, p, _, 0, _, rfl, rfl, hS, at0, _, rfl, hr0, _, _, rfl, rfl, j, 0, _, rfl, k2⟩
end
end Om

namespace Om
open PySem PySem.Spec PyProof.Rows L2
/-! ### rows as data -/
def dt (r : List Nat) : PyData := .str (tx r)
theorem dpAll_rows {K : PySem.W.Frag} {H : Hp} : ∀ rows : List (List Nat), DpAll K H (rows.map vt) (rows.map dt)
  | [] => .nil
  | r :: rs => .cons (.str _) (dpAll_rows rs)
theorem strOk_tx {r : List Nat} (h : ∀ c ∈ r, c < 1000) : PyData.strOk (tx r) = true := by
  unfold PyData.strOk
  rw [Array.all_eq_true']
  intro c hc
  have hc' : c ∈ r := by
    have : c ∈ (tx r).cps.toList := by simpa using hc
    rwa [tx_cps] at this
  have := h c hc'
  exact decide_eq_true (by omega)
theorem lay_rows : ∀ {rows : List (List Nat)}, Lo rows → PyData.canLayAll0 (rows.map dt) = true
  | [], _ => by simp [PyData.canLayAll0]
  | r :: rs, h => by
    have h1 : PyData.strOk (tx r) = true := strOk_tx (h r (List.mem_cons_self ..))
    simp only [List.map_cons, PyData.canLayAll0, dt, PyData.canLay0, h1, lay_rows (rows := rs) fun r hr => h r (List.mem_cons_of_mem _ hr), Bool.and_self]
theorem dep_rows : ∀ rows : List (List Nat), PyData.depthAll (rows.map dt) = 0
  | [] => by simp [PyData.depthAll]
  | r :: rs => by simp [PyData.depthAll, PyData.depth, dt, dep_rows rs]
theorem shaped_rows {rows : List (List Nat)} (h : Lo rows) : SeqAt.shaped (.tuple (rows.map dt)) = true :=
  shaped_of (by simp only [PyData.canLay0]; exact lay_rows h) (by simp only [PyData.depth, dep_rows]; omega)
theorem eqv_str (a b : List Nat) : PyData.eqv (.str (tx a)) (.str (tx b)) = decide (a = b) := by
  rw [Bool.eq_iff_iff, decide_eq_true_iff]
  constructor
  · intro h
    have h2 : tx a = tx b := by simpa [PyData.eqv] using h
    exact tx_inj h2
  · rintro rfl
    simp [PyData.eqv]
theorem eqvAll_rows : ∀ a b : List (List Nat), PyData.eqvAll (a.map dt) (b.map dt) = decide (a = b)
  | [], [] => by simp [PyData.eqvAll]
  | [], _ :: _ => by simp [PyData.eqvAll]
  | _ :: _, [] => by simp [PyData.eqvAll]
  | r :: rs, q :: qs => by
    have e1 : PyData.eqvAll ((r :: rs).map dt) ((q :: qs).map dt) = (PyData.eqv (dt r) (dt q) && PyData.eqvAll (rs.map dt) (qs.map dt)) := by simp [PyData.eqvAll]
    rw [e1, eqvAll_rows rs qs, dt, dt, eqv_str, Bool.eq_iff_iff]
    simp
theorem eqv_rows (a b : List (List Nat)) : PyData.eqv (.tuple (a.map dt)) (.tuple (b.map dt)) = decide (a = b) := by
  have e1 : PyData.eqv (.tuple (a.map dt)) (.tuple (b.map dt)) = PyData.eqvAll (a.map dt) (b.map dt) := by simp [PyData.eqv]
  rw [e1, eqvAll_rows]
end Om

namespace Om
open PySem PySem.Spec PyProof.Rows L2
/-! ### an island's methods -/
abbrev sIslM (i : Nat) : Stmt := inClass (top 29) i
/-- an island at a: its rows -/
def Isl (K : PySem.W.Frag) (CI : Addr) (H : Hp) (a : Addr) (rows : List (List Nat)) : Prop := ∃ dx p, H a = some (.ins CI dx (islFs p)) ∧ SqT K H p (rows.map vt)
structure Good2 (rows : List (List Nat)) : Prop extends Shp rows where
  rect : ∀ r ∈ rows, r.length = (rows.headD []).length
  lo : Lo rows
def sgAt (rows : List (List Nat)) (i j : Int) : Nat := (rows.getD i.toNat []).getD j.toNat 0
theorem Isl.same {K : PySem.W.Frag} {CI a : Addr} {H H' : Hp} {rows : List (List Nat)} (h : Isl K CI H a rows) (s : Same H H') : Isl K CI H' a rows := by
  obtain ⟨dx, p, h1, h2⟩ := h
  exact ⟨dx, p, s _ _ h1, Same.tup s h2⟩
theorem islFs_at (p : Addr) : (islFs p).lookup ("_rows" : Str) = some (.ref p) := rfl
theorem insd_at {rows : List (List Nat)} {i j : Int} (g : Good2 rows) (h : insd rows i j = true) : ∃ r c, rows[i.toNat]? = some r ∧ r[j.toNat]? = some c ∧ sgAt rows i j = c ∧ r ∈ rows ∧ 0 ≤ i ∧ 0 ≤ j := by
  unfold insd inR at h
  simp only [Bool.and_eq_true, decide_eq_true_eq] at h
  obtain ⟨⟨h1, h2⟩, h3, h4⟩ := h
  have hi : i.toNat < rows.length := by omega
  have hm : rows[i.toNat] ∈ rows := List.getElem_mem hi
  have hl := g.rect _ hm
  have hj : j.toNat < (rows[i.toNat]).length := by omega
  refine ⟨rows[i.toNat], (rows[i.toNat])[j.toNat], by simp [hi], by simp [hj], ?_, hm, h1, h3⟩
  unfold sgAt
  have e1 : rows.getD i.toNat [] = rows[i.toNat] := by rw [List.getD_eq_getElem?_getD, List.getElem?_eq_getElem hi, Option.getD_some]
  rw [e1, List.getD_eq_getElem?_getD, List.getElem?_eq_getElem hj, Option.getD_some]
/-- an own error class made with a text -/
structure ErrU (K : PySem.W.Frag) (mg : Str → Option Value) (x : Str) (C : Addr) : Prop where
  q : PySem.W.excIn K C [.type "ValueError", .type "Exception", .type "BaseException", .type "object"] "ValueError.__new__" = true
  kp : PySem.W.keepIn K (.ref C) = true
  r1 : PySem.W.subIn K (.ref C) (.type "BaseException") = some true
  r2 : PySem.W.typeIn K (.ref C) = some (.type "type")
  g : mg x = some (.ref C)
def spGet (K : PySem.W.Frag) (CI CU : Addr) : Sp := fun vs H Q E => ∃ (a c : Addr) (rows : List (List Nat)) (i j : Int), vs = [.ref a, .ref c] ∧ Isl K CI H a rows ∧ Good2 rows ∧ SqT K H c [.int i, .int j] ∧
  (insd rows i j = true → Q (vt [sgAt rows i j]) H) ∧ (insd rows i j = false → E (.ref CU) none H)
def hasC (rows : List (List Nat)) (i j : Int) : Bool := insd rows i j && !decide (sgAt rows i j = 126)
def spHas (K : PySem.W.Frag) (CI : Addr) : Sp := fun vs H Q _ => ∃ (a c : Addr) (rows : List (List Nat)) (i j : Int), vs = [.ref a, .ref c] ∧ Isl K CI H a rows ∧ Good2 rows ∧ SqT K H c [.int i, .int j] ∧ Q (.bl (hasC rows i j)) H
def spIEq (K : PySem.W.Frag) (CI : Addr) : Sp := fun vs H Q _ => ∃ (a b : Addr) (r1 r2 : List (List Nat)), vs = [.ref a, .ref b] ∧ Isl K CI H a r1 ∧ Isl K CI H b r2 ∧ Lo r1 ∧ Lo r2 ∧ Q (.bl (decide (r1 = r2))) H
def spIRows (K : PySem.W.Frag) (CI : Addr) : Sp := fun vs H Q _ => ∃ (a dx p : Addr), vs = [.ref a] ∧ H a = some (.ins CI dx (islFs p)) ∧ Q (.ref p) H
def spIHgt (K : PySem.W.Frag) (CI : Addr) : Sp := fun vs H Q _ => ∃ (a : Addr) (rows : List (List Nat)), vs = [.ref a] ∧ Isl K CI H a rows ∧ Q (.int (rows.length : Nat)) H
def spIWid (K : PySem.W.Frag) (CI : Addr) : Sp := fun vs H Q _ => ∃ (a : Addr) (rows : List (List Nat)), vs = [.ref a] ∧ Isl K CI H a rows ∧ Shp rows ∧ Q (.int ((rows.headD []).length : Nat)) H
/-- what isinstance asks of the class -/
structure InsF (K : PySem.W.Frag) (C : Addr) : Prop where
  ha : PySem.W.findIn K (.ref C) "__class__" = some (some (.builtin "object.__class__"))
  hn : PySem.W.specialIn K (.builtin "object.__class__") "__get__" = some (some (.builtin "getset_descriptor.__get__"))
  ht : PySem.W.takesIn K (.builtin "object.__class__") = some true
  hm : PySem.W.mroIn K C (.type "object") = some true
theorem kit_self {K : PySem.W.Frag} {C : Addr} : PySem.W.kitOne K (.ref C) (.ref C) = some true := by
  unfold PySem.W.kitOne
  rw [if_pos (by simp)]
section
variable {P : Program} {w : World} {K : PySem.W.Frag} {mg : Str → Option Value} {base : Heap} {CI CU fN : Addr}
abbrev nGet : List Str := ["self", "cell", "row", "column"]
theorem scGet : FnScope nGet ["self", "cell"] (defScope (sIslM 7)) := ⟨rfl, rfl, rfl, by decide +kernel, rfl, by decide +kernel, by decide +kernel⟩
theorem ok_get {f : Addr} {fd : FuncData} (F : FnP K "__getitem__" "Island.__getitem__" (sIslM 7) f fd) (T : IslF K mg CI fN) (U : ErrU K mg "UnknownCell" CU) (G : Cal P w K mg base CX0 2 "_lies_within" ["rows", "cell"] (spLies K)) : FnOk P w K mg base (L2.CX P w) 3 f fd ["self", "cell"] (spGet K CI CU) := by
  refine F.ok scGet (fun vs H Q E h => ?_) (fun cdv A outer s H vs Q E hr h => ?_)
  · obtain ⟨a, c, rows, i, j, rfl, _⟩ := h
    rfl
  · obtain ⟨a, c, rows, i, j, rfl, hI, g, hC, k1, k2⟩ := h
    have nd := scGet.nd
    have hr2 : Room 2 _ := hr.mono (by decide)
    refine ⟨_, pss_cons (ps_if (pt_not (pt_val (pe_cal G hr2 pass0 (pa_cons (pe_fld (pv 0) rfl) (pa_cons (pv 1) pa_nil)))))
        (pss_one (ps_raise rfl (takes_of rfl rfl rfl rfl) (pmk_own PySem.F.excBase_ValueError U.q U.g U.kp (raises_own U.r1 U.r2) rfl))) pss_nil)
      (pss_cons (ps_asg (pv 1) (pg_tup rfl (pgs_cons (pg_name (i := 2) nd rfl (.inl rfl)) (pgs_cons (pg_name (i := 3) nd rfl (.inl rfl)) pgs_nil))))
      (pss_one (ps_ret (pe_ix ix_str (pe_ix ix_tup (pe_fld (pv 0) rfl) (pv 2) (fun _ _ => rfl)) (pv 3) (fun _ _ => rfl))))), ?_⟩
    obtain ⟨dx, p, hp, hS⟩ := hI
    refine ⟨_, rfl, a, CI, dx, _, .ref p, rfl, hp, T.cl, T.nR, rfl, ?_⟩
    refine ⟨_, rfl, p, c, rows, i, j, rfl, hS, g.toShp, hC, _, rfl, ?_⟩
    cases e : insd rows i j with
    | false => exact iteT (k2 e)
    | true =>
      refine iteF ?_
      obtain ⟨r, ch, h1, h2, h3, hm, hi, hj⟩ := insd_at g e
      refine ⟨_, rfl, c, _, rfl, hC, rfl, _, _, rfl, _, _, rfl, rfl, ?_⟩
      refine ⟨_, rfl, a, CI, dx, _, .ref p, rfl, hp, T.cl, T.nR, rfl, ?_⟩
      have ei : atI (rows.map vt) i = some (vt r) := by
        have z := atI_nat (xs := rows.map vt) (j := i.toNat) (v := vt r) (by rw [List.getElem?_map, h1]; rfl)
        rwa [Int.toNat_of_nonneg hi] at z
      have ej : atI (tx r).cps.toList j = some ch := by
        have z := atI_nat (xs := (tx r).cps.toList) (j := j.toNat) (v := ch) (by rw [tx_cps]; exact h2)
        rwa [Int.toNat_of_nonneg hj] at z
      refine ⟨_, rfl, p, _, i, _, rfl, rfl, hS, ei, _, rfl, _, j, ch, rfl, rfl, (by rw [tx_len]; exact small_le (g.row r hm)), ej, ?_⟩
      have k := k1 e
      rw [h3] at k
      exact k
theorem scHas : FnScope ["self", "cell"] ["self", "cell"] (defScope (sIslM 8)) := ⟨rfl, rfl, rfl, by decide +kernel, rfl, by decide +kernel, by decide +kernel⟩
theorem ok_has {f : Addr} {fd : FuncData} (F : FnP K "__contains__" "Island.__contains__" (sIslM 8) f fd) (T : IslF K mg CI fN) (G : Cal P w K mg base CX0 2 "_lies_within" ["rows", "cell"] (spLies K)) (gw : ∃ t, mg "WATER" = some (.str (Str.ofString "~") t)) :
    FnOk P w K mg base CX0 3 f fd ["self", "cell"] (spHas K CI) := by
  obtain ⟨t0, gw⟩ := gw
  refine F.ok scHas (fun vs H Q E h => ?_) (fun cdv A outer s H vs Q E hr h => ?_)
  · obtain ⟨a, c, rows, i, j, rfl, _⟩ := h
    rfl
  · obtain ⟨a, c, rows, i, j, rfl, hI, g, hC, k⟩ := h
    have nd := scHas.nd
    have hr2 : Room 2 _ := hr.mono (by decide)
    refine ⟨_, PSs.nox (pss_one (ps_ret (pe_and (pe_cal G hr2 pass0 (pa_cons (pe_fld (pv 0) rfl) (pa_cons (pv 1) pa_nil)))
      (pe_one (pe_cmpR op_ne (pe_ix ix_str (pe_ix ix_tup (pe_fld (pv 0) rfl) (pe_ix ix_tup (pv 1) pe_int (fun _ _ => rfl)) (fun _ _ => rfl)) (pe_ix ix_tup (pv 1) pe_int (fun _ _ => rfl)) (fun _ _ => rfl))
        (pe_glob (v := .str (Str.ofString "~")) rfl gw ⟨_, rfl⟩) (nomark _)))))), ?_⟩
    obtain ⟨dx, p, hp, hS⟩ := hI
    refine ⟨_, rfl, a, CI, dx, _, .ref p, rfl, hp, T.cl, T.nR, rfl, ?_⟩
    refine ⟨_, rfl, p, c, rows, i, j, rfl, hS, g.toShp, hC, _, rfl, ?_⟩
    unfold hasC at k
    cases e : insd rows i j with
    | false =>
      rw [e, Bool.false_and] at k
      exact iteF k
    | true =>
      rw [e, Bool.true_and] at k
      refine iteT ?_
      obtain ⟨r, ch, h1, h2, h3, hm, hi, hj⟩ := insd_at g e
      have ei : atI (rows.map vt) i = some (vt r) := by
        have z := atI_nat (xs := rows.map vt) (j := i.toNat) (v := vt r) (by rw [List.getElem?_map, h1]; rfl)
        rwa [Int.toNat_of_nonneg hi] at z
      have ej : atI (tx r).cps.toList j = some ch := by
        have z := atI_nat (xs := (tx r).cps.toList) (j := j.toNat) (v := ch) (by rw [tx_cps]; exact h2)
        rwa [Int.toNat_of_nonneg hj] at z
      refine ⟨_, rfl, a, CI, dx, _, .ref p, rfl, hp, T.cl, T.nR, rfl, ?_⟩
      refine ⟨_, rfl, c, _, 0, _, rfl, rfl, hC, rfl, p, _, i, _, rfl, rfl, hS, ei, ?_⟩
      refine ⟨_, rfl, c, _, 1, _, rfl, rfl, hC, rfl, _, j, ch, rfl, rfl, (by rw [tx_len]; exact small_le (g.row r hm)), ej, ?_⟩
      rw [h3] at k
      have e2 : (decide (V.str ⟨#[ch]⟩ = V.str (Str.ofString "~"))) = decide (ch = 126) := by
        have z : Str.ofString "~" = (⟨#[126]⟩ : Str) := by decide +kernel
        rw [z]
        apply decide_eq_decide.mpr
        simp
      refine ⟨rfl, ?_⟩
      show Q (.bl (!decide (V.str ⟨#[ch]⟩ = V.str (Str.ofString "~")))) H
      rw [e2]
      exact k
theorem scIEq : FnScope ["self", "other"] ["self", "other"] (defScope (sIslM 10)) := ⟨rfl, rfl, rfl, by decide +kernel, rfl, by decide +kernel, by decide +kernel⟩
theorem ok_ieq {f : Addr} {fd : FuncData} (F : FnP K "__eq__" "Island.__eq__" (sIslM 10) f fd) (T : IslF K mg CI fN) (N : InsF K CI) (gisi : mg "isinstance" = none) : FnOk P w K mg base CX0 1 f fd ["self", "other"] (spIEq K CI) := by
  refine F.ok scIEq (fun vs H Q E h => ?_) (fun cdv A outer s H vs Q E hr h => ?_)
  · obtain ⟨a, b, r1, r2, rfl, _⟩ := h
    rfl
  · obtain ⟨a, b, r1, r2, rfl, ⟨dx, p, hp, hS⟩, ⟨dy, q, hq, hS2⟩, l1, l2, k⟩ := h
    refine ⟨_, PSs.nox (pss_one (ps_ret (pe_and (pe_callB call_isi (by rfl) gisi (by decide +kernel) (pa_cons (pv 1) (pa_cons (pe_glob (v := .ref CI) rfl T.gI rfl) pa_nil)))
      (pe_one (pe_cmpR (op_eqD hr.units) (pe_fld (pv 0) rfl) (pe_fld (pv 1) rfl) (nomark _)))))), ?_⟩
    refine ⟨_, rfl, _, _, _, _, _, rfl, .own CI, .base (.ins hq T.cl N.ha N.hn N.ht N.hm), kit_self, true, rfl, iteT ?_⟩
    refine ⟨_, rfl, a, CI, dx, _, .ref p, rfl, hp, T.cl, T.nR, rfl, ?_⟩
    refine ⟨_, rfl, b, CI, dy, _, .ref q, rfl, hq, T.cl, T.nR, rfl, ?_⟩
    refine ⟨_, _, .tup hS (dpAll_rows r1), .tup hS2 (dpAll_rows r2), shaped_rows l1, shaped_rows l2, ?_⟩
    rw [eqv_rows]
    exact k
theorem scI1 (i : Nat) (h : i = 1 ∨ i = 2 ∨ i = 3) : FnScope ["self"] ["self"] (defScope (sIslM i)) := by
  rcases h with rfl | rfl | rfl <;> exact ⟨rfl, rfl, rfl, by decide +kernel, rfl, by decide +kernel, by decide +kernel⟩
theorem ok_irows {f : Addr} {fd : FuncData} (F : FnP K "rows" "Island.rows" (sIslM 1) f fd) (T : IslF K mg CI fN) : FnOk P w K mg base CX0 1 f fd ["self"] (spIRows K CI) := by
  refine F.ok (scI1 1 (.inl rfl)) (fun vs H Q E h => ?_) (fun cdv A outer s H vs Q E hr h => ?_)
  · obtain ⟨a, dx, p, rfl, _⟩ := h
    rfl
  · obtain ⟨a, dx, p, rfl, hp, k⟩ := h
    exact ⟨_, PSs.nox (pss_one (ps_ret (pe_fld (pv 0) rfl))), _, rfl, a, CI, dx, _, .ref p, rfl, hp, T.cl, T.nR, rfl, k⟩
theorem ok_iwid {f : Addr} {fd : FuncData} (F : FnP K "width" "Island.width" (sIslM 3) f fd) (T : IslF K mg CI fN) (glen : mg "len" = none) : FnOk P w K mg base CX0 1 f fd ["self"] (spIWid K CI) := by
  refine F.ok (scI1 3 (.inr (.inr rfl))) (fun vs H Q E h => ?_) (fun cdv A outer s H vs Q E hr h => ?_)
  · obtain ⟨a, rows, rfl, _⟩ := h
    rfl
  · obtain ⟨a, rows, rfl, ⟨dx, p, hp, hS⟩, sh, k⟩ := h
    obtain ⟨r0, rs, rfl⟩ : ∃ r0 rs, rows = r0 :: rs := by
      cases rows with
      | nil => exact absurd rfl sh.ne
      | cons r0 rs => exact ⟨r0, rs, rfl⟩
    have hr0 : (tx r0).length ≤ sizeLine := by rw [tx_len]; exact small_le (sh.row r0 (List.mem_cons_self ..))
    refine ⟨_, PSs.nox (pss_one (ps_ret (pe_callB call_len_str (by rfl) glen PySem.boot_len (pa_cons (pe_ix ix_tup (pe_fld (pv 0) rfl) pe_int (fun _ _ => rfl)) pa_nil)))), ?_⟩
    refine ⟨_, rfl, a, CI, dx, _, .ref p, rfl, hp, T.cl, T.nR, rfl, p, _, 0, _, rfl, rfl, hS, at0, _, rfl, hr0, ?_⟩
    rw [tx_len]
    exact k
end
end Om

namespace Om
open PySem PySem.Spec PyProof.Rows L2
/-! ### Dp stays -/
theorem Same.lst {K : PySem.W.Frag} {H H' : Hp} {a : Addr} {xs : List V} (e : Same H H') (h : SqL K H a xs) : SqL K H' a xs := by
  rcases h with (h | ⟨o, h⟩) | h
  · exact .inl (.inl (e _ _ h))
  · exact .inl (.inr ⟨o, e _ _ h⟩)
  · exact .inr h
theorem dp_mono {K : PySem.W.Frag} {H H' : Hp} (hS : ∀ a xs, SqT K H a xs → SqT K H' a xs) (hL : ∀ a xs, SqL K H a xs → SqL K H' a xs) {v : V} {d : PyData} (h : Dp K H v d) : Dp K H' v d :=
  Dp.rec (motive_1 := fun v d _ => Dp K H' v d) (motive_2 := fun vs ds _ => DpAll K H' vs ds) .non .bl .int .str (fun s _ ih => .lst (hL _ _ s) ih) (fun s _ ih => .tup (hS _ _ s) ih) .nil (fun _ _ i1 i2 => .cons i1 i2) h
theorem dpAll_mono {K : PySem.W.Frag} {H H' : Hp} (hS : ∀ a xs, SqT K H a xs → SqT K H' a xs) (hL : ∀ a xs, SqL K H a xs → SqL K H' a xs) {vs : List V} {ds : List PyData} (h : DpAll K H vs ds) : DpAll K H' vs ds :=
  DpAll.rec (motive_1 := fun v d _ => Dp K H' v d) (motive_2 := fun vs ds _ => DpAll K H' vs ds) .non .bl .int .str (fun s _ ih => .lst (hL _ _ s) ih) (fun s _ ih => .tup (hS _ _ s) ih) .nil (fun _ _ i1 i2 => .cons i1 i2) h
theorem Same.dp {K : PySem.W.Frag} {H H' : Hp} {v : V} {d : PyData} (e : Same H H') (h : Dp K H v d) : Dp K H' v d := dp_mono (fun _ _ => Same.tup e) (fun _ _ => Same.lst e) h
theorem Same.dpAll {K : PySem.W.Frag} {H H' : Hp} {v : List V} {d : List PyData} (e : Same H H') (h : DpAll K H v d) : DpAll K H' v d := dpAll_mono (fun _ _ => Same.tup e) (fun _ _ => Same.lst e) h
theorem dpAll_app {K : PySem.W.Frag} {H : Hp} : ∀ {a : List V} {da : List PyData} {b : List V} {db : List PyData}, DpAll K H a da → DpAll K H b db → DpAll K H (a ++ b) (da ++ db)
  | [], [], _, _, .nil, h => h
  | _ :: _, _ :: _, _, _, .cons x y, h => .cons x (dpAll_app y h)
theorem dpAll_len {K : PySem.W.Frag} {H : Hp} : ∀ {a : List V} {da : List PyData}, DpAll K H a da → a.length = da.length
  | [], [], .nil => rfl
  | _ :: _, _ :: _, .cons _ y => by rw [List.length_cons, List.length_cons, dpAll_len y]
/-! ### pairs of numbers in a list that grows at D -/
def cdp (c : Nat × Nat) : PyData := .tuple [.int (c.1 : Nat), .int (c.2 : Nat)]
theorem SqT.other {K : PySem.W.Frag} {H : Hp} {a D : Addr} {xs acc : List V} {o : HO} (h : SqT K H a xs) (hD : H D = some (.lst acc)) : SqT K (upd H D o) a xs := by
  rcases h with (h | ⟨ob, h⟩) | h
  · have n : a ≠ D := fun e => by rw [e, hD] at h; cases h
    exact .inl (.inl (by rw [upd_ne n]; exact h))
  · have n : a ≠ D := fun e => by rw [e, hD] at h; cases h
    exact .inl (.inr ⟨ob, by rw [upd_ne n]; exact h⟩)
  · exact .inr h
theorem pairs_other {K : PySem.W.Frag} {H : Hp} {D : Addr} {acc : List V} {o : HO} (hD : H D = some (.lst acc)) : ∀ {xs : List V} {cs : List (Nat × Nat)}, DpAll K H xs (cs.map cdp) → DpAll K (upd H D o) xs (cs.map cdp)
  | [], [], .nil => .nil
  | _ :: _, _ :: _, .cons h t => by
    refine .cons ?_ (pairs_other hD t)
    unfold cdp at h ⊢
    cases h with
    | tup s al =>
      refine .tup (SqT.other s hD) ?_
      cases al with
      | cons h1 t1 =>
        cases h1
        cases t1 with
        | cons h2 t2 =>
          cases h2
          cases t2
          exact .cons (.int _) (.cons (.int _) .nil)
/-! ### the cells of land -/
def rowCells (r : List Nat) (i n : Nat) : List (Nat × Nat) := ((List.range n).filter fun j => !decide (r.getD j 0 = 126)).map fun j => (i, j)
def cellsTo (rows : List (List Nat)) (n : Nat) : List (Nat × Nat) := (List.range n).flatMap fun i => rowCells (rows.getD i []) i (rows.getD i []).length
def cellsOf (rows : List (List Nat)) : List (Nat × Nat) := cellsTo rows rows.length
theorem rowCells_succ (r : List Nat) (i n : Nat) : rowCells r i (n + 1) = if r.getD n 0 = 126 then rowCells r i n else rowCells r i n ++ [(i, n)] := by
  unfold rowCells
  rw [List.range_succ, List.filter_append, List.map_append]
  by_cases h : r.getD n 0 = 126
  · rw [if_pos h]
    simp only [List.filter_cons, h, decide_true, Bool.not_true, Bool.false_eq_true, if_false, List.filter_nil, List.map_nil, List.append_nil]
  · rw [if_neg h]
    have e : (!decide (r.getD n 0 = 126)) = true := by rw [decide_eq_false h]; rfl
    simp only [List.filter_cons, e, if_true, List.filter_nil, List.map_cons, List.map_nil]
theorem cellsTo_succ (rows : List (List Nat)) (n : Nat) : cellsTo rows (n + 1) = cellsTo rows n ++ rowCells (rows.getD n []) n (rows.getD n []).length := by
  unfold cellsTo
  rw [List.range_succ, List.flatMap_append]
  simp
theorem rowCells_len (r : List Nat) (i n : Nat) : (rowCells r i n).length ≤ n := by
  unfold rowCells
  rw [List.length_map]
  exact Nat.le_trans (List.length_filter_le ..) (by rw [List.length_range]; exact Nat.le_refl _)
theorem cellsTo_len {rows : List (List Nat)} {w : Nat} (hw : ∀ r ∈ rows, r.length ≤ w) : ∀ n, n ≤ rows.length → (cellsTo rows n).length ≤ n * w
  | 0, _ => by simp [cellsTo]
  | n + 1, h => by
    rw [cellsTo_succ, List.length_append]
    have h1 := cellsTo_len hw n (by omega)
    have hm : rows.getD n [] ∈ rows := by
      rw [List.getD_eq_getElem?_getD, List.getElem?_eq_getElem (by omega), Option.getD_some]
      exact List.getElem_mem _
    have h2 := rowCells_len (rows.getD n []) n (rows.getD n []).length
    have h3 := hw _ hm
    rw [Nat.succ_mul]
    omega
theorem getD_at {rows : List (List Nat)} {i : Nat} {r : List Nat} (h : rows[i]? = some r) : rows.getD i [] = r := by
  rw [List.getD_eq_getElem?_getD, h, Option.getD_some]
/-- an island as it may be -/
structure Vd (rows : List (List Nat)) : Prop extends Good2 rows where
  hgt : rows.length ≤ 12
  wid : ∀ r ∈ rows, 1 ≤ r.length ∧ r.length ≤ 12
theorem RowsOk.vd {m : Nat} {rows : List (List Nat)} (h : RowsOk m rows) (hm : m ≤ 12) : Vd rows := by
  obtain ⟨h1, h2, wd, w1, w2, hr⟩ := h
  have g := RowsOk.good ⟨h1, h2, wd, w1, w2, hr⟩ hm
  refine ⟨⟨⟨g.le, g.lens, fun e => by rw [e] at h1; simp at h1⟩, fun r hr' => ?_, g.lo⟩, by omega, fun r hr' => by have := (hr r hr').1; omega⟩
  cases rows with
  | nil => cases hr'
  | cons r0 rs =>
    have e1 := (hr r hr').1
    have e2 := (hr r0 (List.mem_cons_self ..)).1
    show r.length = r0.length
    omega
def spICells (K : PySem.W.Frag) (CI : Addr) : Sp := fun vs H Q _ => ∃ (a : Addr) (rows : List (List Nat)), vs = [.ref a] ∧ Isl K CI H a rows ∧ Vd rows ∧ ∀ v H', Same H H' → Dp K H' v (.list ((cellsOf rows).map cdp)) → Q v H'
end Om

namespace Om
open PySem PySem.Spec PyProof.Rows L2
/-! ### _law_alike of two readings of the same data -/
abbrev sAlike : Stmt := top 36
/-- none, bools, ints, texts, tuples and lists of such, some deep -/
def okD : Nat → PyData → Bool
  | 0, _ => false
  | _ + 1, .none => true
  | _ + 1, .bool _ => true
  | _ + 1, .int _ => true
  | _ + 1, .str x => PyData.strOk x
  | n + 1, .list ds => decide (ds.length ≤ 10000) && ds.all (okD n)
  | n + 1, .tuple ds => decide (ds.length ≤ 10000) && ds.all (okD n)
  | _ + 1, .dict _ => false
theorem dpAll_at {K : PySem.W.Frag} {H : Hp} : ∀ {xs : List V} {ds : List PyData}, DpAll K H xs ds → ∀ {i : Nat} {e : PyData}, ds[i]? = some e → ∃ v, xs[i]? = some v ∧ Dp K H v e
  | [], [], .nil, i, e, h => by simp at h
  | v :: _, d :: _, .cons h1 t, 0, e, h => by
    have h : some d = some e := h
    cases h
    exact ⟨v, rfl, h1⟩
  | v :: _, d :: _, .cons h1 t, i + 1, e, h => by
    obtain ⟨u, h2, h3⟩ := dpAll_at t (i := i) (e := e) h
    exact ⟨u, h2, h3⟩
def tyD : PyData → String
  | .none => "NoneType"
  | .bool _ => "bool"
  | .int _ => "int"
  | .str _ => "str"
  | .list _ => "list"
  | .tuple _ => "tuple"
  | .dict _ => "dict"
theorem sqL_ty {K : PySem.W.Frag} {H : Hp} {a : Addr} {xs : List V} (h : SqL K H a xs) : TyX K H (.ref a) (.type "list") := by
  rcases h with (h | ⟨o, h⟩) | h
  · exact .base (.lst h)
  · exact .base (.frz h)
  · obtain ⟨o, its, n, e1, e2, _⟩ := h
    exact .kList e1 e2
theorem sqT_ty {K : PySem.W.Frag} {H : Hp} {a : Addr} {xs : List V} (h : SqT K H a xs) : TyX K H (.ref a) (.type "tuple") := by
  rcases h with (h | ⟨o, h⟩) | h
  · exact .base (.tup h)
  · exact .fTuple h
  · obtain ⟨o, its, n, e1, e2, _⟩ := h
    exact .kTuple e1 e2
theorem dp_ty {K : PySem.W.Frag} {H : Hp} {v : V} {d : PyData} (h : Dp K H v d) : TyX K H v (.type (tyD d)) := by
  cases h with
  | non => exact .base .non
  | bl b => exact .base (.bl b)
  | int i => exact .base (.int i)
  | str x => exact .base (.str x)
  | lst s _ => exact sqL_ty s
  | tup s _ => exact sqT_ty s
def spAlike (K : PySem.W.Frag) (n : Nat) : Sp := fun vs H Q _ => ∃ (x y : V) (d : PyData), vs = [x, y] ∧ Dp K H x d ∧ Dp K H y d ∧ okD n d = true ∧ Q (.bl true) H
abbrev nAlike : List Str := ["_law_found", "_law_due", "_law_k"]
theorem scAlike : FnScope nAlike ["_law_found", "_law_due"] (defScope sAlike) := ⟨rfl, rfl, rfl, by decide +kernel, rfl, by decide +kernel, by decide +kernel⟩
section
variable {P : Program} {w : World} {K : PySem.W.Frag} {mg : Str → Option Value} {base : Heap}
theorem ok_alike {f : Addr} {fd : FuncData} (F : FnP K "_law_alike" "_law_alike" sAlike f fd) (hg : mg "_law_alike" = some (.ref f)) (hk : PySem.W.keepIn K (.ref f) = true) (hb : Binds K fd ["_law_found", "_law_due"] [])
    (gisi : mg "isinstance" = none) (gint : mg "int" = none) (gbool : mg "bool" = none) (gstr : mg "str" = none) (gtuple : mg "tuple" = none) (glist : mg "list" = none) (glen : mg "len" = none) (grange : mg "range" = none) :
    ∀ n, FnOk P w K mg base CX0 (n + 1) f fd ["_law_found", "_law_due"] (spAlike K n) := by
  intro n
  induction n with
  | zero =>
    refine F.ok scAlike (fun vs H Q E h => ?_) (fun cdv A outer s H vs Q E hr h => ?_)
    · obtain ⟨x, y, d, _, _, _, h, _⟩ := h
      cases h
    · obtain ⟨x, y, d, _, _, _, h, _⟩ := h
      cases h
  | succ n ih =>
    have G : Cal P w K mg base CX0 (n + 1) "_law_alike" ["_law_found", "_law_due"] (spAlike K n) := ⟨_, _, ih, hg, hk, hb⟩
    refine F.ok scAlike (fun vs H Q E h => ?_) (fun cdv A outer s H vs Q E hr h => ?_)
    · obtain ⟨x, y, d, rfl, _⟩ := h
      rfl
    · obtain ⟨x, y, d, rfl, hx, hy, ok, k⟩ := h
      have nd := scAlike.nd
      refine ⟨_, PSs.nox (pss_cons (ps_if (pt_cmpR op_isN (pv 1) pe_non (nomark _)) (pss_one (ps_ret (pe_cmpR op_isN (pv 0) pe_non (nomark _)))) pss_nil)
        (pss_cons (ps_if (pt_val (pe_callB call_isi (by rfl) gisi (by decide +kernel) (pa_cons (pv 1) (pa_cons (pe_bltn (v := .ty "bool") (by rfl) gbool (by decide +kernel) rfl) pa_nil))))
            (pss_one (ps_ret (pe_and (pe_callB call_isi (by rfl) gisi (by decide +kernel) (pa_cons (pv 0) (pa_cons (pe_bltn (v := .ty "bool") (by rfl) gbool (by decide +kernel) rfl) pa_nil))) (pe_one (pe_cmpR (op_eqD hr.units) (pv 0) (pv 1) (nomark _)))))) pss_nil)
        (pss_cons (ps_if (pt_val (pe_callB call_isi (by rfl) gisi (by decide +kernel) (pa_cons (pv 1) (pa_cons (pe_bltn (v := .ty "int") (by rfl) gint boot_int rfl) pa_nil))))
            (pss_one (ps_ret (pe_and (pe_callB call_isi (by rfl) gisi (by decide +kernel) (pa_cons (pv 0) (pa_cons (pe_bltn (v := .ty "int") (by rfl) gint boot_int rfl) pa_nil)))
              (pe_and (pe_not (pe_callB call_isi (by rfl) gisi (by decide +kernel) (pa_cons (pv 0) (pa_cons (pe_bltn (v := .ty "bool") (by rfl) gbool (by decide +kernel) rfl) pa_nil)))) (pe_one (pe_cmpR (op_eqD hr.units) (pv 0) (pv 1) (nomark _))))))) pss_nil)
        (pss_cons (ps_if (pt_val (pe_callB call_isi (by rfl) gisi (by decide +kernel) (pa_cons (pv 1) (pa_cons (pe_bltn (v := .ty "str") (by rfl) gstr (by decide +kernel) rfl) pa_nil))))
            (pss_one (ps_ret (pe_and (pe_callB call_isi (by rfl) gisi (by decide +kernel) (pa_cons (pv 0) (pa_cons (pe_bltn (v := .ty "str") (by rfl) gstr (by decide +kernel) rfl) pa_nil))) (pe_one (pe_cmpR (op_eqD hr.units) (pv 0) (pv 1) (nomark _)))))) pss_nil)
        (pss_cons (ps_if (PW.pt (pw_or (pt_cmpR op_ne (pe_callB call_isi (by rfl) gisi (by decide +kernel) (pa_cons (pv 1) (pa_cons (pe_bltn (v := .ty "tuple") (by rfl) gtuple (by decide +kernel) rfl) pa_nil)))
                (pe_callB call_isi (by rfl) gisi (by decide +kernel) (pa_cons (pv 0) (pa_cons (pe_bltn (v := .ty "tuple") (by rfl) gtuple (by decide +kernel) rfl) pa_nil))) (nomark _))
              (pw_or1 (pt_cmpR op_ne (pe_callB call_isi (by rfl) gisi (by decide +kernel) (pa_cons (pv 1) (pa_cons (pe_bltn (v := .ty "list") (by rfl) glist (by decide +kernel) rfl) pa_nil)))
                (pe_callB call_isi (by rfl) gisi (by decide +kernel) (pa_cons (pv 0) (pa_cons (pe_bltn (v := .ty "list") (by rfl) glist (by decide +kernel) rfl) pa_nil))) (nomark _))))) (pss_one (ps_ret pe_bl)) pss_nil)
        (pss_cons (ps_if (pt_cmpR op_ne (pe_callB call_len_seq (by rfl) glen PySem.boot_len (pa_cons (pv 0) pa_nil)) (pe_callB call_len_seq (by rfl) glen PySem.boot_len (pa_cons (pv 1) pa_nil)) (nomark _)) (pss_one (ps_ret pe_bl)) pss_nil)
        (pss_cons (ps_for PassesOwn.never rfl (pi_range1 rfl grange (pa_cons (pe_callB call_len_seq (by rfl) glen PySem.boot_len (pa_cons (pv 1) pa_nil)) pa_nil)) (pg_name (i := 2) nd rfl (.inl rfl))
            (pss_one (ps_if (pt_not (pt_val (pe_cal G hr pass0 (pa_cons (pe_ix ix_seq (pv 0) (pv 2) (fun _ _ => rfl)) (pa_cons (pe_ix ix_seq (pv 1) (pv 2) (fun _ _ => rfl)) pa_nil))))) (pss_one (ps_ret pe_bl)) pss_nil)))
        (pss_one (ps_ret pe_bl))))))))), ?_⟩
      have ex := dp_ty hx
      have ey := dp_ty hy
      have kt : ∀ {a b : String} {r : Bool}, kitB a b = some r → PySem.W.kitOne K (.type a) (.type b) = some r := fun h => kit_ty h
      have bb := kt (a := "bool") (b := "bool") (r := true) (by decide +kernel)
      have ib := kt (a := "int") (b := "bool") (r := false) (by decide +kernel)
      have ii := kt (a := "int") (b := "int") (r := true) (by decide +kernel)
      have sb := kt (a := "str") (b := "bool") (r := false) (by decide +kernel)
      have si := kt (a := "str") (b := "int") (r := false) (by decide +kernel)
      have ss := kt (a := "str") (b := "str") (r := true) (by decide +kernel)
      have lb := kt (a := "list") (b := "bool") (r := false) (by decide +kernel)
      have li := kt (a := "list") (b := "int") (r := false) (by decide +kernel)
      have ls := kt (a := "list") (b := "str") (r := false) (by decide +kernel)
      have lt := kt (a := "list") (b := "tuple") (r := false) (by decide +kernel)
      have ll := kt (a := "list") (b := "list") (r := true) (by decide +kernel)
      have tb := kt (a := "tuple") (b := "bool") (r := false) (by decide +kernel)
      have ti := kt (a := "tuple") (b := "int") (r := false) (by decide +kernel)
      have ts := kt (a := "tuple") (b := "str") (r := false) (by decide +kernel)
      have tt := kt (a := "tuple") (b := "tuple") (r := true) (by decide +kernel)
      have tl := kt (a := "tuple") (b := "list") (r := false) (by decide +kernel)
      refine ⟨_, rfl, rfl, _, rfl, ?_⟩
      -- what follows for a list, a tuple at both: the items one by one
      have items : ∀ (xs ys : List V) (ds : List PyData), DpAll K H xs ds → DpAll K H ys ds → ds.all (okD n) = true →
          ∀ i, i < ys.length → ∃ v u, xs[i]? = some v ∧ ys[i]? = some u ∧ ∃ e, Dp K H v e ∧ Dp K H u e ∧ okD n e = true := fun xs ys ds h1 h2 h3 i hi => by
        have hl := dpAll_len h2
        have hi2 : i < ds.length := by omega
        have he : ds[i]? = some ds[i] := by simp [hi2]
        obtain ⟨v, a1, a2⟩ := dpAll_at h1 he
        obtain ⟨u, b1, b2⟩ := dpAll_at h2 he
        exact ⟨v, u, a1, b1, _, a2, b2, List.all_eq_true.mp h3 _ (List.getElem_mem hi2)⟩
      cases d with
      | none =>
        cases hx
        cases hy
        exact iteT ⟨_, rfl, rfl, k⟩
      | dict kvs => cases ok
      | bool b =>
        cases hx
        cases hy
        refine iteF ⟨_, rfl, _, _, _, _, _, rfl, .ty "bool", ey, bb, true, rfl, iteT ?_⟩
        refine ⟨_, rfl, _, _, _, _, _, rfl, .ty "bool", ex, bb, true, rfl, iteT ?_⟩
        refine ⟨_, rfl, _, rfl, _, _, .bl b, .bl b, rfl, rfl, ?_⟩
        show Q (.bl (PyData.eqv (.bool b) (.bool b))) H
        rw [PySem.SeqAt.eqv_refl _ rfl]
        exact k
      | int i =>
        cases hx
        cases hy
        refine iteF ⟨_, rfl, _, _, _, _, _, rfl, .ty "bool", ey, ib, false, rfl, iteF ?_⟩
        refine ⟨_, rfl, _, _, _, _, _, rfl, .ty "int", ey, ii, true, rfl, iteT ?_⟩
        refine ⟨_, rfl, _, _, _, _, _, rfl, .ty "int", ex, ii, true, rfl, iteT ?_⟩
        refine ⟨_, rfl, _, _, _, _, _, rfl, .ty "bool", ex, ib, false, rfl, true, rfl, iteT ?_⟩
        refine ⟨_, rfl, _, rfl, _, _, .int i, .int i, rfl, rfl, ?_⟩
        show Q (.bl (PyData.eqv (.int i) (.int i))) H
        rw [PySem.SeqAt.eqv_refl _ rfl]
        exact k
      | str z =>
        cases hx
        cases hy
        have hz : PyData.strOk z = true := ok
        have lay : PyData.canLay0 (.str z) = true := by simp only [PyData.canLay0]; exact hz
        have sh : SeqAt.shaped (.str z) = true := shaped_of lay (by simp [PyData.depth])
        refine iteF ⟨_, rfl, _, _, _, _, _, rfl, .ty "bool", ey, sb, false, rfl, iteF ?_⟩
        refine ⟨_, rfl, _, _, _, _, _, rfl, .ty "int", ey, si, false, rfl, iteF ?_⟩
        refine ⟨_, rfl, _, _, _, _, _, rfl, .ty "str", ey, ss, true, rfl, iteT ?_⟩
        refine ⟨_, rfl, _, _, _, _, _, rfl, .ty "str", ex, ss, true, rfl, iteT ?_⟩
        refine ⟨_, rfl, _, rfl, _, _, .str z, .str z, sh, sh, ?_⟩
        show Q (.bl (PyData.eqv (.str z) (.str z))) H
        rw [PySem.SeqAt.eqv_refl _ lay]
        exact k
      | list ds =>
        cases hx with
        | lst sx ax =>
          rename_i a xs
          cases hy with
          | lst sy ay =>
            rename_i b ys
            have ok2 : (decide (ds.length ≤ 10000) && ds.all (okD n)) = true := ok
            obtain ⟨o1, o2⟩ := Bool.and_eq_true_iff.mp ok2
            have it := items xs ys ds ax ay o2
            refine iteF ⟨_, rfl, _, _, _, _, _, rfl, .ty "bool", ey, lb, false, rfl, iteF ?_⟩
            refine ⟨_, rfl, _, _, _, _, _, rfl, .ty "int", ey, li, false, rfl, iteF ?_⟩
            refine ⟨_, rfl, _, _, _, _, _, rfl, .ty "str", ey, ls, false, rfl, iteF ?_⟩
            refine ⟨_, rfl, _, _, _, _, _, rfl, .ty "tuple", ey, lt, _, rfl, _, _, _, _, _, rfl, .ty "tuple", ex, lt, ?_⟩
            refine ⟨rfl, _, rfl, iteF' (by rw [decide_eq_true rfl]; rfl) ?_⟩
            refine ⟨_, rfl, _, _, _, _, _, rfl, .ty "list", ey, ll, _, rfl, _, _, _, _, _, rfl, .ty "list", ex, ll, ?_⟩
            refine ⟨rfl, _, rfl, iteF' (by rw [decide_eq_true rfl]; rfl) ?_⟩
            have lx : xs.length = ys.length := by rw [dpAll_len ax, dpAll_len ay]
            have lb1 : ys.length ≤ 10000 := by
              rw [dpAll_len ay]
              exact of_decide_eq_true o1
            refine ⟨_, rfl, a, xs, rfl, .inl sx, _, rfl, b, ys, rfl, .inl sy, rfl, _, rfl, iteF' (by rw [lx, decide_eq_true rfl]; rfl) ?_⟩
            refine ⟨_, rfl, b, ys, rfl, .inl sy, _, rfl, by omega, by omega, for_range (lo := 0) (n := ((ys.length : Nat) : Int).toNat) (fun i σ H' => H' = H ∧ ∃ v, σ = [some (V.ref a), some (V.ref b), v]) ⟨rfl, _, rfl⟩ ?_ ?_⟩
            · rintro i σ H' hi ⟨rfl, v0, rfl⟩
              obtain ⟨v, u, h1, h2, e, d1, d2, d3⟩ := it i (by omega)
              have e1 : atI xs (0 + ((i : Nat) : Int)) = some v := by rw [Int.zero_add]; exact atI_nat h1
              have e2 : atI ys (0 + ((i : Nat) : Int)) = some u := by rw [Int.zero_add]; exact atI_nat h2
              refine ⟨_, rfl, _, rfl, .inl ⟨a, xs, _, v, rfl, rfl, sx, e1, _, rfl, _, rfl, .inl ⟨b, ys, _, u, rfl, rfl, sy, e2, ?_⟩⟩⟩
              exact ⟨v, u, e, rfl, d1, d2, d3, true, rfl, iteF ⟨rfl, _, rfl⟩⟩
            · rintro σ H' ⟨rfl, v0, rfl⟩
              exact k
      | tuple ds =>
        cases hx with
        | tup sx ax =>
          rename_i a xs
          cases hy with
          | tup sy ay =>
            rename_i b ys
            have ok2 : (decide (ds.length ≤ 10000) && ds.all (okD n)) = true := ok
            obtain ⟨o1, o2⟩ := Bool.and_eq_true_iff.mp ok2
            have it := items xs ys ds ax ay o2
            refine iteF ⟨_, rfl, _, _, _, _, _, rfl, .ty "bool", ey, tb, false, rfl, iteF ?_⟩
            refine ⟨_, rfl, _, _, _, _, _, rfl, .ty "int", ey, ti, false, rfl, iteF ?_⟩
            refine ⟨_, rfl, _, _, _, _, _, rfl, .ty "str", ey, ts, false, rfl, iteF ?_⟩
            refine ⟨_, rfl, _, _, _, _, _, rfl, .ty "tuple", ey, tt, _, rfl, _, _, _, _, _, rfl, .ty "tuple", ex, tt, ?_⟩
            refine ⟨rfl, _, rfl, iteF' (by rw [decide_eq_true rfl]; rfl) ?_⟩
            refine ⟨_, rfl, _, _, _, _, _, rfl, .ty "list", ey, tl, _, rfl, _, _, _, _, _, rfl, .ty "list", ex, tl, ?_⟩
            refine ⟨rfl, _, rfl, iteF' (by rw [decide_eq_true rfl]; rfl) ?_⟩
            have lx : xs.length = ys.length := by rw [dpAll_len ax, dpAll_len ay]
            have lb1 : ys.length ≤ 10000 := by
              rw [dpAll_len ay]
              exact of_decide_eq_true o1
            refine ⟨_, rfl, a, xs, rfl, .inr sx, _, rfl, b, ys, rfl, .inr sy, rfl, _, rfl, iteF' (by rw [lx, decide_eq_true rfl]; rfl) ?_⟩
            refine ⟨_, rfl, b, ys, rfl, .inr sy, _, rfl, by omega, by omega, for_range (lo := 0) (n := ((ys.length : Nat) : Int).toNat) (fun i σ H' => H' = H ∧ ∃ v, σ = [some (V.ref a), some (V.ref b), v]) ⟨rfl, _, rfl⟩ ?_ ?_⟩
            · rintro i σ H' hi ⟨rfl, v0, rfl⟩
              obtain ⟨v, u, h1, h2, e, d1, d2, d3⟩ := it i (by omega)
              have e1 : atI xs (0 + ((i : Nat) : Int)) = some v := by rw [Int.zero_add]; exact atI_nat h1
              have e2 : atI ys (0 + ((i : Nat) : Int)) = some u := by rw [Int.zero_add]; exact atI_nat h2
              refine ⟨_, rfl, _, rfl, .inr (.inl ⟨a, xs, _, v, rfl, rfl, sx, e1, _, rfl, _, rfl, .inr (.inl ⟨b, ys, _, u, rfl, rfl, sy, e2, ?_⟩)⟩)⟩
              exact ⟨v, u, e, rfl, d1, d2, d3, true, rfl, iteF ⟨rfl, _, rfl⟩⟩
            · rintro σ H' ⟨rfl, v0, rfl⟩
              exact k
end
end Om

/-! x, *y = a tuple -/
namespace Om
open PySem PySem.Spec PyProof.Rows L2
theorem walksS_drop {prog : Program} {w : World} {A : Around} {I : Addr} {fp wr : List Addr} {G : Array GenState → Array GenState → Prop} {n : Nat} {P : Nat → Value → Prop} {St : Nat → Shared → Prop} (W : WalksS prog w A I fp wr G n P St) (k : Nat) (hk : k ≤ n) :
    WalksS prog w A I fp wr G (n - k) (fun i => P (i + k)) (fun i s => St (i + k) s) where
  sub := W.sub
  grefl := W.grefl
  gtrans := W.gtrans
  frame := fun i => W.frame (i + k)
  item := fun i s Q E hi st hQ => W.item (i + k) s Q E (by omega) st fun v s' p st' m => hQ v s' p (by
    have e : i + 1 + k = i + k + 1 := by omega
    rw [e]
    exact st') m
  done := fun s Q E st hQ => W.done s Q E (by
    rw [Nat.sub_add_cancel hk] at st
    exact st) hQ
  self := fun i => W.self (i + k)
section
variable {prog : Program} {w : World} {A : Around} {E : Value → Shared → Prop} {s : Shared}
theorem unpack_star {t : Addr} {items : Array Value} {x : Value} {xs : List Value} {Q : List Value → Shared → Prop} (hh : A.handled = none) (ht : IsTup s.heap t items) (hi : items.toList = x :: xs) (hz : items.size ≤ sizeLine)
    (hQ : ∀ (h' : Heap) (tk : Nat), (∀ b o, s.heap.get? b = some o → h'.get? b = some o) → Q [x, .ref h'.objs.size] { s with heap := h'.push { cls := .type "list", data := .seq xs.toArray }, toks := tk }) :
    wpAny (model prog w) A (unpackItems (.ref t) 2 (some 1)) Q E s := by
  have hlt : t < s.heap.objs.size := by obtain ⟨o, ho, _⟩ := ht; exact Heap.lt_size ho
  have hsz : items.size = xs.length + 1 := by rw [← Array.length_toList, hi, List.length_cons]
  unfold unpackItems
  refine wpAny_bind ?_
  unfold notIterableAtAll
  refine wpAny_bind (wpAny_specialOf ht.typeIs slot_tuple_iter.lookup ?_)
  refine wpAny_pure ?_
  simp only [Bool.false_eq_true, if_false]
  refine wpAny_bind (wpAny_holding (iter_tuple ht ?_))
  refine wpAny_bind (wpAny_holding (draw_tuple (Nat.ne_of_lt hlt) 1 0 _ _ ⟨_, Heap.get?_push_size _ rfl, rfl, rfl⟩ (ht.push _) (by omega) fun h₁ hit₁ hs₁ => ?_))
  have e1 : List.take 1 (List.drop 0 items.toList) = [x] := by rw [List.drop_zero, hi]; rfl
  rw [e1]
  rw [if_neg (by simp)]
  have ht₁ : IsTup h₁ t items := (ht.push _).extBut hs₁.extBut (Nat.ne_of_lt hlt)
  have k1 : ∀ b o, s.heap.get? b = some o → h₁.get? b = some o := fun b o e => hs₁.extBut b o (Nat.ne_of_lt (Heap.lt_size e)) (Heap.get?_push_of_some _ e)
  have z1 : h₁.objs.size = s.heap.objs.size + 1 := by rw [hs₁.1, Heap.size_push]
  refine wpAny_bind (wpAny_holding (wpAny_collect_iter (T := "tuple_iterator") (.inr (.inr (.inr rfl))) (walksS_drop (Walks.tuple (A := A.in1) hh s.heap.objs.size t (Nat.ne_of_lt hlt) items).toS 1 (by omega))
    (fun i s₂ st => ?_) ⟨hit₁, ht₁⟩ (fun b hb => ?_) (by simp) (fun s' acc m io => ?_) ?_))
  rotate_right
  · exact Nat.le_trans (Nat.sub_le _ _) hz
  · obtain ⟨⟨o, ho, hc, _⟩, _⟩ := st
    exact ⟨o, ho, hc⟩
  · show b < h₁.objs.size
    rw [z1]
    rcases (show b = s.heap.objs.size ∨ b = t by simpa using hb) with rfl | rfl
    · exact Nat.lt_succ_self _
    · exact Nat.lt_succ_of_lt hlt
  · have eacc : acc.toList = xs := by
      apply List.ext_getElem?
      intro i
      rw [Array.getElem?_toList]
      cases q : acc[i]? with
      | none =>
        have q1 := Array.getElem?_eq_none_iff.mp q
        rw [io.1] at q1
        exact (List.getElem?_eq_none (by omega)).symm
      | some v =>
        have q1 : items[i + 1]? = some v := io.2 i v q
        rw [← Array.getElem?_toList, hi] at q1
        exact q1.symm
    rw [eacc]
    obtain ⟨hp, g, d, tk, os⟩ := s'
    obtain ⟨m1, m2, m3, m4, m5⟩ := m
    have m2 : g = s.gens := m2
    have m3 : d = s.drawn := m3
    have m4 : os = s.os := m4
    subst m2 m3 m4
    have eafter : 2 - 1 - 1 = 0 := rfl
    simp only [eafter, Nat.not_lt_zero, if_false, Nat.sub_zero, List.take_length, List.drop_length, List.append_nil]
    have k2 : ∀ b o, s.heap.get? b = some o → hp.get? b = some o := fun b o e => m1 b o (by
      intro z
      have z : b = s.heap.objs.size := by simpa using z
      have q := Heap.lt_size e
      rw [z] at q
      exact Nat.lt_irrefl _ q) (k1 b o e)
    refine wpAny_bind ?_
    refine wpAny_newList ?_ ?_
    rotate_right
    · exact Nat.le_trans (by omega) hz
    refine wpAny_pure ?_
    exact hQ hp tk k2
end
def gStar (K : PySem.W.Frag) (t : TGs) : TG := fun v σ H Q => ∃ a y ys, v = .ref a ∧ SqT K H a (y :: ys) ∧ ∀ L, H L = none → t [y, .ref L] σ (upd H L (.lst ys)) Q
theorem pg_star {X : Cx} {e1 e2 : Expr} {k : Nat} {ps pos : Pos} {t : TGs} (hc : X.calm = true) (h : PGs X [e1, e2] t) (hn : assignEach [e1, .Starred e2 ps] X.env = [(false, assign e1 X.env), (true, assign e2 X.env)] := by rfl)
    (hm : (assignEach [e1, e2] X.env).map (·.2) = [assign e1 X.env, assign e2 X.env] := by rfl) : PG X (.Tuple [e1, .Starred e2 ps] k pos) (gStar X.K t) := by
  refine ⟨fun pins s σ H v u Q I r hw => ?_⟩
  obtain ⟨a, y, ys, rfl, hq, hw⟩ := hw
  cases r
  obtain ⟨its, rv, ht, hz⟩ := I.tuple hq
  rw [assign_Tuple]
  refine wpAny_bind (wpAny_standAt ?_)
  unfold unpack
  rw [hn]
  cases rv with
  | cons rx rr =>
    rename_i x xs
    refine wpAny_bind (wpAny_holding (unpack_star (I.ok.hd hc) ht rfl (by
      have := rr.length
      rw [List.size_toArray, List.length_cons]
      simp only [List.length_cons] at hz
      omega) fun h' tk k1 => ?_))
    have I1 : Inv X pins σ H { s with heap := h', toks := tk } := I.kept k1
    have hL : H h'.objs.size = none := I1.hok.fresh (Nat.le_refl _)
    have I2 := I1.laid (t' := tk) (o := .lst ys) (a := h'.objs.size) (h' := h'.push { cls := .type "list", data := .seq xs.toArray }) (fun b ob q => Heap.get?_push_of_some _ q) (Nat.le_refl _)
      ⟨by simp only [List.length_cons] at hz; omega, xs, 0, rr, Heap.get?_push_size _ rfl⟩
    have e := h.run pins _ σ _ [y, .ref h'.objs.size] [x, .ref h'.objs.size] Q I2 (.cons rx (.cons rfl .nil)) (hw _ hL)
    rw [hm] at e
    exact e
end Om

/-! sorted(text) -/
namespace Om
open PySem PySem.Spec PySem.Calls PyProof.Rows L2
section
variable {P : Program} {w : World} {A : Around} {E : Value → Shared → Prop} {s : Shared}
theorem strsAre_signs {x : Str} : ∀ {vs : List Value} {cs : List Nat}, vs.length = cs.length → (∀ (i : Nat) v, vs[i]? = some v → ∃ c u, cs[i]? = some c ∧ v = .str ⟨#[c]⟩ u) → StrsAre vs (cs.map fun c => (⟨#[c]⟩ : Str))
  | [], [], _, _ => .nil
  | v :: vs, c :: cs, hl, h => by
    obtain ⟨c', u, e1, e2⟩ := h 0 v rfl
    have e1 : some c = some c' := e1
    cases e1
    subst e2
    exact .cons _ _ (strsAre_signs (x := x) (by simpa using hl) fun i v hv => h (i + 1) v hv)
theorem sorted_text {x : Str} {t : Tok} {Q : Value → Shared → Prop} (hh : A.handled = none) (h64 : x.cps.size < 64)
    (hQ : ∀ s' p (out : Array Value) (c : Nat) (ss : List Str), (∀ b o, s.heap.get? b = some o → s'.heap.get? b = some o) → s'.gens = s.gens → s'.os = s.os → s'.heap.get? p = some (seqObj "list" out c) → s.heap.get? p = none → StrsAre out.toList ss → ss.Perm (x.cps.toList.map fun c => (⟨#[c]⟩ : Str)) → sortedS ss = true → Q (.ref p) s') :
    wpAny (model P w) A (call (.builtin "sorted") [.str x t]) Q E s := by
  refine Calls.call_function_entry kind_sorted plain_sorted entry_sorted (args_sorted1 _) ?_
  unfold Builtin.«sorted»
  refine wpAny_bind (m := checkCount "sorted" 1 1 _) (wpAny_pure ?_)
  refine wpAny_bind (wpAny_collect_str (A := A.in1) hh x t (fun s1 acc k1 g1 d1 o1 io => ?_) (by rw [sizeLine_eq]; omega))
  have hl : acc.toList.length = x.cps.toList.length := by rw [Array.length_toList, Array.length_toList]; exact io.1
  have hS : StrsAre acc.toList (x.cps.toList.map fun c => (⟨#[c]⟩ : Str)) := strsAre_signs (x := x) hl fun i v hv => by
    rw [Array.getElem?_toList] at hv
    obtain ⟨c, u, e1, e2⟩ := io.2 i v hv
    exact ⟨c, u, by rw [Array.getElem?_toList]; exact e1, e2⟩
  have hlen : acc.toList.length < 64 := by rw [Array.length_toList, io.1]; exact h64
  refine wpAny_bind (wpAny_newList ?_ (by rw [sizeLine_eq]; omega))
  have hoL : (s1.heap.push (seqObj "list" acc.toList.toArray 0)).get? s1.heap.objs.size = some (seqObj "list" acc.toList.toArray 0) := Heap.get?_push_size _ rfl
  refine wpAny_bind (wpAny_holding (wpAny_call_entry slot_list_sort ⟨_, hoL, rfl⟩ entry_list_sort (list_sort_treeK strKind_oneLt hoL hS.keysOf (fun v₁ v₂ rest e => keyKind_strs (by rw [← e]; exact hS)) hlen fun st' hp hs => ⟨_, rfl, ?_⟩) (args_list_sort _)))
  obtain ⟨ss', h1, h2, h3⟩ := sorted_out_str hS hp hs
  obtain ⟨c, hc⟩ := sortedHeap_at (vs := acc.toList) (out := (arrOf st').map (·.2)) hoL
  refine wpAny_pure ⟨_, rfl, hQ _ s1.heap.objs.size _ c ss' (fun b u e => ?_) g1 o1 hc ?_ h1 h2 h3⟩
  · have q := k1 b u e
    have hlt := Heap.lt_size q
    show (sortedHeap (s1.heap.push (seqObj "list" acc.toList.toArray 0)) s1.heap.objs.size acc.toList _).get? b = some u
    rw [sortedHeap_old (Nat.ne_of_lt hlt) (by rw [size_push']; exact Nat.lt_succ_of_lt hlt)]
    exact Heap.get?_push_of_some _ q
  · cases q : s.heap.get? s1.heap.objs.size with
    | none => rfl
    | some o => exact absurd (Heap.lt_size (k1 _ _ q)) (Nat.lt_irrefl _)
end
end Om

/-! a head that tells function objects by paths of one's own: the getters of properties -/
namespace OmH
open PySem PySem.Spec PyProof.Rows L2 He
structure DefA where
  adr : PySem.W.Frag → Addr
  name : Str
  qual : Str
  params : Arguments
  body : List Stmt
  scope : Scope
def fnWA (K : PySem.W.Frag) (a : Addr) : FnW := match K.lookup a with
  | some ⟨_, _, .func fd, _⟩ => some (fd.name, fd.qualname, fd.params, fd.body, fd.scope, fd.globals, fd.closure, fd.builtins)
  | _ => none
def DefA.val (d : DefA) : FnW := some (d.name, d.qual, d.params, .stmts d.body, d.scope, mainGlobals, [], builtinsNs)
def DefA.ok (K : PySem.W.Frag) (d : DefA) : Bool := PySem.W.keepIn K (.ref (d.adr K)) && (match K.lookup (d.adr K) with
  | some ⟨_, _, .func fd, _⟩ => PySem.W.codeIn K fd.code d.qual && (dflB K fd.defaults [] && kwdB K fd.kwdefaults [])
  | _ => false)
theorem DefA.funD {K : PySem.W.Frag} {d : DefA} (e : fnWA K (d.adr K) = d.val) (c : d.ok K = true) : ∃ fd, FunD K d.name d.qual d.params d.body d.scope [] [] (d.adr K) fd := by
  obtain ⟨kp, c2⟩ := ba c
  unfold fnWA at e
  cases q : K.lookup (d.adr K) with
  | none =>
    rw [q] at c2
    cases c2
  | some o =>
    obtain ⟨oc, od, dt, osl⟩ := o
    rw [q] at c2 e
    cases dt with
    | func fd =>
      obtain ⟨n1, n2, n3, n4, n5, n6, n7, n8, n9, n10, n11, n12, n13, n14, n15⟩ := fd
      have e2 : (some (n1, n2, n3, n4, n5, n6, n7, n15) : FnW) = some (d.name, d.qual, d.params, .stmts d.body, d.scope, mainGlobals, [], builtinsNs) := e
      simp only [Option.some.injEq, Prod.mk.injEq] at e2
      obtain ⟨h1, h2, h3, h4, h5, h6, h7, h8⟩ := e2
      subst h1 h2 h3 h4 h5 h6 h7 h8
      have c3 : (PySem.W.codeIn K n13 d.qual && (dflB K n8 [] && kwdB K n9 [])) = true := c2
      obtain ⟨k1, k2⟩ := ba c3
      obtain ⟨k3, k4⟩ := ba k2
      exact ⟨_, ⟨oc, od, n8, n9, n10, n11, n12, n13, n14, osl, rfl, q, k1, dflB_ok k3, kwdB_ok k4⟩, kp⟩
    | _ => cases c2
/-- the getter of C's property x -/
def getA (K : PySem.W.Frag) (C : Addr) (x : Str) : Addr := match PySem.W.recIn K (ma K C x) "property" with
  | some (.ref g :: _) => g
  | _ => 0
def propB (K : PySem.W.Frag) (C : Addr) (x : Str) : Bool := eqO (PySem.W.findIn K (.ref C) x) (some (some (.ref (ma K C x)))) && (eqO (PySem.W.specialIn K (.ref (ma K C x)) "__get__") (some (some (.builtin "property.__get__"))) &&
  (decide (PySem.W.takesIn K (.ref (ma K C x)) = some true) && (match PySem.W.recIn K (ma K C x) "property" with
  | some (.ref _ :: _) => true
  | _ => false)))
theorem propB_ok {K : PySem.W.Frag} {C : Addr} {x : Str} (h : propB K C x = true) : PropOf K C x (ma K C x) (getA K C x) := by
  obtain ⟨h1, h2⟩ := ba h
  obtain ⟨h2, h3⟩ := ba h2
  obtain ⟨h3, h4⟩ := ba h3
  refine ⟨eqO_ok h1, eqO_ok h2, of_decide_eq_true h3, ?_⟩
  unfold getA
  cases e : PySem.W.recIn K (ma K C x) "property" with
  | none => rw [e] at h4; cases h4
  | some vs =>
    rw [e] at h4
    cases vs with
    | nil => cases h4
    | cons v r =>
      cases v with
      | ref g => exact ⟨r, rfl⟩
      | _ => cases h4
abbrev AlY : Type := AlX × (Bool × List FnW)
def obsA (gs : List DefA) (K : PySem.W.Frag) : Bool × List FnW := (gs.all fun d => d.ok K, gs.map fun d => fnWA K (d.adr K))
def valA (gs : List DefA) : Bool × List FnW := (true, gs.map DefA.val)
def obsY (n : Nat) (fa : List Fa) (fn : List DefD) (ts : List Tab) (tf : List Defn) (gs : List DefA) (ex : PySem.W.Frag → Bool) (g : Addr → Option Obj) : AlY := (obsX n fa fn ts tf ex g, obsA gs (frT g (asD g n)))
def hookY (n : Nat) (fa : List Fa) (fn : List DefD) (ts : List Tab) (tf : List Defn) (gs : List DefA) (ex : PySem.W.Frag → Bool) : PySem.W.Hook where
  α := AlY
  obs := fun s => obsY n fa fn ts tf gs ex s.heap.get?
  val := fun w => (valX fn ts w, valA gs)
  says := fun w h => ∃ K : PySem.W.Frag, K.In h ∧ SaysX fa fn ts tf ex w h K ∧ obsA gs K = valA gs
  of := fun _ _ e => ⟨_, frT_in, saysX_of (congrArg (fun z : AlY => z.1) e), congrArg (fun z : AlY => z.2) e⟩
  keeps := fun _ _ _ ⟨K, hK, c, d⟩ k => ⟨K, PySem.W.Frag.In.keeps hK k, ⟨c.t, c.more, c.hd, c.out, fun p hp => k _ _ (c.empty p hp)⟩, d⟩
theorem obsY_eq {n : Nat} {fa : List Fa} {fn : List DefD} {ts : List Tab} {tf : List Defn} {gs : List DefA} {ex : PySem.W.Frag → Bool} {g : Addr → Option Obj} {s : Shared} (h : ∀ a, g a = s.heap.get? a) : obsY n fa fn ts tf gs ex g = (hookY n fa fn ts tf gs ex).obs s := by
  have e : g = s.heap.get? := funext h
  rw [e] <;> rfl
theorem getter {gs : List DefA} {K : PySem.W.Frag} (c : obsA gs K = valA gs) (i : Nat) {d : DefA} (h : gs[i]? = some d := by rfl) : ∃ fd, FunD K d.name d.qual d.params d.body d.scope [] [] (d.adr K) fd := by
  have c2 : (gs.all fun d => d.ok K) = true := congrArg (fun z : Bool × List FnW => z.1) c
  have e : gs.map (fun d => fnWA K (d.adr K)) = gs.map DefA.val := congrArg (fun z : Bool × List FnW => z.2) c
  have e2 : (gs.map fun d => fnWA K (d.adr K))[i]? = (gs.map DefA.val)[i]? := by rw [e]
  rw [List.getElem?_map, List.getElem?_map, h] at e2
  exact DefA.funD (Option.some.inj e2) (List.all_eq_true.mp c2 d (List.mem_of_getElem? h))
end OmH

namespace Om
open PySem PySem.Spec PyProof.Rows L2
/-! ### numbers as they are told: whole ones, truth values -/
inductive Nm where
  | i (n : Int)
  | b (x : Bool)
deriving DecidableEq
def Nm.v : Nm → V
  | .i n => .int n
  | .b x => .bl x
def Nm.d : Nm → PyData
  | .i n => .int n
  | .b x => .bool x
theorem nm_dp {K : PySem.W.Frag} {H : Hp} : ∀ n : Nm, Dp K H n.v n.d
  | .i n => .int n
  | .b x => .bl x
theorem nms_dp {K : PySem.W.Frag} {H : Hp} : ∀ ns : List Nm, DpAll K H (ns.map Nm.v) (ns.map Nm.d)
  | [] => .nil
  | n :: r => .cons (nm_dp n) (nms_dp r)
theorem dp_nm {K : PySem.W.Frag} {H : Hp} {v : V} : ∀ {n : Nm}, Dp K H v n.d → v = n.v
  | .i n, h => by cases h; rfl
  | .b x, h => by cases h; rfl
theorem dp_nms {K : PySem.W.Frag} {H : Hp} : ∀ {ns : List Nm} {vs : List V}, DpAll K H vs (ns.map Nm.d) → vs = ns.map Nm.v
  | [], [], .nil => rfl
  | n :: r, v :: t, .cons h1 h2 => by rw [dp_nm h1, dp_nms h2]; rfl
def inN : Nm → Int → Int → Bool
  | .i n, lo, hi => inR n lo hi
  | .b _, _, _ => false
def spInN : Sp := fun vs H Q _ => ∃ (v : Nm) (lo hi : Int), vs = [v.v, .int lo, .int hi] ∧ Q (.bl (inN v lo hi)) H
/-- of two neighbours each is less than the next -/
def ltN : Nm → Nm → Bool
  | .i a, .i b => decide (a < b)
  | _, _ => false
def upN : List Nm → Bool
  | a :: b :: r => ltN a b && upN (b :: r)
  | _ => true
def ascN (ns : List Nm) (lo hi : Int) : Bool := !ns.isEmpty && (ns.all (fun n => inN n lo hi) && upN ns)
def ascS (t allowed : List Nat) : Bool := !decide (t = []) && decide (t = allowed.filter fun c => decide (c ∈ t))
def spAscN (K : PySem.W.Frag) : Sp := fun vs H Q _ => ∃ (a : Addr) (ns : List Nm) (lo hi : Int), vs = [.ref a, .int lo, .int hi] ∧ SqT K H a (ns.map Nm.v) ∧ ns.length ≤ 1000 ∧ ∀ H', Same H H' → Q (.bl (ascN ns lo hi)) H'
def spAscS : Sp := fun vs H Q _ => ∃ (t l : List Nat), vs = [.str (tx t), .str (tx l)] ∧ l.length ≤ 1000 ∧ ∀ H', Same H H' → Q (.bl (ascS t l)) H'
section
variable {P : Program} {w : World} {K : PySem.W.Frag} {mg : Str → Option Value} {base : Heap}
theorem ok_inN {f : Addr} {fd : FuncData} (F : FnP K "in_range" "in_range" sInR f fd) (gisi : mg "isinstance" = none) (gint : mg "int" = none) (gbool : mg "bool" = none) : FnOk P w K mg base CX0 1 f fd nInR spInN := by
  refine F.ok scInR (fun vs H Q E h => ?_) (fun cdv A outer s H vs Q E hr h => ?_)
  · obtain ⟨v, lo, hi, rfl, _⟩ := h
    rfl
  · obtain ⟨v, lo, hi, rfl, k⟩ := h
    refine ⟨_, PSs.nox (pss_one (ps_ret (pe_and (pe_callB call_isi (by rfl) gisi (by decide +kernel) (pa_cons (pv 0) (pa_cons (pe_bltn (v := .ty "int") (by rfl) gint boot_int rfl) pa_nil)))
      (pe_and (pe_not (pe_callB call_isi (by rfl) gisi (by decide +kernel) (pa_cons (pv 0) (pa_cons (pe_bltn (v := .ty "bool") (by rfl) gbool (by decide +kernel) rfl) pa_nil))))
        (pe_one (pe_chain op_le op_le (pv 1) (pv 0) (pv 2))))))), ?_⟩
    cases v with
    | i v =>
      refine ⟨_, rfl, _, _, _, _, _, rfl, .ty "int", .base (.int _), kit_ty (a := "int") (b := "int") (r := true) (by decide +kernel), ?_⟩
      refine ⟨true, rfl, iteT ?_⟩
      refine ⟨_, rfl, _, _, _, _, _, rfl, .ty "bool", .base (.int _), kit_ty (a := "int") (b := "bool") (r := false) (by decide +kernel), false, rfl, true, rfl, iteT ?_⟩
      refine ⟨_, rfl, _, rfl, _, _, rfl, rfl, _, rfl, ?_⟩
      have k : Q (.bl (decide (lo ≤ v) && decide (v ≤ hi))) H := k
      cases e : decide (lo ≤ v) with
      | true =>
        rw [e, Bool.true_and] at k
        exact iteT ⟨_, rfl, _, _, rfl, rfl, k⟩
      | false =>
        rw [e, Bool.false_and] at k
        exact iteF k
    | b x =>
      refine ⟨_, rfl, _, _, _, _, _, rfl, .ty "int", .base (.bl _), kit_ty (a := "bool") (b := "int") (r := true) (by decide +kernel), ?_⟩
      refine ⟨true, rfl, iteT ?_⟩
      exact ⟨_, rfl, _, _, _, _, _, rfl, .ty "bool", .base (.bl _), kit_ty (a := "bool") (b := "bool") (r := true) (by decide +kernel), true, rfl, false, rfl, iteF k⟩
abbrev sAscS : Stmt := top 7
abbrev nAscS : List Str := ["text", "allowed", "sign"]
def ascLc : Expr := match retExpr ((defBody sAscS).getD 0 (.Pass ⟨0, 0, 0, 0⟩)) with
  | .BoolOp _ [_, .Compare _ _ [c] _] _ => arg0 c
  | e => e
theorem scAscS : FnScope nAscS ["text", "allowed"] (defScope sAscS) := ⟨rfl, rfl, rfl, by decide +kernel, rfl, by decide +kernel, by decide +kernel⟩
theorem blkAscS : BlkOk nAscS (defScope sAscS) (lcScope ascLc) [("sign", 2)] := blkOk_by (by decide +kernel)
theorem ok_ascS {f : Addr} {fd : FuncData} (F : FnP K "ascending_signs" "ascending_signs" sAscS f fd) : FnOk P w K mg base CX0 1 f fd ["text", "allowed"] spAscS := by
  refine F.ok scAscS (fun vs H Q E h => ?_) (fun cdv A outer s H vs Q E hr h => ?_)
  · obtain ⟨t, l, rfl, _⟩ := h
    rfl
  · obtain ⟨t, l, rfl, hl, k⟩ := h
    have nd := scAscS.nd
    refine ⟨_, PSs.nox (pss_one (ps_ret (pe_and (pe_cmpR op_ne (pv 0) pe_str (nomark _)) (pe_one (pe_cmpR op_eq (pv 0) (pe_joinK pe_str
      (pe_lc (own := [("sign", 2)]) (g := gName 2) rfl nd (pi_str (pv 1)) blkAscS (fun _ _ _ _ _ => pg_name (i := 2) nd rfl (.inl rfl)) (fun _ _ _ _ _ => pts_one (pt_cmpR op_in_sign (pv 2) (pv 0) rfl)) (fun _ _ _ _ _ => pv 2))) (nomark _)))))), ?_⟩
    have e0 : (decide (V.str (tx t) = V.str (Str.ofString ""))) = decide (t = []) := by
      rw [show Str.ofString "" = tx [] from by decide +kernel]
      exact decide_eq_decide.mpr ⟨fun h => tx_inj (V.str.inj h), fun h => by rw [h]⟩
    unfold ascS at k
    refine ⟨_, rfl, rfl, !decide (t = []), ?_, ?_⟩
    · show V.bl (!decide (V.str (tx t) = V.str (Str.ofString ""))) = _
      rw [e0]
    cases e1 : decide (t = []) with
    | true =>
      rw [e1] at k
      exact iteF' rfl (k H (Same.refl H))
    | false =>
      rw [e1] at k
      refine iteT' rfl ?_
      refine ⟨_, rfl, ⟨_, rfl⟩, _, rfl, _, rfl, fun D hD => lc_it (walk_str (z := tx l)) (fun i H' => H' D = some (.lst (((l.take i).filter fun c => decide (c ∈ t)).map fun c => vt [c])) ∧ Same H H') ⟨upd_same, Same.new (Same.refl H) hD⟩ (fun _ _ _ _ => trivial) ?_ ?_⟩
      · rintro i x H1 H2 hi ⟨h1, h2⟩ ⟨rfl, c, hc, rfl⟩
        have hc2 : l[i]? = some c := by
          rw [← Array.getElem?_toList, tx_cps] at hc
          exact hc
        refine ⟨rfl, _, rfl, _, rfl, c, _, rfl, rfl, _, rfl, ?_⟩
        rw [tx_cps]
        have es : (l.take (i + 1)).filter (fun c => decide (c ∈ t)) = (l.take i).filter (fun c => decide (c ∈ t)) ++ (if c ∈ t then [c] else []) := by
          rw [List.take_succ, hc2, List.filter_append]
          by_cases h : c ∈ t
          · rw [if_pos h]
            simp only [Option.toList_some, List.filter_cons, decide_eq_true h, if_true, List.filter_nil]
          · rw [if_neg h]
            simp only [Option.toList_some, List.filter_cons, decide_eq_false h, Bool.false_eq_true, if_false, List.filter_nil]
        have hll : ((l.take i).filter fun c => decide (c ∈ t)).length ≤ 1000 := Nat.le_trans (List.length_filter_le ..) (by rw [List.length_take]; omega)
        by_cases h : c ∈ t
        · rw [if_pos h] at es
          refine iteT' (decide_eq_true h) ?_
          refine ⟨_, rfl, _, h1, Nat.lt_of_le_of_lt (show _ ≤ 1000 by rw [List.length_map]; exact hll) (by decide), ?_, ?_⟩
          · rw [es, upd_same, List.map_append]
            rfl
          · intro b o hb
            rw [upd_ne (ne_of_none hb hD)]
            exact h2 b o hb
        · rw [if_neg h, List.append_nil] at es
          refine iteF' (decide_eq_false h) ?_
          rw [es]
          exact ⟨h1, h2⟩
      · rintro H1 ⟨h1, h2⟩
        have e : l.take (tx l).cps.size = l := List.take_of_length_le (by rw [← Array.length_toList, tx_cps]; exact Nat.le_refl _)
        rw [e] at h1
        have ecs : ((l.filter fun c => decide (c ∈ t)).map fun c => vt [c]) = ((l.filter fun c => decide (c ∈ t)).map fun c => tx [c]).map V.str := by rw [List.map_map]; rfl
        rw [ecs] at h1
        have hll : (l.filter fun c => decide (c ∈ t)).length ≤ 1000 := Nat.le_trans (List.length_filter_le ..) hl
        refine ⟨_, D, _, rfl, rfl, .inl (.inl (.inl h1)), ?_, rfl, ?_⟩
        · rw [empty_tx]
          have e5 : ∀ l : List Nat, ((l.map fun c => tx [c]).map (·.length)).sum = l.length := by
            intro l
            induction l with
            | nil => rfl
            | cons a r ih => simp only [List.map_cons, List.sum_cons, ih, tx_len, List.length_cons, List.length_nil]; omega
          rw [e5, List.length_map]
          show _ + _ * 0 ≤ _
          omega
        · have ej : Txt.join (Str.ofString "") ((l.filter fun c => decide (c ∈ t)).map fun c => tx [c]) = tx (l.filter fun c => decide (c ∈ t)) := by rw [empty_tx, TL.join_eq, join_tx]
          rw [ej]
          have e6 : decide (V.str (tx t) = V.str (tx (l.filter fun c => decide (c ∈ t)))) = decide (t = l.filter fun c => decide (c ∈ t)) := decide_eq_decide.mpr ⟨fun h => tx_inj (V.str.inj h), fun h => congrArg (fun z => V.str (tx z)) h⟩
          rw [e6]
          exact k H1 h2
end
end Om

namespace Om
open PySem PySem.Spec PyProof.Rows L2 RZ
theorem noPart {σ : L2.St} {H : Hp} {Q : Option Int → Hp → Prop} (h : Q none H) : tNoPart σ H Q := h
theorem nilArgs {σ : L2.St} {H : Hp} {Q : List V → Hp → Prop} (h : Q [] H) : tNil σ H Q := h
/-! ### ascending_numbers -/
theorem walk_zipT {K : PySem.W.Frag} {a b : Addr} {xs ys : List V} {n : Nat} (hn : n = min xs.length ys.length) : Walk (ItzT K a b) n (fun H => SqT K H a xs ∧ SqT K H b ys) (YPair (fun i => xs[i]?) fun i => ys[i]?) where
  goes := fun i H hi q => ⟨xs, ys, xs[i], ys[i], q.1, q.2, List.getElem?_eq_getElem _, List.getElem?_eq_getElem _⟩
  stops := fun H q => ⟨xs, ys, q.1, q.2, by omega⟩
  yields := fun i H v H' hi q y => by
    obtain ⟨T, x, z, h1, h2, h3, h4, h5⟩ := y
    exact ⟨T, x, z, h1, h2, h3, h4 xs q.1, h5 ys q.2⟩
theorem cutV_tail (x : V) (xs : List V) : cutV (x :: xs) (some 1) none = xs := by
  simp [cutV, HT.sIx]
def cmps : List Nm → List Bool
  | a :: b :: r => ltN a b :: cmps (b :: r)
  | _ => []
theorem cmps_all : ∀ ns : List Nm, (cmps ns).all id = upN ns
  | [] => rfl
  | [_] => rfl
  | a :: b :: r => by
    show (ltN a b && (cmps (b :: r)).all id) = (ltN a b && upN (b :: r))
    rw [cmps_all (b :: r)]
theorem cmps_len : ∀ ns : List Nm, (cmps ns).length = ns.length - 1
  | [] => rfl
  | [_] => rfl
  | a :: b :: r => by
    show (cmps (b :: r)).length + 1 = _
    rw [cmps_len (b :: r)]
    simp
theorem cmps_at : ∀ (ns : List Nm) (i : Nat) (a b : Nm), ns[i]? = some a → ns[i + 1]? = some b → (cmps ns)[i]? = some (ltN a b)
  | [], _, _, _, h, _ => by simp at h
  | [_], _, _, _, _, h => by simp at h
  | x :: y :: r, 0, a, b, h1, h2 => by
    have h1 : some x = some a := h1
    have h2 : some y = some b := h2
    cases h1
    cases h2
    rfl
  | x :: y :: r, i + 1, a, b, h1, h2 => cmps_at (y :: r) i a b h1 h2
section
variable {P : Program} {w : World} {K : PySem.W.Frag} {mg : Str → Option Value} {base : Heap}
abbrev sAscN : Stmt := top 6
abbrev nAscN : List Str := ["numbers", "least", "most", "number", "one", "other"]
theorem scAscN : FnScope nAscN ["numbers", "least", "most"] (defScope sAscN) := ⟨rfl, rfl, rfl, by decide +kernel, rfl, by decide +kernel, by decide +kernel⟩
def ascLc1 : Expr := match (defBody sAscN).getD 0 (.Pass ⟨0, 0, 0, 0⟩) with
  | .If (.BoolOp _ [_, .UnaryOp _ c _] _) _ _ _ => arg0 c
  | _ => .Constant .none 0 ⟨0, 0, 0, 0⟩
def ascLc2 : Expr := arg0 (retExpr ((defBody sAscN).getD 1 (.Pass ⟨0, 0, 0, 0⟩)))
theorem blkAscN1 : BlkOk nAscN (defScope sAscN) (lcScope ascLc1) [("number", 3)] := blkOk_by (by decide +kernel)
theorem blkAscN2 : BlkOk nAscN (defScope sAscN) (lcScope ascLc2) [("one", 4), ("other", 5)] := blkOk_by (by decide +kernel)
theorem ok_ascN {f : Addr} {fd : FuncData} (F : FnP K "ascending_numbers" "ascending_numbers" sAscN f fd) (G : Cal P w K mg base CX0 1 "in_range" nInR spInN) (glen : mg "len" = none) (gall : mg "all" = none) (gzip : mg "zip" = none) :
    FnOk P w K mg base CX0 2 f fd ["numbers", "least", "most"] (spAscN K) := by
  refine F.ok scAscN (fun vs H Q E h => ?_) (fun cdv A outer s H vs Q E hr h => ?_)
  · obtain ⟨a, ns, lo, hi, rfl, _⟩ := h
    rfl
  · obtain ⟨a, ns, lo, hi, rfl, hS, hl, k⟩ := h
    have nd := scAscN.nd
    refine ⟨_, PSs.nox (pss_cons (ps_if (PW.pt (pw_or (pt_cmpR op_eq (pe_callB call_len_seq (by rfl) glen PySem.boot_len (pa_cons (pv 0) pa_nil)) pe_int (nomark _))
          (pw_or1 (pt_not (pt_val (pe_callB (cr_all rfl) (by rfl) gall (by decide +kernel) (pa_cons (pe_lc (own := [("number", 3)]) (g := gName 3) rfl nd (pi_tup (pv 0)) blkAscN1 (fun _ _ _ _ _ => pg_name (i := 3) nd rfl (.inl rfl)) (fun _ _ _ _ _ => pts_nil)
            (fun _ _ _ _ _ => pe_cal G hr pass0 (pa_cons (pv 3) (pa_cons (pv 1) (pa_cons (pv 2) pa_nil))))) pa_nil))))))) (pss_one (ps_ret pe_bl)) pss_nil)
      (pss_one (ps_ret (pe_callB (cr_all rfl) (by rfl) gall (by decide +kernel) (pa_cons (pe_lc (own := [("one", 4), ("other", 5)]) (g := gTup K 2 (gCons (gName 4) (gCons (gName 5) gNil))) rfl nd
        (pi_zipA rfl gzip (pa_cons (pv 0) (pa_cons (pe_slice sl_tupA (pv 0) (po_some pe_int) po_none) pa_nil))) blkAscN2
        (fun _ _ _ _ _ => pg_tup rfl (pgs_cons (pg_name (i := 4) nd rfl (.inl rfl)) (pgs_cons (pg_name (i := 5) nd rfl (.inl rfl)) pgs_nil))) (fun _ _ _ _ _ => pts_nil) (fun _ _ _ _ _ => pe_cmpR op_lt (pv 4) (pv 5) (nomark _))) pa_nil))))), ?_⟩
    refine ⟨_, rfl, a, _, rfl, .inr hS, rfl, _, rfl, ?_⟩
    cases ns with
    | nil => exact iteT' rfl (k H (Same.refl H))
    | cons n0 nr =>
      have e0 : decide (V.int ((((n0 :: nr).map Nm.v).length : Nat) : Int) = V.int 0) = false := decide_eq_false fun h => by
        injection h with h
        simp only [List.length_map, List.length_cons] at h
        omega
      refine iteF' e0 ?_
      refine ⟨_, rfl, a, rfl, ⟨_, hS⟩, fun D hD => lc_tup (K := K) (a := a) (xs := (n0 :: nr).map Nm.v) (fun i H' => H' D = some (.lst ((((n0 :: nr).take i).map fun n => inN n lo hi).map V.bl)) ∧ Same H H') ⟨upd_same, Same.new (Same.refl H) hD⟩ (fun i H' _ q => Same.tup q.2 hS) ?_ ?_⟩
      · rintro i x H1 hx ⟨h1, h2⟩
        rw [List.getElem?_map] at hx
        cases hni : (n0 :: nr)[i]? with
        | none => rw [hni] at hx; cases hx
        | some n =>
          rw [hni] at hx
          obtain rfl : n.v = x := Option.some.inj hx
          have hil := (List.getElem?_eq_some_iff.mp hni).1
          refine ⟨rfl, tyes ?_⟩
          refine ⟨_, rfl, _, rfl, _, rfl, n, lo, hi, rfl, ?_⟩
          refine ⟨_, h1, ?_, ?_, ?_⟩
          · rw [List.length_map, List.length_map, List.length_take]
            exact Nat.lt_of_le_of_lt (show _ ≤ 1000 by omega) (by decide)
          · have e : (n0 :: nr).take (i + 1) = (n0 :: nr).take i ++ [n] := by rw [List.take_succ, hni]; rfl
            rw [upd_same, e, List.map_append, List.map_append]
            rfl
          · intro b o hb
            rw [upd_ne (ne_of_none hb hD)]
            exact h2 b o hb
      · rintro H1 ⟨h1, h2⟩
        have e1 : (n0 :: nr).take ((n0 :: nr).map Nm.v).length = n0 :: nr := List.take_of_length_le (by rw [List.length_map]; exact Nat.le_refl _)
        rw [e1] at h1
        refine ⟨D, _, rfl, .inl (.inl h1), _, rfl, ?_⟩
        have eall : (((n0 :: nr).map fun n => inN n lo hi).all id) = (n0 :: nr).all (fun n => inN n lo hi) := by rw [List.all_map]; rfl
        rw [eall]
        have k : ∀ H', Same H H' → Q (.bl ((n0 :: nr).all (fun n => inN n lo hi) && upN (n0 :: nr))) H' := k
        cases e2 : (n0 :: nr).all (fun n => inN n lo hi) with
        | false =>
          rw [e2] at k
          exact iteT' rfl (k H1 h2)
        | true =>
          rw [e2] at k
          refine iteF' rfl ?_
          have k : ∀ H', Same H H' → Q (.bl (upN (n0 :: nr))) H' := k
          have allI : ∀ n ∈ n0 :: nr, ∃ m, n = .i m := fun n hn => by
            have z := List.all_eq_true.mp e2 n hn
            cases n with
            | i m => exact ⟨m, rfl⟩
            | b x => cases z
          refine ⟨_, rfl, _, rfl, _, rfl, ?_⟩
          refine noPart ?_
          refine slA_read (Same.tup h2 hS) fun p2 H2 s2 hp2 => ?_
          rw [List.map_cons, cutV_tail] at hp2
          have hS2 := Same.tup (h2.trans s2) hS
          refine nilArgs ?_
          refine ⟨a, p2, _, _, rfl, .inr ⟨hS2, hp2, fun D2 hD2 => lc_it (walk_zipT (K := K) (a := a) (b := p2) (xs := (n0 :: nr).map Nm.v) (ys := nr.map Nm.v) rfl) (fun i H' => H' D2 = some (.lst (((cmps (n0 :: nr)).take i).map V.bl)) ∧ Same H2 H')
            ⟨upd_same, Same.new (Same.refl H2) hD2⟩ (fun i H' _ q => ⟨Same.tup q.2 hS2, Same.tup q.2 hp2⟩) ?_ ?_⟩⟩
          · rintro i x H3 H4 hi ⟨g1, g2⟩ ⟨T, y, z, rfl, hT, rfl, hy, hz⟩
            have hy : ((n0 :: nr).map Nm.v)[i]? = some y := hy
            have hz : (nr.map Nm.v)[i]? = some z := hz
            rw [List.getElem?_map] at hy hz
            cases ha : (n0 :: nr)[i]? with
            | none => rw [ha] at hy; cases hy
            | some n1 =>
              cases hb : nr[i]? with
              | none => rw [hb] at hz; cases hz
              | some n2 =>
                rw [ha] at hy
                rw [hb] at hz
                obtain rfl : n1.v = y := Option.some.inj hy
                obtain rfl : n2.v = z := Option.some.inj hz
                obtain ⟨m1, rfl⟩ := allI n1 (List.mem_of_getElem? ha)
                obtain ⟨m2, rfl⟩ := allI n2 (List.mem_cons_of_mem _ (List.mem_of_getElem? hb))
                have hc := cmps_at (n0 :: nr) i _ _ ha (show (n0 :: nr)[i + 1]? = some (.i m2) from hb)
                have hlen := cmps_len (n0 :: nr)
                have s3 : Same H3 (upd H3 T (.tup [(Nm.i m1).v, (Nm.i m2).v])) := Same.new (Same.refl H3) hT
                refine ⟨T, _, rfl, .inl (.inl upd_same), rfl, _, _, rfl, _, _, rfl, rfl, rfl, tyes ?_⟩
                refine ⟨_, rfl, _, rfl, m1, m2, rfl, rfl, ?_⟩
                refine ⟨_, s3 _ _ g1, ?_, ?_, ?_⟩
                · rw [List.length_map, List.length_take]
                  exact Nat.lt_of_le_of_lt (show _ ≤ 1000 by omega) (by decide)
                · have e : (cmps (n0 :: nr)).take (i + 1) = (cmps (n0 :: nr)).take i ++ [decide (m1 < m2)] := by rw [List.take_succ, hc]; rfl
                  rw [upd_same, e, List.map_append]
                  rfl
                · intro b o hb
                  rw [upd_ne (ne_of_none hb hD2)]
                  exact s3 _ _ (g2 b o hb)
          · rintro H3 ⟨g1, g2⟩
            have e3 : (cmps (n0 :: nr)).take (min ((n0 :: nr).map Nm.v).length (nr.map Nm.v).length) = cmps (n0 :: nr) := by
              refine List.take_of_length_le ?_
              rw [cmps_len, List.length_map, List.length_map, List.length_cons]
              omega
            rw [e3] at g1
            refine ⟨D2, _, rfl, .inl (.inl g1), ?_⟩
            rw [cmps_all]
            exact k H3 (h2.trans (s2.trans g2))
end
end Om

namespace Om
open PySem PySem.Spec PyProof.Rows L2
/-! ### instructions as they are told -/
inductive Ins where
  | turn (ns : List Nm)
  | walk (a b : Nm)
  | upto (s : List Nat)
  | toward (s : List Nat)
  | beside (n : Nm) (s : List Nat)
  | near (s : List Nat) (n : Nm)
  | shore (s a b : Nm)
def Ins.word : Ins → Str
  | .turn _ => "turn"
  | .walk _ _ => "walk"
  | .upto _ => "until"
  | .toward _ => "toward"
  | .beside _ _ => "beside"
  | .near _ _ => "near"
  | .shore _ _ _ => "shore"
def Ins.parts : Ins → List PyData
  | .turn ns => [.tuple (ns.map Nm.d)]
  | .walk a b => [a.d, b.d]
  | .upto s => [dt s]
  | .toward s => [dt s]
  | .beside n s => [n.d, dt s]
  | .near s n => [dt s, n.d]
  | .shore s a b => [s.d, a.d, b.d]
def Ins.d (i : Ins) : PyData := .tuple (.str i.word :: i.parts)
def Ins.small : Ins → Bool
  | .turn ns => decide (ns.length ≤ 1000)
  | _ => true
def paces : Nm → Nm → Bool
  | .i a, b => inN (.i a) 0 20 && inN b a 20
  | .b _, _ => false
def side (n : Nm) : Bool := inN n 1 3 && !decide (n = .i 2)
def lands : List Nat := 46 :: [65, 66, 67, 68, 69, 70, 71, 72, 73, 74, 75, 76, 77, 78, 79, 80, 81, 82, 83, 84, 85, 86, 87, 88, 89, 90]
def alls : List Nat := lands ++ [126]
def Ins.ok : Ins → Bool
  | .turn ns => ascN ns 0 3
  | .walk a b => paces a b
  | .upto s => ascS s lands
  | .toward s => ascS s lands
  | .beside n s => inN n 0 3 && ascS s alls
  | .near s n => ascS s alls && inN n 0 22
  | .shore s a b => side s && paces a b
theorem lands_tx : Str.ofString ".ABCDEFGHIJKLMNOPQRSTUVWXYZ" = tx lands := by decide +kernel
theorem alls_tx : Str.ofString ".ABCDEFGHIJKLMNOPQRSTUVWXYZ~" = tx alls := by decide +kernel
def spPaces : Sp := fun vs H Q _ => ∃ a b : Nm, vs = [a.v, b.v] ∧ Q (.bl (paces a b)) H
def spSide : Sp := fun vs H Q _ => ∃ n : Nm, vs = [n.v] ∧ Q (.bl (side n)) H
def spIsIns (K : PySem.W.Frag) : Sp := fun vs H Q _ => ∃ (v : V) (i : Ins), vs = [v] ∧ Dp K H v i.d ∧ i.small = true ∧ ∀ H', Same H H' → Q (.bl i.ok) H'
abbrev sIsIns : Stmt := top 20
abbrev sSide : Stmt := top 21
abbrev sPaces : Stmt := top 22
section
variable {P : Program} {w : World} {K : PySem.W.Frag} {mg : Str → Option Value} {base : Heap}
theorem scSide : FnScope ["side"] ["side"] (defScope sSide) := ⟨rfl, rfl, rfl, by decide +kernel, rfl, by decide +kernel, by decide +kernel⟩
theorem ok_side {f : Addr} {fd : FuncData} (F : FnP K "_is_side" "_is_side" sSide f fd) (G : Cal P w K mg base CX0 1 "in_range" nInR spInN) : FnOk P w K mg base CX0 2 f fd ["side"] spSide := by
  refine F.ok scSide (fun vs H Q E h => ?_) (fun cdv A outer s H vs Q E hr h => ?_)
  · obtain ⟨n, rfl, _⟩ := h
    rfl
  · obtain ⟨n, rfl, k⟩ := h
    refine ⟨_, PSs.nox (pss_one (ps_ret (pe_and (pe_cal G hr pass0 (pa_cons (pv 0) (pa_cons pe_int (pa_cons pe_int pa_nil)))) (pe_one (pe_cmpR op_ne (pv 0) pe_int (nomark _)))))), ?_⟩
    refine ⟨_, rfl, n, 1, 3, rfl, _, rfl, ?_⟩
    unfold side at k
    cases e : inN n 1 3 with
    | false =>
      rw [e] at k
      exact iteF k
    | true =>
      rw [e] at k
      refine iteT ?_
      cases n with
      | b x => cases e
      | i m =>
        refine ⟨_, rfl, rfl, ?_⟩
        have e2 : decide (V.int m = V.int 2) = decide (Nm.i m = Nm.i 2) := decide_eq_decide.mpr ⟨fun h => by injection h with h; rw [h], fun h => by injection h with h; rw [h]⟩
        show Q (.bl (!decide (V.int m = V.int 2))) H
        rw [e2]
        exact k
theorem scPaces : FnScope ["least", "most"] ["least", "most"] (defScope sPaces) := ⟨rfl, rfl, rfl, by decide +kernel, rfl, by decide +kernel, by decide +kernel⟩
theorem ok_paces {f : Addr} {fd : FuncData} (F : FnP K "_are_paces" "_are_paces" sPaces f fd) (G : Cal P w K mg base CX0 1 "in_range" nInR spInN) (gm : ∃ t, mg "MOST_PACES" = some (.int 20 t)) : FnOk P w K mg base CX0 2 f fd ["least", "most"] spPaces := by
  obtain ⟨t0, gm⟩ := gm
  refine F.ok scPaces (fun vs H Q E h => ?_) (fun cdv A outer s H vs Q E hr h => ?_)
  · obtain ⟨a, b, rfl, _⟩ := h
    rfl
  · obtain ⟨a, b, rfl, k⟩ := h
    refine ⟨_, PSs.nox (pss_one (ps_ret (pe_and (pe_cal G hr pass0 (pa_cons (pv 0) (pa_cons pe_int (pa_cons (pe_glob (v := .int 20) rfl gm ⟨_, rfl⟩) pa_nil))))
      (pe_one (pe_cal G hr pass0 (pa_cons (pv 1) (pa_cons (pv 0) (pa_cons (pe_glob (v := .int 20) rfl gm ⟨_, rfl⟩) pa_nil)))))))), ?_⟩
    refine ⟨_, rfl, a, 0, 20, rfl, _, rfl, ?_⟩
    cases a with
    | b x => exact iteF k
    | i n =>
      have k : Q (.bl (inN (.i n) 0 20 && inN b n 20)) H := k
      cases e : inN (.i n) 0 20 with
      | false =>
        rw [e] at k
        exact iteF k
      | true =>
        rw [e] at k
        exact iteT ⟨_, rfl, _, rfl, b, n, 20, rfl, k⟩
abbrev nIsIns : List Str := ["instruction", "word", "parts"]
theorem scIsIns : FnScope nIsIns ["instruction"] (defScope sIsIns) := ⟨rfl, rfl, rfl, by decide +kernel, rfl, by decide +kernel, by decide +kernel⟩
theorem wtest (a b : Str) : decide (V.str a = V.str b) = decide (a = b) := decide_eq_decide.mpr ⟨fun h => V.str.inj h, fun h => congrArg V.str h⟩
theorem ok_isIns {f : Addr} {fd : FuncData} (F : FnP K "is_instruction" "is_instruction" sIsIns f fd) (G : Cal P w K mg base CX0 1 "in_range" nInR spInN) (GN : Cal P w K mg base CX0 2 "ascending_numbers" ["numbers", "least", "most"] (spAscN K)) (GS : Cal P w K mg base CX0 1 "ascending_signs" ["text", "allowed"] spAscS)
    (GP : Cal P w K mg base CX0 2 "_are_paces" ["least", "most"] spPaces) (GI : Cal P w K mg base CX0 2 "_is_side" ["side"] spSide) (gl : ∃ t, mg "LAND_SIGNS" = some (.str (tx lands) t)) (ga : ∃ t, mg "ALL_SIGNS" = some (.str (tx alls) t)) (gm : ∃ t, mg "MOST_AWAY" = some (.int 22 t)) :
    FnOk P w K mg base CX0 3 f fd ["instruction"] (spIsIns K) := by
  obtain ⟨t0, gl⟩ := gl
  obtain ⟨t1, ga⟩ := ga
  obtain ⟨t2, gm⟩ := gm
  refine F.ok scIsIns (fun vs H Q E h => ?_) (fun cdv A outer s H vs Q E hr h => ?_)
  · obtain ⟨v, i, rfl, _⟩ := h
    rfl
  · obtain ⟨v, i, rfl, hD, sm, k⟩ := h
    have nd := scIsIns.nd
    have hr1 : Room 1 _ := hr.mono (by decide)
    refine ⟨_, PSs.nox (pss_cons (ps_asg (pv 0) (pg_star rfl (pgs_cons (pg_name (i := 1) nd rfl (.inl rfl)) (pgs_cons (pg_name (i := 2) nd rfl (.inl rfl)) pgs_nil))))
      (pss_cons (ps_if (pt_cmpR op_eq (pv 1) pe_str (nomark _)) (pss_one (ps_ret (pe_cal GN hr pass0 (pa_cons (pe_ix ix_list (pv 2) pe_int (fun _ _ => rfl)) (pa_cons pe_int (pa_cons pe_int pa_nil)))))) pss_nil)
      (pss_cons (ps_if (pt_cmpR op_eq (pv 1) pe_str (nomark _)) (pss_one (ps_ret (pe_cal GP hr pass0 (pa_cons (pe_ix ix_list (pv 2) pe_int (fun _ _ => rfl)) (pa_cons (pe_ix ix_list (pv 2) pe_int (fun _ _ => rfl)) pa_nil))))) pss_nil)
      (pss_cons (ps_if (pt_cmpR op_in_seq (pv 1) (pe_tup (pa_cons pe_str (pa_cons pe_str pa_nil))) rfl) (pss_one (ps_ret (pe_cal GS hr1 pass0 (pa_cons (pe_ix ix_list (pv 2) pe_int (fun _ _ => rfl)) (pa_cons (pe_glob (v := .str (tx lands)) rfl gl ⟨_, rfl⟩) pa_nil))))) pss_nil)
      (pss_cons (ps_if (pt_cmpR op_eq (pv 1) pe_str (nomark _)) (pss_one (ps_ret (pe_and (pe_cal G hr1 pass0 (pa_cons (pe_ix ix_list (pv 2) pe_int (fun _ _ => rfl)) (pa_cons pe_int (pa_cons pe_int pa_nil))))
          (pe_one (pe_cal GS hr1 pass0 (pa_cons (pe_ix ix_list (pv 2) pe_int (fun _ _ => rfl)) (pa_cons (pe_glob (v := .str (tx alls)) rfl ga ⟨_, rfl⟩) pa_nil))))))) pss_nil)
      (pss_cons (ps_if (pt_cmpR op_eq (pv 1) pe_str (nomark _)) (pss_one (ps_ret (pe_and (pe_cal GS hr1 pass0 (pa_cons (pe_ix ix_list (pv 2) pe_int (fun _ _ => rfl)) (pa_cons (pe_glob (v := .str (tx alls)) rfl ga ⟨_, rfl⟩) pa_nil)))
          (pe_one (pe_cal G hr1 pass0 (pa_cons (pe_ix ix_list (pv 2) pe_int (fun _ _ => rfl)) (pa_cons pe_int (pa_cons (pe_glob (v := .int 22) rfl gm ⟨_, rfl⟩) pa_nil)))))))) pss_nil)
      (pss_cons (ps_if (pt_cmpR op_eq (pv 1) pe_str (nomark _)) (pss_one (ps_ret (pe_and (pe_cal GI hr pass0 (pa_cons (pe_ix ix_list (pv 2) pe_int (fun _ _ => rfl)) pa_nil))
          (pe_one (pe_cal GP hr pass0 (pa_cons (pe_ix ix_list (pv 2) pe_int (fun _ _ => rfl)) (pa_cons (pe_ix ix_list (pv 2) pe_int (fun _ _ => rfl)) pa_nil))))))) pss_nil)
      (pss_one (ps_ret pe_bl))))))))), ?_⟩
    cases i with
    | turn ns =>
      cases hD with
      | tup hS hA =>
        cases hA with
        | cons h1 hA =>
          cases h1
          cases hA with
          | cons g0 hA =>
            cases hA
            cases g0 with
            | tup hT hB =>
              have eB := dp_nms hB
              subst eB
              rename_i a u
              refine ⟨_, rfl, _, _, _, rfl, hS, fun L hL => ?_⟩
              refine ⟨_, _, rfl, _, _, rfl, rfl, ?_⟩
              have s0 := Same.new (Same.refl H) hL (o := .lst [V.ref u])
              refine ⟨_, rfl, rfl, _, rfl, iteT' (by rw [wtest]; show decide (Str.ofString "turn" = Str.ofString "turn") = true; decide +kernel) ?_⟩
              exact ⟨_, rfl, _, _, 0, _, rfl, rfl, (.inl (.inl upd_same)), rfl, _, ns, 0, 3, rfl, Same.tup s0 hT, of_decide_eq_true sm, fun H' s => k H' (s0.trans s)⟩
    | walk m n =>
      cases hD with
      | tup hS hA =>
        cases hA with
        | cons h1 hA =>
          cases h1
          cases hA with
          | cons g0 hA =>
            cases hA with
            | cons g1 hA =>
              cases hA
              have e0 := dp_nm g0
              subst e0
              have e1 := dp_nm g1
              subst e1
              refine ⟨_, rfl, _, _, _, rfl, hS, fun L hL => ?_⟩
              refine ⟨_, _, rfl, _, _, rfl, rfl, ?_⟩
              have s0 := Same.new (Same.refl H) hL (o := .lst [m.v, n.v])
              refine ⟨_, rfl, rfl, _, rfl, iteF' (by rw [wtest]; show decide (Str.ofString "walk" = Str.ofString "turn") = false; decide +kernel) ?_⟩
              refine ⟨_, rfl, rfl, _, rfl, iteT' (by rw [wtest]; show decide (Str.ofString "walk" = Str.ofString "walk") = true; decide +kernel) ?_⟩
              exact ⟨_, rfl, _, _, 0, _, rfl, rfl, (.inl (.inl upd_same)), rfl, _, rfl, _, _, 1, _, rfl, rfl, (.inl (.inl upd_same)), rfl, m, n, rfl, k _ s0⟩
    | upto z =>
      cases hD with
      | tup hS hA =>
        cases hA with
        | cons h1 hA =>
          cases h1
          cases hA with
          | cons g0 hA =>
            cases hA
            unfold dt at g0
            cases g0
            refine ⟨_, rfl, _, _, _, rfl, hS, fun L hL => ?_⟩
            refine ⟨_, _, rfl, _, _, rfl, rfl, ?_⟩
            have s0 := Same.new (Same.refl H) hL (o := .lst [V.str (tx z)])
            refine ⟨_, rfl, rfl, _, rfl, iteF' (by rw [wtest]; show decide (Str.ofString "until" = Str.ofString "turn") = false; decide +kernel) ?_⟩
            refine ⟨_, rfl, rfl, _, rfl, iteF' (by rw [wtest]; show decide (Str.ofString "until" = Str.ofString "walk") = false; decide +kernel) ?_⟩
            refine ⟨_, rfl, by show 2 ≤ sizeLine; decide, fun p hp => ⟨p, _, rfl, .inr (.inl (.inl upd_same)), rfl, rfl, _, rfl, iteT' (by show inV (V.str (Str.ofString "until")) [V.str (Str.ofString "until"), V.str (Str.ofString "toward")] = true; decide +kernel) ?_⟩⟩
            have s1 := Same.new (Same.refl _) hp (o := .tup [V.str (Str.ofString "until"), V.str (Str.ofString "toward")])
            have hL1 := s1 _ _ upd_same
            have s2 := s0.trans s1
            exact ⟨_, rfl, _, _, 0, _, rfl, rfl, (.inl (.inl hL1)), rfl, z, lands, rfl, by decide, fun H' s => k H' (s2.trans s)⟩
    | toward z =>
      cases hD with
      | tup hS hA =>
        cases hA with
        | cons h1 hA =>
          cases h1
          cases hA with
          | cons g0 hA =>
            cases hA
            unfold dt at g0
            cases g0
            refine ⟨_, rfl, _, _, _, rfl, hS, fun L hL => ?_⟩
            refine ⟨_, _, rfl, _, _, rfl, rfl, ?_⟩
            have s0 := Same.new (Same.refl H) hL (o := .lst [V.str (tx z)])
            refine ⟨_, rfl, rfl, _, rfl, iteF' (by rw [wtest]; show decide (Str.ofString "toward" = Str.ofString "turn") = false; decide +kernel) ?_⟩
            refine ⟨_, rfl, rfl, _, rfl, iteF' (by rw [wtest]; show decide (Str.ofString "toward" = Str.ofString "walk") = false; decide +kernel) ?_⟩
            refine ⟨_, rfl, by show 2 ≤ sizeLine; decide, fun p hp => ⟨p, _, rfl, .inr (.inl (.inl upd_same)), rfl, rfl, _, rfl, iteT' (by show inV (V.str (Str.ofString "toward")) [V.str (Str.ofString "until"), V.str (Str.ofString "toward")] = true; decide +kernel) ?_⟩⟩
            have s1 := Same.new (Same.refl _) hp (o := .tup [V.str (Str.ofString "until"), V.str (Str.ofString "toward")])
            have hL1 := s1 _ _ upd_same
            have s2 := s0.trans s1
            exact ⟨_, rfl, _, _, 0, _, rfl, rfl, (.inl (.inl hL1)), rfl, z, lands, rfl, by decide, fun H' s => k H' (s2.trans s)⟩
    | beside m z =>
      cases hD with
      | tup hS hA =>
        cases hA with
        | cons h1 hA =>
          cases h1
          cases hA with
          | cons g0 hA =>
            cases hA with
            | cons g1 hA =>
              cases hA
              have e0 := dp_nm g0
              subst e0
              unfold dt at g1
              cases g1
              refine ⟨_, rfl, _, _, _, rfl, hS, fun L hL => ?_⟩
              refine ⟨_, _, rfl, _, _, rfl, rfl, ?_⟩
              have s0 := Same.new (Same.refl H) hL (o := .lst [m.v, V.str (tx z)])
              refine ⟨_, rfl, rfl, _, rfl, iteF' (by rw [wtest]; show decide (Str.ofString "beside" = Str.ofString "turn") = false; decide +kernel) ?_⟩
              refine ⟨_, rfl, rfl, _, rfl, iteF' (by rw [wtest]; show decide (Str.ofString "beside" = Str.ofString "walk") = false; decide +kernel) ?_⟩
              refine ⟨_, rfl, by show 2 ≤ sizeLine; decide, fun p hp => ⟨p, _, rfl, .inr (.inl (.inl upd_same)), rfl, rfl, _, rfl, iteF' (by show inV (V.str (Str.ofString "beside")) [V.str (Str.ofString "until"), V.str (Str.ofString "toward")] = false; decide +kernel) ?_⟩⟩
              have s1 := Same.new (Same.refl _) hp (o := .tup [V.str (Str.ofString "until"), V.str (Str.ofString "toward")])
              have hL1 := s1 _ _ upd_same
              have s2 := s0.trans s1
              refine ⟨_, rfl, rfl, _, rfl, iteT' (by rw [wtest]; show decide (Str.ofString "beside" = Str.ofString "beside") = true; decide +kernel) ?_⟩
              refine ⟨_, rfl, _, _, 0, _, rfl, rfl, (.inl (.inl hL1)), rfl, m, 0, 3, rfl, _, rfl, ?_⟩
              have k : ∀ H', Same H H' → Q (.bl (inN m 0 3 && ascS z alls)) H' := k
              cases e : inN m 0 3 with
              | false =>
                rw [e] at k
                exact iteF (k _ s2)
              | true =>
                rw [e] at k
                exact iteT ⟨_, rfl, _, _, 1, _, rfl, rfl, (.inl (.inl hL1)), rfl, z, alls, rfl, by decide, fun H' s => k H' (s2.trans s)⟩
    | near z m =>
      cases hD with
      | tup hS hA =>
        cases hA with
        | cons h1 hA =>
          cases h1
          cases hA with
          | cons g0 hA =>
            cases hA with
            | cons g1 hA =>
              cases hA
              unfold dt at g0
              cases g0
              have e1 := dp_nm g1
              subst e1
              refine ⟨_, rfl, _, _, _, rfl, hS, fun L hL => ?_⟩
              refine ⟨_, _, rfl, _, _, rfl, rfl, ?_⟩
              have s0 := Same.new (Same.refl H) hL (o := .lst [V.str (tx z), m.v])
              refine ⟨_, rfl, rfl, _, rfl, iteF' (by rw [wtest]; show decide (Str.ofString "near" = Str.ofString "turn") = false; decide +kernel) ?_⟩
              refine ⟨_, rfl, rfl, _, rfl, iteF' (by rw [wtest]; show decide (Str.ofString "near" = Str.ofString "walk") = false; decide +kernel) ?_⟩
              refine ⟨_, rfl, by show 2 ≤ sizeLine; decide, fun p hp => ⟨p, _, rfl, .inr (.inl (.inl upd_same)), rfl, rfl, _, rfl, iteF' (by show inV (V.str (Str.ofString "near")) [V.str (Str.ofString "until"), V.str (Str.ofString "toward")] = false; decide +kernel) ?_⟩⟩
              have s1 := Same.new (Same.refl _) hp (o := .tup [V.str (Str.ofString "until"), V.str (Str.ofString "toward")])
              have hL1 := s1 _ _ upd_same
              have s2 := s0.trans s1
              refine ⟨_, rfl, rfl, _, rfl, iteF' (by rw [wtest]; show decide (Str.ofString "near" = Str.ofString "beside") = false; decide +kernel) ?_⟩
              refine ⟨_, rfl, rfl, _, rfl, iteT' (by rw [wtest]; show decide (Str.ofString "near" = Str.ofString "near") = true; decide +kernel) ?_⟩
              refine ⟨_, rfl, _, _, 0, _, rfl, rfl, (.inl (.inl hL1)), rfl, z, alls, rfl, by decide, fun H' s => ?_⟩
              have k : ∀ H', Same H H' → Q (.bl (ascS z alls && inN m 0 22)) H' := k
              refine ⟨_, rfl, ?_⟩
              cases e : ascS z alls with
              | false =>
                rw [e] at k
                exact iteF (k _ (s2.trans s))
              | true =>
                rw [e] at k
                exact iteT ⟨_, rfl, _, _, 1, _, rfl, rfl, .inl (.inl (s _ _ hL1)), rfl, m, 0, 22, rfl, k _ (s2.trans s)⟩
    | shore l m n =>
      cases hD with
      | tup hS hA =>
        cases hA with
        | cons h1 hA =>
          cases h1
          cases hA with
          | cons g0 hA =>
            cases hA with
            | cons g1 hA =>
              cases hA with
              | cons g2 hA =>
                cases hA
                have e0 := dp_nm g0
                subst e0
                have e1 := dp_nm g1
                subst e1
                have e2 := dp_nm g2
                subst e2
                refine ⟨_, rfl, _, _, _, rfl, hS, fun L hL => ?_⟩
                refine ⟨_, _, rfl, _, _, rfl, rfl, ?_⟩
                have s0 := Same.new (Same.refl H) hL (o := .lst [l.v, m.v, n.v])
                refine ⟨_, rfl, rfl, _, rfl, iteF' (by rw [wtest]; show decide (Str.ofString "shore" = Str.ofString "turn") = false; decide +kernel) ?_⟩
                refine ⟨_, rfl, rfl, _, rfl, iteF' (by rw [wtest]; show decide (Str.ofString "shore" = Str.ofString "walk") = false; decide +kernel) ?_⟩
                refine ⟨_, rfl, by show 2 ≤ sizeLine; decide, fun p hp => ⟨p, _, rfl, .inr (.inl (.inl upd_same)), rfl, rfl, _, rfl, iteF' (by show inV (V.str (Str.ofString "shore")) [V.str (Str.ofString "until"), V.str (Str.ofString "toward")] = false; decide +kernel) ?_⟩⟩
                have s1 := Same.new (Same.refl _) hp (o := .tup [V.str (Str.ofString "until"), V.str (Str.ofString "toward")])
                have hL1 := s1 _ _ upd_same
                have s2 := s0.trans s1
                refine ⟨_, rfl, rfl, _, rfl, iteF' (by rw [wtest]; show decide (Str.ofString "shore" = Str.ofString "beside") = false; decide +kernel) ?_⟩
                refine ⟨_, rfl, rfl, _, rfl, iteF' (by rw [wtest]; show decide (Str.ofString "shore" = Str.ofString "near") = false; decide +kernel) ?_⟩
                refine ⟨_, rfl, rfl, _, rfl, iteT' (by rw [wtest]; show decide (Str.ofString "shore" = Str.ofString "shore") = true; decide +kernel) ?_⟩
                refine ⟨_, rfl, _, _, 0, _, rfl, rfl, (.inl (.inl hL1)), rfl, l, rfl, _, rfl, ?_⟩
                have k : ∀ H', Same H H' → Q (.bl (side l && paces m n)) H' := k
                cases e : side l with
                | false =>
                  rw [e] at k
                  exact iteF (k _ s2)
                | true =>
                  rw [e] at k
                  exact iteT ⟨_, rfl, _, _, 1, _, rfl, rfl, (.inl (.inl hL1)), rfl, _, rfl, _, _, 2, _, rfl, rfl, (.inl (.inl hL1)), rfl, m, n, rfl, k _ s2⟩
end
end Om

namespace Om
open PySem PySem.Spec PyProof.Rows L2
/-! ### _check_instructions -/
theorem PI_or {X : Cx} {tg e : Expr} {w1 w2 : TI} (h1 : PI X tg e w1) (h2 : PI X tg e w2) : PI X tg e (fun σ H R => w1 σ H R ∨ w2 σ H R) := ⟨fun pins s σ H R I h => h.elim (fun h => h1.run pins s σ H R I h) fun h => h2.run pins s σ H R I h⟩
theorem walk_enumL {K : PySem.W.Frag} {a : Addr} {xs : List V} : Walk (Ite K a) xs.length (fun H => SqL K H a xs) (YEnum fun i => xs[i]?) where
  goes := fun i H hi q => ⟨xs, xs[i], q, List.getElem?_eq_getElem _⟩
  stops := fun H q => ⟨xs, q, Nat.le_refl _⟩
  yields := fun i H v H' _ q y => by
    obtain ⟨T, x, h1, h2, h3, h4⟩ := y
    exact ⟨T, x, h1, h2, h3, h4 xs q⟩
structure IsM (K : PySem.W.Frag) (mg : Str → Option Value) (C fI : Addr) : Prop where
  oex : OexC K C
  noI : PySem.W.findIn K (.ref C) "index" = some none
  iC : PySem.W.findIn K (.ref C) "__init__" = some (some (.ref fI))
  tI : PySem.W.typeIn K (.ref fI) = some (.type "function")
  gC : mg "InvalidMap" = some (.ref C)
def xdIM (x : V) : List (Str × V) := [(("index" : Str), x)]
def spIM (C : Addr) : Sp := fun vs H Q _ => ∃ (a : Addr) (x : V), vs = [.ref a, x] ∧ H a = some (exo a C none) ∧ ∀ dx, H dx = none → dx ≠ a → Q .non (upd (upd H dx (exd dx (xdIM x))) a (exo a C (some dx)))
theorem mkIM {C : Addr} {H1 : Hp} {W : XK} {x : V} (k : ∀ d H', H1 d = none → Same H1 H' → H' d = some (.xd (xdIM x)) → W (.ref C) (some d) H') :
    [x].length ≤ 1000 ∧ ∀ a, H1 a = none → spIM C (.ref a :: ([x] ++ [])) (upd H1 a (exo a C none)) (fun v H2 => v = .non ∧ ∃ (d : Addr) (fs : List (Str × V)), H2 a = some (exo a C (some d)) ∧ H2 d = some (exd d fs) ∧ H1 d = none ∧ W (.ref C) (some d) (upd (del H2 a) d (.xd fs))) (fun _ _ _ => False) := by
  refine ⟨by simp, fun a ha => ⟨a, x, rfl, upd_same, fun dx h1 h2 => ⟨rfl, dx, _, upd_same, (by rw [upd_ne h2]; exact upd_same), ?_, ?_⟩⟩⟩
  · rw [upd_ne h2] at h1; exact h1
  · rw [upd_ne h2] at h1
    refine k dx _ h1 (fun c o hc => ?_) upd_same
    have n1 : c ≠ dx := ne_of_none hc h1
    have n2 : c ≠ a := ne_of_none hc ha
    rw [upd_ne n1, del_ne n2, upd_ne n2, upd_ne n1, upd_ne n2]
    exact hc
abbrev sIM : Stmt := inClass (top 11) 0
def chkI : List Ins → Nat → Option Nat
  | [], _ => none
  | x :: r, i => if i = 20 then some i else if x.ok = true then chkI r (i + 1) else some i
/-- instructions in a list or a tuple -/
def InsAt (K : PySem.W.Frag) (H : Hp) (a : Addr) (is : List Ins) : Prop := ∃ xs, (SqL K H a xs ∨ SqT K H a xs) ∧ DpAll K H xs (is.map Ins.d)
theorem InsAt.same {K : PySem.W.Frag} {H H' : Hp} {a : Addr} {is : List Ins} (h : InsAt K H a is) (s : Same H H') : InsAt K H' a is := by
  obtain ⟨xs, h1, h2⟩ := h
  exact ⟨xs, h1.elim (fun h => .inl (Same.lst s h)) fun h => .inr (Same.tup s h), Same.dpAll s h2⟩
structure SmI (is : List Ins) : Prop where
  len : is.length ≤ 1000
  all : ∀ i ∈ is, i.small = true
def spChkI (K : PySem.W.Frag) (C : Addr) : Sp := fun vs H Q E => ∃ (a : Addr) (is : List Ins), vs = [.ref a] ∧ InsAt K H a is ∧ SmI is ∧
  (chkI is 0 = none → ∀ H', Same H H' → Q .non H') ∧ ∀ n, chkI is 0 = some n → ∀ d H', H d = none → Same H H' → H' d = some (.xd (xdIM (.int (n : Nat)))) → E (.ref C) (some d) H'
abbrev sChkI : Stmt := top 26
section
variable {P : Program} {w : World} {K : PySem.W.Frag} {mg : Str → Option Value} {base : Heap} {C fI : Addr}
theorem scIM : FnScope ["self", "index"] ["self", "index"] (defScope sIM) := ⟨rfl, rfl, rfl, by decide +kernel, rfl, by decide +kernel, by decide +kernel⟩
theorem ok_IM {fd : FuncData} (F : FnP K "__init__" "InvalidMap.__init__" sIM fI fd) (T : IsM K mg C fI) : FnOk P w K mg base CX0 1 fI fd ["self", "index"] (spIM C) := by
  refine F.ok scIM (fun vs H Q E h => ?_) (fun cdv A outer s H vs Q E hr h => ?_)
  · obtain ⟨a, x, rfl, _⟩ := h
    rfl
  · obtain ⟨a, x, rfl, ha, k⟩ := h
    refine ⟨_, PSs.nox (pss_one (ps_ost (pv 0) (pv 1))), ?_⟩
    exact ⟨_, rfl, _, rfl, a, C, rfl, T.oex, T.noI, .inl ⟨ha, fun dx h1 h2 => k dx h1 h2⟩⟩
abbrev nChkI : List Str := ["instructions", "index", "instruction"]
theorem scChkI : FnScope nChkI ["instructions"] (defScope sChkI) := ⟨rfl, rfl, rfl, by decide +kernel, rfl, by decide +kernel, by decide +kernel⟩
theorem ok_chkI {f : Addr} {fd fdI : FuncData} (F : FnP K "_check_instructions" "_check_instructions" sChkI f fd) (T : IsM K mg C fI) (FI : FnOk P w K mg base CX0 1 fI fdI ["self", "index"] (spIM C)) (bI : Binds K fdI ["self", "index"] [])
    (G : Cal P w K mg base CX0 3 "is_instruction" ["instruction"] (spIsIns K)) (genum : mg "enumerate" = none) (gm : ∃ t, mg "MOST_INSTRUCTIONS" = some (.int 20 t)) : FnOk P w K mg base (L2.CX P w) 4 f fd ["instructions"] (spChkI K C) := by
  obtain ⟨t0, gm⟩ := gm
  refine F.ok scChkI (fun vs H Q E h => ?_) (fun cdv A outer s H vs Q E hr h => ?_)
  · obtain ⟨a, is, rfl, _⟩ := h
    rfl
  · obtain ⟨a, is, rfl, ⟨xs, hS, hD⟩, sm, kN, kS⟩ := h
    have nd := scChkI.nd
    refine ⟨_, pss_one (ps_for (passes_of rfl) rfl (PI_or (pi_enum rfl genum (pa_cons (pv 0) pa_nil)) (pi_enumT rfl genum (pa_cons (pv 0) pa_nil))) (pg_tup rfl (pgs_cons (pg_name (i := 1) nd rfl (.inl rfl)) (pgs_cons (pg_name (i := 2) nd rfl (.inl rfl)) pgs_nil)))
        (pss_one (ps_if (PW.pt (pw_or (pt_cmpR op_eq (pv 1) (pe_glob (v := .int 20) rfl gm ⟨_, rfl⟩) (nomark _)) (pw_or1 (pt_not (pt_val (pe_cal G hr pass0 (pa_cons (pv 2) pa_nil)))))))
            (pss_one (ps_raise rfl (takes_of rfl rfl rfl rfl) (pmk_oex T.oex T.iC T.tI FI (hr.mono (by decide)) bI .nil pass0 rfl T.gC (pa_cons (pv 1) pa_nil)))) pss_nil))), ?_⟩
    have hlen := dpAll_len hD
    rw [List.length_map] at hlen
    let Pv : Nat → L2.St → Hp → Prop := fun i σ H' => Same H H' ∧ (∃ v1 v2, σ = [some (.ref a), v1, v2]) ∧ chkI is 0 = chkI (is.drop i) i
    have h0 : Pv 0 (start nChkI [V.ref a]) H := ⟨Same.refl H, ⟨_, _, rfl⟩, rfl⟩
    rcases hS with hS | hS
    · refine .inl ⟨_, rfl, a, _, rfl, hS, for_it (walk_enumL (K := K) (a := a) (xs := xs)) Pv h0 (fun i σ H' _ p => Same.lst p.1 hS) ?_ ?_⟩
      · rintro i x σ H1 H2 hi ⟨s1, ⟨v1, v2, rfl⟩, hc⟩ ⟨T1, y, rfl, hT, rfl, hy⟩
        have hi2 : i < is.length := by omega
        have hii : is[i]? = some is[i] := by simp [hi2]
        have hid : (is.map Ins.d)[i]? = some (is[i]).d := by rw [List.getElem?_map, hii]; rfl
        obtain ⟨u, hu, hdu⟩ := dpAll_at hD hid
        have hy : xs[i]? = some y := hy
        obtain rfl : y = u := by rw [hy] at hu; exact Option.some.inj hu
        rw [List.drop_eq_getElem_cons hi2] at hc
        have s2 : Same H (upd H1 T1 (.tup [.int (i : Nat), y])) := Same.new s1 hT
        refine ⟨T1, _, rfl, .inl (.inl upd_same), rfl, _, _, rfl, _, _, rfl, rfl, ?_⟩
        refine ⟨_, rfl, rfl, _, rfl, ?_⟩
        have hc : chkI is 0 = if i = 20 then some i else if (is[i]).ok = true then chkI (is.drop (i + 1)) (i + 1) else some i := hc
        refine ite2 (fun hz => ?_) (fun hz => ?_)
        · have hz := of_decide_eq_true hz
          injection hz with hz
          have hi20 : i = 20 := by omega
          rw [if_pos hi20] at hc
          exact iteT ⟨_, rfl, mkIM (W := E) fun d H' h1 h2 h3 => kS i hc d H' (Same.free s2 h1) (s2.trans h2) h3⟩
        · have hi20 : i ≠ 20 := fun h => hz (decide_eq_true (by rw [h]; rfl))
          rw [if_neg hi20] at hc
          refine ⟨_, rfl, y, is[i], rfl, Same.dp s2 hdu, sm.all _ (List.getElem_mem hi2), fun H3 s3 => ⟨_, rfl, ?_⟩⟩
          cases ho : (is[i]).ok with
          | true =>
            rw [ho, if_pos rfl] at hc
            exact iteF ⟨s2.trans s3, ⟨_, _, rfl⟩, hc⟩
          | false =>
            rw [ho, if_neg Bool.false_ne_true] at hc
            exact iteT ⟨_, rfl, mkIM (W := E) fun d H' h1 h2 h3 => kS i hc d H' (Same.free (s2.trans s3) h1) ((s2.trans s3).trans h2) h3⟩
      · rintro σ H1 ⟨s1, ⟨v1, v2, rfl⟩, hc⟩
        have e0 : is.drop xs.length = [] := List.drop_eq_nil_of_le (by omega)
        rw [e0] at hc
        exact kN hc H1 s1
    · refine .inr ⟨_, rfl, a, _, rfl, hS, for_it (walk_enumT (K := K) (a := a) (xs := xs)) Pv h0 (fun i σ H' _ p => Same.tup p.1 hS) ?_ ?_⟩
      · rintro i x σ H1 H2 hi ⟨s1, ⟨v1, v2, rfl⟩, hc⟩ ⟨T1, y, rfl, hT, rfl, hy⟩
        have hi2 : i < is.length := by omega
        have hii : is[i]? = some is[i] := by simp [hi2]
        have hid : (is.map Ins.d)[i]? = some (is[i]).d := by rw [List.getElem?_map, hii]; rfl
        obtain ⟨u, hu, hdu⟩ := dpAll_at hD hid
        have hy : xs[i]? = some y := hy
        obtain rfl : y = u := by rw [hy] at hu; exact Option.some.inj hu
        rw [List.drop_eq_getElem_cons hi2] at hc
        have s2 : Same H (upd H1 T1 (.tup [.int (i : Nat), y])) := Same.new s1 hT
        refine ⟨T1, _, rfl, .inl (.inl upd_same), rfl, _, _, rfl, _, _, rfl, rfl, ?_⟩
        refine ⟨_, rfl, rfl, _, rfl, ?_⟩
        have hc : chkI is 0 = if i = 20 then some i else if (is[i]).ok = true then chkI (is.drop (i + 1)) (i + 1) else some i := hc
        refine ite2 (fun hz => ?_) (fun hz => ?_)
        · have hz := of_decide_eq_true hz
          injection hz with hz
          have hi20 : i = 20 := by omega
          rw [if_pos hi20] at hc
          exact iteT ⟨_, rfl, mkIM (W := E) fun d H' h1 h2 h3 => kS i hc d H' (Same.free s2 h1) (s2.trans h2) h3⟩
        · have hi20 : i ≠ 20 := fun h => hz (decide_eq_true (by rw [h]; rfl))
          rw [if_neg hi20] at hc
          refine ⟨_, rfl, y, is[i], rfl, Same.dp s2 hdu, sm.all _ (List.getElem_mem hi2), fun H3 s3 => ⟨_, rfl, ?_⟩⟩
          cases ho : (is[i]).ok with
          | true =>
            rw [ho, if_pos rfl] at hc
            exact iteF ⟨s2.trans s3, ⟨_, _, rfl⟩, hc⟩
          | false =>
            rw [ho, if_neg Bool.false_ne_true] at hc
            exact iteT ⟨_, rfl, mkIM (W := E) fun d H' h1 h2 h3 => kS i hc d H' (Same.free (s2.trans s3) h1) ((s2.trans s3).trans h2) h3⟩
      · rintro σ H1 ⟨s1, ⟨v1, v2, rfl⟩, hc⟩
        have e0 : is.drop xs.length = [] := List.drop_eq_nil_of_le (by omega)
        rw [e0] at hc
        exact kN hc H1 s1
end
end Om

namespace Om
open PySem PySem.Spec PyProof.Rows L2
/-! ### Map.__init__ -/
def mapFs (li : Addr) (sg : Str) (lf lt : Addr) : List (Str × V) := putF "_instructions" (.ref lt) (putF "_facings" (.ref lf) (putF "_signs" (.str sg) (putF "_island" (.ref li) [])))
structure MapF (K : PySem.W.Frag) (mg : Str → Option Value) (CM fM : Addr) : Prop where
  cl : Cls K CM
  n1 : NoAttr K CM "_island"
  n2 : NoAttr K CM "_signs"
  n3 : NoAttr K CM "_facings"
  n4 : NoAttr K CM "_instructions"
  made : Mk K CM fM
  gM : mg "Map" = some (.ref CM)
def mapBad (sg : List Nat) (fs : List Nm) (is : List Ins) : Option Int := if (ascS sg lands && ascN fs 0 3) = true then (chkI is 0).map fun n => ((n : Nat) : Int) else some (-1)
/-- all but the object at p stay -/
def Ex1 (p : Addr) (H H' : Hp) : Prop := ∀ b o, H b = some o → b ≠ p → H' b = some o
theorem Ex1.trans {p : Addr} {H H1 H2 : Hp} (a : Ex1 p H H1) (b : Ex1 p H1 H2) : Ex1 p H H2 := fun c o h n => b c o (a c o h n) n
theorem Same.ex1 {p : Addr} {H H' : Hp} (s : Same H H') : Ex1 p H H' := fun b o h _ => s b o h
theorem ex1_upd {p : Addr} {H : Hp} {o : HO} : Ex1 p H (upd H p o) := fun b u h n => by rw [upd_ne n]; exact h
section
variable {K : PySem.W.Frag} {H H' : Hp} {p a C dx : Addr} {fs : List (Str × V)} {xs : List V}
theorem Ex1.tup (e : Ex1 p H H') (hp : H p = some (.ins C dx fs)) (h : SqT K H a xs) : SqT K H' a xs := by
  rcases h with (h | ⟨o, h⟩) | h
  · exact .inl (.inl (e _ _ h fun z => by rw [z, hp] at h; cases h))
  · exact .inl (.inr ⟨o, e _ _ h fun z => by rw [z, hp] at h; cases h⟩)
  · exact .inr h
theorem Ex1.lst (e : Ex1 p H H') (hp : H p = some (.ins C dx fs)) (h : SqL K H a xs) : SqL K H' a xs := by
  rcases h with (h | ⟨o, h⟩) | h
  · exact .inl (.inl (e _ _ h fun z => by rw [z, hp] at h; cases h))
  · exact .inl (.inr ⟨o, e _ _ h fun z => by rw [z, hp] at h; cases h⟩)
  · exact .inr h
theorem Ex1.dpAll {ds : List PyData} (e : Ex1 p H H') (hp : H p = some (.ins C dx fs)) (h : DpAll K H xs ds) : DpAll K H' xs ds := dpAll_mono (fun _ _ h => Ex1.tup e hp h) (fun _ _ h => Ex1.lst e hp h) h
theorem Ex1.insAt {is : List Ins} (e : Ex1 p H H') (hp : H p = some (.ins C dx fs)) (h : InsAt K H a is) : InsAt K H' a is := by
  obtain ⟨xs, h1, h2⟩ := h
  exact ⟨xs, h1.elim (fun h => .inl (e.lst hp h)) fun h => .inr (e.tup hp h), e.dpAll hp h2⟩
end
theorem putF_len (f : Str) (v : V) : ∀ fs : List (Str × V), (putF f v fs).length ≤ fs.length + 1
  | [] => by simp [putF]
  | (g, x) :: r => by
    have ih := putF_len f v r
    show (if g = f then (g, v) :: r else (g, x) :: putF f v r).length ≤ _
    split
    · simp
    · simp only [List.length_cons]
      omega
def spMapI (K : PySem.W.Frag) (CM CB : Addr) : Sp := fun vs H Q E => ∃ (p dx li lf a : Addr) (sg : List Nat) (fs : List Nm) (is : List Ins), vs = [.ref p, .ref li, .str (tx sg), .ref lf, .ref a] ∧ H p = some (.ins CM dx []) ∧ SqT K H lf (fs.map Nm.v) ∧ fs.length ≤ 1000 ∧ InsAt K H a is ∧ SmI is ∧
  (mapBad sg fs is = none → ∀ t xs H', Ex1 p H H' → SqT K H' t xs → DpAll K H' xs (is.map Ins.d) → H' p = some (.ins CM dx (mapFs li (tx sg) lf t)) → Q .non H') ∧
  ∀ n, mapBad sg fs is = some n → ∀ d H', H d = none → Same H H' → H' d = some (.xd (xdIM (.int n))) → E (.ref CB) (some d) H'
abbrev sMapM (i : Nat) : Stmt := inClass (top 25) i
abbrev nMapI : List Str := ["self", "island", "signs", "facings", "instructions"]
section
variable {P : Program} {w : World} {K : PySem.W.Frag} {mg : Str → Option Value} {base : Heap} {CM CB fM fI : Addr}
theorem scMapI : FnScope nMapI nMapI (defScope (sMapM 0)) := ⟨rfl, rfl, rfl, by decide +kernel, rfl, by decide +kernel, by decide +kernel⟩
theorem ok_mapI {fd fdI : FuncData} (F : FnP K "__init__" "Map.__init__" (sMapM 0) fM fd) (T : MapF K mg CM fM) (B : IsM K mg CB fI) (FI : FnOk P w K mg base CX0 1 fI fdI ["self", "index"] (spIM CB)) (bI : Binds K fdI ["self", "index"] [])
    (GC : Cal P w K mg base (L2.CX P w) 4 "_check_instructions" ["instructions"] (spChkI K CB)) (GN : Cal P w K mg base CX0 2 "ascending_numbers" ["numbers", "least", "most"] (spAscN K)) (GS : Cal P w K mg base CX0 1 "ascending_signs" ["text", "allowed"] spAscS)
    (gl : ∃ t, mg "LAND_SIGNS" = some (.str (tx lands) t)) (gtuple : mg "tuple" = none) : FnOk P w K mg base (L2.CX P w) 5 fM fd nMapI (spMapI K CM CB) := by
  obtain ⟨t0, gl⟩ := gl
  refine F.ok scMapI (fun vs H Q E h => ?_) (fun cdv A outer s H vs Q E hr h => ?_)
  · obtain ⟨p, dx, li, lf, a, sg, fs, is, rfl, _⟩ := h
    rfl
  · obtain ⟨p, dx, li, lf, a, sg, fs, is, rfl, hp, hF, hfl, hI, sm, kN, kS⟩ := h
    have nd := scMapI.nd
    refine ⟨_, pss_cons (ps_if (PW.pt (pw_or (pt_not (pt_val (pe_cal GS (hr.mono (by decide)) pass0 (pa_cons (pv 2) (pa_cons (pe_glob (v := .str (tx lands)) rfl gl ⟨_, rfl⟩) pa_nil)))))
          (pw_or1 (pt_not (pt_val (pe_cal GN (hr.mono (by decide)) pass0 (pa_cons (pv 3) (pa_cons pe_int (pa_cons pe_int pa_nil)))))))))
        (pss_one (ps_raise rfl (takes_of rfl rfl rfl rfl) (pmk_oex B.oex B.iC B.tI FI (hr.mono (by decide)) bI .nil pass0 rfl B.gC (pa_cons (pe_un un_neg pe_int) pa_nil)))) pss_nil)
      (pss_cons (ps_expr (pe_cal GC hr (E := E) (passes_call (W := fun cls d _ H => E cls d H) (takes_of rfl rfl rfl rfl) fun _ _ _ _ h => h) (pa_cons (pv 4) pa_nil)))
      (pss_cons (ps_fld (pv 0) (pv 1) rfl) (pss_cons (ps_fld (pv 0) (pv 2) rfl)
      (pss_cons (ps_fld (pv 0) (pe_callTy call_tuple_of (by rfl) gtuple (by decide +kernel) (pa_cons (pv 3) pa_nil)) rfl)
      (pss_one (ps_fld (pv 0) (pe_callTy call_tuple_of (by rfl) gtuple (by decide +kernel) (pa_cons (pv 4) pa_nil)) rfl)))))), ?_⟩
    refine ⟨_, rfl, sg, lands, rfl, by decide, fun H1 s1 => ⟨_, rfl, ?_⟩⟩
    unfold mapBad at kN kS
    cases e1 : ascS sg lands with
    | false =>
      rw [e1] at kS
      refine iteT' rfl (iteT' rfl ?_)
      exact ⟨_, rfl, mkIM (W := E) fun d H' h1 h2 h3 => kS (-1) (by simp) d H' (Same.free s1 h1) (s1.trans h2) h3⟩
    | true =>
      rw [e1] at kS kN
      refine iteF' rfl ?_
      refine ⟨_, rfl, lf, fs, 0, 3, rfl, Same.tup s1 hF, hfl, fun H2 s2 => ⟨_, rfl, ?_⟩⟩
      cases e2 : ascN fs 0 3 with
      | false =>
        rw [e2] at kS
        refine iteT' rfl ?_
        exact ⟨_, rfl, mkIM (W := E) fun d H' h1 h2 h3 => kS (-1) (by simp) d H' (Same.free (s1.trans s2) h1) ((s1.trans s2).trans h2) h3⟩
      | true =>
        rw [e2] at kS kN
        refine iteF' rfl ?_
        have s12 := s1.trans s2
        refine ⟨_, rfl, a, is, rfl, hI.same s12, sm, fun ec H3 s3 => ?_, fun n ec d H' h1 h2 h3 => kS n (by simp [ec]) d H' (Same.free s12 h1) (s12.trans h2) h3⟩
        have s13 := s12.trans s3
        have kN := kN (by simp [ec])
        have hp3 := s13 _ _ hp
        refine ⟨_, rfl, _, rfl, p, CM, dx, [], rfl, hp3, T.cl, T.n1, by decide, ?_⟩
        have l1 := putF_len "_island" (.ref li) []
        have l2 := putF_len "_signs" (.str (tx sg)) (putF "_island" (.ref li) [])
        have l3 := putF_len "_facings" (.ref lf) (putF "_signs" (.str (tx sg)) (putF "_island" (.ref li) []))
        simp only [List.length_nil] at l1
        have q1 : Ex1 p H3 (upd H3 p (.ins CM dx (putF "_island" (.ref li) []))) := ex1_upd
        refine ⟨_, rfl, _, rfl, p, CM, dx, _, rfl, upd_same, T.cl, T.n2, by omega, ?_⟩
        have q2 := q1.trans (ex1_upd (o := .ins CM dx (putF "_signs" (.str (tx sg)) (putF "_island" (.ref li) []))))
        refine ⟨_, rfl, lf, _, rfl, .inr ⟨q2.tup hp3 (Same.tup s13 hF), ?_⟩⟩
        refine ⟨_, rfl, p, CM, dx, _, rfl, upd_same, T.cl, T.n3, by omega, ?_⟩
        have q3 := q2.trans (ex1_upd (o := .ins CM dx (putF "_facings" (.ref lf) (putF "_signs" (.str (tx sg)) (putF "_island" (.ref li) [])))))
        obtain ⟨xs, hxs, hD⟩ := q3.insAt hp3 (hI.same s13)
        have e13 := (Same.ex1 (p := p) s13).trans q3
        rcases hxs with hxs | hxs
        · refine ⟨_, rfl, a, xs, rfl, .inl ⟨hxs, fun t ht => ?_⟩⟩
          have s4 := Same.new (Same.refl _) ht (o := .tup xs)
          refine ⟨_, rfl, p, CM, dx, _, rfl, s4 _ _ upd_same, T.cl, T.n4, by omega, ?_⟩
          have q5 := e13.trans ((Same.ex1 s4).trans (ex1_upd (o := .ins CM dx (mapFs li (tx sg) lf t))))
          have htp : t ≠ p := fun z => by rw [z, upd_same] at ht; cases ht
          exact kN t xs _ q5 (.inl (.inl (by rw [upd_ne htp]; exact upd_same))) ((ex1_upd (p := p)).dpAll (s4 _ _ upd_same) (Same.dpAll s4 hD)) upd_same
        · refine ⟨_, rfl, a, xs, rfl, .inr ⟨hxs, ?_⟩⟩
          refine ⟨_, rfl, p, CM, dx, _, rfl, upd_same, T.cl, T.n4, by omega, ?_⟩
          have q5 := e13.trans (ex1_upd (o := .ins CM dx (mapFs li (tx sg) lf a)))
          exact kN a xs _ q5 ((ex1_upd (p := p)).tup upd_same hxs) ((ex1_upd (p := p)).dpAll upd_same hD) upd_same
end
end Om

namespace Om
open PySem PySem.Spec PyProof.Rows L2
/-! ### own __add__ with a list -/
theorem binop_KL {K : PySem.W.Frag} {prog : Program} {w : World} {A : Around} {E : Value → Shared → Prop} {s : Shared} {x C L f b : Addr} {h₀ : Heap} {m : Str → Option Value} {ox : Obj} {od : Option Obj} {Q : Value → Shared → Prop} (F : Fr h₀ L s.heap m) (X₀ : K.In h₀) (I : PySem.W.InstAt s.heap x ox C od)
    (hb : s.TypeIs (.ref b) "list") (hc : PySem.W.selfFirst K C = true) (hs : PySem.W.findIn K (.ref C) "__add__" = some (some (.ref f))) (hf : PySem.W.isFn K (.ref f) = true)
    (h : wpAny (model prog w) A (call (.ref f) [.ref x, .ref b]) (PySem.W.CmpBack Q) E s) : wpAny (model prog w) A (binaryOp .Add (.ref x) (.ref b)) Q E s := by
  have X := X₀.keeps F.keep
  obtain ⟨cd, hcd, hm⟩ := PySem.W.any_some hc
  obtain ⟨rest, hm⟩ : ∃ rest, cd.mro = .ref C :: rest := by
    cases q : cd.mro with
    | nil => rw [q] at hm; cases hm
    | cons a r => rw [q] at hm; exact ⟨r, by rw [List.head?_cons] at hm; cases (beq_iff_eq.mp hm); rfl⟩
  have e1 : (Value.ref C == Value.type "list") = false := by simp
  unfold binaryOp
  refine wpAny_holding (wpAny_bind ?_)
  unfold binaryOp1
  refine wpAny_bind (I.type.here (wpAny_bind (wpAny_typeOf hb (wpAny_bind ((PySem.W.fills_K (nm := "add") X hcd hm hs).here ?_)))))
  rw [e1]
  simp only [Bool.false_eq_true, if_false]
  refine wpAny_bind (wpAny_of_eq PySem.noFill_list_add ?_)
  simp only [Bool.and_false, Bool.false_eq_true, if_false, Bool.false_and]
  refine wpAny_bind (wpAny_pure ?_)
  simp only [Bool.false_eq_true, if_false]
  refine wpAny_bind (m := tryMethod (.ref x) _ (.ref b)) ?_
  unfold tryMethod
  refine wpAny_bind (PySem.W.special_fn X I hs (beq_iff_eq.mp hf) (wpAny_mono h (fun v s' hv => ?_) fun _ _ e => e))
  cases v <;> first | exact hv.elim | exact wpAny_pure (wpAny_pure (wpAny_pure hv))
section
variable {X : Cx} {CX : CXT} {k : Nat} {C f : Addr} {fd : FuncData} {ps : List Str} {sp : Sp} {E : XK}
/-- o + a list, what is given an object -/
def rAddOwn (K : PySem.W.Frag) (C : Addr) (sp : Sp) (E : XK) : R2 := fun x y H Q => ∃ a dx fs b ys, x = .ref a ∧ H a = some (.ins C dx fs) ∧ y = .ref b ∧ SqL K H b ys ∧ sp [x, y] H (fun v H' => ∃ c, v = .ref c ∧ Q v H') E
theorem op_addOwn (M : OwnM X.K C "__add__" f) (hc : PySem.W.selfFirst X.K C = true) (F : FnOk X.prog X.w X.K X.mg X.base CX k f fd ps sp) (hr : Room k X.A) (hb : Binds X.K fd ps []) (hx : Passes CX X E) : OpR X (binaryOp .Add) (rAddOwn X.K C sp E) := by
  intro pins s σ H x y v u Q I rx ry h
  obtain ⟨p, dx, fs, b, ys, rfl, hp, rfl, hl, q⟩ := h
  cases rx
  cases ry
  obtain ⟨mA, J, _⟩ := ins_get I.hok hp
  obtain ⟨od, J, _⟩ := J.look
  obtain ⟨m, hF⟩ := I.fr
  obtain ⟨its, rv, pl, _⟩ := I.list hl
  refine binop_KL hF I.ok.mod.kin J pl.isList.typeIs hc M.at_ M.fn (wpAny_mono (run_fnS F ⟨hr, rfl⟩ hb hx I (.cons (show RelV (V.ref p) (Value.ref p) from rfl) (.cons (show RelV (V.ref b) (Value.ref b) from rfl) .nil)) q) (fun r s' z => ?_) fun _ _ z => z)
  obtain ⟨z, H', I', rz, c, ez, q⟩ := z
  subst ez
  cases rz
  exact ⟨.ref c, H', I', rfl, q⟩
end
/-! ### a chart -/
def Mp (K : PySem.W.Frag) (CM CI : Addr) (H : Hp) (a : Addr) (rows : List (List Nat)) (sg : List Nat) (fs : List Nm) (is : List Ins) : Prop :=
  ∃ dx li lf lt xs, H a = some (.ins CM dx (mapFs li (tx sg) lf lt)) ∧ Isl K CI H li rows ∧ SqT K H lf (fs.map Nm.v) ∧ SqT K H lt xs ∧ DpAll K H xs (is.map Ins.d)
theorem Mp.same {K : PySem.W.Frag} {CM CI a : Addr} {H H' : Hp} {rows : List (List Nat)} {sg : List Nat} {fs : List Nm} {is : List Ins} (h : Mp K CM CI H a rows sg fs is) (s : Same H H') : Mp K CM CI H' a rows sg fs is := by
  obtain ⟨dx, li, lf, lt, xs, h1, h2, h3, h4, h5⟩ := h
  exact ⟨dx, li, lf, lt, xs, s _ _ h1, h2.same s, Same.tup s h3, Same.tup s h4, Same.dpAll s h5⟩
theorem mapFs_i (li : Addr) (sg : Str) (lf lt : Addr) : (mapFs li sg lf lt).lookup ("_island" : Str) = some (.ref li) := by
  unfold mapFs
  rw [lookup_putF, if_neg (by decide +kernel), lookup_putF, if_neg (by decide +kernel), lookup_putF, if_neg (by decide +kernel), lookup_putF, if_pos rfl]
theorem mapFs_s (li : Addr) (sg : Str) (lf lt : Addr) : (mapFs li sg lf lt).lookup ("_signs" : Str) = some (.str sg) := by
  unfold mapFs
  rw [lookup_putF, if_neg (by decide +kernel), lookup_putF, if_neg (by decide +kernel), lookup_putF, if_pos rfl]
theorem mapFs_f (li : Addr) (sg : Str) (lf lt : Addr) : (mapFs li sg lf lt).lookup ("_facings" : Str) = some (.ref lf) := by
  unfold mapFs
  rw [lookup_putF, if_neg (by decide +kernel), lookup_putF, if_pos rfl]
theorem mapFs_t (li : Addr) (sg : Str) (lf lt : Addr) : (mapFs li sg lf lt).lookup ("_instructions" : Str) = some (.ref lt) := by
  unfold mapFs
  rw [lookup_putF, if_pos rfl]
/-- Map(island, signs, facings, instructions) -/
theorem mk_map {K : PySem.W.Frag} {CM CI CB : Addr} {σ : L2.St} {H : Hp} {Q : VK} {E : XK} {ta : TA} {rows : List (List Nat)} {sg : List Nat} {fs : List Nm} {is : List Ins} (hfl : fs.length ≤ 1000) (sm : SmI is)
    (hta : ∀ Qa : List V → Hp → Prop, (∀ li lf a H', Same H H' → Isl K CI H' li rows → SqT K H' lf (fs.map Nm.v) → InsAt K H' a is → Qa [.ref li, .str (tx sg), .ref lf, .ref a] H') → ta σ H Qa)
    (kN : mapBad sg fs is = none → ∀ x H', Same H H' → H x = none → Mp K CM CI H' x rows sg fs is → Q (.ref x) H')
    (kE : ∀ n, mapBad sg fs is = some n → ∀ d H', H d = none → Same H H' → H' d = some (.xd (xdIM (.int n))) → E (.ref CB) (some d) H') : tMake CM (spMapI K CM CB) [] E ta σ H Q := by
  show ta σ H fun vs H1 => ∀ x dx, H1 x = none → H1 dx = none → dx ≠ x → spMapI K CM CB (.ref x :: (vs ++ [])) (upd (upd H1 dx (.own x)) x (.ins CM dx [])) (fun v H2 => v = .non ∧ Q (.ref x) H2) E
  refine hta _ fun li lf a H1 s1 hI hF hA x dx hx hdx hne => ?_
  have s2 : Same H1 (upd (upd H1 dx (.own x)) x (.ins CM dx [])) := fun c o hc => by
    rw [upd_ne (ne_of_none hc hx), upd_ne (ne_of_none hc hdx)]
    exact hc
  have hx0 : H x = none := Same.free s1 hx
  refine ⟨x, dx, li, lf, a, sg, fs, is, rfl, upd_same, Same.tup s2 hF, hfl, hA.same s2, sm, fun e t xs H2 k1 k2 k3 k4 => ⟨rfl, ?_⟩, fun n e d H2 h1 h2 h3 => ?_⟩
  · have s3 : Same H1 H2 := fun c o hc => k1 c o (s2 c o hc) (ne_of_none hc hx)
    exact kN e x H2 (s1.trans s3) hx0 ⟨dx, li, lf, t, xs, k4, hI.same s3, Same.tup s3 hF, k2, k3⟩
  · exact kE n e d H2 (Same.free s1 (Same.free s2 h1)) (s1.trans (s2.trans h2)) h3
end Om

namespace Om
open PySem PySem.Spec PyProof.Rows L2
theorem chkI_none : ∀ (is : List Ins) (i : Nat), i ≤ 20 → (chkI is i = none ↔ (∀ x ∈ is, x.ok = true) ∧ i + is.length ≤ 20)
  | [], i, h => by simp [chkI, h]
  | x :: r, i, h => by
    show (if i = 20 then some i else if x.ok = true then chkI r (i + 1) else some i) = none ↔ _
    by_cases hi : i = 20
    · rw [if_pos hi]
      simp [hi]
    · rw [if_neg hi]
      by_cases hx : x.ok = true
      · rw [if_pos hx, chkI_none r (i + 1) (by omega)]
        simp only [List.mem_cons, forall_eq_or_imp, hx, true_and, List.length_cons]
        constructor
        · rintro ⟨a, b⟩
          exact ⟨a, by omega⟩
        · rintro ⟨a, b⟩
          exact ⟨a, by omega⟩
      · rw [if_neg hx]
        simp [hx]
theorem mapBad_none {sg : List Nat} {fs : List Nm} {is : List Ins} : mapBad sg fs is = none ↔ ascS sg lands = true ∧ ascN fs 0 3 = true ∧ (∀ x ∈ is, x.ok = true) ∧ is.length ≤ 20 := by
  unfold mapBad
  by_cases h : (ascS sg lands && ascN fs 0 3) = true
  · rw [if_pos h]
    obtain ⟨h1, h2⟩ := Bool.and_eq_true_iff.mp h
    rw [Option.map_eq_none_iff, chkI_none is 0 (by omega)]
    simp [h1, h2]
  · rw [if_neg h]
    simp only [reduceCtorEq, false_iff, not_and]
    intro h1 h2
    exact absurd (by rw [h1, h2]; rfl) h
theorem dpAll_take {K : PySem.W.Frag} {H : Hp} : ∀ {xs : List V} {ds : List PyData} (n : Nat), DpAll K H xs ds → DpAll K H (xs.take n) (ds.take n)
  | [], [], n, .nil => by simp; exact .nil
  | _ :: _, _ :: _, 0, .cons _ _ => .nil
  | _ :: _, _ :: _, n + 1, .cons h t => .cons h (dpAll_take n t)
theorem dpAll_drop {K : PySem.W.Frag} {H : Hp} : ∀ {xs : List V} {ds : List PyData} (n : Nat), DpAll K H xs ds → DpAll K H (xs.drop n) (ds.drop n)
  | [], [], n, .nil => by simp; exact .nil
  | _ :: _, _ :: _, 0, .cons h t => .cons h t
  | _ :: _, _ :: _, n + 1, .cons h t => dpAll_drop n t
theorem cutV_upto (xs : List V) (n : Nat) : cutV xs none (some (n : Int)) = xs.take n := by
  unfold cutV
  rw [HT.sIx_none, HT.sIx_nat, List.drop_zero, Nat.sub_zero]
  by_cases h : n ≤ xs.length
  · rw [Nat.min_eq_left h]
  · rw [Nat.min_eq_right (by omega), List.take_length, List.take_of_length_le (by omega)]
def spWith (K : PySem.W.Frag) (CM CI CB : Addr) : Sp := fun vs H Q E => ∃ (a b : Addr) (rows : List (List Nat)) (sg : List Nat) (fs : List Nm) (is0 is : List Ins), vs = [.ref a, .ref b] ∧ Mp K CM CI H a rows sg fs is0 ∧ fs.length ≤ 1000 ∧ InsAt K H b is ∧ SmI is ∧
  (mapBad sg fs is = none → ∀ x H', Same H H' → H x = none → Mp K CM CI H' x rows sg fs is → Q (.ref x) H') ∧
  ∀ n, mapBad sg fs is = some n → ∀ d H', H d = none → Same H H' → H' d = some (.xd (xdIM (.int n))) → E (.ref CB) (some d) H'
def spAdd (K : PySem.W.Frag) (CM CI CB : Addr) : Sp := fun vs H Q E => ∃ (a b : Addr) (rows : List (List Nat)) (sg : List Nat) (fs : List Nm) (is0 is : List Ins), vs = [.ref a, .ref b] ∧ Mp K CM CI H a rows sg fs is0 ∧ fs.length ≤ 1000 ∧ InsAt K H b is ∧ SmI (is0 ++ is) ∧
  (mapBad sg fs (is0 ++ is) = none → ∀ x H', Same H H' → H x = none → Mp K CM CI H' x rows sg fs (is0 ++ is) → Q (.ref x) H') ∧
  ∀ n, mapBad sg fs (is0 ++ is) = some n → ∀ d H', H d = none → Same H H' → H' d = some (.xd (xdIM (.int n))) → E (.ref CB) (some d) H'
def spUpto (K : PySem.W.Frag) (CM CI : Addr) : Sp := fun vs H Q _ => ∃ (a : Addr) (n : Int) (rows : List (List Nat)) (sg : List Nat) (fs : List Nm) (is : List Ins), vs = [.ref a, .int n] ∧ Mp K CM CI H a rows sg fs is ∧ fs.length ≤ 1000 ∧ SmI is ∧ mapBad sg fs is = none ∧
  ∀ x H', Same H H' → H x = none → Mp K CM CI H' x rows sg fs (is.take n.toNat) → Q (.ref x) H'
def spMLen (K : PySem.W.Frag) (CM CI : Addr) : Sp := fun vs H Q _ => ∃ (a : Addr) (rows : List (List Nat)) (sg : List Nat) (fs : List Nm) (is : List Ins), vs = [.ref a] ∧ Mp K CM CI H a rows sg fs is ∧ Q (.int (is.length : Nat)) H
def spMGet (K : PySem.W.Frag) (CM CI : Addr) : Sp := fun vs H Q _ => ∃ (a : Addr) (j : Nat) (i : Ins) (rows : List (List Nat)) (sg : List Nat) (fs : List Nm) (is : List Ins), vs = [.ref a, .int (j : Nat)] ∧ Mp K CM CI H a rows sg fs is ∧ is[j]? = some i ∧ ∀ v, Dp K H v i.d → Q v H
section
variable {P : Program} {w : World} {K : PySem.W.Frag} {mg : Str → Option Value} {base : Heap} {CM CI CB fM : Addr}
theorem scWith : FnScope ["self", "instructions"] ["self", "instructions"] (defScope (sMapM 7)) := ⟨rfl, rfl, rfl, by decide +kernel, rfl, by decide +kernel, by decide +kernel⟩
theorem ok_with {f : Addr} {fd fdM : FuncData} (F : FnP K "with_instructions" "Map.with_instructions" (sMapM 7) f fd) (T : MapF K mg CM fM) (GM : FnOk P w K mg base (L2.CX P w) 5 fM fdM nMapI (spMapI K CM CB)) (bM : Binds K fdM nMapI []) : FnOk P w K mg base (L2.CX P w) 7 f fd ["self", "instructions"] (spWith K CM CI CB) := by
  refine F.ok scWith (fun vs H Q E h => ?_) (fun cdv A outer s H vs Q E hr h => ?_)
  · obtain ⟨a, b, rows, sg, fs, is0, is, rfl, _⟩ := h
    rfl
  · obtain ⟨a, b, rows, sg, fs, is0, is, rfl, ⟨dx, li, lf, lt, xs, hp, hI, hF, _, _⟩, hfl, hb, sm, kN, kE⟩ := h
    refine ⟨_, pss_one (ps_ret (pe_make T.made GM hr rfl T.gM bM .nil (passes_call (W := fun cls d _ H => E cls d H) (takes_of rfl rfl rfl rfl) fun _ _ _ _ h => h) (pa_cons (pe_fld (pv 0) rfl) (pa_cons (pe_fld (pv 0) rfl) (pa_cons (pe_fld (pv 0) rfl) (pa_cons (pv 1) pa_nil)))))), ?_⟩
    refine mk_map (CI := CI) hfl sm (fun Qa h => ?_) kN kE
    exact ⟨_, rfl, a, CM, dx, _, .ref li, rfl, hp, T.cl, T.n1, mapFs_i .., _, rfl, a, CM, dx, _, .str (tx sg), rfl, hp, T.cl, T.n2, mapFs_s .., _, rfl, a, CM, dx, _, .ref lf, rfl, hp, T.cl, T.n3, mapFs_f .., _, rfl, h li lf b H (Same.refl H) hI hF hb⟩
theorem scAdd : FnScope ["self", "other"] ["self", "other"] (defScope (sMapM 12)) := ⟨rfl, rfl, rfl, by decide +kernel, rfl, by decide +kernel, by decide +kernel⟩
theorem ok_add {f : Addr} {fd fdM : FuncData} (F : FnP K "__add__" "Map.__add__" (sMapM 12) f fd) (T : MapF K mg CM fM) (GM : FnOk P w K mg base (L2.CX P w) 5 fM fdM nMapI (spMapI K CM CB)) (bM : Binds K fdM nMapI []) (gtuple : mg "tuple" = none) : FnOk P w K mg base (L2.CX P w) 7 f fd ["self", "other"] (spAdd K CM CI CB) := by
  refine F.ok scAdd (fun vs H Q E h => ?_) (fun cdv A outer s H vs Q E hr h => ?_)
  · obtain ⟨a, b, rows, sg, fs, is0, is, rfl, _⟩ := h
    rfl
  · obtain ⟨a, b, rows, sg, fs, is0, is, rfl, ⟨dx, li, lf, lt, xs, hp, hI, hF, hT, hD⟩, hfl, ⟨ys, hy, hE⟩, sm, kN, kE⟩ := h
    refine ⟨_, pss_one (ps_ret (pe_make T.made GM hr rfl T.gM bM .nil (passes_call (W := fun cls d _ H => E cls d H) (takes_of rfl rfl rfl rfl) fun _ _ _ _ h => h) (pa_cons (pe_fld (pv 0) rfl) (pa_cons (pe_fld (pv 0) rfl) (pa_cons (pe_fld (pv 0) rfl)
      (pa_cons (pe_op op_catA (pe_fld (pv 0) rfl) (pe_callTy call_tuple_of (by rfl) gtuple (by decide +kernel) (pa_cons (pv 1) pa_nil))) pa_nil)))))), ?_⟩
    refine mk_map (CI := CI) hfl sm (fun Qa h => ?_) kN kE
    have lx := dpAll_len hD
    have ly := dpAll_len hE
    have hl := sm.len
    rw [List.length_map] at lx ly
    rw [List.length_append] at hl
    have hsz : xs.length + ys.length ≤ sizeLine := small_le (by omega)
    refine ⟨_, rfl, a, CM, dx, _, .ref li, rfl, hp, T.cl, T.n1, mapFs_i .., _, rfl, a, CM, dx, _, .str (tx sg), rfl, hp, T.cl, T.n2, mapFs_s .., _, rfl, a, CM, dx, _, .ref lf, rfl, hp, T.cl, T.n3, mapFs_f .., _, rfl, a, CM, dx, _, .ref lt, rfl, hp, T.cl, T.n4, mapFs_t .., _, rfl, b, ys, rfl, ?_⟩
    have fin : ∀ (c : Addr) (H1 : Hp), Same H H1 → SqT K H1 c ys → rCatA K (.ref lt) (.ref c) H1 (fun v H' => tNil [some (V.ref a), some (V.ref b)] H' fun vs H1 => Qa (.ref li :: .str (tx sg) :: .ref lf :: v :: vs) H1) := fun c H1 s1 hc => by
      refine catA_read (xs := xs) (ys := ys) (Same.tup s1 hT) hc hsz fun p H2 s2 hp2 => ?_
      refine nilArgs (h li lf p H2 (s1.trans s2) (hI.same (s1.trans s2)) (Same.tup (s1.trans s2) hF) ⟨_, .inr hp2, ?_⟩)
      rw [List.map_append]
      exact dpAll_app (Same.dpAll (s1.trans s2) hD) (Same.dpAll (s1.trans s2) hE)
    rcases hy with hy | hy
    · exact .inl ⟨hy, fun t ht => fin t _ (Same.new (Same.refl H) ht) (.inl (.inl upd_same))⟩
    · exact .inr ⟨hy, fin b H (Same.refl H) hy⟩
end
end Om

namespace Om
open PySem PySem.Spec PyProof.Rows L2
theorem mapFs_no (li : Addr) (sg : Str) (lf lt : Addr) {m : Str} (h1 : m ≠ "_island") (h2 : m ≠ "_signs") (h3 : m ≠ "_facings") (h4 : m ≠ "_instructions") : (mapFs li sg lf lt).lookup m = none := by
  unfold mapFs
  rw [lookup_putF, if_neg h4, lookup_putF, if_neg h3, lookup_putF, if_neg h2, lookup_putF, if_neg h1]
  rfl
section
variable {P : Program} {w : World} {K : PySem.W.Frag} {mg : Str → Option Value} {base : Heap} {CM CI CB fM : Addr}
theorem scM1 (i : Nat) (h : i = 1 ∨ i = 2 ∨ i = 3 ∨ i = 4 ∨ i = 9) : FnScope ["self"] ["self"] (defScope (sMapM i)) := by
  rcases h with rfl | rfl | rfl | rfl | rfl <;> exact ⟨rfl, rfl, rfl, by decide +kernel, rfl, by decide +kernel, by decide +kernel⟩
theorem ok_mIsl {f : Addr} {fd : FuncData} (F : FnP K "island" "Map.island" (sMapM 1) f fd) (T : MapF K mg CM fM) : FnOk P w K mg base CX0 1 f fd ["self"] (getSp CM "_island") := by
  refine F.ok (scM1 1 (by simp)) (fun vs H Q E h => ?_) (fun cdv A outer s H vs Q E hr h => ?_)
  · obtain ⟨a, dx, fs, v, rfl, _⟩ := h
    rfl
  · obtain ⟨a, dx, fs, v, rfl, hp, hl, k⟩ := h
    exact ⟨_, PSs.nox (pss_one (ps_ret (pe_fld (pv 0) rfl))), _, rfl, a, CM, dx, _, v, rfl, hp, T.cl, T.n1, hl, k⟩
theorem ok_mSig {f : Addr} {fd : FuncData} (F : FnP K "signs" "Map.signs" (sMapM 2) f fd) (T : MapF K mg CM fM) : FnOk P w K mg base CX0 1 f fd ["self"] (getSp CM "_signs") := by
  refine F.ok (scM1 2 (by simp)) (fun vs H Q E h => ?_) (fun cdv A outer s H vs Q E hr h => ?_)
  · obtain ⟨a, dx, fs, v, rfl, _⟩ := h
    rfl
  · obtain ⟨a, dx, fs, v, rfl, hp, hl, k⟩ := h
    exact ⟨_, PSs.nox (pss_one (ps_ret (pe_fld (pv 0) rfl))), _, rfl, a, CM, dx, _, v, rfl, hp, T.cl, T.n2, hl, k⟩
theorem ok_mFac {f : Addr} {fd : FuncData} (F : FnP K "facings" "Map.facings" (sMapM 3) f fd) (T : MapF K mg CM fM) : FnOk P w K mg base CX0 1 f fd ["self"] (getSp CM "_facings") := by
  refine F.ok (scM1 3 (by simp)) (fun vs H Q E h => ?_) (fun cdv A outer s H vs Q E hr h => ?_)
  · obtain ⟨a, dx, fs, v, rfl, _⟩ := h
    rfl
  · obtain ⟨a, dx, fs, v, rfl, hp, hl, k⟩ := h
    exact ⟨_, PSs.nox (pss_one (ps_ret (pe_fld (pv 0) rfl))), _, rfl, a, CM, dx, _, v, rfl, hp, T.cl, T.n3, hl, k⟩
theorem ok_mIns {f : Addr} {fd : FuncData} (F : FnP K "instructions" "Map.instructions" (sMapM 4) f fd) (T : MapF K mg CM fM) : FnOk P w K mg base CX0 1 f fd ["self"] (getSp CM "_instructions") := by
  refine F.ok (scM1 4 (by simp)) (fun vs H Q E h => ?_) (fun cdv A outer s H vs Q E hr h => ?_)
  · obtain ⟨a, dx, fs, v, rfl, _⟩ := h
    rfl
  · obtain ⟨a, dx, fs, v, rfl, hp, hl, k⟩ := h
    exact ⟨_, PSs.nox (pss_one (ps_ret (pe_fld (pv 0) rfl))), _, rfl, a, CM, dx, _, v, rfl, hp, T.cl, T.n4, hl, k⟩
theorem ok_mLen {f : Addr} {fd : FuncData} (F : FnP K "__len__" "Map.__len__" (sMapM 9) f fd) (T : MapF K mg CM fM) (glen : mg "len" = none) : FnOk P w K mg base CX0 1 f fd ["self"] (spMLen K CM CI) := by
  refine F.ok (scM1 9 (by simp)) (fun vs H Q E h => ?_) (fun cdv A outer s H vs Q E hr h => ?_)
  · obtain ⟨a, rows, sg, fs, is, rfl, _⟩ := h
    rfl
  · obtain ⟨a, rows, sg, fs, is, rfl, ⟨dx, li, lf, lt, xs, hp, hI, hF, hT, hD⟩, k⟩ := h
    refine ⟨_, PSs.nox (pss_one (ps_ret (pe_callB call_len_seq (by rfl) glen PySem.boot_len (pa_cons (pe_fld (pv 0) rfl) pa_nil)))), ?_⟩
    refine ⟨_, rfl, a, CM, dx, _, .ref lt, rfl, hp, T.cl, T.n4, mapFs_t .., lt, _, rfl, .inr hT, ?_⟩
    rw [dpAll_len hD, List.length_map]
    exact k
theorem scMGet : FnScope ["self", "index"] ["self", "index"] (defScope (sMapM 10)) := ⟨rfl, rfl, rfl, by decide +kernel, rfl, by decide +kernel, by decide +kernel⟩
theorem ok_mGet {f : Addr} {fd : FuncData} (F : FnP K "__getitem__" "Map.__getitem__" (sMapM 10) f fd) (T : MapF K mg CM fM) : FnOk P w K mg base CX0 1 f fd ["self", "index"] (spMGet K CM CI) := by
  refine F.ok scMGet (fun vs H Q E h => ?_) (fun cdv A outer s H vs Q E hr h => ?_)
  · obtain ⟨a, j, i, rows, sg, fs, is, rfl, _⟩ := h
    rfl
  · obtain ⟨a, j, i, rows, sg, fs, is, rfl, ⟨dx, li, lf, lt, xs, hp, hI, hF, hT, hD⟩, hi, k⟩ := h
    obtain ⟨v, h1, h2⟩ := dpAll_at hD (i := j) (e := i.d) (by rw [List.getElem?_map, hi]; rfl)
    refine ⟨_, PSs.nox (pss_one (ps_ret (pe_ix ix_tup (pe_fld (pv 0) rfl) (pv 1) (fun _ _ => rfl)))), ?_⟩
    exact ⟨_, rfl, a, CM, dx, _, .ref lt, rfl, hp, T.cl, T.n4, mapFs_t .., _, rfl, lt, xs, _, v, rfl, rfl, hT, atI_nat h1, k v h2⟩
theorem scUpto : FnScope ["self", "number"] ["self", "number"] (defScope (sMapM 5)) := ⟨rfl, rfl, rfl, by decide +kernel, rfl, by decide +kernel, by decide +kernel⟩
theorem ok_upto {f gW : Addr} {fd fdW : FuncData} (F : FnP K "until" "Map.until" (sMapM 5) f fd) (T : MapF K mg CM fM) (mW : Meth K CM "with_instructions" gW) (GW : FnOk P w K mg base (L2.CX P w) 7 gW fdW ["self", "instructions"] (spWith K CM CI CB)) (bW : Binds K fdW ["self", "instructions"] [])
    (gmax : mg "max" = none) : FnOk P w K mg base (L2.CX P w) 8 f fd ["self", "number"] (spUpto K CM CI) := by
  refine F.ok scUpto (fun vs H Q E h => ?_) (fun cdv A outer s H vs Q E hr h => ?_)
  · obtain ⟨a, n, rows, sg, fs, is, rfl, _⟩ := h
    rfl
  · obtain ⟨a, n, rows, sg, fs, is, rfl, hM, hfl, sm, hb, k⟩ := h
    obtain ⟨dx, li, lf, lt, xs, hp, hI, hF, hT, hD⟩ := id hM
    refine ⟨_, pss_one (ps_ret (pe_meth (pv 0) T.cl mW GW hr bW .nil (passes_call (W := fun cls d _ H => E cls d H) (takes_of rfl rfl rfl rfl) fun _ _ _ _ h => h)
      (pa_cons (pe_slice sl_tupA (pe_fld (pv 0) rfl) po_none (po_some (pe_callB (call_max2 rfl) (by rfl) gmax (by decide +kernel) (pa_cons pe_int (pa_cons (pv 1) pa_nil))))) pa_nil))), ?_⟩
    refine ⟨_, rfl, a, dx, _, rfl, hp, mapFs_no _ _ _ _ (by decide +kernel) (by decide +kernel) (by decide +kernel) (by decide +kernel), ?_⟩
    refine ⟨_, rfl, a, CM, dx, _, .ref lt, rfl, hp, T.cl, T.n4, mapFs_t .., ?_⟩
    refine noPart ?_
    refine ⟨_, rfl, _, _, rfl, _, rfl, ?_⟩
    have en : (if n > 0 then n else 0) = ((n.toNat : Nat) : Int) := by split <;> omega
    rw [en]
    refine slA_read hT fun p H1 s1 hp1 => ?_
    rw [cutV_upto] at hp1
    refine nilArgs ?_
    obtain ⟨m1, m2, m3, m4⟩ := mapBad_none.mp hb
    refine ⟨a, p, rows, sg, fs, is, is.take n.toNat, rfl, hM.same s1, hfl, ⟨_, .inr hp1, ?_⟩, ⟨?_, fun i hi => sm.all i (List.mem_of_mem_take hi)⟩, fun _ x H' s2 hx h => k x H' (s1.trans s2) (Same.free s1 hx) h, fun m em => ?_⟩
    · rw [List.map_take]
      exact dpAll_take _ (Same.dpAll s1 hD)
    · rw [List.length_take]
      have := sm.len
      omega
    · have e := mapBad_none.mpr ⟨m1, m2, fun x hx => m3 x (List.mem_of_mem_take hx), show (is.take n.toNat).length ≤ 20 by rw [List.length_take]; omega⟩
      rw [e] at em
      cases em
end
end Om

namespace Om
open PySem PySem.Spec PyProof.Rows L2
/-! ### rules whose reading names the written part apart from the context -/
theorem fld_K {X : Cx} {K : PySem.W.Frag} {e : Expr} {ta : TE} {f : Str} {pos : Pos} (hK : X.K = K) (he : PE X e ta) (hb : attributeBase e f X.env (eval e X.env) = eval e X.env) : PE X (.Attribute e f pos) (tFld K ta f) := by
  subst hK
  exact pe_fld he hb
theorem len_K' {X : Cx} {K : PySem.W.Frag} (hK : X.K = K) : CallR X (.builtin "len") (fun xs H Q => ∃ p ys, xs = [.ref p] ∧ (SqL K H p ys ∨ SqT K H p ys) ∧ Q (.int ys.length) H) := by
  subst hK
  exact call_len_seq
theorem notIn_K' {X : Cx} {K : PySem.W.Frag} (hK : X.K = K) : OpR X (compareOp .NotIn) (rIn K true) := by
  subst hK
  exact op_notIn_seq
theorem in_K' {X : Cx} {K : PySem.W.Frag} (hK : X.K = K) : OpR X (compareOp .In) (rIn K false) := by
  subst hK
  exact op_in_seq
theorem ixlK {X : Cx} {K : PySem.W.Frag} (hK : X.K = K) : IxR X (rIxL K) := by
  subst hK
  exact ix_list
theorem ixtK {X : Cx} {K : PySem.W.Frag} (hK : X.K = K) : IxR X (rIxT K) := by
  subst hK
  exact ix_tup
theorem inV_ints (i : Int) (ns : List Int) : inV (.int i) (ns.map V.int) = decide (i ∈ ns) := by
  unfold inV
  induction ns with
  | nil => rfl
  | cons n r ih =>
    rw [List.map_cons, List.any_cons, ih]
    show ((n == i) || decide (i ∈ r)) = _
    rw [Bool.eq_iff_iff]
    simp only [Bool.or_eq_true, beq_iff_eq, decide_eq_true_eq, List.mem_cons]
    constructor
    · rintro (h | h)
      · exact .inl h.symm
      · exact .inr h
    · rintro (h | h)
      · exact .inl h.symm
      · exact .inr h
theorem flat_ints (ns : List Int) : (ns.map V.int).all flatV = true := by
  rw [List.all_map]
  exact List.all_eq_true.mpr fun _ _ => rfl
/-! ### without -/
def keepF (js : List Int) : List Ins → Nat → List Ins
  | [], _ => []
  | x :: r, i => if ((i : Nat) : Int) ∈ js then keepF js r (i + 1) else x :: keepF js r (i + 1)
theorem keepF_app (js : List Int) : ∀ (a : List Ins) (x : Ins) (i : Nat), keepF js (a ++ [x]) i = keepF js a i ++ (if ((i + a.length : Nat) : Int) ∈ js then [] else [x])
  | [], x, i => by
    show (if ((i : Nat) : Int) ∈ js then [] else [x]) = _
    simp [keepF]
  | y :: r, x, i => by
    have ih := keepF_app js r x (i + 1)
    have e : i + 1 + r.length = i + (y :: r).length := by rw [List.length_cons]; omega
    rw [e] at ih
    show (if ((i : Nat) : Int) ∈ js then keepF js (r ++ [x]) (i + 1) else y :: keepF js (r ++ [x]) (i + 1)) = (if ((i : Nat) : Int) ∈ js then keepF js r (i + 1) else y :: keepF js r (i + 1)) ++ _
    rw [ih]
    split <;> simp
theorem keepF_sub (js : List Int) : ∀ (a : List Ins) (i : Nat), (∀ x ∈ keepF js a i, x ∈ a) ∧ (keepF js a i).length ≤ a.length
  | [], i => ⟨fun x h => h, Nat.le_refl _⟩
  | y :: r, i => by
    obtain ⟨h1, h2⟩ := keepF_sub js r (i + 1)
    show (∀ x ∈ (if ((i : Nat) : Int) ∈ js then keepF js r (i + 1) else y :: keepF js r (i + 1)), x ∈ y :: r) ∧ (if ((i : Nat) : Int) ∈ js then keepF js r (i + 1) else y :: keepF js r (i + 1)).length ≤ _
    split
    · exact ⟨fun x hx => List.mem_cons_of_mem _ (h1 x hx), by rw [List.length_cons]; omega⟩
    · refine ⟨fun x hx => ?_, by rw [List.length_cons, List.length_cons]; omega⟩
      rcases List.mem_cons.mp hx with rfl | hx
      · exact List.mem_cons_self ..
      · exact List.mem_cons_of_mem _ (h1 x hx)
theorem keepF_congr {js ks : List Int} : ∀ (a : List Ins) (i : Nat), (∀ n : Nat, i ≤ n → n < i + a.length → ((((n : Nat) : Int) ∈ js) ↔ (((n : Nat) : Int) ∈ ks))) → keepF js a i = keepF ks a i
  | [], i, _ => rfl
  | y :: r, i, h => by
    have e := keepF_congr r (i + 1) fun n h1 h2 => h n (by omega) (by rw [List.length_cons]; omega)
    have h0 := h i (Nat.le_refl _) (by rw [List.length_cons]; omega)
    show (if ((i : Nat) : Int) ∈ js then keepF js r (i + 1) else y :: keepF js r (i + 1)) = (if ((i : Nat) : Int) ∈ ks then keepF ks r (i + 1) else y :: keepF ks r (i + 1))
    rw [e]
    by_cases hj : ((i : Nat) : Int) ∈ js
    · rw [if_pos hj, if_pos (h0.mp hj)]
    · rw [if_neg hj, if_neg fun z => hj (h0.mpr z)]
def spWithout (K : PySem.W.Frag) (CM CI : Addr) : Sp := fun vs H Q _ => ∃ (a b : Addr) (js : List Int) (rows : List (List Nat)) (sg : List Nat) (fs : List Nm) (is : List Ins), vs = [.ref a, .ref b] ∧ SqL K H b (js.map V.int) ∧ js.length ≤ 1000 ∧ Mp K CM CI H a rows sg fs is ∧ fs.length ≤ 1000 ∧ SmI is ∧ mapBad sg fs is = none ∧
  ∀ x H', Same H H' → H x = none → Mp K CM CI H' x rows sg fs (keepF js is 0) → Q (.ref x) H'
section
variable {P : Program} {w : World} {K : PySem.W.Frag} {mg : Str → Option Value} {base : Heap} {CM CI CB fM : Addr}
abbrev nWo : List Str := ["self", "indexes", "omitted", "kept", "index", "told"]
theorem scWo : FnScope nWo ["self", "indexes"] (defScope (sMapM 6)) := ⟨rfl, rfl, rfl, by decide +kernel, rfl, by decide +kernel, by decide +kernel⟩
def asgExpr (s : Stmt) : Expr := match s with
  | .Assign _ e _ => e
  | _ => .Constant .none 0 ⟨0, 0, 0, 0⟩
def woLc1 : Expr := asgExpr ((defBody (sMapM 6)).getD 0 (.Pass ⟨0, 0, 0, 0⟩))
def woLc2 : Expr := asgExpr ((defBody (sMapM 6)).getD 1 (.Pass ⟨0, 0, 0, 0⟩))
theorem blkWo1 : BlkOk nWo (defScope (sMapM 6)) (lcScope woLc1) [("index", 4)] := blkOk_by (by decide +kernel)
theorem blkWo2 : BlkOk nWo (defScope (sMapM 6)) (lcScope woLc2) [("index", 4), ("told", 5)] := blkOk_by (by decide +kernel)
theorem ok_without {f gW : Addr} {fd fdW : FuncData} (F : FnP K "without" "Map.without" (sMapM 6) f fd) (T : MapF K mg CM fM) (mW : Meth K CM "with_instructions" gW) (GW : FnOk P w K mg base (L2.CX P w) 7 gW fdW ["self", "instructions"] (spWith K CM CI CB)) (bW : Binds K fdW ["self", "instructions"] [])
    (G : Cal P w K mg base CX0 1 "in_range" nInR spInN) (glen : mg "len" = none) (genum : mg "enumerate" = none) : FnOk P w K mg base (L2.CX P w) 8 f fd ["self", "indexes"] (spWithout K CM CI) := by
  refine F.ok scWo (fun vs H Q E h => ?_) (fun cdv A outer s H vs Q E hr h => ?_)
  · obtain ⟨a, b, js, rows, sg, fs, is, rfl, _⟩ := h
    rfl
  · obtain ⟨a, b, js, rows, sg, fs, is, rfl, hB, hjl, hM, hfl, sm, hb, k⟩ := h
    obtain ⟨dx, li, lf, lt, xs, hp, hI, hF, hT, hD⟩ := id hM
    have nd := scWo.nd
    refine ⟨_, pss_cons (ps_set (i := 2) nd rfl (.inr rfl) (pe_lc (own := [("index", 4)]) (g := gName 4) rfl nd (pi_list (pv 1)) blkWo1 (fun _ _ _ _ _ => pg_name (i := 4) nd rfl (.inl rfl))
        (fun _ _ _ _ _ => pts_one (pt_val (pe_cal G (hr.mono (by decide)) pass0 (pa_cons (pv 4) (pa_cons pe_int (pa_cons (pe_op op_sub (pe_callB (len_K' (K := K) rfl) (by rfl) glen PySem.boot_len (pa_cons (fld_K (K := K) rfl (pv 0) rfl) pa_nil)) pe_int) pa_nil)))))) (fun _ _ _ _ _ => pv 4)))
      (pss_cons (ps_setLc (i := 3) (own := [("index", 4), ("told", 5)]) (g := gTup K 2 (gCons (gName 4) (gCons (gName 5) gNil))) rfl nd rfl rfl (sw_true rfl rfl rfl (by decide +kernel)) (pi_enumT rfl genum (pa_cons (pe_fld (pv 0) rfl) pa_nil)) blkWo2
        (fun _ _ _ _ _ => pg_tup rfl (pgs_cons (pg_name (i := 4) nd rfl (.inl rfl)) (pgs_cons (pg_name (i := 5) nd rfl (.inl rfl)) pgs_nil))) (fun _ _ _ _ _ => pts_one (pt_cmpR (notIn_K' (K := K) rfl) (pv 4) (pv 2) rfl)) (fun _ _ _ _ _ => pv 5))
      (pss_one (ps_ret (pe_meth (pv 0) T.cl mW GW hr bW .nil (passes_call (W := fun cls d _ H => E cls d H) (takes_of rfl rfl rfl rfl) fun _ _ _ _ h => h) (pa_cons (pv 3) pa_nil))))), ?_⟩
    let om (n : Nat) : List Int := (js.take n).filter fun j => inN (.i j) 0 ((is.length : Nat) - 1)
    have lx := dpAll_len hD
    rw [List.length_map] at lx
    obtain ⟨m1, m2, m3, m4⟩ := mapBad_none.mp hb
    refine ⟨_, rfl, b, rfl, ⟨_, hB⟩, fun D hD' => lc_list (K := K) (a := b) (xs := js.map V.int) (fun i H' => H' D = some (.lst ((om i).map V.int)) ∧ Same H H') ⟨upd_same, Same.new (Same.refl H) hD'⟩ (fun i H' _ q => Same.lst q.2 hB) ?_ ?_⟩
    · rintro i x H1 hx ⟨h1, h2⟩
      rw [List.getElem?_map] at hx
      cases hji : js[i]? with
      | none => rw [hji] at hx; cases hx
      | some j =>
        rw [hji] at hx
        obtain rfl : V.int j = x := Option.some.inj hx
        refine ⟨rfl, ?_⟩
        refine ⟨_, rfl, _, rfl, a, CM, dx, _, .ref lt, rfl, h2 _ _ hp, T.cl, T.n4, mapFs_t .., lt, xs, rfl, .inr (Same.tup h2 hT), _, _, rfl, rfl, .i j, 0, _, rfl, _, rfl, ?_⟩
        rw [lx]
        have es : om (i + 1) = om i ++ (if inN (.i j) 0 ((is.length : Nat) - 1) = true then [j] else []) := by
          show (js.take (i + 1)).filter _ = (js.take i).filter _ ++ _
          rw [List.take_succ, hji, List.filter_append]
          cases e : inN (.i j) 0 ((is.length : Nat) - 1) with
          | true => rw [if_pos rfl]; simp only [Option.toList_some, List.filter_cons, e, if_true, List.filter_nil]
          | false => rw [if_neg Bool.false_ne_true]; simp only [Option.toList_some, List.filter_cons, e, Bool.false_eq_true, if_false, List.filter_nil]
        have hol : (om i).length ≤ 1000 := Nat.le_trans (List.length_filter_le ..) (by rw [List.length_take]; omega)
        cases e : inN (.i j) 0 ((is.length : Nat) - 1) with
        | true =>
          rw [e, if_pos rfl] at es
          refine iteT' rfl ⟨_, rfl, _, h1, Nat.lt_of_le_of_lt (show _ ≤ 1000 by rw [List.length_map]; exact hol) (by decide), ?_, ?_⟩
          · rw [es, upd_same, List.map_append]
            rfl
          · intro c o hc
            rw [upd_ne (ne_of_none hc hD')]
            exact h2 c o hc
        | false =>
          rw [e, if_neg Bool.false_ne_true, List.append_nil] at es
          refine iteF' rfl ?_
          rw [es]
          exact ⟨h1, h2⟩
    · rintro H1 ⟨h1, h2⟩
      have e0 : js.take (js.map V.int).length = js := List.take_of_length_le (by rw [List.length_map]; exact Nat.le_refl _)
      have h1 : H1 D = some (.lst ((js.filter fun j => inN (.i j) 0 ((is.length : Nat) - 1)).map V.int)) := by
        have h1 : H1 D = some (.lst (((js.take (js.map V.int).length).filter fun j => inN (.i j) 0 ((is.length : Nat) - 1)).map V.int)) := h1
        rw [e0] at h1
        exact h1
      have s1 := h2
      refine ⟨_, rfl, a, CM, dx, _, .ref lt, rfl, s1 _ _ hp, T.cl, T.n4, mapFs_t .., lt, xs, rfl, Same.tup s1 hT, fun D2 hD2 => lc_it (walk_enumT (K := K) (a := lt) (xs := xs)) (fun i H' => (∃ acc, H' D2 = some (.lst acc) ∧ acc.length ≤ i ∧ DpAll K H1 acc ((keepF (js.filter fun j => inN (.i j) 0 ((is.length : Nat) - 1)) (is.take i) 0).map Ins.d)) ∧ Same H1 H')
        ⟨⟨[], upd_same, Nat.le_refl _, .nil⟩, Same.new (Same.refl H1) hD2⟩ (fun i H' _ q => Same.tup (s1.trans q.2) hT) ?_ ?_⟩
      · rintro i x H3 H4 hi ⟨⟨acc, g1, g2, g3⟩, g4⟩ ⟨T1, y, rfl, hT1, rfl, hy⟩
        have hy : xs[i]? = some y := hy
        have hi2 : i < is.length := by omega
        have hii : is[i]? = some is[i] := by simp [hi2]
        obtain ⟨u, hu, hdu⟩ := dpAll_at hD (i := i) (e := (is[i]).d) (by rw [List.getElem?_map, hii]; rfl)
        obtain rfl : y = u := by rw [hy] at hu; exact Option.some.inj hu
        have hdy := Same.dp s1 hdu
        have s3 : Same H3 (upd H3 T1 (.tup [.int (i : Nat), y])) := Same.new (Same.refl H3) hT1
        have et : is.take (i + 1) = is.take i ++ [is[i]] := by rw [List.take_succ, hii]; rfl
        have el : (is.take i).length = i := by rw [List.length_take]; omega
        refine ⟨T1, _, rfl, .inl (.inl upd_same), rfl, _, _, rfl, _, _, rfl, rfl, rfl, ?_⟩
        refine ⟨_, rfl, _, rfl, D, _, rfl, .inl (.inl (.inl (s3 _ _ (g4 _ _ h1)))), rfl, flat_ints _, _, rfl, ?_⟩
        show if (!inV (V.int ((i : Nat) : Int)) _) = true then _ else _
        rw [inV_ints]
        have ek := keepF_app (js.filter fun j => inN (.i j) 0 ((is.length : Nat) - 1)) (is.take i) is[i] 0
        rw [el, Nat.zero_add] at ek
        by_cases hm : ((i : Nat) : Int) ∈ js.filter fun j => inN (.i j) 0 ((is.length : Nat) - 1)
        · rw [if_pos hm, List.append_nil] at ek
          refine iteF' (by rw [decide_eq_true hm]; rfl) ?_
          exact ⟨⟨acc, s3 _ _ g1, by omega, by rw [et, ek]; exact g3⟩, g4.trans s3⟩
        · rw [if_neg hm] at ek
          refine iteT' (by rw [decide_eq_false hm]; rfl) ?_
          refine ⟨_, rfl, acc, s3 _ _ g1, Nat.lt_of_le_of_lt (show _ ≤ 20 by omega) (by decide), ⟨acc ++ [y], upd_same, by rw [List.length_append, List.length_singleton]; omega, ?_⟩, ?_⟩
          · rw [et, ek, List.map_append]
            exact dpAll_app g3 (.cons hdy .nil)
          · intro c o hc
            rw [upd_ne (ne_of_none hc hD2)]
            exact s3 _ _ (g4 c o hc)
      · rintro H3 ⟨⟨acc, g1, g2, g3⟩, g4⟩
        have e1 : is.take xs.length = is := List.take_of_length_le (by omega)
        rw [e1] at g3
        have ec : keepF (js.filter fun j => inN (.i j) 0 ((is.length : Nat) - 1)) is 0 = keepF js is 0 := keepF_congr is 0 fun n h1 h2 => by
          rw [List.mem_filter]
          constructor
          · exact fun h => h.1
          · intro h
            refine ⟨h, ?_⟩
            show (decide ((0 : Int) ≤ (n : Int)) && decide ((n : Int) ≤ (is.length : Int) - 1)) = true
            rw [decide_eq_true (by omega), decide_eq_true (by omega)]
            rfl
        rw [ec] at g3
        have s3 := s1.trans g4
        obtain ⟨k1, k2⟩ := keepF_sub js is 0
        refine ⟨_, rfl, a, dx, _, rfl, s3 _ _ hp, mapFs_no _ _ _ _ (by decide +kernel) (by decide +kernel) (by decide +kernel) (by decide +kernel), ?_⟩
        refine ⟨_, rfl, a, D2, rows, sg, fs, is, keepF js is 0, rfl, hM.same s3, hfl, ⟨acc, .inl (.inl (.inl g1)), Same.dpAll g4 g3⟩, ⟨by have := sm.len; omega, fun i hi => sm.all i (k1 i hi)⟩, fun _ x H' s4 hx h => k x H' (s3.trans s4) (Same.free s3 hx) h, fun m em => ?_⟩
        have e := mapBad_none.mpr ⟨m1, m2, fun x hx => m3 x (k1 x hx), show (keepF js is 0).length ≤ 20 by omega⟩
        rw [e] at em
        cases em
end
end Om

namespace Om
open PySem PySem.Spec PyProof.Rows L2
/-! ### charts side by side -/
def LoS (s : List Nat) : Prop := ∀ c ∈ s, c < 1000
def Ins.lo : Ins → Prop
  | .upto s => LoS s
  | .toward s => LoS s
  | .beside _ s => LoS s
  | .near s _ => LoS s
  | _ => True
theorem nm_lay (n : Nm) : n.d.canLay0 = true := by cases n <;> simp [Nm.d, PyData.canLay0]
theorem nms_lay : ∀ ns : List Nm, PyData.canLayAll0 (ns.map Nm.d) = true
  | [] => by simp [PyData.canLayAll0]
  | n :: r => by simp only [List.map_cons, PyData.canLayAll0, nm_lay, nms_lay r, Bool.and_self]
theorem nm_dep (n : Nm) : n.d.depth = 0 := by cases n <;> simp [Nm.d, PyData.depth]
theorem nms_dep : ∀ ns : List Nm, PyData.depthAll (ns.map Nm.d) = 0
  | [] => by simp [PyData.depthAll]
  | n :: r => by simp [PyData.depthAll, nm_dep, nms_dep r]
theorem dt_lay {s : List Nat} (h : LoS s) : (dt s).canLay0 = true := by
  simp only [dt, PyData.canLay0]
  exact strOk_tx h
theorem dt_dep (s : List Nat) : (dt s).depth = 0 := by simp [dt, PyData.depth]
theorem word_ok (i : Ins) : PyData.strOk i.word = true := by cases i <;> (show PyData.strOk (Str.ofString _) = true; decide +kernel)
theorem ins_lay {i : Ins} (h : i.lo) : i.d.canLay0 = true := by
  have w := word_ok i
  cases i <;> simp only [Ins.d, Ins.parts, PyData.canLay0, PyData.canLayAll0, w, nm_lay, nms_lay, Bool.and_self] <;> first | rfl | (rw [dt_lay h] <;> rfl)
theorem ins_dep (i : Ins) : i.d.depth ≤ 2 := by
  cases i <;> simp [Ins.d, Ins.parts, PyData.depth, PyData.depthAll, nm_dep, nms_dep, dt_dep]
theorem inss_lay : ∀ {is : List Ins}, (∀ i ∈ is, i.lo) → PyData.canLayAll0 (is.map Ins.d) = true
  | [], _ => by simp [PyData.canLayAll0]
  | i :: r, h => by simp only [List.map_cons, PyData.canLayAll0, ins_lay (h i (List.mem_cons_self ..)), inss_lay (is := r) fun j hj => h j (List.mem_cons_of_mem _ hj), Bool.and_self]
theorem inss_dep : ∀ is : List Ins, PyData.depthAll (is.map Ins.d) ≤ 2
  | [] => by simp [PyData.depthAll]
  | i :: r => by
    have h1 := ins_dep i
    have h2 := inss_dep r
    simp only [List.map_cons, PyData.depthAll]
    omega
theorem sh_nms (ns : List Nm) : SeqAt.shaped (.tuple (ns.map Nm.d)) = true := shaped_of (by simp only [PyData.canLay0]; exact nms_lay ns) (by simp only [PyData.depth, nms_dep]; omega)
theorem sh_inss {is : List Ins} (h : ∀ i ∈ is, i.lo) : SeqAt.shaped (.tuple (is.map Ins.d)) = true := shaped_of (by simp only [PyData.canLay0]; exact inss_lay h) (by have := inss_dep is; simp only [PyData.depth]; omega)
def eqM (r1 r2 : List (List Nat)) (s1 s2 : List Nat) (f1 f2 : List Nm) (i1 i2 : List Ins) : Bool := decide (r1 = r2) && (decide (s1 = s2) && (PyData.eqv (.tuple (f1.map Nm.d)) (.tuple (f2.map Nm.d)) && PyData.eqv (.tuple (i1.map Ins.d)) (.tuple (i2.map Ins.d))))
theorem eqM_refl {r : List (List Nat)} {s : List Nat} {f : List Nm} {i : List Ins} (h : ∀ x ∈ i, x.lo) : eqM r r s s f f i i = true := by
  unfold eqM
  rw [PySem.SeqAt.eqv_refl _ (by simp only [PyData.canLay0]; exact nms_lay f), PySem.SeqAt.eqv_refl _ (by simp only [PyData.canLay0]; exact inss_lay h), decide_eq_true rfl, decide_eq_true rfl]
  rfl
def spMEq (K : PySem.W.Frag) (CM CI : Addr) : Sp := fun vs H Q _ => ∃ (a b : Addr) (r1 r2 : List (List Nat)) (s1 s2 : List Nat) (f1 f2 : List Nm) (i1 i2 : List Ins), vs = [.ref a, .ref b] ∧ Mp K CM CI H a r1 s1 f1 i1 ∧ Mp K CM CI H b r2 s2 f2 i2 ∧ Lo r1 ∧ Lo r2 ∧ (∀ i ∈ i1, i.lo) ∧ (∀ i ∈ i2, i.lo) ∧ Q (.bl (eqM r1 r2 s1 s2 f1 f2 i1 i2)) H
section
variable {P : Program} {w : World} {K : PySem.W.Frag} {mg : Str → Option Value} {base : Heap} {CM CI CB fM fN gQ : Addr}
theorem scMEq : FnScope ["self", "other"] ["self", "other"] (defScope (sMapM 13)) := ⟨rfl, rfl, rfl, by decide +kernel, rfl, by decide +kernel, by decide +kernel⟩
theorem ok_meq {f : Addr} {fd fdQ : FuncData} (F : FnP K "__eq__" "Map.__eq__" (sMapM 13) f fd) (T : MapF K mg CM fM) (N : InsF K CM) (mQ : OwnM K CI "__eq__" gQ) (GQ : FnOk P w K mg base CX0 1 gQ fdQ ["self", "other"] (spIEq K CI)) (bQ : Binds K fdQ ["self", "other"] []) (gisi : mg "isinstance" = none) :
    FnOk P w K mg base CX0 2 f fd ["self", "other"] (spMEq K CM CI) := by
  refine F.ok scMEq (fun vs H Q E h => ?_) (fun cdv A outer s H vs Q E hr h => ?_)
  · obtain ⟨a, b, r1, r2, s1, s2, f1, f2, i1, i2, rfl, _⟩ := h
    rfl
  · obtain ⟨a, b, r1, r2, s1, s2, f1, f2, i1, i2, rfl, ⟨dx, li, lf, lt, xs, hp, hI, hF, hT, hD⟩, ⟨dy, mi, mf, mt, ys, hq, hI2, hF2, hT2, hD2⟩, l1, l2, o1, o2, k⟩ := h
    refine ⟨_, PSs.nox (pss_one (ps_ret (pe_and (pe_callB call_isi (by rfl) gisi (by decide +kernel) (pa_cons (pv 1) (pa_cons (pe_glob (v := .ref CM) rfl T.gM rfl) pa_nil)))
      (pe_and (pe_cmpR (op_eqOwn (E := E0) mQ GQ hr bQ pass0) (pe_fld (pv 0) rfl) (pe_fld (pv 1) rfl) (nomark _))
      (pe_and (pe_cmpR op_eq (pe_fld (pv 0) rfl) (pe_fld (pv 1) rfl) (nomark _))
      (pe_and (pe_cmpR (op_eqD hr.units) (pe_fld (pv 0) rfl) (pe_fld (pv 1) rfl) (nomark _))
      (pe_one (pe_cmpR (op_eqD hr.units) (pe_fld (pv 0) rfl) (pe_fld (pv 1) rfl) (nomark _))))))))), ?_⟩
    refine ⟨_, rfl, _, _, _, _, _, rfl, .own CM, .base (.ins hq T.cl N.ha N.hn N.ht N.hm), kit_self, true, rfl, iteT ?_⟩
    refine ⟨_, rfl, a, CM, dx, _, .ref li, rfl, hp, T.cl, T.n1, mapFs_i .., _, rfl, b, CM, dy, _, .ref mi, rfl, hq, T.cl, T.n1, mapFs_i .., ?_⟩
    obtain ⟨d1, p1, q1, t1⟩ := id hI
    obtain ⟨d2, p2, q2, t2⟩ := id hI2
    refine ⟨li, d1, _, mi, d2, _, rfl, q1, rfl, q2, li, mi, r1, r2, rfl, hI, hI2, l1, l2, _, rfl, _, rfl, ?_⟩
    unfold eqM at k
    cases e1 : decide (r1 = r2) with
    | false =>
      rw [e1] at k
      exact iteF k
    | true =>
      rw [e1] at k
      refine iteT ?_
      refine ⟨_, rfl, a, CM, dx, _, .str (tx s1), rfl, hp, T.cl, T.n2, mapFs_s .., _, rfl, b, CM, dy, _, .str (tx s2), rfl, hq, T.cl, T.n2, mapFs_s .., rfl, _, rfl, ?_⟩
      have es : decide (V.str (tx s1) = V.str (tx s2)) = decide (s1 = s2) := decide_eq_decide.mpr ⟨fun h => tx_inj (V.str.inj h), fun h => by rw [h]⟩
      rw [es]
      cases e2 : decide (s1 = s2) with
      | false =>
        rw [e2] at k
        exact iteF k
      | true =>
        rw [e2] at k
        refine iteT ?_
        refine ⟨_, rfl, a, CM, dx, _, .ref lf, rfl, hp, T.cl, T.n3, mapFs_f .., _, rfl, b, CM, dy, _, .ref mf, rfl, hq, T.cl, T.n3, mapFs_f .., ?_⟩
        refine ⟨_, _, .tup hF (nms_dp f1), .tup hF2 (nms_dp f2), sh_nms f1, sh_nms f2, _, rfl, ?_⟩
        cases e3 : PyData.eqv (.tuple (f1.map Nm.d)) (.tuple (f2.map Nm.d)) with
        | false =>
          rw [e3] at k
          exact iteF k
        | true =>
          rw [e3] at k
          refine iteT ?_
          refine ⟨_, rfl, a, CM, dx, _, .ref lt, rfl, hp, T.cl, T.n4, mapFs_t .., _, rfl, b, CM, dy, _, .ref mt, rfl, hq, T.cl, T.n4, mapFs_t .., ?_⟩
          exact ⟨_, _, .tup hT hD, .tup hT2 hD2, sh_inss o1, sh_inss o2, k⟩
end
end Om

namespace Om
open PySem PySem.Spec PyProof.Rows L2
/-! ### a sorted text is told -/
theorem eq_of_perm_le : ∀ (l1 l2 : List Nat), l1.Perm l2 → l1.Pairwise (· ≤ ·) → l2.Pairwise (· ≤ ·) → l1 = l2
  | [], l2, h, _, _ => (List.Perm.nil_eq h)
  | a :: r1, [], h, _, _ => absurd h.length_eq (by simp)
  | a :: r1, b :: r2, h, p1, p2 => by
    obtain ⟨q1, q1'⟩ := List.pairwise_cons.mp p1
    obtain ⟨q2, q2'⟩ := List.pairwise_cons.mp p2
    have ha : a ∈ b :: r2 := h.mem_iff.mp (List.mem_cons_self ..)
    have hb : b ∈ a :: r1 := h.mem_iff.mpr (List.mem_cons_self ..)
    have e : a = b := by
      rcases List.mem_cons.mp ha with h1 | h1
      · exact h1
      · rcases List.mem_cons.mp hb with h2 | h2
        · exact h2.symm
        · have := q1 b h2
          have := q2 a h1
          omega
    subst e
    rw [eq_of_perm_le r1 r2 (List.Perm.cons_inv h) q1' q2']
theorem rising_pw : ∀ (l : List Nat) (p : Nat), risingS (tx [p]) (l.map fun c => tx [c]) = true → (p :: l).Pairwise (· ≤ ·)
  | [], p, _ => by simp
  | x :: r, p, h => by
    have h : (!ltCps (tx [x]).cps.toList (tx [p]).cps.toList && risingS (tx [x]) (r.map fun c => tx [c])) = true := h
    obtain ⟨h1, h2⟩ := Bool.and_eq_true_iff.mp h
    have ih := rising_pw r x h2
    rw [tx_cps, tx_cps] at h1
    have hle : p ≤ x := by
      by_cases hlt : x < p
      · have e : ltCps [x] [p] = true := by
          unfold ltCps
          simp [hlt]
        rw [e] at h1
        cases h1
      · omega
    refine List.pairwise_cons.mpr ⟨fun y hy => ?_, ih⟩
    rcases List.mem_cons.mp hy with rfl | hy
    · exact hle
    · exact Nat.le_trans hle ((List.pairwise_cons.mp ih).1 y hy)
theorem sorted_exact {ss : List Str} {cs : List Nat} (h1 : ss.Perm (cs.map fun c => (⟨#[c]⟩ : Str))) (h2 : sortedS ss = true) (h3 : cs.Pairwise (· ≤ ·)) : ss = cs.map fun c => tx [c] := by
  have e0 : (fun c : Nat => (⟨#[c]⟩ : Str)) = fun c => tx [c] := rfl
  rw [e0] at h1
  have hm : ∀ y ∈ ss, ∃ c, y = tx [c] := fun y hy => by
    obtain ⟨c, _, e⟩ := List.mem_map.mp (h1.mem_iff.mp hy)
    exact ⟨c, e.symm⟩
  let hd : Str → Nat := fun y => y.cps.toList.headD 0
  have e1 : ss = (ss.map hd).map fun c => tx [c] := by
    rw [List.map_map]
    have : ∀ l : List Str, (∀ y ∈ l, ∃ c, y = tx [c]) → l = l.map ((fun c => tx [c]) ∘ hd) := by
      intro l
      induction l with
      | nil => intro _; rfl
      | cons y r ih =>
        intro h
        obtain ⟨c, rfl⟩ := h y (List.mem_cons_self ..)
        rw [List.map_cons, ← ih fun z hz => h z (List.mem_cons_of_mem _ hz)]
        rfl
    exact this ss hm
  have p1 : (ss.map hd).Perm cs := by
    have q := h1.map hd
    rw [List.map_map] at q
    have e2 : (hd ∘ fun c => tx [c]) = id := by
      funext c
      rfl
    rw [e2, List.map_id] at q
    exact q
  have p2 : (ss.map hd).Pairwise (· ≤ ·) := by
    rw [e1] at h2
    cases hq : ss.map hd with
    | nil => exact .nil
    | cons a r =>
      rw [hq] at h2
      exact rising_pw r a h2
  rw [e1, eq_of_perm_le _ _ p1 p2 h3]
def rSortTx : List V → Hp → VK → Prop := fun xs H Q => ∃ cs : List Nat, xs = [.str (tx cs)] ∧ cs.length < 64 ∧ cs.Pairwise (· ≤ ·) ∧ ∀ p, H p = none → Q (.ref p) (upd H p (.lst (cs.map fun c => vt [c])))
theorem cr_sortTx {X : Cx} (hc : X.calm = true) : CallR X (.builtin "sorted") rSortTx := by
  intro pins s σ H xs us Q I r h
  obtain ⟨cs, rfl, h64, hp, q⟩ := h
  obtain ⟨u, rfl, rx⟩ := vals1 r
  obtain ⟨t, rfl⟩ := rx
  have hsz : (tx cs).cps.size = cs.length := by rw [← Array.length_toList, tx_cps]
  refine sorted_text (I.ok.hd hc) (by rw [hsz]; exact h64) fun s' p out c ss k g o hg hn hS pm so => ?_
  rw [tx_cps] at pm
  have e := sorted_exact pm so hp
  subst e
  have hn2 : H p = none := HOk.gone I.hok hn
  have hlen : (cs.map fun c => vt [c]).length ≤ sizeLine := by rw [List.length_map, sizeLine_eq]; omega
  have hv : Vals (cs.map fun c => vt [c]) out.toList := by
    have z := vals_of_strs hS
    rw [List.map_map] at z
    exact z
  have J : Inv X pins σ (upd H p (.lst (cs.map fun c => vt [c]))) { s with heap := s'.heap, gens := s'.gens, drawn := s'.drawn, toks := s'.toks } :=
    I.call (ch := []) (Un.laidN k hn hn2) (I.hok.laidN k hn2 ⟨hlen, out.toList, c, hv, hg⟩) (by rw [g]; exact I.bare) (fun _ z => nomatch z)
  have es : s' = { s with heap := s'.heap, gens := s'.gens, drawn := s'.drawn, toks := s'.toks } := by
    cases s'
    cases s
    cases o
    rfl
  rw [es]
  exact ⟨.ref p, _, J, rfl, q p hn2⟩
end Om

namespace Om
open PySem PySem.Spec PyProof.Rows L2
/-! ### _law_signs -/
abbrev sSigns : Stmt := top 38
def spSigns : Sp := fun vs H Q _ => ∃ (b l : Addr) (cs : List Nat), vs = [.ref b, .str (tx cs)] ∧ Box H b l ∧ cs.Pairwise (· < ·) ∧ cs ≠ [] ∧ cs.length ≤ 60 ∧ (∀ c ∈ cs, c < 1000) ∧
  ∀ (t : List Nat) (H' : Hp), t ≠ [] → t.Sublist cs → Box H' b l → Kp b l H H' → Q (vt t) H'
theorem dpAll_cs {K : PySem.W.Frag} {H : Hp} : ∀ cs : List Nat, DpAll K H (cs.map fun c => vt [c]) (cs.map fun c => dt [c])
  | [] => .nil
  | c :: r => .cons (.str _) (dpAll_cs r)
theorem cs_lay : ∀ {cs : List Nat}, (∀ c ∈ cs, c < 1000) → PyData.canLayAll0 (cs.map fun c => dt [c]) = true
  | [], _ => by simp [PyData.canLayAll0]
  | c :: r, h => by
    have h1 : (dt [c]).canLay0 = true := dt_lay fun x hx => by rw [List.mem_singleton.mp hx]; exact h c (List.mem_cons_self ..)
    simp only [List.map_cons, PyData.canLayAll0, h1, cs_lay (cs := r) fun x hx => h x (List.mem_cons_of_mem _ hx), Bool.and_self]
theorem cs_dep : ∀ cs : List Nat, PyData.depthAll (cs.map fun c => dt [c]) = 0
  | [] => by simp [PyData.depthAll]
  | c :: r => by simp [PyData.depthAll, dt_dep, cs_dep r]
theorem sh_cs {cs : List Nat} (h : ∀ c ∈ cs, c < 1000) : SeqAt.shaped (.list (cs.map fun c => dt [c])) = true := shaped_of (by simp only [PyData.canLay0]; exact cs_lay h) (by simp only [PyData.depth, cs_dep]; omega)
theorem sh_lnil : SeqAt.shaped (.list []) = true := shaped_of (by simp [PyData.canLay0, PyData.canLayAll0]) (by simp [PyData.depth, PyData.depthAll])
theorem eqv_lnil {α : Type} (f : α → PyData) (cs : List α) : PyData.eqv (.list (cs.map f)) (.list []) = cs.isEmpty := by
  cases cs <;> simp [PyData.eqv, PyData.eqvAll]
section
variable {P : Program} {w : World} {K : PySem.W.Frag} {mg : Str → Option Value} {base : Heap}
abbrev nSigns : List Str := ["_law_box", "_law_known", "_law_found", "_law_sign"]
theorem scSigns : FnScope nSigns ["_law_box", "_law_known"] (defScope sSigns) := ⟨rfl, rfl, rfl, by decide +kernel, rfl, by decide +kernel, by decide +kernel⟩
def signsLc : Expr := asgExpr ((defBody sSigns).getD 0 (.Pass ⟨0, 0, 0, 0⟩))
theorem blkSigns : BlkOk nSigns (defScope sSigns) (lcScope signsLc) [("_law_sign", 3)] := blkOk_by (by decide +kernel)
theorem ok_signs {f : Addr} {fd : FuncData} (F : FnP K "_law_signs" "_law_signs" sSigns f fd) (T : Cal P w K mg base CX0 1 "_law_take" ["_law_box", "_law_many"] spTake) (gsorted : mg "sorted" = none) (glen : mg "len" = none) :
    FnOk P w K mg base CX0 2 f fd ["_law_box", "_law_known"] spSigns := by
  refine F.ok scSigns (fun vs H Q E h => ?_) (fun cdv A outer s H vs Q E hr h => ?_)
  · obtain ⟨b, l, cs, rfl, _⟩ := h
    rfl
  · obtain ⟨b, l, cs, rfl, B, hpw, hne, hl, hlo, k⟩ := h
    have nd := scSigns.nd
    have hle : cs.Pairwise (· ≤ ·) := hpw.imp fun h => Nat.le_of_lt h
    refine ⟨_, PSs.nox (pss_cons (ps_setLc (i := 2) (own := [("_law_sign", 3)]) (g := gName 3) rfl nd rfl rfl (sw_true rfl rfl rfl (by decide +kernel)) (pi_list (pe_callB (cr_sortTx rfl) (by rfl) gsorted (by decide +kernel) (pa_cons (pv 1) pa_nil))) blkSigns
          (fun _ _ _ _ _ => pg_name (i := 3) nd rfl (.inl rfl)) (fun _ _ _ _ _ => pts_one (pt_cmpR op_eq (pe_cal T hr pass0 (pa_cons (pv 0) (pa_cons pe_int pa_nil))) pe_int (nomark _))) (fun _ _ _ _ _ => pv 3))
      (pss_one (ps_ret (pe_ifExp (pt_cmpR (op_neD hr.units) (pv 2) (pe_lst pa_nil) (nomark _)) (pe_joinK pe_str (pv 2))
        (pe_ix ix_list (pe_callB (cr_sortTx rfl) (by rfl) gsorted (by decide +kernel) (pa_cons (pv 1) pa_nil)) (pe_cal T hr pass0 (pa_cons (pv 0) (pa_cons (pe_callB call_len_str (by rfl) glen PySem.boot_len (pa_cons (pv 1) pa_nil)) pa_nil))) (fun _ _ => rfl)))))), ?_⟩
    refine ⟨_, rfl, cs, rfl, by omega, hle, fun u hu => ⟨u, rfl, ⟨_, .inl (.inl upd_same)⟩, fun D hD => ?_⟩⟩
    have s1 := Same.new (Same.refl H) hu (o := .lst (cs.map fun c => vt [c]))
    have B1 := B.same s1
    have hU := (upd_same (H := H) (a := u) (o := .lst (cs.map fun c => vt [c])))
    generalize (upd H u (.lst (cs.map fun c => vt [c]))) = H1 at s1 B1 hU hD ⊢
    have bx : ∀ {c : Addr} {o : HO}, H1 c = none → Box H1 b l → c ≠ b ∧ c ≠ l := fun {c o} hc B => by
      obtain ⟨_, _, x1, x2, _⟩ := B.ex
      exact ⟨(fun e => by rw [← e, hc] at x1; cases x1), (fun e => by rw [← e, hc] at x2; cases x2)⟩
    have ub : u ≠ b ∧ u ≠ l := by
      obtain ⟨_, _, x1, x2, _⟩ := B.ex
      exact ⟨(fun e => by rw [← e, hu] at x1; cases x1), (fun e => by rw [← e, hu] at x2; cases x2)⟩
    obtain ⟨Db, Dl⟩ := bx (o := .tup []) hD B1
    have uD : u ≠ D := fun e => by rw [e, hD] at hU; cases hU
    refine lc_list (K := K) (a := u) (xs := cs.map fun c => vt [c]) (fun i H' => ∃ fs : List Nat, fs.Sublist (cs.take i) ∧ H' D = some (.lst (fs.map fun c => vt [c])) ∧ H' u = some (.lst (cs.map fun c => vt [c])) ∧ Box H' b l ∧ Kp b l H1 H')
      ⟨[], List.nil_sublist _, upd_same, by rw [upd_ne uD]; exact hU, B1.same (Same.new (Same.refl _) hD), Kp.of (Same.new (Same.refl _) hD)⟩ (fun i H' _ q => by obtain ⟨_, _, _, q, _⟩ := q; exact .inl (.inl q)) ?_ ?_
    · rintro i x H2 hx ⟨fs, q1, q2, q3, q4, q5⟩
      rw [List.getElem?_map] at hx
      cases hci : cs[i]? with
      | none => rw [hci] at hx; cases hx
      | some c =>
        rw [hci] at hx
        obtain rfl : vt [c] = x := Option.some.inj hx
        have et : cs.take (i + 1) = cs.take i ++ [c] := by rw [List.take_succ, hci]; rfl
        refine ⟨rfl, ?_⟩
        refine ⟨_, rfl, b, l, 3, rfl, q4, by decide, by decide, fun n H3 a1 a2 B3 K3 => ⟨rfl, _, rfl, ?_⟩⟩
        have r2 := K3 D _ q2 Db Dl
        have r3 := K3 u _ q3 ub.1 ub.2
        refine ite2 (fun hz => ?_) (fun hz => ?_)
        · have hfl : fs.length ≤ 60 := Nat.le_trans q1.length_le (by rw [List.length_take]; omega)
          refine ⟨_, rfl, _, r2, Nat.lt_of_le_of_lt (show _ ≤ 60 by rw [List.length_map]; exact hfl) (by decide), fs ++ [c], ?_, ?_, ?_, ?_, ?_⟩
          · rw [et]; exact q1.append (List.Sublist.refl _)
          · rw [upd_same, List.map_append]; rfl
          · rw [upd_ne uD]; exact r3
          · obtain ⟨u1, u2, u3, u4, u5⟩ := B3.ex
            exact ⟨u1, u2, by rw [upd_ne Db.symm]; exact u3, by rw [upd_ne Dl.symm]; exact u4, u5⟩
          · intro x o hx n1 n2
            rw [upd_ne (ne_of_none hx hD)]
            exact K3 x o (q5 x o hx n1 n2) n1 n2
        · exact ⟨fs, by rw [et]; exact q1.trans (List.sublist_append_left _ _), r2, r3, B3, q5.trans K3⟩
    · rintro H2 ⟨fs, q1, q2, q3, q4, q5⟩
      have e0 : cs.take (cs.map fun c => vt [c]).length = cs := List.take_of_length_le (by rw [List.length_map]; exact Nat.le_refl _)
      rw [e0] at q1
      have kk : Kp b l H H2 := (Kp.of s1).trans q5
      have hfl : fs.length ≤ 60 := Nat.le_trans q1.length_le hl
      refine ⟨_, rfl, by show 0 ≤ sizeLine; decide, fun e he => ?_⟩
      have s2 := Same.new (Same.refl H2) he (o := .lst [])
      refine ⟨_, _, .lst (.inl (.inl (s2 _ _ q2))) (dpAll_cs fs), .lst (.inl (.inl upd_same)) .nil, sh_cs fun c hc => hlo c (q1.subset hc), sh_lnil, _, rfl, ?_⟩
      rw [eqv_lnil]
      cases fs with
      | nil =>
        refine iteF' rfl ?_
        refine ⟨_, rfl, cs, rfl, by omega, hle, fun v hv => ?_⟩
        have s3 := s2.trans (Same.new (Same.refl _) hv (o := .lst (cs.map fun c => vt [c])))
        have B3 := q4.same s3
        have hl1 : 1 ≤ cs.length := by
          cases cs with
          | nil => exact absurd rfl hne
          | cons c r => simp
        have hV := (upd_same (H := upd H2 e (.lst [])) (a := v) (o := .lst (cs.map fun c => vt [c])))
        have vb : v ≠ b ∧ v ≠ l := by
          obtain ⟨_, _, x1, x2, _⟩ := (q4.same s2).ex
          exact ⟨(fun z => by rw [← z, hv] at x1; cases x1), (fun z => by rw [← z, hv] at x2; cases x2)⟩
        refine ⟨_, rfl, _, rfl, _, rfl, (by rw [tx_len]; exact small_le (by omega)), b, l, _, rfl, B3, (by rw [tx_len]; omega), (by rw [tx_len]; omega), fun n H4 a1 a2 B4 K4 => ?_⟩
        rw [tx_len] at a2
        have hn : n.toNat < cs.length := by omega
        obtain ⟨c, hc⟩ : ∃ c, cs[n.toNat]? = some c := ⟨cs[n.toNat], by simp [hn]⟩
        have hcm : c ∈ cs := List.mem_of_getElem? hc
        have hat : atI (cs.map fun c => vt [c]) n = some (vt [c]) := by
          have z := atI_nat (xs := cs.map fun c => vt [c]) (j := n.toNat) (v := vt [c]) (by rw [List.getElem?_map, hc]; rfl)
          rwa [Int.toNat_of_nonneg a1] at z
        refine ⟨v, _, n, _, rfl, rfl, .inl (.inl (K4 v _ hV vb.1 vb.2)), hat, ?_⟩
        exact k [c] H4 (by simp) (List.singleton_sublist.mpr hcm) B4 (kk.trans ((Kp.of s3).trans K4))
      | cons c r =>
        refine iteT' rfl ?_
        refine ⟨⟨_, rfl⟩, _, rfl, _, D, (c :: r).map fun c => tx [c], rfl, rfl, .inl (.inl (.inl (by rw [List.map_map]; exact s2 _ _ q2))), ?_, ?_⟩
        · rw [empty_tx]
          have e5 : ∀ l : List Nat, ((l.map fun c => tx [c]).map (·.length)).sum = l.length := by
            intro l
            induction l with
            | nil => rfl
            | cons a r ih => simp only [List.map_cons, List.sum_cons, ih, tx_len, List.length_cons, List.length_nil]; omega
          rw [e5, List.length_map]
          show _ + _ * 0 ≤ _
          omega
        · rw [empty_tx, TL.join_eq, join_tx]
          exact k (c :: r) _ (by simp) q1 (q4.same s2) (kk.trans (Kp.of s2))
end
end Om

namespace Om
open PySem PySem.Spec PyProof.Rows L2
/-! ### _law_turns -/
abbrev sTurns : Stmt := top 39
def nm (n : Nat) : Nm := .i ((n : Nat) : Int)
theorem upN_of : ∀ ms : List Nat, ms.Pairwise (· < ·) → upN (ms.map nm) = true
  | [], _ => rfl
  | [_], _ => rfl
  | a :: b :: r, h => by
    obtain ⟨h1, h2⟩ := List.pairwise_cons.mp h
    have ih := upN_of (b :: r) h2
    have hab := h1 b (List.mem_cons_self ..)
    show (decide ((a : Int) < (b : Int)) && upN ((b :: r).map nm)) = true
    rw [ih, decide_eq_true (by omega)]
    rfl
theorem ascN_of {ms : List Nat} (hne : ms ≠ []) (hp : ms.Pairwise (· < ·)) (h4 : ∀ m ∈ ms, m < 4) : ascN (ms.map nm) 0 3 = true := by
  unfold ascN
  have e1 : (ms.map nm).isEmpty = false := by
    cases ms with
    | nil => exact absurd rfl hne
    | cons a r => rfl
  have e2 : (ms.map nm).all (fun n => inN n 0 3) = true := by
    rw [List.all_map]
    refine List.all_eq_true.mpr fun m hm => ?_
    have := h4 m hm
    show (decide ((0 : Int) ≤ (m : Int)) && decide ((m : Int) ≤ 3)) = true
    rw [decide_eq_true (by omega), decide_eq_true (by omega)]
    rfl
  rw [e1, e2, upN_of ms hp]
  rfl
def spTurns : Sp := fun vs H Q _ => ∃ (b l : Addr), vs = [.ref b] ∧ Box H b l ∧ ∀ (ns : List Nm) (p : Addr) (H' : Hp), ascN ns 0 3 = true → ns.length ≤ 4 → H' p = some (.tup (ns.map Nm.v)) → Box H' b l → Kp b l H H' → Q (.ref p) H'
section
variable {P : Program} {w : World} {K : PySem.W.Frag} {mg : Str → Option Value} {base : Heap}
abbrev nTurns : List Str := ["_law_box", "_law_found", "_law_turn"]
theorem scTurns : FnScope nTurns ["_law_box"] (defScope sTurns) := ⟨rfl, rfl, rfl, by decide +kernel, rfl, by decide +kernel, by decide +kernel⟩
def turnsLc : Expr := asgExpr ((defBody sTurns).getD 0 (.Pass ⟨0, 0, 0, 0⟩))
theorem blkTurns : BlkOk nTurns (defScope sTurns) (lcScope turnsLc) [("_law_turn", 2)] := blkOk_by (by decide +kernel)
theorem dpAll_nats {K : PySem.W.Frag} {H : Hp} : ∀ ms : List Nat, DpAll K H (ms.map fun n => (nm n).v) (ms.map fun n => (nm n).d)
  | [] => .nil
  | c :: r => .cons (.int _) (dpAll_nats r)
theorem sh_nats (ms : List Nat) : SeqAt.shaped (.list (ms.map fun n => (nm n).d)) = true := by
  have e : (ms.map fun n => (nm n).d) = (ms.map nm).map Nm.d := by rw [List.map_map]; rfl
  rw [e]
  exact shaped_of (by simp only [PyData.canLay0]; exact nms_lay _) (by simp only [PyData.depth, nms_dep]; omega)
theorem ok_turns {f : Addr} {fd : FuncData} (F : FnP K "_law_turns" "_law_turns" sTurns f fd) (T : Cal P w K mg base CX0 1 "_law_take" ["_law_box", "_law_many"] spTake) (grange : mg "range" = none) (gtuple : mg "tuple" = none) :
    FnOk P w K mg base CX0 2 f fd ["_law_box"] spTurns := by
  refine F.ok scTurns (fun vs H Q E h => ?_) (fun cdv A outer s H vs Q E hr h => ?_)
  · obtain ⟨b, l, rfl, _⟩ := h
    rfl
  · obtain ⟨b, l, rfl, B, k⟩ := h
    have nd := scTurns.nd
    refine ⟨_, PSs.nox (pss_cons (ps_setLc (i := 1) (own := [("_law_turn", 2)]) (g := gName 2) rfl nd rfl rfl (sw_true rfl rfl rfl (by decide +kernel)) (pi_range1 rfl grange (pa_cons pe_int pa_nil)) blkTurns
          (fun _ _ _ _ _ => pg_name (i := 2) nd rfl (.inl rfl)) (fun _ _ _ _ _ => pts_one (pt_cmpR op_eq (pe_cal T hr pass0 (pa_cons (pv 0) (pa_cons pe_int pa_nil))) pe_int (nomark _))) (fun _ _ _ _ _ => pv 2))
      (pss_one (ps_ret (pe_ifExp (pt_cmpR (op_neD hr.units) (pv 1) (pe_lst pa_nil) (nomark _)) (pe_callTy call_tuple_of (by rfl) gtuple (by decide +kernel) (pa_cons (pv 1) pa_nil))
        (pe_tup (pa_cons (pe_cal T hr pass0 (pa_cons (pv 0) (pa_cons pe_int pa_nil))) pa_nil)))))), ?_⟩
    refine ⟨4, rfl, by decide, by decide, fun D hD => ?_⟩
    have bx : D ≠ b ∧ D ≠ l := by
      obtain ⟨_, _, x1, x2, _⟩ := B.ex
      exact ⟨(fun e => by rw [← e, hD] at x1; cases x1), (fun e => by rw [← e, hD] at x2; cases x2)⟩
    refine lc_range (lo := 0) (n := (4 : Int).toNat) (fun i H' => ∃ ms : List Nat, ms.Sublist (List.range i) ∧ H' D = some (.lst (ms.map fun n => (nm n).v)) ∧ Box H' b l ∧ Kp b l H H')
      ⟨[], List.nil_sublist _, upd_same, B.same (Same.new (Same.refl _) hD), Kp.of (Same.new (Same.refl _) hD)⟩ ?_ ?_
    · rintro i H2 hi ⟨ms, q1, q2, q4, q5⟩
      refine ⟨rfl, ?_⟩
      refine ⟨_, rfl, b, l, 3, rfl, q4, by decide, by decide, fun n H3 a1 a2 B3 K3 => ⟨rfl, _, rfl, ?_⟩⟩
      have r2 := K3 D _ q2 bx.1 bx.2
      refine ite2 (fun hz => ?_) (fun hz => ?_)
      · have hfl : ms.length ≤ 4 := Nat.le_trans q1.length_le (by rw [List.length_range]; have : (4 : Int).toNat = 4 := rfl; omega)
        refine ⟨_, rfl, _, r2, Nat.lt_of_le_of_lt (show _ ≤ 60 by rw [List.length_map]; omega) (by decide), ms ++ [i], ?_, ?_, ?_, ?_⟩
        · rw [List.range_succ]; exact q1.append (List.Sublist.refl _)
        · rw [upd_same, List.map_append]
          show some (HO.lst (_ ++ [V.int (0 + ((i : Nat) : Int))])) = _
          rw [Int.zero_add]
          rfl
        · obtain ⟨u1, u2, u3, u4, u5⟩ := B3.ex
          exact ⟨u1, u2, by rw [upd_ne bx.1.symm]; exact u3, by rw [upd_ne bx.2.symm]; exact u4, u5⟩
        · intro x o hx n1 n2
          rw [upd_ne (ne_of_none hx hD)]
          exact K3 x o (q5 x o hx n1 n2) n1 n2
      · exact ⟨ms, by rw [List.range_succ]; exact q1.trans (List.sublist_append_left _ _), r2, B3, q5.trans K3⟩
    · rintro H2 ⟨ms, q1, q2, q4, q5⟩
      have q1 : ms.Sublist (List.range 4) := q1
      have hfl : ms.length ≤ 4 := by have := q1.length_le; rwa [List.length_range] at this
      refine ⟨_, rfl, by show 0 ≤ sizeLine; decide, fun e he => ?_⟩
      have s2 := Same.new (Same.refl H2) he (o := .lst [])
      refine ⟨_, _, .lst (.inl (.inl (s2 _ _ q2))) (dpAll_nats ms), .lst (.inl (.inl upd_same)) .nil, sh_nats ms, sh_lnil, _, rfl, ?_⟩
      rw [eqv_lnil]
      cases ms with
      | nil =>
        refine iteF' rfl ?_
        refine ⟨_, rfl, b, l, 4, rfl, q4.same s2, by decide, by decide, fun n H4 a1 a2 B4 K4 => ⟨by show 1 ≤ sizeLine; decide, fun p hp => ?_⟩⟩
        have s5 := Same.new (Same.refl H4) hp (o := .tup [.int n])
        have en : V.int n = (nm n.toNat).v := by
          show V.int n = V.int ((n.toNat : Nat) : Int)
          rw [Int.toNat_of_nonneg a1]
        refine k [nm n.toNat] p _ (ascN_of (ms := [n.toNat]) (by simp) (by simp) (by intro m hm; rw [List.mem_singleton.mp hm]; omega)) (by simp) ?_ (B4.same s5) (q5.trans ((Kp.of s2).trans (K4.trans (Kp.of s5))))
        rw [upd_same, en]
        rfl
      | cons m r =>
        refine iteT' rfl ?_
        refine ⟨_, rfl, D, _, rfl, .inl ⟨.inl (.inl (s2 _ _ q2)), fun p hp => ?_⟩⟩
        have s5 := Same.new (Same.refl _) hp (o := .tup ((m :: r).map fun n => (nm n).v))
        refine k ((m :: r).map nm) p _ (ascN_of (by simp) (List.Pairwise.sublist q1 List.pairwise_lt_range) (fun x hx => List.mem_range.mp (q1.subset hx))) (by rw [List.length_map]; exact hfl) ?_ ((q4.same s2).same s5) (q5.trans ((Kp.of s2).trans (Kp.of s5)))
        rw [upd_same, List.map_map]
        rfl
end
end Om

namespace Om
open PySem PySem.Spec PyProof.Rows L2
/-! ### _law_instruction -/
abbrev sInstr : Stmt := top 40
theorem filter_sub : ∀ {t l : List Nat}, t.Sublist l → l.Nodup → l.filter (fun c => decide (c ∈ t)) = t := by
  intro t l h
  induction h with
  | slnil => intro _; rfl
  | @cons t l a h ih =>
    intro n
    obtain ⟨n1, n2⟩ := List.nodup_cons.mp n
    have ha : a ∉ t := fun z => n1 (h.subset z)
    rw [List.filter_cons, if_neg (by simp [ha]), ih n2]
  | @cons_cons t l a h ih =>
    intro n
    obtain ⟨n1, n2⟩ := List.nodup_cons.mp n
    rw [List.filter_cons, if_pos (by simp)]
    have e : l.filter (fun c => decide (c ∈ a :: t)) = l.filter (fun c => decide (c ∈ t)) := by
      refine List.filter_congr fun c hc => ?_
      have : c ≠ a := fun z => n1 (z ▸ hc)
      simp [this]
    rw [e, ih n2]
theorem ascS_of {t l : List Nat} (hne : t ≠ []) (h : t.Sublist l) (n : l.Nodup) : ascS t l = true := by
  unfold ascS
  rw [filter_sub h n, decide_eq_false hne, decide_eq_true rfl]
  rfl
theorem lands_nd : lands.Nodup := by decide
theorem alls_nd : alls.Nodup := by decide
def c5 : List Nat := [46, 65, 66, 75, 84]
def c5w : List Nat := [46, 65, 66, 75, 126]
def c4w : List Nat := [65, 66, 75, 126]
theorem c5_tx : Str.ofString ".ABKT" = tx c5 := by decide +kernel
theorem c5w_tx : Str.ofString ".ABK~" = tx c5w := by decide +kernel
theorem c4w_tx : Str.ofString "ABK~" = tx c4w := by decide +kernel
theorem c5_sub : c5.Sublist lands := by decide
theorem c5w_sub : c5w.Sublist alls := by decide
theorem c4w_sub : c4w.Sublist alls := by decide
theorem lo_of {t l : List Nat} (h : t.Sublist l) (hl : ∀ c ∈ l, c < 1000) : LoS t := fun c hc => hl c (h.subset hc)
/-- _law_take(box, [x, y][_law_take(box, 2)]) -/
theorem pick_read {K : PySem.W.Frag} {σ : L2.St} {H : Hp} {Q : VK} {b l : Addr} {x y : Int} (hσ : σ[0]? = some (some (.ref b))) (B : Box H b l) (hx : 0 < x ∧ x ≤ 100) (hy : 0 < y ∧ y ≤ 100)
    (k : ∀ n H', 0 ≤ n → (n < x ∨ n < y) → Box H' b l → Kp b l H H' → Q (.int n) H') :
    tCall spTake [] E0 (tCons (tVar 0) (tCons (tOp (rIxL K) (tLst (tCons (tC (.int x)) (tCons (tC (.int y)) tNil))) (tCall spTake [] E0 (tCons (tVar 0) (tCons (tC (.int 2)) tNil)))) tNil)) σ H Q := by
  refine ⟨_, hσ, by show 2 ≤ sizeLine; decide, fun q hq => ?_⟩
  have s1 := Same.new (Same.refl H) hq (o := .lst [.int x, .int y])
  have B1 := B.same s1
  have qb : q ≠ b ∧ q ≠ l := by
    obtain ⟨_, _, x1, x2, _⟩ := B.ex
    exact ⟨(fun e => by rw [← e, hq] at x1; cases x1), (fun e => by rw [← e, hq] at x2; cases x2)⟩
  refine ⟨_, hσ, b, l, 2, rfl, B1, by decide, by decide, fun n H2 a1 a2 B2 K2 => ?_⟩
  have hl := K2 q _ upd_same qb.1 qb.2
  have e : n = 0 ∨ n = 1 := by omega
  rcases e with rfl | rfl
  · exact ⟨q, _, 0, .int x, rfl, rfl, .inl (.inl hl), rfl, b, l, x, rfl, B2, hx.1, by omega, fun m H3 c1 c2 B3 K3 => k m H3 c1 (.inl c2) B3 ((Kp.of s1).trans (K2.trans K3))⟩
  · exact ⟨q, _, 1, .int y, rfl, rfl, .inl (.inl hl), rfl, b, l, y, rfl, B2, hy.1, by omega, fun m H3 c1 c2 B3 K3 => k m H3 c1 (.inr c2) B3 ((Kp.of s1).trans (K2.trans K3))⟩
def spInstr (K : PySem.W.Frag) : Sp := fun vs H Q _ => ∃ (b l : Addr), vs = [.ref b] ∧ Box H b l ∧ ∀ (i : Ins) (v : V) (H' : Hp), i.ok = true → i.small = true → i.lo → Dp K H' v i.d → Box H' b l → Kp b l H H' → Q v H'
section
variable {P : Program} {w : World} {K : PySem.W.Frag} {mg : Str → Option Value} {base : Heap}
abbrev nInstr : List Str := ["_law_box", "_law_word", "_law_least", "_law_most"]
theorem scInstr : FnScope nInstr ["_law_box"] (defScope sInstr) := ⟨rfl, rfl, rfl, by decide +kernel, rfl, by decide +kernel, by decide +kernel⟩
theorem ok_instr {f : Addr} {fd : FuncData} (F : FnP K "_law_instruction" "_law_instruction" sInstr f fd) (T : Cal P w K mg base CX0 1 "_law_take" ["_law_box", "_law_many"] spTake) (GT : Cal P w K mg base CX0 2 "_law_turns" ["_law_box"] spTurns)
    (GS : Cal P w K mg base CX0 2 "_law_signs" ["_law_box", "_law_known"] spSigns) : FnOk P w K mg base CX0 3 f fd ["_law_box"] (spInstr K) := by
  refine F.ok scInstr (fun vs H Q E h => ?_) (fun cdv A outer s H vs Q E hr h => ?_)
  · obtain ⟨b, l, rfl, _⟩ := h
    rfl
  · obtain ⟨b, l, rfl, B, k⟩ := h
    have nd := scInstr.nd
    have hr1 : Room 1 _ := hr.mono (by decide)
    refine ⟨_, PSs.nox (pss_cons (ps_par (i := 1) (j := 2) rfl nd rfl rfl (by decide) rfl rfl (pa_cons (pe_cal T hr1 pass0 (pa_cons (pv 0) (pa_cons pe_int pa_nil)))
          (pa_cons (pe_cal T hr1 pass0 (pa_cons (pv 0) (pa_cons (pe_ix (ixlK (K := K) rfl) (pe_lst (pa_cons pe_int (pa_cons pe_int pa_nil))) (pe_cal T hr1 pass0 (pa_cons (pv 0) (pa_cons pe_int pa_nil))) (fun _ _ => rfl)) pa_nil))) pa_nil)) (by rfl))
      (pss_cons (ps_set (i := 3) nd rfl (.inl rfl) (pe_op op_add (pv 2) (pe_cal T hr1 pass0 (pa_cons (pv 0) (pa_cons (pe_ix (ixlK (K := K) rfl) (pe_lst (pa_cons pe_int (pa_cons pe_int pa_nil))) (pe_cal T hr1 pass0 (pa_cons (pv 0) (pa_cons pe_int pa_nil))) (fun _ _ => rfl)) pa_nil)))))
      (pss_cons (ps_if (pt_cmpR op_lt (pv 1) pe_int (nomark _)) (pss_one (ps_ret (pe_tup (pa_cons pe_str (pa_cons (pe_cal GT hr pass0 (pa_cons (pv 0) pa_nil)) pa_nil))))) pss_nil)
      (pss_cons (ps_if (pt_cmpR op_lt (pv 1) pe_int (nomark _)) (pss_one (ps_ret (pe_tup (pa_cons pe_str (pa_cons (pv 2) (pa_cons (pv 3) pa_nil)))))) pss_nil)
      (pss_cons (ps_if (pt_cmpR op_eq (pv 1) pe_int (nomark _)) (pss_one (ps_ret (pe_tup (pa_cons pe_str (pa_cons (pe_cal GS hr pass0 (pa_cons (pv 0) (pa_cons pe_str pa_nil))) pa_nil))))) pss_nil)
      (pss_cons (ps_if (pt_cmpR op_eq (pv 1) pe_int (nomark _)) (pss_one (ps_ret (pe_tup (pa_cons pe_str (pa_cons (pe_cal GS hr pass0 (pa_cons (pv 0) (pa_cons pe_str pa_nil))) pa_nil))))) pss_nil)
      (pss_cons (ps_if (pt_cmpR op_eq (pv 1) pe_int (nomark _)) (pss_one (ps_ret (pe_tup (pa_cons pe_str (pa_cons (pe_cal T hr1 pass0 (pa_cons (pv 0) (pa_cons pe_int pa_nil))) (pa_cons (pe_cal GS hr pass0 (pa_cons (pv 0) (pa_cons pe_str pa_nil))) pa_nil)))))) pss_nil)
      (pss_cons (ps_if (pt_cmpR op_eq (pv 1) pe_int (nomark _)) (pss_one (ps_ret (pe_tup (pa_cons pe_str (pa_cons (pe_cal GS hr pass0 (pa_cons (pv 0) (pa_cons pe_str pa_nil))) (pa_cons (pe_cal T hr1 pass0 (pa_cons (pv 0) (pa_cons pe_int pa_nil))) pa_nil)))))) pss_nil)
      (pss_one (ps_ret (pe_tup (pa_cons pe_str (pa_cons (pe_ix (ixlK (K := K) rfl) (pe_lst (pa_cons pe_int (pa_cons pe_int pa_nil))) (pe_cal T hr1 pass0 (pa_cons (pv 0) (pa_cons pe_int pa_nil))) (fun _ _ => rfl)) (pa_cons (pv 2)
          (pa_cons (pe_op op_add (pv 3) (pe_cal T hr1 pass0 (pa_cons (pv 0) (pa_cons pe_int pa_nil)))) pa_nil))))))))))))))), ?_⟩
    refine ⟨_, rfl, b, l, 9, rfl, B, by decide, by decide, fun wd H1 a1 a2 B1 K1 => ?_⟩
    refine pick_read rfl B1 (by decide) (by decide) fun le H2 b1 b2 B2 K2 => ?_
    refine nilArgs ⟨_, _, rfl, ?_⟩
    refine ⟨_, rfl, pick_read rfl B2 (by decide) (by decide) fun mo H3 c1 c2 B3 K3 => ⟨_, _, rfl, rfl, ?_⟩⟩
    have kk := K1.trans (K2.trans K3)
    refine ⟨_, rfl, _, _, rfl, rfl, _, rfl, ite2 (fun hz => ?_) (fun hz => ?_)⟩
    · refine ⟨_, rfl, b, l, rfl, B3, fun ns p H4 m1 m2 m3 B4 K4 => ⟨by show 2 ≤ sizeLine; decide, fun t ht => ?_⟩⟩
      have s5 := Same.new (Same.refl H4) ht (o := .tup [.str "turn", .ref p])
      exact k (.turn ns) _ _ m1 (decide_eq_true (by omega)) trivial (.tup (.inl (.inl upd_same)) (.cons (.str _) (.cons (.tup (.inl (.inl (s5 _ _ m3))) (nms_dp ns)) .nil))) (B4.same s5) (kk.trans (K4.trans (Kp.of s5)))
    · refine ⟨_, rfl, _, _, rfl, rfl, _, rfl, ite2 (fun hz2 => ?_) (fun hz2 => ?_)⟩
      · refine ⟨_, rfl, _, rfl, by show 3 ≤ sizeLine; decide, fun t ht => ?_⟩
        have s5 := Same.new (Same.refl H3) ht (o := .tup [.str "walk", .int le, .int (le + mo)])
        have ok : paces (.i le) (.i (le + mo)) = true := by
          show ((decide (0 ≤ le) && decide (le ≤ 20)) && (decide (le ≤ le + mo) && decide (le + mo ≤ 20))) = true
          rw [decide_eq_true (by omega), decide_eq_true (by omega), decide_eq_true (by omega), decide_eq_true (by omega)]
          rfl
        exact k (.walk (.i le) (.i (le + mo))) _ _ ok rfl trivial (.tup (.inl (.inl upd_same)) (.cons (.str _) (.cons (.int _) (.cons (.int _) .nil)))) (B3.same s5) (kk.trans (Kp.of s5))
      · have lo5 : ∀ c ∈ c5, c < 1000 := by decide
        have lo5w : ∀ c ∈ c5w, c < 1000 := by decide
        have lo4w : ∀ c ∈ c4w, c < 1000 := by decide
        refine ⟨_, rfl, rfl, _, rfl, ite2 (fun hz3 => ?_) (fun hz3 => ?_)⟩
        · refine ⟨_, rfl, b, l, c5, by rw [← c5_tx]; rfl, B3, by decide, by decide, by decide, lo5, fun z H4 m1 m2 B4 K4 => ⟨by show 2 ≤ sizeLine; decide, fun t ht => ?_⟩⟩
          have s5 := Same.new (Same.refl H4) ht (o := .tup [.str "until", vt z])
          exact k (.upto z) _ _ (ascS_of m1 (m2.trans c5_sub) lands_nd) rfl (lo_of m2 lo5) (.tup (.inl (.inl upd_same)) (.cons (.str _) (.cons (.str _) .nil))) (B4.same s5) (kk.trans (K4.trans (Kp.of s5)))
        · refine ⟨_, rfl, rfl, _, rfl, ite2 (fun hz4 => ?_) (fun hz4 => ?_)⟩
          · refine ⟨_, rfl, b, l, c5, by rw [← c5_tx]; rfl, B3, by decide, by decide, by decide, lo5, fun z H4 m1 m2 B4 K4 => ⟨by show 2 ≤ sizeLine; decide, fun t ht => ?_⟩⟩
            have s5 := Same.new (Same.refl H4) ht (o := .tup [.str "toward", vt z])
            exact k (.toward z) _ _ (ascS_of m1 (m2.trans c5_sub) lands_nd) rfl (lo_of m2 lo5) (.tup (.inl (.inl upd_same)) (.cons (.str _) (.cons (.str _) .nil))) (B4.same s5) (kk.trans (K4.trans (Kp.of s5)))
          · refine ⟨_, rfl, rfl, _, rfl, ite2 (fun hz5 => ?_) (fun hz5 => ?_)⟩
            · refine ⟨_, rfl, b, l, 4, rfl, B3, by decide, by decide, fun n H4 d1 d2 B4 K4 => ?_⟩
              refine ⟨_, rfl, b, l, c5w, by rw [← c5w_tx]; rfl, B4, by decide, by decide, by decide, lo5w, fun z H5 m1 m2 B5 K5 => ⟨by show 3 ≤ sizeLine; decide, fun t ht => ?_⟩⟩
              have s5 := Same.new (Same.refl H5) ht (o := .tup [.str "beside", .int n, vt z])
              have ok : (inN (.i n) 0 3 && ascS z alls) = true := by
                rw [ascS_of m1 (m2.trans c5w_sub) alls_nd]
                show ((decide (0 ≤ n) && decide (n ≤ 3)) && true) = true
                rw [decide_eq_true (by omega), decide_eq_true (by omega)]
                rfl
              exact k (.beside (.i n) z) _ _ ok rfl (lo_of m2 lo5w) (.tup (.inl (.inl upd_same)) (.cons (.str _) (.cons (.int _) (.cons (.str _) .nil)))) (B5.same s5) (kk.trans (K4.trans (K5.trans (Kp.of s5))))
            · refine ⟨_, rfl, rfl, _, rfl, ite2 (fun hz6 => ?_) (fun hz6 => ?_)⟩
              · refine ⟨_, rfl, b, l, c4w, by rw [← c4w_tx]; rfl, B3, by decide, by decide, by decide, lo4w, fun z H4 m1 m2 B4 K4 => ?_⟩
                refine ⟨_, rfl, b, l, 5, rfl, B4, by decide, by decide, fun n H5 d1 d2 B5 K5 => ⟨by show 3 ≤ sizeLine; decide, fun t ht => ?_⟩⟩
                have s5 := Same.new (Same.refl H5) ht (o := .tup [.str "near", vt z, .int n])
                have ok : (ascS z alls && inN (.i n) 0 22) = true := by
                  rw [ascS_of m1 (m2.trans c4w_sub) alls_nd]
                  show (true && (decide (0 ≤ n) && decide (n ≤ 22))) = true
                  rw [decide_eq_true (by omega), decide_eq_true (by omega)]
                  rfl
                exact k (.near z (.i n)) _ _ ok rfl (lo_of m2 lo4w) (.tup (.inl (.inl upd_same)) (.cons (.str _) (.cons (.str _) (.cons (.int _) .nil)))) (B5.same s5) (kk.trans (K4.trans (K5.trans (Kp.of s5))))
              · refine ⟨by show 2 ≤ sizeLine; decide, fun q hq => ?_⟩
                have s4 := Same.new (Same.refl H3) hq (o := .lst [.int 1, .int 3])
                have qb : q ≠ b ∧ q ≠ l := by
                  obtain ⟨_, _, x1, x2, _⟩ := B3.ex
                  exact ⟨(fun e => by rw [← e, hq] at x1; cases x1), (fun e => by rw [← e, hq] at x2; cases x2)⟩
                refine ⟨_, rfl, b, l, 2, rfl, B3.same s4, by decide, by decide, fun n H4 d1 d2 B4 K4 => ?_⟩
                have hl := K4 q _ upd_same qb.1 qb.2
                obtain ⟨sd, hs1, hs2⟩ : ∃ sd : Int, atI [V.int 1, V.int 3] n = some (.int sd) ∧ (sd = 1 ∨ sd = 3) := by
                  have e : n = 0 ∨ n = 1 := by omega
                  rcases e with rfl | rfl
                  · exact ⟨1, rfl, .inl rfl⟩
                  · exact ⟨3, rfl, .inr rfl⟩
                refine ⟨q, _, n, _, rfl, rfl, .inl (.inl hl), hs1, _, rfl, _, rfl, _, rfl, b, l, 8, rfl, B4, by decide, by decide, fun m H5 f1 f2 B5 K5 => ⟨_, _, rfl, rfl, by show 4 ≤ sizeLine; decide, fun t ht => ?_⟩⟩
                have s5 := Same.new (Same.refl H5) ht (o := .tup [.str "shore", .int sd, .int le, .int (le + mo + m)])
                have ok : (side (.i sd) && paces (.i le) (.i (le + mo + m))) = true := by
                  have e1 : side (.i sd) = true := by rcases hs2 with rfl | rfl <;> decide
                  rw [e1]
                  show (true && ((decide (0 ≤ le) && decide (le ≤ 20)) && (decide (le ≤ le + mo + m) && decide (le + mo + m ≤ 20)))) = true
                  rw [decide_eq_true (by omega), decide_eq_true (by omega), decide_eq_true (by omega), decide_eq_true (by omega)]
                  rfl
                exact k (.shore (.i sd) (.i le) (.i (le + mo + m))) _ _ ok rfl trivial (.tup (.inl (.inl upd_same)) (.cons (.str _) (.cons (.int _) (.cons (.int _) (.cons (.int _) .nil))))) (B5.same s5) (kk.trans ((Kp.of s4).trans (K4.trans (K5.trans (Kp.of s5)))))
end
end Om

namespace Om
open PySem PySem.Spec PyProof.Rows L2
/-! ### _law_odd -/
abbrev sOdd : Stmt := top 42
theorem dps {K : PySem.W.Frag} {H : Hp} {x : Str} {s : List Nat} (e : x = tx s) : Dp K H (.str x) (dt s) := by
  subst e
  exact .str _
mutual
def noL : PyData → Bool
  | .list _ => false
  | .tuple ds => noLs ds
  | .dict _ => false
  | .none => true
  | .bool _ => true
  | .int _ => true
  | .str _ => true
def noLs : List PyData → Bool
  | [] => true
  | d :: r => noL d && noLs r
end
theorem SqT.kp {K : PySem.W.Frag} {H H' : Hp} {b l a : Addr} {xs : List V} (B : Box H b l) (k : Kp b l H H') (h : SqT K H a xs) : SqT K H' a xs := by
  obtain ⟨ns, z, h1, h2, _⟩ := B.ex
  rcases h with (h | ⟨o, h⟩) | h
  · exact .inl (.inl (k _ _ h (ne_of h h1 fun e => by cases e) (ne_of h h2 fun e => by cases e)))
  · exact .inl (.inr ⟨o, k _ _ h (ne_of h h1 fun e => by cases e) (ne_of h h2 fun e => by cases e)⟩)
  · exact .inr h
theorem dp_kp {K : PySem.W.Frag} {H H' : Hp} {b l : Addr} {v : V} {d : PyData} (B : Box H b l) (k : Kp b l H H') (hn : noL d = true) (h : Dp K H v d) : Dp K H' v d :=
  Dp.rec (motive_1 := fun v d _ => noL d = true → Dp K H' v d) (motive_2 := fun vs ds _ => noLs ds = true → DpAll K H' vs ds) (fun _ => .non) (fun b _ => .bl b) (fun i _ => .int i) (fun x _ => .str x)
    (fun _ _ _ hn => by simp [noL] at hn) (fun s _ ih hn => .tup (SqT.kp B k s) (ih (by simpa [noL] using hn))) (fun _ => .nil) (fun _ _ i1 i2 hn => by
      rw [noLs, Bool.and_eq_true] at hn
      exact .cons (i1 hn.1) (i2 hn.2)) h hn
theorem dpAll_kp {K : PySem.W.Frag} {H H' : Hp} {b l : Addr} : ∀ {vs : List V} {ds : List PyData} (B : Box H b l) (k : Kp b l H H') (hn : noLs ds = true) (h : DpAll K H vs ds), DpAll K H' vs ds
  | [], [], _, _, _, .nil => .nil
  | _ :: _, _ :: _, B, k, hn, .cons h t => by
    rw [noLs, Bool.and_eq_true] at hn
    exact .cons (dp_kp B k hn.1 h) (dpAll_kp B k hn.2 t)
theorem noL_nm (n : Nm) : noL n.d = true := by cases n <;> simp [Nm.d, noL]
theorem noL_nms : ∀ ns : List Nm, noLs (ns.map Nm.d) = true
  | [] => by simp [noLs]
  | n :: r => by simp [noLs, noL_nm, noL_nms r]
theorem noL_dt (s : List Nat) : noL (dt s) = true := by simp [dt, noL]
theorem noL_ins (i : Ins) : noL i.d = true := by cases i <;> simp [Ins.d, Ins.parts, noL, noLs, noL_nm, noL_nms, noL_dt]
theorem noL_inss : ∀ is : List Ins, noLs (is.map Ins.d) = true
  | [] => by simp [noLs]
  | i :: r => by simp [noLs, noL_ins, noL_inss r]
def odds : List Ins := [Ins.turn [], Ins.turn [Nm.i 1, Nm.i 0], Ins.turn [Nm.i 4], Ins.walk (Nm.i 3) (Nm.i 2), Ins.walk (Nm.i (-1)) (Nm.i 2), Ins.walk (Nm.i 0) (Nm.i 21), Ins.upto [], Ins.upto [126], Ins.upto [66, 65], Ins.toward [97], Ins.beside (Nm.i 4) [65], Ins.beside (Nm.i 0) [65, 65], Ins.near [65] (Nm.i 23), Ins.near [] (Nm.i 3), Ins.shore (Nm.i 0) (Nm.i 1) (Nm.i 2), Ins.shore (Nm.i 2) (Nm.i 1) (Nm.i 2), Ins.shore (Nm.i 1) (Nm.i 2) (Nm.i 1), Ins.turn [Nm.b true], Ins.walk (Nm.i 1) (Nm.b true)]
theorem odds_bad : ∀ i ∈ odds, i.ok = false ∧ i.small = true ∧ i.lo := by
  intro i hi
  simp only [odds, List.mem_cons, List.not_mem_nil, or_false] at hi
  rcases hi with rfl | rfl | rfl | rfl | rfl | rfl | rfl | rfl | rfl | rfl | rfl | rfl | rfl | rfl | rfl | rfl | rfl | rfl | rfl <;> exact ⟨by decide, by decide, by first | trivial | (show ∀ c ∈ _, c < 1000; decide)⟩
def spOdd (K : PySem.W.Frag) : Sp := fun vs H Q _ => ∃ (b l : Addr), vs = [.ref b] ∧ Box H b l ∧ ∀ (i : Ins) (v : V) (H' : Hp), i.ok = false → i.small = true → i.lo → Dp K H' v i.d → Box H' b l → Kp b l H H' → Q v H'
section
variable {P : Program} {w : World} {K : PySem.W.Frag} {mg : Str → Option Value} {base : Heap}
theorem scOdd : FnScope ["_law_box", "_law_found"] ["_law_box"] (defScope sOdd) := ⟨rfl, rfl, rfl, by decide +kernel, rfl, by decide +kernel, by decide +kernel⟩
theorem ok_odd {f : Addr} {fd : FuncData} (F : FnP K "_law_odd" "_law_odd" sOdd f fd) (T : Cal P w K mg base CX0 1 "_law_take" ["_law_box", "_law_many"] spTake) (glen : mg "len" = none) : FnOk P w K mg base CX0 2 f fd ["_law_box"] (spOdd K) := by
  refine F.ok scOdd (fun vs H Q E h => ?_) (fun cdv A outer s H vs Q E hr h => ?_)
  · obtain ⟨b, l, rfl, _⟩ := h
    rfl
  · obtain ⟨b, l, rfl, B, k⟩ := h
    have nd := scOdd.nd
    refine ⟨_, PSs.nox (pss_cons (ps_set (i := 1) nd rfl (.inl rfl) (pe_lst (pa_cons (pe_tup (pa_cons pe_str (pa_cons (pe_tup pa_nil) pa_nil))) (pa_cons (pe_tup (pa_cons pe_str (pa_cons (pe_tup (pa_cons pe_int (pa_cons pe_int pa_nil))) pa_nil))) (pa_cons (pe_tup (pa_cons pe_str (pa_cons (pe_tup (pa_cons pe_int pa_nil)) pa_nil))) (pa_cons (pe_tup (pa_cons pe_str (pa_cons pe_int (pa_cons pe_int pa_nil)))) (pa_cons (pe_tup (pa_cons pe_str (pa_cons (pe_un un_neg pe_int) (pa_cons pe_int pa_nil)))) (pa_cons (pe_tup (pa_cons pe_str (pa_cons pe_int (pa_cons pe_int pa_nil)))) pa_nil))))))))
      (pss_cons (ps_set (i := 1) nd rfl (.inl rfl) (pe_op op_cat (pv 1) (pe_lst (pa_cons (pe_tup (pa_cons pe_str (pa_cons pe_str pa_nil))) (pa_cons (pe_tup (pa_cons pe_str (pa_cons pe_str pa_nil))) (pa_cons (pe_tup (pa_cons pe_str (pa_cons pe_str pa_nil))) (pa_cons (pe_tup (pa_cons pe_str (pa_cons pe_str pa_nil))) (pa_cons (pe_tup (pa_cons pe_str (pa_cons pe_int (pa_cons pe_str pa_nil)))) pa_nil))))))))
      (pss_cons (ps_set (i := 1) nd rfl (.inl rfl) (pe_op op_cat (pv 1) (pe_lst (pa_cons (pe_tup (pa_cons pe_str (pa_cons pe_int (pa_cons pe_str pa_nil)))) (pa_cons (pe_tup (pa_cons pe_str (pa_cons pe_str (pa_cons pe_int pa_nil)))) (pa_cons (pe_tup (pa_cons pe_str (pa_cons pe_str (pa_cons pe_int pa_nil)))) (pa_cons (pe_tup (pa_cons pe_str (pa_cons pe_int (pa_cons pe_int (pa_cons pe_int pa_nil))))) pa_nil)))))))
      (pss_cons (ps_set (i := 1) nd rfl (.inl rfl) (pe_op op_cat (pv 1) (pe_lst (pa_cons (pe_tup (pa_cons pe_str (pa_cons pe_int (pa_cons pe_int (pa_cons pe_int pa_nil))))) (pa_cons (pe_tup (pa_cons pe_str (pa_cons pe_int (pa_cons pe_int (pa_cons pe_int pa_nil))))) (pa_cons (pe_tup (pa_cons pe_str (pa_cons (pe_tup (pa_cons pe_bl pa_nil)) pa_nil))) (pa_cons (pe_tup (pa_cons pe_str (pa_cons pe_int (pa_cons pe_bl pa_nil)))) pa_nil)))))))
      (pss_one (ps_ret (pe_ix ix_list (pv 1) (pe_cal T hr pass0 (pa_cons (pv 0) (pa_cons (pe_callB call_len_seq (by rfl) glen PySem.boot_len (pa_cons (pv 1) pa_nil)) pa_nil))) (fun _ _ => rfl)))))))), ?_⟩
    have A0 : DpAll K H [] [] := .nil
    have Z0 := Same.refl H
    refine ⟨by show 0 ≤ sizeLine; decide, fun q1 hq1 => ?_⟩
    have t1 := Same.new (Same.refl H) hq1 (o := .tup [])
    have u1 : (upd H q1 (.tup [])) q1 = some (.tup []) := upd_same
    refine ⟨by show 2 ≤ sizeLine; decide, fun p1 hp1 => ?_⟩
    have s1 := Same.new (Same.refl (upd H q1 (.tup []))) hp1 (o := .tup [V.str (Str.ofString "turn"), V.ref q1])
    have d1 : Dp K (upd (upd H q1 (.tup [])) p1 (.tup [V.str (Str.ofString "turn"), V.ref q1])) (.ref p1) (Ins.d (Ins.turn [])) := .tup (.inl (.inl upd_same)) (.cons (.str _) (.cons (.tup (.inl (.inl (s1 _ _ u1))) (.nil)) (.nil)))
    have S1 : Same H (upd (upd H q1 (.tup [])) p1 (.tup [V.str (Str.ofString "turn"), V.ref q1])) := t1.trans s1
    clear s1 t1 u1
    generalize (upd (upd H q1 (.tup [])) p1 (.tup [V.str (Str.ofString "turn"), V.ref q1])) = H1 at d1 S1 ⊢
    have A1 := dpAll_app (Same.dpAll S1 A0) (.cons d1 .nil)
    have Z1 := Z0.trans S1
    refine ⟨by show 2 ≤ sizeLine; decide, fun q2 hq2 => ?_⟩
    have t2 := Same.new (Same.refl H1) hq2 (o := .tup [V.int 1, V.int 0])
    have u2 : (upd H1 q2 (.tup [V.int 1, V.int 0])) q2 = some (.tup [V.int 1, V.int 0]) := upd_same
    refine ⟨by show 2 ≤ sizeLine; decide, fun p2 hp2 => ?_⟩
    have s2 := Same.new (Same.refl (upd H1 q2 (.tup [V.int 1, V.int 0]))) hp2 (o := .tup [V.str (Str.ofString "turn"), V.ref q2])
    have d2 : Dp K (upd (upd H1 q2 (.tup [V.int 1, V.int 0])) p2 (.tup [V.str (Str.ofString "turn"), V.ref q2])) (.ref p2) (Ins.d (Ins.turn [Nm.i 1, Nm.i 0])) := .tup (.inl (.inl upd_same)) (.cons (.str _) (.cons (.tup (.inl (.inl (s2 _ _ u2))) (.cons (.int _) (.cons (.int _) (.nil)))) (.nil)))
    have S2 : Same H1 (upd (upd H1 q2 (.tup [V.int 1, V.int 0])) p2 (.tup [V.str (Str.ofString "turn"), V.ref q2])) := t2.trans s2
    clear s2 t2 u2
    generalize (upd (upd H1 q2 (.tup [V.int 1, V.int 0])) p2 (.tup [V.str (Str.ofString "turn"), V.ref q2])) = H2 at d2 S2 ⊢
    have A2 := dpAll_app (Same.dpAll S2 A1) (.cons d2 .nil)
    have Z2 := Z1.trans S2
    refine ⟨by show 1 ≤ sizeLine; decide, fun q3 hq3 => ?_⟩
    have t3 := Same.new (Same.refl H2) hq3 (o := .tup [V.int 4])
    have u3 : (upd H2 q3 (.tup [V.int 4])) q3 = some (.tup [V.int 4]) := upd_same
    refine ⟨by show 2 ≤ sizeLine; decide, fun p3 hp3 => ?_⟩
    have s3 := Same.new (Same.refl (upd H2 q3 (.tup [V.int 4]))) hp3 (o := .tup [V.str (Str.ofString "turn"), V.ref q3])
    have d3 : Dp K (upd (upd H2 q3 (.tup [V.int 4])) p3 (.tup [V.str (Str.ofString "turn"), V.ref q3])) (.ref p3) (Ins.d (Ins.turn [Nm.i 4])) := .tup (.inl (.inl upd_same)) (.cons (.str _) (.cons (.tup (.inl (.inl (s3 _ _ u3))) (.cons (.int _) (.nil))) (.nil)))
    have S3 : Same H2 (upd (upd H2 q3 (.tup [V.int 4])) p3 (.tup [V.str (Str.ofString "turn"), V.ref q3])) := t3.trans s3
    clear s3 t3 u3
    generalize (upd (upd H2 q3 (.tup [V.int 4])) p3 (.tup [V.str (Str.ofString "turn"), V.ref q3])) = H3 at d3 S3 ⊢
    have A3 := dpAll_app (Same.dpAll S3 A2) (.cons d3 .nil)
    have Z3 := Z2.trans S3
    refine ⟨by show 3 ≤ sizeLine; decide, fun p4 hp4 => ?_⟩
    have s4 := Same.new (Same.refl H3) hp4 (o := .tup [V.str (Str.ofString "walk"), V.int 3, V.int 2])
    have d4 : Dp K (upd H3 p4 (.tup [V.str (Str.ofString "walk"), V.int 3, V.int 2])) (.ref p4) (Ins.d (Ins.walk (Nm.i 3) (Nm.i 2))) := .tup (.inl (.inl upd_same)) (.cons (.str _) (.cons (.int _) (.cons (.int _) (.nil))))
    have S4 : Same H3 (upd H3 p4 (.tup [V.str (Str.ofString "walk"), V.int 3, V.int 2])) := s4
    clear s4
    generalize (upd H3 p4 (.tup [V.str (Str.ofString "walk"), V.int 3, V.int 2])) = H4 at d4 S4 ⊢
    have A4 := dpAll_app (Same.dpAll S4 A3) (.cons d4 .nil)
    have Z4 := Z3.trans S4
    refine ⟨_, rfl, by show 3 ≤ sizeLine; decide, fun p5 hp5 => ?_⟩
    have s5 := Same.new (Same.refl H4) hp5 (o := .tup [V.str (Str.ofString "walk"), V.int (-1), V.int 2])
    have d5 : Dp K (upd H4 p5 (.tup [V.str (Str.ofString "walk"), V.int (-1), V.int 2])) (.ref p5) (Ins.d (Ins.walk (Nm.i (-1)) (Nm.i 2))) := .tup (.inl (.inl upd_same)) (.cons (.str _) (.cons (.int _) (.cons (.int _) (.nil))))
    have S5 : Same H4 (upd H4 p5 (.tup [V.str (Str.ofString "walk"), V.int (-1), V.int 2])) := s5
    clear s5
    generalize (upd H4 p5 (.tup [V.str (Str.ofString "walk"), V.int (-1), V.int 2])) = H5 at d5 S5 ⊢
    have A5 := dpAll_app (Same.dpAll S5 A4) (.cons d5 .nil)
    have Z5 := Z4.trans S5
    refine ⟨by show 3 ≤ sizeLine; decide, fun p6 hp6 => ?_⟩
    have s6 := Same.new (Same.refl H5) hp6 (o := .tup [V.str (Str.ofString "walk"), V.int 0, V.int 21])
    have d6 : Dp K (upd H5 p6 (.tup [V.str (Str.ofString "walk"), V.int 0, V.int 21])) (.ref p6) (Ins.d (Ins.walk (Nm.i 0) (Nm.i 21))) := .tup (.inl (.inl upd_same)) (.cons (.str _) (.cons (.int _) (.cons (.int _) (.nil))))
    have S6 : Same H5 (upd H5 p6 (.tup [V.str (Str.ofString "walk"), V.int 0, V.int 21])) := s6
    clear s6
    generalize (upd H5 p6 (.tup [V.str (Str.ofString "walk"), V.int 0, V.int 21])) = H6 at d6 S6 ⊢
    have A6 := dpAll_app (Same.dpAll S6 A5) (.cons d6 .nil)
    have Z6 := Z5.trans S6
    refine ⟨by show 6 ≤ sizeLine; decide, fun L0 hL0 => ?_⟩
    have W0 := Same.new (Same.refl H6) hL0 (o := .lst [V.ref p1, V.ref p2, V.ref p3, V.ref p4, V.ref p5, V.ref p6])
    have eL0 : (upd H6 L0 (.lst [V.ref p1, V.ref p2, V.ref p3, V.ref p4, V.ref p5, V.ref p6])) L0 = some (.lst [V.ref p1, V.ref p2, V.ref p3, V.ref p4, V.ref p5, V.ref p6]) := upd_same
    generalize (upd H6 L0 (.lst [V.ref p1, V.ref p2, V.ref p3, V.ref p4, V.ref p5, V.ref p6])) = G0 at W0 eL0 ⊢
    have AL0 := Same.dpAll W0 A6
    have ZL0 := Z6.trans W0
    have A0k := AL0
    have Z0k := ZL0
    have hLk0 := eL0
    refine ⟨_, rfl, ?_⟩
    refine ⟨by show 2 ≤ sizeLine; decide, fun p7 hp7 => ?_⟩
    have s7 := Same.new (Same.refl G0) hp7 (o := .tup [V.str (Str.ofString "until"), V.str (Str.ofString "")])
    have d7 : Dp K (upd G0 p7 (.tup [V.str (Str.ofString "until"), V.str (Str.ofString "")])) (.ref p7) (Ins.d (Ins.upto [])) := .tup (.inl (.inl upd_same)) (.cons (.str _) (.cons (dps (by decide +kernel)) (.nil)))
    have S7 : Same G0 (upd G0 p7 (.tup [V.str (Str.ofString "until"), V.str (Str.ofString "")])) := s7
    clear s7
    generalize (upd G0 p7 (.tup [V.str (Str.ofString "until"), V.str (Str.ofString "")])) = H7 at d7 S7 ⊢
    have A7 := dpAll_app (Same.dpAll S7 A0k) (.cons d7 .nil)
    have Z7 := Z0k.trans S7
    have hLL0_7 := S7 _ _ hLk0
    refine ⟨by show 2 ≤ sizeLine; decide, fun p8 hp8 => ?_⟩
    have s8 := Same.new (Same.refl H7) hp8 (o := .tup [V.str (Str.ofString "until"), V.str (Str.ofString "~")])
    have d8 : Dp K (upd H7 p8 (.tup [V.str (Str.ofString "until"), V.str (Str.ofString "~")])) (.ref p8) (Ins.d (Ins.upto [126])) := .tup (.inl (.inl upd_same)) (.cons (.str _) (.cons (dps (by decide +kernel)) (.nil)))
    have S8 : Same H7 (upd H7 p8 (.tup [V.str (Str.ofString "until"), V.str (Str.ofString "~")])) := s8
    clear s8
    generalize (upd H7 p8 (.tup [V.str (Str.ofString "until"), V.str (Str.ofString "~")])) = H8 at d8 S8 ⊢
    have A8 := dpAll_app (Same.dpAll S8 A7) (.cons d8 .nil)
    have Z8 := Z7.trans S8
    have hLL0_8 := S8 _ _ hLL0_7
    refine ⟨by show 2 ≤ sizeLine; decide, fun p9 hp9 => ?_⟩
    have s9 := Same.new (Same.refl H8) hp9 (o := .tup [V.str (Str.ofString "until"), V.str (Str.ofString "BA")])
    have d9 : Dp K (upd H8 p9 (.tup [V.str (Str.ofString "until"), V.str (Str.ofString "BA")])) (.ref p9) (Ins.d (Ins.upto [66, 65])) := .tup (.inl (.inl upd_same)) (.cons (.str _) (.cons (dps (by decide +kernel)) (.nil)))
    have S9 : Same H8 (upd H8 p9 (.tup [V.str (Str.ofString "until"), V.str (Str.ofString "BA")])) := s9
    clear s9
    generalize (upd H8 p9 (.tup [V.str (Str.ofString "until"), V.str (Str.ofString "BA")])) = H9 at d9 S9 ⊢
    have A9 := dpAll_app (Same.dpAll S9 A8) (.cons d9 .nil)
    have Z9 := Z8.trans S9
    have hLL0_9 := S9 _ _ hLL0_8
    refine ⟨by show 2 ≤ sizeLine; decide, fun p10 hp10 => ?_⟩
    have s10 := Same.new (Same.refl H9) hp10 (o := .tup [V.str (Str.ofString "toward"), V.str (Str.ofString "a")])
    have d10 : Dp K (upd H9 p10 (.tup [V.str (Str.ofString "toward"), V.str (Str.ofString "a")])) (.ref p10) (Ins.d (Ins.toward [97])) := .tup (.inl (.inl upd_same)) (.cons (.str _) (.cons (dps (by decide +kernel)) (.nil)))
    have S10 : Same H9 (upd H9 p10 (.tup [V.str (Str.ofString "toward"), V.str (Str.ofString "a")])) := s10
    clear s10
    generalize (upd H9 p10 (.tup [V.str (Str.ofString "toward"), V.str (Str.ofString "a")])) = H10 at d10 S10 ⊢
    have A10 := dpAll_app (Same.dpAll S10 A9) (.cons d10 .nil)
    have Z10 := Z9.trans S10
    have hLL0_10 := S10 _ _ hLL0_9
    refine ⟨by show 3 ≤ sizeLine; decide, fun p11 hp11 => ?_⟩
    have s11 := Same.new (Same.refl H10) hp11 (o := .tup [V.str (Str.ofString "beside"), V.int 4, V.str (Str.ofString "A")])
    have d11 : Dp K (upd H10 p11 (.tup [V.str (Str.ofString "beside"), V.int 4, V.str (Str.ofString "A")])) (.ref p11) (Ins.d (Ins.beside (Nm.i 4) [65])) := .tup (.inl (.inl upd_same)) (.cons (.str _) (.cons (.int _) (.cons (dps (by decide +kernel)) (.nil))))
    have S11 : Same H10 (upd H10 p11 (.tup [V.str (Str.ofString "beside"), V.int 4, V.str (Str.ofString "A")])) := s11
    clear s11
    generalize (upd H10 p11 (.tup [V.str (Str.ofString "beside"), V.int 4, V.str (Str.ofString "A")])) = H11 at d11 S11 ⊢
    have A11 := dpAll_app (Same.dpAll S11 A10) (.cons d11 .nil)
    have Z11 := Z10.trans S11
    have hLL0_11 := S11 _ _ hLL0_10
    refine ⟨by show 5 ≤ sizeLine; decide, fun L1 hL1 => ?_⟩
    have W1 := Same.new (Same.refl H11) hL1 (o := .lst [V.ref p7, V.ref p8, V.ref p9, V.ref p10, V.ref p11])
    have eL1 : (upd H11 L1 (.lst [V.ref p7, V.ref p8, V.ref p9, V.ref p10, V.ref p11])) L1 = some (.lst [V.ref p7, V.ref p8, V.ref p9, V.ref p10, V.ref p11]) := upd_same
    generalize (upd H11 L1 (.lst [V.ref p7, V.ref p8, V.ref p9, V.ref p10, V.ref p11])) = G1 at W1 eL1 ⊢
    have AL1 := Same.dpAll W1 A11
    have ZL1 := Z11.trans W1
    have f1 := W1 _ _ hLL0_11
    refine ⟨_, L1, _, _, rfl, rfl, f1, eL1, by show 11 ≤ sizeLine; decide, fun M1 hM1 => ?_⟩
    have X1 := Same.new (Same.refl G1) hM1 (o := .lst [V.ref p1, V.ref p2, V.ref p3, V.ref p4, V.ref p5, V.ref p6, V.ref p7, V.ref p8, V.ref p9, V.ref p10, V.ref p11])
    have eM1 : (upd G1 M1 (.lst [V.ref p1, V.ref p2, V.ref p3, V.ref p4, V.ref p5, V.ref p6, V.ref p7, V.ref p8, V.ref p9, V.ref p10, V.ref p11])) M1 = some (.lst [V.ref p1, V.ref p2, V.ref p3, V.ref p4, V.ref p5, V.ref p6, V.ref p7, V.ref p8, V.ref p9, V.ref p10, V.ref p11]) := upd_same
    generalize hgen : (upd G1 M1 (.lst [V.ref p1, V.ref p2, V.ref p3, V.ref p4, V.ref p5, V.ref p6, V.ref p7, V.ref p8, V.ref p9, V.ref p10, V.ref p11])) = K1 at X1 eM1
    change _ at hgen
    have AK1 := Same.dpAll X1 AL1
    have ZK1 := ZL1.trans X1
    rw [show (upd G1 M1 (.lst (_ ++ _))) = K1 from hgen]
    clear hgen
    have A1k := AK1
    have Z1k := ZK1
    have hLk1 := eM1
    refine ⟨_, rfl, ?_⟩
    refine ⟨by show 3 ≤ sizeLine; decide, fun p12 hp12 => ?_⟩
    have s12 := Same.new (Same.refl K1) hp12 (o := .tup [V.str (Str.ofString "beside"), V.int 0, V.str (Str.ofString "AA")])
    have d12 : Dp K (upd K1 p12 (.tup [V.str (Str.ofString "beside"), V.int 0, V.str (Str.ofString "AA")])) (.ref p12) (Ins.d (Ins.beside (Nm.i 0) [65, 65])) := .tup (.inl (.inl upd_same)) (.cons (.str _) (.cons (.int _) (.cons (dps (by decide +kernel)) (.nil))))
    have S12 : Same K1 (upd K1 p12 (.tup [V.str (Str.ofString "beside"), V.int 0, V.str (Str.ofString "AA")])) := s12
    clear s12
    generalize (upd K1 p12 (.tup [V.str (Str.ofString "beside"), V.int 0, V.str (Str.ofString "AA")])) = H12 at d12 S12 ⊢
    have A12 := dpAll_app (Same.dpAll S12 A1k) (.cons d12 .nil)
    have Z12 := Z1k.trans S12
    have hLM1_12 := S12 _ _ hLk1
    refine ⟨by show 3 ≤ sizeLine; decide, fun p13 hp13 => ?_⟩
    have s13 := Same.new (Same.refl H12) hp13 (o := .tup [V.str (Str.ofString "near"), V.str (Str.ofString "A"), V.int 23])
    have d13 : Dp K (upd H12 p13 (.tup [V.str (Str.ofString "near"), V.str (Str.ofString "A"), V.int 23])) (.ref p13) (Ins.d (Ins.near [65] (Nm.i 23))) := .tup (.inl (.inl upd_same)) (.cons (.str _) (.cons (dps (by decide +kernel)) (.cons (.int _) (.nil))))
    have S13 : Same H12 (upd H12 p13 (.tup [V.str (Str.ofString "near"), V.str (Str.ofString "A"), V.int 23])) := s13
    clear s13
    generalize (upd H12 p13 (.tup [V.str (Str.ofString "near"), V.str (Str.ofString "A"), V.int 23])) = H13 at d13 S13 ⊢
    have A13 := dpAll_app (Same.dpAll S13 A12) (.cons d13 .nil)
    have Z13 := Z12.trans S13
    have hLM1_13 := S13 _ _ hLM1_12
    refine ⟨by show 3 ≤ sizeLine; decide, fun p14 hp14 => ?_⟩
    have s14 := Same.new (Same.refl H13) hp14 (o := .tup [V.str (Str.ofString "near"), V.str (Str.ofString ""), V.int 3])
    have d14 : Dp K (upd H13 p14 (.tup [V.str (Str.ofString "near"), V.str (Str.ofString ""), V.int 3])) (.ref p14) (Ins.d (Ins.near [] (Nm.i 3))) := .tup (.inl (.inl upd_same)) (.cons (.str _) (.cons (dps (by decide +kernel)) (.cons (.int _) (.nil))))
    have S14 : Same H13 (upd H13 p14 (.tup [V.str (Str.ofString "near"), V.str (Str.ofString ""), V.int 3])) := s14
    clear s14
    generalize (upd H13 p14 (.tup [V.str (Str.ofString "near"), V.str (Str.ofString ""), V.int 3])) = H14 at d14 S14 ⊢
    have A14 := dpAll_app (Same.dpAll S14 A13) (.cons d14 .nil)
    have Z14 := Z13.trans S14
    have hLM1_14 := S14 _ _ hLM1_13
    refine ⟨by show 4 ≤ sizeLine; decide, fun p15 hp15 => ?_⟩
    have s15 := Same.new (Same.refl H14) hp15 (o := .tup [V.str (Str.ofString "shore"), V.int 0, V.int 1, V.int 2])
    have d15 : Dp K (upd H14 p15 (.tup [V.str (Str.ofString "shore"), V.int 0, V.int 1, V.int 2])) (.ref p15) (Ins.d (Ins.shore (Nm.i 0) (Nm.i 1) (Nm.i 2))) := .tup (.inl (.inl upd_same)) (.cons (.str _) (.cons (.int _) (.cons (.int _) (.cons (.int _) (.nil)))))
    have S15 : Same H14 (upd H14 p15 (.tup [V.str (Str.ofString "shore"), V.int 0, V.int 1, V.int 2])) := s15
    clear s15
    generalize (upd H14 p15 (.tup [V.str (Str.ofString "shore"), V.int 0, V.int 1, V.int 2])) = H15 at d15 S15 ⊢
    have A15 := dpAll_app (Same.dpAll S15 A14) (.cons d15 .nil)
    have Z15 := Z14.trans S15
    have hLM1_15 := S15 _ _ hLM1_14
    refine ⟨by show 4 ≤ sizeLine; decide, fun L2 hL2 => ?_⟩
    have W2 := Same.new (Same.refl H15) hL2 (o := .lst [V.ref p12, V.ref p13, V.ref p14, V.ref p15])
    have eL2 : (upd H15 L2 (.lst [V.ref p12, V.ref p13, V.ref p14, V.ref p15])) L2 = some (.lst [V.ref p12, V.ref p13, V.ref p14, V.ref p15]) := upd_same
    generalize (upd H15 L2 (.lst [V.ref p12, V.ref p13, V.ref p14, V.ref p15])) = G2 at W2 eL2 ⊢
    have AL2 := Same.dpAll W2 A15
    have ZL2 := Z15.trans W2
    have f2 := W2 _ _ hLM1_15
    refine ⟨_, L2, _, _, rfl, rfl, f2, eL2, by show 15 ≤ sizeLine; decide, fun M2 hM2 => ?_⟩
    have X2 := Same.new (Same.refl G2) hM2 (o := .lst [V.ref p1, V.ref p2, V.ref p3, V.ref p4, V.ref p5, V.ref p6, V.ref p7, V.ref p8, V.ref p9, V.ref p10, V.ref p11, V.ref p12, V.ref p13, V.ref p14, V.ref p15])
    have eM2 : (upd G2 M2 (.lst [V.ref p1, V.ref p2, V.ref p3, V.ref p4, V.ref p5, V.ref p6, V.ref p7, V.ref p8, V.ref p9, V.ref p10, V.ref p11, V.ref p12, V.ref p13, V.ref p14, V.ref p15])) M2 = some (.lst [V.ref p1, V.ref p2, V.ref p3, V.ref p4, V.ref p5, V.ref p6, V.ref p7, V.ref p8, V.ref p9, V.ref p10, V.ref p11, V.ref p12, V.ref p13, V.ref p14, V.ref p15]) := upd_same
    generalize hgen : (upd G2 M2 (.lst [V.ref p1, V.ref p2, V.ref p3, V.ref p4, V.ref p5, V.ref p6, V.ref p7, V.ref p8, V.ref p9, V.ref p10, V.ref p11, V.ref p12, V.ref p13, V.ref p14, V.ref p15])) = K2 at X2 eM2
    change _ at hgen
    have AK2 := Same.dpAll X2 AL2
    have ZK2 := ZL2.trans X2
    rw [show (upd G2 M2 (.lst (_ ++ _))) = K2 from hgen]
    clear hgen
    have A2k := AK2
    have Z2k := ZK2
    have hLk2 := eM2
    refine ⟨_, rfl, ?_⟩
    refine ⟨by show 4 ≤ sizeLine; decide, fun p16 hp16 => ?_⟩
    have s16 := Same.new (Same.refl K2) hp16 (o := .tup [V.str (Str.ofString "shore"), V.int 2, V.int 1, V.int 2])
    have d16 : Dp K (upd K2 p16 (.tup [V.str (Str.ofString "shore"), V.int 2, V.int 1, V.int 2])) (.ref p16) (Ins.d (Ins.shore (Nm.i 2) (Nm.i 1) (Nm.i 2))) := .tup (.inl (.inl upd_same)) (.cons (.str _) (.cons (.int _) (.cons (.int _) (.cons (.int _) (.nil)))))
    have S16 : Same K2 (upd K2 p16 (.tup [V.str (Str.ofString "shore"), V.int 2, V.int 1, V.int 2])) := s16
    clear s16
    generalize (upd K2 p16 (.tup [V.str (Str.ofString "shore"), V.int 2, V.int 1, V.int 2])) = H16 at d16 S16 ⊢
    have A16 := dpAll_app (Same.dpAll S16 A2k) (.cons d16 .nil)
    have Z16 := Z2k.trans S16
    have hLM2_16 := S16 _ _ hLk2
    refine ⟨by show 4 ≤ sizeLine; decide, fun p17 hp17 => ?_⟩
    have s17 := Same.new (Same.refl H16) hp17 (o := .tup [V.str (Str.ofString "shore"), V.int 1, V.int 2, V.int 1])
    have d17 : Dp K (upd H16 p17 (.tup [V.str (Str.ofString "shore"), V.int 1, V.int 2, V.int 1])) (.ref p17) (Ins.d (Ins.shore (Nm.i 1) (Nm.i 2) (Nm.i 1))) := .tup (.inl (.inl upd_same)) (.cons (.str _) (.cons (.int _) (.cons (.int _) (.cons (.int _) (.nil)))))
    have S17 : Same H16 (upd H16 p17 (.tup [V.str (Str.ofString "shore"), V.int 1, V.int 2, V.int 1])) := s17
    clear s17
    generalize (upd H16 p17 (.tup [V.str (Str.ofString "shore"), V.int 1, V.int 2, V.int 1])) = H17 at d17 S17 ⊢
    have A17 := dpAll_app (Same.dpAll S17 A16) (.cons d17 .nil)
    have Z17 := Z16.trans S17
    have hLM2_17 := S17 _ _ hLM2_16
    refine ⟨by show 1 ≤ sizeLine; decide, fun q18 hq18 => ?_⟩
    have t18 := Same.new (Same.refl H17) hq18 (o := .tup [V.bl true])
    have u18 : (upd H17 q18 (.tup [V.bl true])) q18 = some (.tup [V.bl true]) := upd_same
    refine ⟨by show 2 ≤ sizeLine; decide, fun p18 hp18 => ?_⟩
    have s18 := Same.new (Same.refl (upd H17 q18 (.tup [V.bl true]))) hp18 (o := .tup [V.str (Str.ofString "turn"), V.ref q18])
    have d18 : Dp K (upd (upd H17 q18 (.tup [V.bl true])) p18 (.tup [V.str (Str.ofString "turn"), V.ref q18])) (.ref p18) (Ins.d (Ins.turn [Nm.b true])) := .tup (.inl (.inl upd_same)) (.cons (.str _) (.cons (.tup (.inl (.inl (s18 _ _ u18))) (.cons (.bl _) (.nil))) (.nil)))
    have S18 : Same H17 (upd (upd H17 q18 (.tup [V.bl true])) p18 (.tup [V.str (Str.ofString "turn"), V.ref q18])) := t18.trans s18
    clear s18 t18 u18
    generalize (upd (upd H17 q18 (.tup [V.bl true])) p18 (.tup [V.str (Str.ofString "turn"), V.ref q18])) = H18 at d18 S18 ⊢
    have A18 := dpAll_app (Same.dpAll S18 A17) (.cons d18 .nil)
    have Z18 := Z17.trans S18
    have hLM2_18 := S18 _ _ hLM2_17
    refine ⟨by show 3 ≤ sizeLine; decide, fun p19 hp19 => ?_⟩
    have s19 := Same.new (Same.refl H18) hp19 (o := .tup [V.str (Str.ofString "walk"), V.int 1, V.bl true])
    have d19 : Dp K (upd H18 p19 (.tup [V.str (Str.ofString "walk"), V.int 1, V.bl true])) (.ref p19) (Ins.d (Ins.walk (Nm.i 1) (Nm.b true))) := .tup (.inl (.inl upd_same)) (.cons (.str _) (.cons (.int _) (.cons (.bl _) (.nil))))
    have S19 : Same H18 (upd H18 p19 (.tup [V.str (Str.ofString "walk"), V.int 1, V.bl true])) := s19
    clear s19
    generalize (upd H18 p19 (.tup [V.str (Str.ofString "walk"), V.int 1, V.bl true])) = H19 at d19 S19 ⊢
    have A19 := dpAll_app (Same.dpAll S19 A18) (.cons d19 .nil)
    have Z19 := Z18.trans S19
    have hLM2_19 := S19 _ _ hLM2_18
    refine ⟨by show 4 ≤ sizeLine; decide, fun L3 hL3 => ?_⟩
    have W3 := Same.new (Same.refl H19) hL3 (o := .lst [V.ref p16, V.ref p17, V.ref p18, V.ref p19])
    have eL3 : (upd H19 L3 (.lst [V.ref p16, V.ref p17, V.ref p18, V.ref p19])) L3 = some (.lst [V.ref p16, V.ref p17, V.ref p18, V.ref p19]) := upd_same
    generalize (upd H19 L3 (.lst [V.ref p16, V.ref p17, V.ref p18, V.ref p19])) = G3 at W3 eL3 ⊢
    have AL3 := Same.dpAll W3 A19
    have ZL3 := Z19.trans W3
    have f3 := W3 _ _ hLM2_19
    refine ⟨_, L3, _, _, rfl, rfl, f3, eL3, by show 19 ≤ sizeLine; decide, fun M3 hM3 => ?_⟩
    have X3 := Same.new (Same.refl G3) hM3 (o := .lst [V.ref p1, V.ref p2, V.ref p3, V.ref p4, V.ref p5, V.ref p6, V.ref p7, V.ref p8, V.ref p9, V.ref p10, V.ref p11, V.ref p12, V.ref p13, V.ref p14, V.ref p15, V.ref p16, V.ref p17, V.ref p18, V.ref p19])
    have eM3 : (upd G3 M3 (.lst [V.ref p1, V.ref p2, V.ref p3, V.ref p4, V.ref p5, V.ref p6, V.ref p7, V.ref p8, V.ref p9, V.ref p10, V.ref p11, V.ref p12, V.ref p13, V.ref p14, V.ref p15, V.ref p16, V.ref p17, V.ref p18, V.ref p19])) M3 = some (.lst [V.ref p1, V.ref p2, V.ref p3, V.ref p4, V.ref p5, V.ref p6, V.ref p7, V.ref p8, V.ref p9, V.ref p10, V.ref p11, V.ref p12, V.ref p13, V.ref p14, V.ref p15, V.ref p16, V.ref p17, V.ref p18, V.ref p19]) := upd_same
    generalize hgen : (upd G3 M3 (.lst [V.ref p1, V.ref p2, V.ref p3, V.ref p4, V.ref p5, V.ref p6, V.ref p7, V.ref p8, V.ref p9, V.ref p10, V.ref p11, V.ref p12, V.ref p13, V.ref p14, V.ref p15, V.ref p16, V.ref p17, V.ref p18, V.ref p19])) = K3 at X3 eM3
    change _ at hgen
    have AK3 := Same.dpAll X3 AL3
    have ZK3 := ZL3.trans X3
    rw [show (upd G3 M3 (.lst (_ ++ _))) = K3 from hgen]
    clear hgen
    have A3k := AK3
    have Z3k := ZK3
    have hLk3 := eM3
    have hS := eM3
    have AO : DpAll K K3 _ (odds.map Ins.d) := AK3
    have B3 := B.same ZK3
    have mb : M3 ≠ b ∧ M3 ≠ l := by
      obtain ⟨_, _, x1, x2, _⟩ := B3.ex
      exact ⟨(fun e => by rw [← e, hS] at x1; cases x1), (fun e => by
        obtain ⟨ns, z, x1, x2, _⟩ := B3.ex
        rw [← e, hS] at x2
        have x3 := HO.lst.inj (Option.some.inj x2)
        cases ns with
        | nil => cases x3
        | cons n r => injection x3 with x4 _; cases x4)⟩
    refine ⟨_, rfl, _, rfl, _, rfl, M3, _, rfl, .inl (.inl (.inl hS)), b, l, _, rfl, B3, (by show (0 : Int) < 19; decide), (by show (19 : Int) ≤ 1000000; decide), fun n H' a1 a2 B4 K4 => ?_⟩
    have hn : n.toNat < odds.length := by
      have : (odds.length : Int) = 19 := rfl
      have a2 : n < 19 := a2
      omega
    have hoi : odds[n.toNat]? = some odds[n.toNat] := by simp [hn]
    obtain ⟨v, h1, h2⟩ := dpAll_at AO (i := n.toNat) (e := (odds[n.toNat]).d) (by rw [List.getElem?_map, hoi]; rfl)
    obtain ⟨o1, o2, o3⟩ := odds_bad _ (List.getElem_mem hn)
    have hat := atI_nat h1
    rw [Int.toNat_of_nonneg a1] at hat
    refine ⟨M3, _, n, v, rfl, rfl, .inl (.inl (K4 M3 _ hS mb.1 mb.2)), hat, ?_⟩
    exact k _ v H' o1 o2 o3 (dp_kp B3 K4 (noL_ins _) h2) B4 ((Kp.of ZK3).trans K4)
end
end Om

namespace Om
open PySem PySem.Spec PyProof.Rows L2 LamX He OmH
/-! ### facts of the top by own Bools -/
def oexB (K : PySem.W.Frag) (C : Addr) : Bool := (match K.lookup C with
  | some ⟨.type t, _, .cls cd, sl⟩ => decide (t = "type") && (cd.hasDict && (!cd.hasDel && ((match cd.mro with
    | .ref c :: bm => decide (c = C) && PySem.HandSPX.refsVE bm
    | _ => false) && (match sl.toList with
    | [_, _, _, _, some (.builtin n), _] => decide (n = "ValueError.__new__")
    | _ => false))))
  | _ => false) && (eqO (PySem.W.findIn K (.ref C) "__setattr__") (some (some (.builtin "object.__setattr__"))) && (decide (PySem.W.subIn K (.ref C) (.type "BaseException") = some true) && (decide (PySem.W.typeIn K (.ref C) = some (.type "type")) && PySem.W.keepIn K (.ref C))))
theorem oexB_ok {K : PySem.W.Frag} {C : Addr} (h : oexB K C = true) : OexC K C := by
  obtain ⟨h1, h2⟩ := ba h
  obtain ⟨h2, h3⟩ := ba h2
  obtain ⟨h3, h4⟩ := ba h3
  obtain ⟨h4, h5⟩ := ba h4
  refine ⟨?_, eqO_ok h2, of_decide_eq_true h3, of_decide_eq_true h4, h5⟩
  clear h h2 h3 h4 h5
  cases e : K.lookup C with
  | none => rw [e] at h1; cases h1
  | some o =>
    rw [e] at h1
    obtain ⟨oc, od, dt, sl⟩ := o
    cases oc with
    | type t =>
      cases dt with
      | cls cd =>
        obtain ⟨a1, a2⟩ := ba h1
        obtain ⟨a2, a3⟩ := ba a2
        obtain ⟨a3, a4⟩ := ba a3
        obtain ⟨a4, a5⟩ := ba a4
        obtain ⟨nm, bs, mro, ns, qn, hd, sn, sb, ab, col, del⟩ := cd
        have e1 : t = "type" := of_decide_eq_true a1
        have e2 : hd = true := a2
        have e3 : del = false := by
          have a3 : (!del) = true := a3
          cases del with
          | true => cases a3
          | false => rfl
        clear a1 a2 a3 h1
        subst e1 e2 e3
        cases mro with
        | nil => cases a4
        | cons v bm =>
          cases v with
          | ref c =>
            obtain ⟨b1, b2⟩ := ba (show (decide (c = C) && PySem.HandSPX.refsVE bm) = true from a4)
            have e4 : c = C := of_decide_eq_true b1
            clear b1 a4
            subst e4
            obtain ⟨sl⟩ := sl
            split at a5
            · rename_i q
              have e5 := of_decide_eq_true a5
              have e6 : sl = _ := q
              subst e5 e6
              exact ⟨_, _, _, _, _, _, _, _, _, _, _, _, _, _, _, rfl, b2⟩
            · cases a5
          | _ => cases a4
      | _ => cases h1
    | _ => cases dt <;> cases h1
def excCB (K : PySem.W.Frag) (D : Addr) : Bool := xfB K D && (eqO (PySem.W.findIn K (.ref D) "__class__") (some (some (.builtin "object.__class__"))) && (eqO (PySem.W.specialIn K (.builtin "object.__class__") "__get__") (some (some (.builtin "getset_descriptor.__get__"))) &&
  (decide (PySem.W.takesIn K (.builtin "object.__class__") = some true) && decide (PySem.W.mroIn K D (.type "object") = some true))))
theorem excCB_ok {K : PySem.W.Frag} {D : Addr} (h : excCB K D = true) : ExcC K D := by
  obtain ⟨h1, h2⟩ := ba h
  obtain ⟨h2, h3⟩ := ba h2
  obtain ⟨h3, h4⟩ := ba h3
  obtain ⟨h4, h5⟩ := ba h4
  obtain ⟨x1, x2, x3, x4⟩ := xfB_ok h1
  exact ⟨x1, x2, x3, x4, eqO_ok h2, eqO_ok h3, of_decide_eq_true h4, of_decide_eq_true h5⟩
abbrev Ce (K : PySem.W.Frag) (i : Nat) : Addr := ga K (nmE i)
def kitB7 (K : PySem.W.Frag) : Bool := (List.range 7).all fun i => decide (PySem.W.kitOne K (.ref (Ce K i)) (.type "ValueError") = some true) && (excCB K (Ce K i) && (decide (PySem.W.exmOne K (.ref (Ce K i)) (.ref (ga K "MapError")) = some true) && (List.range 7).all fun j => decide (PySem.W.kitOne K (.ref (Ce K i)) (.ref (Ce K j)) = some (decide (j = i)))))
/-- an error class with an own __init__ -/
def errIB (K : PySem.W.Frag) (x : Str) : Bool := oexB K (ga K x) && (eqO (PySem.W.findIn K (.ref (ga K x)) "__init__") (some (some (.ref (ma K (ga K x) "__init__")))) && decide (PySem.W.typeIn K (.ref (ma K (ga K x) "__init__")) = some (.type "function")))
/-- an own special method -/
def ownB (K : PySem.W.Frag) (C : Addr) (n : Str) : Bool := eqO (PySem.W.findIn K (.ref C) n) (some (some (.ref (ma K C n)))) && (PySem.W.isFn K (.ref (ma K C n)) && PySem.W.fnIn K (ma K C n))
theorem ownB_ok {K : PySem.W.Frag} {C : Addr} {n : Str} (h : ownB K C n = true) : OwnM K C n (ma K C n) := by
  obtain ⟨h1, h2⟩ := ba h
  obtain ⟨h2, h3⟩ := ba h2
  exact ⟨eqO_ok h1, h2, h3⟩
def insB (K : PySem.W.Frag) (C : Addr) : Bool := eqO (PySem.W.findIn K (.ref C) "__class__") (some (some (.builtin "object.__class__"))) && (eqO (PySem.W.specialIn K (.builtin "object.__class__") "__get__") (some (some (.builtin "getset_descriptor.__get__"))) &&
  (decide (PySem.W.takesIn K (.builtin "object.__class__") = some true) && decide (PySem.W.mroIn K C (.type "object") = some true)))
theorem insB_ok {K : PySem.W.Frag} {C : Addr} (h : insB K C = true) : InsF K C := by
  obtain ⟨h1, h2⟩ := ba h
  obtain ⟨h2, h3⟩ := ba h2
  obtain ⟨h3, h4⟩ := ba h3
  exact ⟨eqO_ok h1, eqO_ok h2, of_decide_eq_true h3, of_decide_eq_true h4⟩
def exB (K : PySem.W.Frag) : Bool := kitB7 K && (errIB K "InvalidIsland" && (errIB K "InvalidMap" && (ownB K (ga K "Island") "__eq__" && (insB K (ga K "Island") && (ownB K (ga K "Map") "__eq__" && (insB K (ga K "Map") && (ownB K (ga K "Map") "__len__" && (ownB K (ga K "Map") "__getitem__" && (ownB K (ga K "Map") "__add__" &&
  (PySem.W.selfFirst K (ga K "Map") && (propB K (ga K "Map") "island" && (propB K (ga K "Map") "signs" && (propB K (ga K "Map") "facings" && propB K (ga K "Map") "instructions")))))))))))))
def fa : List Fa := [.free "int", .free "list", .free "len", .free "range", .free "tuple", .free "max", .free "min", .free "enumerate", .free "isinstance", .free "ValueError", .free "bool", .free "str", .free "all", .free "zip", .free "sorted",
  .str "ALL_SIGNS" allSigns, .str "LAND_SIGNS" (Str.ofString ".ABCDEFGHIJKLMNOPQRSTUVWXYZ"), .int "LARGEST" 12, .int "MOST_PACES" 20, .int "MOST_AWAY" 22, .int "MOST_INSTRUCTIONS" 20,
  .glo "MapError", .glo "InvalidIsland", .glo "InvalidMap", .glo "InvalidNumber", .glo "NoBeginning", .glo "NoWay", .glo "TooMany", .glo "UnknownCell", .glo "Island", .glo "Map",
  .glo "_check_rows", .glo "_first_wrong_column", .glo "in_range", .glo "ascending_numbers", .glo "ascending_signs", .glo "is_instruction", .glo "_is_side", .glo "_are_paces", .glo "_check_instructions"]
def fa2 : List Fa := [.glo "_law_begun", .glo "_law_take", .glo "_law_alike", .glo "_law_rows", .glo "_law_signs", .glo "_law_turns", .glo "_law_instruction", .glo "_law_error", .glo "_law_odd", .glo "law",
  .cls "Island", .mkr "Island", .noat "Island" "_rows", .cls "Map", .mkr "Map", .noat "Map" "_island", .noat "Map" "_signs", .noat "Map" "_facings", .noat "Map" "_instructions", .meth "Map" "until", .meth "Map" "without", .meth "Map" "with_instructions",
  .noat "InvalidIsland" "row", .noat "InvalidIsland" "column", .noat "InvalidMap" "index"]
def dG (x : Str) (st : Stmt) : He.DefD := ⟨(x, none), x, x, defArgs st, defBody st, defScope st, [], []⟩
def dM (c x q : Str) (st : Stmt) : He.DefD := ⟨(c, some x), x, q, defArgs st, defBody st, defScope st, [], []⟩
def fnD : List He.DefD := [dG "_law_begun" (top 34), dG "_law_take" (top 35), dG "_law_alike" (top 36), dG "_law_rows" (top 37), dG "_law_signs" (top 38), dG "_law_turns" (top 39), dG "_law_instruction" (top 40), dG "_law_error" (top 41), dG "_law_odd" (top 42), dG "law" (top 43),
  dG "in_range" (top 5), dG "ascending_numbers" (top 6), dG "ascending_signs" (top 7), dG "is_instruction" (top 20), dG "_is_side" (top 21), dG "_are_paces" (top 22), dG "_check_instructions" (top 26), dG "_check_rows" (top 31), dG "_first_wrong_column" (top 32),
  dM "Island" "__init__" "Island.__init__" sIslI, dM "Island" "__eq__" "Island.__eq__" (sIslM 10), dM "InvalidIsland" "__init__" "InvalidIsland.__init__" sII, dM "InvalidMap" "__init__" "InvalidMap.__init__" sIM,
  dM "Map" "__init__" "Map.__init__" (sMapM 0), dM "Map" "until" "Map.until" (sMapM 5), dM "Map" "without" "Map.without" (sMapM 6), dM "Map" "with_instructions" "Map.with_instructions" (sMapM 7), dM "Map" "__len__" "Map.__len__" (sMapM 9),
  dM "Map" "__getitem__" "Map.__getitem__" (sMapM 10), dM "Map" "__add__" "Map.__add__" (sMapM 12), dM "Map" "__eq__" "Map.__eq__" (sMapM 13)]
def gG (c x q : Str) (st : Stmt) : OmH.DefA := ⟨fun K => getA K (ga K c) x, x, q, defArgs st, defBody st, defScope st⟩
def gsD : List OmH.DefA := [gG "Map" "island" "Map.island" (sMapM 1), gG "Map" "signs" "Map.signs" (sMapM 2), gG "Map" "facings" "Map.facings" (sMapM 3), gG "Map" "instructions" "Map.instructions" (sMapM 4)]
def tfD : List He.Defn := [("law", none)]
abbrev R : PySem.W.OpenRow := PySem.W.OpenLaw.row PySem.Challenge.rw_oldmap_k03_maps_validated
abbrev hk : PySem.W.Hook := OmH.hookY 6 (fa ++ fa2) fnD [] tfD gsD exB
def ob (s : PySem.W.SharedT) : OmH.AlY := OmH.obsY 6 (fa ++ fa2) fnD [] tfD gsD exB (HandSHeadRun.getT s)
theorem ob_eq (s : PySem.W.SharedT) : ob s = hk.obs s.abs := OmH.obsY_eq (HandSHeadRun.getT_eq s)
def loose2 : List Str := ["LARGEST", "Island", "_lies_within", "_check_rows", "_first_wrong_column", "_law_begun", "_law_take", "_law_alike", "_law_rows", "_law_signs", "_law_turns", "_law_instruction", "_law_error", "_law_odd"]
def loose1 : List Str := ["_wall", "WATER", "LAND_SIGNS", "ALL_SIGNS", "in_range", "ascending_numbers", "ascending_signs", "MapError", "InvalidIsland", "InvalidMap", "InvalidNumber", "UnknownCell", "NoBeginning", "NoWay", "TooMany", "MOST_PACES", "MOST_AWAY", "is_instruction", "_is_side", "_are_paces", "MOST_INSTRUCTIONS", "Map", "_check_instructions"]
def loose : List Str := loose1 ++ loose2
theorem run (w : World) : HandSHeadRun.RunEq R (PySem.W.view R.prog [43]) hk ob 9000 loose w := by
  intro os
  kernel_rfl
end Om

namespace Om
open PySem PySem.Spec PyProof.Rows L2 LamX He OmH
/-! ### what the law's def leans on, from the head's facts -/
theorem passE0 {P : Program} {w : World} {X : Cx} : Passes (L2.CX P w) X E0 := fun pins σ H s e s' I h => by
  obtain ⟨a, B, H', cls, d, _, _, _, _, _, _, _, z⟩ := h
  exact z.elim
/-- a method as its callers know it -/
structure CalM (P : Program) (w : World) (K : PySem.W.Frag) (mg : Str → Option Value) (base : Heap) (CX : CXT) (k : Nat) (f : Addr) (ps : List Str) (sp : Sp) : Prop where
  ex : ∃ fd : FuncData, FnOk P w K mg base CX k f fd ps sp ∧ Binds K fd ps []
abbrev gI (K : PySem.W.Frag) : Addr := ga K "Island"
abbrev gMp (K : PySem.W.Frag) : Addr := ga K "Map"
structure Parts (P : Program) (w : World) (K : PySem.W.Frag) (mg : Str → Option Value) (base : Heap) : Prop where
  beg : Cal P w K mg base CX0 1 "_law_begun" ["_law_script"] (spBegun K)
  tak : Cal P w K mg base CX0 1 "_law_take" ["_law_box", "_law_many"] spTake
  alk : Cal P w K mg base CX0 6 "_law_alike" ["_law_found", "_law_due"] (spAlike K 5)
  row : Cal P w K mg base CX0 2 "_law_rows" ["_law_box", "_law_most"] spRows
  sig : Cal P w K mg base CX0 2 "_law_signs" ["_law_box", "_law_known"] spSigns
  tur : Cal P w K mg base CX0 2 "_law_turns" ["_law_box"] spTurns
  ins : Cal P w K mg base CX0 3 "_law_instruction" ["_law_box"] (spInstr K)
  odd : Cal P w K mg base CX0 2 "_law_odd" ["_law_box"] (spOdd K)
  isl : IslF K mg (gI K) (ma K (gI K) "__init__")
  map : MapF K mg (gMp K) (ma K (gMp K) "__init__")
  mkI : CalM P w K mg base (L2.CX P w) 4 (ma K (gI K) "__init__") ["self", "rows"] (spIsl K (gI K) (Ce K 0))
  mkM : CalM P w K mg base (L2.CX P w) 5 (ma K (gMp K) "__init__") nMapI (spMapI K (gMp K) (Ce K 1))
  upt : CalM P w K mg base (L2.CX P w) 8 (ma K (gMp K) "until") ["self", "number"] (spUpto K (gMp K) (gI K))
  wit : CalM P w K mg base (L2.CX P w) 7 (ma K (gMp K) "with_instructions") ["self", "instructions"] (spWith K (gMp K) (gI K) (Ce K 1))
  wou : CalM P w K mg base (L2.CX P w) 8 (ma K (gMp K) "without") ["self", "indexes"] (spWithout K (gMp K) (gI K))
  len : CalM P w K mg base CX0 1 (ma K (gMp K) "__len__") ["self"] (spMLen K (gMp K) (gI K))
  get : CalM P w K mg base CX0 1 (ma K (gMp K) "__getitem__") ["self", "index"] (spMGet K (gMp K) (gI K))
  add : CalM P w K mg base (L2.CX P w) 7 (ma K (gMp K) "__add__") ["self", "other"] (spAdd K (gMp K) (gI K) (Ce K 1))
  eqM : CalM P w K mg base CX0 2 (ma K (gMp K) "__eq__") ["self", "other"] (spMEq K (gMp K) (gI K))
  eqI : CalM P w K mg base CX0 1 (ma K (gI K) "__eq__") ["self", "other"] (spIEq K (gI K))
  pIs : CalM P w K mg base CX0 1 (getA K (gMp K) "island") ["self"] (getSp (gMp K) "_island")
  pSg : CalM P w K mg base CX0 1 (getA K (gMp K) "signs") ["self"] (getSp (gMp K) "_signs")
  pFc : CalM P w K mg base CX0 1 (getA K (gMp K) "facings") ["self"] (getSp (gMp K) "_facings")
  pIn : CalM P w K mg base CX0 1 (getA K (gMp K) "instructions") ["self"] (getSp (gMp K) "_instructions")
  err : ErrF K mg (Ce K) (ga K "MapError")
theorem lt7 {i : Nat} (h : i < 7) : i ∈ List.range 7 := List.mem_range.mpr h
theorem kit7 {K : PySem.W.Frag} (h : kitB7 K = true) {i : Nat} (hi : i < 7) : PySem.W.kitOne K (.ref (Ce K i)) (.type "ValueError") = some true ∧ ExcC K (Ce K i) ∧ PySem.W.exmOne K (.ref (Ce K i)) (.ref (ga K "MapError")) = some true ∧ ∀ j, j < 7 → PySem.W.kitOne K (.ref (Ce K i)) (.ref (Ce K j)) = some (decide (j = i)) := by
  have h1 := List.all_eq_true.mp h i (lt7 hi)
  obtain ⟨a, b⟩ := ba h1
  obtain ⟨b, c⟩ := ba b
  obtain ⟨c, d⟩ := ba c
  exact ⟨of_decide_eq_true a, excCB_ok b, of_decide_eq_true c, fun j hj => of_decide_eq_true (List.all_eq_true.mp d j (lt7 hj))⟩
theorem errIB_ok {K : PySem.W.Frag} {x : Str} (h : errIB K x = true) : OexC K (ga K x) ∧ PySem.W.findIn K (.ref (ga K x)) "__init__" = some (some (.ref (ma K (ga K x) "__init__"))) ∧ PySem.W.typeIn K (.ref (ma K (ga K x) "__init__")) = some (.type "function") := by
  obtain ⟨h1, h2⟩ := ba h
  obtain ⟨h2, h3⟩ := ba h2
  exact ⟨oexB_ok h1, eqO_ok h2, of_decide_eq_true h3⟩
theorem in7 : ∀ i, i < 7 → Fa.glo (nmE i) ∈ fa ++ fa2 := fun i hi => by
  have e : i = 0 ∨ i = 1 ∨ i = 2 ∨ i = 3 ∨ i = 4 ∨ i = 5 ∨ i = 6 := by omega
  rcases e with rfl | rfl | rfl | rfl | rfl | rfl | rfl <;> simp [fa, nmE]
theorem b1 {K : PySem.W.Frag} {x q a : Str} {st : Stmt} {f : Addr} {fd : FuncData} (F : FnP K x q st f fd) (h : ∀ (kV doc pm : Value) (an : Option Addr) (cdv ct : Value) (u : Value), bindArgs (PySem.W.fnOf x q (defArgs st) (defBody st) (defScope st) .none kV doc pm an cdv ct) ⟨[u], []⟩ = pure [(a, u)]) : Binds K fd [a] [] :=
  FunD.bindsN F fun _ _ _ _ _ _ us hl => match us, hl with | [_], _ => h ..
theorem b2 {K : PySem.W.Frag} {x q a b : Str} {st : Stmt} {f : Addr} {fd : FuncData} (F : FnP K x q st f fd) (h : ∀ (kV doc pm : Value) (an : Option Addr) (cdv ct : Value) (u v : Value), bindArgs (PySem.W.fnOf x q (defArgs st) (defBody st) (defScope st) .none kV doc pm an cdv ct) ⟨[u, v], []⟩ = pure [(a, u), (b, v)]) : Binds K fd [a, b] [] :=
  FunD.bindsN F fun _ _ _ _ _ _ us hl => match us, hl with | [_, _], _ => h ..
theorem b3 {K : PySem.W.Frag} {x q a b c : Str} {st : Stmt} {f : Addr} {fd : FuncData} (F : FnP K x q st f fd) (h : ∀ (kV doc pm : Value) (an : Option Addr) (cdv ct : Value) (u v z : Value), bindArgs (PySem.W.fnOf x q (defArgs st) (defBody st) (defScope st) .none kV doc pm an cdv ct) ⟨[u, v, z], []⟩ = pure [(a, u), (b, v), (c, z)]) : Binds K fd [a, b, c] [] :=
  FunD.bindsN F fun _ _ _ _ _ _ us hl => match us, hl with | [_, _, _], _ => h ..
theorem parts_at {P : Program} {w : World} {K : PySem.W.Frag} {h base : Heap} {mg : Str → Option Value} (X : K.In h) (G : h.Ns mainGlobals mg) (c : He.SaysX (fa ++ fa2) fnD [] tfD exB w h K) (cg : obsA gsD K = valA gsD) : Parts P w K mg base := by
  have d := c.t.d
  obtain ⟨f0, F0⟩ := d.def_ 0 (d := dG "_law_begun" (top 34)) rfl
  have F0 : FnP K "_law_begun" "_law_begun" (top 34) _ f0 := F0
  obtain ⟨f1, F1⟩ := d.def_ 1 (d := dG "_law_take" (top 35)) rfl
  have F1 : FnP K "_law_take" "_law_take" (top 35) _ f1 := F1
  obtain ⟨f2, F2⟩ := d.def_ 2 (d := dG "_law_alike" (top 36)) rfl
  have F2 : FnP K "_law_alike" "_law_alike" (top 36) _ f2 := F2
  obtain ⟨f3, F3⟩ := d.def_ 3 (d := dG "_law_rows" (top 37)) rfl
  have F3 : FnP K "_law_rows" "_law_rows" (top 37) _ f3 := F3
  obtain ⟨f4, F4⟩ := d.def_ 4 (d := dG "_law_signs" (top 38)) rfl
  have F4 : FnP K "_law_signs" "_law_signs" (top 38) _ f4 := F4
  obtain ⟨f5, F5⟩ := d.def_ 5 (d := dG "_law_turns" (top 39)) rfl
  have F5 : FnP K "_law_turns" "_law_turns" (top 39) _ f5 := F5
  obtain ⟨f6, F6⟩ := d.def_ 6 (d := dG "_law_instruction" (top 40)) rfl
  have F6 : FnP K "_law_instruction" "_law_instruction" (top 40) _ f6 := F6
  obtain ⟨f8, F8⟩ := d.def_ 8 (d := dG "_law_odd" (top 42)) rfl
  have F8 : FnP K "_law_odd" "_law_odd" (top 42) _ f8 := F8
  obtain ⟨f10, F10⟩ := d.def_ 10 (d := dG "in_range" (top 5)) rfl
  have F10 : FnP K "in_range" "in_range" (top 5) _ f10 := F10
  obtain ⟨f11, F11⟩ := d.def_ 11 (d := dG "ascending_numbers" (top 6)) rfl
  have F11 : FnP K "ascending_numbers" "ascending_numbers" (top 6) _ f11 := F11
  obtain ⟨f12, F12⟩ := d.def_ 12 (d := dG "ascending_signs" (top 7)) rfl
  have F12 : FnP K "ascending_signs" "ascending_signs" (top 7) _ f12 := F12
  obtain ⟨f13, F13⟩ := d.def_ 13 (d := dG "is_instruction" (top 20)) rfl
  have F13 : FnP K "is_instruction" "is_instruction" (top 20) _ f13 := F13
  obtain ⟨f14, F14⟩ := d.def_ 14 (d := dG "_is_side" (top 21)) rfl
  have F14 : FnP K "_is_side" "_is_side" (top 21) _ f14 := F14
  obtain ⟨f15, F15⟩ := d.def_ 15 (d := dG "_are_paces" (top 22)) rfl
  have F15 : FnP K "_are_paces" "_are_paces" (top 22) _ f15 := F15
  obtain ⟨f16, F16⟩ := d.def_ 16 (d := dG "_check_instructions" (top 26)) rfl
  have F16 : FnP K "_check_instructions" "_check_instructions" (top 26) _ f16 := F16
  obtain ⟨f17, F17⟩ := d.def_ 17 (d := dG "_check_rows" (top 31)) rfl
  have F17 : FnP K "_check_rows" "_check_rows" (top 31) _ f17 := F17
  obtain ⟨f18, F18⟩ := d.def_ 18 (d := dG "_first_wrong_column" (top 32)) rfl
  have F18 : FnP K "_first_wrong_column" "_first_wrong_column" (top 32) _ f18 := F18
  obtain ⟨f19, F19⟩ := d.def_ 19 (d := dM "Island" "__init__" "Island.__init__" sIslI) rfl
  have F19 : FnP K "__init__" "Island.__init__" sIslI _ f19 := F19
  obtain ⟨f20, F20⟩ := d.def_ 20 (d := dM "Island" "__eq__" "Island.__eq__" (sIslM 10)) rfl
  have F20 : FnP K "__eq__" "Island.__eq__" (sIslM 10) _ f20 := F20
  obtain ⟨f21, F21⟩ := d.def_ 21 (d := dM "InvalidIsland" "__init__" "InvalidIsland.__init__" sII) rfl
  have F21 : FnP K "__init__" "InvalidIsland.__init__" sII _ f21 := F21
  obtain ⟨f22, F22⟩ := d.def_ 22 (d := dM "InvalidMap" "__init__" "InvalidMap.__init__" sIM) rfl
  have F22 : FnP K "__init__" "InvalidMap.__init__" sIM _ f22 := F22
  obtain ⟨f23, F23⟩ := d.def_ 23 (d := dM "Map" "__init__" "Map.__init__" (sMapM 0)) rfl
  have F23 : FnP K "__init__" "Map.__init__" (sMapM 0) _ f23 := F23
  obtain ⟨f24, F24⟩ := d.def_ 24 (d := dM "Map" "until" "Map.until" (sMapM 5)) rfl
  have F24 : FnP K "until" "Map.until" (sMapM 5) _ f24 := F24
  obtain ⟨f25, F25⟩ := d.def_ 25 (d := dM "Map" "without" "Map.without" (sMapM 6)) rfl
  have F25 : FnP K "without" "Map.without" (sMapM 6) _ f25 := F25
  obtain ⟨f26, F26⟩ := d.def_ 26 (d := dM "Map" "with_instructions" "Map.with_instructions" (sMapM 7)) rfl
  have F26 : FnP K "with_instructions" "Map.with_instructions" (sMapM 7) _ f26 := F26
  obtain ⟨f27, F27⟩ := d.def_ 27 (d := dM "Map" "__len__" "Map.__len__" (sMapM 9)) rfl
  have F27 : FnP K "__len__" "Map.__len__" (sMapM 9) _ f27 := F27
  obtain ⟨f28, F28⟩ := d.def_ 28 (d := dM "Map" "__getitem__" "Map.__getitem__" (sMapM 10)) rfl
  have F28 : FnP K "__getitem__" "Map.__getitem__" (sMapM 10) _ f28 := F28
  obtain ⟨f29, F29⟩ := d.def_ 29 (d := dM "Map" "__add__" "Map.__add__" (sMapM 12)) rfl
  have F29 : FnP K "__add__" "Map.__add__" (sMapM 12) _ f29 := F29
  obtain ⟨f30, F30⟩ := d.def_ 30 (d := dM "Map" "__eq__" "Map.__eq__" (sMapM 13)) rfl
  have F30 : FnP K "__eq__" "Map.__eq__" (sMapM 13) _ f30 := F30
  obtain ⟨g0, P0⟩ := getter cg 0 (d := gG "Map" "island" "Map.island" (sMapM 1)) rfl
  have P0 : FnP K "island" "Map.island" (sMapM 1) _ g0 := P0
  obtain ⟨g1, P1⟩ := getter cg 1 (d := gG "Map" "signs" "Map.signs" (sMapM 2)) rfl
  have P1 : FnP K "signs" "Map.signs" (sMapM 2) _ g1 := P1
  obtain ⟨g2, P2⟩ := getter cg 2 (d := gG "Map" "facings" "Map.facings" (sMapM 3)) rfl
  have P2 : FnP K "facings" "Map.facings" (sMapM 3) _ g2 := P2
  obtain ⟨g3, P3⟩ := getter cg 3 (d := gG "Map" "instructions" "Map.instructions" (sMapM 4)) rfl
  have P3 : FnP K "instructions" "Map.instructions" (sMapM 4) _ g3 := P3
  have fr : ∀ {x : Str}, Fa.free x ∈ fa ++ fa2 → mg x = none := fun hx => free_ok X G (d.facts hx)
  have gl : ∀ {x : Str}, Fa.glo x ∈ fa ++ fa2 → mg x = some (.ref (ga K x)) := fun hx => glo_ok X G (d.facts hx)
  have fact : ∀ {f : Fa}, f ∈ fa ++ fa2 → f.ok K = true := fun hf => d.facts hf
  have gint : mg "int" = none := fr (by simp [fa])
  have glist : mg "list" = none := fr (by simp [fa])
  have glen : mg "len" = none := fr (by simp [fa])
  have grange : mg "range" = none := fr (by simp [fa])
  have gtuple : mg "tuple" = none := fr (by simp [fa])
  have gmax : mg "max" = none := fr (by simp [fa])
  have gmin : mg "min" = none := fr (by simp [fa])
  have genum : mg "enumerate" = none := fr (by simp [fa])
  have gisi : mg "isinstance" = none := fr (by simp [fa])
  have gve : mg "ValueError" = none := fr (by simp [fa])
  have gbool : mg "bool" = none := fr (by simp [fa])
  have gstr : mg "str" = none := fr (by simp [fa])
  have gall : mg "all" = none := fr (by simp [fa])
  have gzip : mg "zip" = none := fr (by simp [fa])
  have gsorted : mg "sorted" = none := fr (by simp [fa])
  have sall := str_ok X G (fact (f := .str "ALL_SIGNS" allSigns) (by simp [fa]))
  have sland := str_ok X G (fact (f := .str "LAND_SIGNS" (Str.ofString ".ABCDEFGHIJKLMNOPQRSTUVWXYZ")) (by simp [fa]))
  have slarge := int_ok X G (fact (f := .int "LARGEST" 12) (by simp [fa]))
  have spac := int_ok X G (fact (f := .int "MOST_PACES" 20) (by simp [fa]))
  have sawy := int_ok X G (fact (f := .int "MOST_AWAY" 22) (by simp [fa]))
  have sins := int_ok X G (fact (f := .int "MOST_INSTRUCTIONS" 20) (by simp [fa]))
  obtain ⟨x1, x2⟩ := ba c.more
  obtain ⟨x2, x3⟩ := ba x2
  obtain ⟨x3, x4⟩ := ba x3
  obtain ⟨x4, x5⟩ := ba x4
  obtain ⟨x5, x6⟩ := ba x5
  obtain ⟨x6, x7⟩ := ba x6
  obtain ⟨x7, x8⟩ := ba x7
  obtain ⟨oII, iII, tII⟩ := errIB_ok x2
  obtain ⟨oIM, iIM, tIM⟩ := errIB_ok x3
  have nR := noat_ok (fact (f := .noat "InvalidIsland" "row") (by simp [fa, fa2]))
  have nC := noat_ok (fact (f := .noat "InvalidIsland" "column") (by simp [fa, fa2]))
  have nI := noat_ok (fact (f := .noat "InvalidMap" "index") (by simp [fa, fa2]))
  have isi : IsI K mg (Ce K 0) (ma K (Ce K 0) "__init__") := ⟨oII, nR, nC, iII, tII, gl (by simp [fa])⟩
  have ism : IsM K mg (Ce K 1) (ma K (Ce K 1) "__init__") := ⟨oIM, nI, iIM, tIM, gl (by simp [fa])⟩
  have isl : IslF K mg (gI K) (ma K (gI K) "__init__") := ⟨cls_ok (fact (f := .cls "Island") (by simp [fa, fa2])), noat_ok (fact (f := .noat "Island" "_rows") (by simp [fa, fa2])), mkr_ok (fact (f := .mkr "Island") (by simp [fa, fa2])), gl (by simp [fa])⟩
  have mp : MapF K mg (gMp K) (ma K (gMp K) "__init__") := ⟨cls_ok (fact (f := .cls "Map") (by simp [fa, fa2])), noat_ok (fact (f := .noat "Map" "_island") (by simp [fa, fa2])), noat_ok (fact (f := .noat "Map" "_signs") (by simp [fa, fa2])), noat_ok (fact (f := .noat "Map" "_facings") (by simp [fa, fa2])),
    noat_ok (fact (f := .noat "Map" "_instructions") (by simp [fa, fa2])), mkr_ok (fact (f := .mkr "Map") (by simp [fa, fa2])), gl (by simp [fa])⟩
  have xf : ∀ i, i < 7 → XfC K (Ce K i) := fun i hi => by
    obtain ⟨y1, y2, y3, y4, y5, y6, y7, y8⟩ := (kit7 x1 hi).2.1
    exact ⟨y1, y2, y3, y4⟩
  have er : ErrF K mg (Ce K) (ga K "MapError") := ⟨gl (by simp [fa]), fun i hi => glo_ok X G (d.facts (in7 i hi)), fun i hi => (kit7 x1 hi).2.2.1, fun i hi => (kit7 x1 hi).2.1, fun i j hi hj => (kit7 x1 hi).2.2.2 j hj, fun i hi => (kit7 x1 hi).1, xf 0 (by decide), nR, nC, xf 1 (by decide), nI, gisi, gve⟩
  have kTk : Cal P w K mg base CX0 1 "_law_take" ["_law_box", "_law_many"] spTake := ⟨_, _, ok_take F1 gint, gl (by simp [fa, fa2]), F1.kp, b2 F1 fun _ _ _ _ _ _ _ _ => rfl⟩
  have kRg : Cal P w K mg base CX0 1 "in_range" nInR spInN := ⟨_, _, ok_inN F10 gisi gint gbool, gl (by simp [fa, fa2]), F10.kp, b3 F10 fun _ _ _ _ _ _ _ _ _ => rfl⟩
  have kAN : Cal P w K mg base CX0 2 "ascending_numbers" ["numbers", "least", "most"] (spAscN K) := ⟨_, _, ok_ascN F11 kRg glen gall gzip, gl (by simp [fa, fa2]), F11.kp, b3 F11 fun _ _ _ _ _ _ _ _ _ => rfl⟩
  have kAS : Cal P w K mg base CX0 1 "ascending_signs" ["text", "allowed"] spAscS := ⟨_, _, ok_ascS F12, gl (by simp [fa, fa2]), F12.kp, b2 F12 fun _ _ _ _ _ _ _ _ => rfl⟩
  have kSd : Cal P w K mg base CX0 2 "_is_side" ["side"] spSide := ⟨_, _, ok_side F14 kRg, gl (by simp [fa, fa2]), F14.kp, b1 F14 fun _ _ _ _ _ _ _ => rfl⟩
  have kPa : Cal P w K mg base CX0 2 "_are_paces" ["least", "most"] spPaces := ⟨_, _, ok_paces F15 kRg spac, gl (by simp [fa, fa2]), F15.kp, b2 F15 fun _ _ _ _ _ _ _ _ => rfl⟩
  have sl2 : ∃ t, mg "LAND_SIGNS" = some (.str (tx lands) t) := by rw [← lands_tx]; exact sland
  have sa2 : ∃ t, mg "ALL_SIGNS" = some (.str (tx alls) t) := by rw [← alls_tx]; exact sall
  have kII : Cal P w K mg base CX0 3 "is_instruction" ["instruction"] (spIsIns K) := ⟨_, _, ok_isIns F13 kRg kAN kAS kPa kSd sl2 sa2 sawy, gl (by simp [fa, fa2]), F13.kp, b1 F13 fun _ _ _ _ _ _ _ => rfl⟩
  have bIM : Binds K f22 ["self", "index"] [] := b2 F22 fun _ _ _ _ _ _ _ _ => rfl
  have kCI : Cal P w K mg base (L2.CX P w) 4 "_check_instructions" ["instructions"] (spChkI K (Ce K 1)) := ⟨_, _, ok_chkI F16 ism (ok_IM F22 ism) bIM kII genum sins, gl (by simp [fa, fa2]), F16.kp, b1 F16 fun _ _ _ _ _ _ _ => rfl⟩
  have bM : Binds K f23 nMapI [] := FunD.bindsN F23 fun _ _ _ _ _ _ us hl => match us, hl with | [_, _, _, _, _], _ => rfl
  have okM : FnOk P w K mg base (L2.CX P w) 5 (ma K (gMp K) "__init__") f23 nMapI (spMapI K (gMp K) (Ce K 1)) := ok_mapI F23 mp ism (ok_IM F22 ism) bIM kCI kAN kAS sl2 gtuple
  have bW : Binds K f26 ["self", "instructions"] [] := b2 F26 fun _ _ _ _ _ _ _ _ => rfl
  have okW : FnOk P w K mg base (L2.CX P w) 7 (ma K (gMp K) "with_instructions") f26 ["self", "instructions"] (spWith K (gMp K) (gI K) (Ce K 1)) := ok_with F26 mp okM bM
  have mW := meth_ok (fact (f := .meth "Map" "with_instructions") (by simp [fa, fa2]))
  have kFw : Cal P w K mg base CX0 1 "_first_wrong_column" ["signs", "width"] spFwc := ⟨_, _, ok_fwc F18 grange glen sall, gl (by simp [fa, fa2]), F18.kp, b2 F18 fun _ _ _ _ _ _ _ _ => rfl⟩
  have bII : Binds K f21 ["self", "row", "column"] [] := b3 F21 fun _ _ _ _ _ _ _ _ _ => rfl
  have kCk : Cal P w K mg base (L2.CX P w) 3 "_check_rows" ["rows"] (spChk K (Ce K 0)) := ⟨_, _, ok_chk F17 isi (ok_II F21 isi) bII kFw glen gmax gmin genum slarge, gl (by simp [fa, fa2]), F17.kp, b1 F17 fun _ _ _ _ _ _ _ => rfl⟩
  have kSg : Cal P w K mg base CX0 2 "_law_signs" ["_law_box", "_law_known"] spSigns := ⟨_, _, ok_signs F4 kTk gsorted glen, gl (by simp [fa, fa2]), F4.kp, b2 F4 fun _ _ _ _ _ _ _ _ => rfl⟩
  have kTu : Cal P w K mg base CX0 2 "_law_turns" ["_law_box"] spTurns := ⟨_, _, ok_turns F5 kTk grange gtuple, gl (by simp [fa, fa2]), F5.kp, b1 F5 fun _ _ _ _ _ _ _ => rfl⟩
  have bAl : Binds K f2 ["_law_found", "_law_due"] [] := b2 F2 fun _ _ _ _ _ _ _ _ => rfl
  have gAl : mg "_law_alike" = some (.ref (ga K "_law_alike")) := gl (by simp [fa, fa2])
  have bQ : Binds K f20 ["self", "other"] [] := b2 F20 fun _ _ _ _ _ _ _ _ => rfl
  exact {
    beg := ⟨_, _, ok_begun F0 gint glist glen, gl (by simp [fa, fa2]), F0.kp, b1 F0 fun _ _ _ _ _ _ _ => rfl⟩
    tak := kTk
    alk := ⟨_, _, ok_alike F2 gAl F2.kp bAl gisi gint gbool gstr gtuple glist glen grange 5, gAl, F2.kp, bAl⟩
    row := ⟨_, _, ok_rows F3 kTk grange gtuple glen, gl (by simp [fa, fa2]), F3.kp, b2 F3 fun _ _ _ _ _ _ _ _ => rfl⟩
    sig := kSg
    tur := kTu
    ins := ⟨_, _, ok_instr F6 kTk kTu kSg, gl (by simp [fa, fa2]), F6.kp, b1 F6 fun _ _ _ _ _ _ _ => rfl⟩
    odd := ⟨_, _, ok_odd F8 kTk glen, gl (by simp [fa, fa2]), F8.kp, b1 F8 fun _ _ _ _ _ _ _ => rfl⟩
    isl := isl
    map := mp
    mkI := ⟨_, ok_isl F19 isl kCk gtuple, b2 F19 fun _ _ _ _ _ _ _ _ => rfl⟩
    mkM := ⟨_, okM, bM⟩
    upt := ⟨_, ok_upto F24 mp mW okW bW gmax, b2 F24 fun _ _ _ _ _ _ _ _ => rfl⟩
    wit := ⟨_, okW, bW⟩
    wou := ⟨_, ok_without F25 mp mW okW bW kRg glen genum, b2 F25 fun _ _ _ _ _ _ _ _ => rfl⟩
    len := ⟨_, ok_mLen F27 mp glen, b1 F27 fun _ _ _ _ _ _ _ => rfl⟩
    get := ⟨_, ok_mGet F28 mp, b2 F28 fun _ _ _ _ _ _ _ _ => rfl⟩
    add := ⟨_, ok_add F29 mp okM bM gtuple, b2 F29 fun _ _ _ _ _ _ _ _ => rfl⟩
    eqM := ⟨_, ok_meq F30 mp (insB_ok x7) (ownB_ok x4) (ok_ieq F20 isl (insB_ok x5) gisi) bQ gisi, b2 F30 fun _ _ _ _ _ _ _ _ => rfl⟩
    eqI := ⟨_, ok_ieq F20 isl (insB_ok x5) gisi, bQ⟩
    pIs := ⟨_, ok_mIsl P0 mp, b1 P0 fun _ _ _ _ _ _ _ => rfl⟩
    pSg := ⟨_, ok_mSig P1 mp, b1 P1 fun _ _ _ _ _ _ _ => rfl⟩
    pFc := ⟨_, ok_mFac P2 mp, b1 P2 fun _ _ _ _ _ _ _ => rfl⟩
    pIn := ⟨_, ok_mIns P3 mp, b1 P3 fun _ _ _ _ _ _ _ => rfl⟩
    err := er }
end Om

namespace Om
open PySem PySem.Spec PyProof.Rows L2 LamX He OmH
abbrev sLaw : Stmt := top 43
abbrev nLaw : List Str := ["_law_script", "_law_box", "_law_some", "_law_shown", "_law_cut", "_law_part", "_law_out", "_law_place", "_law_bad", "_law_chart", "_law_facings", "_law_island", "_law_many", "_law_more", "_law_signs_here", "_law_wrong", "_law_turn", "_law_index"]
theorem scLaw : FnScope nLaw ["_law_script"] (defScope sLaw) := ⟨rfl, rfl, rfl, by decide +kernel, rfl, by decide +kernel, by decide +kernel⟩
def lst (i : Nat) : Stmt := (defBody sLaw).getD i (.Pass ⟨0, 0, 0, 0⟩)
def ifTest (s : Stmt) : Expr := match s with
  | .If t _ _ _ => t
  | _ => .Constant .none 0 ⟨0, 0, 0, 0⟩
def cmpR (e : Expr) (left : Bool) : Expr := match e with
  | .Compare a _ (b :: _) _ => if left then a else b
  | .BoolOp _ (_ :: b :: _) _ => b
  | _ => .Constant .none 0 ⟨0, 0, 0, 0⟩
def lc3 : Expr := asgExpr (lst 3)
def lc7 : Expr := cmpR (cmpR (ifTest (lst 7)) true) true
def lc11 : Expr := asgExpr (lst 11)
def lc12 : Expr := cmpR (ifTest (lst 12)) false
theorem blk3 : BlkOk nLaw (defScope sLaw) (lcScope lc3) [("_law_turn", 16)] := blkOk_by (by decide +kernel)
theorem blk7 : BlkOk nLaw (defScope sLaw) (lcScope lc7) [("_law_index", 17)] := blkOk_by (by decide +kernel)
theorem blk11 : BlkOk nLaw (defScope sLaw) (lcScope lc11) [("_law_index", 17)] := blkOk_by (by decide +kernel)
theorem blk12 : BlkOk nLaw (defScope sLaw) (lcScope lc12) [("_law_index", 17)] := blkOk_by (by decide +kernel)
def lsc (l : List (Str × NameKind)) : Scope := { kind := .function, names := l, isGenerator := false, isCoroutine := false, more := [] }
def lamQ : Str := (envOfC "law" (defScope sLaw) 0 0 .none).qual ++ "<lambda>"
def TT1 (Pt : Addr) : List (Addr × Str) := [(Pt, lamQ)]
def spLaw (K : PySem.W.Frag) (Pt : Addr) : Sp := fun vs H Q _ => ∃ (a : Addr) (ns : List Int), vs = [.ref a] ∧ SqL K H a (ns.map V.int) ∧ ns.length ≤ 63 ∧ H Pt = some (.tbl #[]) ∧ ∀ H', Q (.bl true) H'
def lamScope (e : Expr) : Scope := match e with
  | .Call _ [.Lambda _ _ s _] _ _ => s
  | _ => lsc []
theorem lg16 : LamG nLaw (defScope sLaw) (lamScope (cmpR (ifTest (lst 16)) true)) [] := lamG_by (by decide +kernel)
theorem lg17 : LamG nLaw (defScope sLaw) (lamScope (cmpR (ifTest (lst 17)) true)) [] := lamG_by (by decide +kernel)
def bodyIf (s : Stmt) : Expr := match s with
  | .For _ _ (s :: _) _ _ => cmpR (ifTest s) true
  | _ => .Constant .none 0 ⟨0, 0, 0, 0⟩
theorem lg18 : LamG nLaw (defScope sLaw) (lamScope (bodyIf (lst 18))) [] := lamG_by (by decide +kernel)
theorem lg20 : LamG nLaw (defScope sLaw) (lamScope (cmpR (retExpr (lst 20)) true)) [] := lamG_by (by decide +kernel)
end Om

namespace Om
open PySem PySem.Spec PyProof.Rows L2 LamX
/-! ### what stays when the box is drawn from -/
section
variable {K : PySem.W.Frag} {H H' : Hp} {b l a CI CM : Addr} {rows : List (List Nat)} {sg : List Nat} {fs : List Nm} {is : List Ins}
theorem Isl.kp (B : Box H b l) (k : Kp b l H H') (h : Isl K CI H a rows) : Isl K CI H' a rows := by
  obtain ⟨ns, z, h1, h2, _⟩ := id B.ex
  obtain ⟨dx, p, hp, hS⟩ := h
  exact ⟨dx, p, k _ _ hp (ne_of hp h1 fun e => by cases e) (ne_of hp h2 fun e => by cases e), SqT.kp B k hS⟩
theorem Mp.kp (B : Box H b l) (k : Kp b l H H') (h : Mp K CM CI H a rows sg fs is) : Mp K CM CI H' a rows sg fs is := by
  obtain ⟨ns, z, h1, h2, _⟩ := id B.ex
  obtain ⟨dx, li, lf, lt, xs, hp, hI, hF, hT, hD⟩ := h
  exact ⟨dx, li, lf, lt, xs, k _ _ hp (ne_of hp h1 fun e => by cases e) (ne_of hp h2 fun e => by cases e), hI.kp B k, SqT.kp B k hF, SqT.kp B k hT, dpAll_kp B k (noL_inss is) hD⟩
/-- a list of instructions at L, beside the box -/
structure LstI (K : PySem.W.Frag) (H : Hp) (b l L : Addr) (is : List Ins) : Prop where
  ex : ∃ xs, H L = some (.lst xs) ∧ DpAll K H xs (is.map Ins.d)
  nb : L ≠ b
  nl : L ≠ l
theorem LstI.kp {L : Addr} (B : Box H b l) (k : Kp b l H H') (h : LstI K H b l L is) : LstI K H' b l L is := by
  obtain ⟨xs, h1, h2⟩ := h.ex
  exact ⟨⟨xs, k _ _ h1 h.nb h.nl, dpAll_kp B k (noL_inss is) h2⟩, h.nb, h.nl⟩
theorem LstI.same {L : Addr} (s : Same H H') (h : LstI K H b l L is) : LstI K H' b l L is := by
  obtain ⟨xs, h1, h2⟩ := h.ex
  exact ⟨⟨xs, s _ _ h1, Same.dpAll s h2⟩, h.nb, h.nl⟩
theorem LstI.at_ {L : Addr} (h : LstI K H b l L is) : InsAt K H L is := by
  obtain ⟨xs, h1, h2⟩ := h.ex
  exact ⟨xs, .inl (.inl (.inl h1)), h2⟩
theorem LstI.dp {L : Addr} (h : LstI K H b l L is) : Dp K H (.ref L) (.list (is.map Ins.d)) := by
  obtain ⟨xs, h1, h2⟩ := h.ex
  exact .lst (.inl (.inl h1)) h2
end
/-! ### _law_error of a lambda that makes a chart -/
theorem err_map {K : PySem.W.Frag} {CM CI : Addr} {C : Nat → Addr} {σ : L2.St} {H : Hp} {Q : VK} {ta : TA} {rows : List (List Nat)} {sg : List Nat} {fs : List Nm} {is : List Ins} (hfl : fs.length ≤ 1000) (sm : SmI is)
    (hta : ∀ Qa : List V → Hp → Prop, (∀ li lf a H', Same H H' → Isl K CI H' li rows → SqT K H' lf (fs.map Nm.v) → InsAt K H' a is → Qa [.ref li, .str (tx sg), .ref lf, .ref a] H') → ta σ H Qa)
    (k0 : mapBad sg fs is = none → ∀ H', Same H H' → Q (.str "") H') (k1 : ∀ n, mapBad sg fs is = some n → ∀ p H', Same H H' → H' p = some (.tup [.str "InvalidMap", .int n]) → Q (.ref p) H') :
    TErr C (fun E H' Q' => tMake CM (spMapI K CM (C 1)) [] E ta σ H' Q') H Q :=
  mk_map (CI := CI) (E := ErrOut C Q) (Q := fun _ H' => Q (.str "") H') hfl sm hta (fun e x H' s hx h => k0 e H' s) fun n e d H' hd s h => ErrOut.chart h fun p H2 hp s2 h2 => k1 n e p H2 (s.trans s2) h2
/-- .. that adds to a chart -/
theorem err_add {K : PySem.W.Frag} {CM CI : Addr} {C : Nat → Addr} {σ : L2.St} {H : Hp} {Q : VK} {ta tb : TE} {rows : List (List Nat)} {sg : List Nat} {fs : List Nm} {is0 is : List Ins} (hfl : fs.length ≤ 1000) (sm : SmI (is0 ++ is))
    (hta : ∀ Qa : V → V → Hp → Prop, (∀ a b ys H', Same H H' → Mp K CM CI H' a rows sg fs is0 → SqL K H' b ys → DpAll K H' ys (is.map Ins.d) → Qa (.ref a) (.ref b) H') → ta σ H fun x H1 => tb σ H1 fun y H2 => Qa x y H2)
    (k0 : mapBad sg fs (is0 ++ is) = none → ∀ H', Same H H' → Q (.str "") H') (k1 : ∀ n, mapBad sg fs (is0 ++ is) = some n → ∀ p H', Same H H' → H' p = some (.tup [.str "InvalidMap", .int n]) → Q (.ref p) H') :
    TErr C (fun E H' Q' => tOp (rAddOwn K CM (spAdd K CM CI (C 1)) E) ta tb σ H' Q') H Q := by
  show ta σ H fun x H1 => tb σ H1 fun y H2 => rAddOwn K CM (spAdd K CM CI (C 1)) (ErrOut C Q) x y H2 (fun _ H' => Q (.str "") H')
  refine hta _ fun a b ys H' s hM hL hD => ?_
  obtain ⟨dx, li, lf, lt, xs, hp, _⟩ := id hM
  refine ⟨a, dx, _, b, ys, rfl, hp, rfl, hL, a, b, rows, sg, fs, is0, is, rfl, hM, hfl, ⟨ys, .inl hL, hD⟩, sm, fun e x H2 s2 hx h => ⟨x, rfl, k0 e H2 (s.trans s2)⟩, fun n e d H2 hd s2 h => ErrOut.chart h fun p H3 hp s3 h3 => k1 n e p H3 (s.trans (s2.trans s3)) h3⟩
end Om

namespace Om
open PySem PySem.Spec PyProof.Rows L2 LamX
/-! ### a list that grows, beside data without lists -/
section
variable {K : PySem.W.Frag} {H H' : Hp}
theorem SqT.updL {D a : Addr} {xs ys zs : List V} (hD : H D = some (.lst ys)) (h : SqT K H a xs) : SqT K (upd H D (.lst zs)) a xs := by
  rcases h with (h | ⟨o, h⟩) | h
  · exact .inl (.inl (by rw [upd_ne (ne_of h hD fun e => by cases e)]; exact h))
  · exact .inl (.inr ⟨o, by rw [upd_ne (ne_of h hD fun e => by cases e)]; exact h⟩)
  · exact .inr h
theorem dp_noL {v : V} {d : PyData} (hS : ∀ a xs, SqT K H a xs → SqT K H' a xs) (hn : noL d = true) (h : Dp K H v d) : Dp K H' v d :=
  Dp.rec (motive_1 := fun v d _ => noL d = true → Dp K H' v d) (motive_2 := fun vs ds _ => noLs ds = true → DpAll K H' vs ds) (fun _ => .non) (fun b _ => .bl b) (fun i _ => .int i) (fun x _ => .str x)
    (fun _ _ _ hn => by simp [noL] at hn) (fun s _ ih hn => .tup (hS _ _ s) (ih (by simpa [noL] using hn))) (fun _ => .nil) (fun _ _ i1 i2 hn => by
      rw [noLs, Bool.and_eq_true] at hn
      exact .cons (i1 hn.1) (i2 hn.2)) h hn
theorem dpAll_noL : ∀ {vs : List V} {ds : List PyData} (hS : ∀ a xs, SqT K H a xs → SqT K H' a xs) (hn : noLs ds = true) (h : DpAll K H vs ds), DpAll K H' vs ds
  | [], [], _, _, .nil => .nil
  | _ :: _, _ :: _, hS, hn, .cons h t => by
    rw [noLs, Bool.and_eq_true] at hn
    exact .cons (dp_noL hS hn.1 h) (dpAll_noL hS hn.2 t)
theorem Box.updL {b l D : Addr} {ys : List V} (B : Box H b l) (nb : D ≠ b) (nl : D ≠ l) : Box (upd H D (.lst ys)) b l := by
  obtain ⟨u1, u2, u3, u4, u5⟩ := B.ex
  exact ⟨u1, u2, by rw [upd_ne nb.symm]; exact u3, by rw [upd_ne nl.symm]; exact u4, u5⟩
theorem Box.ne_new {b l D : Addr} (B : Box H b l) (hD : H D = none) : D ≠ b ∧ D ≠ l := by
  obtain ⟨_, _, x1, x2, _⟩ := B.ex
  exact ⟨(fun e => by rw [← e, hD] at x1; cases x1), (fun e => by rw [← e, hD] at x2; cases x2)⟩
theorem Kp.updL {b l D : Addr} {H0 : Hp} {ys : List V} (k : Kp b l H0 H) (hD : H0 D = none) : Kp b l H0 (upd H D (.lst ys)) := by
  intro x o hx n1 n2
  rw [upd_ne (ne_of_none hx hD)]
  exact k x o hx n1 n2
end
theorem cutV_to (xs : List V) (k : Nat) : cutV xs none (some (k : Int)) = xs.take k := by
  unfold cutV
  rw [HT.sIx_none, HT.sIx_nat, List.drop_zero, Nat.sub_zero]
  by_cases h : k ≤ xs.length
  · rw [Nat.min_eq_left h]
  · rw [Nat.min_eq_right (by omega), List.take_of_length_le (Nat.le_refl _), List.take_of_length_le (by omega)]
theorem cutV_from (xs : List V) (k : Nat) : cutV xs (some (k : Int)) none = xs.drop k := by
  unfold cutV
  rw [HT.sIx_none, HT.sIx_nat]
  by_cases h : k ≤ xs.length
  · rw [Nat.min_eq_left h, List.take_of_length_le (by rw [List.length_drop]; omega)]
  · rw [Nat.min_eq_right (by omega), List.drop_of_length_le (Nat.le_refl _), List.take_nil, List.drop_of_length_le (by omega)]
end Om

namespace Om
open PySem PySem.Spec PyProof.Rows L2 LamX He OmH
/-! ### what stays when a table grows -/
section
variable {K : PySem.W.Frag} {H H' : Hp} {b l a CI CM : Addr} {rows : List (List Nat)} {sg : List Nat} {fs : List Nm} {is : List Ins}
theorem SqT.ext {xs : List V} (k : ExtN H H') (h : SqT K H a xs) : SqT K H' a xs := by
  rcases h with (h | ⟨o, h⟩) | h
  · exact .inl (.inl (k _ _ h fun ps e => by cases e))
  · exact .inl (.inr ⟨o, k _ _ h fun ps e => by cases e⟩)
  · exact .inr h
theorem Isl.ext (k : ExtN H H') (h : Isl K CI H a rows) : Isl K CI H' a rows := by
  obtain ⟨dx, p, hp, hS⟩ := h
  exact ⟨dx, p, k _ _ hp (fun ps e => by cases e), SqT.ext k hS⟩
theorem Mp.ext (k : ExtN H H') (h : Mp K CM CI H a rows sg fs is) : Mp K CM CI H' a rows sg fs is := by
  obtain ⟨dx, li, lf, lt, xs, hp, hI, hF, hT, hD⟩ := h
  exact ⟨dx, li, lf, lt, xs, k _ _ hp (fun ps e => by cases e), hI.ext k, SqT.ext k hF, SqT.ext k hT, dpAll_noL (fun _ _ => SqT.ext k) (noL_inss is) hD⟩
theorem LstI.ext {L : Addr} (k : ExtN H H') (h : LstI K H b l L is) : LstI K H' b l L is := by
  obtain ⟨xs, h1, h2⟩ := h.ex
  exact ⟨⟨xs, k _ _ h1 (fun ps e => by cases e), dpAll_noL (fun _ _ => SqT.ext k) (noL_inss is) h2⟩, h.nb, h.nl⟩
end
/-- what the law's later rows lean on -/
structure LF (K : PySem.W.Frag) (Pt : Addr) (H : Hp) (b l D xm pf xi : Addr) (rows : List (List Nat)) (sg : List Nat) (fs : List Nm) (is : List Ins) : Prop where
  B : Box H b l
  T : Tabs (TT1 Pt) H
  L : LstI K H b l D is
  I : Isl K (gI K) H xi rows
  M : Mp K (gMp K) (gI K) H xm rows sg fs is
  F : SqT K H pf (fs.map Nm.v)
structure LS (rows : List (List Nat)) (sg : List Nat) (fs : List Nm) (is : List Ins) : Prop where
  g : Good rows
  hb : mapBad sg fs is = none
  his : ∀ x ∈ is, x.ok = true ∧ x.small = true ∧ x.lo
  len : is.length ≤ 19
  fl : fs.length ≤ 1000
section
variable {K : PySem.W.Frag} {Pt b l D xm pf xi : Addr} {H H' : Hp} {rows : List (List Nat)} {sg : List Nat} {fs : List Nm} {is : List Ins}
theorem LF.same (f : LF K Pt H b l D xm pf xi rows sg fs is) (s : Same H H') : LF K Pt H' b l D xm pf xi rows sg fs is := ⟨f.B.same s, f.T.ext s, f.L.same s, f.I.same s, f.M.same s, Same.tup s f.F⟩
theorem LF.kp (f : LF K Pt H b l D xm pf xi rows sg fs is) (B' : Box H' b l) (k : Kp b l H H') : LF K Pt H' b l D xm pf xi rows sg fs is := ⟨B', tabs_kp f.T f.B k, f.L.kp f.B k, f.I.kp f.B k, f.M.kp f.B k, SqT.kp f.B k f.F⟩
theorem LF.ext (f : LF K Pt H b l D xm pf xi rows sg fs is) (k : ExtN H H') (T' : Tabs (TT1 Pt) H') : LF K Pt H' b l D xm pf xi rows sg fs is := ⟨f.B.ext k, T', f.L.ext k, f.I.ext k, f.M.ext k, SqT.ext k f.F⟩
theorem LS.lo (s : LS rows sg fs is) : ∀ i ∈ is, i.lo := fun i hi => (s.his i hi).2.2
theorem LS.sm (s : LS rows sg fs is) : SmI is := ⟨by have := s.len; omega, fun x hx => (s.his x hx).2.1⟩
end
/-! ### where a chart is wrong -/
theorem chkI_odd : ∀ (u : List Ins) (x : Ins) (v : List Ins) (i : Nat), (∀ y ∈ u, y.ok = true) → x.ok = false → i + u.length ≤ 20 → chkI (u ++ x :: v) i = some (i + u.length)
  | [], x, v, i, _, hx, hi => by
    show (if i = 20 then some i else if x.ok = true then chkI v (i + 1) else some i) = _
    rw [hx, if_neg Bool.false_ne_true, ite_self]
    rfl
  | y :: r, x, v, i, hu, hx, hi => by
    rw [List.length_cons] at hi
    show (if i = 20 then some i else if y.ok = true then chkI (r ++ x :: v) (i + 1) else some i) = _
    rw [if_neg (by omega), if_pos (hu y (List.mem_cons_self ..)), chkI_odd r x v (i + 1) (fun z hz => hu z (List.mem_cons_of_mem _ hz)) hx (by omega), List.length_cons]
    exact congrArg some (by omega)
theorem chkI_long : ∀ (u : List Ins) (i : Nat), (∀ y ∈ u, y.ok = true) → i ≤ 20 → 20 < i + u.length → chkI u i = some 20
  | [], i, _, h1, h2 => by simp at h2; omega
  | y :: r, i, hu, h1, h2 => by
    rw [List.length_cons] at h2
    show (if i = 20 then some i else if y.ok = true then chkI r (i + 1) else some i) = _
    by_cases e : i = 20
    · rw [if_pos e, e]
    · rw [if_neg e, if_pos (hu y (List.mem_cons_self ..))]
      exact chkI_long r (i + 1) (fun z hz => hu z (List.mem_cons_of_mem _ hz)) (by omega) (by omega)
theorem mapBad_good {sg : List Nat} {fs : List Nm} {is is' : List Ins} (h : mapBad sg fs is' = none) : mapBad sg fs is = (chkI is 0).map fun n => ((n : Nat) : Int) := by
  obtain ⟨h1, h2, _⟩ := mapBad_none.mp h
  unfold mapBad
  rw [if_pos (by rw [h1, h2]; rfl)]
theorem mapBad_bad {sg : List Nat} {fs : List Nm} {is : List Ins} (h : (ascS sg lands && ascN fs 0 3) = false) : mapBad sg fs is = some (-1) := by
  unfold mapBad
  rw [h, if_neg Bool.false_ne_true]
/-! ### the answer of a chart that is none -/
def dIM (n : Int) : PyData := .tuple [.str "InvalidMap", .int n]
theorem lay_dIM (n : Int) : (dIM n).canLay0 = true := by
  have e : PyData.strOk ("InvalidMap" : Str) = true := by decide +kernel
  simp only [dIM, PyData.canLay0, PyData.canLayAll0, e, Bool.and_self]
theorem sh_dIM (n : Int) : SeqAt.shaped (dIM n) = true := shaped_of (lay_dIM n) (by simp [dIM, PyData.depth, PyData.depthAll])
theorem eqv_dIM (n : Int) : PyData.eqv (dIM n) (dIM n) = true := PySem.SeqAt.eqv_refl _ (lay_dIM n)
theorem dp_dIM {K : PySem.W.Frag} {H : Hp} {p : Addr} {n : Int} (h : SqT K H p [.str "InvalidMap", .int n]) : Dp K H (.ref p) (dIM n) := .tup h (.cons (.str _) (.cons (.int _) .nil))
/-! ### a beginning that is told as two -/
def TwoAt (K : PySem.W.Frag) (H : Hp) (v : V) : Prop := ∃ (p q : Addr) (s : List Nat) (ns : List Nm), v = .ref p ∧ SqT K H p [vt s, .ref q] ∧ SqT K H q (ns.map Nm.v) ∧ ns.length ≤ 1000 ∧ (ascS s lands && ascN ns 0 3) = false
theorem TwoAt.same {K : PySem.W.Frag} {H H' : Hp} {v : V} (h : TwoAt K H v) (s : Same H H') : TwoAt K H' v := by
  obtain ⟨p, q, t, ns, e, h1, h2, h3⟩ := h
  exact ⟨p, q, t, ns, e, Same.tup s h1, Same.tup s h2, h3⟩
theorem TwoAt.ext {K : PySem.W.Frag} {H H' : Hp} {v : V} (h : TwoAt K H v) (s : ExtN H H') : TwoAt K H' v := by
  obtain ⟨p, q, t, ns, e, h1, h2, h3⟩ := h
  exact ⟨p, q, t, ns, e, SqT.ext s h1, SqT.ext s h2, h3⟩
end Om

namespace Om
open PySem PySem.Spec PyProof.Rows L2 LamX He OmH
theorem addOwnK {X : Cx} {CX : CXT} {k : Nat} {C f : Addr} {fd : FuncData} {ps : List Str} {sp : Sp} {E : XK} {K : PySem.W.Frag} (hK : X.K = K) (M : OwnM K C "__add__" f) (hc : PySem.W.selfFirst K C = true) (F : FnOk X.prog X.w K X.mg X.base CX k f fd ps sp) (hr : Room k X.A) (hb : Binds K fd ps []) (hx : Passes CX X E) : OpR X (binaryOp .Add) (rAddOwn K C sp E) := by
  subst hK
  exact op_addOwn M hc F hr hb hx
def tl16 : List Stmt := (defBody sLaw).drop 16
theorem dpAll_rep {K : PySem.W.Frag} {H : Hp} {v : V} {i : Ins} (h : Dp K H v i.d) : ∀ n : Nat, DpAll K H (List.replicate n [v]).flatten ((List.replicate n i).map Ins.d)
  | 0 => .nil
  | n + 1 => .cons h (dpAll_rep h n)
theorem rep_len {v : V} : ∀ n : Nat, (List.replicate n [v]).flatten.length = n
  | 0 => rfl
  | n + 1 => by
    show ([v] ++ (List.replicate n [v]).flatten).length = _
    rw [List.length_append, rep_len n, List.length_singleton]
    omega
section
variable {P : Program} {w : World} {K : PySem.W.Frag} {mg : Str → Option Value} {base : Heap} {c Pt gE : Addr}
theorem law_tail2 {f : Addr} {fdE : FuncData} (TB : TabB base mg c Pt) (PP : Parts P w K mg base) (FE : FnP K "_law_error" "_law_error" sErr gE fdE) (bE : Binds K fdE ["_law_work"] []) (hgE : mg "_law_error" = some (.ref gE))
    (mA : OwnM K (gMp K) "__add__" (ma K (gMp K) "__add__")) (hsf : PySem.W.selfFirst K (gMp K) = true) (glen : mg "len" = none)
    {A : Around} {outer : List Env} {s : Shared} {H0 : Hp} {E : XK} (hr : Room 9 (A.deeper (envOfC "law" (defScope sLaw) s.heap.objs.size f (.ref c)))) :
    ∃ t, PSs (cxOf CX0 P w K mg base nLaw "law" (defScope sLaw) f (.ref c) A outer s H0 E).nox tl16 t ∧
      ∀ (Dn : Ends) (b l D D5 xm pf xi : Addr) (rows : List (List Nat)) (sg : List Nat) (fs : List Nm) (is : List Ins) (pl : Nat) (wi : Ins) (vw : V) (H : Hp) (v0 v3 v4 v5 v6 v8 v12 v16 v17 : Option V),
        LF K Pt H b l D xm pf xi rows sg fs is → LS rows sg fs is → pl ≤ is.length → wi.ok = false → wi.small = true → Dp K H vw wi.d → LstI K H b l D5 (is.take pl ++ wi :: is.drop pl) → (∀ H', Dn.rt (.bl true) H') →
        t Dn [v0, some (.ref b), some (.ref D), v3, v4, v5, v6, some (.int (pl : Nat)), v8, some (.ref xm), some (.ref pf), some (.ref xi), v12, some (.ref D5), some (.str (tx sg)), some vw, v16, v17] H := by
  obtain ⟨ocE, odE, dE, kE, docE, pmE, anE, cdE, ctE, oslE, rfl, lkE, hcE, _, _⟩ := FE.ex
  obtain ⟨fM, GM, bM⟩ := PP.mkM.ex
  obtain ⟨fA, GA, bA⟩ := PP.add.ex
  have TM := PP.map
  have nd := scLaw.nd
  have hr1 : Room 1 _ := hr.mono (by decide)
  have hr3 : Room 3 _ := hr.mono (by decide)
  have hr8 : Room 8 _ := hr.mono (by decide)
  have hu : ∀ p ∈ TT1 Pt, p.1 = Pt → p.2 = lamQ := fun p hp _ => by rw [List.mem_singleton.mp hp]
  have hm : (Pt, lamQ) ∈ TT1 Pt := List.mem_singleton.mpr rfl
  refine ⟨_, pss_cons (ps_if (pt_cmpR (op_neD hr.units) (pe_lamG0 (T := TT1 Pt) (TT := TErr (Ce K)) (k := 6) rfl hgE FE.kp lkE hcE bE scErr rfl (.inl rfl) (err_gives PP.err) TB rfl hm hu hr8 hr3 lg16 rfl (fun _ _ _ _ _ => rfl)
            (fun A outer s H E f c' hrb => pe_make TM.made GM hrb rfl TM.gM bM .nil (passes_call (W := fun cls d _ H => E cls d H) (takes_of rfl rfl rfl rfl) fun _ _ _ _ h => h) (pa_cons (pv 11) (pa_cons (pv 14) (pa_cons (pv 10) (pa_cons (pv 13) pa_nil)))))) (pe_tup (pa_cons pe_str (pa_cons (pv 7) pa_nil))) (nomark _)) (pss_one (ps_ret pe_bl)) pss_nil)
      (pss_cons (ps_if (pt_cmpR (op_neD hr.units) (pe_lamG0 (T := TT1 Pt) (TT := TErr (Ce K)) (k := 7) rfl hgE FE.kp lkE hcE bE scErr rfl (.inl rfl) (err_gives PP.err) TB rfl hm hu hr hr3 lg17 rfl (fun _ _ _ _ _ => rfl)
            (fun A outer s H E f c' hrb => pe_op (addOwnK (K := K) rfl mA hsf GA hrb bA (passes_call (W := fun cls d _ H => E cls d H) (takes_of rfl rfl rfl rfl) fun _ _ _ _ h => h)) (pv 9) (pe_lst (pa_cons (pv 15) pa_nil)))) (pe_tup (pa_cons pe_str (pa_cons (pe_callB call_len_seq (by rfl) glen PySem.boot_len (pa_cons (pv 2) pa_nil)) pa_nil))) (nomark _)) (pss_one (ps_ret pe_bl)) pss_nil)
      (pss_cons (ps_for PassesOwn.never rfl (pi_tup (pe_tup (pa_cons (pe_tup (pa_cons pe_str (pa_cons (pe_tup (pa_cons pe_int pa_nil)) pa_nil))) (pa_cons (pe_tup (pa_cons pe_str (pa_cons (pe_tup (pa_cons pe_int pa_nil)) pa_nil))) (pa_cons (pe_tup (pa_cons pe_str (pa_cons (pe_tup (pa_cons pe_int pa_nil)) pa_nil))) (pa_cons (pe_tup (pa_cons pe_str (pa_cons (pe_tup pa_nil) pa_nil))) (pa_cons (pe_tup (pa_cons pe_str (pa_cons (pe_tup (pa_cons pe_int (pa_cons pe_int pa_nil))) pa_nil))) (pa_cons (pe_tup (pa_cons pe_str (pa_cons (pe_tup (pa_cons pe_int pa_nil)) pa_nil))) pa_nil)))))))) (pg_name (i := 8) nd rfl (.inr rfl)) (pss_one (ps_if (pt_cmpR (op_neD hr.units) (pe_lamG0 (T := TT1 Pt) (TT := TErr (Ce K)) (k := 6) rfl hgE FE.kp lkE hcE bE scErr rfl (.inl rfl) (err_gives PP.err) TB rfl hm hu hr8 hr3 lg18 rfl (fun _ _ _ _ _ => rfl)
            (fun A outer s H E f c' hrb => pe_make TM.made GM hrb rfl TM.gM bM .nil (passes_call (W := fun cls d _ H => E cls d H) (takes_of rfl rfl rfl rfl) fun _ _ _ _ h => h) (pa_cons (pv 11) (pa_cons (pe_ix (ixtK (K := K) rfl) (pv 8) pe_int (fun _ _ => rfl)) (pa_cons (pe_ix (ixtK (K := K) rfl) (pv 8) pe_int (fun _ _ => rfl)) (pa_cons (pv 13) pa_nil)))))) (pe_tup (pa_cons pe_str (pa_cons (pe_un un_neg pe_int) pa_nil))) (nomark _)) (pss_one (ps_ret pe_bl)) pss_nil)))
      (pss_cons (ps_set (i := 12) nd rfl (.inr rfl) (pe_op op_rep (pe_lst (pa_cons (pe_tup (pa_cons pe_str (pa_cons (pe_tup (pa_cons pe_int pa_nil)) pa_nil))) pa_nil)) (pe_op op_add pe_int (pe_cal PP.tak hr1 pass0 (pa_cons (pv 1) (pa_cons pe_int pa_nil))))))
      (pss_one (ps_ret (pe_cmpR (op_eqD hr.units) (pe_lamG0 (T := TT1 Pt) (TT := TErr (Ce K)) (k := 6) rfl hgE FE.kp lkE hcE bE scErr rfl (.inl rfl) (err_gives PP.err) TB rfl hm hu hr8 hr3 lg20 rfl (fun _ _ _ _ _ => rfl)
            (fun A outer s H E f c' hrb => pe_make TM.made GM hrb rfl TM.gM bM .nil (passes_call (W := fun cls d _ H => E cls d H) (takes_of rfl rfl rfl rfl) fun _ _ _ _ h => h) (pa_cons (pv 11) (pa_cons pe_str (pa_cons (pe_tup (pa_cons pe_int pa_nil)) (pa_cons (pv 12) pa_nil)))))) (pe_ifExp (pt_cmpR op_gt (pe_callB call_len_seq (by rfl) glen PySem.boot_len (pa_cons (pv 12) pa_nil)) pe_int (nomark _)) (pe_tup (pa_cons pe_str (pa_cons pe_int pa_nil))) pe_str) (nomark _))))))), ?_⟩
  intro Dn b l D D5 xm pf xi rows sg fs is pl wi vw H v0 v3 v4 v5 v6 v8 v12 v16 v17 F S hpl hw1 hw2 dpw M5 kq
  have hlen := S.len
  have etl : (is.take pl).length = pl := by rw [List.length_take]; omega
  have mem5 : ∀ i ∈ is.take pl ++ wi :: is.drop pl, i ∈ is ∨ i = wi := fun i hi => by
    rcases List.mem_append.mp hi with h | h
    · exact .inl (List.mem_of_mem_take h)
    · rcases List.mem_cons.mp h with h | h
      · exact .inr h
      · exact .inl (List.mem_of_mem_drop h)
  have sm5 : SmI (is.take pl ++ wi :: is.drop pl) := ⟨by rw [List.length_append, List.length_cons, List.length_drop, etl]; omega, fun i hi => (mem5 i hi).elim (fun h => (S.his i h).2.1) fun e => by rw [e]; exact hw2⟩
  have bad5 : mapBad sg fs (is.take pl ++ wi :: is.drop pl) = some (pl : Int) := by
    rw [mapBad_good S.hb, chkI_odd _ _ _ 0 (fun y hy => (S.his y (List.mem_of_mem_take hy)).1) hw1 (by omega), etl]
    show some (((0 + pl : Nat) : Int)) = _
    rw [Nat.zero_add]
  -- a chart with an odd instruction
  refine ⟨F.T, fun H1 e1 T1 => ?_⟩
  have F1 := F.ext e1 T1
  have N1 := M5.ext e1
  have w1 := dp_noL (fun _ _ => SqT.ext e1) (noL_ins wi) dpw
  refine err_map (CI := gI K) (rows := rows) (sg := sg) (fs := fs) (is := is.take pl ++ wi :: is.drop pl) S.fl sm5 (fun Qa h => ⟨_, rfl, _, rfl, _, rfl, _, rfl, nilArgs (h xi pf D5 H1 (Same.refl _) F1.I F1.F N1.at_)⟩) (fun e => by rw [bad5] at e; cases e) fun n e p H2 s2 hp => ?_
  obtain rfl : (pl : Int) = n := by rw [bad5] at e; exact Option.some.inj e
  have F2 := F1.same s2
  have N2 := N1.same s2
  have w2 := Same.dp s2 w1
  refine ⟨_, rfl, by show 2 ≤ sizeLine; decide, fun q hq => ?_⟩
  have s3 := Same.new (Same.refl H2) hq (o := .tup [.str "InvalidMap", .int (pl : Nat)])
  refine ⟨dIM pl, dIM pl, dp_dIM (.inl (.inl (s3 _ _ hp))), dp_dIM (.inl (.inl upd_same)), sh_dIM _, sh_dIM _, _, rfl, ?_⟩
  rw [eqv_dIM]
  refine iteF' rfl ?_
  have F3 := F2.same s3
  have N3 := N2.same s3
  have w3 := Same.dp s3 w2
  generalize upd H2 q (.tup [.str "InvalidMap", .int (pl : Nat)]) = H3 at F3 N3 w3 ⊢
  clear F F1 F2 N1 N2 w1 w2 hp
  -- more of them behind the chart
  obtain ⟨xs, hL3, hD3⟩ := F3.L.ex
  have lx := dpAll_len hD3
  rw [List.length_map] at lx
  refine ⟨F3.T, fun H4 e4 T4 => ?_⟩
  have F4 := F3.ext e4 T4
  have N4 := N3.ext e4
  have w4 := dp_noL (fun _ _ => SqT.ext e4) (noL_ins wi) w3
  have sm6 : SmI (is ++ [wi]) := ⟨by rw [List.length_append, List.length_singleton]; omega, fun i hi => (List.mem_append.mp hi).elim (fun h => (S.his i h).2.1) fun h => by rw [List.mem_singleton.mp h]; exact hw2⟩
  have bad6 : mapBad sg fs (is ++ [wi]) = some (is.length : Int) := by
    rw [mapBad_good S.hb, chkI_odd _ _ _ 0 (fun y hy => (S.his y hy).1) hw1 (by omega)]
    show some (((0 + is.length : Nat) : Int)) = _
    rw [Nat.zero_add]
  refine err_add (CI := gI K) (rows := rows) (sg := sg) (fs := fs) (is0 := is) (is := [wi]) S.fl sm6 (fun Qa h => ⟨_, rfl, _, rfl, by show 1 ≤ sizeLine; decide, fun q hq => h xm q [vw] _ (Same.new (Same.refl _) hq) (F4.M.same (Same.new (Same.refl _) hq)) (.inl (.inl upd_same)) (.cons (Same.dp (Same.new (Same.refl _) hq) w4) .nil)⟩) (fun e => by rw [bad6] at e; cases e) fun n e p H5 s5 hp => ?_
  obtain rfl : (is.length : Int) = n := by rw [bad6] at e; exact Option.some.inj e
  have F5 := F4.same s5
  have N5 := N4.same s5
  have hL5 : SqL K H5 D xs := .inl (.inl (s5 _ _ (e4 _ _ hL3 fun ps e => by cases e)))
  refine ⟨_, rfl, D, xs, rfl, .inl hL5, ?_⟩
  rw [lx]
  refine ⟨by show 2 ≤ sizeLine; decide, fun q hq => ?_⟩
  have s6 := Same.new (Same.refl H5) hq (o := .tup [.str "InvalidMap", .int (is.length : Nat)])
  refine ⟨dIM is.length, dIM is.length, dp_dIM (.inl (.inl (s6 _ _ hp))), dp_dIM (.inl (.inl upd_same)), sh_dIM _, sh_dIM _, _, rfl, ?_⟩
  rw [eqv_dIM]
  refine iteF' rfl ?_
  have F6 := F5.same s6
  have N6 := N5.same s6
  generalize upd H5 q (.tup [.str "InvalidMap", .int (is.length : Nat)]) = H6 at F6 N6 ⊢
  clear F3 F4 F5 N3 N4 N5 w3 w4 hp hL5 hL3 hD3
  -- beginnings that cannot be
  have e0 : Str.ofString "" = tx [] := by decide +kernel
  have e1 : Str.ofString "~" = tx [126] := by decide +kernel
  have e2 : Str.ofString "BA" = tx [66, 65] := by decide +kernel
  have eA : Str.ofString "A" = tx [65] := by decide +kernel
  have two : ∀ {H : Hp} {t u : Addr} {s : List Nat} {z : Str} {ns : List Nm}, z = tx s → (ascS s lands && ascN ns 0 3) = false → ns.length ≤ 1000 → H t = none → upd H t (.tup (ns.map Nm.v)) u = none → TwoAt K (upd (upd H t (.tup (ns.map Nm.v))) u (.tup [.str z, .ref t])) (.ref u) := fun {H t u s z ns} ez hbad hl h1 h2 =>
    ⟨u, t, s, ns, rfl, .inl (.inl (by rw [upd_same, ez]; rfl)), .inl (.inl (Same.new (Same.refl _) h2 _ _ upd_same)), hl, hbad⟩
  refine ⟨by show 1 ≤ sizeLine; decide, fun t1 g1 => ⟨by show 2 ≤ sizeLine; decide, fun u1 k1 => ?_⟩⟩
  have y1 : TwoAt K (upd (upd H6 t1 (.tup [.int 0])) u1 (.tup [.str (Str.ofString ""), .ref t1])) (.ref u1) := two (s := _) (ns := [.i 0]) e0 (by decide +kernel) (by decide) g1 k1
  have s7 : Same H6 (upd (upd H6 t1 (.tup [.int 0])) u1 (.tup [.str (Str.ofString ""), .ref t1])) := Same.new (Same.new (Same.refl _) g1) k1
  have F7 := F6.same s7
  have N7 := N6.same s7
  generalize upd (upd H6 t1 (.tup [.int 0])) u1 (.tup [.str (Str.ofString ""), .ref t1]) = H7 at F7 N7 y1 ⊢
  clear F6 N6 s7 g1 k1
  refine ⟨by show 1 ≤ sizeLine; decide, fun t2 g2 => ⟨by show 2 ≤ sizeLine; decide, fun u2 k2 => ?_⟩⟩
  have y2 : TwoAt K (upd (upd H7 t2 (.tup [.int 0])) u2 (.tup [.str (Str.ofString "~"), .ref t2])) (.ref u2) := two (s := _) (ns := [.i 0]) e1 (by decide +kernel) (by decide) g2 k2
  have s8 : Same H7 (upd (upd H7 t2 (.tup [.int 0])) u2 (.tup [.str (Str.ofString "~"), .ref t2])) := Same.new (Same.new (Same.refl _) g2) k2
  have F8 := F7.same s8
  have N8 := N7.same s8
  have y1 := y1.same s8
  generalize upd (upd H7 t2 (.tup [.int 0])) u2 (.tup [.str (Str.ofString "~"), .ref t2]) = H8 at F8 N8 y1 y2 ⊢
  clear F7 N7 s8 g2 k2
  refine ⟨by show 1 ≤ sizeLine; decide, fun t3 g3 => ⟨by show 2 ≤ sizeLine; decide, fun u3 k3 => ?_⟩⟩
  have y3 : TwoAt K (upd (upd H8 t3 (.tup [.int 0])) u3 (.tup [.str (Str.ofString "BA"), .ref t3])) (.ref u3) := two (s := _) (ns := [.i 0]) e2 (by decide +kernel) (by decide) g3 k3
  have s9 : Same H8 (upd (upd H8 t3 (.tup [.int 0])) u3 (.tup [.str (Str.ofString "BA"), .ref t3])) := Same.new (Same.new (Same.refl _) g3) k3
  have F9 := F8.same s9
  have N9 := N8.same s9
  have y1 := y1.same s9
  have y2 := y2.same s9
  generalize upd (upd H8 t3 (.tup [.int 0])) u3 (.tup [.str (Str.ofString "BA"), .ref t3]) = H9 at F9 N9 y1 y2 y3 ⊢
  clear F8 N8 s9 g3 k3
  refine ⟨by show 0 ≤ sizeLine; decide, fun t4 g4 => ⟨by show 2 ≤ sizeLine; decide, fun u4 k4 => ?_⟩⟩
  have y4 : TwoAt K (upd (upd H9 t4 (.tup [])) u4 (.tup [.str (Str.ofString "A"), .ref t4])) (.ref u4) := two (s := _) (ns := []) eA (by decide +kernel) (by decide) g4 k4
  have s10 : Same H9 (upd (upd H9 t4 (.tup [])) u4 (.tup [.str (Str.ofString "A"), .ref t4])) := Same.new (Same.new (Same.refl _) g4) k4
  have F10 := F9.same s10
  have N10 := N9.same s10
  have y1 := y1.same s10
  have y2 := y2.same s10
  have y3 := y3.same s10
  generalize upd (upd H9 t4 (.tup [])) u4 (.tup [.str (Str.ofString "A"), .ref t4]) = H10 at F10 N10 y1 y2 y3 y4 ⊢
  clear F9 N9 s10 g4 k4
  refine ⟨by show 2 ≤ sizeLine; decide, fun t5 g5 => ⟨by show 2 ≤ sizeLine; decide, fun u5 k5 => ?_⟩⟩
  have y5 : TwoAt K (upd (upd H10 t5 (.tup [.int 3, .int 1])) u5 (.tup [.str (Str.ofString "A"), .ref t5])) (.ref u5) := two (s := _) (ns := [.i 3, .i 1]) eA (by decide +kernel) (by decide) g5 k5
  have s11 : Same H10 (upd (upd H10 t5 (.tup [.int 3, .int 1])) u5 (.tup [.str (Str.ofString "A"), .ref t5])) := Same.new (Same.new (Same.refl _) g5) k5
  have F11 := F10.same s11
  have N11 := N10.same s11
  have y1 := y1.same s11
  have y2 := y2.same s11
  have y3 := y3.same s11
  have y4 := y4.same s11
  generalize upd (upd H10 t5 (.tup [.int 3, .int 1])) u5 (.tup [.str (Str.ofString "A"), .ref t5]) = H11 at F11 N11 y1 y2 y3 y4 y5 ⊢
  clear F10 N10 s11 g5 k5
  refine ⟨by show 1 ≤ sizeLine; decide, fun t6 g6 => ⟨by show 2 ≤ sizeLine; decide, fun u6 k6 => ?_⟩⟩
  have y6 : TwoAt K (upd (upd H11 t6 (.tup [.int 4])) u6 (.tup [.str (Str.ofString "A"), .ref t6])) (.ref u6) := two (s := _) (ns := [.i 4]) eA (by decide +kernel) (by decide) g6 k6
  have s12 : Same H11 (upd (upd H11 t6 (.tup [.int 4])) u6 (.tup [.str (Str.ofString "A"), .ref t6])) := Same.new (Same.new (Same.refl _) g6) k6
  have F12 := F11.same s12
  have N12 := N11.same s12
  have y1 := y1.same s12
  have y2 := y2.same s12
  have y3 := y3.same s12
  have y4 := y4.same s12
  have y5 := y5.same s12
  generalize upd (upd H11 t6 (.tup [.int 4])) u6 (.tup [.str (Str.ofString "A"), .ref t6]) = H12 at F12 N12 y1 y2 y3 y4 y5 y6 ⊢
  clear F11 N11 s12 g6 k6
  refine ⟨by show 6 ≤ sizeLine; decide, fun q hq => ?_⟩
  have s13 := Same.new (Same.refl H12) hq (o := .tup [.ref u1, .ref u2, .ref u3, .ref u4, .ref u5, .ref u6])
  have ha : ∀ x ∈ [V.ref u1, .ref u2, .ref u3, .ref u4, .ref u5, .ref u6], TwoAt K (upd H12 q (.tup [.ref u1, .ref u2, .ref u3, .ref u4, .ref u5, .ref u6])) x := fun x hx => by
    simp only [List.mem_cons, List.not_mem_nil, or_false] at hx
    rcases hx with rfl | rfl | rfl | rfl | rfl | rfl
    · exact y1.same s13
    · exact y2.same s13
    · exact y3.same s13
    · exact y4.same s13
    · exact y5.same s13
    · exact y6.same s13
  have F13 := F12.same s13
  have N13 := N12.same s13
  have hq13 : SqT K (upd H12 q (.tup [.ref u1, .ref u2, .ref u3, .ref u4, .ref u5, .ref u6])) q [.ref u1, .ref u2, .ref u3, .ref u4, .ref u5, .ref u6] := .inl (.inl upd_same)
  generalize upd H12 q (.tup [.ref u1, .ref u2, .ref u3, .ref u4, .ref u5, .ref u6]) = H13 at F13 N13 ha hq13 ⊢
  clear F12 N12 y1 y2 y3 y4 y5 y6 s13 hq
  generalize ([.ref u1, .ref u2, .ref u3, .ref u4, .ref u5, .ref u6] : List V) = zs at ha hq13 ⊢
  refine ⟨q, rfl, ⟨_, hq13⟩, for_tup (K := K) (a := q) (xs := zs) (fun i σ H' => LF K Pt H' b l D xm pf xi rows sg fs is ∧ LstI K H' b l D5 (is.take pl ++ wi :: is.drop pl) ∧ SqT K H' q zs ∧ (∀ x ∈ zs, TwoAt K H' x) ∧ ∃ v8, σ = [v0, some (.ref b), some (.ref D), v3, v4, v5, v6, some (.int (pl : Nat)), v8, some (.ref xm), some (.ref pf), some (.ref xi), v12, some (.ref D5), some (.str (tx sg)), some vw, v16, v17])
    ⟨F13, N13, hq13, ha, _, rfl⟩ (fun i σ H' _ p => p.2.2.1) ?_ ?_⟩
  · rintro i x σ H1 hx ⟨F1, N1, hq1, ha1, v8, rfl⟩
    obtain ⟨u, t, z, ns, rfl, hu1, ht1, hl1, hbad⟩ := ha1 x (List.mem_of_getElem? hx)
    refine ⟨F1.T, fun H2 e2 T2 => ?_⟩
    have F2 := F1.ext e2 T2
    have N2 := N1.ext e2
    have hu2 := SqT.ext e2 hu1
    have ht2 := SqT.ext e2 ht1
    have bad : mapBad z ns (is.take pl ++ wi :: is.drop pl) = some (-1) := mapBad_bad hbad
    refine err_map (CI := gI K) (rows := rows) (sg := z) (fs := ns) (is := is.take pl ++ wi :: is.drop pl) hl1 sm5 (fun Qa h => ⟨_, rfl, _, rfl, u, _, 0, _, rfl, rfl, hu2, rfl, _, rfl, u, _, 1, _, rfl, rfl, hu2, rfl, _, rfl, nilArgs (h xi t D5 H2 (Same.refl _) F2.I ht2 N2.at_)⟩) (fun e => by rw [bad] at e; cases e) fun n e p H3 s3 hp => ?_
    obtain rfl : (-1 : Int) = n := by rw [bad] at e; exact Option.some.inj e
    refine ⟨1, rfl, by show 2 ≤ sizeLine; decide, fun r hr => ?_⟩
    have s4 := Same.new (Same.refl H3) hr (o := .tup [.str "InvalidMap", .int (-1)])
    refine ⟨dIM (-1), dIM (-1), dp_dIM (.inl (.inl (s4 _ _ hp))), dp_dIM (.inl (.inl upd_same)), sh_dIM _, sh_dIM _, _, rfl, ?_⟩
    rw [eqv_dIM]
    refine iteF' rfl ?_
    have s34 := s3.trans s4
    exact ⟨F2.same s34, N2.same s34, Same.tup s34 (SqT.ext e2 hq1), fun y hy => ((ha1 y hy).ext e2).same s34, _, rfl⟩
  · rintro σ H1 ⟨F1, N1, hq1, ha1, v8, rfl⟩
    clear N1 ha1 hq1 F13 N13 ha hq13 two M5 dpw
    -- turns, many of them
    refine ⟨by show 1 ≤ sizeLine; decide, fun t ht => ⟨by show 2 ≤ sizeLine; decide, fun u hu' => ⟨by show 1 ≤ sizeLine; decide, fun l0 hl0 => ?_⟩⟩⟩
    have s2 : Same H1 (upd (upd (upd H1 t (.tup [.int 0])) u (.tup [.str (Str.ofString "turn"), .ref t])) l0 (.lst [.ref u])) := Same.new (Same.new (Same.new (Same.refl _) ht) hu') hl0
    have du : Dp K (upd (upd (upd H1 t (.tup [.int 0])) u (.tup [.str (Str.ofString "turn"), .ref t])) l0 (.lst [.ref u])) (.ref u) (Ins.turn [Nm.i 0]).d :=
      .tup (.inl (.inl (Same.new (Same.refl _) hl0 _ _ upd_same))) (.cons (.str _) (.cons (.tup (.inl (.inl (Same.new (Same.refl _) hl0 _ _ (Same.new (Same.refl _) hu' _ _ upd_same)))) (.cons (.int 0) .nil)) .nil))
    have hL : (upd (upd (upd H1 t (.tup [.int 0])) u (.tup [.str (Str.ofString "turn"), .ref t])) l0 (.lst [.ref u])) l0 = some (.lst [.ref u]) := upd_same
    have F2 := F1.same s2
    obtain ⟨lb, ll⟩ := (F1.B.same (Same.new (Same.new (Same.refl _) ht) hu')).ne_new hl0
    generalize upd (upd (upd H1 t (.tup [.int 0])) u (.tup [.str (Str.ofString "turn"), .ref t])) l0 (.lst [.ref u]) = H2 at s2 du hL F2 ⊢
    refine ⟨_, rfl, b, l, 3, rfl, F2.B, by decide, by decide, fun n H3 n0 n1 B3 K3 => ⟨_, _, rfl, rfl, ?_⟩⟩
    have F3 := F2.kp B3 K3
    have d3 := dp_kp F2.B K3 (noL_ins (Ins.turn [Nm.i 0])) du
    have hL3 := K3 _ _ hL lb ll
    obtain ⟨N, hN, N1, N2⟩ : ∃ N : Nat, 19 + n = (N : Int) ∧ 19 ≤ N ∧ N ≤ 21 := ⟨(19 + n).toNat, by omega, by omega, by omega⟩
    have eN : (19 + n).toNat = N := by omega
    refine ⟨l0, 19 + n, [.ref u], rfl, rfl, hL3, by omega, by omega, ?_, fun p hp => ?_⟩
    · rw [eN]
      exact Nat.le_trans (show [V.ref u].length * N ≤ 60 by rw [List.length_singleton]; omega) (by decide)
    rw [eN]
    have s4 := Same.new (Same.refl H3) hp (o := .lst (List.replicate N [V.ref u]).flatten)
    have F4 := F3.same s4
    have hp4 : (upd H3 p (.lst (List.replicate N [V.ref u]).flatten)) p = some (.lst (List.replicate N [V.ref u]).flatten) := upd_same
    have d4 := dpAll_rep (Same.dp s4 d3) N
    generalize upd H3 p (.lst (List.replicate N [V.ref u]).flatten) = H4 at s4 F4 hp4 d4 ⊢
    clear F1 F2 F3 s2 du hL d3 hL3 s4 hu' ht hl0 hp
    refine ⟨F4.T, fun H5 e5 T5 => ?_⟩
    have F5 := F4.ext e5 T5
    have hp5 := e5 _ _ hp4 fun ps e => by cases e
    have d5 := dpAll_noL (fun _ _ => SqT.ext e5) (noL_inss _) d4
    have hgood : mapBad [65] [.i 0] [] = none := mapBad_none.mpr ⟨by decide +kernel, by decide +kernel, by simp, by decide⟩
    have oks : ∀ x ∈ List.replicate N (Ins.turn [Nm.i 0]), x.ok = true := fun x hx => by
      rw [(List.mem_replicate.mp hx).2]
      decide +kernel
    have smN : SmI (List.replicate N (Ins.turn [Nm.i 0])) := ⟨by rw [List.length_replicate]; omega, fun x hx => by rw [(List.mem_replicate.mp hx).2]; decide +kernel⟩
    refine err_map (CI := gI K) (rows := rows) (sg := [65]) (fs := [.i 0]) (is := List.replicate N (Ins.turn [Nm.i 0])) (by decide) smN (fun Qa h => ⟨_, rfl, by show 1 ≤ sizeLine; decide, fun q hq => ⟨_, rfl, nilArgs ?_⟩⟩) (fun e H6 s6 => ?_) fun m e q H6 s6 hq => ?_
    · have sq := Same.new (Same.refl H5) hq (o := .tup [.int 0])
      have z := h xi q p _ sq (F5.I.same sq) (.inl (.inl upd_same)) ⟨_, .inl (.inl (.inl (sq _ _ hp5))), Same.dpAll sq d5⟩
      rw [← eA] at z
      exact z
    · have hle : N ≤ 20 := by
        rw [mapBad_good hgood, Option.map_eq_none_iff, chkI_none _ 0 (by decide), List.length_replicate] at e
        omega
      refine ⟨_, rfl, p, _, rfl, .inl (.inl (.inl (s6 _ _ hp5))), _, _, rfl, rfl, _, rfl, ?_⟩
      rw [rep_len]
      refine iteF' (decide_eq_false (by omega)) ?_
      refine ⟨.str (Str.ofString ""), .str (Str.ofString ""), .str _, .str _, by decide +kernel, by decide +kernel, ?_⟩
      rw [show PyData.eqv (.str (Str.ofString "")) (.str (Str.ofString "")) = true from by decide +kernel]
      exact kq _
    · have hgt : 20 < N := by
        by_cases hle : N ≤ 20
        · rw [mapBad_good hgood, (chkI_none _ 0 (by decide)).mpr ⟨oks, by rw [List.length_replicate]; omega⟩] at e
          cases e
        · omega
      rw [mapBad_good hgood, chkI_long _ 0 oks (by decide) (by rw [List.length_replicate]; omega)] at e
      obtain rfl : (20 : Int) = m := Option.some.inj e
      refine ⟨_, rfl, p, _, rfl, .inl (.inl (.inl (s6 _ _ hp5))), _, _, rfl, rfl, _, rfl, ?_⟩
      rw [rep_len]
      refine iteT' (decide_eq_true (by omega)) ?_
      refine ⟨by show 2 ≤ sizeLine; decide, fun r hr => ?_⟩
      have s7 := Same.new (Same.refl H6) hr (o := .tup [.str "InvalidMap", .int 20])
      refine ⟨dIM 20, dIM 20, dp_dIM (.inl (.inl (s7 _ _ hq))), dp_dIM (.inl (.inl upd_same)), sh_dIM _, sh_dIM _, ?_⟩
      rw [eqv_dIM]
      exact kq _
end
end Om

namespace Om
open PySem PySem.Spec PyProof.Rows L2 LamX He OmH
def tl14 : List Stmt := (defBody sLaw).drop 14
section
variable {P : Program} {w : World} {K : PySem.W.Frag} {mg : Str → Option Value} {base : Heap} {c Pt gE : Addr}
theorem law_tail14 {f : Addr} {fdE : FuncData} (TB : TabB base mg c Pt) (PP : Parts P w K mg base) (FE : FnP K "_law_error" "_law_error" sErr gE fdE) (bE : Binds K fdE ["_law_work"] []) (hgE : mg "_law_error" = some (.ref gE))
    (mA : OwnM K (gMp K) "__add__" (ma K (gMp K) "__add__")) (hsf : PySem.W.selfFirst K (gMp K) = true) (glen : mg "len" = none)
    {A : Around} {outer : List Env} {s : Shared} {H0 : Hp} {E : XK} (hr : Room 9 (A.deeper (envOfC "law" (defScope sLaw) s.heap.objs.size f (.ref c)))) :
    ∃ t, PSs (cxOf CX0 P w K mg base nLaw "law" (defScope sLaw) f (.ref c) A outer s H0 E).nox tl14 t ∧
      ∀ (Dn : Ends) (b l D xm pf xi : Addr) (rows : List (List Nat)) (sg : List Nat) (fs : List Nm) (is : List Ins) (H : Hp) (v0 v3 v4 v5 v6 v7 v8 v12 v13 v15 v16 v17 : Option V),
        LF K Pt H b l D xm pf xi rows sg fs is → LS rows sg fs is → (∀ H', Dn.rt (.bl true) H') →
        t Dn [v0, some (.ref b), some (.ref D), v3, v4, v5, v6, v7, v8, some (.ref xm), some (.ref pf), some (.ref xi), v12, v13, some (.str (tx sg)), v15, v16, v17] H := by
  obtain ⟨t16, q16, r16⟩ := law_tail2 (f := f) (H0 := H0) (E := E) (outer := outer) TB PP FE bE hgE mA hsf glen hr
  have nd := scLaw.nd
  have hr1 : Room 1 _ := hr.mono (by decide)
  have hr2 : Room 2 _ := hr.mono (by decide)
  refine ⟨_, pss_cons (ps_asg (pe_tup (pa_cons (pe_cal PP.odd hr2 pass0 (pa_cons (pv 1) pa_nil)) (pa_cons (pe_cal PP.tak hr1 pass0 (pa_cons (pv 1) (pa_cons (pe_op op_add (pe_callB call_len_seq (by rfl) glen PySem.boot_len (pa_cons (pv 2) pa_nil)) pe_int) pa_nil))) pa_nil))) (pg_tup rfl (pgs_cons (pg_name (i := 15) nd rfl (.inr rfl)) (pgs_cons (pg_name (i := 7) nd rfl (.inl rfl)) pgs_nil))))
      (pss_cons (ps_set (i := 13) nd rfl (.inr rfl) (pe_op op_cat (pe_op op_cat (pe_slice sl_list (pv 2) po_none (po_some (pv 7))) (pe_lst (pa_cons (pv 15) pa_nil))) (pe_slice sl_list (pv 2) (po_some (pv 7)) po_none)))
      q16), ?_⟩
  intro Dn b l D xm pf xi rows sg fs is H v0 v3 v4 v5 v6 v7 v8 v12 v13 v15 v16 v17 F S kq
  have hlen := S.len
  -- an odd instruction, a place
  refine ⟨_, rfl, b, l, rfl, F.B, fun wi vw H1 hw1 hw2 hw3 dpw B1 K1 => ?_⟩
  have F1 := F.kp B1 K1
  obtain ⟨xs, hL1, hD1⟩ := F1.L.ex
  have lx := dpAll_len hD1
  rw [List.length_map] at lx
  refine ⟨_, rfl, _, rfl, D, xs, rfl, .inl (.inl (.inl hL1)), _, _, rfl, rfl, ?_⟩
  rw [lx]
  refine ⟨b, l, _, rfl, B1, by omega, by omega, fun n H2 n0 n1 B2 K2 => ?_⟩
  obtain ⟨pl, rfl⟩ : ∃ pl : Nat, n = (pl : Int) := ⟨n.toNat, by omega⟩
  have hpl : pl ≤ is.length := by omega
  have F2 := F1.kp B2 K2
  have w2 := dp_kp B1 K2 (noL_ins wi) dpw
  refine ⟨by show 2 ≤ sizeLine; decide, fun q hq => ?_⟩
  have s3 := Same.new (Same.refl H2) hq (o := .tup [vw, .int (pl : Nat)])
  refine ⟨q, _, rfl, .inl (.inl upd_same), rfl, _, _, rfl, _, _, rfl, rfl, ?_⟩
  have F3 := F2.same s3
  have w3 := Same.dp s3 w2
  generalize upd H2 q (.tup [vw, .int (pl : Nat)]) = H3 at F3 w3 ⊢
  clear F F1 F2 w2 s3 hq dpw K1 K2 hL1 hD1 lx
  -- the chart with it
  obtain ⟨ys, hL, hD⟩ := F3.L.ex
  have ly := dpAll_len hD
  rw [List.length_map] at ly
  refine ⟨_, rfl, ?_⟩
  refine noPart ?_
  refine ⟨_, rfl, _, rfl, D, ys, rfl, .inl (.inl hL), fun q1 hq1 => ?_⟩
  rw [cutV_to]
  have s4 := Same.new (Same.refl H3) hq1 (o := .lst (ys.take pl))
  refine ⟨_, rfl, by show 1 ≤ sizeLine; decide, fun q2 hq2 => ?_⟩
  have s5 := Same.new (Same.refl _) hq2 (o := .lst [vw])
  refine ⟨q1, q2, _, _, rfl, rfl, s5 _ _ upd_same, upd_same, by rw [List.length_take, List.length_singleton]; exact Nat.le_trans (show _ ≤ 60 by omega) (by decide), fun q3 hq3 => ?_⟩
  have s6 := Same.new (Same.refl _) hq3 (o := .lst (ys.take pl ++ [vw]))
  have s36 := (s4.trans s5).trans s6
  refine ⟨_, rfl, _, rfl, _, rfl, ?_⟩
  refine noPart ?_
  refine ⟨D, ys, rfl, .inl (.inl (s36 _ _ hL)), fun q4 hq4 => ?_⟩
  rw [cutV_from]
  have s7 := Same.new (Same.refl _) hq4 (o := .lst (ys.drop pl))
  refine ⟨q3, q4, _, _, rfl, rfl, s7 _ _ upd_same, upd_same, by rw [List.length_append, List.length_take, List.length_singleton, List.length_drop]; exact Nat.le_trans (show _ ≤ 60 by omega) (by decide), fun q5 hq5 => ?_⟩
  have s8 := Same.new (Same.refl _) hq5 (o := .lst ((ys.take pl ++ [vw]) ++ ys.drop pl))
  have s38 := (s36.trans s7).trans s8
  have F8 := F3.same s38
  obtain ⟨nb, nl⟩ := ((F3.same (s36.trans s7)).B).ne_new hq5
  refine r16 Dn b l D q5 xm pf xi rows sg fs is pl wi vw _ _ _ _ _ _ _ _ _ _ F8 S hpl hw1 hw2 (Same.dp s38 w3) ⟨⟨_, upd_same, ?_⟩, nb, nl⟩ kq
  have hD8 := Same.dpAll s38 hD
  have z := dpAll_app (dpAll_take pl hD8) (.cons (Same.dp s38 w3) (dpAll_drop pl hD8))
  rw [← List.map_take, ← List.map_drop, ← List.map_cons, ← List.map_append, show ys.take pl ++ vw :: ys.drop pl = ys.take pl ++ [vw] ++ ys.drop pl from by rw [List.append_assoc]; rfl] at z
  exact z
end
end Om

namespace Om
open PySem PySem.Spec PyProof.Rows L2 LamX He OmH
def tl12 : List Stmt := (defBody sLaw).drop 12
theorem keepF_take (js : List Int) (is : List Ins) (i : Nat) (x : Ins) (h : is[i]? = some x) : keepF js (is.take (i + 1)) 0 = keepF js (is.take i) 0 ++ (if ((i : Nat) : Int) ∈ js then [] else [x]) := by
  have el : (is.take i).length = i := by
    have := (List.getElem?_eq_some_iff.mp h).1
    rw [List.length_take]
    omega
  rw [List.take_succ, h]
  show keepF js (is.take i ++ [x]) 0 = _
  rw [keepF_app, el, Nat.zero_add]
theorem okD_parts : ∀ i : Ins, i.lo → i.small = true → ∀ d ∈ i.parts, okD 2 d = true := by
  intro i h hs d hd
  have n1 : ∀ n : Nm, okD 2 n.d = true := fun n => by cases n <;> rfl
  have t1 : ∀ s : List Nat, LoS s → okD 2 (dt s) = true := fun s h => strOk_tx h
  have m1 : ∀ ns : List Nm, ns.length ≤ 1000 → okD 2 (.tuple (ns.map Nm.d)) = true := fun ns h => by
    show (decide (_ ≤ 10000) && List.all _ (okD 1)) = true
    rw [Bool.and_eq_true, decide_eq_true_eq, List.length_map, List.all_map, List.all_eq_true]
    exact ⟨by omega, fun n _ => by cases n <;> rfl⟩
  cases i <;> simp only [Ins.parts, List.mem_cons, List.not_mem_nil, or_false] at hd <;> (first | (rcases hd with rfl | rfl | rfl) | (rcases hd with rfl | rfl) | subst hd) <;> first | exact n1 _ | exact t1 _ h | exact m1 _ (of_decide_eq_true hs)
theorem okD_ins {i : Ins} (h : i.lo) (hs : i.small = true) : okD 3 i.d = true := by
  show (decide (_ ≤ 10000) && List.all _ (okD 2)) = true
  rw [Bool.and_eq_true, decide_eq_true_eq, List.all_eq_true]
  refine ⟨by cases i <;> simp [Ins.parts], fun d hd => ?_⟩
  rcases List.mem_cons.mp hd with rfl | hd
  · exact word_ok i
  · exact okD_parts i h hs d hd
theorem okD_inss {is : List Ins} (hl : is.length ≤ 1000) (h : ∀ x ∈ is, x.ok = true ∧ x.small = true ∧ x.lo) : okD 4 (.list (is.map Ins.d)) = true := by
  show (decide (_ ≤ 10000) && List.all _ (okD 3)) = true
  rw [Bool.and_eq_true, decide_eq_true_eq, List.length_map, List.all_map, List.all_eq_true]
  exact ⟨by omega, fun i hi => okD_ins (h i hi).2.2 (h i hi).2.1⟩
theorem dpAll_nmv {K : PySem.W.Frag} {H : Hp} : ∀ ns : List Nm, DpAll K H (ns.map Nm.v) (ns.map Nm.d)
  | [] => .nil
  | .i a :: r => .cons (.int a) (dpAll_nmv r)
  | .b a :: r => .cons (.bl a) (dpAll_nmv r)
theorem lay_insL {is : List Ins} (h : ∀ i ∈ is, i.lo) : (PyData.list (is.map Ins.d)).canLay0 = true := by
  simp only [PyData.canLay0]
  exact inss_lay h
theorem sh_insL {is : List Ins} (h : ∀ i ∈ is, i.lo) : SeqAt.shaped (.list (is.map Ins.d)) = true := shaped_of (lay_insL h) (by have := inss_dep is; simp only [PyData.depth]; omega)
theorem eqv_insL {is : List Ins} (h : ∀ i ∈ is, i.lo) : PyData.eqv (.list (is.map Ins.d)) (.list (is.map Ins.d)) = true := PySem.SeqAt.eqv_refl _ (lay_insL h)
section
variable {P : Program} {w : World} {K : PySem.W.Frag} {mg : Str → Option Value} {base : Heap} {c Pt gE : Addr}
theorem law_tail1 {f : Addr} {fdE : FuncData} (TB : TabB base mg c Pt) (PP : Parts P w K mg base) (FE : FnP K "_law_error" "_law_error" sErr gE fdE) (bE : Binds K fdE ["_law_work"] []) (hgE : mg "_law_error" = some (.ref gE))
    (mQM : OwnM K (gMp K) "__eq__" (ma K (gMp K) "__eq__")) (mA : OwnM K (gMp K) "__add__" (ma K (gMp K) "__add__"))
    (hsf : PySem.W.selfFirst K (gMp K) = true) (pI : PropOf K (gMp K) "instructions" (ma K (gMp K) "instructions") (getA K (gMp K) "instructions")) (mO : Meth K (gMp K) "without" (ma K (gMp K) "without")) (mW : Meth K (gMp K) "with_instructions" (ma K (gMp K) "with_instructions"))
    (grange : mg "range" = none) (glen : mg "len" = none) (glist : mg "list" = none)
    {A : Around} {outer : List Env} {s : Shared} {H0 : Hp} {E : XK} (hr : Room 9 (A.deeper (envOfC "law" (defScope sLaw) s.heap.objs.size f (.ref c)))) :
    ∃ t, PSs (cxOf CX0 P w K mg base nLaw "law" (defScope sLaw) f (.ref c) A outer s H0 E).nox tl12 t ∧
      ∀ (Dn : Ends) (b l D D3 xm pf xi : Addr) (rows : List (List Nat)) (sg : List Nat) (fs : List Nm) (is : List Ins) (js : List Int) (H : Hp) (v0 v3 v4 v5 v7 v8 v12 v13 v15 v16 v17 : Option V),
        LF K Pt H b l D xm pf xi rows sg fs is → LS rows sg fs is → js.length ≤ is.length → H D3 = some (.lst (js.map V.int)) → (∀ H', Dn.rt (.bl true) H') →
        t Dn [v0, some (.ref b), some (.ref D), v3, v4, v5, some (.ref D3), v7, v8, some (.ref xm), some (.ref pf), some (.ref xi), v12, v13, some (.str (tx sg)), v15, v16, v17] H := by
  obtain ⟨t14, q14, r14⟩ := law_tail14 (f := f) (H0 := H0) (E := E) (outer := outer) TB PP FE bE hgE mA hsf glen hr
  obtain ⟨fW, GW, bW⟩ := PP.wit.ex
  obtain ⟨fO, GO, bO⟩ := PP.wou.ex
  obtain ⟨fQ, GQ, bQ⟩ := PP.eqM.ex
  obtain ⟨h3, G3, b3⟩ := PP.pIn.ex
  have TM := PP.map
  have nd := scLaw.nd
  have hr1 : Room 1 _ := hr.mono (by decide)
  have hr2 : Room 2 _ := hr.mono (by decide)
  have hr7 : Room 7 _ := hr.mono (by decide)
  have hr8 : Room 8 _ := hr.mono (by decide)
  refine ⟨_, pss_cons (ps_if (pt_cmpR (op_neD hr.units) (pe_callTy call_list_of (by rfl) glist (by decide +kernel) (pa_cons (pe_prop (pe_meth (pv 9) TM.cl mO GO hr8 bO .nil passE0 (pa_cons (pv 6) pa_nil)) TM.cl pI G3 hr2 b3 .nil pass0 rfl) pa_nil)) (pe_lc (own := [("_law_index", 17)]) (g := gName 17) rfl nd (pi_range1 rfl grange (pa_cons (pe_callB call_len_seq (by rfl) glen PySem.boot_len (pa_cons (pv 2) pa_nil)) pa_nil)) blk12 (fun _ _ _ _ _ => pg_name (i := 17) nd rfl (.inl rfl)) (fun _ _ _ _ _ => pts_one (pt_cmpR (notIn_K' (K := K) rfl) (pv 17) (pv 6) (by with_unfolding_all rfl)))
          (fun _ _ _ _ _ => pe_ix (ixlK (K := K) rfl) (pv 2) (pv 17) (fun _ _ => rfl))) (nomark _)) (pss_one (ps_ret pe_bl)) pss_nil)
      (pss_cons (ps_if (PW.pt (pw_or (pt_not (pt_cmpR (op_eqOwn mQM GQ hr2 bQ pass0) (pe_meth (pv 9) TM.cl mW GW hr7 bW .nil passE0 (pa_cons (pv 2) pa_nil)) (pv 9) (nomark _))) (pw_or1 (PW.pt (pw_and (pt_cmpR (op_eqOwn mQM GQ hr2 bQ pass0) (pe_meth (pv 9) TM.cl mW GW hr7 bW .nil passE0 (pa_cons (pe_lst pa_nil) pa_nil)) (pv 9) (nomark _)) (pw_and1 (pt_cmpR (op_neD hr.units) (pv 2) (pe_lst pa_nil) (nomark _)))))))) (pss_one (ps_ret pe_bl)) pss_nil)
      q14), ?_⟩
  intro Dn b l D D3 xm pf xi rows sg fs is js H v0 v3 v4 v5 v7 v8 v12 v13 v15 v16 v17 F S hjl hJ kq
  have hlen := S.len
  have los := S.lo
  obtain ⟨dm, li, lf, lt, ys, hm, _⟩ := id F.M
  -- without
  refine ⟨_, rfl, xm, dm, _, rfl, hm, mapFs_no _ _ _ _ (by decide +kernel) (by decide +kernel) (by decide +kernel) (by decide +kernel), _, rfl, nilArgs ?_⟩
  refine ⟨xm, D3, js, rows, sg, fs, is, rfl, .inl (.inl hJ), by omega, F.M, S.fl, S.sm, S.hb, fun xw H1 s1 hxw hW1 => ?_⟩
  obtain ⟨dw, liw, lfw, ltw, ysw, hw1, hIw, hFw, hYw, hDw⟩ := id hW1
  refine ⟨xw, dw, _, rfl, hw1, ⟨xw, dw, _, _, rfl, hw1, mapFs_t .., ltw, ysw, rfl, .inr hYw, fun la hla => ?_⟩⟩
  have s2 := Same.new (Same.refl H1) hla (o := .lst ysw)
  have hL2 : (upd H1 la (.lst ysw)) la = some (.lst ysw) := upd_same
  have D2 := Same.dpAll s2 hDw
  have F2 := (F.same s1).same s2
  have hJ2 := s2 _ _ (s1 _ _ hJ)
  generalize upd H1 la (.lst ysw) = H2 at s2 hL2 D2 F2 hJ2 ⊢
  clear s1 s2 hW1 hw1 hIw hFw hYw hDw hla hxw
  obtain ⟨xs, hL, hD⟩ := F2.L.ex
  have lx := dpAll_len hD
  rw [List.length_map] at lx
  refine ⟨_, rfl, D, xs, rfl, .inl (.inl (.inl hL)), ?_⟩
  rw [lx]
  refine ⟨_, rfl, by omega, by omega, fun D4 hD4 => ?_⟩
  refine lc_range (lo := 0) (n := is.length) (fun i H' => ∃ acc : List V, H' D4 = some (.lst acc) ∧ acc.length ≤ i ∧ DpAll K H2 acc ((keepF js (is.take i) 0).map Ins.d) ∧ Same H2 H')
      ⟨[], upd_same, Nat.le_refl _, .nil, Same.new (Same.refl _) hD4⟩ ?_ ?_
  · rintro i H' hi ⟨acc, h1, h2, h3, h4⟩
    have hii : is[i]? = some is[i] := List.getElem?_eq_getElem hi
    have hxi : xs[i]? = some xs[i] := List.getElem?_eq_getElem (by omega)
    obtain ⟨u, hu, hdu⟩ := dpAll_at hD (i := i) (e := (is[i]).d) (by rw [List.getElem?_map, hii]; rfl)
    have ek := keepF_take js is i is[i] hii
    refine ⟨rfl, ?_⟩
    refine ⟨_, rfl, _, rfl, D3, _, rfl, .inl (.inl (.inl (h4 _ _ hJ2))), rfl, flat_ints _, _, rfl, ?_⟩
    show if (!inV (V.int (0 + (i : Int))) _) = true then _ else _
    rw [Int.zero_add, inV_ints]
    by_cases hj : ((i : Nat) : Int) ∈ js
    · rw [if_pos hj, List.append_nil] at ek
      refine iteF' (by rw [decide_eq_true hj]; rfl) ?_
      exact ⟨acc, h1, by omega, by rw [ek]; exact h3, h4⟩
    · rw [if_neg hj] at ek
      refine iteT' (by rw [decide_eq_false hj]; rfl) ?_
      refine ⟨_, rfl, _, rfl, D, xs, _, u, rfl, rfl, .inl (.inl (h4 _ _ hL)), atI_nat hu, ?_⟩
      refine ⟨acc, h1, Nat.lt_of_le_of_lt (show _ ≤ 60 by omega) (by decide), acc ++ [u], upd_same, by rw [List.length_append, List.length_singleton]; omega, ?_, fun c o hc => ?_⟩
      · rw [ek, List.map_append]
        exact dpAll_app h3 (.cons hdu .nil)
      · rw [upd_ne (ne_of_none hc hD4)]
        exact h4 c o hc
  rintro H3 ⟨acc, ha1, ha2, ha3, s3⟩
  rw [List.take_length] at ha3
  have F3 := F2.same s3
  obtain ⟨ks, kl⟩ := keepF_sub js is 0
  have lok : ∀ i ∈ keepF js is 0, i.lo := fun i hi => los i (ks i hi)
  refine ⟨.list ((keepF js is 0).map Ins.d), .list ((keepF js is 0).map Ins.d), .lst (.inl (.inl (s3 _ _ hL2))) (Same.dpAll s3 D2), .lst (.inl (.inl ha1)) (Same.dpAll s3 ha3), sh_insL lok, sh_insL lok, _, rfl, ?_⟩
  rw [eqv_insL lok]
  refine iteF' rfl ?_
  clear F F2 hL hD ha1 ha2 ha3 hL2 D2 hD4 hJ2 s3 hJ hm
  -- the same instructions once more
  obtain ⟨dm3, _, _, _, _, hm3, _⟩ := id F3.M
  refine ⟨_, rfl, xm, dm3, _, rfl, hm3, mapFs_no _ _ _ _ (by decide +kernel) (by decide +kernel) (by decide +kernel) (by decide +kernel), _, rfl, nilArgs ?_⟩
  refine ⟨xm, D, rows, sg, fs, is, is, rfl, F3.M, S.fl, F3.L.at_, S.sm, fun _ xq H4 s4 hxq hQ => ?_, fun n e => by rw [S.hb] at e; cases e⟩
  have F4 := F3.same s4
  obtain ⟨dq, _, _, _, _, hq4, _⟩ := id hQ
  refine ⟨_, rfl, xq, dq, _, xm, dm3, _, rfl, hq4, rfl, s4 _ _ hm3, xq, xm, rows, rows, sg, sg, fs, fs, is, is, rfl, hQ, F4.M, S.g.lo, S.g.lo, los, los, _, rfl, _, rfl, ?_⟩
  rw [eqM_refl los]
  refine iteF' rfl ?_
  -- none
  refine ⟨_, rfl, xm, dm3, _, rfl, s4 _ _ hm3, mapFs_no _ _ _ _ (by decide +kernel) (by decide +kernel) (by decide +kernel) (by decide +kernel), by show 0 ≤ sizeLine; decide, fun l0 hl0 => nilArgs ?_⟩
  have s5 := Same.new (Same.refl H4) hl0 (o := .lst [])
  have F5 := F4.same s5
  have hb0 : mapBad sg fs [] = none := by
    obtain ⟨m1, m2, _⟩ := mapBad_none.mp S.hb
    exact mapBad_none.mpr ⟨m1, m2, by simp, by decide⟩
  refine ⟨xm, l0, rows, sg, fs, is, [], rfl, F5.M, S.fl, ⟨[], .inl (.inl (.inl upd_same)), .nil⟩, ⟨by decide, fun i hi => by cases hi⟩, fun _ xe H6 s6 hxe hE => ?_, fun n e => by rw [hb0] at e; cases e⟩
  have F6 := F5.same s6
  obtain ⟨de, _, _, _, _, he6, _⟩ := id hE
  have lo0 : ∀ i ∈ ([] : List Ins), i.lo := fun i hi => by cases hi
  refine ⟨_, rfl, xe, de, _, xm, dm3, _, rfl, he6, rfl, s6 _ _ (s5 _ _ (s4 _ _ hm3)), xe, xm, rows, rows, sg, sg, fs, fs, [], is, rfl, hE, F6.M, S.g.lo, S.g.lo, lo0, los, _, rfl, _, rfl, ?_⟩
  cases is with
  | nil =>
    rw [eqM_refl lo0]
    refine iteT' rfl ?_
    obtain ⟨xs6, hL6, hD6⟩ := F6.L.ex
    refine ⟨_, rfl, by show 0 ≤ sizeLine; decide, fun l1 hl1 => ?_⟩
    have s7 := Same.new (Same.refl H6) hl1 (o := .lst [])
    refine ⟨.list (([] : List Ins).map Ins.d), .list (([] : List Ins).map Ins.d), (F6.same s7).L.dp, .lst (.inl (.inl upd_same)) .nil, sh_insL lo0, sh_insL lo0, _, rfl, ?_⟩
    rw [eqv_insL lo0]
    refine iteF' rfl ?_
    exact r14 Dn b l D xm pf xi rows sg fs [] _ _ _ _ _ _ _ _ _ _ _ _ _ (F6.same s7) S kq
  | cons i0 ir =>
    refine iteF' ?_ ?_
    · unfold eqM
      rw [show PyData.eqv (.tuple (([] : List Ins).map Ins.d)) (.tuple ((i0 :: ir).map Ins.d)) = false from rfl, Bool.and_false, Bool.and_false, Bool.and_false]
    · exact r14 Dn b l D xm pf xi rows sg fs (i0 :: ir) _ _ _ _ _ _ _ _ _ _ _ _ _ F6 S kq
end
end Om

namespace Om
open PySem PySem.Spec PyProof.Rows L2 LamX He OmH
theorem Kp.ins {b l a C dx : Addr} {H H' : Hp} {fs : List (Str × V)} (k : Kp b l H H') (B : Box H b l) (h : H a = some (.ins C dx fs)) : H' a = some (.ins C dx fs) := by
  obtain ⟨ns, z, h1, h2, _⟩ := id B.ex
  exact k _ _ h (ne_of h h1 fun e => by cases e) (ne_of h h2 fun e => by cases e)
theorem yesR {σ : L2.St} {H : Hp} {A B : Hp → Prop} (h : A H) : tYes σ H fun b H1 => if b = true then A H1 else B H1 := by
  show if true = true then A H else B H
  rw [if_pos rfl]
  exact h
section
variable {P : Program} {w : World} {K : PySem.W.Frag} {mg : Str → Option Value} {base : Heap} {c Pt gE : Addr}
theorem ok_law {f : Addr} {fd fdE : FuncData} (F : FnP K "law" "law" sLaw f fd) (hcd : ∀ cd, fd.code = cd → cd = .ref c) (TB : TabB base mg c Pt) (PP : Parts P w K mg base) (FE : FnP K "_law_error" "_law_error" sErr gE fdE) (bE : Binds K fdE ["_law_work"] []) (hgE : mg "_law_error" = some (.ref gE))
    (mQI : OwnM K (gI K) "__eq__" (ma K (gI K) "__eq__")) (mQM : OwnM K (gMp K) "__eq__" (ma K (gMp K) "__eq__")) (mL : OwnM K (gMp K) "__len__" (ma K (gMp K) "__len__")) (mG : OwnM K (gMp K) "__getitem__" (ma K (gMp K) "__getitem__")) (mA : OwnM K (gMp K) "__add__" (ma K (gMp K) "__add__"))
    (hsf : PySem.W.selfFirst K (gMp K) = true) (pI : PropOf K (gMp K) "instructions" (ma K (gMp K) "instructions") (getA K (gMp K) "instructions")) (pS : PropOf K (gMp K) "signs" (ma K (gMp K) "signs") (getA K (gMp K) "signs")) (pF : PropOf K (gMp K) "facings" (ma K (gMp K) "facings") (getA K (gMp K) "facings"))
    (pL : PropOf K (gMp K) "island" (ma K (gMp K) "island") (getA K (gMp K) "island")) (mU : Meth K (gMp K) "until" (ma K (gMp K) "until")) (mO : Meth K (gMp K) "without" (ma K (gMp K) "without")) (mW : Meth K (gMp K) "with_instructions" (ma K (gMp K) "with_instructions"))
    (grange : mg "range" = none) (glen : mg "len" = none) (glist : mg "list" = none) (gmax : mg "max" = none) : FnOk P w K mg base CX0 10 f fd ["_law_script"] (spLaw K Pt) := by
  obtain ⟨oc, od, dV, kV, doc, pm, an, cdv, ct, osl, rfl, lk, hcdv, _, _⟩ := F.ex
  have FE0 := FE
  obtain rfl : cdv = .ref c := hcd _ rfl
  obtain ⟨fI, GI, bI⟩ := PP.mkI.ex
  obtain ⟨fM, GM, bM⟩ := PP.mkM.ex
  obtain ⟨fU, GU, bU⟩ := PP.upt.ex
  obtain ⟨fW, GW, bW⟩ := PP.wit.ex
  obtain ⟨fO, GO, bO⟩ := PP.wou.ex
  obtain ⟨fL, GL, bL⟩ := PP.len.ex
  obtain ⟨fG, GG, bG⟩ := PP.get.ex
  obtain ⟨fA, GA, bA⟩ := PP.add.ex
  obtain ⟨fQ, GQ, bQ⟩ := PP.eqM.ex
  obtain ⟨fR, GR, bR⟩ := PP.eqI.ex
  obtain ⟨h0, G0, b0⟩ := PP.pIs.ex
  obtain ⟨h1, G1, b1⟩ := PP.pSg.ex
  obtain ⟨h2, G2, b2⟩ := PP.pFc.ex
  obtain ⟨h3, G3, b3⟩ := PP.pIn.ex
  have TI := PP.isl
  have TM := PP.map
  have TE := PP.err
  refine fn_of (k := 9) lk hcdv scLaw (fun vs H Q E h => ?_) (fun A outer s H vs Q E hr h => ?_)
  · obtain ⟨a, ns, rfl, _⟩ := h
    rfl
  · obtain ⟨a, ns, rfl, hS, hlen, hP, k⟩ := h
    have nd := scLaw.nd
    have hr1 : Room 1 _ := hr.mono (by decide)
    have hr2 : Room 2 _ := hr.mono (by decide)
    have hr3 : Room 3 _ := hr.mono (by decide)
    have hr5 : Room 5 _ := hr.mono (by decide)
    have hr6 : Room 6 _ := hr.mono (by decide)
    have hr7 : Room 7 _ := hr.mono (by decide)
    have hr8 : Room 8 _ := hr.mono (by decide)
    have hr9 : Room 9 _ := hr
    have hu : ∀ p ∈ TT1 Pt, p.1 = Pt → p.2 = lamQ := fun p hp _ => by rw [List.mem_singleton.mp hp]
    have hm : (Pt, lamQ) ∈ TT1 Pt := List.mem_singleton.mpr rfl
    obtain ⟨t12, q12, r12⟩ := law_tail1 (f := f) (H0 := H) (E := E) (s := s) (A := A) (outer := outer) TB PP FE0 bE hgE mQM mA hsf pI mO mW grange glen glist hr
    refine ⟨_, PSs.nox (pss_cons (ps_set (i := 1) nd rfl (.inr rfl) (pe_cal PP.beg hr1 pass0 (pa_cons (pv 0) pa_nil)))
      (pss_cons (ps_set (i := 11) nd rfl (.inr rfl) (pe_make TI.made GI hr5 rfl TI.gI bI .nil passE0 (pa_cons (pe_cal PP.row hr2 pass0 (pa_cons (pv 1) (pa_cons pe_int pa_nil))) pa_nil)))
      (pss_cons (ps_asg (pe_tup (pa_cons (pe_cal PP.sig hr2 pass0 (pa_cons (pv 1) (pa_cons pe_str pa_nil))) (pa_cons (pe_cal PP.tur hr2 pass0 (pa_cons (pv 1) pa_nil)) pa_nil))) (pg_tup rfl (pgs_cons (pg_name (i := 14) nd rfl (.inr rfl)) (pgs_cons (pg_name (i := 10) nd rfl (.inr rfl)) pgs_nil))))
      (pss_cons (ps_set (i := 2) nd rfl (.inr rfl) (pe_lc (own := [("_law_turn", 16)]) (g := gName 16) rfl nd (pi_range1 rfl grange (pa_cons (pe_cal PP.tak hr1 pass0 (pa_cons (pv 1) (pa_cons pe_int pa_nil))) pa_nil)) blk3 (fun _ _ _ _ _ => pg_name (i := 16) nd rfl (.inl rfl)) (fun _ _ _ _ _ => pts_nil)
          (fun _ _ _ _ _ => pe_cal PP.ins hr3 pass0 (pa_cons (pv 1) pa_nil))))
      (pss_cons (ps_set (i := 9) nd rfl (.inr rfl) (pe_make TM.made GM hr6 rfl TM.gM bM .nil passE0 (pa_cons (pv 11) (pa_cons (pv 14) (pa_cons (pv 10) (pa_cons (pv 2) pa_nil))))))
      (pss_cons (ps_set (i := 3) nd rfl (.inl rfl) (pe_lst (pa_cons (pe_callTy call_list_of (by rfl) glist (by decide +kernel) (pa_cons (pe_prop (pv 9) TM.cl pI G3 hr2 b3 .nil pass0 rfl) pa_nil)) (pa_cons (pe_callB (call_lenOwn (E := E0) mL GL hr2 bL pass0) (by rfl) glen PySem.boot_len (pa_cons (pv 9) pa_nil))
          (pa_cons (pe_prop (pv 9) TM.cl pS G1 hr2 b1 .nil pass0 rfl) (pa_cons (pe_prop (pv 9) TM.cl pF G2 hr2 b2 .nil pass0 rfl) pa_nil))))))
      (pss_cons (ps_if (pt_not (pt_val (pe_cal PP.alk hr6 pass0 (pa_cons (pv 3) (pa_cons (pe_lst (pa_cons (pv 2) (pa_cons (pe_callB call_len_seq (by rfl) glen PySem.boot_len (pa_cons (pv 2) pa_nil)) (pa_cons (pv 14) (pa_cons (pv 10) pa_nil))))) pa_nil))))) (pss_one (ps_ret pe_bl)) pss_nil)
      (pss_cons (ps_if (PW.pt (pw_or (pt_not (pt_cmpR (op_eqOwn mQI GR hr1 bR pass0) (pe_prop (pv 9) TM.cl pL G0 hr2 b0 .nil pass0 rfl) (pv 11) (nomark _))) (pw_or1 (pt_cmpR (op_neD hr.units) (pe_lc (own := [("_law_index", 17)]) (g := gName 17) rfl nd (pi_range1 rfl grange (pa_cons (pe_callB call_len_seq (by rfl) glen PySem.boot_len (pa_cons (pv 2) pa_nil)) pa_nil)) blk7 (fun _ _ _ _ _ => pg_name (i := 17) nd rfl (.inl rfl)) (fun _ _ _ _ _ => pts_nil)
          (fun _ _ _ _ _ => pe_ixOwn mG GG hr2 bG pass0 (pv 9) (pv 17))) (pv 2) (nomark _))))) (pss_one (ps_ret pe_bl)) pss_nil)
      (pss_cons (ps_set (i := 4) nd rfl (.inl rfl) (pe_op op_sub (pe_cal PP.tak hr1 pass0 (pa_cons (pv 1) (pa_cons (pe_op op_add (pe_callB call_len_seq (by rfl) glen PySem.boot_len (pa_cons (pv 2) pa_nil)) pe_int) pa_nil))) pe_int))
      (pss_cons (ps_set (i := 5) nd rfl (.inl rfl) (pe_meth (pv 9) TM.cl mU GU hr8 bU .nil passE0 (pa_cons (pv 4) pa_nil)))
      (pss_cons (ps_if (PW.pt (pw_or (pt_cmpR (op_neD hr.units) (pe_callTy call_list_of (by rfl) glist (by decide +kernel) (pa_cons (pe_prop (pv 5) TM.cl pI G3 hr2 b3 .nil pass0 rfl) pa_nil)) (pe_slice sl_list (pv 2) po_none (po_some (pe_callB (call_max2 rfl) (by rfl) gmax (by decide +kernel) (pa_cons pe_int (pa_cons (pv 4) pa_nil))))) (nomark _)) (pw_or1 (pt_not (pt_cmpR (op_eqOwn mQM GQ hr2 bQ pass0) (pe_op (op_addOwn mA hsf GA hr7 bA passE0) (pv 5) (pe_slice sl_list (pv 2) (po_some (pe_callB (call_max2 rfl) (by rfl) gmax (by decide +kernel) (pa_cons pe_int (pa_cons (pv 4) pa_nil)))) po_none)) (pv 9) (nomark _)))))) (pss_one (ps_ret pe_bl)) pss_nil)
      (pss_cons (ps_set (i := 6) nd rfl (.inr rfl) (pe_lc (own := [("_law_index", 17)]) (g := gName 17) rfl nd (pi_range1 rfl grange (pa_cons (pe_callB call_len_seq (by rfl) glen PySem.boot_len (pa_cons (pv 2) pa_nil)) pa_nil)) blk11 (fun _ _ _ _ _ => pg_name (i := 17) nd rfl (.inl rfl)) (fun _ _ _ _ _ => pts_one (pt_cmpR op_eq (pe_cal PP.tak hr1 pass0 (pa_cons (pv 1) (pa_cons pe_int pa_nil))) pe_int (nomark _)))
          (fun _ _ _ _ _ => pv 17)))
      q12)))))))))))), ?_⟩
    refine ⟨_, rfl, a, ns, rfl, hS, hlen, fun b l H1 nb nl s1 B1 => ?_⟩
    have T1 : Tabs (TT1 Pt) H1 := fun p hp => by
      rw [List.mem_singleton.mp hp]
      exact TabS.nil (s1 _ _ hP)
    refine ⟨_, rfl, b, l, 4, rfl, B1, by decide, by decide, fun p rows H2 ok hp0 hp B2 K2 => ?_⟩
    have g := ok.good (by decide)
    have T2 := tabs_kp T1 B1 K2
    refine nilArgs ?_
    intro xi dx hxi hdx hne
    have s2 : Same H2 (upd (upd H2 dx (.own xi)) xi (.ins (gI K) dx [])) := fun c o hc => by
      rw [upd_ne (ne_of_none hc hxi), upd_ne (ne_of_none hc hdx)]
      exact hc
    refine ⟨xi, dx, p, rows, rfl, upd_same, Same.tup s2 (.inl (.inl hp)), Nat.le_trans g.len (by decide), g.lens, fun _ H3 k1 k2 => ⟨rfl, ?_⟩, fun r c e => by rw [chk_rows ok (by decide)] at e; cases e⟩
    have s3 : Same H2 H3 := fun c o hc => k1 c o (s2 c o hc) (ne_of_none hc hxi)
    have hI3 : Isl K (gI K) H3 xi rows := ⟨dx, p, k2, Same.tup s3 (.inl (.inl hp))⟩
    have B3 := B2.same s3
    have T3 := T2.ext s3
    refine ⟨_, rfl, b, l, [46, 65, 66, 75], by show [V.ref b, V.str _] = _; rw [show Str.ofString ".ABK" = tx [46, 65, 66, 75] from by decide +kernel], B3, by decide, by decide, by decide, by decide, fun sg H4 hsg hss B4 K4 => ?_⟩
    have hI4 := hI3.kp B3 K4
    have T4 := tabs_kp T3 B3 K4
    refine ⟨_, rfl, b, l, rfl, B4, fun fs pf H5 hfs hfl hpf B5 K5 => ?_⟩
    have hI5 := hI4.kp B4 K5
    have T5 := tabs_kp T4 B4 K5
    refine ⟨by show 2 ≤ sizeLine; decide, fun pt hpt => ?_⟩
    have s6 := Same.new (Same.refl H5) hpt (o := .tup [vt sg, .ref pf])
    refine ⟨pt, _, rfl, .inl (.inl upd_same), rfl, _, _, rfl, _, _, rfl, rfl, ?_⟩
    have hI6 := hI5.same s6
    have B6 := B5.same s6
    have T6 := T5.ext s6
    have hf6 := s6 _ _ hpf
    generalize upd H5 pt (.tup [vt sg, .ref pf]) = H6 at s6 hI6 B6 T6 hf6 ⊢
    refine ⟨_, rfl, b, l, 20, rfl, B6, by decide, by decide, fun n H7 n0 n1 B7 K7 => ?_⟩
    have hI7 := hI6.kp B6 K7
    have T7 := tabs_kp T6 B6 K7
    have hf7 := SqT.kp B6 K7 (.inl (.inl hf6) : SqT K H6 pf (fs.map Nm.v))
    refine ⟨n, rfl, by omega, by omega, fun D hD => ?_⟩
    obtain ⟨Db, Dl⟩ := B7.ne_new hD
    refine lc_range (lo := 0) (n := n.toNat) (fun i H' => ∃ (acc : List V) (is : List Ins), is.length = i ∧ H' D = some (.lst acc) ∧ DpAll K H' acc (is.map Ins.d) ∧ (∀ x ∈ is, x.ok = true ∧ x.small = true ∧ x.lo) ∧ Box H' b l ∧ Kp b l H7 H')
      ⟨[], [], rfl, upd_same, .nil, by simp, B7.same (Same.new (Same.refl _) hD), Kp.of (Same.new (Same.refl _) hD)⟩ ?_ ?_
    · rintro i H8 hi ⟨acc, is, e1, e2, e3, e4, e5, e6⟩
      refine ⟨rfl, yesR ?_⟩
      refine ⟨_, rfl, b, l, rfl, e5, fun ins v H9 i1 i2 i3 i4 B9 K9 => ?_⟩
      have f2 := K9 D _ e2 Db Dl
      have la := dpAll_len e3
      rw [List.length_map] at la
      refine ⟨acc, f2, Nat.lt_of_le_of_lt (show _ ≤ 60 by omega) (by decide), acc ++ [v], is ++ [ins], by rw [List.length_append, e1]; rfl, upd_same, ?_, fun x hx => ?_, B9.updL Db Dl, (e6.trans K9).updL hD⟩
      · rw [List.map_append]
        exact dpAll_app (dpAll_noL (fun _ _ => SqT.updL f2) (noL_inss is) (dpAll_kp e5 K9 (noL_inss is) e3)) (.cons (dp_noL (fun _ _ => SqT.updL f2) (noL_ins ins) i4) .nil)
      · rcases List.mem_append.mp hx with hx | hx
        · exact e4 x hx
        · rw [List.mem_singleton.mp hx]; exact ⟨i1, i2, i3⟩
    rintro H8 ⟨xs, is, hil, hL8, hD8, his, B8, K8⟩
    have hI8 := hI7.kp B7 K8
    have T8 := tabs_kp T7 B7 K8
    have hf8 := SqT.kp B7 K8 hf7
    have L8 : LstI K H8 b l D is := ⟨⟨xs, hL8, hD8⟩, Db, Dl⟩
    have hil2 : is.length ≤ 19 := by omega
    have hb : mapBad sg fs is = none := mapBad_none.mpr ⟨ascS_of hsg (hss.trans (by decide)) (by decide), hfs, fun x hx => (his x hx).1, by omega⟩
    have sm : SmI is := ⟨by omega, fun x hx => (his x hx).2.1⟩
    refine ⟨_, rfl, _, rfl, _, rfl, _, rfl, nilArgs ?_⟩
    intro xm dm hxm hdm hne
    have s8 : Same H8 (upd (upd H8 dm (.own xm)) xm (.ins (gMp K) dm [])) := fun c o hc => by
      rw [upd_ne (ne_of_none hc hxm), upd_ne (ne_of_none hc hdm)]
      exact hc
    refine ⟨xm, dm, xi, pf, D, sg, fs, is, rfl, upd_same, Same.tup s8 hf8, by omega, L8.at_.same s8, sm, fun _ lt ys H9 k1 hYm9 hDm9 hm9 => ⟨rfl, ?_⟩, fun n e => by rw [hb] at e; cases e⟩
    have s9 : Same H8 H9 := fun c o hc => k1 c o (s8 c o hc) (ne_of_none hc hxm)
    have hM9 : Mp K (gMp K) (gI K) H9 xm rows sg fs is := ⟨dm, xi, pf, lt, ys, hm9, hI8.same s9, Same.tup s9 hf8, hYm9, hDm9⟩
    have B9 := B8.same s9
    have T9 := T8.ext s9
    have L9 := L8.same s9
    have hI9 := hI8.same s9
    have hf9 := Same.tup s9 hf8
    refine ⟨_, rfl, xm, dm, _, rfl, hm9, ⟨xm, dm, _, _, rfl, hm9, mapFs_t .., ?_⟩⟩
    refine ⟨lt, ys, rfl, .inr hYm9, fun la hla => ?_⟩
    have s10 := Same.new (Same.refl H9) hla (o := .lst ys)
    have hL10 : (upd H9 la (.lst ys)) la = some (.lst ys) := upd_same
    generalize upd H9 la (.lst ys) = H10 at s10 hL10 ⊢
    have hM10 := hM9.same s10
    refine ⟨_, rfl, xm, dm, _, rfl, s10 _ _ hm9, xm, rows, sg, fs, is, rfl, hM10, _, rfl, by omega, by omega, ?_⟩
    refine ⟨_, rfl, xm, dm, _, rfl, s10 _ _ hm9, ⟨xm, dm, _, _, rfl, s10 _ _ hm9, mapFs_s .., ?_⟩⟩
    refine ⟨_, rfl, xm, dm, _, rfl, s10 _ _ hm9, ⟨xm, dm, _, _, rfl, s10 _ _ hm9, mapFs_f .., ?_⟩⟩
    refine ⟨by show 4 ≤ sizeLine; decide, fun sh hsh => ?_⟩
    have s11 := Same.new (Same.refl H10) hsh (o := .lst [.ref la, .int (is.length : Nat), .str (tx sg), .ref pf])
    have hS11 : (upd H10 sh (.lst [.ref la, .int (is.length : Nat), .str (tx sg), .ref pf])) sh = some (.lst [.ref la, .int (is.length : Nat), .str (tx sg), .ref pf]) := upd_same
    generalize upd H10 sh (.lst [.ref la, .int (is.length : Nat), .str (tx sg), .ref pf]) = H11 at s11 hS11 ⊢
    have s911 : Same H9 H11 := s10.trans s11
    have hL11 : SqL K H11 D xs := .inl (.inl (s911 _ _ (s9 _ _ hL8)))
    have lx := dpAll_len hD8
    rw [List.length_map] at lx
    refine ⟨_, rfl, _, rfl, _, rfl, D, xs, rfl, .inl hL11, _, rfl, _, rfl, by show 4 ≤ sizeLine; decide, fun dl hdl => nilArgs ?_⟩
    rw [lx]
    have s12 := Same.new (Same.refl H11) hdl (o := .lst [.ref D, .int (is.length : Nat), vt sg, .ref pf])
    have hd12 : (upd H11 dl (.lst [.ref D, .int (is.length : Nat), vt sg, .ref pf])) dl = some (.lst [.ref D, .int (is.length : Nat), vt sg, .ref pf]) := upd_same
    generalize upd H11 dl (.lst [.ref D, .int (is.length : Nat), vt sg, .ref pf]) = H12 at s12 hd12 ⊢
    have s912 : Same H9 H12 := s911.trans s12
    have dfs : Dp K H12 (.ref pf) (.tuple (fs.map Nm.d)) := .tup (Same.tup s912 hf9) (dpAll_nmv fs)
    have los : LoS sg := lo_of hss (by decide)
    refine ⟨.ref sh, .ref dl, .list [.list (is.map Ins.d), .int (is.length : Nat), dt sg, .tuple (fs.map Nm.d)], rfl,
      .lst (.inl (.inl (s12 _ _ hS11))) (.cons (.lst (.inl (.inl (s12 _ _ (s11 _ _ hL10)))) (Same.dpAll s912 hDm9)) (.cons (.int _) (.cons (.str _) (.cons dfs .nil)))),
      .lst (.inl (.inl hd12)) (.cons ((L9.same s912).dp) (.cons (.int _) (.cons (.str _) (.cons dfs .nil)))), ?_, true, rfl, ?_⟩
    · have e1 := okD_inss (is := is) (by omega) his
      have e2 : okD 4 (dt sg) = true := strOk_tx los
      have e3 : okD 4 (.tuple (fs.map Nm.d)) = true := by
        show (decide (_ ≤ 10000) && List.all _ (okD 3)) = true
        rw [Bool.and_eq_true, decide_eq_true_eq, List.length_map, List.all_map, List.all_eq_true]
        exact ⟨by omega, fun n _ => by cases n <;> rfl⟩
      show (decide (_ ≤ 10000) && List.all _ (okD 4)) = true
      simp only [List.all_cons, List.all_nil, e1, e2, e3, Bool.and_true, Bool.true_and]
      rfl
    refine iteF' rfl ?_
    have B12 := B9.same s912
    have T12 := T9.ext s912
    have L12 := L9.same s912
    have hI12 := hI9.same s912
    have hM12 := hM9.same s912
    have hf12 := Same.tup s912 hf9
    have hm12 := s912 _ _ hm9
    obtain ⟨di, pi, hi12, hri12⟩ := id hI12
    refine ⟨_, rfl, xm, dm, _, rfl, hm12, ⟨xm, dm, _, _, rfl, hm12, mapFs_i .., _, rfl, xi, di, _, xi, di, _, rfl, hi12, rfl, hi12, xi, xi, rows, rows, rfl, hI12, hI12, g.lo, g.lo, _, rfl, _, rfl, ?_⟩⟩
    refine iteF' (by simp) ?_
    have los2 : ∀ i ∈ is, i.lo := fun i hi => (his i hi).2.2
    refine ⟨_, rfl, D, xs, rfl, .inl (Same.lst s12 hL11), ?_⟩
    rw [lx]
    refine ⟨_, rfl, by omega, by omega, fun D2 hD2 => ?_⟩
    refine lc_range (lo := 0) (n := is.length) (fun i H' => ∃ acc : List V, H' D2 = some (.lst acc) ∧ acc.length = i ∧ DpAll K H' acc ((is.take i).map Ins.d) ∧ Same H12 H')
      ⟨[], upd_same, rfl, .nil, Same.new (Same.refl _) hD2⟩ ?_ ?_
    · rintro i H' hi ⟨acc, h1, h2, h3, h4⟩
      have hii : is[i]? = some is[i] := List.getElem?_eq_getElem hi
      refine ⟨rfl, yesR ?_⟩
      refine ⟨_, rfl, _, rfl, xm, dm, _, rfl, h4 _ _ hm12, xm, i, is[i], rows, sg, fs, is, (by rw [Int.zero_add]), hM12.same h4, hii, fun v hv => ?_⟩
      refine ⟨acc, h1, Nat.lt_of_le_of_lt (show _ ≤ 60 by omega) (by decide), acc ++ [v], upd_same, by rw [List.length_append, h2]; rfl, ?_, fun c o hc => ?_⟩
      · rw [List.take_succ, hii, List.map_append]
        exact dpAll_app (dpAll_noL (fun _ _ => SqT.updL h1) (noL_inss _) h3) (.cons (dp_noL (fun _ _ => SqT.updL h1) (noL_ins _) hv) .nil)
      · rw [upd_ne (ne_of_none hc hD2)]
        exact h4 c o hc
    rintro H13 ⟨acc, ha1, ha2, ha3, s13⟩
    rw [List.take_length] at ha3
    refine ⟨_, rfl, .list (is.map Ins.d), .list (is.map Ins.d), .lst (.inl (.inl ha1)) ha3, (L12.same s13).dp, sh_insL los2, sh_insL los2, _, rfl, ?_⟩
    rw [eqv_insL los2]
    refine iteF' rfl ?_
    have B13 := B12.same s13
    have T13 := T12.ext s13
    have L13 := L12.same s13
    have hI13 := hI12.same s13
    have hM13 := hM12.same s13
    have hf13 := Same.tup s13 hf12
    have hm13 := s13 _ _ hm12
    have hL13 : SqL K H13 D xs := Same.lst s13 (Same.lst s12 hL11)
    refine ⟨_, rfl, _, rfl, D, xs, rfl, .inl hL13, ?_⟩
    rw [lx]
    refine ⟨_, _, rfl, rfl, b, l, _, rfl, B13, by omega, by omega, fun n2 H14 c0 c1 B14 K14 => ⟨_, _, rfl, rfl, ?_⟩⟩
    have T14 := tabs_kp T13 B13 K14
    have L14 := L13.kp B13 K14
    have hI14 := hI13.kp B13 K14
    have hM14 := hM13.kp B13 K14
    have hf14 := SqT.kp B13 K14 hf13
    have hm14 := K14.ins B13 hm13
    have hL14 : H14 D = some (.lst xs) := K14 _ _ (s13 _ _ (s12 _ _ (s911 _ _ (s9 _ _ hL8)))) Db Dl
    refine ⟨_, rfl, xm, dm, _, rfl, hm14, mapFs_no _ _ _ _ (by decide) (by decide) (by decide) (by decide), _, rfl, nilArgs ?_⟩
    refine ⟨xm, _, rows, sg, fs, is, rfl, hM14, by omega, sm, hb, fun xp H15 s15 hxp hP15 => ?_⟩
    have B15 := B14.same s15
    have T15 := T14.ext s15
    have L15 := L14.same s15
    have hI15 := hI14.same s15
    have hM15 := hM14.same s15
    have hf15 := Same.tup s15 hf14
    have hm15 := s15 _ _ hm14
    have hL15 := s15 _ _ hL14
    obtain ⟨dp, li5, lf5, lt5, ys5, hp15, hIp15, hFp15, hYp15, hDp15⟩ := id hP15
    refine ⟨_, rfl, xp, dp, _, rfl, hp15, ⟨xp, dp, _, _, rfl, hp15, mapFs_t .., lt5, ys5, rfl, .inr hYp15, fun la2 hla2 => ?_⟩⟩
    have s16 := Same.new (Same.refl H15) hla2 (o := .lst ys5)
    have hL16 : (upd H15 la2 (.lst ys5)) la2 = some (.lst ys5) := upd_same
    generalize upd H15 la2 (.lst ys5) = H16 at s16 hL16 ⊢
    have em : (if n2 - 1 > 0 then n2 - 1 else 0) = (((n2 - 1).toNat : Nat) : Int) := by split <;> omega
    refine ⟨_, rfl, ?_⟩
    refine noPart ?_
    refine ⟨_, rfl, _, _, rfl, _, rfl, D, xs, rfl, .inl (.inl (s16 _ _ hL15)), fun q6 hq6 => ?_⟩
    rw [em, cutV_to]
    have hD15 : DpAll K H15 xs (is.map Ins.d) := by
      obtain ⟨x', e1, e2⟩ := L15.ex
      rw [hL15] at e1
      cases e1
      exact e2
    have s17 := Same.new (Same.refl H16) hq6 (o := .lst (xs.take (n2 - 1).toNat))
    have hq17 : (upd H16 q6 (.lst (xs.take (n2 - 1).toNat))) q6 = some (.lst (xs.take (n2 - 1).toNat)) := upd_same
    generalize upd H16 q6 (.lst (xs.take (n2 - 1).toNat)) = H17 at s17 hq17 ⊢
    have s157 : Same H15 H17 := s16.trans s17
    have lot : ∀ i ∈ is.take (n2 - 1).toNat, i.lo := fun i hi => los2 i (List.mem_of_mem_take hi)
    refine ⟨.list ((is.take (n2 - 1).toNat).map Ins.d), .list ((is.take (n2 - 1).toNat).map Ins.d), .lst (.inl (.inl (s17 _ _ hL16))) (Same.dpAll s157 hDp15), .lst (.inl (.inl hq17)) (by rw [List.map_take]; exact dpAll_take _ (Same.dpAll s157 hD15)), sh_insL lot, sh_insL lot, _, rfl, ?_⟩
    rw [eqv_insL lot]
    refine iteF' rfl ?_
    have hP17 := hP15.same s157
    obtain ⟨dp7, li7, lf7, lt7, ys7, hp17, _⟩ := id hP17
    refine ⟨_, rfl, _, rfl, _, rfl, _, _, rfl, _, rfl, ?_⟩
    refine noPart ?_
    refine ⟨D, xs, rfl, .inl (.inl (s157 _ _ hL15)), fun q8 hq8 => ?_⟩
    rw [em, cutV_from]
    have s18 := Same.new (Same.refl H17) hq8 (o := .lst (xs.drop (n2 - 1).toNat))
    have hq18 : (upd H17 q8 (.lst (xs.drop (n2 - 1).toNat))) q8 = some (.lst (xs.drop (n2 - 1).toNat)) := upd_same
    generalize upd H17 q8 (.lst (xs.drop (n2 - 1).toNat)) = H18 at s18 hq18 ⊢
    have s158 : Same H15 H18 := s157.trans s18
    have etd : is.take (n2 - 1).toNat ++ is.drop (n2 - 1).toNat = is := List.take_append_drop _ _
    refine ⟨xp, dp7, _, q8, xs.drop (n2 - 1).toNat, rfl, s18 _ _ hp17, rfl, .inl (.inl hq18), xp, q8, rows, sg, fs, is.take (n2 - 1).toNat, is.drop (n2 - 1).toNat, rfl, hP15.same s158, by omega, ⟨_, .inl (.inl (.inl hq18)), by rw [List.map_drop]; exact dpAll_drop _ (Same.dpAll s158 hD15)⟩, by rw [etd]; exact sm, fun _ xq H19 s19 hxq hQ19 => ⟨_, rfl, ?_⟩, fun n e => by rw [etd, hb] at e; cases e⟩
    rw [etd] at hQ19
    obtain ⟨dq, li9, lf9, lt9, ys9, hq19, _⟩ := id hQ19
    have s159 : Same H15 H19 := s158.trans s19
    refine ⟨_, rfl, xq, dq, _, xm, dm, _, rfl, hq19, rfl, s159 _ _ hm15, xq, xm, rows, rows, sg, sg, fs, fs, is, is, rfl, hQ19, hM15.same s159, g.lo, g.lo, los2, los2, _, rfl, _, rfl, ?_⟩
    rw [eqM_refl los2]
    refine iteF' rfl ?_
    have B19 := B15.same s159
    have T19 := T15.ext s159
    have L19 := L15.same s159
    have hI19 := hI15.same s159
    have hM19 := hM15.same s159
    have hf19 := Same.tup s159 hf15
    have hm19 := s159 _ _ hm15
    have hL19 := s159 _ _ hL15
    refine ⟨_, rfl, D, xs, rfl, .inl (.inl (.inl hL19)), ?_⟩
    rw [lx]
    refine ⟨_, rfl, by omega, by omega, fun D3 hD3 => ?_⟩
    obtain ⟨D3b, D3l⟩ := B19.ne_new hD3
    refine lc_range (lo := 0) (n := is.length) (fun i H' => ∃ js : List Int, js.length ≤ i ∧ H' D3 = some (.lst (js.map V.int)) ∧ Box H' b l ∧ Kp b l H19 H')
      ⟨[], Nat.le_refl _, upd_same, B19.same (Same.new (Same.refl _) hD3), Kp.of (Same.new (Same.refl _) hD3)⟩ ?_ ?_
    · rintro i H' hi ⟨js, q1, q2, q4, q5⟩
      refine ⟨rfl, ?_⟩
      refine ⟨_, rfl, b, l, 2, rfl, q4, by decide, by decide, fun n H3 a1 a2 B3 K3 => ⟨rfl, _, rfl, ?_⟩⟩
      have r2 := K3 D3 _ q2 D3b D3l
      refine ite2 (fun hz => ?_) (fun hz => ?_)
      · refine ⟨_, rfl, _, r2, Nat.lt_of_le_of_lt (show _ ≤ 60 by rw [List.length_map]; omega) (by decide), js ++ [0 + (i : Int)], by rw [List.length_append]; exact Nat.succ_le_succ q1, ?_, B3.updL D3b D3l, (q5.trans K3).updL hD3⟩
        rw [upd_same, List.map_append]
        rfl
      · exact ⟨js, by omega, r2, B3, q5.trans K3⟩
    rintro H20 ⟨js, hjl, hJ20, B20, K20⟩
    have T20 := tabs_kp T19 B19 K20
    have L20 := L19.kp B19 K20
    have hI20 := hI19.kp B19 K20
    have hM20 := hM19.kp B19 K20
    have hf20 := SqT.kp B19 K20 hf19
    have hm20 := K20.ins B19 hm19
    exact r12 _ b l D D3 xm pf xi rows sg fs is js H20 _ _ _ _ _ _ _ _ _ _ _ ⟨B20, T20, L20, hI20, hM20, hf20⟩ ⟨g, hb, his, hil2, by omega⟩ hjl hJ20 k
end
end Om

namespace Om
open PySem PySem.Spec PyProof.Rows L2 LamX He OmH
theorem law_at {w : World} {K : PySem.W.Frag} {h : Heap} {mg : Str → Option Value} {f : Addr} (X : K.In h) (G : h.Ns mainGlobals mg) (hfa : mg ("law" : Str) = some (.ref f)) (c : He.SaysX (fa ++ fa2) fnD [] tfD exB w h K) (cg : obsA gsD K = valA gsD) :
    LawAtS PySem.Challenge.rw_oldmap_k03_maps_validated w K CX0 10 63 "_law_script" mg f h := by
  have d := c.t.d
  have fr : ∀ {x : Str}, Fa.free x ∈ fa ++ fa2 → mg x = none := fun hx => free_ok X G (d.facts hx)
  have gl : ∀ {x : Str}, Fa.glo x ∈ fa ++ fa2 → mg x = some (.ref (ga K x)) := fun hx => glo_ok X G (d.facts hx)
  have fact : ∀ {f : Fa}, f ∈ fa ++ fa2 → f.ok K = true := fun hf => d.facts hf
  have e := hfa.symm.trans (gl (x := "law") (by simp [fa, fa2]))
  cases e
  obtain ⟨fd, F⟩ := d.def_ 9 (d := dG "law" (top 43)) rfl
  have F : FnP K "law" "law" sLaw _ fd := F
  obtain ⟨fdE, FE⟩ := d.def_ 7 (d := dG "_law_error" (top 41)) rfl
  have FE : FnP K "_law_error" "_law_error" sErr _ fdE := FE
  have hgE : mg "_law_error" = some (.ref (ga K "_law_error")) := gl (by simp [fa, fa2])
  have bE : Binds K fdE ["_law_work"] [] := b1 FE fun _ _ _ _ _ _ _ => rfl
  have bL := FunD.bindsA (ps := ["_law_script"]) F fun _ _ _ _ _ _ us hl => match us, hl with | [_], _ => rfl
  obtain ⟨x1, x2⟩ := ba c.more
  obtain ⟨x2, x3⟩ := ba x2
  obtain ⟨x3, x4⟩ := ba x3
  obtain ⟨x4, x5⟩ := ba x4
  obtain ⟨x5, x6⟩ := ba x5
  obtain ⟨x6, x7⟩ := ba x6
  obtain ⟨x7, x8⟩ := ba x7
  obtain ⟨x8, x9⟩ := ba x8
  obtain ⟨x9, x10⟩ := ba x9
  obtain ⟨x10, x11⟩ := ba x10
  obtain ⟨x11, x12⟩ := ba x11
  obtain ⟨x12, x13⟩ := ba x12
  obtain ⟨x13, x14⟩ := ba x13
  obtain ⟨x14, x15⟩ := ba x14
  have hcd : ∀ cd, fd.code = cd → cd = .ref (cT K ("law", none)).1 := by
    obtain ⟨oc, od, dV, kV, doc, pm, an, cdv, ct, osl, rfl, lk, hcdv, _, _⟩ := F.ex
    obtain ⟨c', rfl⟩ := codeIn_ref hcdv
    intro cd hcd
    have e1 := codeOf_eq (p := ("law", none)) lk rfl
    subst hcd
    show Value.ref c' = .ref (codeOf K ("law", none))
    rw [e1]
  have hmem : (("law", none) : He.Defn) ∈ tfD := List.mem_singleton.mpr rfl
  refine ⟨fd, [cT K ("law", none)], spLaw K (cT K ("law", none)).2, fun p hp => ?_, fun p hp => ?_, fun p hp => ?_, fun s u => bL s [u] rfl, fun H a ns hl _ hT hS => ⟨a, ns, rfl, hS, hl, hT _ (List.mem_singleton.mpr rfl), fun _ => rfl⟩, fun base KB GB TB => ?_⟩
  · rw [List.mem_singleton.mp hp]
    exact c.empty _ hmem
  · rw [List.mem_singleton.mp hp]
    exact c.out _ hmem
  · rw [List.mem_singleton.mp hp]
    exact PySem.W.codeHd_of_K X (c.hd _ hmem)
  · have PP : Parts PySem.Challenge.rw_oldmap_k03_maps_validated.prog w K mg base := parts_at X G c cg
    exact ok_law F hcd (TB _ (List.mem_singleton.mpr rfl)) PP FE bE hgE (ownB_ok x4) (ownB_ok x6) (ownB_ok x8) (ownB_ok x9) (ownB_ok x10) x11 (propB_ok x15) (propB_ok x13) (propB_ok x14) (propB_ok x12)
      (meth_ok (fact (f := .meth "Map" "until") (by simp [fa, fa2]))) (meth_ok (fact (f := .meth "Map" "without") (by simp [fa, fa2]))) (meth_ok (fact (f := .meth "Map" "with_instructions") (by simp [fa, fa2])))
      (fr (by simp [fa])) (fr (by simp [fa])) (fr (by simp [fa])) (fr (by simp [fa]))
end Om
open PySem PySem.W PySem.Calls PyProof.Rows
theorem PySem.Challenge.cw_oldmap_k03_maps_validated_holds : PySem.Challenge.rw_oldmap_k03_maps_validated.Holds := by
  w_on; o_law
  refine HandSHeadRun.head_any (r := OpenLaw.row PySem.Challenge.rw_oldmap_k03_maps_validated) (q := view (OpenLaw.row PySem.Challenge.rw_oldmap_k03_maps_validated).prog [43]) (H := Om.hk) (ob := Om.ob) (M := 9000) (loose := Om.loose) (d := HandSHeadRun.topDef (OpenLaw.row PySem.Challenge.rw_oldmap_k03_maps_validated).prog 43) (kwd := []) Om.ob_eq
    (by kernel_rfl) (fun s => by kernel_rfl) Om.run (by kernel_rfl) (by kernel_rfl) (by kernel_rfl) (by rfl) (by first | assumption | decide +kernel) (by decide +kernel) ⟨rfl, rfl, rfl, rfl, rfl, by decide +kernel⟩ ?hw ?hc
  case hw => w_witness2
  case hc =>
    refine LamX.walk_ofTsE (l := PySem.Challenge.rw_oldmap_k03_maps_validated) (n := 63) (k := 10) (x := "_law_script") (CX := fun _ => L2.CX0) rfl (by decide) (by kernel_rfl) ⟨rfl, by decide, by decide⟩ ?F (fun _ _ _ _ _ z => z)
    intro w mg fa h Y G hmg0
    obtain ⟨K, KX, c, cg⟩ := Y
    have hmg : mg ("law" : PySem.Str) = some (.ref fa) := by
      have e : (HandSHeadRun.topDef (OpenLaw.row PySem.Challenge.rw_oldmap_k03_maps_validated).prog 43).name = ("law" : PySem.Str) := by kernel_rfl
      rw [← e]
      exact hmg0
    exact ⟨K, KX, Om.law_at KX G hmg c cg⟩
