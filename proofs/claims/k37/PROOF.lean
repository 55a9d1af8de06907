import PyProof.Rows.All
import Wide.All
import OpenK.AllK
import Wide.FinOn
import HandS.ForMost
import HandS.Defaults
import HandS.More
import HandS.TupAny
import HandS.TupMul
import HandS.Exc
import HandS.ExcInit
import HandS.ExcField
import HandS.ExcIs
import HandS.TryOnly
import HandS.WordsExc
import HandS.Lambda
import HandS.EndTab
import HandS.HeadWalk
import HandS.HeadHook4
import PySem.Challenge.RW_oldmap_k37_torn_charts_refused
import KE.GoesMore
import KE.GoesEnum
import HandS.Property
import HandS.OwnEq
import HandS.IsInst
import HandS.Walk
import HandS.ExcOwn
import PyProof.ExcBaseAll.ValueError
import HandS.SetTxt0
import HandS.Deep
import PyProof.CollectIter
import PyProof.WalksMore
import PyProof.MakeMany
import HandS.Zip
import HandS.Head0
import HandS.Head1
import HandS.Head2
import HandS.GenList
import HandS.SetBool
import HandS.TupSets
import HandS.Nested
import KE.KExcIs
set_option Elab.async false
set_option linter.all false
set_option maxRecDepth 100000
set_option maxHeartbeats 0
namespace Om
open PySem PySem.Spec PyProof.Rows L2
def top (i : Nat) : Stmt := PySem.Challenge.pw_oldmap_k37_torn_charts_refused.main.body.getD i (.Pass ⟨0, 0, 0, 0⟩)
/-- a def of the top -/
abbrev FnP (K : PySem.W.Frag) (x qual : Str) (st : Stmt) (f : Addr) (fd : FuncData) : Prop := FunD K x qual (defArgs st) (defBody st) (defScope st) [] [] f fd
/-- a def as its callers know it -/
structure Cal (P : Program) (w : World) (K : PySem.W.Frag) (mg : Str → Option Value) (base : Heap) (CX : CXT) (k : Nat) (x : Str) (ps : List Str) (sp : Sp) : Prop where
  ex : ∃ (f : Addr) (fd : FuncData), FnOk P w K mg base CX k f fd ps sp ∧ mg x = some (.ref f) ∧ PySem.W.keepIn K (.ref f) = true ∧ Binds K fd ps []
theorem pe_cal {X : Cx} {CX : CXT} {k : Nat} {x : Str} {ps : List Str} {sp : Sp} {E : XK} {e : Expr} {es : List Expr} {t : TA} {p pos : Pos} (C : Cal X.prog X.w X.K X.mg X.base CX k x ps sp) (hr : Room k X.A) (hx : Passes CX X E) (ha : PA X (e :: es) t) (hg : Gl X x := by rfl)
    (hdb : (x == ("__debug__" : Str)) = false := by decide) (he : starEach (e :: es) X.env = (false, eval e X.env) :: starEach es X.env := by rfl) (hpl : (backTo pos (starEach es X.env)).any (·.1) = false := by rfl) :
    PE X (.Call (.Name x p) (e :: es) [] pos) (tCall sp [] E t) := by
  obtain ⟨f, fd, F, hm, hk, hb⟩ := C.ex
  exact pe_call F hr hg hm hk hb .nil hx ha (hdb := hdb) (he := he) (hpl := hpl)
/-- all but two objects stay -/
def Kp (b l : Addr) (H H' : Hp) : Prop := ∀ c o, H c = some o → c ≠ b → c ≠ l → H' c = some o
theorem Kp.refl (b l : Addr) (H : Hp) : Kp b l H H := fun _ _ h _ _ => h
theorem Kp.trans {b l : Addr} {H H1 H2 : Hp} (a : Kp b l H H1) (c : Kp b l H1 H2) : Kp b l H H2 := fun x o h n1 n2 => c x o (a x o h n1 n2) n1 n2
theorem Kp.of {b l : Addr} {H H' : Hp} (a : Same H H') : Kp b l H H' := fun x o h _ _ => a x o h
theorem Kp.upd1 {b l : Addr} {H H' : Hp} {o : HO} (a : Kp b l H H') : Kp b l H (upd H' b o) := fun x u h n1 n2 => by rw [upd_ne n1]; exact a x u h n1 n2
theorem Kp.upd2 {b l : Addr} {H H' : Hp} {o : HO} (a : Kp b l H H') : Kp b l H (upd H' l o) := fun x u h n1 n2 => by rw [upd_ne n2]; exact a x u h n1 n2
theorem Same.new {H H' : Hp} {p : Addr} {o : HO} (a : Same H H') (h : H' p = none) : Same H (upd H' p o) := fun x u e => by
  rw [upd_ne (ne_of_none (a x u e) h)]
  exact a x u e
/-- the box of numbers that a law draws from -/
structure Box (H : Hp) (b l : Addr) : Prop where
  ex : ∃ (ns : List Int) (z : Int), H b = some (.lst [.ref l, .int z]) ∧ H l = some (.lst (ns.map V.int)) ∧ ns.length ≤ 63
theorem Box.ne {H : Hp} {b l : Addr} (B : Box H b l) : b ≠ l := by
  obtain ⟨ns, z, h1, h2, _⟩ := B.ex
  refine ne_of h1 h2 fun e => ?_
  have e2 : [V.ref l, V.int z] = ns.map V.int := HO.lst.inj e
  cases ns with
  | nil => cases e2
  | cons n r =>
    injection e2 with e3 _
    cases e3
theorem Box.same {H H' : Hp} {b l : Addr} (B : Box H b l) (s : Same H H') : Box H' b l := by
  obtain ⟨ns, z, h1, h2, h3⟩ := B.ex
  exact ⟨ns, z, s _ _ h1, s _ _ h2, h3⟩
def spBegun (K : PySem.W.Frag) : Sp := fun vs H Q _ => ∃ (a : Addr) (ns : List Int), vs = [.ref a] ∧ SqL K H a (ns.map V.int) ∧ ns.length ≤ 63 ∧
  ∀ (b l : Addr) (H' : Hp), H b = none → H l = none → Same H H' → Box H' b l → Q (.ref b) H'
def spTake : Sp := fun vs H Q _ => ∃ (b l : Addr) (m : Int), vs = [.ref b, .int m] ∧ Box H b l ∧ 0 < m ∧ m ≤ 1000000 ∧
  ∀ (n : Int) (H' : Hp), 0 ≤ n → n < m → Box H' b l → Kp b l H H' → Q (.int n) H'
section
variable {P : Program} {w : World} {K : PySem.W.Frag} {mg : Str → Option Value} {base : Heap}
theorem fun_binds {x qual : Str} {st : Stmt} {f : Addr} {fd : FuncData} {ps : List Str} (F : FnP K x qual st f fd)
    (h : ∀ (kV doc pm : Value) (an : Option Addr) (cdv ct : Value) (us : List Value), us.length = ps.length → bindArgs (PySem.W.fnOf x qual (defArgs st) (defBody st) (defScope st) .none kV doc pm an cdv ct) ⟨us, []⟩ = pure (ps.zip us)) : Binds K fd ps [] := FunD.bindsN F h
end
end Om

namespace Om
open PySem PySem.Spec PyProof.Rows L2
/-! ### data -/
theorem lay_ints : ∀ ns : List Int, PyData.canLayAll0 (ns.map PyData.int) = true
  | [] => by simp [PyData.canLayAll0]
  | n :: r => by simp [PyData.canLayAll0, PyData.canLay0, lay_ints r]
theorem dep_ints : ∀ ns : List Int, PyData.depthAll (ns.map PyData.int) = 0
  | [] => by simp [PyData.depthAll]
  | n :: r => by simp [PyData.depthAll, PyData.depth, dep_ints r]
theorem shaped_of {d : PyData} (h1 : d.canLay0 = true) (h2 : d.depth ≤ 64) : SeqAt.shaped d = true := by
  show (d.canLay0 && decide (d.depth ≤ 64)) = true
  rw [h1, decide_eq_true h2]
  rfl
theorem shaped_ints (ns : List Int) : SeqAt.shaped (.list (ns.map PyData.int)) = true :=
  shaped_of (by simp only [PyData.canLay0]; exact lay_ints ns) (by simp only [PyData.depth, dep_ints]; omega)
theorem shaped_nil : SeqAt.shaped (.list []) = true := shaped_of (by simp [PyData.canLay0, PyData.canLayAll0]) (by simp [PyData.depth, PyData.depthAll])
theorem dpAll_ints {K : PySem.W.Frag} {H : Hp} : ∀ ns : List Int, DpAll K H (ns.map V.int) (ns.map PyData.int)
  | [] => .nil
  | n :: r => .cons (.int n) (dpAll_ints r)
theorem eqv_ints_nil (ns : List Int) : PyData.eqv (.list (ns.map PyData.int)) (.list []) = ns.isEmpty := by
  cases ns <;> simp [PyData.eqv, PyData.eqvAll]
theorem fmod_pos {a m : Int} (h : 0 < m) : 0 ≤ a.fmod m ∧ a.fmod m < m := by
  rw [Int.fmod_eq_emod_of_nonneg _ (Int.le_of_lt h)]
  exact ⟨Int.emod_nonneg _ (by omega), Int.emod_lt_of_pos _ h⟩
theorem at0 {x : V} {r : List V} : atI (x :: r) 0 = some x := by
  unfold atI ixN
  rw [if_pos (by omega), if_pos (by simp)]
  rfl
theorem ix0 {x : V} {r : List V} : ixN (x :: r).length 0 = some 0 := by
  unfold ixN
  rw [if_pos (by omega), if_pos (by simp)]
  rfl
/-! ### take -/
end Om

namespace Om
open PySem PySem.Spec PyProof.Rows L2
/-! ### texts as lists of codes -/
def tx (cs : List Nat) : Str := ⟨cs.toArray⟩
theorem tx_cps (cs : List Nat) : (tx cs).cps.toList = cs := by simp [tx]
theorem tx_len (cs : List Nat) : (tx cs).length = cs.length := by simp [tx, Str.length]
theorem tx_app (a b : List Nat) : tx a ++ tx b = tx (a ++ b) := by
  show Str.append (tx a) (tx b) = tx (a ++ b)
  simp [tx, Str.append]
theorem tx_inj {a b : List Nat} (h : tx a = tx b) : a = b := by
  have e : (tx a).cps.toList = (tx b).cps.toList := by rw [h]
  rw [tx_cps, tx_cps] at e
  exact e
theorem of_tx (s : Str) : tx s.cps.toList = s := by
  obtain ⟨c⟩ := s
  simp [tx]
theorem join_tx : ∀ cs : List Nat, Str.join ⟨#[]⟩ (cs.map fun c => tx [c]) = tx cs
  | [] => rfl
  | [c] => rfl
  | c :: d :: r => by
    have ih := join_tx (d :: r)
    show tx [c] ++ (⟨#[]⟩ : Str) ++ Str.join ⟨#[]⟩ ((d :: r).map fun c => tx [c]) = tx (c :: d :: r)
    rw [ih]
    have e0 : (⟨#[]⟩ : Str) = tx [] := rfl
    rw [e0, tx_app, tx_app]
    rfl
theorem empty_tx : Str.ofString "" = (⟨#[]⟩ : Str) := by decide +kernel
def okSign (c : Nat) : Prop := c = 46 ∨ c = 126 ∨ (65 ≤ c ∧ c ≤ 90)
/-- what a law draws as rows -/
structure RowsOk (m : Nat) (rows : List (List Nat)) : Prop where
  h1 : 1 ≤ rows.length
  hm : rows.length ≤ m
  w : ∃ wd, 1 ≤ wd ∧ wd ≤ m ∧ ∀ r ∈ rows, r.length = wd ∧ ∀ c ∈ r, okSign c
def vt (r : List Nat) : V := .str (tx r)
def spRows : Sp := fun vs H Q _ => ∃ (b l : Addr) (m : Nat), vs = [.ref b, .int m] ∧ Box H b l ∧ 1 ≤ m ∧ m ≤ 12 ∧
  ∀ (p : Addr) (rows : List (List Nat)) (H' : Hp), RowsOk m rows → H p = none → H' p = some (.tup (rows.map vt)) → Box H' b l → Kp b l H H' → Q (.ref p) H'
def rJoin (K : PySem.W.Frag) : V → List V → Hp → VK → Prop := fun x xs H Q => ∃ a p, ∃ ys : List Str, x = .str a ∧ xs = [.ref p] ∧ (SqL K H p (ys.map V.str) ∨ SqT K H p (ys.map V.str)) ∧
      (ys.map (·.length)).sum + ys.length * a.length ≤ 16777216 ∧ Q (.str (Txt.join a ys)) H
theorem pe_joinK {X : Cx} {o e : Expr} {to te : TE} {apos pos : Pos} (ho : PE X o to) (he : PE X e te) (hs : starEach [e] X.env = [(false, eval e X.env)] := by rfl) (hbase : attributeBase o "join" X.env (eval o X.env) = eval o X.env := by rfl) (hline : (apos.endLine == pos.line) = true := by rfl) :
    PE X (.Call (.Attribute o "join" apos) [e] [] pos) (tM1 (rJoin X.K) to te) := pe_join ho he hs hbase hline
/-- the scope of the i-th comprehension of a return's call -/
def retExpr (s : Stmt) : Expr := match s with
  | .Return (some e) _ => e
  | _ => .Constant .none 0 ⟨0, 0, 0, 0⟩
def arg0 (e : Expr) : Expr := match e with
  | .Call _ (a :: _) _ _ => a
  | _ => .Constant .none 0 ⟨0, 0, 0, 0⟩
def lcScope (e : Expr) : Scope := match e with
  | .ListComp _ _ sc _ => sc
  | _ => { kind := .function, names := [], isGenerator := false, isCoroutine := false }
def lcElt (e : Expr) : Expr := match e with
  | .ListComp e _ _ _ => e
  | _ => .Constant .none 0 ⟨0, 0, 0, 0⟩
def relab (sc : Scope) (out : Scope) : Scope := { sc with names := sc.names.map fun (n, k) => if (k == NameKind.free && out.kind == .function && out.names.lookup n == some .cell) then (n, NameKind.cell) else (n, k) }
theorem atI_of {α : Type} {xs : List α} {n : Int} (h0 : 0 ≤ n) (h1 : n < xs.length) : ∃ v, atI xs n = some v ∧ v ∈ xs := by
  have hj : n.toNat < xs.length := by omega
  refine ⟨xs[n.toNat], ?_, List.getElem_mem hj⟩
  have e : ((n.toNat : Nat) : Int) = n := by omega
  have z := atI_nat (xs := xs) (j := n.toNat) (v := xs[n.toNat]) (by simp [hj])
  rw [e] at z
  exact z
theorem tyes {σ : L2.St} {H : Hp} {f g : Hp → Prop} (h : f H) : tYes σ H fun b H3 => if b = true then f H3 else g H3 := by
  show (if true = true then f H else g H)
  rw [if_pos rfl]
  exact h
end Om

/-! enumerate(tuple) and enumerate(text) -/
namespace PySem
open Sem (wp)
open Builtin
set_option maxHeartbeats 2000000 in
theorem om_enum_new {u : Value} {ob : Obj} {Hh : Heap → Prop} (B : Begins u ob Hh) :
    Meets (Builtin.«enumerate.__new__» ⟨[.type "enumerate", u], []⟩) (fun _ R z => Hh z.heap ∧
      R (.ok (.ret (.ref (z.heap.push ob).objs.size))) { z with heap := (z.heap.push ob).push { cls := .type "enumerate", data := .fields #[.none, .bool false, .ref z.heap.objs.size, rawInt 0, .none, .none] } }) :=
  Meets.of_wp fun pr wo Ar Re st hq => by
    obtain ⟨hp0, gg, dd, tt, oo⟩ := st
    obtain ⟨hB, hq⟩ := hq
    have hs0 := sub_enumerate
    have step : ∀ {A' : Around} {E : Value → Shared → Prop} {Q : Value → Shared → Prop}, Q (.ref hp0.objs.size) ⟨hp0.push ob, gg, dd, tt, oo⟩ → wpAny (model pr wo) A' (pyIter u) Q E ⟨hp0, gg, dd, tt, oo⟩ :=
      fun q => B.iter pr wo _ _ ⟨hp0, gg, dd, tt, oo⟩ _ hB q
    wp_walk using step
    refine wpAny_stack_any fun zz => wpAny_pure ?_
    split
    · rename_i cc _ _ _ _ _
      cases (cc == Value.type "enumerate") <;> (wp_walk using step; exact ⟨_, rfl, hq⟩)
    · wp_walk using step
      exact ⟨_, rfl, hq⟩
theorem om_enum_call {prog : Program} {w : World} {A : Around} {E : Value → Shared → Prop} {s : Shared} {u : Value} {ob : Obj} {Hh : Heap → Prop} {Q : Value → Shared → Prop} (B : Begins u ob Hh) (hB : Hh s.heap)
    (hq : ∀ h', IsEnum h' (s.heap.objs.size + 1) s.heap.objs.size 0 .none → h'.get? s.heap.objs.size = some ob → (∀ b o, s.heap.get? b = some o → h'.get? b = some o) → Q (.ref (s.heap.objs.size + 1)) { s with heap := h' }) :
    wpAny (model prog w) A (call (.type "enumerate") [u]) Q E s := by
  refine callType_new F.called_enumerate (by decide) (F.typeCall_enumerate_1 _) (F.newCall_enumerate_1 _) (fun obj => F.args_object_init_2 obj _) F.entry_enumerate_new (om_enum_new B) ⟨hB, ?_⟩
  have z1 : (s.heap.push ob).objs.size = s.heap.objs.size + 1 := Heap.size_push ..
  show _ ∧ _
  rw [z1]
  have z2 : IsEnum ((s.heap.push ob).push { cls := .type "enumerate", data := .fields #[.none, .bool false, .ref s.heap.objs.size, rawInt 0, .none, .none] }) (s.heap.objs.size + 1) s.heap.objs.size 0 .none := by
    have z3 := Heap.get?_push_size (s.heap.push ob) (o := { cls := .type "enumerate", data := .fields #[.none, .bool false, .ref s.heap.objs.size, rawInt 0, .none, .none] }) rfl
    rw [z1] at z3
    exact z3
  exact ⟨⟨_, z2, rfl⟩, hq _ z2 (Heap.get?_push_of_some _ (Heap.get?_push_size _ B.free)) fun b o x => Heap.get?_push_of_some _ (Heap.get?_push_of_some _ x)⟩
end PySem
namespace Om
open PySem PySem.Spec PyProof.Rows L2
/-- the tuple's items in new pairs -/
def IteT (K : PySem.W.Frag) (a : Addr) (xs : List V) : It :=
  ⟨fun i H => SqT K H a xs ∧ i < xs.length, fun i H v H' => ∃ T x, v = .ref T ∧ H T = none ∧ H' = upd H T (.tup [.int (i : Nat), x]) ∧ xs[i]? = some x, fun i H => SqT K H a xs ∧ xs.length = i⟩
theorem turn_enumT {P : Program} {w : World} {K : PySem.W.Frag} {elts : List Expr} {kk : Nat} {tpos : Pos} {a e it : Addr} {xs : List V} (nae : a ≠ e) (nai : a ≠ it) (nei : e ≠ it) :
    Turn P w K (.Tuple elts kk tpos) (IteT K a xs) [e, it] e (fun i h => (∃ old, IsEnum h e it ((i : Nat) : Int) old) ∧ h.IsTupleIter it a i) where
  mem := by simp
  obj := fun i h ⟨⟨old, he⟩, o, ho, hc, hd⟩ b hb => by
    rcases (show b = e ∨ b = it by simpa using hb) with rfl | rfl
    · exact ⟨_, he, fun v q => nomatch q⟩
    · exact ⟨o, ho, fun v q => by rw [hd] at q; cases q⟩
  keep := fun i h h' ⟨⟨old, he⟩, hi⟩ k => ⟨⟨old, k e (by simp) _ he⟩, hi.at fun o q => k it (by simp) o q⟩
  item := by
    intro X eP ew eK hc i pins s σ H E I hf ⟨⟨old, he⟩, hit⟩ ⟨hq, hlt⟩
    subst eP ew eK
    obtain ⟨its, rv, tu, hz⟩ := I.tuple hq
    have hx : xs[i]? = some xs[i] := by simp [hlt]
    obtain ⟨u, hu, ru⟩ := rv.get hx
    have el : e < s.heap.objs.size := Heap.lt_size he
    have il : it < s.heap.objs.size := by obtain ⟨_, q, _⟩ := hit; exact Heap.lt_size q
    have hsz : i < its.toArray.size := by
      have := rv.length
      simp
      omega
    have hd0 : X.A.in1.handled = none := I.ok.hd hc
    refine wpAny_pyNext_enum_itemD (Draws.tuple hd0 it a nai its.toArray) he ⟨hit, tu⟩ hsz nei (by simp [nei, Ne.symm nae]) fun x h' tk hx2 ho hst hT hs2 hk => ?_
    obtain rfl : x = u := by
      have e1 : its.toArray[i]? = some x := hx2
      have e2 : its.toArray[i]? = some u := by simpa using hu
      rw [e1] at e2
      exact Option.some.inj e2
    refine ⟨_, rfl, wpAny_letOwnedTupleGo_enum (s := { s with heap := h', toks := tk + 1 }) ho fun h2 he2 sb => ?_⟩
    have hT2 := (sb.2 _ (Nat.ne_of_gt el)).trans hT
    have new : ObjOk X.prog X.w (upd H s.heap.objs.size (.tup [.int (i : Nat), xs[i]])) h2 s.heap.objs.size (.tup [.int (i : Nat), xs[i]]) :=
      ⟨(show 2 ≤ sizeLine by decide), [.int i tk, x], .cons ⟨_, rfl⟩ (.cons ru .nil), _, hT2, rfl, _, rfl⟩
    have I1 : Inv X pins σ (upd H s.heap.objs.size (.tup [.int (i : Nat), xs[i]])) { s with heap := h2, toks := tk + 1 } :=
      I.turnedNew (ch := [e, it]) (fun b ob hb q => (sb.2 b (by rintro rfl; simp at hb)).trans (hk b ob (by rintro rfl; simp at hb) (by rintro rfl; simp at hb) q)) hf (Nat.le_refl _) new
    have ei : ((i + 1 : Nat) : Int) = (i : Int) + 1 := by omega
    refine ⟨.ref s.heap.objs.size, _, I1, rfl, ⟨_, _, rfl, I.hok.fresh (Nat.le_refl _), rfl, hx⟩, ⟨⟨x, by rw [ei]; exact he2⟩, hst.1.at fun o q => (sb.2 it (Ne.symm nei)).trans q⟩, fun b hb => ?_⟩
    have hlt2 : b < s.heap.objs.size := by
      rcases (show b = e ∨ b = it by simpa using hb) with rfl | rfl
      · exact el
      · exact il
    rw [upd_ne (Nat.ne_of_lt hlt2)]
    exact (hf b hb).1
  done := by
    intro X eP ew eK hc i pins s σ H E I hf ⟨⟨old, he⟩, hit⟩ ⟨hq, hle⟩
    subst eP ew eK
    obtain ⟨its, rv, tu, hz⟩ := I.tuple hq
    obtain ⟨f0, f1, f2, f3, f4, f5⟩ := hf it (by simp)
    have hl := rv.length
    have hd0 : X.A.in1.handled = none := I.ok.hd hc
    obtain rfl : i = its.toArray.size := by simp; omega
    exact wpAny_pyNext_enum_endD (Draws.tuple hd0 it a nai its.toArray) he ⟨hit, tu⟩ fun h' eb => ⟨rfl, I.turned (t' := s.toks) (fun b o hb q => eb b o hb q) f0 f1 f3 f4 f5⟩
  self := fun A i s Q E ⟨⟨_, he⟩, _⟩ h => wpAny_pyIter_enum he h
def iEnumT (K : PySem.W.Frag) (ta : TA) : TI := fun σ H R => ta σ H fun vs H1 => ∃ a xs, vs = [.ref a] ∧ SqT K H1 a xs ∧ R (IteT K a xs) H1
theorem pi_enumT {X : Cx} {e : Expr} {ta : TA} {p pos tpos : Pos} {elts : List Expr} {kk : Nat} (hg : Gl X "enumerate") (hm : X.mg "enumerate" = none) (ha : PA X [e] ta) (hs : starEach [e] X.env = [(false, eval e X.env)] := by rfl) :
    PI X (.Tuple elts kk tpos) (.Call (.Name "enumerate" p) [e] [] pos) (iEnumT X.K ta) := by
  constructor
  intro pins s σ H R I h
  refine Call_ (ld_blt I hg hm boot_enumerate (PyProof.Rows.callWith_type1 (thn (ha.run pos pins s σ H _ I h) fun us s1 ⟨vs, H1, I1, r1, a, xs, ev, hq, q⟩ => ?_) hs rfl))
  subst ev
  cases r1 with
  | cons ra rr =>
    cases rr
    cases ra
    obtain ⟨its, rv, tu, hz⟩ := I1.tuple hq
    have la : a < s1.heap.objs.size := by obtain ⟨o, ho, _⟩ := tu; exact Heap.lt_size ho
    refine om_enum_call (begins_tuple a its.toArray) tu fun h' he hi hk => wpAny_pyIter_enum he ?_
    have I2 : Inv X pins σ H1 { s1 with heap := h' } := I1.kept (t' := s1.toks) hk
    refine ⟨s1.heap.objs.size + 1, [s1.heap.objs.size + 1, s1.heap.objs.size], _, _, H1, rfl, I2, turn_enumT (a := a) (xs := xs) (Nat.ne_of_lt (Nat.lt_succ_of_lt la)) (Nat.ne_of_lt la) (Nat.succ_ne_self _), ⟨⟨.none, he⟩, _, hi, rfl, rfl⟩, fun b hb => ?_, q⟩
    have hb2 : s1.heap.objs.size ≤ b := by
      rcases (show b = s1.heap.objs.size + 1 ∨ b = s1.heap.objs.size by simpa using hb) with rfl | rfl
      · omega
      · exact Nat.le_refl _
    exact I1.fpOk hb2 (I1.hok.fresh hb2)
/-- for i, x in enumerate(t): one turn from Pv i to Pv (i + 1) -/
theorem for_enumT {K : PySem.W.Frag} {a : Addr} {xs : List V} {g : TG} {tb : TS} {D : Ends} {σ : L2.St} {H : Hp} (Pv : Nat → L2.St → Hp → Prop) (h0 : Pv 0 σ H) (hl : ∀ i σ H, i ≤ xs.length → Pv i σ H → SqT K H a xs)
    (hs : ∀ i x T σ H, xs[i]? = some x → Pv i σ H → H T = none → g (.ref T) σ (upd H T (.tup [.int (i : Nat), x])) fun σ2 H2 => tb { D with nx := Pv (i + 1), ct := Pv (i + 1), bk := D.nx } σ2 H2) (hd : ∀ σ H, Pv xs.length σ H → D.nx σ H) :
    ∃ W : Nat → Nat → L2.St → Hp → Prop, (∃ m, W 0 m σ H) ∧ ∀ i m σ H, W i m σ H → ((IteT K a xs).stop i H ∧ D.nx σ H) ∨ ((IteT K a xs).go i H ∧ ∃ Nx : L2.St → Hp → Prop, (∀ σ' H', Nx σ' H' → ∃ m', m' < m ∧ W (i + 1) m' σ' H') ∧
      ∀ x H', (IteT K a xs).yld i H x H' → g x σ H' fun σ2 H2 => tb { D with nx := Nx, ct := Nx, bk := D.nx } σ2 H2) := by
  refine ⟨fun i m σ H => m = xs.length - i ∧ i ≤ xs.length ∧ Pv i σ H, ⟨xs.length, by omega, Nat.zero_le _, h0⟩, ?_⟩
  rintro i m σ H ⟨rfl, hi, p⟩
  have q := hl i σ H hi p
  by_cases hlt : i < xs.length
  · refine .inr ⟨⟨q, hlt⟩, Pv (i + 1), fun σ' H' p' => ⟨xs.length - (i + 1), by omega, rfl, hlt, p'⟩, fun x H' hy => ?_⟩
    obtain ⟨T, y, rfl, hT, rfl, hx⟩ := hy
    exact hs i y T σ H hx p hT
  · obtain rfl : i = xs.length := by omega
    exact .inl ⟨⟨q, rfl⟩, hd σ H p⟩
end Om


/-! the first wrong sign of rows: the program's way and the law's -/
namespace Om
def okB (c : Nat) : Bool := decide (c = 46 ∨ c = 126 ∨ (65 ≤ c ∧ c ≤ 90))
theorem okB_iff (c : Nat) : okB c = true ↔ okSign c := by unfold okB okSign; exact decide_eq_true_iff
/-- the first of n columns from i on that is missing or wrong -/
def fw (r : List Nat) : Nat → Nat → Option Nat
  | 0, _ => none
  | n + 1, i => if i = r.length ∨ okB (r.getD i 0) = false then some i else fw r n (i + 1)
def fwEnd (r : List Nat) (wd : Nat) : Option Nat := if wd < r.length then some wd else none
def orElse' (a b : Option Nat) : Option Nat := match a with
  | some c => some c
  | none => b
def fwc (r : List Nat) (wd : Nat) : Option Nat := orElse' (fw r wd 0) (fwEnd r wd)
def chkF (wd : Nat) : List (List Nat) → Nat → Option (Nat × Nat)
  | [], _ => none
  | r :: rs, i => if i = 12 then some (i, 0) else match fwc r wd with
    | some c => some (i, c)
    | none => chkF wd rs (i + 1)
def wdOf (r : List Nat) : Nat := max 1 (min r.length 12)
def chk : List (List Nat) → Option (Nat × Nat)
  | [] => some (0, 0)
  | r :: rs => chkF (wdOf r) (r :: rs) 0
def dc (w0 : Nat) (r : List Nat) : Nat → Nat → Option Nat
  | 0, _ => none
  | n + 1, i => if 12 ≤ i ∨ w0 ≤ i ∨ okB (r.getD i 0) = false then some i else dc w0 r n (i + 1)
def dcEnd (w0 : Nat) (r : List Nat) : Option Nat := if r.length < w0 then some r.length else none
def dcc (w0 : Nat) (r : List Nat) : Option Nat := orElse' (dc w0 r r.length 0) (dcEnd w0 r)
def dueF (w0 : Nat) : List (List Nat) → Nat → Option (Nat × Nat)
  | [], _ => none
  | r :: rs, i => if i = 12 then some (12, 0) else match dcc w0 r with
    | some c => some (i, c)
    | none => dueF w0 rs (i + 1)
def due : List (List Nat) → Option (Nat × Nat)
  | [] => some (0, 0)
  | [] :: _ => some (0, 0)
  | (c :: r) :: rs => dueF (r.length + 1) ((c :: r) :: rs) 0
theorem row_same {r : List Nat} {w0 wd : Nat} (hwd : wd = min w0 12) (hc : w0 ≤ 12 ∨ r.length = w0) :
    ∀ (m i n k : Nat), m = wd - i → i ≤ wd → i ≤ r.length → n = wd - i → k = r.length - i → orElse' (fw r n i) (fwEnd r wd) = orElse' (dc w0 r k i) (dcEnd w0 r) := by
  intro m
  induction m with
  | zero =>
    intro i n k hm hi hr hn hk
    obtain rfl : i = wd := by omega
    obtain rfl : n = 0 := by omega
    show fwEnd r i = _
    unfold fwEnd
    by_cases hl : i < r.length
    · rw [if_pos hl]
      obtain ⟨k', rfl⟩ : ∃ k', k = k' + 1 := ⟨k - 1, by omega⟩
      unfold dc
      rw [if_pos (by omega)]
      rfl
    · rw [if_neg hl]
      obtain rfl : k = 0 := by omega
      show none = dcEnd w0 r
      unfold dcEnd
      rw [if_neg (by omega)]
  | succ m ih =>
    intro i n k hm hi hr hn hk
    obtain ⟨n', rfl⟩ : ∃ n', n = n' + 1 := ⟨n - 1, by omega⟩
    by_cases he : i = r.length
    · obtain rfl : k = 0 := by omega
      unfold fw
      rw [if_pos (.inl he)]
      show some i = dcEnd w0 r
      unfold dcEnd
      rw [if_pos (by omega), he]
    · obtain ⟨k', rfl⟩ : ∃ k', k = k' + 1 := ⟨k - 1, by omega⟩
      unfold fw dc
      by_cases hb : okB (r.getD i 0) = false
      · rw [if_pos (.inr hb), if_pos (.inr (.inr hb))]
        rfl
      · rw [if_neg (by intro h; rcases h with h | h; exact he h; exact hb h), if_neg (by intro h; rcases h with h | h | h; omega; omega; exact hb h)]
        exact ih (i + 1) n' k' (by omega) (by omega) (by omega) (by omega) (by omega)
theorem fwc_dcc {r : List Nat} {w0 : Nat} (hc : w0 ≤ 12 ∨ r.length = w0) : fwc r (min w0 12) = dcc w0 r :=
  row_same (wd := min w0 12) rfl hc _ 0 _ _ rfl (Nat.zero_le _) (Nat.zero_le _) rfl rfl
theorem chkF_dueF {w0 : Nat} (h : w0 ≤ 12) : ∀ (rs : List (List Nat)) (i : Nat), chkF (min w0 12) rs i = dueF w0 rs i
  | [], _ => rfl
  | r :: rs, i => by
    unfold chkF dueF
    by_cases hi : i = 12
    · rw [if_pos hi, if_pos hi, hi]
    · rw [if_neg hi, if_neg hi, fwc_dcc (.inl h), chkF_dueF h rs (i + 1)]
theorem chk_due : ∀ rows : List (List Nat), chk rows = due rows
  | [] => rfl
  | [] :: rs => rfl
  | (c :: r) :: rs => by
    have hw : wdOf (c :: r) = min (r.length + 1) 12 := by unfold wdOf; simp only [List.length_cons]; omega
    show chkF (wdOf (c :: r)) ((c :: r) :: rs) 0 = dueF (r.length + 1) ((c :: r) :: rs) 0
    rw [hw]
    by_cases h : r.length + 1 ≤ 12
    · exact chkF_dueF h _ 0
    · unfold chkF dueF
      rw [if_neg (by decide), if_neg (by decide), fwc_dcc (r := c :: r) (w0 := r.length + 1) (.inr rfl)]
      have hs : ∃ x, dcc (r.length + 1) (c :: r) = some x := by
        rw [← fwc_dcc (r := c :: r) (w0 := r.length + 1) (.inr rfl)]
        unfold fwc fwEnd
        cases hf : fw (c :: r) (min (r.length + 1) 12) 0 with
        | some x => exact ⟨x, rfl⟩
        | none => exact ⟨_, if_pos (by simp only [List.length_cons]; omega)⟩
      obtain ⟨x, hx⟩ := hs
      rw [hx]
/-- rows that are good -/
theorem fw_none {r : List Nat} (h : ∀ c ∈ r, okSign c) : ∀ n i, i + n ≤ r.length → fw r n i = none
  | 0, _, _ => rfl
  | n + 1, i, hi => by
    unfold fw
    have h1 : okB (r.getD i 0) = true := by
      rw [okB_iff, List.getD_eq_getElem?_getD, List.getElem?_eq_getElem (by omega)]
      exact h _ (List.getElem_mem _)
    rw [if_neg (by rintro (h | h); · omega
                   · rw [h1] at h; cases h), fw_none h n (i + 1) (by omega)]
theorem chkF_none {wd : Nat} : ∀ (rs : List (List Nat)) (i : Nat), i + rs.length ≤ 12 → (∀ r ∈ rs, r.length = wd ∧ ∀ c ∈ r, okSign c) → chkF wd rs i = none
  | [], _, _, _ => rfl
  | r :: rs, i, hi, h => by
    obtain ⟨h1, h2⟩ := h r (List.mem_cons_self ..)
    unfold chkF
    have e : fwc r wd = none := by
      unfold fwc fwEnd
      rw [fw_none h2 wd 0 (by omega), if_neg (by omega)]
      rfl
    simp only [List.length_cons] at hi
    rw [if_neg (by omega), e]
    exact chkF_none rs (i + 1) (by omega) fun r hr => h r (List.mem_cons_of_mem _ hr)
theorem chk_rows {m : Nat} {rows : List (List Nat)} (h : RowsOk m rows) (hm : m ≤ 12) : chk rows = none := by
  obtain ⟨h1, h2, wd, w1, w2, hr⟩ := h
  cases rows with
  | nil => simp at h1
  | cons r rs =>
    have e := (hr r (List.mem_cons_self ..)).1
    have hw : wdOf r = wd := by unfold wdOf; omega
    show chkF (wdOf r) (r :: rs) 0 = none
    rw [hw]
    exact chkF_none _ 0 (by omega) hr
end Om


namespace Om
open PySem PySem.Spec PyProof.Rows L2
abbrev sFwc : Stmt := top 22
abbrev sChk : Stmt := top 21
abbrev sII : Stmt := inClass (top 10) 0
abbrev sIslI : Stmt := inClass (top 18) 0
def allSigns : Str := Str.ofString ".ABCDEFGHIJKLMNOPQRSTUVWXYZ~"
theorem allSigns_cps : allSigns.cps.toList = [46, 65, 66, 67, 68, 69, 70, 71, 72, 73, 74, 75, 76, 77, 78, 79, 80, 81, 82, 83, 84, 85, 86, 87, 88, 89, 90, 126] := by decide +kernel
theorem mem_allSigns (c : Nat) : decide (c ∈ allSigns.cps.toList) = okB c := by
  rw [allSigns_cps]
  unfold okB
  apply decide_eq_decide.mpr
  simp only [List.mem_cons, List.not_mem_nil, or_false]
  omega
def optV : Option Nat → V
  | some c => .int (c : Nat)
  | none => .non
def spFwc : Sp := fun vs H Q _ => ∃ (r : List Nat) (wd : Nat), vs = [.str (tx r), .int wd] ∧ r.length ≤ 1000 ∧ wd ≤ 12 ∧ Q (optV (fwc r wd)) H
theorem small_le {n : Nat} (h : n ≤ 1000) : n ≤ sizeLine := Nat.le_of_lt (small1000 h)
theorem fw_succ (r : List Nat) (n i : Nat) : fw r (n + 1) i = if i = r.length ∨ okB (r.getD i 0) = false then some i else fw r n (i + 1) := rfl
section
variable {P : Program} {w : World} {K : PySem.W.Frag} {mg : Str → Option Value} {base : Heap}
theorem scFwc : FnScope ["signs", "width", "column"] ["signs", "width"] (defScope sFwc) := ⟨rfl, rfl, rfl, by decide +kernel, rfl, by decide +kernel, by decide +kernel⟩
theorem ok_fwc {f : Addr} {fd : FuncData} (F : FnP K "_first_wrong_column" "_first_wrong_column" sFwc f fd) (grange : mg "range" = none) (glen : mg "len" = none) (gall : ∃ t, mg "ALL_SIGNS" = some (.str allSigns t)) :
    FnOk P w K mg base CX0 1 f fd ["signs", "width"] spFwc := by
  obtain ⟨t0, gall⟩ := gall
  refine F.ok scFwc (fun vs H Q E h => ?_) (fun cdv A outer s H vs Q E hr h => ?_)
  · obtain ⟨r, wd, rfl, _⟩ := h
    rfl
  · obtain ⟨r, wd, rfl, hl, hw, k⟩ := h
    have nd := scFwc.nd
    have hl2 : (tx r).length ≤ sizeLine := by rw [tx_len]; exact small_le hl
    refine ⟨_, PSs.nox (pss_cons (ps_for PassesOwn.never rfl (pi_range1 rfl grange (pa_cons (pv 1) pa_nil)) (pg_name (i := 2) nd rfl (.inl rfl))
        (pss_one (ps_if (PW.pt (pw_or (pt_cmpR op_eq (pv 2) (pe_callB call_len_str (by rfl) glen PySem.boot_len (pa_cons (pv 0) pa_nil)) (nomark _))
            (pw_or1 (pt_cmpR op_notIn_sign (pe_ix ix_str (pv 0) (pv 2) (fun _ _ => rfl)) (pe_glob (v := .str allSigns) rfl gall ⟨_, rfl⟩) rfl)))) (pss_one (ps_ret (pv 2))) pss_nil)))
      (pss_cons (ps_if (pt_cmpR op_gt (pe_callB call_len_str (by rfl) glen PySem.boot_len (pa_cons (pv 0) pa_nil)) (pv 1) (nomark _)) (pss_one (ps_ret (pv 1))) pss_nil)
      (pss_one (ps_ret pe_non)))), ?_⟩
    refine ⟨_, rfl, _, rfl, by omega, by omega, for_range (lo := 0) (n := (wd : Int).toNat) (fun i σ H' => H' = H ∧ (∃ v, σ = [some (.str (tx r)), some (.int wd), v]) ∧ fw r wd 0 = fw r (wd - i) i ∧ i ≤ r.length) ⟨rfl, ⟨none, rfl⟩, rfl, Nat.zero_le _⟩ ?_ ?_⟩
    · rintro i σ H' hi ⟨rfl, ⟨v, rfl⟩, hf, hir⟩
      have hi' : i < wd := by omega
      obtain ⟨n, hn⟩ : ∃ n, wd - i = n + 1 := ⟨wd - i - 1, by omega⟩
      have hn2 : n = wd - (i + 1) := by omega
      rw [hn, fw_succ] at hf
      refine ⟨_, rfl, _, rfl, _, rfl, hl2, rfl, _, rfl, ?_⟩
      have e1 : decide (V.int (0 + (i : Int)) = V.int ((tx r).length : Nat)) = decide (i = r.length) := by
        rw [tx_len]
        apply decide_eq_decide.mpr
        constructor
        · intro h; injection h with h; omega
        · intro h; subst h; rw [Int.zero_add]
      have ret : (i = r.length ∨ okB (r.getD i 0) = false) → Q (.int (0 + (i : Int))) H' := fun h => by
        rw [if_pos h] at hf
        have e2 : fwc r wd = some i := by
          unfold fwc
          rw [hf]
          rfl
        rw [e2] at k
        rw [Int.zero_add]
        exact k
      show (if decide (V.int (0 + (i : Int)) = V.int ((tx r).length : Nat)) = true then _ else _)
      rw [e1]
      refine ite2 (fun hz => ?_) (fun hz => ?_)
      · refine iteT ⟨_, rfl, ?_⟩
        exact ret (.inl (of_decide_eq_true hz))
      · have hne : i ≠ r.length := fun e => hz (decide_eq_true e)
        have hlt : i < r.length := by omega
        · refine ⟨_, rfl, _, rfl, _, _, r[i], rfl, rfl, hl2, ?_, _, _, rfl, rfl, _, rfl, ?_⟩
          · rw [tx_cps, Int.zero_add]
            exact atI_nat (by simp [hlt])
          · rw [mem_allSigns]
            have e3 : r.getD i 0 = r[i] := by rw [List.getD_eq_getElem?_getD, List.getElem?_eq_getElem hlt]; rfl
            rw [e3] at ret hf
            cases hb : okB r[i] with
            | false =>
              refine iteT ⟨_, rfl, ?_⟩
              exact ret (.inr hb)
            | true =>
              refine iteF ?_
              refine ⟨rfl, ⟨_, rfl⟩, ?_, hlt⟩
              rw [hf, if_neg (by rintro (h | h); · exact hne h
                                 · rw [hb] at h; cases h), hn2]
    · rintro σ H' ⟨rfl, ⟨v, rfl⟩, hf, hir⟩
      have e0 : (wd : Int).toNat = wd := by omega
      rw [e0, Nat.sub_self] at hf
      have hf : fw r wd 0 = none := hf
      refine ⟨_, rfl, _, rfl, hl2, _, rfl, _, _, rfl, rfl, _, rfl, ?_⟩
      have e2 : fwc r wd = fwEnd r wd := by
        unfold fwc
        rw [hf]
        rfl
      rw [e2] at k
      rw [tx_len]
      refine ite2 (fun hz => ?_) (fun hz => ?_)
      · have hz' : (wd : Int) < (r.length : Nat) := of_decide_eq_true hz
        refine ⟨_, rfl, ?_⟩
        unfold fwEnd at k
        rw [if_pos (by omega)] at k
        exact k
      · have hz' : ¬ (wd : Int) < (r.length : Nat) := fun h => hz (decide_eq_true h)
        unfold fwEnd at k
        rw [if_neg (by omega)] at k
        exact k
end
end Om


namespace Om
open PySem PySem.Spec PyProof.Rows L2
/-- what the top says of InvalidIsland, at C, its __init__ at fI -/
structure IsI (K : PySem.W.Frag) (mg : Str → Option Value) (C fI : Addr) : Prop where
  oex : OexC K C
  noR : PySem.W.findIn K (.ref C) "row" = some none
  noC : PySem.W.findIn K (.ref C) "column" = some none
  iC : PySem.W.findIn K (.ref C) "__init__" = some (some (.ref fI))
  tI : PySem.W.typeIn K (.ref fI) = some (.type "function")
  gC : mg "InvalidIsland" = some (.ref C)
def xdII (x y : V) : List (Str × V) := [(("column" : Str), y), (("row" : Str), x)]
def spII (C : Addr) : Sp := fun vs H Q _ => ∃ (a : Addr) (x y : V), vs = [.ref a, x, y] ∧ H a = some (exo a C none) ∧
  ∀ dx, H dx = none → dx ≠ a → Q .non (upd (upd (upd H dx (exd dx [(("row" : Str), x)])) a (exo a C (some dx))) dx (exd dx (xdII x y)))
theorem mkII {C : Addr} {H1 : Hp} {W : XK} {x y : V} (k : ∀ d H', H1 d = none → Same H1 H' → H' d = some (.xd (xdII x y)) → W (.ref C) (some d) H') :
    [x, y].length ≤ 1000 ∧ ∀ a, H1 a = none → spII C (.ref a :: ([x, y] ++ [])) (upd H1 a (exo a C none)) (fun v H2 => v = .non ∧ ∃ (d : Addr) (fs : List (Str × V)), H2 a = some (exo a C (some d)) ∧ H2 d = some (exd d fs) ∧ H1 d = none ∧ W (.ref C) (some d) (upd (del H2 a) d (.xd fs))) (fun _ _ _ => False) := by
  refine ⟨by simp, fun a ha => ⟨a, x, y, rfl, upd_same, fun dx h1 h2 => ⟨rfl, dx, _, ?_, upd_same, ?_, ?_⟩⟩⟩
  · rw [upd_ne (Ne.symm h2), upd_same]
  · rw [upd_ne h2] at h1; exact h1
  · rw [upd_ne h2] at h1
    refine k dx _ h1 (fun c o hc => ?_) upd_same
    have n1 : c ≠ dx := ne_of_none hc h1
    have n2 : c ≠ a := ne_of_none hc ha
    rw [upd_ne n1, del_ne n2, upd_ne n1, upd_ne n2, upd_ne n1, upd_ne n2]
    exact hc
theorem Same.tup {K : PySem.W.Frag} {H H' : Hp} {a : Addr} {xs : List V} (e : Same H H') (h : SqT K H a xs) : SqT K H' a xs := by
  rcases h with (h | ⟨o, h⟩) | h
  · exact .inl (.inl (e _ _ h))
  · exact .inl (.inr ⟨o, e _ _ h⟩)
  · exact .inr h
theorem chkF_cons (wd : Nat) (r : List Nat) (rs : List (List Nat)) (i : Nat) : chkF wd (r :: rs) i = if i = 12 then some (i, 0) else match fwc r wd with
    | some c => some (i, c)
    | none => chkF wd rs (i + 1) := rfl
def spChk (K : PySem.W.Frag) (C : Addr) : Sp := fun vs H Q E => ∃ (a : Addr) (rows : List (List Nat)), vs = [.ref a] ∧ SqT K H a (rows.map vt) ∧ rows.length ≤ 1000 ∧ (∀ r ∈ rows, r.length ≤ 1000) ∧
  (chk rows = none → ∀ H', Same H H' → Q .non H') ∧ ∀ r c, chk rows = some (r, c) → ∀ d H', H d = none → Same H H' → H' d = some (.xd (xdII (.int (r : Nat)) (.int (c : Nat)))) → E (.ref C) (some d) H'
section
variable {P : Program} {w : World} {K : PySem.W.Frag} {mg : Str → Option Value} {base : Heap} {C fI : Addr}
theorem scII : FnScope ["self", "row", "column"] ["self", "row", "column"] (defScope sII) := ⟨rfl, rfl, rfl, by decide +kernel, rfl, by decide +kernel, by decide +kernel⟩
theorem ok_II {fd : FuncData} (F : FnP K "__init__" "InvalidIsland.__init__" sII fI fd) (T : IsI K mg C fI) : FnOk P w K mg base CX0 1 fI fd ["self", "row", "column"] (spII C) := by
  refine F.ok scII (fun vs H Q E h => ?_) (fun cdv A outer s H vs Q E hr h => ?_)
  · obtain ⟨a, x, y, rfl, _⟩ := h
    rfl
  · obtain ⟨a, x, y, rfl, ha, k⟩ := h
    refine ⟨_, PSs.nox (pss_cons (ps_ost (pv 0) (pv 1)) (pss_one (ps_ost (pv 0) (pv 2)))), ?_⟩
    refine ⟨_, rfl, _, rfl, a, C, rfl, T.oex, T.noR, .inl ⟨ha, fun dx h1 h2 => ?_⟩⟩
    exact ⟨_, rfl, _, rfl, a, C, rfl, T.oex, T.noC, .inr ⟨dx, _, upd_same, (by rw [upd_ne h2]; exact upd_same), by simp, k dx h1 h2⟩⟩
abbrev nChk : List Str := ["rows", "width", "row", "signs", "column"]
theorem scChk : FnScope nChk ["rows"] (defScope sChk) := ⟨rfl, rfl, rfl, by decide +kernel, rfl, by decide +kernel, by decide +kernel⟩
theorem ok_chk {f : Addr} {fd fdI : FuncData} (F : FnP K "_check_rows" "_check_rows" sChk f fd) (T : IsI K mg C fI) (FI : FnOk P w K mg base CX0 1 fI fdI ["self", "row", "column"] (spII C)) (bI : Binds K fdI ["self", "row", "column"] [])
    (G : Cal P w K mg base CX0 1 "_first_wrong_column" ["signs", "width"] spFwc) (glen : mg "len" = none) (gmax : mg "max" = none) (gmin : mg "min" = none) (genum : mg "enumerate" = none) (glg : ∃ t, mg "LARGEST" = some (.int 12 t)) :
    FnOk P w K mg base (L2.CX P w) 3 f fd ["rows"] (spChk K C) := by
  obtain ⟨t0, glg⟩ := glg
  refine F.ok scChk (fun vs H Q E h => ?_) (fun cdv A outer s H vs Q E hr h => ?_)
  · obtain ⟨a, rows, rfl, _⟩ := h
    rfl
  · obtain ⟨a, rows, rfl, hS, hl, hrl, kN, kS⟩ := h
    have nd := scChk.nd
    have hr1 : Room 1 _ := hr.mono (by decide)
    refine ⟨_, pss_cons (ps_if (pt_cmpR op_eq (pe_callB call_len_seq (by rfl) glen PySem.boot_len (pa_cons (pv 0) pa_nil)) pe_int (nomark _))
          (pss_one (ps_raise rfl (takes_of rfl rfl rfl rfl) (pmk_oex T.oex T.iC T.tI FI hr bI .nil pass0 rfl T.gC (pa_cons pe_int (pa_cons pe_int pa_nil))))) pss_nil)
      (pss_cons (ps_set (i := 1) nd rfl (.inl rfl) (pe_callB (call_max2 rfl) (by rfl) gmax (by decide +kernel) (pa_cons pe_int (pa_cons
          (pe_callB (call_min2 rfl) (by rfl) gmin (by decide +kernel) (pa_cons (pe_callB call_len_str (by rfl) glen PySem.boot_len (pa_cons (pe_ix ix_tup (pv 0) pe_int (fun _ _ => rfl)) pa_nil)) (pa_cons (pe_glob (v := .int 12) rfl glg ⟨_, rfl⟩) pa_nil))) pa_nil))))
      (pss_one (ps_for (passes_of rfl) rfl (pi_enumT rfl genum (pa_cons (pv 0) pa_nil)) (pg_tup rfl (pgs_cons (pg_name (i := 2) nd rfl (.inl rfl)) (pgs_cons (pg_name (i := 3) nd rfl (.inl rfl)) pgs_nil)))
        (pss_cons (ps_if (pt_cmpR op_eq (pv 2) (pe_glob (v := .int 12) rfl glg ⟨_, rfl⟩) (nomark _))
            (pss_one (ps_raise rfl (takes_of rfl rfl rfl rfl) (pmk_oex T.oex T.iC T.tI FI hr bI .nil pass0 rfl T.gC (pa_cons (pv 2) (pa_cons pe_int pa_nil))))) pss_nil)
        (pss_cons (ps_set (i := 4) nd rfl (.inl rfl) (pe_cal G hr1 pass0 (pa_cons (pv 3) (pa_cons (pv 1) pa_nil))))
        (pss_one (ps_if (pt_cmpR op_notN (pv 4) pe_non (nomark _))
            (pss_one (ps_raise rfl (takes_of rfl rfl rfl rfl) (pmk_oex T.oex T.iC T.tI FI hr bI .nil pass0 rfl T.gC (pa_cons (pv 2) (pa_cons (pv 4) pa_nil))))) pss_nil))))))), ?_⟩
    refine ⟨_, rfl, a, _, rfl, .inr hS, rfl, _, rfl, ?_⟩
    cases rows with
    | nil =>
      refine iteT ?_
      exact mkII (W := E) fun d H' h1 h2 h3 => kS 0 0 rfl d H' h1 h2 h3
    | cons r0 rs =>
      have hne : ¬ decide (V.int (((r0 :: rs).map vt).length : Nat) = V.int 0) = true := fun h => by
        have h := of_decide_eq_true h
        injection h with h
        simp only [List.length_map, List.length_cons] at h
        omega
      rw [if_neg hne]
      have hr0 : (tx r0).length ≤ sizeLine := by rw [tx_len]; exact small_le (hrl r0 (List.mem_cons_self ..))
      refine ⟨_, rfl, a, _, 0, _, rfl, rfl, hS, at0, _, rfl, hr0, _, _, rfl, _, _, rfl, ?_⟩
      have ew : (if (if (12 : Int) < ((tx r0).length : Nat) then (12 : Int) else ((tx r0).length : Nat)) > 1 then (if (12 : Int) < ((tx r0).length : Nat) then (12 : Int) else ((tx r0).length : Nat)) else 1) = ((wdOf r0 : Nat) : Int) := by
        rw [tx_len]
        unfold wdOf
        split <;> split <;> omega
      rw [ew]
      have hwd : wdOf r0 ≤ 12 := by unfold wdOf; omega
      refine ⟨_, rfl, a, _, rfl, hS, for_enumT (K := K) (a := a) (xs := (r0 :: rs).map vt) (fun i σ H' => Same H H' ∧ (∃ v2 v3 v4, σ = [some (.ref a), some (.int (wdOf r0 : Nat)), v2, v3, v4]) ∧ chk (r0 :: rs) = chkF (wdOf r0) ((r0 :: rs).drop i) i)
        ⟨Same.refl H, ⟨_, _, _, rfl⟩, rfl⟩ (fun i σ H' _ p => Same.tup p.1 hS) ?_ ?_⟩
      · rintro i x T1 σ H1 hx ⟨sm, ⟨v2, v3, v4, rfl⟩, hc⟩ hT1
        rw [List.getElem?_map] at hx
        cases hri : (r0 :: rs)[i]? with
        | none => rw [hri] at hx; cases hx
        | some r =>
          rw [hri] at hx
          obtain rfl : vt r = x := Option.some.inj hx
          have hlt : i < (r0 :: rs).length := (List.getElem?_eq_some_iff.mp hri).1
          have hre : (r0 :: rs)[i] = r := (List.getElem?_eq_some_iff.mp hri).2
          have hmem : r ∈ r0 :: rs := hre ▸ List.getElem_mem hlt
          rw [List.drop_eq_getElem_cons hlt, hre, chkF_cons] at hc
          have sm1 : Same H (upd H1 T1 (.tup [.int (i : Nat), vt r])) := Same.new sm hT1
          refine ⟨T1, _, rfl, .inl (.inl upd_same), rfl, _, _, rfl, _, _, rfl, rfl, ?_⟩
          refine ⟨_, rfl, rfl, _, rfl, ?_⟩
          refine ite2 (fun hz => ?_) (fun hz => ?_)
          · have hz := of_decide_eq_true hz
            injection hz with hz
            have hi : i = 12 := by omega
            rw [if_pos hi] at hc
            refine ⟨_, rfl, ?_⟩
            exact mkII (W := E) fun d H' h1 h2 h3 => kS i 0 hc d H' (Same.free sm1 h1) (sm1.trans h2) h3
          · have hi : i ≠ 12 := fun h => hz (decide_eq_true (by rw [h]; rfl))
            rw [if_neg hi] at hc
            refine ⟨_, rfl, _, rfl, r, wdOf r0, rfl, hrl r hmem, hwd, ?_⟩
            refine ⟨_, rfl, rfl, _, rfl, ?_⟩
            cases hf : fwc r (wdOf r0) with
            | none =>
              rw [hf] at hc
              refine iteF ?_
              exact ⟨sm1, ⟨_, _, _, rfl⟩, hc⟩
            | some c =>
              rw [hf] at hc
              refine iteT ⟨_, rfl, _, rfl, ?_⟩
              exact mkII (W := E) fun d H' h1 h2 h3 => kS i c hc d H' (Same.free sm1 h1) (sm1.trans h2) h3
      · rintro σ H1 ⟨sm, ⟨v2, v3, v4, rfl⟩, hc⟩
        have e0 : (r0 :: rs).drop ((r0 :: rs).map vt).length = [] := by simp
        rw [e0] at hc
        exact kN hc H1 sm
end
end Om


namespace Om
open PySem PySem.Spec PyProof.Rows L2 LamX
theorem iteT' {b : Bool} {A B : Prop} (h : b = true) (a : A) : if b = true then A else B := by
  rw [h, if_pos rfl]
  exact a
theorem iteF' {b : Bool} {A B : Prop} (h : b = false) (a : B) : if b = true then A else B := by
  rw [h, if_neg Bool.false_ne_true]
  exact a
end Om

namespace Om
open PySem PySem.Spec PyProof.Rows L2 LamX
/-! ### a text of some signs, several times -/
theorem foldl_rep (cs : List Nat) : ∀ (n : Nat) (acc : List Nat), (List.replicate n cs.toArray).foldl (· ++ ·) acc.toArray = (acc ++ (List.replicate n cs).flatten).toArray
  | 0, acc => by simp
  | n + 1, acc => by
    rw [List.replicate_succ, List.foldl_cons]
    have e : acc.toArray ++ cs.toArray = (acc ++ cs).toArray := by simp
    rw [e, foldl_rep cs n (acc ++ cs), List.replicate_succ, List.flatten_cons, List.append_assoc]
def rMulS : R2 := fun x y H Q => ∃ (cs : List Nat) (k : Int), x = .str (tx cs) ∧ y = .int k ∧ cs ≠ [] ∧ cs.length ≤ 1000 ∧ 2 ≤ k ∧ k ≤ 1000 ∧ Q (.str (tx (List.replicate k.toNat cs).flatten)) H
theorem op_mulS {X : Cx} : OpR X (binaryOp .Mult) rMulS := by
  rintro pins s σ H x y v u Q I rx ry ⟨cs, k, rfl, rfl, hne, hl, h2, h3, q⟩
  obtain ⟨t, rfl⟩ := rx
  obtain ⟨t', rfl⟩ := ry
  have hk : (List.replicate k.toNat cs).flatten.length ≤ 1000000 := by
    rw [PyProof.Rows.lm_len_rep_flat]
    have a1 : k.toNat * cs.length ≤ 1000 * 1000 := Nat.mul_le_mul (by omega) hl
    omega
  have hm : (tx cs).length * k.toNat ≤ 1000000 := by
    rw [tx_len]
    have a1 : cs.length * k.toNat ≤ 1000 * 1000 := Nat.mul_le_mul hl (by omega)
    omega
  have n1 : ¬ k < 1 := by omega
  have n2 : (k == 1 || (tx cs).length == 0) = false := by
    rw [tx_len, Bool.or_eq_false_iff]
    refine ⟨by simpa using (show ¬ k = 1 by omega), ?_⟩
    cases cs with
    | nil => exact absurd rfl hne
    | cons a r => rfl
  refine PySem.P.mul_str ?_ (fun _ _ => ?_) (fun _ _ => ?_) ?_
  · rw [decide_eq_false (show ¬ k < -(2 ^ 63 : Int) by omega), decide_eq_false (show ¬ k ≥ 2 ^ 63 by omega)]
    rfl
  · have e1 : (1000 : Int) ≤ (2 ^ 63 - 1) / k := by
      rw [Int.le_ediv_iff_mul_le (by omega)]
      have : 1000 * k ≤ 1000 * 1000 := Int.mul_le_mul_of_nonneg_left h3 (by omega)
      omega
    rw [tx_len]
    omega
  · refine decide_eq_false (show ¬ (tx cs).length * k.toNat > sizeLine from Nat.not_lt.mpr (Nat.le_trans hm (by decide)))
  · rw [if_neg n1, if_neg (by rw [n2]; exact Bool.false_ne_true)]
    have e2 : (⟨(List.replicate k.toNat (tx cs).cps).foldl (· ++ ·) #[]⟩ : Str) = tx (List.replicate k.toNat cs).flatten := by
      have := foldl_rep cs k.toNat []
      unfold tx
      rw [← List.nil_append (List.replicate k.toNat cs).flatten, ← this]
    rw [e2]
    exact ⟨by rw [tx_len]; exact Nat.le_trans hk (by decide), .str (tx (List.replicate k.toNat cs).flatten), H, I.tok _, ⟨_, rfl⟩, q⟩
/-! ### the island is made -/
/-- what the top says of Island, at CI -/
structure IslF (K : PySem.W.Frag) (mg : Str → Option Value) (CI fN : Addr) : Prop where
  cl : Cls K CI
  nR : NoAttr K CI "_rows"
  made : Mk K CI fN
  gI : mg "Island" = some (.ref CI)
def islFs (a : Addr) : List (Str × V) := putF "_rows" (.ref a) []
def spIsl (K : PySem.W.Frag) (CI C0 : Addr) : Sp := fun vs H Q E => ∃ (p dx a : Addr) (rows : List (List Nat)), vs = [.ref p, .ref a] ∧ H p = some (.ins CI dx []) ∧ SqT K H a (rows.map vt) ∧ rows.length ≤ 1000 ∧ (∀ r ∈ rows, r.length ≤ 1000) ∧
  (chk rows = none → ∀ H', (∀ b o, H b = some o → b ≠ p → H' b = some o) → H' p = some (.ins CI dx (islFs a)) → Q .non H') ∧
  ∀ r c, chk rows = some (r, c) → ∀ d H', H d = none → Same H H' → H' d = some (.xd (xdII (.int (r : Nat)) (.int (c : Nat)))) → E (.ref C0) (some d) H'
section
variable {P : Program} {w : World} {K : PySem.W.Frag} {mg : Str → Option Value} {base : Heap} {CI C0 fN : Addr}
theorem scIsl : FnScope ["self", "rows"] ["self", "rows"] (defScope sIslI) := ⟨rfl, rfl, rfl, by decide +kernel, rfl, by decide +kernel, by decide +kernel⟩
theorem ok_isl {fd : FuncData} (F : FnP K "__init__" "Island.__init__" sIslI fN fd) (T : IslF K mg CI fN) (G : Cal P w K mg base (L2.CX P w) 3 "_check_rows" ["rows"] (spChk K C0)) (gtuple : mg "tuple" = none) :
    FnOk P w K mg base (L2.CX P w) 4 fN fd ["self", "rows"] (spIsl K CI C0) := by
  refine F.ok scIsl (fun vs H Q E h => ?_) (fun cdv A outer s H vs Q E hr h => ?_)
  · obtain ⟨p, dx, a, rows, rfl, _⟩ := h
    rfl
  · obtain ⟨p, dx, a, rows, rfl, hp, hS, hl, hrl, kN, kS⟩ := h
    refine ⟨_, pss_cons (ps_expr (pe_cal G hr (E := E) (passes_call (W := fun cls d _ H => E cls d H) (takes_of rfl rfl rfl rfl) fun _ _ _ _ h => h) (pa_cons (pv 1) pa_nil)))
      (pss_one (ps_fld (pv 0) (pe_callTy call_tuple_of (by rfl) gtuple (by decide +kernel) (pa_cons (pv 1) pa_nil)) rfl)), ?_⟩
    refine ⟨_, rfl, a, rows, rfl, hS, hl, hrl, fun e H1 s1 => ?_, fun r c e d H' h1 h2 h3 => kS r c e d H' h1 h2 h3⟩
    refine ⟨_, rfl, a, _, rfl, .inr ⟨Same.tup s1 hS, ?_⟩⟩
    refine ⟨_, rfl, p, CI, dx, [], rfl, s1 _ _ hp, T.cl, T.nR, by decide, ?_⟩
    exact kN e _ (fun b o hb n => by rw [upd_ne n]; exact s1 _ _ hb) upd_same
end
end Om


namespace Om
open PySem PySem.Spec PyProof.Rows L2 LamX
def ansII (r c : Nat) : List V := [.str "InvalidIsland", .int (r : Nat), .int (c : Nat)]
def Lo (rows : List (List Nat)) : Prop := ∀ r ∈ rows, ∀ c ∈ r, c < 1000
/-! ### what stays from step to step of a law -/
/-- all but tables and the box stay -/
def Lv (b l : Addr) (H H' : Hp) : Prop := ∀ c o, H c = some o → (∀ ps, o ≠ .tbl ps) → c ≠ b → c ≠ l → H' c = some o
theorem Lv.refl (b l : Addr) (H : Hp) : Lv b l H H := fun _ _ h _ _ _ => h
theorem Lv.trans {b l : Addr} {H H1 H2 : Hp} (u : Lv b l H H1) (v : Lv b l H1 H2) : Lv b l H H2 := fun c o h n n1 n2 => v c o (u c o h n n1 n2) n n1 n2
theorem Kp.lv {b l : Addr} {H H' : Hp} (k : Kp b l H H') : Lv b l H H' := fun c o h _ n1 n2 => k c o h n1 n2
theorem lv_ext {b l : Addr} {H H' : Hp} (k : ExtN H H') : Lv b l H H' := fun c o h n _ _ => k c o h n
theorem lv_same {b l : Addr} {H H' : Hp} (k : Same H H') : Lv b l H H' := fun c o h _ _ _ => k c o h
theorem Lv.tup {K : PySem.W.Frag} {b l a : Addr} {H H' : Hp} {xs : List V} (v : Lv b l H H') (B : Box H b l) (h : SqT K H a xs) : SqT K H' a xs := by
  obtain ⟨ns, z, h1, h2, _⟩ := B.ex
  rcases h with (h | ⟨o, h⟩) | h
  · exact .inl (.inl (v _ _ h (fun ps e => by cases e) (ne_of h h1 fun e => by cases e) (ne_of h h2 fun e => by cases e)))
  · exact .inl (.inr ⟨o, v _ _ h (fun ps e => by cases e) (ne_of h h1 fun e => by cases e) (ne_of h h2 fun e => by cases e)⟩)
  · exact .inr h
theorem Box.ext {b l : Addr} {H H' : Hp} (B : Box H b l) (k : ExtN H H') : Box H' b l := by
  obtain ⟨ns, z, h1, h2, h3⟩ := B.ex
  exact ⟨ns, z, k _ _ h1 (fun ps e => by cases e), k _ _ h2 (fun ps e => by cases e), h3⟩
theorem tabs_kp {T : List (Addr × Str)} {b l : Addr} {H H' : Hp} (t : Tabs T H) (B : Box H b l) (k : Kp b l H H') : Tabs T H' := fun p hp => by
  obtain ⟨ns, z, h1, h2, _⟩ := B.ex
  obtain ⟨ps, q1, q2, q3⟩ := t p hp
  refine ⟨ps, k _ _ q1 (ne_of q1 h1 fun e => by cases e) (ne_of q1 h2 fun e => by cases e), q2, fun pos cv hc => ?_⟩
  obtain ⟨c, e1, e2⟩ := q3 pos cv hc
  exact ⟨c, e1, k _ _ e2 (ne_of e2 h1 fun e => by unfold CodeO at e; cases e) (ne_of e2 h2 fun e => by unfold CodeO at e; cases e)⟩
/-! ### tuples cut and put together -/
theorem catA_read {K : PySem.W.Frag} {a b : Addr} {xs ys : List V} {H : Hp} {Q : VK} (hx : SqT K H a xs) (hy : SqT K H b ys) (hl : xs.length + ys.length ≤ sizeLine) (k : ∀ p H', Same H H' → SqT K H' p (xs ++ ys) → Q (.ref p) H') : rCatA K (.ref a) (.ref b) H Q :=
  ⟨a, b, xs, ys, rfl, rfl, hx, hy, hl, fun e => k b H (Same.refl H) (by rw [e]; exact hy), fun _ e => k a H (Same.refl H) (by rw [e, List.append_nil]; exact hx), fun _ _ p hp => k p _ (Same.new (Same.refl H) hp) (.inl (.inl upd_same))⟩
theorem slA_read {K : PySem.W.Frag} {a : Addr} {xs : List V} {lo hi : Option Int} {H : Hp} {Q : VK} (hx : SqT K H a xs) (k : ∀ p H', Same H H' → SqT K H' p (cutV xs lo hi) → Q (.ref p) H') : rSlA K (.ref a) lo hi H Q := by
  refine ⟨a, xs, rfl, hx, fun ⟨e1, e2⟩ => k a H (Same.refl H) ?_, fun _ p hp => k p _ (Same.new (Same.refl H) hp) (.inl (.inl upd_same))⟩
  unfold cutV
  rw [e1, e2, List.drop_zero, Nat.sub_zero, List.take_length]
  exact hx
/-! ### rows with some bound -/
structure Good (rows : List (List Nat)) : Prop where
  len : rows.length ≤ 900
  row : ∀ r ∈ rows, r.length ≤ 1000 ∧ ∀ c ∈ r, c < 1000
theorem Good.lens {rows : List (List Nat)} (g : Good rows) : ∀ r ∈ rows, r.length ≤ 1000 := fun r h => (g.row r h).1
theorem Good.lo {rows : List (List Nat)} (g : Good rows) : Lo rows := fun r h => (g.row r h).2
theorem Good.le {rows : List (List Nat)} (g : Good rows) : rows.length ≤ 1000 := Nat.le_trans g.len (by decide)
theorem RowsOk.good {m : Nat} {rows : List (List Nat)} (h : RowsOk m rows) (hm : m ≤ 12) : Good rows := by
  obtain ⟨h1, h2, wd, w1, w2, hr⟩ := h
  refine ⟨by omega, fun r hr' => ⟨by have := (hr r hr').1; omega, fun c hc => ?_⟩⟩
  rcases (hr r hr').2 c hc with e | e | e <;> omega
theorem cutV_rows (rows : List (List Nat)) (lo hi : Option Int) : ∃ rs : List (List Nat), cutV (rows.map vt) lo hi = rs.map vt ∧ rs.length ≤ rows.length ∧ ∀ r ∈ rs, r ∈ rows := by
  refine ⟨(rows.drop (HT.sIx (rows.map vt).length 0 lo)).take (HT.sIx (rows.map vt).length (rows.map vt).length hi - HT.sIx (rows.map vt).length 0 lo), ?_, ?_, fun r h => List.mem_of_mem_drop (List.mem_of_mem_take h)⟩
  · unfold cutV
    rw [List.map_take, List.map_drop]
  · rw [List.length_take, List.length_drop]
    omega
theorem cutS_tx (r : List Nat) (lo hi : Option Int) : ∃ q : List Nat, cutS (tx r) lo hi = tx q ∧ q.length ≤ r.length ∧ ∀ c ∈ q, c ∈ r := by
  refine ⟨_, rfl, ?_, fun c h => ?_⟩
  · rw [List.length_take, List.length_drop, tx_cps]
    omega
  · have := List.mem_of_mem_drop (List.mem_of_mem_take h)
    rwa [tx_cps] at this
/-! ### the answers of _law_error and of _law_due -/
end Om

namespace Om
open PySem PySem.Spec PyProof.Rows L2 LamX
/-! ### own __getitem__, __contains__, __len__, __eq__ -/
/-- the class at C finds the name as the def at f -/
structure OwnM (K : PySem.W.Frag) (C : Addr) (n : Str) (f : Addr) : Prop where
  at_ : PySem.W.findIn K (.ref C) n = some (some (.ref f))
  fn : PySem.W.isFn K (.ref f) = true
  isF : PySem.W.fnIn K f = true
section
variable {X : Cx} {CX : CXT} {k : Nat} {C f : Addr} {fd : FuncData} {ps : List Str} {sp : Sp} {E : XK}
theorem run_fnS {A : Around} {pins : List (Addr × Obj)} {σ : L2.St} {H : Hp} {s : Shared} {Q : VK} {us : List Value} {vs : List V} (F : FnOk X.prog X.w X.K X.mg X.base CX k f fd ps sp) (sb : Sub X k A) (hb : Binds X.K fd ps []) (hx : Passes CX X E) (I : Inv X pins σ H s)
    (r : Vals vs us) (h : sp vs H Q E) : wpAny (model X.prog X.w) A (call (.ref f) us) (EP X pins σ Q) X.xe s := by
  have e0 : Env0 X.prog X.w X.K X.mg X.base A X.stack s H := by
    have e := I.env0
    exact ⟨by rw [sb.fr]; exact e.frames, e.mod, e.bs, e.bsz, e.funs, e.frf, e.hok, e.bare⟩
  have hl : us.length = ps.length := by rw [← r.length]; exact F.len _ _ _ _ h
  refine wpAny_call (codeAny_mono (F.run A X.stack s H ⟨us, []⟩ us vs Q E sb.room e0 (by
    have := hb s us I.kIn (by simpa using hl)
    simpa using this) r h) fun r s' hq => ?_)
  cases r with
  | error e => exact hx pins σ H s e s' I hq
  | ok fl =>
    cases fl with
    | ret w =>
      obtain ⟨v, H', I', rz, q⟩ := I.after hq
      exact ⟨v, H', I', rz, q⟩
    | next => exact False.elim hq
    | brk => exact False.elim hq
    | cont => exact False.elim hq
def rIxOwn (C : Addr) (sp : Sp) (E : XK) : R2 := fun x y H Q => ∃ a dx fs, x = .ref a ∧ H a = some (.ins C dx fs) ∧ sp [x, y] H Q E
theorem pe_ixOwn {a b : Expr} {ta tb : TE} {pos : Pos} (M : OwnM X.K C "__getitem__" f) (F : FnOk X.prog X.w X.K X.mg X.base CX k f fd ps sp) (hr : Room (k + 1) X.A) (hb : Binds X.K fd ps []) (hx : Passes CX X E) (ha : PE X a ta) (hi : PE X b tb)
    (hsl : ∀ v u, subscripted b true v u = runValue (.builtin "lifetime.subscript" ⟨[v, u], []⟩) := by intro v u; rfl) : PE X (.Subscript a b pos) (tOp (rIxOwn C sp E) ta tb) := by
  refine ⟨fun pins s σ H Q I h => ?_⟩
  refine Subscript_ (binT ha hi I h fun v u s2 x y H2 I2 rx ry q => ?_)
  obtain ⟨p, dx, fs, rfl, hp, q⟩ := q
  cases rx
  obtain ⟨mA, J, _⟩ := ins_get I2.hok hp
  obtain ⟨od, J, _⟩ := J.look
  obtain ⟨m, hF⟩ := I2.fr
  exact PySem.W.sub_K hF I2.ok.mod.kin J M.at_ M.isF M.fn (run_fnS F ⟨hr.in1, rfl⟩ hb hx I2 (.cons (show RelV (V.ref p) (Value.ref p) from rfl) (.cons ry .nil)) q) (hsl _ _)
def rInOwn (C : Addr) (sp : Sp) (E : XK) : R2 := fun x y H Q => ∃ a dx fs, y = .ref a ∧ H a = some (.ins C dx fs) ∧ sp [y, x] H (fun v H' => ∃ b, v = .bl b ∧ Q (.bl b) H') E
theorem op_inOwn (M : OwnM X.K C "__contains__" f) (F : FnOk X.prog X.w X.K X.mg X.base CX k f fd ps sp) (hr : Room k X.A) (hb : Binds X.K fd ps []) (hx : Passes CX X E) : OpR X (compareOp .In) (rInOwn C sp E) := by
  intro pins s σ H x y v u Q I rx ry h
  obtain ⟨p, dx, fs, rfl, hp, q⟩ := h
  cases ry
  obtain ⟨mA, J, _⟩ := ins_get I.hok hp
  obtain ⟨od, J, _⟩ := J.look
  obtain ⟨m, hF⟩ := I.fr
  refine PySem.W.in_K hF I.ok.mod.kin J M.at_ M.fn (wpAny_mono (run_fnS F ⟨hr, rfl⟩ hb hx I (.cons (show RelV (V.ref p) (Value.ref p) from rfl) (.cons rx .nil)) q) (fun r s' z => ?_) fun _ _ z => z)
  obtain ⟨z, H', I', rz, b, ez, q⟩ := z
  subst ez
  cases rz
  exact wpAny_truthy_bool ⟨.bl b, H', I', rfl, q⟩
def rNotInOwn (C : Addr) (sp : Sp) (E : XK) : R2 := fun x y H Q => ∃ a dx fs, y = .ref a ∧ H a = some (.ins C dx fs) ∧ sp [y, x] H (fun v H' => ∃ b, v = .bl b ∧ Q (.bl (!b)) H') E
theorem op_notInOwn (M : OwnM X.K C "__contains__" f) (F : FnOk X.prog X.w X.K X.mg X.base CX k f fd ps sp) (hr : Room k X.A) (hb : Binds X.K fd ps []) (hx : Passes CX X E) : OpR X (compareOp .NotIn) (rNotInOwn C sp E) := by
  intro pins s σ H x y v u Q I rx ry h
  obtain ⟨p, dx, fs, rfl, hp, q⟩ := h
  cases ry
  obtain ⟨mA, J, _⟩ := ins_get I.hok hp
  obtain ⟨od, J, _⟩ := J.look
  obtain ⟨m, hF⟩ := I.fr
  refine PySem.W.notIn_K hF I.ok.mod.kin J M.at_ M.fn (wpAny_mono (run_fnS F ⟨hr, rfl⟩ hb hx I (.cons (show RelV (V.ref p) (Value.ref p) from rfl) (.cons rx .nil)) q) (fun r s' z => ?_) fun _ _ z => z)
  obtain ⟨z, H', I', rz, b, ez, q⟩ := z
  subst ez
  cases rz
  exact wpAny_truthy_bool ⟨.bl (!b), H', I', rfl, q⟩
/-- both sides instances of C -/
def rEqOwn (C : Addr) (sp : Sp) (E : XK) : R2 := fun x y H Q => ∃ a dx fs b dy gs, x = .ref a ∧ H a = some (.ins C dx fs) ∧ y = .ref b ∧ H b = some (.ins C dy gs) ∧ sp [x, y] H (fun v H' => ∃ b, v = .bl b ∧ Q (.bl b) H') E
theorem op_eqOwn (M : OwnM X.K C "__eq__" f) (F : FnOk X.prog X.w X.K X.mg X.base CX k f fd ps sp) (hr : Room k X.A) (hb : Binds X.K fd ps []) (hx : Passes CX X E) : OpR X (compareOp .Eq) (rEqOwn C sp E) := by
  intro pins s σ H x y v u Q I rx ry h
  obtain ⟨p, dx, fs, q', dy, gs, rfl, hp, rfl, hq, q⟩ := h
  cases rx
  cases ry
  obtain ⟨mA, J, _⟩ := ins_get I.hok hp
  obtain ⟨od, J, _⟩ := J.look
  obtain ⟨mB, J', _⟩ := ins_get I.hok hq
  obtain ⟨od', J', _⟩ := J'.look
  obtain ⟨m, hF⟩ := I.fr
  show wpAny (model X.prog X.w) X.A (richCompare .Eq _ _) _ _ _
  refine PySem.W.cmp_K (op := .Eq) (tb := .ref C) hr.units0 hF I.ok.mod.kin J J'.type (by simp [PySem.W.notFirst]) M.at_ M.fn (wpAny_mono (run_fnS F ⟨hr, rfl⟩ hb hx I (.cons (show RelV (V.ref p) (Value.ref p) from rfl) (.cons (show RelV (V.ref q') (Value.ref q') from rfl) .nil)) q) (fun r s' z => ?_) fun _ _ z => z)
  obtain ⟨z, H', I', rz, b, ez, q⟩ := z
  subst ez
  cases rz
  exact ⟨.bl b, H', I', rfl, q⟩
/-- len(o) -/
def rLenOwn (C : Addr) (sp : Sp) (E : XK) : List V → Hp → VK → Prop := fun xs H Q => ∃ a dx fs, xs = [.ref a] ∧ H a = some (.ins C dx fs) ∧ sp xs H (fun v H' => ∃ n : Int, v = .int n ∧ 0 ≤ n ∧ n < 2 ^ 63 ∧ Q (.int n) H') E
theorem call_lenOwn (M : OwnM X.K C "__len__" f) (F : FnOk X.prog X.w X.K X.mg X.base CX k f fd ps sp) (hr : Room (k + 1) X.A) (hb : Binds X.K fd ps []) (hx : Passes CX X E) : CallR X (.builtin "len") (rLenOwn C sp E) := by
  intro pins s σ H xs us Q I r h
  obtain ⟨p, dx, fs, rfl, hp, q⟩ := h
  cases r with
  | cons r1 r2 =>
    cases r2
    cases r1
    obtain ⟨mA, J, _⟩ := ins_get I.hok hp
    obtain ⟨od, J, _⟩ := J.look
    obtain ⟨m, hF⟩ := I.fr
    refine PySem.W.len_K hF I.ok.mod.kin J M.at_ M.fn (wpAny_mono (run_fnS F ⟨hr.in1, rfl⟩ hb hx I (.cons (show RelV (V.ref p) (Value.ref p) from rfl) .nil) q) (fun r s' z => ?_) fun _ _ z => z)
    obtain ⟨z, H', I', rz, n, ez, n0, n1, q⟩ := z
    subst ez
    obtain ⟨t, rfl⟩ := rz
    exact ⟨⟨n0, n1⟩, .int n, H', I'.tok (s'.toks + 1), ⟨_, rfl⟩, q⟩
end
end Om


namespace Om
open PySem PySem.Spec PyProof.Rows L2
/-! ### enumerate(text) -/
def IteS (x : Str) : It :=
  ⟨fun i _ => i < x.cps.size, fun i H v H' => ∃ T c, v = .ref T ∧ H T = none ∧ H' = upd H T (.tup [.int (i : Nat), .str ⟨#[c]⟩]) ∧ x.cps[i]? = some c, fun i _ => x.cps.size = i⟩
theorem turn_enumS {P : Program} {w : World} {K : PySem.W.Frag} {elts : List Expr} {kk : Nat} {tpos : Pos} {e it : Addr} {x : Str} {t : Tok} (nei : e ≠ it) :
    Turn P w K (.Tuple elts kk tpos) (IteS x) [e, it] e (fun i h => (∃ old, IsEnum h e it ((i : Nat) : Int) old) ∧ h.IsStrIter it (strIterType x) x t i) where
  mem := by simp
  obj := fun i h ⟨⟨old, he⟩, o, ho, hc, hd⟩ b hb => by
    rcases (show b = e ∨ b = it by simpa using hb) with rfl | rfl
    · exact ⟨_, he, fun v q => nomatch q⟩
    · exact ⟨o, ho, fun v q => by rw [hd] at q; cases q⟩
  keep := fun i h h' ⟨⟨old, he⟩, hi⟩ k => ⟨⟨old, k e (by simp) _ he⟩, let ⟨o, q, r⟩ := hi; ⟨o, k it (by simp) o q, r⟩⟩
  item := by
    intro X eP ew eK hc i pins s σ H E I hf ⟨⟨old, he⟩, hit⟩ hlt
    subst eP ew eK
    have el : e < s.heap.objs.size := Heap.lt_size he
    have il : it < s.heap.objs.size := by obtain ⟨_, q, _⟩ := hit; exact Heap.lt_size q
    have hd0 : X.A.in1.handled = none := I.ok.hd hc
    refine wpAny_pyNext_enum_itemD (Draws.text hd0 it x t) he hit hlt nei (by simp [nei]) fun v h' tk hx2 ho hst hT hs2 hk => ?_
    obtain ⟨c, u, hxc, rfl⟩ := hx2
    refine ⟨_, rfl, wpAny_letOwnedTupleGo_enum (s := { s with heap := h', toks := tk + 1 }) ho fun h2 he2 sb => ?_⟩
    have hT2 := (sb.2 _ (Nat.ne_of_gt el)).trans hT
    have new : ObjOk X.prog X.w (upd H s.heap.objs.size (.tup [.int (i : Nat), .str ⟨#[c]⟩])) h2 s.heap.objs.size (.tup [.int (i : Nat), .str ⟨#[c]⟩]) :=
      ⟨(show 2 ≤ sizeLine by decide), [.int i tk, .str ⟨#[c]⟩ u], .cons ⟨_, rfl⟩ (.cons ⟨_, rfl⟩ .nil), _, hT2, rfl, _, rfl⟩
    have I1 : Inv X pins σ (upd H s.heap.objs.size (.tup [.int (i : Nat), .str ⟨#[c]⟩])) { s with heap := h2, toks := tk + 1 } :=
      I.turnedNew (ch := [e, it]) (fun b ob hb q => (sb.2 b (by rintro rfl; simp at hb)).trans (hk b ob (by rintro rfl; simp at hb) (by rintro rfl; simp at hb) q)) hf (Nat.le_refl _) new
    have ei : ((i + 1 : Nat) : Int) = (i : Int) + 1 := by omega
    refine ⟨.ref s.heap.objs.size, _, I1, rfl, ⟨_, c, rfl, I.hok.fresh (Nat.le_refl _), rfl, hxc⟩, ⟨⟨.str ⟨#[c]⟩ u, by rw [ei]; exact he2⟩, let ⟨o, q, r⟩ := hst; ⟨o, (sb.2 it (Ne.symm nei)).trans q, r⟩⟩, fun b hb => ?_⟩
    have hlt2 : b < s.heap.objs.size := by
      rcases (show b = e ∨ b = it by simpa using hb) with rfl | rfl
      · exact el
      · exact il
    rw [upd_ne (Nat.ne_of_lt hlt2)]
    exact (hf b hb).1
  done := by
    intro X eP ew eK hc i pins s σ H E I hf ⟨⟨old, he⟩, hit⟩ hle
    subst eP ew eK
    obtain ⟨f0, f1, f2, f3, f4, f5⟩ := hf it (by simp)
    have hd0 : X.A.in1.handled = none := I.ok.hd hc
    obtain rfl : i = x.cps.size := Eq.symm hle
    exact wpAny_pyNext_enum_endD (Draws.text hd0 it x t) he hit fun h' eb => ⟨rfl, I.turned (t' := s.toks) (fun b o hb q => eb b o hb q) f0 f1 f3 f4 f5⟩
  self := fun A i s Q E ⟨⟨_, he⟩, _⟩ h => wpAny_pyIter_enum he h
def iEnumS (ta : TA) : TI := fun σ H R => ta σ H fun vs H1 => ∃ x, vs = [.str x] ∧ R (IteS x) H1
theorem pi_enumS {X : Cx} {e : Expr} {ta : TA} {p pos tpos : Pos} {elts : List Expr} {kk : Nat} (hg : Gl X "enumerate") (hm : X.mg "enumerate" = none) (ha : PA X [e] ta) (hs : starEach [e] X.env = [(false, eval e X.env)] := by rfl) :
    PI X (.Tuple elts kk tpos) (.Call (.Name "enumerate" p) [e] [] pos) (iEnumS ta) := by
  constructor
  intro pins s σ H R I h
  refine Call_ (ld_blt I hg hm boot_enumerate (PyProof.Rows.callWith_type1 (thn (ha.run pos pins s σ H _ I h) fun us s1 ⟨vs, H1, I1, r1, x, ev, q⟩ => ?_) hs rfl))
  subst ev
  cases r1 with
  | cons ra rr =>
    cases rr
    obtain ⟨t, rfl⟩ := ra
    refine om_enum_call (begins_text x t) trivial fun h' he hi hk => wpAny_pyIter_enum he ?_
    have I2 : Inv X pins σ H1 { s1 with heap := h' } := I1.kept (t' := s1.toks) hk
    refine ⟨s1.heap.objs.size + 1, [s1.heap.objs.size + 1, s1.heap.objs.size], _, _, H1, rfl, I2, turn_enumS (x := x) (t := t) (Nat.succ_ne_self _), ⟨⟨.none, he⟩, _, hi, rfl, rfl⟩, fun b hb => ?_, q⟩
    have hb2 : s1.heap.objs.size ≤ b := by
      rcases (show b = s1.heap.objs.size + 1 ∨ b = s1.heap.objs.size by simpa using hb) with rfl | rfl
      · omega
      · exact Nat.le_refl _
    exact I1.fpOk hb2 (I1.hok.fresh hb2)
end Om


namespace Om
open PySem PySem.Spec PyProof.Rows L2
/-! ### walks of enumerate; a comprehension of two for over walks -/
def YEnum (xs : Nat → Option V) : Nat → Hp → V → Hp → Prop := fun i H v H' => ∃ T x, v = .ref T ∧ H T = none ∧ H' = upd H T (.tup [.int (i : Nat), x]) ∧ xs i = some x
theorem walk_enumT {K : PySem.W.Frag} {a : Addr} {xs : List V} : Walk (IteT K a xs) xs.length (fun H => SqT K H a xs) (YEnum fun i => xs[i]?) :=
  ⟨fun i _ hi q => ⟨q, hi⟩, fun _ q => ⟨q, rfl⟩, fun _ _ _ _ _ _ y => y⟩
theorem walk_enumS {x : Str} : Walk (IteS x) x.cps.size (fun _ => True) (YEnum fun i => x.cps[i]?.map fun c => .str ⟨#[c]⟩) :=
  ⟨fun i _ hi _ => hi, fun _ _ => rfl, fun i H v H' _ _ y => by
    obtain ⟨T, c, e1, e2, e3, e4⟩ := y
    exact ⟨T, _, e1, e2, e3, by show (x.cps[i]?).map _ = _; rw [e4]; rfl⟩⟩
section
variable {J : It} {n : Nat} {G : Hp → Prop} {Y : Nat → Hp → V → Hp → Prop}
/-- the inner walk of a comprehension of two for: Pv by the inner turn -/
theorem in_it (w : Walk J n G Y) {g : TG} {tt : TT} {te : TE} {vs : List Nat} {σ : L2.St} {H : Hp} {D : Addr} {Nx : Hp → Prop} (Pv : Nat → Hp → Prop) (h0 : Pv 0 H) (hG : ∀ i H, i ≤ n → Pv i H → G H)
    (hs : ∀ i x H H', i < n → Pv i H → Y i H x H' → g x (wipe σ vs) H' fun σ2 H2 => wipe σ2 vs = wipe σ vs ∧ tt σ2 H2 fun b H3 =>
      if b = true then te σ2 H3 fun y H4 => ∃ acc, H4 D = some (.lst acc) ∧ acc.length < sizeLine ∧ Pv (i + 1) (upd H4 D (.lst (acc ++ [y]))) else Pv (i + 1) H3) (hd : ∀ H, Pv n H → Nx H) :
    ∃ W1 : Nat → Nat → Hp → Prop, (∃ m, W1 0 m H) ∧ ∀ j k H, W1 j k H →
      (J.stop j H ∧ Nx H) ∨ (J.go j H ∧ ∃ Nx1 : Hp → Prop, (∀ H', Nx1 H' → ∃ k', k' < k ∧ W1 (j + 1) k' H') ∧ ∀ x H', J.yld j H x H' → g x (wipe σ vs) H' fun σ3 H5 => wipe σ3 vs = wipe σ vs ∧ tt σ3 H5 fun b H6 =>
        if b = true then te σ3 H6 fun y H7 => ∃ acc, H7 D = some (.lst acc) ∧ acc.length < sizeLine ∧ Nx1 (upd H7 D (.lst (acc ++ [y]))) else Nx1 H6) := by
  refine ⟨fun i m H => m = n - i ∧ i ≤ n ∧ Pv i H, ⟨n, by simp, Nat.zero_le _, h0⟩, ?_⟩
  rintro i m H ⟨rfl, hi, p⟩
  have q := hG i H hi p
  by_cases hlt : i < n
  · exact .inr ⟨w.goes i H hlt q, Pv (i + 1), fun H' p' => ⟨n - (i + 1), by omega, rfl, hlt, p'⟩, fun x H' y => hs i x H H' hlt p (w.yields i H x H' hlt q y)⟩
  · have e : i = n := by omega
    subst e
    exact .inl ⟨w.stops H q, hd H p⟩
/-- the outer walk: what a turn's inner part does is told by B, from Pv i to Pv (i + 1) -/
theorem out_it (w : Walk J n G Y) {H1 : Hp} {D : Addr} {Qd : Hp → Prop} {B : (Hp → Prop) → V → Hp → Prop} (Pv : Nat → Hp → Prop) (h0 : Pv 0 (upd H1 D (.lst []))) (hG : ∀ i H, i ≤ n → Pv i H → G H)
    (hs : ∀ i x H H', i < n → Pv i H → Y i H x H' → B (Pv (i + 1)) x H') (hd : ∀ H, Pv n H → Qd H) :
    ∃ W : Nat → Nat → Hp → Prop, (∃ m, W 0 m (upd H1 D (.lst []))) ∧ ∀ i m H, W i m H →
      (J.stop i H ∧ Qd H) ∨ (J.go i H ∧ ∃ Nx : Hp → Prop, (∀ H', Nx H' → ∃ m', m' < m ∧ W (i + 1) m' H') ∧ ∀ x H', J.yld i H x H' → B Nx x H') := by
  refine ⟨fun i m H => m = n - i ∧ i ≤ n ∧ Pv i H, ⟨n, by simp, Nat.zero_le _, h0⟩, ?_⟩
  rintro i m H ⟨rfl, hi, p⟩
  have q := hG i H hi p
  by_cases hlt : i < n
  · exact .inr ⟨w.goes i H hlt q, Pv (i + 1), fun H' p' => ⟨n - (i + 1), by omega, rfl, hlt, p'⟩, fun x H' y => hs i x H H' hlt p (w.yields i H x H' hlt q y)⟩
  · have e : i = n := by omega
    subst e
    exact .inl ⟨w.stops H q, hd H p⟩
end
end Om


namespace Om
open PySem PySem.Spec PyProof.Rows L2
abbrev sInR : Stmt := top 5
abbrev sLies : Stmt := top 20
def inR (v lo hi : Int) : Bool := decide (lo ≤ v) && decide (v ≤ hi)
def insd (rows : List (List Nat)) (i j : Int) : Bool := inR i 0 ((rows.length : Int) - 1) && inR j 0 (((rows.headD []).length : Int) - 1)
def spInR : Sp := fun vs H Q _ => ∃ v lo hi : Int, vs = [.int v, .int lo, .int hi] ∧ Q (.bl (inR v lo hi)) H
/-- rows of an island as they are kept -/
structure Shp (rows : List (List Nat)) : Prop where
  len : rows.length ≤ 1000
  row : ∀ r ∈ rows, r.length ≤ 1000
  ne : rows ≠ []
def spLies (K : PySem.W.Frag) : Sp := fun vs H Q _ => ∃ (p c : Addr) (rows : List (List Nat)) (i j : Int), vs = [.ref p, .ref c] ∧ SqT K H p (rows.map vt) ∧ Shp rows ∧ SqT K H c [.int i, .int j] ∧ Q (.bl (insd rows i j)) H
section
variable {P : Program} {w : World} {K : PySem.W.Frag} {mg : Str → Option Value} {base : Heap}
abbrev nInR : List Str := ["value", "least", "most"]
theorem scInR : FnScope nInR nInR (defScope sInR) := ⟨rfl, rfl, rfl, by decide +kernel, rfl, by decide +kernel, by decide +kernel⟩
theorem ok_inR {f : Addr} {fd : FuncData} (F : FnP K "in_range" "in_range" sInR f fd) (gisi : mg "isinstance" = none) (gint : mg "int" = none) (gbool : mg "bool" = none) : FnOk P w K mg base CX0 1 f fd nInR spInR := by
  refine F.ok scInR (fun vs H Q E h => ?_) (fun cdv A outer s H vs Q E hr h => ?_)
  · obtain ⟨v, lo, hi, rfl, _⟩ := h
    rfl
  · obtain ⟨v, lo, hi, rfl, k⟩ := h
    refine ⟨_, PSs.nox (pss_one (ps_ret (pe_and (pe_callB call_isi (by rfl) gisi (by decide +kernel) (pa_cons (pv 0) (pa_cons (pe_bltn (v := .ty "int") (by rfl) gint boot_int rfl) pa_nil)))
      (pe_and (pe_not (pe_callB call_isi (by rfl) gisi (by decide +kernel) (pa_cons (pv 0) (pa_cons (pe_bltn (v := .ty "bool") (by rfl) gbool (by decide +kernel) rfl) pa_nil))))
        (pe_one (pe_chain op_le op_le (pv 1) (pv 0) (pv 2))))))), ?_⟩
    refine ⟨_, rfl, _, _, _, _, _, rfl, .ty "int", .base (.int _), kit_ty (a := "int") (b := "int") (r := true) (by decide +kernel), ?_⟩
    refine ⟨true, rfl, iteT ?_⟩
    refine ⟨_, rfl, _, _, _, _, _, rfl, .ty "bool", .base (.int _), kit_ty (a := "int") (b := "bool") (r := false) (by decide +kernel), false, rfl, true, rfl, iteT ?_⟩
    refine ⟨_, rfl, _, rfl, _, _, rfl, rfl, _, rfl, ?_⟩
    unfold inR at k
    cases e : decide (lo ≤ v) with
    | true =>
      rw [e, Bool.true_and] at k
      exact iteT ⟨_, rfl, _, _, rfl, rfl, k⟩
    | false =>
      rw [e, Bool.false_and] at k
      exact iteF k
theorem scLies : FnScope ["rows", "cell", "row", "column"] ["rows", "cell"] (defScope sLies) := ⟨rfl, rfl, rfl, by decide +kernel, rfl, by decide +kernel, by decide +kernel⟩
theorem ok_lies {f : Addr} {fd : FuncData} (F : FnP K "_lies_within" "_lies_within" sLies f fd) (G : Cal P w K mg base CX0 1 "in_range" nInR spInR) (glen : mg "len" = none) : FnOk P w K mg base CX0 2 f fd ["rows", "cell"] (spLies K) := by
  refine F.ok scLies (fun vs H Q E h => ?_) (fun cdv A outer s H vs Q E hr h => ?_)
  · obtain ⟨p, c, rows, i, j, rfl, _⟩ := h
    rfl
  · obtain ⟨p, c, rows, i, j, rfl, hS, sh, hC, k⟩ := h
    have nd := scLies.nd
    have hr1 : Room 1 _ := hr.mono (by decide)
    refine ⟨_, PSs.nox (pss_cons (ps_asg (pv 1) (pg_tup rfl (pgs_cons (pg_name (i := 2) nd rfl (.inl rfl)) (pgs_cons (pg_name (i := 3) nd rfl (.inl rfl)) pgs_nil))))
      (pss_one (ps_ret (pe_and (pe_cal G hr1 pass0 (pa_cons (pv 2) (pa_cons pe_int (pa_cons (pe_op op_sub (pe_callB call_len_seq (by rfl) glen PySem.boot_len (pa_cons (pv 0) pa_nil)) pe_int) pa_nil))))
        (pe_one (pe_cal G hr1 pass0 (pa_cons (pv 3) (pa_cons pe_int (pa_cons (pe_op op_sub (pe_callB call_len_str (by rfl) glen PySem.boot_len (pa_cons (pe_ix ix_tup (pv 0) pe_int (fun _ _ => rfl)) pa_nil)) pe_int) pa_nil))))))))), ?_⟩
    obtain ⟨r0, rs, rfl⟩ : ∃ r0 rs, rows = r0 :: rs := by
      cases rows with
      | nil => exact absurd rfl sh.ne
      | cons r0 rs => exact ⟨r0, rs, rfl⟩
    have hr0 : (tx r0).length ≤ sizeLine := by rw [tx_len]; exact small_le (sh.row r0 (List.mem_cons_self ..))
    refine ⟨_, rfl, c, _, rfl, hC, rfl, _, _, rfl, _, _, rfl, rfl, ?_⟩
    refine ⟨_, rfl, _, rfl, p, _, rfl, .inr hS, _, _, rfl, rfl, i, 0, _, rfl, ?_⟩
    refine ⟨_, rfl, ?_⟩
    have k2 : Q (.bl (inR i 0 ((((r0 :: rs).map vt).length : Nat) - 1) && inR j 0 (((tx r0).length : Nat) - 1))) H := by
      rw [tx_len, List.length_map]; exact k
    cases e : inR i 0 ((((r0 :: rs).map vt).length : Nat) - 1) with
    | false =>
      rw [e, Bool.false_and] at k2
      exact iteF k2
    | true =>
      rw [e, Bool.true_and] at k2
      refine iteT ?_
      exact ⟨_, rfl, _, rfl, p, _, 0, _, rfl, rfl, hS, at0, _, rfl, hr0, _, _, rfl, rfl, j, 0, _, rfl, k2⟩
end
end Om


namespace Om
open PySem PySem.Spec PyProof.Rows L2
/-! ### rows as data -/
def dt (r : List Nat) : PyData := .str (tx r)
theorem dpAll_rows {K : PySem.W.Frag} {H : Hp} : ∀ rows : List (List Nat), DpAll K H (rows.map vt) (rows.map dt)
  | [] => .nil
  | r :: rs => .cons (.str _) (dpAll_rows rs)
theorem strOk_tx {r : List Nat} (h : ∀ c ∈ r, c < 1000) : PyData.strOk (tx r) = true := by
  unfold PyData.strOk
  rw [Array.all_eq_true']
  intro c hc
  have hc' : c ∈ r := by
    have : c ∈ (tx r).cps.toList := by simpa using hc
    rwa [tx_cps] at this
  have := h c hc'
  exact decide_eq_true (by omega)
theorem lay_rows : ∀ {rows : List (List Nat)}, Lo rows → PyData.canLayAll0 (rows.map dt) = true
  | [], _ => by simp [PyData.canLayAll0]
  | r :: rs, h => by
    have h1 : PyData.strOk (tx r) = true := strOk_tx (h r (List.mem_cons_self ..))
    simp only [List.map_cons, PyData.canLayAll0, dt, PyData.canLay0, h1, lay_rows (rows := rs) fun r hr => h r (List.mem_cons_of_mem _ hr), Bool.and_self]
theorem dep_rows : ∀ rows : List (List Nat), PyData.depthAll (rows.map dt) = 0
  | [] => by simp [PyData.depthAll]
  | r :: rs => by simp [PyData.depthAll, PyData.depth, dt, dep_rows rs]
theorem shaped_rows {rows : List (List Nat)} (h : Lo rows) : SeqAt.shaped (.tuple (rows.map dt)) = true :=
  shaped_of (by simp only [PyData.canLay0]; exact lay_rows h) (by simp only [PyData.depth, dep_rows]; omega)
theorem eqv_str (a b : List Nat) : PyData.eqv (.str (tx a)) (.str (tx b)) = decide (a = b) := by
  rw [Bool.eq_iff_iff, decide_eq_true_iff]
  constructor
  · intro h
    have h2 : tx a = tx b := by simpa [PyData.eqv] using h
    exact tx_inj h2
  · rintro rfl
    simp [PyData.eqv]
theorem eqvAll_rows : ∀ a b : List (List Nat), PyData.eqvAll (a.map dt) (b.map dt) = decide (a = b)
  | [], [] => by simp [PyData.eqvAll]
  | [], _ :: _ => by simp [PyData.eqvAll]
  | _ :: _, [] => by simp [PyData.eqvAll]
  | r :: rs, q :: qs => by
    have e1 : PyData.eqvAll ((r :: rs).map dt) ((q :: qs).map dt) = (PyData.eqv (dt r) (dt q) && PyData.eqvAll (rs.map dt) (qs.map dt)) := by simp [PyData.eqvAll]
    rw [e1, eqvAll_rows rs qs, dt, dt, eqv_str, Bool.eq_iff_iff]
    simp
theorem eqv_rows (a b : List (List Nat)) : PyData.eqv (.tuple (a.map dt)) (.tuple (b.map dt)) = decide (a = b) := by
  have e1 : PyData.eqv (.tuple (a.map dt)) (.tuple (b.map dt)) = PyData.eqvAll (a.map dt) (b.map dt) := by simp [PyData.eqv]
  rw [e1, eqvAll_rows]
end Om


namespace Om
open PySem PySem.Spec PyProof.Rows L2
/-! ### an island's methods -/
abbrev sIslM (i : Nat) : Stmt := inClass (top 18) i
/-- an island at a: its rows -/
def Isl (K : PySem.W.Frag) (CI : Addr) (H : Hp) (a : Addr) (rows : List (List Nat)) : Prop := ∃ dx p, H a = some (.ins CI dx (islFs p)) ∧ SqT K H p (rows.map vt)
structure Good2 (rows : List (List Nat)) : Prop extends Shp rows where
  rect : ∀ r ∈ rows, r.length = (rows.headD []).length
  lo : Lo rows
def sgAt (rows : List (List Nat)) (i j : Int) : Nat := (rows.getD i.toNat []).getD j.toNat 0
theorem Isl.same {K : PySem.W.Frag} {CI a : Addr} {H H' : Hp} {rows : List (List Nat)} (h : Isl K CI H a rows) (s : Same H H') : Isl K CI H' a rows := by
  obtain ⟨dx, p, h1, h2⟩ := h
  exact ⟨dx, p, s _ _ h1, Same.tup s h2⟩
theorem islFs_at (p : Addr) : (islFs p).lookup ("_rows" : Str) = some (.ref p) := rfl
theorem insd_at {rows : List (List Nat)} {i j : Int} (g : Good2 rows) (h : insd rows i j = true) : ∃ r c, rows[i.toNat]? = some r ∧ r[j.toNat]? = some c ∧ sgAt rows i j = c ∧ r ∈ rows ∧ 0 ≤ i ∧ 0 ≤ j := by
  unfold insd inR at h
  simp only [Bool.and_eq_true, decide_eq_true_eq] at h
  obtain ⟨⟨h1, h2⟩, h3, h4⟩ := h
  have hi : i.toNat < rows.length := by omega
  have hm : rows[i.toNat] ∈ rows := List.getElem_mem hi
  have hl := g.rect _ hm
  have hj : j.toNat < (rows[i.toNat]).length := by omega
  refine ⟨rows[i.toNat], (rows[i.toNat])[j.toNat], by simp [hi], by simp [hj], ?_, hm, h1, h3⟩
  unfold sgAt
  have e1 : rows.getD i.toNat [] = rows[i.toNat] := by rw [List.getD_eq_getElem?_getD, List.getElem?_eq_getElem hi, Option.getD_some]
  rw [e1, List.getD_eq_getElem?_getD, List.getElem?_eq_getElem hj, Option.getD_some]
/-- an own error class made with a text -/
structure ErrU (K : PySem.W.Frag) (mg : Str → Option Value) (x : Str) (C : Addr) : Prop where
  q : PySem.W.excIn K C [.type "ValueError", .type "Exception", .type "BaseException", .type "object"] "ValueError.__new__" = true
  kp : PySem.W.keepIn K (.ref C) = true
  r1 : PySem.W.subIn K (.ref C) (.type "BaseException") = some true
  r2 : PySem.W.typeIn K (.ref C) = some (.type "type")
  g : mg x = some (.ref C)
def spGet (K : PySem.W.Frag) (CI CU : Addr) : Sp := fun vs H Q E => ∃ (a c : Addr) (rows : List (List Nat)) (i j : Int), vs = [.ref a, .ref c] ∧ Isl K CI H a rows ∧ Good2 rows ∧ SqT K H c [.int i, .int j] ∧
  (insd rows i j = true → Q (vt [sgAt rows i j]) H) ∧ (insd rows i j = false → E (.ref CU) none H)
def hasC (rows : List (List Nat)) (i j : Int) : Bool := insd rows i j && !decide (sgAt rows i j = 126)
def spHas (K : PySem.W.Frag) (CI : Addr) : Sp := fun vs H Q _ => ∃ (a c : Addr) (rows : List (List Nat)) (i j : Int), vs = [.ref a, .ref c] ∧ Isl K CI H a rows ∧ Good2 rows ∧ SqT K H c [.int i, .int j] ∧ Q (.bl (hasC rows i j)) H
def spIEq (K : PySem.W.Frag) (CI : Addr) : Sp := fun vs H Q _ => ∃ (a b : Addr) (r1 r2 : List (List Nat)), vs = [.ref a, .ref b] ∧ Isl K CI H a r1 ∧ Isl K CI H b r2 ∧ Lo r1 ∧ Lo r2 ∧ Q (.bl (decide (r1 = r2))) H
def spIRows (K : PySem.W.Frag) (CI : Addr) : Sp := fun vs H Q _ => ∃ (a dx p : Addr), vs = [.ref a] ∧ H a = some (.ins CI dx (islFs p)) ∧ Q (.ref p) H
def spIHgt (K : PySem.W.Frag) (CI : Addr) : Sp := fun vs H Q _ => ∃ (a : Addr) (rows : List (List Nat)), vs = [.ref a] ∧ Isl K CI H a rows ∧ Q (.int (rows.length : Nat)) H
def spIWid (K : PySem.W.Frag) (CI : Addr) : Sp := fun vs H Q _ => ∃ (a : Addr) (rows : List (List Nat)), vs = [.ref a] ∧ Isl K CI H a rows ∧ Shp rows ∧ Q (.int ((rows.headD []).length : Nat)) H
/-- what isinstance asks of the class -/
structure InsF (K : PySem.W.Frag) (C : Addr) : Prop where
  ha : PySem.W.findIn K (.ref C) "__class__" = some (some (.builtin "object.__class__"))
  hn : PySem.W.specialIn K (.builtin "object.__class__") "__get__" = some (some (.builtin "getset_descriptor.__get__"))
  ht : PySem.W.takesIn K (.builtin "object.__class__") = some true
  hm : PySem.W.mroIn K C (.type "object") = some true
theorem kit_self {K : PySem.W.Frag} {C : Addr} : PySem.W.kitOne K (.ref C) (.ref C) = some true := by
  unfold PySem.W.kitOne
  rw [if_pos (by simp)]
section
variable {P : Program} {w : World} {K : PySem.W.Frag} {mg : Str → Option Value} {base : Heap} {CI CU fN : Addr}
abbrev nGet : List Str := ["self", "cell", "row", "column"]
theorem scGet : FnScope nGet ["self", "cell"] (defScope (sIslM 7)) := ⟨rfl, rfl, rfl, by decide +kernel, rfl, by decide +kernel, by decide +kernel⟩
theorem ok_get {f : Addr} {fd : FuncData} (F : FnP K "__getitem__" "Island.__getitem__" (sIslM 7) f fd) (T : IslF K mg CI fN) (U : ErrU K mg "UnknownCell" CU) (G : Cal P w K mg base CX0 2 "_lies_within" ["rows", "cell"] (spLies K)) : FnOk P w K mg base (L2.CX P w) 3 f fd ["self", "cell"] (spGet K CI CU) := by
  refine F.ok scGet (fun vs H Q E h => ?_) (fun cdv A outer s H vs Q E hr h => ?_)
  · obtain ⟨a, c, rows, i, j, rfl, _⟩ := h
    rfl
  · obtain ⟨a, c, rows, i, j, rfl, hI, g, hC, k1, k2⟩ := h
    have nd := scGet.nd
    have hr2 : Room 2 _ := hr.mono (by decide)
    refine ⟨_, pss_cons (ps_if (pt_not (pt_val (pe_cal G hr2 pass0 (pa_cons (pe_fld (pv 0) rfl) (pa_cons (pv 1) pa_nil)))))
        (pss_one (ps_raise rfl (takes_of rfl rfl rfl rfl) (pmk_own PySem.F.excBase_ValueError U.q U.g U.kp (raises_own U.r1 U.r2) rfl))) pss_nil)
      (pss_cons (ps_asg (pv 1) (pg_tup rfl (pgs_cons (pg_name (i := 2) nd rfl (.inl rfl)) (pgs_cons (pg_name (i := 3) nd rfl (.inl rfl)) pgs_nil))))
      (pss_one (ps_ret (pe_ix ix_str (pe_ix ix_tup (pe_fld (pv 0) rfl) (pv 2) (fun _ _ => rfl)) (pv 3) (fun _ _ => rfl))))), ?_⟩
    obtain ⟨dx, p, hp, hS⟩ := hI
    refine ⟨_, rfl, a, CI, dx, _, .ref p, rfl, hp, T.cl, T.nR, rfl, ?_⟩
    refine ⟨_, rfl, p, c, rows, i, j, rfl, hS, g.toShp, hC, _, rfl, ?_⟩
    cases e : insd rows i j with
    | false => exact iteT (k2 e)
    | true =>
      refine iteF ?_
      obtain ⟨r, ch, h1, h2, h3, hm, hi, hj⟩ := insd_at g e
      refine ⟨_, rfl, c, _, rfl, hC, rfl, _, _, rfl, _, _, rfl, rfl, ?_⟩
      refine ⟨_, rfl, a, CI, dx, _, .ref p, rfl, hp, T.cl, T.nR, rfl, ?_⟩
      have ei : atI (rows.map vt) i = some (vt r) := by
        have z := atI_nat (xs := rows.map vt) (j := i.toNat) (v := vt r) (by rw [List.getElem?_map, h1]; rfl)
        rwa [Int.toNat_of_nonneg hi] at z
      have ej : atI (tx r).cps.toList j = some ch := by
        have z := atI_nat (xs := (tx r).cps.toList) (j := j.toNat) (v := ch) (by rw [tx_cps]; exact h2)
        rwa [Int.toNat_of_nonneg hj] at z
      refine ⟨_, rfl, p, _, i, _, rfl, rfl, hS, ei, _, rfl, _, j, ch, rfl, rfl, (by rw [tx_len]; exact small_le (g.row r hm)), ej, ?_⟩
      have k := k1 e
      rw [h3] at k
      exact k
theorem scHas : FnScope ["self", "cell"] ["self", "cell"] (defScope (sIslM 8)) := ⟨rfl, rfl, rfl, by decide +kernel, rfl, by decide +kernel, by decide +kernel⟩
theorem ok_has {f : Addr} {fd : FuncData} (F : FnP K "__contains__" "Island.__contains__" (sIslM 8) f fd) (T : IslF K mg CI fN) (G : Cal P w K mg base CX0 2 "_lies_within" ["rows", "cell"] (spLies K)) (gw : ∃ t, mg "WATER" = some (.str (Str.ofString "~") t)) :
    FnOk P w K mg base CX0 3 f fd ["self", "cell"] (spHas K CI) := by
  obtain ⟨t0, gw⟩ := gw
  refine F.ok scHas (fun vs H Q E h => ?_) (fun cdv A outer s H vs Q E hr h => ?_)
  · obtain ⟨a, c, rows, i, j, rfl, _⟩ := h
    rfl
  · obtain ⟨a, c, rows, i, j, rfl, hI, g, hC, k⟩ := h
    have nd := scHas.nd
    have hr2 : Room 2 _ := hr.mono (by decide)
    refine ⟨_, PSs.nox (pss_one (ps_ret (pe_and (pe_cal G hr2 pass0 (pa_cons (pe_fld (pv 0) rfl) (pa_cons (pv 1) pa_nil)))
      (pe_one (pe_cmpR op_ne (pe_ix ix_str (pe_ix ix_tup (pe_fld (pv 0) rfl) (pe_ix ix_tup (pv 1) pe_int (fun _ _ => rfl)) (fun _ _ => rfl)) (pe_ix ix_tup (pv 1) pe_int (fun _ _ => rfl)) (fun _ _ => rfl))
        (pe_glob (v := .str (Str.ofString "~")) rfl gw ⟨_, rfl⟩) (nomark _)))))), ?_⟩
    obtain ⟨dx, p, hp, hS⟩ := hI
    refine ⟨_, rfl, a, CI, dx, _, .ref p, rfl, hp, T.cl, T.nR, rfl, ?_⟩
    refine ⟨_, rfl, p, c, rows, i, j, rfl, hS, g.toShp, hC, _, rfl, ?_⟩
    unfold hasC at k
    cases e : insd rows i j with
    | false =>
      rw [e, Bool.false_and] at k
      exact iteF k
    | true =>
      rw [e, Bool.true_and] at k
      refine iteT ?_
      obtain ⟨r, ch, h1, h2, h3, hm, hi, hj⟩ := insd_at g e
      have ei : atI (rows.map vt) i = some (vt r) := by
        have z := atI_nat (xs := rows.map vt) (j := i.toNat) (v := vt r) (by rw [List.getElem?_map, h1]; rfl)
        rwa [Int.toNat_of_nonneg hi] at z
      have ej : atI (tx r).cps.toList j = some ch := by
        have z := atI_nat (xs := (tx r).cps.toList) (j := j.toNat) (v := ch) (by rw [tx_cps]; exact h2)
        rwa [Int.toNat_of_nonneg hj] at z
      refine ⟨_, rfl, a, CI, dx, _, .ref p, rfl, hp, T.cl, T.nR, rfl, ?_⟩
      refine ⟨_, rfl, c, _, 0, _, rfl, rfl, hC, rfl, p, _, i, _, rfl, rfl, hS, ei, ?_⟩
      refine ⟨_, rfl, c, _, 1, _, rfl, rfl, hC, rfl, _, j, ch, rfl, rfl, (by rw [tx_len]; exact small_le (g.row r hm)), ej, ?_⟩
      rw [h3] at k
      have e2 : (decide (V.str ⟨#[ch]⟩ = V.str (Str.ofString "~"))) = decide (ch = 126) := by
        have z : Str.ofString "~" = (⟨#[126]⟩ : Str) := by decide +kernel
        rw [z]
        apply decide_eq_decide.mpr
        simp
      refine ⟨rfl, ?_⟩
      show Q (.bl (!decide (V.str ⟨#[ch]⟩ = V.str (Str.ofString "~")))) H
      rw [e2]
      exact k
theorem scIEq : FnScope ["self", "other"] ["self", "other"] (defScope (sIslM 10)) := ⟨rfl, rfl, rfl, by decide +kernel, rfl, by decide +kernel, by decide +kernel⟩
theorem ok_ieq {f : Addr} {fd : FuncData} (F : FnP K "__eq__" "Island.__eq__" (sIslM 10) f fd) (T : IslF K mg CI fN) (N : InsF K CI) (gisi : mg "isinstance" = none) : FnOk P w K mg base CX0 1 f fd ["self", "other"] (spIEq K CI) := by
  refine F.ok scIEq (fun vs H Q E h => ?_) (fun cdv A outer s H vs Q E hr h => ?_)
  · obtain ⟨a, b, r1, r2, rfl, _⟩ := h
    rfl
  · obtain ⟨a, b, r1, r2, rfl, ⟨dx, p, hp, hS⟩, ⟨dy, q, hq, hS2⟩, l1, l2, k⟩ := h
    refine ⟨_, PSs.nox (pss_one (ps_ret (pe_and (pe_callB call_isi (by rfl) gisi (by decide +kernel) (pa_cons (pv 1) (pa_cons (pe_glob (v := .ref CI) rfl T.gI rfl) pa_nil)))
      (pe_one (pe_cmpR (op_eqD hr.units) (pe_fld (pv 0) rfl) (pe_fld (pv 1) rfl) (nomark _)))))), ?_⟩
    refine ⟨_, rfl, _, _, _, _, _, rfl, .own CI, .base (.ins hq T.cl N.ha N.hn N.ht N.hm), kit_self, true, rfl, iteT ?_⟩
    refine ⟨_, rfl, a, CI, dx, _, .ref p, rfl, hp, T.cl, T.nR, rfl, ?_⟩
    refine ⟨_, rfl, b, CI, dy, _, .ref q, rfl, hq, T.cl, T.nR, rfl, ?_⟩
    refine ⟨_, _, .tup hS (dpAll_rows r1), .tup hS2 (dpAll_rows r2), shaped_rows l1, shaped_rows l2, ?_⟩
    rw [eqv_rows]
    exact k
theorem scI1 (i : Nat) (h : i = 1 ∨ i = 2 ∨ i = 3) : FnScope ["self"] ["self"] (defScope (sIslM i)) := by
  rcases h with rfl | rfl | rfl <;> exact ⟨rfl, rfl, rfl, by decide +kernel, rfl, by decide +kernel, by decide +kernel⟩
theorem ok_irows {f : Addr} {fd : FuncData} (F : FnP K "rows" "Island.rows" (sIslM 1) f fd) (T : IslF K mg CI fN) : FnOk P w K mg base CX0 1 f fd ["self"] (spIRows K CI) := by
  refine F.ok (scI1 1 (.inl rfl)) (fun vs H Q E h => ?_) (fun cdv A outer s H vs Q E hr h => ?_)
  · obtain ⟨a, dx, p, rfl, _⟩ := h
    rfl
  · obtain ⟨a, dx, p, rfl, hp, k⟩ := h
    exact ⟨_, PSs.nox (pss_one (ps_ret (pe_fld (pv 0) rfl))), _, rfl, a, CI, dx, _, .ref p, rfl, hp, T.cl, T.nR, rfl, k⟩
theorem ok_iwid {f : Addr} {fd : FuncData} (F : FnP K "width" "Island.width" (sIslM 3) f fd) (T : IslF K mg CI fN) (glen : mg "len" = none) : FnOk P w K mg base CX0 1 f fd ["self"] (spIWid K CI) := by
  refine F.ok (scI1 3 (.inr (.inr rfl))) (fun vs H Q E h => ?_) (fun cdv A outer s H vs Q E hr h => ?_)
  · obtain ⟨a, rows, rfl, _⟩ := h
    rfl
  · obtain ⟨a, rows, rfl, ⟨dx, p, hp, hS⟩, sh, k⟩ := h
    obtain ⟨r0, rs, rfl⟩ : ∃ r0 rs, rows = r0 :: rs := by
      cases rows with
      | nil => exact absurd rfl sh.ne
      | cons r0 rs => exact ⟨r0, rs, rfl⟩
    have hr0 : (tx r0).length ≤ sizeLine := by rw [tx_len]; exact small_le (sh.row r0 (List.mem_cons_self ..))
    refine ⟨_, PSs.nox (pss_one (ps_ret (pe_callB call_len_str (by rfl) glen PySem.boot_len (pa_cons (pe_ix ix_tup (pe_fld (pv 0) rfl) pe_int (fun _ _ => rfl)) pa_nil)))), ?_⟩
    refine ⟨_, rfl, a, CI, dx, _, .ref p, rfl, hp, T.cl, T.nR, rfl, p, _, 0, _, rfl, rfl, hS, at0, _, rfl, hr0, ?_⟩
    rw [tx_len]
    exact k
end
end Om


namespace Om
open PySem PySem.Spec PyProof.Rows L2
/-! ### Dp stays -/
theorem Same.lst {K : PySem.W.Frag} {H H' : Hp} {a : Addr} {xs : List V} (e : Same H H') (h : SqL K H a xs) : SqL K H' a xs := by
  rcases h with (h | ⟨o, h⟩) | h
  · exact .inl (.inl (e _ _ h))
  · exact .inl (.inr ⟨o, e _ _ h⟩)
  · exact .inr h
theorem dp_mono {K : PySem.W.Frag} {H H' : Hp} (hS : ∀ a xs, SqT K H a xs → SqT K H' a xs) (hL : ∀ a xs, SqL K H a xs → SqL K H' a xs) {v : V} {d : PyData} (h : Dp K H v d) : Dp K H' v d :=
  Dp.rec (motive_1 := fun v d _ => Dp K H' v d) (motive_2 := fun vs ds _ => DpAll K H' vs ds) .non .bl .int .str (fun s _ ih => .lst (hL _ _ s) ih) (fun s _ ih => .tup (hS _ _ s) ih) .nil (fun _ _ i1 i2 => .cons i1 i2) h
theorem dpAll_mono {K : PySem.W.Frag} {H H' : Hp} (hS : ∀ a xs, SqT K H a xs → SqT K H' a xs) (hL : ∀ a xs, SqL K H a xs → SqL K H' a xs) {vs : List V} {ds : List PyData} (h : DpAll K H vs ds) : DpAll K H' vs ds :=
  DpAll.rec (motive_1 := fun v d _ => Dp K H' v d) (motive_2 := fun vs ds _ => DpAll K H' vs ds) .non .bl .int .str (fun s _ ih => .lst (hL _ _ s) ih) (fun s _ ih => .tup (hS _ _ s) ih) .nil (fun _ _ i1 i2 => .cons i1 i2) h
theorem Same.dp {K : PySem.W.Frag} {H H' : Hp} {v : V} {d : PyData} (e : Same H H') (h : Dp K H v d) : Dp K H' v d := dp_mono (fun _ _ => Same.tup e) (fun _ _ => Same.lst e) h
theorem Same.dpAll {K : PySem.W.Frag} {H H' : Hp} {v : List V} {d : List PyData} (e : Same H H') (h : DpAll K H v d) : DpAll K H' v d := dpAll_mono (fun _ _ => Same.tup e) (fun _ _ => Same.lst e) h
theorem dpAll_app {K : PySem.W.Frag} {H : Hp} : ∀ {a : List V} {da : List PyData} {b : List V} {db : List PyData}, DpAll K H a da → DpAll K H b db → DpAll K H (a ++ b) (da ++ db)
  | [], [], _, _, .nil, h => h
  | _ :: _, _ :: _, _, _, .cons x y, h => .cons x (dpAll_app y h)
theorem dpAll_len {K : PySem.W.Frag} {H : Hp} : ∀ {a : List V} {da : List PyData}, DpAll K H a da → a.length = da.length
  | [], [], .nil => rfl
  | _ :: _, _ :: _, .cons _ y => by rw [List.length_cons, List.length_cons, dpAll_len y]
/-! ### pairs of numbers in a list that grows at D -/
def cdp (c : Nat × Nat) : PyData := .tuple [.int (c.1 : Nat), .int (c.2 : Nat)]
theorem SqT.other {K : PySem.W.Frag} {H : Hp} {a D : Addr} {xs acc : List V} {o : HO} (h : SqT K H a xs) (hD : H D = some (.lst acc)) : SqT K (upd H D o) a xs := by
  rcases h with (h | ⟨ob, h⟩) | h
  · have n : a ≠ D := fun e => by rw [e, hD] at h; cases h
    exact .inl (.inl (by rw [upd_ne n]; exact h))
  · have n : a ≠ D := fun e => by rw [e, hD] at h; cases h
    exact .inl (.inr ⟨ob, by rw [upd_ne n]; exact h⟩)
  · exact .inr h
theorem pairs_other {K : PySem.W.Frag} {H : Hp} {D : Addr} {acc : List V} {o : HO} (hD : H D = some (.lst acc)) : ∀ {xs : List V} {cs : List (Nat × Nat)}, DpAll K H xs (cs.map cdp) → DpAll K (upd H D o) xs (cs.map cdp)
  | [], [], .nil => .nil
  | _ :: _, _ :: _, .cons h t => by
    refine .cons ?_ (pairs_other hD t)
    unfold cdp at h ⊢
    cases h with
    | tup s al =>
      refine .tup (SqT.other s hD) ?_
      cases al with
      | cons h1 t1 =>
        cases h1
        cases t1 with
        | cons h2 t2 =>
          cases h2
          cases t2
          exact .cons (.int _) (.cons (.int _) .nil)
/-! ### the cells of land -/
def rowCells (r : List Nat) (i n : Nat) : List (Nat × Nat) := ((List.range n).filter fun j => !decide (r.getD j 0 = 126)).map fun j => (i, j)
def cellsTo (rows : List (List Nat)) (n : Nat) : List (Nat × Nat) := (List.range n).flatMap fun i => rowCells (rows.getD i []) i (rows.getD i []).length
def cellsOf (rows : List (List Nat)) : List (Nat × Nat) := cellsTo rows rows.length
theorem rowCells_succ (r : List Nat) (i n : Nat) : rowCells r i (n + 1) = if r.getD n 0 = 126 then rowCells r i n else rowCells r i n ++ [(i, n)] := by
  unfold rowCells
  rw [List.range_succ, List.filter_append, List.map_append]
  by_cases h : r.getD n 0 = 126
  · rw [if_pos h]
    simp only [List.filter_cons, h, decide_true, Bool.not_true, Bool.false_eq_true, if_false, List.filter_nil, List.map_nil, List.append_nil]
  · rw [if_neg h]
    have e : (!decide (r.getD n 0 = 126)) = true := by rw [decide_eq_false h]; rfl
    simp only [List.filter_cons, e, if_true, List.filter_nil, List.map_cons, List.map_nil]
theorem cellsTo_succ (rows : List (List Nat)) (n : Nat) : cellsTo rows (n + 1) = cellsTo rows n ++ rowCells (rows.getD n []) n (rows.getD n []).length := by
  unfold cellsTo
  rw [List.range_succ, List.flatMap_append]
  simp
theorem rowCells_len (r : List Nat) (i n : Nat) : (rowCells r i n).length ≤ n := by
  unfold rowCells
  rw [List.length_map]
  exact Nat.le_trans (List.length_filter_le ..) (by rw [List.length_range]; exact Nat.le_refl _)
theorem cellsTo_len {rows : List (List Nat)} {w : Nat} (hw : ∀ r ∈ rows, r.length ≤ w) : ∀ n, n ≤ rows.length → (cellsTo rows n).length ≤ n * w
  | 0, _ => by simp [cellsTo]
  | n + 1, h => by
    rw [cellsTo_succ, List.length_append]
    have h1 := cellsTo_len hw n (by omega)
    have hm : rows.getD n [] ∈ rows := by
      rw [List.getD_eq_getElem?_getD, List.getElem?_eq_getElem (by omega), Option.getD_some]
      exact List.getElem_mem _
    have h2 := rowCells_len (rows.getD n []) n (rows.getD n []).length
    have h3 := hw _ hm
    rw [Nat.succ_mul]
    omega
theorem getD_at {rows : List (List Nat)} {i : Nat} {r : List Nat} (h : rows[i]? = some r) : rows.getD i [] = r := by
  rw [List.getD_eq_getElem?_getD, h, Option.getD_some]
/-- an island as it may be -/
structure Vd (rows : List (List Nat)) : Prop extends Good2 rows where
  hgt : rows.length ≤ 12
  wid : ∀ r ∈ rows, 1 ≤ r.length ∧ r.length ≤ 12
theorem RowsOk.vd {m : Nat} {rows : List (List Nat)} (h : RowsOk m rows) (hm : m ≤ 12) : Vd rows := by
  obtain ⟨h1, h2, wd, w1, w2, hr⟩ := h
  have g := RowsOk.good ⟨h1, h2, wd, w1, w2, hr⟩ hm
  refine ⟨⟨⟨g.le, g.lens, fun e => by rw [e] at h1; simp at h1⟩, fun r hr' => ?_, g.lo⟩, by omega, fun r hr' => by have := (hr r hr').1; omega⟩
  cases rows with
  | nil => cases hr'
  | cons r0 rs =>
    have e1 := (hr r hr').1
    have e2 := (hr r0 (List.mem_cons_self ..)).1
    show r.length = r0.length
    omega
def spICells (K : PySem.W.Frag) (CI : Addr) : Sp := fun vs H Q _ => ∃ (a : Addr) (rows : List (List Nat)), vs = [.ref a] ∧ Isl K CI H a rows ∧ Vd rows ∧ ∀ v H', Same H H' → Dp K H' v (.list ((cellsOf rows).map cdp)) → Q v H'
end Om


namespace Om
open PySem PySem.Spec PyProof.Rows L2
/-! ### _law_alike of two readings of the same data -/
/-- none, bools, ints, texts, tuples and lists of such, some deep -/
def okD : Nat → PyData → Bool
  | 0, _ => false
  | _ + 1, .none => true
  | _ + 1, .bool _ => true
  | _ + 1, .int _ => true
  | _ + 1, .str x => PyData.strOk x
  | n + 1, .list ds => decide (ds.length ≤ 10000) && ds.all (okD n)
  | n + 1, .tuple ds => decide (ds.length ≤ 10000) && ds.all (okD n)
  | _ + 1, .dict _ => false
theorem dpAll_at {K : PySem.W.Frag} {H : Hp} : ∀ {xs : List V} {ds : List PyData}, DpAll K H xs ds → ∀ {i : Nat} {e : PyData}, ds[i]? = some e → ∃ v, xs[i]? = some v ∧ Dp K H v e
  | [], [], .nil, i, e, h => by simp at h
  | v :: _, d :: _, .cons h1 t, 0, e, h => by
    have h : some d = some e := h
    cases h
    exact ⟨v, rfl, h1⟩
  | v :: _, d :: _, .cons h1 t, i + 1, e, h => by
    obtain ⟨u, h2, h3⟩ := dpAll_at t (i := i) (e := e) h
    exact ⟨u, h2, h3⟩
def tyD : PyData → String
  | .none => "NoneType"
  | .bool _ => "bool"
  | .int _ => "int"
  | .str _ => "str"
  | .list _ => "list"
  | .tuple _ => "tuple"
  | .dict _ => "dict"
theorem sqL_ty {K : PySem.W.Frag} {H : Hp} {a : Addr} {xs : List V} (h : SqL K H a xs) : TyX K H (.ref a) (.type "list") := by
  rcases h with (h | ⟨o, h⟩) | h
  · exact .base (.lst h)
  · exact .base (.frz h)
  · obtain ⟨o, its, n, e1, e2, _⟩ := h
    exact .kList e1 e2
theorem sqT_ty {K : PySem.W.Frag} {H : Hp} {a : Addr} {xs : List V} (h : SqT K H a xs) : TyX K H (.ref a) (.type "tuple") := by
  rcases h with (h | ⟨o, h⟩) | h
  · exact .base (.tup h)
  · exact .fTuple h
  · obtain ⟨o, its, n, e1, e2, _⟩ := h
    exact .kTuple e1 e2
theorem dp_ty {K : PySem.W.Frag} {H : Hp} {v : V} {d : PyData} (h : Dp K H v d) : TyX K H v (.type (tyD d)) := by
  cases h with
  | non => exact .base .non
  | bl b => exact .base (.bl b)
  | int i => exact .base (.int i)
  | str x => exact .base (.str x)
  | lst s _ => exact sqL_ty s
  | tup s _ => exact sqT_ty s
end Om

namespace Om
open PySem PySem.Spec PyProof.Rows L2 LamX
/-! ### the heap of numbers that a law draws from -/
structure Bx (H : Hp) (b l : Addr) : Prop where
  ex : ∃ (ns : List Int) (z k : Int), H b = some (.lst [.int z, .ref l, .int k]) ∧ H l = some (.lst (ns.map V.int)) ∧ ns.length ≤ 63
theorem Bx.ne {H : Hp} {b l : Addr} (B : Bx H b l) : b ≠ l := by
  obtain ⟨ns, z, k, h1, h2, _⟩ := B.ex
  refine ne_of h1 h2 fun e => ?_
  have e2 : [V.int z, V.ref l, V.int k] = ns.map V.int := HO.lst.inj e
  cases ns with
  | nil => cases e2
  | cons n r =>
    cases r with
    | nil => cases e2
    | cons m q =>
      injection e2 with _ e3
      injection e3 with e4 _
      cases e4
theorem Bx.same {H H' : Hp} {b l : Addr} (B : Bx H b l) (s : Same H H') : Bx H' b l := by
  obtain ⟨ns, z, k, h1, h2, h3⟩ := B.ex
  exact ⟨ns, z, k, s _ _ h1, s _ _ h2, h3⟩
theorem Bx.new {H : Hp} {b l D : Addr} (B : Bx H b l) (hD : H D = none) : D ≠ b ∧ D ≠ l := by
  obtain ⟨_, _, _, x1, x2, _⟩ := B.ex
  exact ⟨(fun e => by rw [← e, hD] at x1; cases x1), (fun e => by rw [← e, hD] at x2; cases x2)⟩
def spMix (K : PySem.W.Frag) : Sp := fun vs H Q _ => ∃ (a : Addr) (ns : List Int) (sd : Int), vs = [.ref a, .int sd] ∧ SqL K H a (ns.map V.int) ∧ ns.length ≤ 63 ∧
  ∀ (b l : Addr) (H' : Hp), H b = none → H l = none → Same H H' → Bx H' b l → Q (.ref b) H'
def spNext : Sp := fun vs H Q _ => ∃ (b l : Addr) (m : Int), vs = [.ref b, .int m] ∧ Bx H b l ∧ 0 < m ∧ m ≤ 1000000 ∧
  ∀ (n : Int) (H' : Hp), 0 ≤ n → n < m → Bx H' b l → Kp b l H H' → Q (.int n) H'
abbrev sMix : Stmt := top 69
abbrev sNext : Stmt := top 70
section
variable {P : Program} {w : World} {K : PySem.W.Frag} {mg : Str → Option Value} {base : Heap}
abbrev nMix : List Str := ["_law_script", "_law_seed", "_law_state", "_law_cell"]
theorem scMix : FnScope nMix ["_law_script", "_law_seed"] (defScope sMix) := ⟨rfl, rfl, rfl, by decide +kernel, rfl, by decide +kernel, by decide +kernel⟩
theorem ok_mix {f : Addr} {fd : FuncData} (F : FnP K "_law_mix" "_law_mix" sMix f fd) (gint : mg "int" = none) (glist : mg "list" = none) : FnOk P w K mg base CX0 1 f fd ["_law_script", "_law_seed"] (spMix K) := by
  refine F.ok scMix (fun vs H Q E h => ?_) (fun cdv A outer s H vs Q E hr h => ?_)
  · obtain ⟨a, ns, sd, rfl, _⟩ := h
    rfl
  · obtain ⟨a, ns, sd, rfl, hS, hlen, k⟩ := h
    have nd := scMix.nd
    refine ⟨_, PSs.nox (pss_cons (ps_set (i := 2) nd rfl (.inl rfl) (pv 1))
      (pss_cons (ps_for PassesOwn.never rfl (pi_list (pv 0)) (pg_name (i := 3) nd rfl (.inl rfl))
        (pss_one (ps_set (i := 2) nd rfl (.inl rfl) (pe_op op_modN (pe_callTy call_int1 (by rfl) gint boot_int (pa_cons (pe_op op_add (pe_op op_add (pe_op op_mul (pv 2) pe_int) (pe_op op_modN (pe_callTy call_int1 (by rfl) gint boot_int (pa_cons (pv 3) pa_nil)) pe_int)) pe_int) pa_nil)) pe_int))))
      (pss_one (ps_ret (pe_lst (pa_cons (pv 2) (pa_cons (pe_callTy call_list_of (by rfl) glist (by decide +kernel) (pa_cons (pv 0) pa_nil)) (pa_cons pe_int pa_nil)))))))), ?_⟩
    refine ⟨_, rfl, _, rfl, a, rfl, ⟨_, hS⟩, for_list (K := K) (a := a) (xs := ns.map V.int) (fun i σ H2 => ∃ (z : Int) (v : Option V), σ = [some (.ref a), some (.int sd), some (.int z), v] ∧ H2 = H)
      ⟨sd, none, rfl, rfl⟩ (fun i σ H2 _ ⟨_, _, _, e⟩ => by rw [e]; exact hS) ?_ ?_⟩
    · rintro i y σ H2 hi ⟨z, v, rfl, rfl⟩
      obtain ⟨n, rfl⟩ : ∃ n, y = V.int n := by
        rw [List.getElem?_map] at hi
        cases e : ns[i]? with
        | none => rw [e] at hi; cases hi
        | some n => rw [e] at hi; exact ⟨n, (Option.some.inj hi).symm⟩
      refine ⟨_, rfl, _, _, rfl, rfl, .inr ⟨by decide, by decide⟩, _, rfl, .inl ⟨_, rfl, _, _, rfl, rfl, (by show (2147483629 : Int) ≠ 0; decide), _, _, rfl, rfl, _, _, rfl, rfl, .inl ⟨_, rfl, _, _, rfl, rfl, (by show (2147483647 : Int) ≠ 0; decide), ?_⟩⟩⟩
      exact ⟨_, _, rfl, rfl⟩
    · rintro σ H2 ⟨z, v, rfl, rfl⟩
      refine ⟨_, rfl, _, rfl, a, _, rfl, .inl hS, fun l hl => ?_⟩
      refine ⟨by show 3 ≤ sizeLine; decide, fun p hp => ?_⟩
      have npl : p ≠ l := fun e => by rw [e, upd_same] at hp; cases hp
      have hp0 : H2 p = none := by rw [upd_ne npl] at hp; exact hp
      refine k p l _ hp0 hl (Same.new (Same.new (Same.refl _) hl) hp) ⟨ns, _, _, upd_same, ?_, hlen⟩
      rw [upd_ne npl.symm, upd_same]
abbrev nNext : List Str := ["_law_h", "_law_limit", "_law_cell"]
theorem scNext : FnScope nNext ["_law_h", "_law_limit"] (defScope sNext) := ⟨rfl, rfl, rfl, by decide +kernel, rfl, by decide +kernel, by decide +kernel⟩
theorem ok_next {f : Addr} {fd : FuncData} (F : FnP K "_law_next" "_law_next" sNext f fd) (gint : mg "int" = none) (gmax : mg "max" = none) (glen : mg "len" = none) : FnOk P w K mg base CX0 1 f fd ["_law_h", "_law_limit"] spNext := by
  refine F.ok scNext (fun vs H Q E h => ?_) (fun cdv A outer s H vs Q E hr h => ?_)
  · obtain ⟨b, l, m, rfl, _⟩ := h
    rfl
  · obtain ⟨b, l, m, rfl, B, hm0, hm1, k⟩ := h
    have nd := scNext.nd
    have nbl := B.ne
    obtain ⟨ns, z, kc, hb, hl, hlen⟩ := id B.ex
    refine ⟨_, PSs.nox (pss_cons (ps_set (i := 2) nd rfl (.inl rfl) (pe_ix ix_list (pe_op op_cat (pe_ix ix_list (pv 0) pe_int (fun _ _ => rfl)) (pe_lst (pa_cons pe_int pa_nil))) (pe_op op_mod (pe_callTy call_int1 (by rfl) gint boot_int (pa_cons (pe_ix ix_list (pv 0) pe_int (fun _ _ => rfl)) pa_nil)) (pe_callB (call_max2 rfl) (by rfl) gmax (by decide +kernel) (pa_cons pe_int (pa_cons (pe_callB call_len_seq (by rfl) glen PySem.boot_len (pa_cons (pe_ix ix_list (pv 0) pe_int (fun _ _ => rfl)) pa_nil)) pa_nil)))) (fun _ _ => rfl)))
      (pss_cons (ps_if (pt_cmpR op_ge (pv 2) (pe_op op_pow pe_int pe_int) (nomark _))
          (pss_cons (ps_asg (pe_op op_fdivN (pv 2) (pv 1)) (pg_sub (pe_ix ix_list (pv 0) pe_int (fun _ _ => rfl)) (pe_op op_mod (pe_callTy call_int1 (by rfl) gint boot_int (pa_cons (pe_ix ix_list (pv 0) pe_int (fun _ _ => rfl)) pa_nil)) (pe_callB call_len_seq (by rfl) glen PySem.boot_len (pa_cons (pe_ix ix_list (pv 0) pe_int (fun _ _ => rfl)) pa_nil))) set_list))
          (pss_one (ps_ret (pe_op op_modN (pe_callTy call_int1 (by rfl) gint boot_int (pa_cons (pv 2) pa_nil)) (pv 1))))) pss_nil)
      (pss_cons (ps_asg (pe_op op_modN (pe_callTy call_int1 (by rfl) gint boot_int (pa_cons (pe_op op_add (pe_op op_add (pe_op op_mul (pe_ix ix_list (pv 0) pe_int (fun _ _ => rfl)) pe_int) (pe_op op_mul (pv 2) pe_int)) pe_int) pa_nil)) pe_int) (pg_sub (pv 0) pe_int set_list))
      (pss_cons (ps_asg (pe_op op_add (pe_ix ix_list (pv 0) pe_int (fun _ _ => rfl)) pe_int) (pg_sub (pv 0) pe_int set_list))
      (pss_one (ps_ret (pe_op op_modN (pe_callTy call_int1 (by rfl) gint boot_int (pa_cons (pe_op op_fdivN (pe_ix ix_list (pv 0) pe_int (fun _ _ => rfl)) pe_int) pa_nil)) (pv 1)))))))), ?_⟩
    refine ⟨_, rfl, b, _, 1, _, rfl, rfl, .inl (.inl hb), rfl, by show 1 ≤ sizeLine; decide, fun e1 he1 => ?_⟩
    have s1 := Same.new (Same.refl H) he1 (o := .lst [.int 0])
    refine ⟨l, e1, _, _, rfl, rfl, s1 _ _ hl, upd_same, Nat.le_trans (show _ ≤ 64 by rw [List.length_map]; exact Nat.succ_le_succ hlen) (by decide), fun e2 he2 => ?_⟩
    have s2 := Same.new (Same.refl _) he2 (o := .lst (ns.map V.int ++ [.int 0]))
    have s12 := s1.trans s2
    have hb2 := s12 _ _ hb
    have hl2 := s12 _ _ hl
    have hc2 : (upd (upd H e1 (.lst [.int 0])) e2 (.lst (ns.map V.int ++ [.int 0]))) e2 = some (.lst ((ns ++ [0]).map V.int)) := by
      rw [upd_same, List.map_append]
      rfl
    have K2 : Kp b l H _ := Kp.of s12
    generalize upd (upd H e1 (.lst [.int 0])) e2 (.lst (ns.map V.int ++ [.int 0])) = H2 at hb2 hl2 hc2 K2 ⊢
    clear s1 s2 s12
    have hD : ∃ D : Int, (if ((ns.map V.int).length : Int) > 1 then ((ns.map V.int).length : Int) else 1) = D ∧ 0 < D ∧ D ≤ (ns.length : Int) + 1 ∧ (ns ≠ [] → D = (ns.length : Int)) := by
      rw [List.length_map]
      refine ⟨_, rfl, ?_, ?_, ?_⟩
      · split <;> omega
      · split <;> omega
      · intro hne
        have : 1 ≤ ns.length := List.length_pos_iff.mpr hne
        split <;> omega
    obtain ⟨D, eD, D0, D1, D2⟩ := hD
    obtain ⟨v, hv1, hv2⟩ := atI_of (xs := (ns ++ [0]).map V.int) (n := kc % D) (Int.emod_nonneg _ (by omega)) (by
      have := Int.emod_lt_of_pos kc D0
      rw [List.length_map, List.length_append, List.length_singleton]
      omega)
    obtain ⟨cv, hcv, rfl⟩ := List.mem_map.mp hv2
    refine ⟨_, rfl, b, _, 2, _, rfl, rfl, .inl (.inl hb2), rfl, .inl ⟨_, rfl, _, rfl, b, _, 1, _, rfl, rfl, .inl (.inl hb2), rfl, l, _, rfl, .inl (.inl (.inl hl2)), _, _, rfl, ?_⟩⟩
    rw [eD]
    refine ⟨_, _, rfl, rfl, D0, e2, _, _, _, rfl, rfl, .inl (.inl hc2), hv1, ?_⟩
    refine ⟨_, rfl, _, _, rfl, rfl, ?_, _, _, rfl, rfl, _, rfl, ?_⟩
    · exact ⟨by decide, by decide⟩
    refine ite2 (fun hz => ?_) (fun hz => ?_)
    · have hge : (10 ^ 18 : Int) ≤ cv := of_decide_eq_true hz
      have hne : ns ≠ [] := fun e => by
        subst e
        simp at hcv
        omega
      have eD2 := D2 hne
      have l1 : 1 ≤ ns.length := List.length_pos_iff.mpr hne
      have i0 := Int.emod_nonneg kc (b := (ns.length : Int)) (by omega)
      have i1 := Int.emod_lt_of_pos kc (b := (ns.length : Int)) (by omega)
      have hix : ixN (ns.map V.int).length (kc % (ns.length : Int)) = some (kc % (ns.length : Int)).toNat := by
        unfold ixN
        rw [if_pos i0, if_pos (by rw [List.length_map]; exact i1)]
      refine ⟨_, rfl, _, rfl, _, _, rfl, rfl, ⟨(by show m ≠ 0; omega), (by show m.natAbs < 1073741824; omega)⟩, ?_⟩
      refine ⟨_, rfl, b, _, 1, _, rfl, rfl, .inl (.inl hb2), rfl, _, rfl, b, _, 2, _, rfl, rfl, .inl (.inl hb2), rfl, .inl ⟨_, rfl, _, rfl, b, _, 1, _, rfl, rfl, .inl (.inl hb2), rfl, l, _, rfl, .inl (.inl (.inl hl2)), ?_⟩⟩
      rw [List.length_map]
      refine ⟨_, _, rfl, rfl, (by show (0 : Int) < (ns.length : Int); omega), l, _, _, _, rfl, rfl, hl2, hix, ?_⟩
      refine ⟨_, rfl, .inl ⟨_, rfl, _, rfl, _, _, rfl, rfl, (by show m ≠ 0; omega), ?_⟩⟩
      refine k _ _ (fmod_pos hm0).1 (fmod_pos hm0).2 ⟨⟨ns.set (kc % (ns.length : Int)).toNat (cv.fdiv m), z, kc, ?_, ?_, ?_⟩⟩ (Kp.upd2 K2)
      · rw [upd_ne nbl]
        exact hb2
      · rw [upd_same, List.map_set]
      · rw [List.length_set]
        exact hlen
    · refine ⟨_, rfl, b, _, 0, _, rfl, rfl, .inl (.inl hb2), rfl, _, _, rfl, rfl, .inr ⟨by decide, by decide⟩, _, rfl, _, _, rfl, rfl, .inr ⟨by decide, by decide⟩, _, _, rfl, rfl, _, _, rfl, rfl, .inl ⟨_, rfl, _, _, rfl, rfl, (by show (2147483647 : Int) ≠ 0; decide), ?_⟩⟩
      refine ⟨_, rfl, b, _, 0, 0, rfl, rfl, hb2, rfl, ?_⟩
      refine ⟨_, rfl, b, _, 2, _, rfl, rfl, .inl (.inl upd_same), rfl, _, _, rfl, rfl, _, rfl, b, _, 2, 2, rfl, rfl, upd_same, rfl, ?_⟩
      refine ⟨_, rfl, b, _, 0, _, rfl, rfl, .inl (.inl upd_same), rfl, _, _, rfl, rfl, ⟨by decide, by decide⟩, .inl ⟨_, rfl, _, rfl, _, _, rfl, rfl, (by show m ≠ 0; omega), ?_⟩⟩
      refine k _ _ (fmod_pos hm0).1 (fmod_pos hm0).2 ⟨⟨ns, _, _, upd_same, ?_, hlen⟩⟩ (Kp.upd1 (Kp.upd1 K2))
      rw [upd_ne nbl.symm, upd_ne nbl.symm]
      exact hl2
end
end Om

namespace Om
open PySem PySem.Spec PyProof.Rows L2 LamX
/-! ### data without lists stay when the numbers are drawn -/
mutual
def noL : PyData → Bool
  | .list _ => false
  | .tuple ds => noLs ds
  | .dict _ => false
  | .none => true
  | .bool _ => true
  | .int _ => true
  | .str _ => true
def noLs : List PyData → Bool
  | [] => true
  | d :: r => noL d && noLs r
end
theorem SqT.kp {K : PySem.W.Frag} {H H' : Hp} {b l a : Addr} {xs : List V} (B : Bx H b l) (k : Kp b l H H') (h : SqT K H a xs) : SqT K H' a xs := by
  obtain ⟨ns, z, _, h1, h2, _⟩ := B.ex
  rcases h with (h | ⟨o, h⟩) | h
  · exact .inl (.inl (k _ _ h (ne_of h h1 fun e => by cases e) (ne_of h h2 fun e => by cases e)))
  · exact .inl (.inr ⟨o, k _ _ h (ne_of h h1 fun e => by cases e) (ne_of h h2 fun e => by cases e)⟩)
  · exact .inr h
theorem dp_noL {K : PySem.W.Frag} {H H' : Hp} {v : V} {d : PyData} (hS : ∀ a xs, SqT K H a xs → SqT K H' a xs) (hn : noL d = true) (h : Dp K H v d) : Dp K H' v d :=
  Dp.rec (motive_1 := fun v d _ => noL d = true → Dp K H' v d) (motive_2 := fun vs ds _ => noLs ds = true → DpAll K H' vs ds) (fun _ => .non) (fun b _ => .bl b) (fun i _ => .int i) (fun x _ => .str x)
    (fun _ _ _ hn => by simp [noL] at hn) (fun s _ ih hn => .tup (hS _ _ s) (ih (by simpa [noL] using hn))) (fun _ => .nil) (fun _ _ i1 i2 hn => by
      rw [noLs, Bool.and_eq_true] at hn
      exact .cons (i1 hn.1) (i2 hn.2)) h hn
theorem dpAll_noL {K : PySem.W.Frag} {H H' : Hp} : ∀ {vs : List V} {ds : List PyData} (hS : ∀ a xs, SqT K H a xs → SqT K H' a xs) (hn : noLs ds = true) (h : DpAll K H vs ds), DpAll K H' vs ds
  | [], [], _, _, .nil => .nil
  | _ :: _, _ :: _, hS, hn, .cons h t => by
    rw [noLs, Bool.and_eq_true] at hn
    exact .cons (dp_noL hS hn.1 h) (dpAll_noL hS hn.2 t)
theorem SqT.updL {K : PySem.W.Frag} {H : Hp} {D a : Addr} {xs ys zs : List V} (hD : H D = some (.lst ys)) (h : SqT K H a xs) : SqT K (upd H D (.lst zs)) a xs := by
  rcases h with (h | ⟨o, h⟩) | h
  · exact .inl (.inl (by rw [upd_ne (ne_of h hD fun e => by cases e)]; exact h))
  · exact .inl (.inr ⟨o, by rw [upd_ne (ne_of h hD fun e => by cases e)]; exact h⟩)
  · exact .inr h
theorem Bx.updL {H : Hp} {b l D : Addr} {ys : List V} (B : Bx H b l) (nb : D ≠ b) (nl : D ≠ l) : Bx (upd H D (.lst ys)) b l := by
  obtain ⟨u1, u2, u3, u4, u5, u6⟩ := B.ex
  exact ⟨u1, u2, u3, by rw [upd_ne nb.symm]; exact u4, by rw [upd_ne nl.symm]; exact u5, u6⟩
theorem Kp.updL {H H0 : Hp} {b l D : Addr} {ys : List V} (k : Kp b l H0 H) (hD : H0 D = none) : Kp b l H0 (upd H D (.lst ys)) := by
  intro x o hx n1 n2
  rw [upd_ne (ne_of_none hx hD)]
  exact k x o hx n1 n2
theorem Kp.ins {b l a C dx : Addr} {H H' : Hp} {fs : List (Str × V)} (k : Kp b l H H') (B : Bx H b l) (h : H a = some (.ins C dx fs)) : H' a = some (.ins C dx fs) := by
  obtain ⟨ns, z, _, h1, h2, _⟩ := id B.ex
  exact k _ _ h (ne_of h h1 fun e => by cases e) (ne_of h h2 fun e => by cases e)
theorem Isl.kp {K : PySem.W.Frag} {H H' : Hp} {CI a b l : Addr} {rows : List (List Nat)} (B : Bx H b l) (k : Kp b l H H') (h : Isl K CI H a rows) : Isl K CI H' a rows := by
  obtain ⟨dx, p, hp, hS⟩ := h
  exact ⟨dx, p, k.ins B hp, SqT.kp B k hS⟩
theorem noL_cells : ∀ cs : List (Nat × Nat), noLs (cs.map cdp) = true
  | [] => rfl
  | c :: r => by
    have ih := noL_cells r
    simp only [List.map_cons, noLs, cdp, noL, ih, Bool.and_self]
/-! ### _law_alike of two readings of the same data -/
theorem ixsK {X : Cx} {K : PySem.W.Frag} (hK : X.K = K) : IxR X (rIx K) := by
  subst hK
  exact ix_seq
theorem pss_no {X : Cx} {st : List Stmt} : PSs X st (fun _ _ _ => False) := ⟨fun _ _ _ _ _ _ h => False.elim h⟩
abbrev sAlike : Stmt := top 71
def spAlike (K : PySem.W.Frag) (n : Nat) : Sp := fun vs H Q _ => ∃ (x y : V) (d : PyData), vs = [x, y] ∧ Dp K H x d ∧ Dp K H y d ∧ okD n d = true ∧ ∀ H', Same H H' → Q (.bl true) H'
abbrev nAlike : List Str := ["_law_found", "_law_due", "_law_k"]
theorem scAlike : FnScope nAlike ["_law_found", "_law_due"] (defScope sAlike) := ⟨rfl, rfl, rfl, by decide +kernel, rfl, by decide +kernel, by decide +kernel⟩
def asgExpr (s : Stmt) : Expr := match s with
  | .Assign _ e _ => e
  | _ => .Constant .none 0 ⟨0, 0, 0, 0⟩
def noS : Stmt := .Pass ⟨0, 0, 0, 0⟩
def inIf (s : Stmt) (i : Nat) : Stmt := match s with
  | .If _ b _ _ => b.getD i noS
  | _ => noS
def inFor (s : Stmt) (i : Nat) : Stmt := match s with
  | .For _ _ b _ _ => b.getD i noS
  | _ => noS
def cmpL (e : Expr) : Expr := match e with
  | .Compare a _ _ _ => a
  | _ => .Constant .none 0 ⟨0, 0, 0, 0⟩
def alLc : Expr := cmpL (retExpr (inIf ((defBody sAlike).getD 1 noS) 2))
theorem blkAl : BlkOk nAlike (defScope sAlike) (lcScope alLc) [("_law_k", 2)] := blkOk_by (by decide +kernel)
theorem kit2 {K : PySem.W.Frag} {a : String} {r1 r2 : Bool} (h1 : kitB a "tuple" = some r1) (h2 : kitB a "list" = some r2) : PySem.W.kitAny K (.type a) [.type "tuple", .type "list"] = some (r1 || r2) := by
  have k1 : PySem.W.kitOne K (.type a) (.type "tuple") = some r1 := kit_ty h1
  have k2 : PySem.W.kitOne K (.type a) (.type "list") = some r2 := kit_ty h2
  refine kitAny_cons k1 (fun e => ?_) (fun e => by rw [e]; rfl)
  subst e
  refine kitAny_cons k2 (fun e => by rw [e]; exact kitAny_nil) (fun e => by rw [e]; rfl)
section
variable {P : Program} {w : World} {K : PySem.W.Frag} {mg : Str → Option Value} {base : Heap}
theorem ok_alike {f : Addr} {fd : FuncData} (F : FnP K "_law_alike" "_law_alike" sAlike f fd) (hg : mg "_law_alike" = some (.ref f)) (hk : PySem.W.keepIn K (.ref f) = true) (hb : Binds K fd ["_law_found", "_law_due"] [])
    (gisi : mg "isinstance" = none) (gint : mg "int" = none) (gbool : mg "bool" = none) (gstr : mg "str" = none) (gtuple : mg "tuple" = none) (glist : mg "list" = none) (gdict : mg "dict" = none) (glen : mg "len" = none) (grange : mg "range" = none) :
    ∀ n, FnOk P w K mg base CX0 (n + 1) f fd ["_law_found", "_law_due"] (spAlike K n) := by
  intro n
  induction n with
  | zero =>
    refine F.ok scAlike (fun vs H Q E h => ?_) (fun cdv A outer s H vs Q E hr h => ?_)
    · obtain ⟨x, y, d, _, _, _, h, _⟩ := h
      cases h
    · obtain ⟨x, y, d, _, _, _, h, _⟩ := h
      cases h
  | succ n ih =>
    have G : Cal P w K mg base CX0 (n + 1) "_law_alike" ["_law_found", "_law_due"] (spAlike K n) := ⟨_, _, ih, hg, hk, hb⟩
    refine F.ok scAlike (fun vs H Q E h => ?_) (fun cdv A outer s H vs Q E hr h => ?_)
    · obtain ⟨x, y, d, rfl, _⟩ := h
      rfl
    · obtain ⟨x, y, d, rfl, hx, hy, ok, k⟩ := h
      have nd := scAlike.nd
      refine ⟨_, PSs.nox (pss_cons (ps_if (pt_val (pe_callB call_isi (by rfl) gisi (by decide +kernel) (pa_cons (pv 1) (pa_cons (pe_bltn (v := .ty "dict") (by rfl) gdict (by decide +kernel) rfl) pa_nil)))) pss_no pss_nil)
        (pss_cons (ps_if (pt_val (pe_callB call_isiT (by rfl) gisi (by decide +kernel) (pa_cons (pv 1) (pa_cons (pe_tup (pa_cons (pe_bltn (v := .ty "tuple") (by rfl) gtuple (by decide +kernel) rfl) (pa_cons (pe_bltn (v := .ty "list") (by rfl) glist (by decide +kernel) rfl) pa_nil))) pa_nil))))
            (pss_cons (ps_if (PW.pt (pw_or (pt_not (pt_val (pe_callB call_isiT (by rfl) gisi (by decide +kernel) (pa_cons (pv 0) (pa_cons (pe_tup (pa_cons (pe_bltn (v := .ty "tuple") (by rfl) gtuple (by decide +kernel) rfl) (pa_cons (pe_bltn (v := .ty "list") (by rfl) glist (by decide +kernel) rfl) pa_nil))) pa_nil)))))
                  (pw_or1 (pt_cmpR op_ne (pe_callB call_isi (by rfl) gisi (by decide +kernel) (pa_cons (pv 0) (pa_cons (pe_bltn (v := .ty "list") (by rfl) glist (by decide +kernel) rfl) pa_nil))) (pe_callB call_isi (by rfl) gisi (by decide +kernel) (pa_cons (pv 1) (pa_cons (pe_bltn (v := .ty "list") (by rfl) glist (by decide +kernel) rfl) pa_nil))) (nomark _))))) (pss_one (ps_ret pe_bl)) pss_nil)
            (pss_cons (ps_if (pt_cmpR op_ne (pe_callB call_len_seq (by rfl) glen PySem.boot_len (pa_cons (pv 0) pa_nil)) (pe_callB call_len_seq (by rfl) glen PySem.boot_len (pa_cons (pv 1) pa_nil)) (nomark _)) (pss_one (ps_ret pe_bl)) pss_nil)
            (pss_one (ps_ret (pe_cmpR (op_eqD hr.units) (pe_lc (own := [("_law_k", 2)]) (g := gName 2) rfl nd (pi_range1 rfl grange (pa_cons (pe_callB call_len_seq (by rfl) glen PySem.boot_len (pa_cons (pv 1) pa_nil)) pa_nil)) blkAl (fun _ _ _ _ _ => pg_name (i := 2) nd rfl (.inl rfl))
                (fun _ _ _ _ _ => pts_one (pt_not (pt_val (pe_cal G hr pass0 (pa_cons (pe_ix (ixsK (K := K) rfl) (pv 0) (pv 2) (fun _ _ => rfl)) (pa_cons (pe_ix (ixsK (K := K) rfl) (pv 1) (pv 2) (fun _ _ => rfl)) pa_nil)))))) (fun _ _ _ _ _ => pv 2)) (pe_lst pa_nil) (nomark _)))))) pss_nil)
        (pss_cons (ps_if (PW.pt (pw_or (pt_cmpR op_isN (pv 1) pe_non (nomark _)) (pw_or1 (pt_val (pe_callB call_isi (by rfl) gisi (by decide +kernel) (pa_cons (pv 1) (pa_cons (pe_bltn (v := .ty "str") (by rfl) gstr (by decide +kernel) rfl) pa_nil)))))))
            (pss_one (ps_ret (pe_and (pe_cmpR (op_eqD hr.units) (pv 0) (pv 1) (nomark _)) (pe_one (pe_cmpR op_eq (pe_callB call_isi (by rfl) gisi (by decide +kernel) (pa_cons (pv 0) (pa_cons (pe_bltn (v := .ty "str") (by rfl) gstr (by decide +kernel) rfl) pa_nil)))
              (pe_callB call_isi (by rfl) gisi (by decide +kernel) (pa_cons (pv 1) (pa_cons (pe_bltn (v := .ty "str") (by rfl) gstr (by decide +kernel) rfl) pa_nil))) (nomark _)))))) pss_nil)
        (pss_one (ps_ret (pe_and (pe_callB call_isi (by rfl) gisi (by decide +kernel) (pa_cons (pv 0) (pa_cons (pe_bltn (v := .ty "int") (by rfl) gint boot_int rfl) pa_nil)))
          (pe_and (pe_cmpR op_eq (pe_callB call_isi (by rfl) gisi (by decide +kernel) (pa_cons (pv 0) (pa_cons (pe_bltn (v := .ty "bool") (by rfl) gbool (by decide +kernel) rfl) pa_nil))) (pe_callB call_isi (by rfl) gisi (by decide +kernel) (pa_cons (pv 1) (pa_cons (pe_bltn (v := .ty "bool") (by rfl) gbool (by decide +kernel) rfl) pa_nil))) (nomark _))
            (pe_one (pe_cmpR (op_eqD hr.units) (pv 0) (pv 1) (nomark _)))))))))), ?_⟩
      have kt : ∀ {a b : String} {r : Bool}, kitB a b = some r → PySem.W.kitOne K (.type a) (.type b) = some r := fun h => kit_ty h
      have pr : Paired ClsV [V.ty "tuple", V.ty "list"] [.type "tuple", .type "list"] := .cons (.ty _) (.cons (.ty _) .nil)
      have tup_new : ∀ {H : Hp} {T : Addr}, H T = none → Same H (upd H T (.tup [.ty "tuple", .ty "list"])) := fun h => Same.new (Same.refl _) h
      -- the items one by one
      have items : ∀ (xs ys : List V) (ds : List PyData), DpAll K H xs ds → DpAll K H ys ds → ds.all (okD n) = true →
          ∀ i, i < ys.length → ∃ v u, xs[i]? = some v ∧ ys[i]? = some u ∧ ∃ e, Dp K H v e ∧ Dp K H u e ∧ okD n e = true := fun xs ys ds h1 h2 h3 i hi => by
        have hl := dpAll_len h2
        have hi2 : i < ds.length := by omega
        have he : ds[i]? = some ds[i] := by simp [hi2]
        obtain ⟨v, a1, a2⟩ := dpAll_at h1 he
        obtain ⟨u, b1, b2⟩ := dpAll_at h2 he
        exact ⟨v, u, a1, b1, _, a2, b2, List.all_eq_true.mp h3 _ (List.getElem_mem hi2)⟩
      cases d with
      | none =>
        cases hx
        cases hy
        refine ⟨_, rfl, _, _, _, _, _, rfl, .ty "dict", dp_ty .non, kt (a := "NoneType") (r := false) (by decide +kernel), false, rfl, iteF ?_⟩
        refine ⟨_, rfl, by show 2 ≤ sizeLine; decide, fun T hT => ⟨_, T, _, _, _, _, rfl, upd_same, pr, dp_ty .non, kit2 (a := "NoneType") (r1 := false) (r2 := false) (by decide +kernel) (by decide +kernel), false, rfl, iteF ?_⟩⟩
        have s1 := tup_new hT
        refine ⟨_, rfl, rfl, _, rfl, iteT' (decide_eq_true rfl) (iteT' rfl ?_)⟩
        refine ⟨_, rfl, _, rfl, .none, .none, .non, .non, rfl, rfl, true, rfl, iteT ?_⟩
        refine ⟨_, rfl, _, _, _, _, _, rfl, .ty "str", dp_ty .non, kt (a := "NoneType") (r := false) (by decide +kernel), _, rfl, _, _, _, _, _, rfl, .ty "str", dp_ty .non, kt (a := "NoneType") (r := false) (by decide +kernel), rfl, ?_⟩
        rw [decide_eq_true (rfl : V.bl false = V.bl false)]
        exact k _ s1
      | dict kvs => cases ok
      | bool b =>
        cases hx
        cases hy
        refine ⟨_, rfl, _, _, _, _, _, rfl, .ty "dict", dp_ty (.bl b), kt (a := "bool") (r := false) (by decide +kernel), false, rfl, iteF ?_⟩
        refine ⟨_, rfl, by show 2 ≤ sizeLine; decide, fun T hT => ⟨_, T, _, _, _, _, rfl, upd_same, pr, dp_ty (.bl b), kit2 (a := "bool") (r1 := false) (r2 := false) (by decide +kernel) (by decide +kernel), false, rfl, iteF ?_⟩⟩
        have s1 := tup_new hT
        refine ⟨_, rfl, rfl, _, rfl, iteF' (decide_eq_false (fun e => by cases e)) ?_⟩
        refine ⟨_, rfl, _, _, _, _, _, rfl, .ty "str", dp_ty (.bl b), kt (a := "bool") (r := false) (by decide +kernel), false, rfl, iteF' rfl ?_⟩
        refine ⟨_, rfl, _, _, _, _, _, rfl, .ty "int", dp_ty (.bl b), kt (a := "bool") (r := true) (by decide +kernel), true, rfl, iteT ?_⟩
        refine ⟨_, rfl, _, _, _, _, _, rfl, .ty "bool", dp_ty (.bl b), kt (a := "bool") (r := true) (by decide +kernel), _, rfl, _, _, _, _, _, rfl, .ty "bool", dp_ty (.bl b), kt (a := "bool") (r := true) (by decide +kernel), rfl, _, rfl, iteT' (decide_eq_true rfl) ?_⟩
        refine ⟨_, rfl, _, rfl, _, _, .bl b, .bl b, rfl, rfl, ?_⟩
        rw [PySem.SeqAt.eqv_refl (.bool b) rfl]
        exact k _ s1
      | int i =>
        cases hx
        cases hy
        refine ⟨_, rfl, _, _, _, _, _, rfl, .ty "dict", dp_ty (.int i), kt (a := "int") (r := false) (by decide +kernel), false, rfl, iteF ?_⟩
        refine ⟨_, rfl, by show 2 ≤ sizeLine; decide, fun T hT => ⟨_, T, _, _, _, _, rfl, upd_same, pr, dp_ty (.int i), kit2 (a := "int") (r1 := false) (r2 := false) (by decide +kernel) (by decide +kernel), false, rfl, iteF ?_⟩⟩
        have s1 := tup_new hT
        refine ⟨_, rfl, rfl, _, rfl, iteF' (decide_eq_false (fun e => by cases e)) ?_⟩
        refine ⟨_, rfl, _, _, _, _, _, rfl, .ty "str", dp_ty (.int i), kt (a := "int") (r := false) (by decide +kernel), false, rfl, iteF' rfl ?_⟩
        refine ⟨_, rfl, _, _, _, _, _, rfl, .ty "int", dp_ty (.int i), kt (a := "int") (r := true) (by decide +kernel), true, rfl, iteT ?_⟩
        refine ⟨_, rfl, _, _, _, _, _, rfl, .ty "bool", dp_ty (.int i), kt (a := "int") (r := false) (by decide +kernel), _, rfl, _, _, _, _, _, rfl, .ty "bool", dp_ty (.int i), kt (a := "int") (r := false) (by decide +kernel), rfl, _, rfl, iteT' (decide_eq_true rfl) ?_⟩
        refine ⟨_, rfl, _, rfl, _, _, .int i, .int i, rfl, rfl, ?_⟩
        rw [PySem.SeqAt.eqv_refl (.int i) rfl]
        exact k _ s1
      | str z =>
        cases hx
        cases hy
        have hz : PyData.strOk z = true := ok
        have lay : PyData.canLay0 (.str z) = true := by simp only [PyData.canLay0]; exact hz
        have sh : SeqAt.shaped (.str z) = true := shaped_of lay (by simp [PyData.depth])
        refine ⟨_, rfl, _, _, _, _, _, rfl, .ty "dict", dp_ty (.str z), kt (a := "str") (r := false) (by decide +kernel), false, rfl, iteF ?_⟩
        refine ⟨_, rfl, by show 2 ≤ sizeLine; decide, fun T hT => ⟨_, T, _, _, _, _, rfl, upd_same, pr, dp_ty (.str z), kit2 (a := "str") (r1 := false) (r2 := false) (by decide +kernel) (by decide +kernel), false, rfl, iteF ?_⟩⟩
        have s1 := tup_new hT
        refine ⟨_, rfl, rfl, _, rfl, iteF' (decide_eq_false (fun e => by cases e)) ?_⟩
        refine ⟨_, rfl, _, _, _, _, _, rfl, .ty "str", dp_ty (.str z), kt (a := "str") (r := true) (by decide +kernel), true, rfl, iteT' rfl ?_⟩
        refine ⟨_, rfl, _, rfl, _, _, .str z, .str z, sh, sh, ?_⟩
        rw [PySem.SeqAt.eqv_refl (.str z) lay]
        refine ⟨true, rfl, iteT ?_⟩
        refine ⟨_, rfl, _, _, _, _, _, rfl, .ty "str", dp_ty (.str z), kt (a := "str") (r := true) (by decide +kernel), _, rfl, _, _, _, _, _, rfl, .ty "str", dp_ty (.str z), kt (a := "str") (r := true) (by decide +kernel), rfl, ?_⟩
        rw [decide_eq_true (rfl : V.bl true = V.bl true)]
        exact k _ s1
      | list ds =>
        cases hx with
        | lst sx ax =>
          rename_i a xs
          cases hy with
          | lst sy ay =>
            rename_i b ys
            have ok2 : (decide (ds.length ≤ 10000) && ds.all (okD n)) = true := ok
            obtain ⟨o1, o2⟩ := Bool.and_eq_true_iff.mp ok2
            have it := items xs ys ds ax ay o2
            have lx : xs.length = ys.length := by rw [dpAll_len ax, dpAll_len ay]
            have lb1 : ys.length ≤ 10000 := by
              rw [dpAll_len ay]
              exact of_decide_eq_true o1
            refine ⟨_, rfl, _, _, _, _, _, rfl, .ty "dict", sqL_ty sy, kt (a := "list") (r := false) (by decide +kernel), false, rfl, iteF ?_⟩
            refine ⟨_, rfl, by show 2 ≤ sizeLine; decide, fun T hT => ?_⟩
            have s1 := tup_new hT
            refine ⟨_, T, _, _, _, _, rfl, upd_same, pr, sqL_ty (Same.lst s1 sy), kit2 (a := "list") (r1 := false) (r2 := true) (by decide +kernel) (by decide +kernel), true, rfl, iteT ?_⟩
            generalize upd H T (.tup [.ty "tuple", .ty "list"]) = H1 at s1 ⊢
            refine ⟨_, rfl, by show 2 ≤ sizeLine; decide, fun T2 hT2 => ?_⟩
            have s2 := tup_new hT2
            have s12 := s1.trans s2
            refine ⟨_, T2, _, _, _, _, rfl, upd_same, pr, sqL_ty (Same.lst s12 sx), kit2 (a := "list") (r1 := false) (r2 := true) (by decide +kernel) (by decide +kernel), true, rfl, iteF' rfl ?_⟩
            generalize upd H1 T2 (.tup [.ty "tuple", .ty "list"]) = H2 at s12 ⊢
            have ll := kt (a := "list") (b := "list") (r := true) (by decide +kernel)
            refine ⟨_, rfl, _, _, _, _, _, rfl, .ty "list", sqL_ty (Same.lst s12 sx), ll, _, rfl, _, _, _, _, _, rfl, .ty "list", sqL_ty (Same.lst s12 sy), ll, rfl, _, rfl, iteF' (by rw [decide_eq_true rfl]; rfl) ?_⟩
            refine ⟨_, rfl, a, xs, rfl, .inl (Same.lst s12 sx), _, rfl, b, ys, rfl, .inl (Same.lst s12 sy), rfl, _, rfl, iteF' (by rw [lx, decide_eq_true rfl]; rfl) ?_⟩
            refine ⟨_, rfl, b, ys, rfl, .inl (Same.lst s12 sy), _, rfl, by omega, by omega, fun D hD => ?_⟩
            refine lc_range (lo := 0) (n := ((ys.length : Nat) : Int).toNat) (fun i H' => H' D = some (.lst []) ∧ Same H2 H') ⟨upd_same, Same.new (Same.refl _) hD⟩ ?_ ?_
            · rintro i H3 hi ⟨g1, g2⟩
              have s3 := s12.trans g2
              obtain ⟨v, u, h1, h2, e, d1, d2, d3⟩ := it i (by omega)
              have e1 : atI xs (0 + ((i : Nat) : Int)) = some v := by rw [Int.zero_add]; exact atI_nat h1
              have e2 : atI ys (0 + ((i : Nat) : Int)) = some u := by rw [Int.zero_add]; exact atI_nat h2
              refine ⟨rfl, ?_⟩
              refine ⟨_, rfl, _, rfl, .inl ⟨a, xs, _, v, rfl, rfl, Same.lst s3 sx, e1, _, rfl, _, rfl, .inl ⟨b, ys, _, u, rfl, rfl, Same.lst s3 sy, e2, ?_⟩⟩⟩
              exact ⟨v, u, e, rfl, Same.dp s3 d1, Same.dp s3 d2, d3, fun H4 s4 => ⟨true, rfl, iteF' rfl ⟨s4 _ _ g1, g2.trans s4⟩⟩⟩
            · rintro H3 ⟨g1, g2⟩
              refine ⟨by show 0 ≤ sizeLine; decide, fun e0 he0 => ?_⟩
              have s4 := Same.new (Same.refl H3) he0 (o := .lst [])
              refine ⟨.list [], .list [], .lst (.inl (.inl (s4 _ _ g1))) .nil, .lst (.inl (.inl upd_same)) .nil, shaped_nil, shaped_nil, ?_⟩
              rw [PySem.SeqAt.eqv_refl (.list []) (by simp [PyData.canLay0, PyData.canLayAll0])]
              exact k _ ((s12.trans g2).trans s4)
      | tuple ds =>
        cases hx with
        | tup sx ax =>
          rename_i a xs
          cases hy with
          | tup sy ay =>
            rename_i b ys
            have ok2 : (decide (ds.length ≤ 10000) && ds.all (okD n)) = true := ok
            obtain ⟨o1, o2⟩ := Bool.and_eq_true_iff.mp ok2
            have it := items xs ys ds ax ay o2
            have lx : xs.length = ys.length := by rw [dpAll_len ax, dpAll_len ay]
            have lb1 : ys.length ≤ 10000 := by
              rw [dpAll_len ay]
              exact of_decide_eq_true o1
            refine ⟨_, rfl, _, _, _, _, _, rfl, .ty "dict", sqT_ty sy, kt (a := "tuple") (r := false) (by decide +kernel), false, rfl, iteF ?_⟩
            refine ⟨_, rfl, by show 2 ≤ sizeLine; decide, fun T hT => ?_⟩
            have s1 := tup_new hT
            refine ⟨_, T, _, _, _, _, rfl, upd_same, pr, sqT_ty (Same.tup s1 sy), kit2 (a := "tuple") (r1 := true) (r2 := false) (by decide +kernel) (by decide +kernel), true, rfl, iteT ?_⟩
            generalize upd H T (.tup [.ty "tuple", .ty "list"]) = H1 at s1 ⊢
            refine ⟨_, rfl, by show 2 ≤ sizeLine; decide, fun T2 hT2 => ?_⟩
            have s2 := tup_new hT2
            have s12 := s1.trans s2
            refine ⟨_, T2, _, _, _, _, rfl, upd_same, pr, sqT_ty (Same.tup s12 sx), kit2 (a := "tuple") (r1 := true) (r2 := false) (by decide +kernel) (by decide +kernel), true, rfl, iteF' rfl ?_⟩
            generalize upd H1 T2 (.tup [.ty "tuple", .ty "list"]) = H2 at s12 ⊢
            have ll := kt (a := "tuple") (b := "list") (r := false) (by decide +kernel)
            refine ⟨_, rfl, _, _, _, _, _, rfl, .ty "list", sqT_ty (Same.tup s12 sx), ll, _, rfl, _, _, _, _, _, rfl, .ty "list", sqT_ty (Same.tup s12 sy), ll, rfl, _, rfl, iteF' (by rw [decide_eq_true rfl]; rfl) ?_⟩
            refine ⟨_, rfl, a, xs, rfl, .inr (Same.tup s12 sx), _, rfl, b, ys, rfl, .inr (Same.tup s12 sy), rfl, _, rfl, iteF' (by rw [lx, decide_eq_true rfl]; rfl) ?_⟩
            refine ⟨_, rfl, b, ys, rfl, .inr (Same.tup s12 sy), _, rfl, by omega, by omega, fun D hD => ?_⟩
            refine lc_range (lo := 0) (n := ((ys.length : Nat) : Int).toNat) (fun i H' => H' D = some (.lst []) ∧ Same H2 H') ⟨upd_same, Same.new (Same.refl _) hD⟩ ?_ ?_
            · rintro i H3 hi ⟨g1, g2⟩
              have s3 := s12.trans g2
              obtain ⟨v, u, h1, h2, e, d1, d2, d3⟩ := it i (by omega)
              have e1 : atI xs (0 + ((i : Nat) : Int)) = some v := by rw [Int.zero_add]; exact atI_nat h1
              have e2 : atI ys (0 + ((i : Nat) : Int)) = some u := by rw [Int.zero_add]; exact atI_nat h2
              refine ⟨rfl, ?_⟩
              refine ⟨_, rfl, _, rfl, .inr (.inl ⟨a, xs, _, v, rfl, rfl, Same.tup s3 sx, e1, _, rfl, _, rfl, .inr (.inl ⟨b, ys, _, u, rfl, rfl, Same.tup s3 sy, e2, ?_⟩)⟩)⟩
              exact ⟨v, u, e, rfl, Same.dp s3 d1, Same.dp s3 d2, d3, fun H4 s4 => ⟨true, rfl, iteF' rfl ⟨s4 _ _ g1, g2.trans s4⟩⟩⟩
            · rintro H3 ⟨g1, g2⟩
              refine ⟨by show 0 ≤ sizeLine; decide, fun e0 he0 => ?_⟩
              have s4 := Same.new (Same.refl H3) he0 (o := .lst [])
              refine ⟨.list [], .list [], .lst (.inl (.inl (s4 _ _ g1))) .nil, .lst (.inl (.inl upd_same)) .nil, shaped_nil, shaped_nil, ?_⟩
              rw [PySem.SeqAt.eqv_refl (.list []) (by simp [PyData.canLay0, PyData.canLayAll0])]
              exact k _ ((s12.trans g2).trans s4)
end
end Om

namespace Om
open PySem PySem.Spec PyProof.Rows L2 LamX
/-! ### signs at places -/
def sg2 (rows : List (List Nat)) (i j : Nat) : Nat := (rows.getD i []).getD j 0
structure Rect (rows : List (List Nat)) (h w : Nat) : Prop where
  len : rows.length = h
  row : ∀ r ∈ rows, r.length = w
theorem rect_getD {rows : List (List Nat)} {h w : Nat} (R : Rect rows h w) {i : Nat} (hi : i < h) : rows.getD i [] ∈ rows ∧ (rows.getD i []).length = w := by
  have hi2 : i < rows.length := by rw [R.len]; exact hi
  have e : rows.getD i [] = rows[i] := by rw [List.getD_eq_getElem?_getD, List.getElem?_eq_getElem hi2, Option.getD_some]
  rw [e]
  exact ⟨List.getElem_mem hi2, R.row _ (List.getElem_mem hi2)⟩
/-! ### cells -/
theorem cells_mem (rows : List (List Nat)) (a b : Nat) : (a, b) ∈ cellsOf rows ↔ a < rows.length ∧ b < (rows.getD a []).length ∧ sg2 rows a b ≠ 126 := by
  unfold cellsOf cellsTo rowCells sg2
  simp only [List.mem_flatMap, List.mem_range, List.mem_map, List.mem_filter, Bool.not_eq_true', decide_eq_false_iff_not, Prod.mk.injEq]
  constructor
  · rintro ⟨i, hi, j, ⟨hj1, hj2⟩, rfl, rfl⟩
    exact ⟨hi, hj1, hj2⟩
  · rintro ⟨h1, h2, h3⟩
    exact ⟨a, h1, b, ⟨h2, h3⟩, rfl, rfl⟩
theorem eqv_cell (c : Nat × Nat) (i j : Int) : PyData.eqv (cdp c) (.tuple [.int i, .int j]) = (decide (((c.1 : Nat) : Int) = i) && decide (((c.2 : Nat) : Int) = j)) := by
  simp only [cdp, PyData.eqv, PyData.eqvAll, Bool.and_true]
  rfl
theorem cells_any {rows : List (List Nat)} (g : Good2 rows) (i j : Int) : (((cellsOf rows).map cdp).any fun z => PyData.eqv z (.tuple [.int i, .int j])) = hasC rows i j := by
  rw [Bool.eq_iff_iff, List.any_map, List.any_eq_true]
  constructor
  · rintro ⟨⟨a, b⟩, hm, h⟩
    have h : PyData.eqv (cdp (a, b)) (.tuple [.int i, .int j]) = true := h
    rw [eqv_cell, Bool.and_eq_true, decide_eq_true_eq, decide_eq_true_eq] at h
    obtain ⟨rfl, rfl⟩ := h
    obtain ⟨h1, h2, h3⟩ := (cells_mem rows a b).mp hm
    have hl := g.rect _ (rect_getD (h := rows.length) (w := (rows.headD []).length) ⟨rfl, g.rect⟩ h1).1
    unfold hasC insd inR sgAt
    simp only [Int.toNat_natCast, Bool.and_eq_true, decide_eq_true_eq, Bool.not_eq_true', decide_eq_false_iff_not]
    exact ⟨by omega, h3⟩
  · intro h
    unfold hasC insd inR sgAt at h
    simp only [Bool.and_eq_true, decide_eq_true_eq, Bool.not_eq_true', decide_eq_false_iff_not] at h
    obtain ⟨⟨⟨h1, h2⟩, h3, h4⟩, h5⟩ := h
    have hl := g.rect _ (rect_getD (h := rows.length) (w := (rows.headD []).length) ⟨rfl, g.rect⟩ (i := i.toNat) (by omega)).1
    refine ⟨(i.toNat, j.toNat), (cells_mem rows _ _).mpr ⟨by omega, by omega, h5⟩, ?_⟩
    show PyData.eqv (cdp (i.toNat, j.toNat)) (.tuple [.int i, .int j]) = true
    rw [eqv_cell, Bool.and_eq_true, decide_eq_true_eq, decide_eq_true_eq]
    exact ⟨by show ((i.toNat : Nat) : Int) = i; omega, by show ((j.toNat : Nat) : Int) = j; omega⟩
theorem lay_cells (cs : List (Nat × Nat)) : PyData.canLayAll0 (cs.map cdp) = true := by
  induction cs with
  | nil => simp [PyData.canLayAll0]
  | cons c r ih => simp only [List.map_cons, PyData.canLayAll0, cdp, PyData.canLay0, ih, Bool.and_self]
theorem dep_cells (cs : List (Nat × Nat)) : PyData.depthAll (cs.map cdp) ≤ 1 := by
  induction cs with
  | nil => simp [PyData.depthAll]
  | cons c r ih => simp [PyData.depthAll, cdp, PyData.depth]; omega
theorem sh_cells (cs : List (Nat × Nat)) : SeqAt.shaped (.list (cs.map cdp)) = true := shaped_of (by simp only [PyData.canLay0]; exact lay_cells cs) (by have := dep_cells cs; simp only [PyData.depth]; omega)
theorem sh_pair (i j : Int) : SeqAt.shaped (.tuple [.int i, .int j]) = true := shaped_of (by simp [PyData.canLay0, PyData.canLayAll0]) (by simp [PyData.depth, PyData.depthAll])
theorem eqv_pair (i j : Int) : PyData.eqv (.tuple [.int i, .int j]) (.tuple [.int i, .int j]) = true := PySem.SeqAt.eqv_refl _ (by simp [PyData.canLay0, PyData.canLayAll0])
/-! ### rules, what digs tell -/
inductive Rl where
  | plain
  | rows
  | near (m : Nat)
def Rl.vs : Rl → List V
  | .plain => [.str "plain"]
  | .rows => [.str "rows"]
  | .near m => [.str "near", .int (m : Nat)]
def Rl.ds : Rl → List PyData
  | .plain => [.str "plain"]
  | .rows => [.str "rows"]
  | .near m => [.str "near", .int (m : Nat)]
def Rl.d (r : Rl) : PyData := .tuple r.ds
def iabs (i : Int) : Int := if i < 0 then -i else i
abbrev Cell := Nat × Nat
def cvs (c : Cell) : List V := [.int (c.1 : Nat), .int (c.2 : Nat)]
def away (c p : Cell) : Int := iabs ((c.1 : Int) - (p.1 : Int)) + iabs ((c.2 : Int) - (p.2 : Int))
def toldR (a b : Nat) : Str := if b = a then "level" else if b < a then "north" else "south"
def told (r : Rl) (c p : Cell) : Str := if c = p then "found" else match r with
  | .plain => "empty"
  | .rows => toldR c.1 p.1
  | .near m => if away c p ≤ (m : Int) then "near" else "far"
theorem cell_dp {K : PySem.W.Frag} {H : Hp} {a : Addr} {c : Cell} (h : SqT K H a (cvs c)) : Dp K H (.ref a) (cdp c) := .tup h (.cons (.int _) (.cons (.int _) .nil))
theorem cell_at {K : PySem.W.Frag} {H : Hp} {v : V} {c : Cell} (h : Dp K H v (cdp c)) : ∃ a, v = .ref a ∧ SqT K H a (cvs c) := by
  unfold cdp at h
  cases h with
  | tup s t =>
    cases t with
    | cons h1 t =>
      cases h1
      cases t with
      | cons h2 t =>
        cases h2
        cases t
        exact ⟨_, rfl, s⟩
theorem eqv_cells (c p : Cell) : PyData.eqv (cdp c) (cdp p) = decide (c = p) := by
  have z := eqv_cell c (p.1 : Nat) (p.2 : Nat)
  show PyData.eqv (cdp c) (.tuple [.int (p.1 : Nat), .int (p.2 : Nat)]) = _
  rw [z, Bool.eq_iff_iff]
  simp only [Bool.and_eq_true, decide_eq_true_eq, Int.natCast_inj]
  constructor
  · rintro ⟨h1, h2⟩
    exact Prod.ext h1 h2
  · rintro rfl
    exact ⟨rfl, rfl⟩
theorem sh_cell (c : Cell) : SeqAt.shaped (cdp c) = true := sh_pair _ _
/-- which words a rule knows -/
def words : Rl → List Str
  | .plain => ["found", "empty"]
  | .rows => ["found", "north", "south", "level"]
  | .near _ => ["found", "near", "far"]
theorem told_mem (r : Rl) (c p : Cell) : told r c p ∈ words r := by
  unfold told
  split
  · cases r <;> simp [words]
  · cases r with
    | plain => simp [words]
    | rows =>
      show toldR _ _ ∈ _
      unfold toldR
      split
      · simp [words]
      · split <;> simp [words]
    | near m =>
      show (if _ then _ else _ : Str) ∈ _
      split <;> simp [words]
/-! ### x in (a written tuple of data) -/
def rInT (K : PySem.W.Frag) : R2 := fun x y H Q => ∃ d ds, Dp K H x d ∧ Dp K H y (.tuple ds) ∧ SeqAt.shaped d = true ∧ SeqAt.shaped (.tuple ds) = true ∧ Q (.bl (ds.any fun z => PyData.eqv z d)) H
theorem op_inT {X : Cx} (hu : X.A.units + 65 < cLine) : OpR X (compareOp .In) (rInT X.K) := by
  intro pins s σ H x y v u Q I rx ry h
  obtain ⟨d, ds, hd, he, sd, se, q⟩ := h
  obtain ⟨as, r1⟩ := Dp.reads I d x v hd rx
  obtain ⟨bs, r2⟩ := Dp.reads I (.tuple ds) y u he ry
  exact SeqAt.in_tuple_reads r2 r1 (SeqAt.canLay_of_shaped se) (SeqAt.canLay_of_shaped sd) (room_in_shaped sd hu) ⟨.bl _, H, I, rfl, q⟩
end Om

namespace Om
open PySem PySem.Spec PyProof.Rows L2
abbrev sLand : Stmt := top 19
def spLandF (K : PySem.W.Frag) (CI CU : Addr) : Sp := fun vs H Q E => ∃ (a ca : Addr) (rows : List (List Nat)) (c : Int × Int), vs = [.ref a, .ref ca] ∧ Isl K CI H a rows ∧ Good2 rows ∧ SqT K H ca [.int c.1, .int c.2] ∧ (hasC rows c.1 c.2 = true → Q .non H) ∧ (hasC rows c.1 c.2 = false → E (.ref CU) none H)
theorem passE0 {P : Program} {w : World} {X : Cx} : Passes (L2.CX P w) X E0 := fun pins σ H s e s' I h => by
  obtain ⟨a, B, H', cls, d, _, _, _, _, _, _, _, z⟩ := h
  exact z.elim
section
variable {P : Program} {w : World} {K : PySem.W.Frag} {mg : Str → Option Value} {base : Heap} {CI CU CR : Addr}
theorem scLand : FnScope ["island", "cell"] ["island", "cell"] (defScope sLand) := ⟨rfl, rfl, rfl, by decide +kernel, rfl, by decide +kernel, by decide +kernel⟩
theorem ok_landF {f gC : Addr} {fd fdC : FuncData} (F : FnP K "require_land" "require_land" sLand f fd) (U : ErrU K mg "UnknownCell" CU) (mC : OwnM K CI "__contains__" gC) (GC : FnOk P w K mg base CX0 3 gC fdC ["self", "cell"] (spHas K CI)) (bC : Binds K fdC ["self", "cell"] []) : FnOk P w K mg base (L2.CX P w) 4 f fd ["island", "cell"] (spLandF K CI CU) := by
  refine F.ok scLand (fun vs H Q E h => ?_) (fun cdv A outer s H vs Q E hr h => ?_)
  · obtain ⟨a, ca, rows, c, rfl, _⟩ := h
    rfl
  · obtain ⟨a, ca, rows, c, rfl, hI, g, hC, k1, k2⟩ := h
    refine ⟨_, pss_one (ps_if (pt_cmpR (op_notInOwn mC GC hr bC pass0) (pv 1) (pv 0) (by with_unfolding_all rfl))
      (pss_one (ps_raise rfl (takes_of rfl rfl rfl rfl) (pmk_own PySem.F.excBase_ValueError U.q U.g U.kp (raises_own U.r1 U.r2) rfl))) pss_nil), ?_⟩
    obtain ⟨dx, p, hp, _⟩ := id hI
    refine ⟨_, rfl, _, rfl, a, dx, _, rfl, hp, a, ca, rows, _, _, rfl, hI, g, hC, _, rfl, _, rfl, ?_⟩
    cases e : hasC rows c.1 c.2 with
    | false => exact iteT' rfl (k2 e)
    | true => exact iteF' rfl (k1 e)
end
end Om

/-! x, *y = a tuple -/
namespace Om
open PySem PySem.Spec PyProof.Rows L2
theorem walksS_drop {prog : Program} {w : World} {A : Around} {I : Addr} {fp wr : List Addr} {G : Array GenState → Array GenState → Prop} {n : Nat} {P : Nat → Value → Prop} {St : Nat → Shared → Prop} (W : WalksS prog w A I fp wr G n P St) (k : Nat) (hk : k ≤ n) :
    WalksS prog w A I fp wr G (n - k) (fun i => P (i + k)) (fun i s => St (i + k) s) where
  sub := W.sub
  grefl := W.grefl
  gtrans := W.gtrans
  frame := fun i => W.frame (i + k)
  item := fun i s Q E hi st hQ => W.item (i + k) s Q E (by omega) st fun v s' p st' m => hQ v s' p (by
    have e : i + 1 + k = i + k + 1 := by omega
    rw [e]
    exact st') m
  done := fun s Q E st hQ => W.done s Q E (by
    rw [Nat.sub_add_cancel hk] at st
    exact st) hQ
  self := fun i => W.self (i + k)
section
variable {prog : Program} {w : World} {A : Around} {E : Value → Shared → Prop} {s : Shared}
theorem unpack_star {t : Addr} {items : Array Value} {x : Value} {xs : List Value} {Q : List Value → Shared → Prop} (hh : A.handled = none) (ht : IsTup s.heap t items) (hi : items.toList = x :: xs) (hz : items.size ≤ sizeLine)
    (hQ : ∀ (h' : Heap) (tk : Nat), (∀ b o, s.heap.get? b = some o → h'.get? b = some o) → Q [x, .ref h'.objs.size] { s with heap := h'.push { cls := .type "list", data := .seq xs.toArray }, toks := tk }) :
    wpAny (model prog w) A (unpackItems (.ref t) 2 (some 1)) Q E s := by
  have hlt : t < s.heap.objs.size := by obtain ⟨o, ho, _⟩ := ht; exact Heap.lt_size ho
  have hsz : items.size = xs.length + 1 := by rw [← Array.length_toList, hi, List.length_cons]
  unfold unpackItems
  refine wpAny_bind ?_
  unfold notIterableAtAll
  refine wpAny_bind (wpAny_specialOf ht.typeIs slot_tuple_iter.lookup ?_)
  refine wpAny_pure ?_
  simp only [Bool.false_eq_true, if_false]
  refine wpAny_bind (wpAny_holding (iter_tuple ht ?_))
  refine wpAny_bind (wpAny_holding (draw_tuple (Nat.ne_of_lt hlt) 1 0 _ _ ⟨_, Heap.get?_push_size _ rfl, rfl, rfl⟩ (ht.push _) (by omega) fun h₁ hit₁ hs₁ => ?_))
  have e1 : List.take 1 (List.drop 0 items.toList) = [x] := by rw [List.drop_zero, hi]; rfl
  rw [e1]
  rw [if_neg (by simp)]
  have ht₁ : IsTup h₁ t items := (ht.push _).extBut hs₁.extBut (Nat.ne_of_lt hlt)
  have k1 : ∀ b o, s.heap.get? b = some o → h₁.get? b = some o := fun b o e => hs₁.extBut b o (Nat.ne_of_lt (Heap.lt_size e)) (Heap.get?_push_of_some _ e)
  have z1 : h₁.objs.size = s.heap.objs.size + 1 := by rw [hs₁.1, Heap.size_push]
  refine wpAny_bind (wpAny_holding (wpAny_collect_iter (T := "tuple_iterator") (.inr (.inr (.inr rfl))) (walksS_drop (Walks.tuple (A := A.in1) hh s.heap.objs.size t (Nat.ne_of_lt hlt) items).toS 1 (by omega))
    (fun i s₂ st => ?_) ⟨hit₁, ht₁⟩ (fun b hb => ?_) (by simp) (fun s' acc m io => ?_) ?_))
  rotate_right
  · exact Nat.le_trans (Nat.sub_le _ _) hz
  · obtain ⟨⟨o, ho, hc, _⟩, _⟩ := st
    exact ⟨o, ho, hc⟩
  · show b < h₁.objs.size
    rw [z1]
    rcases (show b = s.heap.objs.size ∨ b = t by simpa using hb) with rfl | rfl
    · exact Nat.lt_succ_self _
    · exact Nat.lt_succ_of_lt hlt
  · have eacc : acc.toList = xs := by
      apply List.ext_getElem?
      intro i
      rw [Array.getElem?_toList]
      cases q : acc[i]? with
      | none =>
        have q1 := Array.getElem?_eq_none_iff.mp q
        rw [io.1] at q1
        exact (List.getElem?_eq_none (by omega)).symm
      | some v =>
        have q1 : items[i + 1]? = some v := io.2 i v q
        rw [← Array.getElem?_toList, hi] at q1
        exact q1.symm
    rw [eacc]
    obtain ⟨hp, g, d, tk, os⟩ := s'
    obtain ⟨m1, m2, m3, m4, m5⟩ := m
    have m2 : g = s.gens := m2
    have m3 : d = s.drawn := m3
    have m4 : os = s.os := m4
    subst m2 m3 m4
    have eafter : 2 - 1 - 1 = 0 := rfl
    simp only [eafter, Nat.not_lt_zero, if_false, Nat.sub_zero, List.take_length, List.drop_length, List.append_nil]
    have k2 : ∀ b o, s.heap.get? b = some o → hp.get? b = some o := fun b o e => m1 b o (by
      intro z
      have z : b = s.heap.objs.size := by simpa using z
      have q := Heap.lt_size e
      rw [z] at q
      exact Nat.lt_irrefl _ q) (k1 b o e)
    refine wpAny_bind ?_
    refine wpAny_newList ?_ ?_
    rotate_right
    · exact Nat.le_trans (by omega) hz
    refine wpAny_pure ?_
    exact hQ hp tk k2
end
def gStar (K : PySem.W.Frag) (t : TGs) : TG := fun v σ H Q => ∃ a y ys, v = .ref a ∧ SqT K H a (y :: ys) ∧ ∀ L, H L = none → t [y, .ref L] σ (upd H L (.lst ys)) Q
theorem pg_star {X : Cx} {e1 e2 : Expr} {k : Nat} {ps pos : Pos} {t : TGs} (hc : X.calm = true) (h : PGs X [e1, e2] t) (hn : assignEach [e1, .Starred e2 ps] X.env = [(false, assign e1 X.env), (true, assign e2 X.env)] := by rfl)
    (hm : (assignEach [e1, e2] X.env).map (·.2) = [assign e1 X.env, assign e2 X.env] := by rfl) : PG X (.Tuple [e1, .Starred e2 ps] k pos) (gStar X.K t) := by
  refine ⟨fun pins s σ H v u Q I r hw => ?_⟩
  obtain ⟨a, y, ys, rfl, hq, hw⟩ := hw
  cases r
  obtain ⟨its, rv, ht, hz⟩ := I.tuple hq
  rw [assign_Tuple]
  refine wpAny_bind (wpAny_standAt ?_)
  unfold unpack
  rw [hn]
  cases rv with
  | cons rx rr =>
    rename_i x xs
    refine wpAny_bind (wpAny_holding (unpack_star (I.ok.hd hc) ht rfl (by
      have := rr.length
      rw [List.size_toArray, List.length_cons]
      simp only [List.length_cons] at hz
      omega) fun h' tk k1 => ?_))
    have I1 : Inv X pins σ H { s with heap := h', toks := tk } := I.kept k1
    have hL : H h'.objs.size = none := I1.hok.fresh (Nat.le_refl _)
    have I2 := I1.laid (t' := tk) (o := .lst ys) (a := h'.objs.size) (h' := h'.push { cls := .type "list", data := .seq xs.toArray }) (fun b ob q => Heap.get?_push_of_some _ q) (Nat.le_refl _)
      ⟨by simp only [List.length_cons] at hz; omega, xs, 0, rr, Heap.get?_push_size _ rfl⟩
    have e := h.run pins _ σ _ [y, .ref h'.objs.size] [x, .ref h'.objs.size] Q I2 (.cons rx (.cons rfl .nil)) (hw _ hL)
    rw [hm] at e
    exact e
end Om

namespace Om
open PySem PySem.Spec PyProof.Rows L2
/-! ### numbers as they are told: whole ones, truth values -/
inductive Nm where
  | i (n : Int)
  | b (x : Bool)
deriving DecidableEq
def Nm.v : Nm → V
  | .i n => .int n
  | .b x => .bl x
def Nm.d : Nm → PyData
  | .i n => .int n
  | .b x => .bool x
theorem nm_dp {K : PySem.W.Frag} {H : Hp} : ∀ n : Nm, Dp K H n.v n.d
  | .i n => .int n
  | .b x => .bl x
theorem nms_dp {K : PySem.W.Frag} {H : Hp} : ∀ ns : List Nm, DpAll K H (ns.map Nm.v) (ns.map Nm.d)
  | [] => .nil
  | n :: r => .cons (nm_dp n) (nms_dp r)
theorem dp_nm {K : PySem.W.Frag} {H : Hp} {v : V} : ∀ {n : Nm}, Dp K H v n.d → v = n.v
  | .i n, h => by cases h; rfl
  | .b x, h => by cases h; rfl
theorem dp_nms {K : PySem.W.Frag} {H : Hp} : ∀ {ns : List Nm} {vs : List V}, DpAll K H vs (ns.map Nm.d) → vs = ns.map Nm.v
  | [], [], .nil => rfl
  | n :: r, v :: t, .cons h1 h2 => by rw [dp_nm h1, dp_nms h2]; rfl
def inN : Nm → Int → Int → Bool
  | .i n, lo, hi => inR n lo hi
  | .b _, _, _ => false
def spInN : Sp := fun vs H Q _ => ∃ (v : Nm) (lo hi : Int), vs = [v.v, .int lo, .int hi] ∧ Q (.bl (inN v lo hi)) H
/-- of two neighbours each is less than the next -/
def ltN : Nm → Nm → Bool
  | .i a, .i b => decide (a < b)
  | _, _ => false
def upN : List Nm → Bool
  | a :: b :: r => ltN a b && upN (b :: r)
  | _ => true
def ascN (ns : List Nm) (lo hi : Int) : Bool := !ns.isEmpty && (ns.all (fun n => inN n lo hi) && upN ns)
def ascS (t allowed : List Nat) : Bool := !decide (t = []) && decide (t = allowed.filter fun c => decide (c ∈ t))
def spAscN (K : PySem.W.Frag) : Sp := fun vs H Q _ => ∃ (a : Addr) (ns : List Nm) (lo hi : Int), vs = [.ref a, .int lo, .int hi] ∧ SqT K H a (ns.map Nm.v) ∧ ns.length ≤ 1000 ∧ ∀ H', Same H H' → Q (.bl (ascN ns lo hi)) H'
def spAscS : Sp := fun vs H Q _ => ∃ (t l : List Nat), vs = [.str (tx t), .str (tx l)] ∧ l.length ≤ 1000 ∧ ∀ H', Same H H' → Q (.bl (ascS t l)) H'
section
variable {P : Program} {w : World} {K : PySem.W.Frag} {mg : Str → Option Value} {base : Heap}
theorem ok_inN {f : Addr} {fd : FuncData} (F : FnP K "in_range" "in_range" sInR f fd) (gisi : mg "isinstance" = none) (gint : mg "int" = none) (gbool : mg "bool" = none) : FnOk P w K mg base CX0 1 f fd nInR spInN := by
  refine F.ok scInR (fun vs H Q E h => ?_) (fun cdv A outer s H vs Q E hr h => ?_)
  · obtain ⟨v, lo, hi, rfl, _⟩ := h
    rfl
  · obtain ⟨v, lo, hi, rfl, k⟩ := h
    refine ⟨_, PSs.nox (pss_one (ps_ret (pe_and (pe_callB call_isi (by rfl) gisi (by decide +kernel) (pa_cons (pv 0) (pa_cons (pe_bltn (v := .ty "int") (by rfl) gint boot_int rfl) pa_nil)))
      (pe_and (pe_not (pe_callB call_isi (by rfl) gisi (by decide +kernel) (pa_cons (pv 0) (pa_cons (pe_bltn (v := .ty "bool") (by rfl) gbool (by decide +kernel) rfl) pa_nil))))
        (pe_one (pe_chain op_le op_le (pv 1) (pv 0) (pv 2))))))), ?_⟩
    cases v with
    | i v =>
      refine ⟨_, rfl, _, _, _, _, _, rfl, .ty "int", .base (.int _), kit_ty (a := "int") (b := "int") (r := true) (by decide +kernel), ?_⟩
      refine ⟨true, rfl, iteT ?_⟩
      refine ⟨_, rfl, _, _, _, _, _, rfl, .ty "bool", .base (.int _), kit_ty (a := "int") (b := "bool") (r := false) (by decide +kernel), false, rfl, true, rfl, iteT ?_⟩
      refine ⟨_, rfl, _, rfl, _, _, rfl, rfl, _, rfl, ?_⟩
      have k : Q (.bl (decide (lo ≤ v) && decide (v ≤ hi))) H := k
      cases e : decide (lo ≤ v) with
      | true =>
        rw [e, Bool.true_and] at k
        exact iteT ⟨_, rfl, _, _, rfl, rfl, k⟩
      | false =>
        rw [e, Bool.false_and] at k
        exact iteF k
    | b x =>
      refine ⟨_, rfl, _, _, _, _, _, rfl, .ty "int", .base (.bl _), kit_ty (a := "bool") (b := "int") (r := true) (by decide +kernel), ?_⟩
      refine ⟨true, rfl, iteT ?_⟩
      exact ⟨_, rfl, _, _, _, _, _, rfl, .ty "bool", .base (.bl _), kit_ty (a := "bool") (b := "bool") (r := true) (by decide +kernel), true, rfl, false, rfl, iteF k⟩
abbrev sAscS : Stmt := top 7
abbrev nAscS : List Str := ["text", "allowed", "sign"]
def ascLc : Expr := match retExpr ((defBody sAscS).getD 0 (.Pass ⟨0, 0, 0, 0⟩)) with
  | .BoolOp _ [_, .Compare _ _ [c] _] _ => arg0 c
  | e => e
theorem scAscS : FnScope nAscS ["text", "allowed"] (defScope sAscS) := ⟨rfl, rfl, rfl, by decide +kernel, rfl, by decide +kernel, by decide +kernel⟩
theorem blkAscS : BlkOk nAscS (defScope sAscS) (lcScope ascLc) [("sign", 2)] := blkOk_by (by decide +kernel)
theorem ok_ascS {f : Addr} {fd : FuncData} (F : FnP K "ascending_signs" "ascending_signs" sAscS f fd) : FnOk P w K mg base CX0 1 f fd ["text", "allowed"] spAscS := by
  refine F.ok scAscS (fun vs H Q E h => ?_) (fun cdv A outer s H vs Q E hr h => ?_)
  · obtain ⟨t, l, rfl, _⟩ := h
    rfl
  · obtain ⟨t, l, rfl, hl, k⟩ := h
    have nd := scAscS.nd
    refine ⟨_, PSs.nox (pss_one (ps_ret (pe_and (pe_cmpR op_ne (pv 0) pe_str (nomark _)) (pe_one (pe_cmpR op_eq (pv 0) (pe_joinK pe_str
      (pe_lc (own := [("sign", 2)]) (g := gName 2) rfl nd (pi_str (pv 1)) blkAscS (fun _ _ _ _ _ => pg_name (i := 2) nd rfl (.inl rfl)) (fun _ _ _ _ _ => pts_one (pt_cmpR op_in_sign (pv 2) (pv 0) rfl)) (fun _ _ _ _ _ => pv 2))) (nomark _)))))), ?_⟩
    have e0 : (decide (V.str (tx t) = V.str (Str.ofString ""))) = decide (t = []) := by
      rw [show Str.ofString "" = tx [] from by decide +kernel]
      exact decide_eq_decide.mpr ⟨fun h => tx_inj (V.str.inj h), fun h => by rw [h]⟩
    unfold ascS at k
    refine ⟨_, rfl, rfl, !decide (t = []), ?_, ?_⟩
    · show V.bl (!decide (V.str (tx t) = V.str (Str.ofString ""))) = _
      rw [e0]
    cases e1 : decide (t = []) with
    | true =>
      rw [e1] at k
      exact iteF' rfl (k H (Same.refl H))
    | false =>
      rw [e1] at k
      refine iteT' rfl ?_
      refine ⟨_, rfl, ⟨_, rfl⟩, _, rfl, _, rfl, fun D hD => lc_it (walk_str (z := tx l)) (fun i H' => H' D = some (.lst (((l.take i).filter fun c => decide (c ∈ t)).map fun c => vt [c])) ∧ Same H H') ⟨upd_same, Same.new (Same.refl H) hD⟩ (fun _ _ _ _ => trivial) ?_ ?_⟩
      · rintro i x H1 H2 hi ⟨h1, h2⟩ ⟨rfl, c, hc, rfl⟩
        have hc2 : l[i]? = some c := by
          rw [← Array.getElem?_toList, tx_cps] at hc
          exact hc
        refine ⟨rfl, _, rfl, _, rfl, c, _, rfl, rfl, _, rfl, ?_⟩
        rw [tx_cps]
        have es : (l.take (i + 1)).filter (fun c => decide (c ∈ t)) = (l.take i).filter (fun c => decide (c ∈ t)) ++ (if c ∈ t then [c] else []) := by
          rw [List.take_succ, hc2, List.filter_append]
          by_cases h : c ∈ t
          · rw [if_pos h]
            simp only [Option.toList_some, List.filter_cons, decide_eq_true h, if_true, List.filter_nil]
          · rw [if_neg h]
            simp only [Option.toList_some, List.filter_cons, decide_eq_false h, Bool.false_eq_true, if_false, List.filter_nil]
        have hll : ((l.take i).filter fun c => decide (c ∈ t)).length ≤ 1000 := Nat.le_trans (List.length_filter_le ..) (by rw [List.length_take]; omega)
        by_cases h : c ∈ t
        · rw [if_pos h] at es
          refine iteT' (decide_eq_true h) ?_
          refine ⟨_, rfl, _, h1, Nat.lt_of_le_of_lt (show _ ≤ 1000 by rw [List.length_map]; exact hll) (by decide), ?_, ?_⟩
          · rw [es, upd_same, List.map_append]
            rfl
          · intro b o hb
            rw [upd_ne (ne_of_none hb hD)]
            exact h2 b o hb
        · rw [if_neg h, List.append_nil] at es
          refine iteF' (decide_eq_false h) ?_
          rw [es]
          exact ⟨h1, h2⟩
      · rintro H1 ⟨h1, h2⟩
        have e : l.take (tx l).cps.size = l := List.take_of_length_le (by rw [← Array.length_toList, tx_cps]; exact Nat.le_refl _)
        rw [e] at h1
        have ecs : ((l.filter fun c => decide (c ∈ t)).map fun c => vt [c]) = ((l.filter fun c => decide (c ∈ t)).map fun c => tx [c]).map V.str := by rw [List.map_map]; rfl
        rw [ecs] at h1
        have hll : (l.filter fun c => decide (c ∈ t)).length ≤ 1000 := Nat.le_trans (List.length_filter_le ..) hl
        refine ⟨_, D, _, rfl, rfl, .inl (.inl (.inl h1)), ?_, rfl, ?_⟩
        · rw [empty_tx]
          have e5 : ∀ l : List Nat, ((l.map fun c => tx [c]).map (·.length)).sum = l.length := by
            intro l
            induction l with
            | nil => rfl
            | cons a r ih => simp only [List.map_cons, List.sum_cons, ih, tx_len, List.length_cons, List.length_nil]; omega
          rw [e5, List.length_map]
          show _ + _ * 0 ≤ _
          omega
        · have ej : Txt.join (Str.ofString "") ((l.filter fun c => decide (c ∈ t)).map fun c => tx [c]) = tx (l.filter fun c => decide (c ∈ t)) := by rw [empty_tx, TL.join_eq, join_tx]
          rw [ej]
          have e6 : decide (V.str (tx t) = V.str (tx (l.filter fun c => decide (c ∈ t)))) = decide (t = l.filter fun c => decide (c ∈ t)) := decide_eq_decide.mpr ⟨fun h => tx_inj (V.str.inj h), fun h => congrArg (fun z => V.str (tx z)) h⟩
          rw [e6]
          exact k H1 h2
end
end Om

namespace Om
open PySem PySem.Spec PyProof.Rows L2 RZ
theorem noPart {σ : L2.St} {H : Hp} {Q : Option Int → Hp → Prop} (h : Q none H) : tNoPart σ H Q := h
theorem nilArgs {σ : L2.St} {H : Hp} {Q : List V → Hp → Prop} (h : Q [] H) : tNil σ H Q := h
/-! ### ascending_numbers -/
theorem walk_zipT {K : PySem.W.Frag} {a b : Addr} {xs ys : List V} {n : Nat} (hn : n = min xs.length ys.length) : Walk (ItzT K a b) n (fun H => SqT K H a xs ∧ SqT K H b ys) (YPair (fun i => xs[i]?) fun i => ys[i]?) where
  goes := fun i H hi q => ⟨xs, ys, xs[i], ys[i], q.1, q.2, List.getElem?_eq_getElem _, List.getElem?_eq_getElem _⟩
  stops := fun H q => ⟨xs, ys, q.1, q.2, by omega⟩
  yields := fun i H v H' hi q y => by
    obtain ⟨T, x, z, h1, h2, h3, h4, h5⟩ := y
    exact ⟨T, x, z, h1, h2, h3, h4 xs q.1, h5 ys q.2⟩
theorem cutV_tail (x : V) (xs : List V) : cutV (x :: xs) (some 1) none = xs := by
  simp [cutV, HT.sIx]
def cmps : List Nm → List Bool
  | a :: b :: r => ltN a b :: cmps (b :: r)
  | _ => []
theorem cmps_all : ∀ ns : List Nm, (cmps ns).all id = upN ns
  | [] => rfl
  | [_] => rfl
  | a :: b :: r => by
    show (ltN a b && (cmps (b :: r)).all id) = (ltN a b && upN (b :: r))
    rw [cmps_all (b :: r)]
theorem cmps_len : ∀ ns : List Nm, (cmps ns).length = ns.length - 1
  | [] => rfl
  | [_] => rfl
  | a :: b :: r => by
    show (cmps (b :: r)).length + 1 = _
    rw [cmps_len (b :: r)]
    simp
theorem cmps_at : ∀ (ns : List Nm) (i : Nat) (a b : Nm), ns[i]? = some a → ns[i + 1]? = some b → (cmps ns)[i]? = some (ltN a b)
  | [], _, _, _, h, _ => by simp at h
  | [_], _, _, _, _, h => by simp at h
  | x :: y :: r, 0, a, b, h1, h2 => by
    have h1 : some x = some a := h1
    have h2 : some y = some b := h2
    cases h1
    cases h2
    rfl
  | x :: y :: r, i + 1, a, b, h1, h2 => cmps_at (y :: r) i a b h1 h2
section
variable {P : Program} {w : World} {K : PySem.W.Frag} {mg : Str → Option Value} {base : Heap}
abbrev sAscN : Stmt := top 6
abbrev nAscN : List Str := ["numbers", "least", "most", "number", "one", "other"]
theorem scAscN : FnScope nAscN ["numbers", "least", "most"] (defScope sAscN) := ⟨rfl, rfl, rfl, by decide +kernel, rfl, by decide +kernel, by decide +kernel⟩
def ascLc1 : Expr := match (defBody sAscN).getD 0 (.Pass ⟨0, 0, 0, 0⟩) with
  | .If (.BoolOp _ [_, .UnaryOp _ c _] _) _ _ _ => arg0 c
  | _ => .Constant .none 0 ⟨0, 0, 0, 0⟩
def ascLc2 : Expr := arg0 (retExpr ((defBody sAscN).getD 1 (.Pass ⟨0, 0, 0, 0⟩)))
theorem blkAscN1 : BlkOk nAscN (defScope sAscN) (lcScope ascLc1) [("number", 3)] := blkOk_by (by decide +kernel)
theorem blkAscN2 : BlkOk nAscN (defScope sAscN) (lcScope ascLc2) [("one", 4), ("other", 5)] := blkOk_by (by decide +kernel)
theorem ok_ascN {f : Addr} {fd : FuncData} (F : FnP K "ascending_numbers" "ascending_numbers" sAscN f fd) (G : Cal P w K mg base CX0 1 "in_range" nInR spInN) (glen : mg "len" = none) (gall : mg "all" = none) (gzip : mg "zip" = none) :
    FnOk P w K mg base CX0 2 f fd ["numbers", "least", "most"] (spAscN K) := by
  refine F.ok scAscN (fun vs H Q E h => ?_) (fun cdv A outer s H vs Q E hr h => ?_)
  · obtain ⟨a, ns, lo, hi, rfl, _⟩ := h
    rfl
  · obtain ⟨a, ns, lo, hi, rfl, hS, hl, k⟩ := h
    have nd := scAscN.nd
    refine ⟨_, PSs.nox (pss_cons (ps_if (PW.pt (pw_or (pt_cmpR op_eq (pe_callB call_len_seq (by rfl) glen PySem.boot_len (pa_cons (pv 0) pa_nil)) pe_int (nomark _))
          (pw_or1 (pt_not (pt_val (pe_callB (cr_all rfl) (by rfl) gall (by decide +kernel) (pa_cons (pe_lc (own := [("number", 3)]) (g := gName 3) rfl nd (pi_tup (pv 0)) blkAscN1 (fun _ _ _ _ _ => pg_name (i := 3) nd rfl (.inl rfl)) (fun _ _ _ _ _ => pts_nil)
            (fun _ _ _ _ _ => pe_cal G hr pass0 (pa_cons (pv 3) (pa_cons (pv 1) (pa_cons (pv 2) pa_nil))))) pa_nil))))))) (pss_one (ps_ret pe_bl)) pss_nil)
      (pss_one (ps_ret (pe_callB (cr_all rfl) (by rfl) gall (by decide +kernel) (pa_cons (pe_lc (own := [("one", 4), ("other", 5)]) (g := gTup K 2 (gCons (gName 4) (gCons (gName 5) gNil))) rfl nd
        (pi_zipA rfl gzip (pa_cons (pv 0) (pa_cons (pe_slice sl_tupA (pv 0) (po_some pe_int) po_none) pa_nil))) blkAscN2
        (fun _ _ _ _ _ => pg_tup rfl (pgs_cons (pg_name (i := 4) nd rfl (.inl rfl)) (pgs_cons (pg_name (i := 5) nd rfl (.inl rfl)) pgs_nil))) (fun _ _ _ _ _ => pts_nil) (fun _ _ _ _ _ => pe_cmpR op_lt (pv 4) (pv 5) (nomark _))) pa_nil))))), ?_⟩
    refine ⟨_, rfl, a, _, rfl, .inr hS, rfl, _, rfl, ?_⟩
    cases ns with
    | nil => exact iteT' rfl (k H (Same.refl H))
    | cons n0 nr =>
      have e0 : decide (V.int ((((n0 :: nr).map Nm.v).length : Nat) : Int) = V.int 0) = false := decide_eq_false fun h => by
        injection h with h
        simp only [List.length_map, List.length_cons] at h
        omega
      refine iteF' e0 ?_
      refine ⟨_, rfl, a, rfl, ⟨_, hS⟩, fun D hD => lc_tup (K := K) (a := a) (xs := (n0 :: nr).map Nm.v) (fun i H' => H' D = some (.lst ((((n0 :: nr).take i).map fun n => inN n lo hi).map V.bl)) ∧ Same H H') ⟨upd_same, Same.new (Same.refl H) hD⟩ (fun i H' _ q => Same.tup q.2 hS) ?_ ?_⟩
      · rintro i x H1 hx ⟨h1, h2⟩
        rw [List.getElem?_map] at hx
        cases hni : (n0 :: nr)[i]? with
        | none => rw [hni] at hx; cases hx
        | some n =>
          rw [hni] at hx
          obtain rfl : n.v = x := Option.some.inj hx
          have hil := (List.getElem?_eq_some_iff.mp hni).1
          refine ⟨rfl, tyes ?_⟩
          refine ⟨_, rfl, _, rfl, _, rfl, n, lo, hi, rfl, ?_⟩
          refine ⟨_, h1, ?_, ?_, ?_⟩
          · rw [List.length_map, List.length_map, List.length_take]
            exact Nat.lt_of_le_of_lt (show _ ≤ 1000 by omega) (by decide)
          · have e : (n0 :: nr).take (i + 1) = (n0 :: nr).take i ++ [n] := by rw [List.take_succ, hni]; rfl
            rw [upd_same, e, List.map_append, List.map_append]
            rfl
          · intro b o hb
            rw [upd_ne (ne_of_none hb hD)]
            exact h2 b o hb
      · rintro H1 ⟨h1, h2⟩
        have e1 : (n0 :: nr).take ((n0 :: nr).map Nm.v).length = n0 :: nr := List.take_of_length_le (by rw [List.length_map]; exact Nat.le_refl _)
        rw [e1] at h1
        refine ⟨D, _, rfl, .inl (.inl h1), _, rfl, ?_⟩
        have eall : (((n0 :: nr).map fun n => inN n lo hi).all id) = (n0 :: nr).all (fun n => inN n lo hi) := by rw [List.all_map]; rfl
        rw [eall]
        have k : ∀ H', Same H H' → Q (.bl ((n0 :: nr).all (fun n => inN n lo hi) && upN (n0 :: nr))) H' := k
        cases e2 : (n0 :: nr).all (fun n => inN n lo hi) with
        | false =>
          rw [e2] at k
          exact iteT' rfl (k H1 h2)
        | true =>
          rw [e2] at k
          refine iteF' rfl ?_
          have k : ∀ H', Same H H' → Q (.bl (upN (n0 :: nr))) H' := k
          have allI : ∀ n ∈ n0 :: nr, ∃ m, n = .i m := fun n hn => by
            have z := List.all_eq_true.mp e2 n hn
            cases n with
            | i m => exact ⟨m, rfl⟩
            | b x => cases z
          refine ⟨_, rfl, _, rfl, _, rfl, ?_⟩
          refine noPart ?_
          refine slA_read (Same.tup h2 hS) fun p2 H2 s2 hp2 => ?_
          rw [List.map_cons, cutV_tail] at hp2
          have hS2 := Same.tup (h2.trans s2) hS
          refine nilArgs ?_
          refine ⟨a, p2, _, _, rfl, .inr ⟨hS2, hp2, fun D2 hD2 => lc_it (walk_zipT (K := K) (a := a) (b := p2) (xs := (n0 :: nr).map Nm.v) (ys := nr.map Nm.v) rfl) (fun i H' => H' D2 = some (.lst (((cmps (n0 :: nr)).take i).map V.bl)) ∧ Same H2 H')
            ⟨upd_same, Same.new (Same.refl H2) hD2⟩ (fun i H' _ q => ⟨Same.tup q.2 hS2, Same.tup q.2 hp2⟩) ?_ ?_⟩⟩
          · rintro i x H3 H4 hi ⟨g1, g2⟩ ⟨T, y, z, rfl, hT, rfl, hy, hz⟩
            have hy : ((n0 :: nr).map Nm.v)[i]? = some y := hy
            have hz : (nr.map Nm.v)[i]? = some z := hz
            rw [List.getElem?_map] at hy hz
            cases ha : (n0 :: nr)[i]? with
            | none => rw [ha] at hy; cases hy
            | some n1 =>
              cases hb : nr[i]? with
              | none => rw [hb] at hz; cases hz
              | some n2 =>
                rw [ha] at hy
                rw [hb] at hz
                obtain rfl : n1.v = y := Option.some.inj hy
                obtain rfl : n2.v = z := Option.some.inj hz
                obtain ⟨m1, rfl⟩ := allI n1 (List.mem_of_getElem? ha)
                obtain ⟨m2, rfl⟩ := allI n2 (List.mem_cons_of_mem _ (List.mem_of_getElem? hb))
                have hc := cmps_at (n0 :: nr) i _ _ ha (show (n0 :: nr)[i + 1]? = some (.i m2) from hb)
                have hlen := cmps_len (n0 :: nr)
                have s3 : Same H3 (upd H3 T (.tup [(Nm.i m1).v, (Nm.i m2).v])) := Same.new (Same.refl H3) hT
                refine ⟨T, _, rfl, .inl (.inl upd_same), rfl, _, _, rfl, _, _, rfl, rfl, rfl, tyes ?_⟩
                refine ⟨_, rfl, _, rfl, m1, m2, rfl, rfl, ?_⟩
                refine ⟨_, s3 _ _ g1, ?_, ?_, ?_⟩
                · rw [List.length_map, List.length_take]
                  exact Nat.lt_of_le_of_lt (show _ ≤ 1000 by omega) (by decide)
                · have e : (cmps (n0 :: nr)).take (i + 1) = (cmps (n0 :: nr)).take i ++ [decide (m1 < m2)] := by rw [List.take_succ, hc]; rfl
                  rw [upd_same, e, List.map_append]
                  rfl
                · intro b o hb
                  rw [upd_ne (ne_of_none hb hD2)]
                  exact s3 _ _ (g2 b o hb)
          · rintro H3 ⟨g1, g2⟩
            have e3 : (cmps (n0 :: nr)).take (min ((n0 :: nr).map Nm.v).length (nr.map Nm.v).length) = cmps (n0 :: nr) := by
              refine List.take_of_length_le ?_
              rw [cmps_len, List.length_map, List.length_map, List.length_cons]
              omega
            rw [e3] at g1
            refine ⟨D2, _, rfl, .inl (.inl g1), ?_⟩
            rw [cmps_all]
            exact k H3 (h2.trans (s2.trans g2))
end
end Om

namespace Om
open PySem PySem.Spec PyProof.Rows L2
/-! ### instructions as they are told -/
inductive Ins where
  | turn (ns : List Nm)
  | walk (a b : Nm)
  | upto (s : List Nat)
  | toward (s : List Nat)
  | beside (n : Nm) (s : List Nat)
  | near (s : List Nat) (n : Nm)
  | shore (s a b : Nm)
def Ins.word : Ins → Str
  | .turn _ => "turn"
  | .walk _ _ => "walk"
  | .upto _ => "until"
  | .toward _ => "toward"
  | .beside _ _ => "beside"
  | .near _ _ => "near"
  | .shore _ _ _ => "shore"
def Ins.parts : Ins → List PyData
  | .turn ns => [.tuple (ns.map Nm.d)]
  | .walk a b => [a.d, b.d]
  | .upto s => [dt s]
  | .toward s => [dt s]
  | .beside n s => [n.d, dt s]
  | .near s n => [dt s, n.d]
  | .shore s a b => [s.d, a.d, b.d]
def Ins.d (i : Ins) : PyData := .tuple (.str i.word :: i.parts)
def Ins.small : Ins → Bool
  | .turn ns => decide (ns.length ≤ 1000)
  | _ => true
def paces : Nm → Nm → Bool
  | .i a, b => inN (.i a) 0 20 && inN b a 20
  | .b _, _ => false
def side (n : Nm) : Bool := inN n 1 3 && !decide (n = .i 2)
def lands : List Nat := 46 :: [65, 66, 67, 68, 69, 70, 71, 72, 73, 74, 75, 76, 77, 78, 79, 80, 81, 82, 83, 84, 85, 86, 87, 88, 89, 90]
def alls : List Nat := lands ++ [126]
def Ins.ok : Ins → Bool
  | .turn ns => ascN ns 0 3
  | .walk a b => paces a b
  | .upto s => ascS s lands
  | .toward s => ascS s lands
  | .beside n s => inN n 0 3 && ascS s alls
  | .near s n => ascS s alls && inN n 0 22
  | .shore s a b => side s && paces a b
theorem lands_tx : Str.ofString ".ABCDEFGHIJKLMNOPQRSTUVWXYZ" = tx lands := by decide +kernel
theorem alls_tx : Str.ofString ".ABCDEFGHIJKLMNOPQRSTUVWXYZ~" = tx alls := by decide +kernel
def spPaces : Sp := fun vs H Q _ => ∃ a b : Nm, vs = [a.v, b.v] ∧ Q (.bl (paces a b)) H
def spSide : Sp := fun vs H Q _ => ∃ n : Nm, vs = [n.v] ∧ Q (.bl (side n)) H
def spIsIns (K : PySem.W.Frag) : Sp := fun vs H Q _ => ∃ (v : V) (i : Ins), vs = [v] ∧ Dp K H v i.d ∧ i.small = true ∧ ∀ H', Same H H' → Q (.bl i.ok) H'
abbrev sIsIns : Stmt := top 50
abbrev sSide : Stmt := top 51
abbrev sPaces : Stmt := top 52
section
variable {P : Program} {w : World} {K : PySem.W.Frag} {mg : Str → Option Value} {base : Heap}
theorem scSide : FnScope ["side"] ["side"] (defScope sSide) := ⟨rfl, rfl, rfl, by decide +kernel, rfl, by decide +kernel, by decide +kernel⟩
theorem ok_side {f : Addr} {fd : FuncData} (F : FnP K "_is_side" "_is_side" sSide f fd) (G : Cal P w K mg base CX0 1 "in_range" nInR spInN) : FnOk P w K mg base CX0 2 f fd ["side"] spSide := by
  refine F.ok scSide (fun vs H Q E h => ?_) (fun cdv A outer s H vs Q E hr h => ?_)
  · obtain ⟨n, rfl, _⟩ := h
    rfl
  · obtain ⟨n, rfl, k⟩ := h
    refine ⟨_, PSs.nox (pss_one (ps_ret (pe_and (pe_cal G hr pass0 (pa_cons (pv 0) (pa_cons pe_int (pa_cons pe_int pa_nil)))) (pe_one (pe_cmpR op_ne (pv 0) pe_int (nomark _)))))), ?_⟩
    refine ⟨_, rfl, n, 1, 3, rfl, _, rfl, ?_⟩
    unfold side at k
    cases e : inN n 1 3 with
    | false =>
      rw [e] at k
      exact iteF k
    | true =>
      rw [e] at k
      refine iteT ?_
      cases n with
      | b x => cases e
      | i m =>
        refine ⟨_, rfl, rfl, ?_⟩
        have e2 : decide (V.int m = V.int 2) = decide (Nm.i m = Nm.i 2) := decide_eq_decide.mpr ⟨fun h => by injection h with h; rw [h], fun h => by injection h with h; rw [h]⟩
        show Q (.bl (!decide (V.int m = V.int 2))) H
        rw [e2]
        exact k
theorem scPaces : FnScope ["least", "most"] ["least", "most"] (defScope sPaces) := ⟨rfl, rfl, rfl, by decide +kernel, rfl, by decide +kernel, by decide +kernel⟩
theorem ok_paces {f : Addr} {fd : FuncData} (F : FnP K "_are_paces" "_are_paces" sPaces f fd) (G : Cal P w K mg base CX0 1 "in_range" nInR spInN) (gm : ∃ t, mg "MOST_PACES" = some (.int 20 t)) : FnOk P w K mg base CX0 2 f fd ["least", "most"] spPaces := by
  obtain ⟨t0, gm⟩ := gm
  refine F.ok scPaces (fun vs H Q E h => ?_) (fun cdv A outer s H vs Q E hr h => ?_)
  · obtain ⟨a, b, rfl, _⟩ := h
    rfl
  · obtain ⟨a, b, rfl, k⟩ := h
    refine ⟨_, PSs.nox (pss_one (ps_ret (pe_and (pe_cal G hr pass0 (pa_cons (pv 0) (pa_cons pe_int (pa_cons (pe_glob (v := .int 20) rfl gm ⟨_, rfl⟩) pa_nil))))
      (pe_one (pe_cal G hr pass0 (pa_cons (pv 1) (pa_cons (pv 0) (pa_cons (pe_glob (v := .int 20) rfl gm ⟨_, rfl⟩) pa_nil)))))))), ?_⟩
    refine ⟨_, rfl, a, 0, 20, rfl, _, rfl, ?_⟩
    cases a with
    | b x => exact iteF k
    | i n =>
      have k : Q (.bl (inN (.i n) 0 20 && inN b n 20)) H := k
      cases e : inN (.i n) 0 20 with
      | false =>
        rw [e] at k
        exact iteF k
      | true =>
        rw [e] at k
        exact iteT ⟨_, rfl, _, rfl, b, n, 20, rfl, k⟩
abbrev nIsIns : List Str := ["instruction", "word", "parts"]
theorem scIsIns : FnScope nIsIns ["instruction"] (defScope sIsIns) := ⟨rfl, rfl, rfl, by decide +kernel, rfl, by decide +kernel, by decide +kernel⟩
theorem wtest (a b : Str) : decide (V.str a = V.str b) = decide (a = b) := decide_eq_decide.mpr ⟨fun h => V.str.inj h, fun h => congrArg V.str h⟩
theorem ok_isIns {f : Addr} {fd : FuncData} (F : FnP K "is_instruction" "is_instruction" sIsIns f fd) (G : Cal P w K mg base CX0 1 "in_range" nInR spInN) (GN : Cal P w K mg base CX0 2 "ascending_numbers" ["numbers", "least", "most"] (spAscN K)) (GS : Cal P w K mg base CX0 1 "ascending_signs" ["text", "allowed"] spAscS)
    (GP : Cal P w K mg base CX0 2 "_are_paces" ["least", "most"] spPaces) (GI : Cal P w K mg base CX0 2 "_is_side" ["side"] spSide) (gl : ∃ t, mg "LAND_SIGNS" = some (.str (tx lands) t)) (ga : ∃ t, mg "ALL_SIGNS" = some (.str (tx alls) t)) (gm : ∃ t, mg "MOST_AWAY" = some (.int 22 t)) :
    FnOk P w K mg base CX0 3 f fd ["instruction"] (spIsIns K) := by
  obtain ⟨t0, gl⟩ := gl
  obtain ⟨t1, ga⟩ := ga
  obtain ⟨t2, gm⟩ := gm
  refine F.ok scIsIns (fun vs H Q E h => ?_) (fun cdv A outer s H vs Q E hr h => ?_)
  · obtain ⟨v, i, rfl, _⟩ := h
    rfl
  · obtain ⟨v, i, rfl, hD, sm, k⟩ := h
    have nd := scIsIns.nd
    have hr1 : Room 1 _ := hr.mono (by decide)
    refine ⟨_, PSs.nox (pss_cons (ps_asg (pv 0) (pg_star rfl (pgs_cons (pg_name (i := 1) nd rfl (.inl rfl)) (pgs_cons (pg_name (i := 2) nd rfl (.inl rfl)) pgs_nil))))
      (pss_cons (ps_if (pt_cmpR op_eq (pv 1) pe_str (nomark _)) (pss_one (ps_ret (pe_cal GN hr pass0 (pa_cons (pe_ix ix_list (pv 2) pe_int (fun _ _ => rfl)) (pa_cons pe_int (pa_cons pe_int pa_nil)))))) pss_nil)
      (pss_cons (ps_if (pt_cmpR op_eq (pv 1) pe_str (nomark _)) (pss_one (ps_ret (pe_cal GP hr pass0 (pa_cons (pe_ix ix_list (pv 2) pe_int (fun _ _ => rfl)) (pa_cons (pe_ix ix_list (pv 2) pe_int (fun _ _ => rfl)) pa_nil))))) pss_nil)
      (pss_cons (ps_if (pt_cmpR op_in_seq (pv 1) (pe_tup (pa_cons pe_str (pa_cons pe_str pa_nil))) rfl) (pss_one (ps_ret (pe_cal GS hr1 pass0 (pa_cons (pe_ix ix_list (pv 2) pe_int (fun _ _ => rfl)) (pa_cons (pe_glob (v := .str (tx lands)) rfl gl ⟨_, rfl⟩) pa_nil))))) pss_nil)
      (pss_cons (ps_if (pt_cmpR op_eq (pv 1) pe_str (nomark _)) (pss_one (ps_ret (pe_and (pe_cal G hr1 pass0 (pa_cons (pe_ix ix_list (pv 2) pe_int (fun _ _ => rfl)) (pa_cons pe_int (pa_cons pe_int pa_nil))))
          (pe_one (pe_cal GS hr1 pass0 (pa_cons (pe_ix ix_list (pv 2) pe_int (fun _ _ => rfl)) (pa_cons (pe_glob (v := .str (tx alls)) rfl ga ⟨_, rfl⟩) pa_nil))))))) pss_nil)
      (pss_cons (ps_if (pt_cmpR op_eq (pv 1) pe_str (nomark _)) (pss_one (ps_ret (pe_and (pe_cal GS hr1 pass0 (pa_cons (pe_ix ix_list (pv 2) pe_int (fun _ _ => rfl)) (pa_cons (pe_glob (v := .str (tx alls)) rfl ga ⟨_, rfl⟩) pa_nil)))
          (pe_one (pe_cal G hr1 pass0 (pa_cons (pe_ix ix_list (pv 2) pe_int (fun _ _ => rfl)) (pa_cons pe_int (pa_cons (pe_glob (v := .int 22) rfl gm ⟨_, rfl⟩) pa_nil)))))))) pss_nil)
      (pss_cons (ps_if (pt_cmpR op_eq (pv 1) pe_str (nomark _)) (pss_one (ps_ret (pe_and (pe_cal GI hr pass0 (pa_cons (pe_ix ix_list (pv 2) pe_int (fun _ _ => rfl)) pa_nil))
          (pe_one (pe_cal GP hr pass0 (pa_cons (pe_ix ix_list (pv 2) pe_int (fun _ _ => rfl)) (pa_cons (pe_ix ix_list (pv 2) pe_int (fun _ _ => rfl)) pa_nil))))))) pss_nil)
      (pss_one (ps_ret pe_bl))))))))), ?_⟩
    cases i with
    | turn ns =>
      cases hD with
      | tup hS hA =>
        cases hA with
        | cons h1 hA =>
          cases h1
          cases hA with
          | cons g0 hA =>
            cases hA
            cases g0 with
            | tup hT hB =>
              have eB := dp_nms hB
              subst eB
              rename_i a u
              refine ⟨_, rfl, _, _, _, rfl, hS, fun L hL => ?_⟩
              refine ⟨_, _, rfl, _, _, rfl, rfl, ?_⟩
              have s0 := Same.new (Same.refl H) hL (o := .lst [V.ref u])
              refine ⟨_, rfl, rfl, _, rfl, iteT' (by rw [wtest]; show decide (Str.ofString "turn" = Str.ofString "turn") = true; decide +kernel) ?_⟩
              exact ⟨_, rfl, _, _, 0, _, rfl, rfl, (.inl (.inl upd_same)), rfl, _, ns, 0, 3, rfl, Same.tup s0 hT, of_decide_eq_true sm, fun H' s => k H' (s0.trans s)⟩
    | walk m n =>
      cases hD with
      | tup hS hA =>
        cases hA with
        | cons h1 hA =>
          cases h1
          cases hA with
          | cons g0 hA =>
            cases hA with
            | cons g1 hA =>
              cases hA
              have e0 := dp_nm g0
              subst e0
              have e1 := dp_nm g1
              subst e1
              refine ⟨_, rfl, _, _, _, rfl, hS, fun L hL => ?_⟩
              refine ⟨_, _, rfl, _, _, rfl, rfl, ?_⟩
              have s0 := Same.new (Same.refl H) hL (o := .lst [m.v, n.v])
              refine ⟨_, rfl, rfl, _, rfl, iteF' (by rw [wtest]; show decide (Str.ofString "walk" = Str.ofString "turn") = false; decide +kernel) ?_⟩
              refine ⟨_, rfl, rfl, _, rfl, iteT' (by rw [wtest]; show decide (Str.ofString "walk" = Str.ofString "walk") = true; decide +kernel) ?_⟩
              exact ⟨_, rfl, _, _, 0, _, rfl, rfl, (.inl (.inl upd_same)), rfl, _, rfl, _, _, 1, _, rfl, rfl, (.inl (.inl upd_same)), rfl, m, n, rfl, k _ s0⟩
    | upto z =>
      cases hD with
      | tup hS hA =>
        cases hA with
        | cons h1 hA =>
          cases h1
          cases hA with
          | cons g0 hA =>
            cases hA
            unfold dt at g0
            cases g0
            refine ⟨_, rfl, _, _, _, rfl, hS, fun L hL => ?_⟩
            refine ⟨_, _, rfl, _, _, rfl, rfl, ?_⟩
            have s0 := Same.new (Same.refl H) hL (o := .lst [V.str (tx z)])
            refine ⟨_, rfl, rfl, _, rfl, iteF' (by rw [wtest]; show decide (Str.ofString "until" = Str.ofString "turn") = false; decide +kernel) ?_⟩
            refine ⟨_, rfl, rfl, _, rfl, iteF' (by rw [wtest]; show decide (Str.ofString "until" = Str.ofString "walk") = false; decide +kernel) ?_⟩
            refine ⟨_, rfl, by show 2 ≤ sizeLine; decide, fun p hp => ⟨p, _, rfl, .inr (.inl (.inl upd_same)), rfl, rfl, _, rfl, iteT' (by show inV (V.str (Str.ofString "until")) [V.str (Str.ofString "until"), V.str (Str.ofString "toward")] = true; decide +kernel) ?_⟩⟩
            have s1 := Same.new (Same.refl _) hp (o := .tup [V.str (Str.ofString "until"), V.str (Str.ofString "toward")])
            have hL1 := s1 _ _ upd_same
            have s2 := s0.trans s1
            exact ⟨_, rfl, _, _, 0, _, rfl, rfl, (.inl (.inl hL1)), rfl, z, lands, rfl, by decide, fun H' s => k H' (s2.trans s)⟩
    | toward z =>
      cases hD with
      | tup hS hA =>
        cases hA with
        | cons h1 hA =>
          cases h1
          cases hA with
          | cons g0 hA =>
            cases hA
            unfold dt at g0
            cases g0
            refine ⟨_, rfl, _, _, _, rfl, hS, fun L hL => ?_⟩
            refine ⟨_, _, rfl, _, _, rfl, rfl, ?_⟩
            have s0 := Same.new (Same.refl H) hL (o := .lst [V.str (tx z)])
            refine ⟨_, rfl, rfl, _, rfl, iteF' (by rw [wtest]; show decide (Str.ofString "toward" = Str.ofString "turn") = false; decide +kernel) ?_⟩
            refine ⟨_, rfl, rfl, _, rfl, iteF' (by rw [wtest]; show decide (Str.ofString "toward" = Str.ofString "walk") = false; decide +kernel) ?_⟩
            refine ⟨_, rfl, by show 2 ≤ sizeLine; decide, fun p hp => ⟨p, _, rfl, .inr (.inl (.inl upd_same)), rfl, rfl, _, rfl, iteT' (by show inV (V.str (Str.ofString "toward")) [V.str (Str.ofString "until"), V.str (Str.ofString "toward")] = true; decide +kernel) ?_⟩⟩
            have s1 := Same.new (Same.refl _) hp (o := .tup [V.str (Str.ofString "until"), V.str (Str.ofString "toward")])
            have hL1 := s1 _ _ upd_same
            have s2 := s0.trans s1
            exact ⟨_, rfl, _, _, 0, _, rfl, rfl, (.inl (.inl hL1)), rfl, z, lands, rfl, by decide, fun H' s => k H' (s2.trans s)⟩
    | beside m z =>
      cases hD with
      | tup hS hA =>
        cases hA with
        | cons h1 hA =>
          cases h1
          cases hA with
          | cons g0 hA =>
            cases hA with
            | cons g1 hA =>
              cases hA
              have e0 := dp_nm g0
              subst e0
              unfold dt at g1
              cases g1
              refine ⟨_, rfl, _, _, _, rfl, hS, fun L hL => ?_⟩
              refine ⟨_, _, rfl, _, _, rfl, rfl, ?_⟩
              have s0 := Same.new (Same.refl H) hL (o := .lst [m.v, V.str (tx z)])
              refine ⟨_, rfl, rfl, _, rfl, iteF' (by rw [wtest]; show decide (Str.ofString "beside" = Str.ofString "turn") = false; decide +kernel) ?_⟩
              refine ⟨_, rfl, rfl, _, rfl, iteF' (by rw [wtest]; show decide (Str.ofString "beside" = Str.ofString "walk") = false; decide +kernel) ?_⟩
              refine ⟨_, rfl, by show 2 ≤ sizeLine; decide, fun p hp => ⟨p, _, rfl, .inr (.inl (.inl upd_same)), rfl, rfl, _, rfl, iteF' (by show inV (V.str (Str.ofString "beside")) [V.str (Str.ofString "until"), V.str (Str.ofString "toward")] = false; decide +kernel) ?_⟩⟩
              have s1 := Same.new (Same.refl _) hp (o := .tup [V.str (Str.ofString "until"), V.str (Str.ofString "toward")])
              have hL1 := s1 _ _ upd_same
              have s2 := s0.trans s1
              refine ⟨_, rfl, rfl, _, rfl, iteT' (by rw [wtest]; show decide (Str.ofString "beside" = Str.ofString "beside") = true; decide +kernel) ?_⟩
              refine ⟨_, rfl, _, _, 0, _, rfl, rfl, (.inl (.inl hL1)), rfl, m, 0, 3, rfl, _, rfl, ?_⟩
              have k : ∀ H', Same H H' → Q (.bl (inN m 0 3 && ascS z alls)) H' := k
              cases e : inN m 0 3 with
              | false =>
                rw [e] at k
                exact iteF (k _ s2)
              | true =>
                rw [e] at k
                exact iteT ⟨_, rfl, _, _, 1, _, rfl, rfl, (.inl (.inl hL1)), rfl, z, alls, rfl, by decide, fun H' s => k H' (s2.trans s)⟩
    | near z m =>
      cases hD with
      | tup hS hA =>
        cases hA with
        | cons h1 hA =>
          cases h1
          cases hA with
          | cons g0 hA =>
            cases hA with
            | cons g1 hA =>
              cases hA
              unfold dt at g0
              cases g0
              have e1 := dp_nm g1
              subst e1
              refine ⟨_, rfl, _, _, _, rfl, hS, fun L hL => ?_⟩
              refine ⟨_, _, rfl, _, _, rfl, rfl, ?_⟩
              have s0 := Same.new (Same.refl H) hL (o := .lst [V.str (tx z), m.v])
              refine ⟨_, rfl, rfl, _, rfl, iteF' (by rw [wtest]; show decide (Str.ofString "near" = Str.ofString "turn") = false; decide +kernel) ?_⟩
              refine ⟨_, rfl, rfl, _, rfl, iteF' (by rw [wtest]; show decide (Str.ofString "near" = Str.ofString "walk") = false; decide +kernel) ?_⟩
              refine ⟨_, rfl, by show 2 ≤ sizeLine; decide, fun p hp => ⟨p, _, rfl, .inr (.inl (.inl upd_same)), rfl, rfl, _, rfl, iteF' (by show inV (V.str (Str.ofString "near")) [V.str (Str.ofString "until"), V.str (Str.ofString "toward")] = false; decide +kernel) ?_⟩⟩
              have s1 := Same.new (Same.refl _) hp (o := .tup [V.str (Str.ofString "until"), V.str (Str.ofString "toward")])
              have hL1 := s1 _ _ upd_same
              have s2 := s0.trans s1
              refine ⟨_, rfl, rfl, _, rfl, iteF' (by rw [wtest]; show decide (Str.ofString "near" = Str.ofString "beside") = false; decide +kernel) ?_⟩
              refine ⟨_, rfl, rfl, _, rfl, iteT' (by rw [wtest]; show decide (Str.ofString "near" = Str.ofString "near") = true; decide +kernel) ?_⟩
              refine ⟨_, rfl, _, _, 0, _, rfl, rfl, (.inl (.inl hL1)), rfl, z, alls, rfl, by decide, fun H' s => ?_⟩
              have k : ∀ H', Same H H' → Q (.bl (ascS z alls && inN m 0 22)) H' := k
              refine ⟨_, rfl, ?_⟩
              cases e : ascS z alls with
              | false =>
                rw [e] at k
                exact iteF (k _ (s2.trans s))
              | true =>
                rw [e] at k
                exact iteT ⟨_, rfl, _, _, 1, _, rfl, rfl, .inl (.inl (s _ _ hL1)), rfl, m, 0, 22, rfl, k _ (s2.trans s)⟩
    | shore l m n =>
      cases hD with
      | tup hS hA =>
        cases hA with
        | cons h1 hA =>
          cases h1
          cases hA with
          | cons g0 hA =>
            cases hA with
            | cons g1 hA =>
              cases hA with
              | cons g2 hA =>
                cases hA
                have e0 := dp_nm g0
                subst e0
                have e1 := dp_nm g1
                subst e1
                have e2 := dp_nm g2
                subst e2
                refine ⟨_, rfl, _, _, _, rfl, hS, fun L hL => ?_⟩
                refine ⟨_, _, rfl, _, _, rfl, rfl, ?_⟩
                have s0 := Same.new (Same.refl H) hL (o := .lst [l.v, m.v, n.v])
                refine ⟨_, rfl, rfl, _, rfl, iteF' (by rw [wtest]; show decide (Str.ofString "shore" = Str.ofString "turn") = false; decide +kernel) ?_⟩
                refine ⟨_, rfl, rfl, _, rfl, iteF' (by rw [wtest]; show decide (Str.ofString "shore" = Str.ofString "walk") = false; decide +kernel) ?_⟩
                refine ⟨_, rfl, by show 2 ≤ sizeLine; decide, fun p hp => ⟨p, _, rfl, .inr (.inl (.inl upd_same)), rfl, rfl, _, rfl, iteF' (by show inV (V.str (Str.ofString "shore")) [V.str (Str.ofString "until"), V.str (Str.ofString "toward")] = false; decide +kernel) ?_⟩⟩
                have s1 := Same.new (Same.refl _) hp (o := .tup [V.str (Str.ofString "until"), V.str (Str.ofString "toward")])
                have hL1 := s1 _ _ upd_same
                have s2 := s0.trans s1
                refine ⟨_, rfl, rfl, _, rfl, iteF' (by rw [wtest]; show decide (Str.ofString "shore" = Str.ofString "beside") = false; decide +kernel) ?_⟩
                refine ⟨_, rfl, rfl, _, rfl, iteF' (by rw [wtest]; show decide (Str.ofString "shore" = Str.ofString "near") = false; decide +kernel) ?_⟩
                refine ⟨_, rfl, rfl, _, rfl, iteT' (by rw [wtest]; show decide (Str.ofString "shore" = Str.ofString "shore") = true; decide +kernel) ?_⟩
                refine ⟨_, rfl, _, _, 0, _, rfl, rfl, (.inl (.inl hL1)), rfl, l, rfl, _, rfl, ?_⟩
                have k : ∀ H', Same H H' → Q (.bl (side l && paces m n)) H' := k
                cases e : side l with
                | false =>
                  rw [e] at k
                  exact iteF (k _ s2)
                | true =>
                  rw [e] at k
                  exact iteT ⟨_, rfl, _, _, 1, _, rfl, rfl, (.inl (.inl hL1)), rfl, _, rfl, _, _, 2, _, rfl, rfl, (.inl (.inl hL1)), rfl, m, n, rfl, k _ s2⟩
end
end Om

namespace Om
open PySem PySem.Spec PyProof.Rows L2
/-! ### _check_instructions -/
theorem PI_or {X : Cx} {tg e : Expr} {w1 w2 : TI} (h1 : PI X tg e w1) (h2 : PI X tg e w2) : PI X tg e (fun σ H R => w1 σ H R ∨ w2 σ H R) := ⟨fun pins s σ H R I h => h.elim (fun h => h1.run pins s σ H R I h) fun h => h2.run pins s σ H R I h⟩
theorem walk_enumL {K : PySem.W.Frag} {a : Addr} {xs : List V} : Walk (Ite K a) xs.length (fun H => SqL K H a xs) (YEnum fun i => xs[i]?) where
  goes := fun i H hi q => ⟨xs, xs[i], q, List.getElem?_eq_getElem _⟩
  stops := fun H q => ⟨xs, q, Nat.le_refl _⟩
  yields := fun i H v H' _ q y => by
    obtain ⟨T, x, h1, h2, h3, h4⟩ := y
    exact ⟨T, x, h1, h2, h3, h4 xs q⟩
structure IsM (K : PySem.W.Frag) (mg : Str → Option Value) (C fI : Addr) : Prop where
  oex : OexC K C
  noI : PySem.W.findIn K (.ref C) "index" = some none
  iC : PySem.W.findIn K (.ref C) "__init__" = some (some (.ref fI))
  tI : PySem.W.typeIn K (.ref fI) = some (.type "function")
  gC : mg "InvalidMap" = some (.ref C)
def xdIM (x : V) : List (Str × V) := [(("index" : Str), x)]
def spIM (C : Addr) : Sp := fun vs H Q _ => ∃ (a : Addr) (x : V), vs = [.ref a, x] ∧ H a = some (exo a C none) ∧ ∀ dx, H dx = none → dx ≠ a → Q .non (upd (upd H dx (exd dx (xdIM x))) a (exo a C (some dx)))
theorem mkIM {C : Addr} {H1 : Hp} {W : XK} {x : V} (k : ∀ d H', H1 d = none → Same H1 H' → H' d = some (.xd (xdIM x)) → W (.ref C) (some d) H') :
    [x].length ≤ 1000 ∧ ∀ a, H1 a = none → spIM C (.ref a :: ([x] ++ [])) (upd H1 a (exo a C none)) (fun v H2 => v = .non ∧ ∃ (d : Addr) (fs : List (Str × V)), H2 a = some (exo a C (some d)) ∧ H2 d = some (exd d fs) ∧ H1 d = none ∧ W (.ref C) (some d) (upd (del H2 a) d (.xd fs))) (fun _ _ _ => False) := by
  refine ⟨by simp, fun a ha => ⟨a, x, rfl, upd_same, fun dx h1 h2 => ⟨rfl, dx, _, upd_same, (by rw [upd_ne h2]; exact upd_same), ?_, ?_⟩⟩⟩
  · rw [upd_ne h2] at h1; exact h1
  · rw [upd_ne h2] at h1
    refine k dx _ h1 (fun c o hc => ?_) upd_same
    have n1 : c ≠ dx := ne_of_none hc h1
    have n2 : c ≠ a := ne_of_none hc ha
    rw [upd_ne n1, del_ne n2, upd_ne n2, upd_ne n1, upd_ne n2]
    exact hc
abbrev sIM : Stmt := inClass (top 11) 0
def chkI : List Ins → Nat → Option Nat
  | [], _ => none
  | x :: r, i => if i = 20 then some i else if x.ok = true then chkI r (i + 1) else some i
/-- instructions in a list or a tuple -/
def InsAt (K : PySem.W.Frag) (H : Hp) (a : Addr) (is : List Ins) : Prop := ∃ xs, (SqL K H a xs ∨ SqT K H a xs) ∧ DpAll K H xs (is.map Ins.d)
theorem InsAt.same {K : PySem.W.Frag} {H H' : Hp} {a : Addr} {is : List Ins} (h : InsAt K H a is) (s : Same H H') : InsAt K H' a is := by
  obtain ⟨xs, h1, h2⟩ := h
  exact ⟨xs, h1.elim (fun h => .inl (Same.lst s h)) fun h => .inr (Same.tup s h), Same.dpAll s h2⟩
structure SmI (is : List Ins) : Prop where
  len : is.length ≤ 1000
  all : ∀ i ∈ is, i.small = true
def spChkI (K : PySem.W.Frag) (C : Addr) : Sp := fun vs H Q E => ∃ (a : Addr) (is : List Ins), vs = [.ref a] ∧ InsAt K H a is ∧ SmI is ∧
  (chkI is 0 = none → ∀ H', Same H H' → Q .non H') ∧ ∀ n, chkI is 0 = some n → ∀ d H', H d = none → Same H H' → H' d = some (.xd (xdIM (.int (n : Nat)))) → E (.ref C) (some d) H'
abbrev sChkI : Stmt := top 56
section
variable {P : Program} {w : World} {K : PySem.W.Frag} {mg : Str → Option Value} {base : Heap} {C fI : Addr}
theorem scIM : FnScope ["self", "index"] ["self", "index"] (defScope sIM) := ⟨rfl, rfl, rfl, by decide +kernel, rfl, by decide +kernel, by decide +kernel⟩
theorem ok_IM {fd : FuncData} (F : FnP K "__init__" "InvalidMap.__init__" sIM fI fd) (T : IsM K mg C fI) : FnOk P w K mg base CX0 1 fI fd ["self", "index"] (spIM C) := by
  refine F.ok scIM (fun vs H Q E h => ?_) (fun cdv A outer s H vs Q E hr h => ?_)
  · obtain ⟨a, x, rfl, _⟩ := h
    rfl
  · obtain ⟨a, x, rfl, ha, k⟩ := h
    refine ⟨_, PSs.nox (pss_one (ps_ost (pv 0) (pv 1))), ?_⟩
    exact ⟨_, rfl, _, rfl, a, C, rfl, T.oex, T.noI, .inl ⟨ha, fun dx h1 h2 => k dx h1 h2⟩⟩
abbrev nChkI : List Str := ["instructions", "index", "instruction"]
theorem scChkI : FnScope nChkI ["instructions"] (defScope sChkI) := ⟨rfl, rfl, rfl, by decide +kernel, rfl, by decide +kernel, by decide +kernel⟩
theorem ok_chkI {f : Addr} {fd fdI : FuncData} (F : FnP K "_check_instructions" "_check_instructions" sChkI f fd) (T : IsM K mg C fI) (FI : FnOk P w K mg base CX0 1 fI fdI ["self", "index"] (spIM C)) (bI : Binds K fdI ["self", "index"] [])
    (G : Cal P w K mg base CX0 3 "is_instruction" ["instruction"] (spIsIns K)) (genum : mg "enumerate" = none) (gm : ∃ t, mg "MOST_INSTRUCTIONS" = some (.int 20 t)) : FnOk P w K mg base (L2.CX P w) 4 f fd ["instructions"] (spChkI K C) := by
  obtain ⟨t0, gm⟩ := gm
  refine F.ok scChkI (fun vs H Q E h => ?_) (fun cdv A outer s H vs Q E hr h => ?_)
  · obtain ⟨a, is, rfl, _⟩ := h
    rfl
  · obtain ⟨a, is, rfl, ⟨xs, hS, hD⟩, sm, kN, kS⟩ := h
    have nd := scChkI.nd
    refine ⟨_, pss_one (ps_for (passes_of rfl) rfl (PI_or (pi_enum rfl genum (pa_cons (pv 0) pa_nil)) (pi_enumT rfl genum (pa_cons (pv 0) pa_nil))) (pg_tup rfl (pgs_cons (pg_name (i := 1) nd rfl (.inl rfl)) (pgs_cons (pg_name (i := 2) nd rfl (.inl rfl)) pgs_nil)))
        (pss_one (ps_if (PW.pt (pw_or (pt_cmpR op_eq (pv 1) (pe_glob (v := .int 20) rfl gm ⟨_, rfl⟩) (nomark _)) (pw_or1 (pt_not (pt_val (pe_cal G hr pass0 (pa_cons (pv 2) pa_nil)))))))
            (pss_one (ps_raise rfl (takes_of rfl rfl rfl rfl) (pmk_oex T.oex T.iC T.tI FI (hr.mono (by decide)) bI .nil pass0 rfl T.gC (pa_cons (pv 1) pa_nil)))) pss_nil))), ?_⟩
    have hlen := dpAll_len hD
    rw [List.length_map] at hlen
    let Pv : Nat → L2.St → Hp → Prop := fun i σ H' => Same H H' ∧ (∃ v1 v2, σ = [some (.ref a), v1, v2]) ∧ chkI is 0 = chkI (is.drop i) i
    have h0 : Pv 0 (start nChkI [V.ref a]) H := ⟨Same.refl H, ⟨_, _, rfl⟩, rfl⟩
    rcases hS with hS | hS
    · refine .inl ⟨_, rfl, a, _, rfl, hS, for_it (walk_enumL (K := K) (a := a) (xs := xs)) Pv h0 (fun i σ H' _ p => Same.lst p.1 hS) ?_ ?_⟩
      · rintro i x σ H1 H2 hi ⟨s1, ⟨v1, v2, rfl⟩, hc⟩ ⟨T1, y, rfl, hT, rfl, hy⟩
        have hi2 : i < is.length := by omega
        have hii : is[i]? = some is[i] := by simp [hi2]
        have hid : (is.map Ins.d)[i]? = some (is[i]).d := by rw [List.getElem?_map, hii]; rfl
        obtain ⟨u, hu, hdu⟩ := dpAll_at hD hid
        have hy : xs[i]? = some y := hy
        obtain rfl : y = u := by rw [hy] at hu; exact Option.some.inj hu
        rw [List.drop_eq_getElem_cons hi2] at hc
        have s2 : Same H (upd H1 T1 (.tup [.int (i : Nat), y])) := Same.new s1 hT
        refine ⟨T1, _, rfl, .inl (.inl upd_same), rfl, _, _, rfl, _, _, rfl, rfl, ?_⟩
        refine ⟨_, rfl, rfl, _, rfl, ?_⟩
        have hc : chkI is 0 = if i = 20 then some i else if (is[i]).ok = true then chkI (is.drop (i + 1)) (i + 1) else some i := hc
        refine ite2 (fun hz => ?_) (fun hz => ?_)
        · have hz := of_decide_eq_true hz
          injection hz with hz
          have hi20 : i = 20 := by omega
          rw [if_pos hi20] at hc
          exact iteT ⟨_, rfl, mkIM (W := E) fun d H' h1 h2 h3 => kS i hc d H' (Same.free s2 h1) (s2.trans h2) h3⟩
        · have hi20 : i ≠ 20 := fun h => hz (decide_eq_true (by rw [h]; rfl))
          rw [if_neg hi20] at hc
          refine ⟨_, rfl, y, is[i], rfl, Same.dp s2 hdu, sm.all _ (List.getElem_mem hi2), fun H3 s3 => ⟨_, rfl, ?_⟩⟩
          cases ho : (is[i]).ok with
          | true =>
            rw [ho, if_pos rfl] at hc
            exact iteF ⟨s2.trans s3, ⟨_, _, rfl⟩, hc⟩
          | false =>
            rw [ho, if_neg Bool.false_ne_true] at hc
            exact iteT ⟨_, rfl, mkIM (W := E) fun d H' h1 h2 h3 => kS i hc d H' (Same.free (s2.trans s3) h1) ((s2.trans s3).trans h2) h3⟩
      · rintro σ H1 ⟨s1, ⟨v1, v2, rfl⟩, hc⟩
        have e0 : is.drop xs.length = [] := List.drop_eq_nil_of_le (by omega)
        rw [e0] at hc
        exact kN hc H1 s1
    · refine .inr ⟨_, rfl, a, _, rfl, hS, for_it (walk_enumT (K := K) (a := a) (xs := xs)) Pv h0 (fun i σ H' _ p => Same.tup p.1 hS) ?_ ?_⟩
      · rintro i x σ H1 H2 hi ⟨s1, ⟨v1, v2, rfl⟩, hc⟩ ⟨T1, y, rfl, hT, rfl, hy⟩
        have hi2 : i < is.length := by omega
        have hii : is[i]? = some is[i] := by simp [hi2]
        have hid : (is.map Ins.d)[i]? = some (is[i]).d := by rw [List.getElem?_map, hii]; rfl
        obtain ⟨u, hu, hdu⟩ := dpAll_at hD hid
        have hy : xs[i]? = some y := hy
        obtain rfl : y = u := by rw [hy] at hu; exact Option.some.inj hu
        rw [List.drop_eq_getElem_cons hi2] at hc
        have s2 : Same H (upd H1 T1 (.tup [.int (i : Nat), y])) := Same.new s1 hT
        refine ⟨T1, _, rfl, .inl (.inl upd_same), rfl, _, _, rfl, _, _, rfl, rfl, ?_⟩
        refine ⟨_, rfl, rfl, _, rfl, ?_⟩
        have hc : chkI is 0 = if i = 20 then some i else if (is[i]).ok = true then chkI (is.drop (i + 1)) (i + 1) else some i := hc
        refine ite2 (fun hz => ?_) (fun hz => ?_)
        · have hz := of_decide_eq_true hz
          injection hz with hz
          have hi20 : i = 20 := by omega
          rw [if_pos hi20] at hc
          exact iteT ⟨_, rfl, mkIM (W := E) fun d H' h1 h2 h3 => kS i hc d H' (Same.free s2 h1) (s2.trans h2) h3⟩
        · have hi20 : i ≠ 20 := fun h => hz (decide_eq_true (by rw [h]; rfl))
          rw [if_neg hi20] at hc
          refine ⟨_, rfl, y, is[i], rfl, Same.dp s2 hdu, sm.all _ (List.getElem_mem hi2), fun H3 s3 => ⟨_, rfl, ?_⟩⟩
          cases ho : (is[i]).ok with
          | true =>
            rw [ho, if_pos rfl] at hc
            exact iteF ⟨s2.trans s3, ⟨_, _, rfl⟩, hc⟩
          | false =>
            rw [ho, if_neg Bool.false_ne_true] at hc
            exact iteT ⟨_, rfl, mkIM (W := E) fun d H' h1 h2 h3 => kS i hc d H' (Same.free (s2.trans s3) h1) ((s2.trans s3).trans h2) h3⟩
      · rintro σ H1 ⟨s1, ⟨v1, v2, rfl⟩, hc⟩
        have e0 : is.drop xs.length = [] := List.drop_eq_nil_of_le (by omega)
        rw [e0] at hc
        exact kN hc H1 s1
end
end Om

namespace Om
open PySem PySem.Spec PyProof.Rows L2
/-! ### Map.__init__ -/
def mapFs (li : Addr) (sg : Str) (lf lt : Addr) : List (Str × V) := putF "_instructions" (.ref lt) (putF "_facings" (.ref lf) (putF "_signs" (.str sg) (putF "_island" (.ref li) [])))
structure MapF (K : PySem.W.Frag) (mg : Str → Option Value) (CM fM : Addr) : Prop where
  cl : Cls K CM
  n1 : NoAttr K CM "_island"
  n2 : NoAttr K CM "_signs"
  n3 : NoAttr K CM "_facings"
  n4 : NoAttr K CM "_instructions"
  made : Mk K CM fM
  gM : mg "Map" = some (.ref CM)
def mapBad (sg : List Nat) (fs : List Nm) (is : List Ins) : Option Int := if (ascS sg lands && ascN fs 0 3) = true then (chkI is 0).map fun n => ((n : Nat) : Int) else some (-1)
/-- all but the object at p stay -/
def Ex1 (p : Addr) (H H' : Hp) : Prop := ∀ b o, H b = some o → b ≠ p → H' b = some o
theorem Ex1.trans {p : Addr} {H H1 H2 : Hp} (a : Ex1 p H H1) (b : Ex1 p H1 H2) : Ex1 p H H2 := fun c o h n => b c o (a c o h n) n
theorem Same.ex1 {p : Addr} {H H' : Hp} (s : Same H H') : Ex1 p H H' := fun b o h _ => s b o h
theorem ex1_upd {p : Addr} {H : Hp} {o : HO} : Ex1 p H (upd H p o) := fun b u h n => by rw [upd_ne n]; exact h
section
variable {K : PySem.W.Frag} {H H' : Hp} {p a C dx : Addr} {fs : List (Str × V)} {xs : List V}
theorem Ex1.tup (e : Ex1 p H H') (hp : H p = some (.ins C dx fs)) (h : SqT K H a xs) : SqT K H' a xs := by
  rcases h with (h | ⟨o, h⟩) | h
  · exact .inl (.inl (e _ _ h fun z => by rw [z, hp] at h; cases h))
  · exact .inl (.inr ⟨o, e _ _ h fun z => by rw [z, hp] at h; cases h⟩)
  · exact .inr h
theorem Ex1.lst (e : Ex1 p H H') (hp : H p = some (.ins C dx fs)) (h : SqL K H a xs) : SqL K H' a xs := by
  rcases h with (h | ⟨o, h⟩) | h
  · exact .inl (.inl (e _ _ h fun z => by rw [z, hp] at h; cases h))
  · exact .inl (.inr ⟨o, e _ _ h fun z => by rw [z, hp] at h; cases h⟩)
  · exact .inr h
theorem Ex1.dpAll {ds : List PyData} (e : Ex1 p H H') (hp : H p = some (.ins C dx fs)) (h : DpAll K H xs ds) : DpAll K H' xs ds := dpAll_mono (fun _ _ h => Ex1.tup e hp h) (fun _ _ h => Ex1.lst e hp h) h
theorem Ex1.insAt {is : List Ins} (e : Ex1 p H H') (hp : H p = some (.ins C dx fs)) (h : InsAt K H a is) : InsAt K H' a is := by
  obtain ⟨xs, h1, h2⟩ := h
  exact ⟨xs, h1.elim (fun h => .inl (e.lst hp h)) fun h => .inr (e.tup hp h), e.dpAll hp h2⟩
end
theorem putF_len (f : Str) (v : V) : ∀ fs : List (Str × V), (putF f v fs).length ≤ fs.length + 1
  | [] => by simp [putF]
  | (g, x) :: r => by
    have ih := putF_len f v r
    show (if g = f then (g, v) :: r else (g, x) :: putF f v r).length ≤ _
    split
    · simp
    · simp only [List.length_cons]
      omega
def spMapI (K : PySem.W.Frag) (CM CB : Addr) : Sp := fun vs H Q E => ∃ (p dx li lf a : Addr) (sg : List Nat) (fs : List Nm) (is : List Ins), vs = [.ref p, .ref li, .str (tx sg), .ref lf, .ref a] ∧ H p = some (.ins CM dx []) ∧ SqT K H lf (fs.map Nm.v) ∧ fs.length ≤ 1000 ∧ InsAt K H a is ∧ SmI is ∧
  (mapBad sg fs is = none → ∀ t xs H', Ex1 p H H' → SqT K H' t xs → DpAll K H' xs (is.map Ins.d) → H' p = some (.ins CM dx (mapFs li (tx sg) lf t)) → Q .non H') ∧
  ∀ n, mapBad sg fs is = some n → ∀ d H', H d = none → Same H H' → H' d = some (.xd (xdIM (.int n))) → E (.ref CB) (some d) H'
abbrev sMapM (i : Nat) : Stmt := inClass (top 55) i
abbrev nMapI : List Str := ["self", "island", "signs", "facings", "instructions"]
section
variable {P : Program} {w : World} {K : PySem.W.Frag} {mg : Str → Option Value} {base : Heap} {CM CB fM fI : Addr}
theorem scMapI : FnScope nMapI nMapI (defScope (sMapM 0)) := ⟨rfl, rfl, rfl, by decide +kernel, rfl, by decide +kernel, by decide +kernel⟩
theorem ok_mapI {fd fdI : FuncData} (F : FnP K "__init__" "Map.__init__" (sMapM 0) fM fd) (T : MapF K mg CM fM) (B : IsM K mg CB fI) (FI : FnOk P w K mg base CX0 1 fI fdI ["self", "index"] (spIM CB)) (bI : Binds K fdI ["self", "index"] [])
    (GC : Cal P w K mg base (L2.CX P w) 4 "_check_instructions" ["instructions"] (spChkI K CB)) (GN : Cal P w K mg base CX0 2 "ascending_numbers" ["numbers", "least", "most"] (spAscN K)) (GS : Cal P w K mg base CX0 1 "ascending_signs" ["text", "allowed"] spAscS)
    (gl : ∃ t, mg "LAND_SIGNS" = some (.str (tx lands) t)) (gtuple : mg "tuple" = none) : FnOk P w K mg base (L2.CX P w) 5 fM fd nMapI (spMapI K CM CB) := by
  obtain ⟨t0, gl⟩ := gl
  refine F.ok scMapI (fun vs H Q E h => ?_) (fun cdv A outer s H vs Q E hr h => ?_)
  · obtain ⟨p, dx, li, lf, a, sg, fs, is, rfl, _⟩ := h
    rfl
  · obtain ⟨p, dx, li, lf, a, sg, fs, is, rfl, hp, hF, hfl, hI, sm, kN, kS⟩ := h
    have nd := scMapI.nd
    refine ⟨_, pss_cons (ps_if (PW.pt (pw_or (pt_not (pt_val (pe_cal GS (hr.mono (by decide)) pass0 (pa_cons (pv 2) (pa_cons (pe_glob (v := .str (tx lands)) rfl gl ⟨_, rfl⟩) pa_nil)))))
          (pw_or1 (pt_not (pt_val (pe_cal GN (hr.mono (by decide)) pass0 (pa_cons (pv 3) (pa_cons pe_int (pa_cons pe_int pa_nil)))))))))
        (pss_one (ps_raise rfl (takes_of rfl rfl rfl rfl) (pmk_oex B.oex B.iC B.tI FI (hr.mono (by decide)) bI .nil pass0 rfl B.gC (pa_cons (pe_un un_neg pe_int) pa_nil)))) pss_nil)
      (pss_cons (ps_expr (pe_cal GC hr (E := E) (passes_call (W := fun cls d _ H => E cls d H) (takes_of rfl rfl rfl rfl) fun _ _ _ _ h => h) (pa_cons (pv 4) pa_nil)))
      (pss_cons (ps_fld (pv 0) (pv 1) rfl) (pss_cons (ps_fld (pv 0) (pv 2) rfl)
      (pss_cons (ps_fld (pv 0) (pe_callTy call_tuple_of (by rfl) gtuple (by decide +kernel) (pa_cons (pv 3) pa_nil)) rfl)
      (pss_one (ps_fld (pv 0) (pe_callTy call_tuple_of (by rfl) gtuple (by decide +kernel) (pa_cons (pv 4) pa_nil)) rfl)))))), ?_⟩
    refine ⟨_, rfl, sg, lands, rfl, by decide, fun H1 s1 => ⟨_, rfl, ?_⟩⟩
    unfold mapBad at kN kS
    cases e1 : ascS sg lands with
    | false =>
      rw [e1] at kS
      refine iteT' rfl (iteT' rfl ?_)
      exact ⟨_, rfl, mkIM (W := E) fun d H' h1 h2 h3 => kS (-1) (by simp) d H' (Same.free s1 h1) (s1.trans h2) h3⟩
    | true =>
      rw [e1] at kS kN
      refine iteF' rfl ?_
      refine ⟨_, rfl, lf, fs, 0, 3, rfl, Same.tup s1 hF, hfl, fun H2 s2 => ⟨_, rfl, ?_⟩⟩
      cases e2 : ascN fs 0 3 with
      | false =>
        rw [e2] at kS
        refine iteT' rfl ?_
        exact ⟨_, rfl, mkIM (W := E) fun d H' h1 h2 h3 => kS (-1) (by simp) d H' (Same.free (s1.trans s2) h1) ((s1.trans s2).trans h2) h3⟩
      | true =>
        rw [e2] at kS kN
        refine iteF' rfl ?_
        have s12 := s1.trans s2
        refine ⟨_, rfl, a, is, rfl, hI.same s12, sm, fun ec H3 s3 => ?_, fun n ec d H' h1 h2 h3 => kS n (by simp [ec]) d H' (Same.free s12 h1) (s12.trans h2) h3⟩
        have s13 := s12.trans s3
        have kN := kN (by simp [ec])
        have hp3 := s13 _ _ hp
        refine ⟨_, rfl, _, rfl, p, CM, dx, [], rfl, hp3, T.cl, T.n1, by decide, ?_⟩
        have l1 := putF_len "_island" (.ref li) []
        have l2 := putF_len "_signs" (.str (tx sg)) (putF "_island" (.ref li) [])
        have l3 := putF_len "_facings" (.ref lf) (putF "_signs" (.str (tx sg)) (putF "_island" (.ref li) []))
        simp only [List.length_nil] at l1
        have q1 : Ex1 p H3 (upd H3 p (.ins CM dx (putF "_island" (.ref li) []))) := ex1_upd
        refine ⟨_, rfl, _, rfl, p, CM, dx, _, rfl, upd_same, T.cl, T.n2, by omega, ?_⟩
        have q2 := q1.trans (ex1_upd (o := .ins CM dx (putF "_signs" (.str (tx sg)) (putF "_island" (.ref li) []))))
        refine ⟨_, rfl, lf, _, rfl, .inr ⟨q2.tup hp3 (Same.tup s13 hF), ?_⟩⟩
        refine ⟨_, rfl, p, CM, dx, _, rfl, upd_same, T.cl, T.n3, by omega, ?_⟩
        have q3 := q2.trans (ex1_upd (o := .ins CM dx (putF "_facings" (.ref lf) (putF "_signs" (.str (tx sg)) (putF "_island" (.ref li) [])))))
        obtain ⟨xs, hxs, hD⟩ := q3.insAt hp3 (hI.same s13)
        have e13 := (Same.ex1 (p := p) s13).trans q3
        rcases hxs with hxs | hxs
        · refine ⟨_, rfl, a, xs, rfl, .inl ⟨hxs, fun t ht => ?_⟩⟩
          have s4 := Same.new (Same.refl _) ht (o := .tup xs)
          refine ⟨_, rfl, p, CM, dx, _, rfl, s4 _ _ upd_same, T.cl, T.n4, by omega, ?_⟩
          have q5 := e13.trans ((Same.ex1 s4).trans (ex1_upd (o := .ins CM dx (mapFs li (tx sg) lf t))))
          have htp : t ≠ p := fun z => by rw [z, upd_same] at ht; cases ht
          exact kN t xs _ q5 (.inl (.inl (by rw [upd_ne htp]; exact upd_same))) ((ex1_upd (p := p)).dpAll (s4 _ _ upd_same) (Same.dpAll s4 hD)) upd_same
        · refine ⟨_, rfl, a, xs, rfl, .inr ⟨hxs, ?_⟩⟩
          refine ⟨_, rfl, p, CM, dx, _, rfl, upd_same, T.cl, T.n4, by omega, ?_⟩
          have q5 := e13.trans (ex1_upd (o := .ins CM dx (mapFs li (tx sg) lf a)))
          exact kN a xs _ q5 ((ex1_upd (p := p)).tup upd_same hxs) ((ex1_upd (p := p)).dpAll upd_same hD) upd_same
end
end Om

namespace Om
open PySem PySem.Spec PyProof.Rows L2
/-! ### own __add__ with a list -/
theorem binop_KL {K : PySem.W.Frag} {prog : Program} {w : World} {A : Around} {E : Value → Shared → Prop} {s : Shared} {x C L f b : Addr} {h₀ : Heap} {m : Str → Option Value} {ox : Obj} {od : Option Obj} {Q : Value → Shared → Prop} (F : Fr h₀ L s.heap m) (X₀ : K.In h₀) (I : PySem.W.InstAt s.heap x ox C od)
    (hb : s.TypeIs (.ref b) "list") (hc : PySem.W.selfFirst K C = true) (hs : PySem.W.findIn K (.ref C) "__add__" = some (some (.ref f))) (hf : PySem.W.isFn K (.ref f) = true)
    (h : wpAny (model prog w) A (call (.ref f) [.ref x, .ref b]) (PySem.W.CmpBack Q) E s) : wpAny (model prog w) A (binaryOp .Add (.ref x) (.ref b)) Q E s := by
  have X := X₀.keeps F.keep
  obtain ⟨cd, hcd, hm⟩ := PySem.W.any_some hc
  obtain ⟨rest, hm⟩ : ∃ rest, cd.mro = .ref C :: rest := by
    cases q : cd.mro with
    | nil => rw [q] at hm; cases hm
    | cons a r => rw [q] at hm; exact ⟨r, by rw [List.head?_cons] at hm; cases (beq_iff_eq.mp hm); rfl⟩
  have e1 : (Value.ref C == Value.type "list") = false := by simp
  unfold binaryOp
  refine wpAny_holding (wpAny_bind ?_)
  unfold binaryOp1
  refine wpAny_bind (I.type.here (wpAny_bind (wpAny_typeOf hb (wpAny_bind ((PySem.W.fills_K (nm := "add") X hcd hm hs).here ?_)))))
  rw [e1]
  simp only [Bool.false_eq_true, if_false]
  refine wpAny_bind (wpAny_of_eq PySem.noFill_list_add ?_)
  simp only [Bool.and_false, Bool.false_eq_true, if_false, Bool.false_and]
  refine wpAny_bind (wpAny_pure ?_)
  simp only [Bool.false_eq_true, if_false]
  refine wpAny_bind (m := tryMethod (.ref x) _ (.ref b)) ?_
  unfold tryMethod
  refine wpAny_bind (PySem.W.special_fn X I hs (beq_iff_eq.mp hf) (wpAny_mono h (fun v s' hv => ?_) fun _ _ e => e))
  cases v <;> first | exact hv.elim | exact wpAny_pure (wpAny_pure (wpAny_pure hv))
section
variable {X : Cx} {CX : CXT} {k : Nat} {C f : Addr} {fd : FuncData} {ps : List Str} {sp : Sp} {E : XK}
/-- o + a list, what is given an object -/
def rAddOwn (K : PySem.W.Frag) (C : Addr) (sp : Sp) (E : XK) : R2 := fun x y H Q => ∃ a dx fs b ys, x = .ref a ∧ H a = some (.ins C dx fs) ∧ y = .ref b ∧ SqL K H b ys ∧ sp [x, y] H (fun v H' => ∃ c, v = .ref c ∧ Q v H') E
theorem op_addOwn (M : OwnM X.K C "__add__" f) (hc : PySem.W.selfFirst X.K C = true) (F : FnOk X.prog X.w X.K X.mg X.base CX k f fd ps sp) (hr : Room k X.A) (hb : Binds X.K fd ps []) (hx : Passes CX X E) : OpR X (binaryOp .Add) (rAddOwn X.K C sp E) := by
  intro pins s σ H x y v u Q I rx ry h
  obtain ⟨p, dx, fs, b, ys, rfl, hp, rfl, hl, q⟩ := h
  cases rx
  cases ry
  obtain ⟨mA, J, _⟩ := ins_get I.hok hp
  obtain ⟨od, J, _⟩ := J.look
  obtain ⟨m, hF⟩ := I.fr
  obtain ⟨its, rv, pl, _⟩ := I.list hl
  refine binop_KL hF I.ok.mod.kin J pl.isList.typeIs hc M.at_ M.fn (wpAny_mono (run_fnS F ⟨hr, rfl⟩ hb hx I (.cons (show RelV (V.ref p) (Value.ref p) from rfl) (.cons (show RelV (V.ref b) (Value.ref b) from rfl) .nil)) q) (fun r s' z => ?_) fun _ _ z => z)
  obtain ⟨z, H', I', rz, c, ez, q⟩ := z
  subst ez
  cases rz
  exact ⟨.ref c, H', I', rfl, q⟩
end
/-! ### a chart -/
def Mp (K : PySem.W.Frag) (CM CI : Addr) (H : Hp) (a : Addr) (rows : List (List Nat)) (sg : List Nat) (fs : List Nm) (is : List Ins) : Prop :=
  ∃ dx li lf lt xs, H a = some (.ins CM dx (mapFs li (tx sg) lf lt)) ∧ Isl K CI H li rows ∧ SqT K H lf (fs.map Nm.v) ∧ SqT K H lt xs ∧ DpAll K H xs (is.map Ins.d)
theorem Mp.same {K : PySem.W.Frag} {CM CI a : Addr} {H H' : Hp} {rows : List (List Nat)} {sg : List Nat} {fs : List Nm} {is : List Ins} (h : Mp K CM CI H a rows sg fs is) (s : Same H H') : Mp K CM CI H' a rows sg fs is := by
  obtain ⟨dx, li, lf, lt, xs, h1, h2, h3, h4, h5⟩ := h
  exact ⟨dx, li, lf, lt, xs, s _ _ h1, h2.same s, Same.tup s h3, Same.tup s h4, Same.dpAll s h5⟩
theorem mapFs_i (li : Addr) (sg : Str) (lf lt : Addr) : (mapFs li sg lf lt).lookup ("_island" : Str) = some (.ref li) := by
  unfold mapFs
  rw [lookup_putF, if_neg (by decide +kernel), lookup_putF, if_neg (by decide +kernel), lookup_putF, if_neg (by decide +kernel), lookup_putF, if_pos rfl]
theorem mapFs_s (li : Addr) (sg : Str) (lf lt : Addr) : (mapFs li sg lf lt).lookup ("_signs" : Str) = some (.str sg) := by
  unfold mapFs
  rw [lookup_putF, if_neg (by decide +kernel), lookup_putF, if_neg (by decide +kernel), lookup_putF, if_pos rfl]
theorem mapFs_f (li : Addr) (sg : Str) (lf lt : Addr) : (mapFs li sg lf lt).lookup ("_facings" : Str) = some (.ref lf) := by
  unfold mapFs
  rw [lookup_putF, if_neg (by decide +kernel), lookup_putF, if_pos rfl]
theorem mapFs_t (li : Addr) (sg : Str) (lf lt : Addr) : (mapFs li sg lf lt).lookup ("_instructions" : Str) = some (.ref lt) := by
  unfold mapFs
  rw [lookup_putF, if_pos rfl]
/-- Map(island, signs, facings, instructions) -/
theorem mk_map {K : PySem.W.Frag} {CM CI CB : Addr} {σ : L2.St} {H : Hp} {Q : VK} {E : XK} {ta : TA} {rows : List (List Nat)} {sg : List Nat} {fs : List Nm} {is : List Ins} (hfl : fs.length ≤ 1000) (sm : SmI is)
    (hta : ∀ Qa : List V → Hp → Prop, (∀ li lf a H', Same H H' → Isl K CI H' li rows → SqT K H' lf (fs.map Nm.v) → InsAt K H' a is → Qa [.ref li, .str (tx sg), .ref lf, .ref a] H') → ta σ H Qa)
    (kN : mapBad sg fs is = none → ∀ x H', Same H H' → H x = none → Mp K CM CI H' x rows sg fs is → Q (.ref x) H')
    (kE : ∀ n, mapBad sg fs is = some n → ∀ d H', H d = none → Same H H' → H' d = some (.xd (xdIM (.int n))) → E (.ref CB) (some d) H') : tMake CM (spMapI K CM CB) [] E ta σ H Q := by
  show ta σ H fun vs H1 => ∀ x dx, H1 x = none → H1 dx = none → dx ≠ x → spMapI K CM CB (.ref x :: (vs ++ [])) (upd (upd H1 dx (.own x)) x (.ins CM dx [])) (fun v H2 => v = .non ∧ Q (.ref x) H2) E
  refine hta _ fun li lf a H1 s1 hI hF hA x dx hx hdx hne => ?_
  have s2 : Same H1 (upd (upd H1 dx (.own x)) x (.ins CM dx [])) := fun c o hc => by
    rw [upd_ne (ne_of_none hc hx), upd_ne (ne_of_none hc hdx)]
    exact hc
  have hx0 : H x = none := Same.free s1 hx
  refine ⟨x, dx, li, lf, a, sg, fs, is, rfl, upd_same, Same.tup s2 hF, hfl, hA.same s2, sm, fun e t xs H2 k1 k2 k3 k4 => ⟨rfl, ?_⟩, fun n e d H2 h1 h2 h3 => ?_⟩
  · have s3 : Same H1 H2 := fun c o hc => k1 c o (s2 c o hc) (ne_of_none hc hx)
    exact kN e x H2 (s1.trans s3) hx0 ⟨dx, li, lf, t, xs, k4, hI.same s3, Same.tup s3 hF, k2, k3⟩
  · exact kE n e d H2 (Same.free s1 (Same.free s2 h1)) (s1.trans (s2.trans h2)) h3
end Om

namespace Om
open PySem PySem.Spec PyProof.Rows L2
theorem chkI_none : ∀ (is : List Ins) (i : Nat), i ≤ 20 → (chkI is i = none ↔ (∀ x ∈ is, x.ok = true) ∧ i + is.length ≤ 20)
  | [], i, h => by simp [chkI, h]
  | x :: r, i, h => by
    show (if i = 20 then some i else if x.ok = true then chkI r (i + 1) else some i) = none ↔ _
    by_cases hi : i = 20
    · rw [if_pos hi]
      simp [hi]
    · rw [if_neg hi]
      by_cases hx : x.ok = true
      · rw [if_pos hx, chkI_none r (i + 1) (by omega)]
        simp only [List.mem_cons, forall_eq_or_imp, hx, true_and, List.length_cons]
        constructor
        · rintro ⟨a, b⟩
          exact ⟨a, by omega⟩
        · rintro ⟨a, b⟩
          exact ⟨a, by omega⟩
      · rw [if_neg hx]
        simp [hx]
theorem mapBad_none {sg : List Nat} {fs : List Nm} {is : List Ins} : mapBad sg fs is = none ↔ ascS sg lands = true ∧ ascN fs 0 3 = true ∧ (∀ x ∈ is, x.ok = true) ∧ is.length ≤ 20 := by
  unfold mapBad
  by_cases h : (ascS sg lands && ascN fs 0 3) = true
  · rw [if_pos h]
    obtain ⟨h1, h2⟩ := Bool.and_eq_true_iff.mp h
    rw [Option.map_eq_none_iff, chkI_none is 0 (by omega)]
    simp [h1, h2]
  · rw [if_neg h]
    simp only [reduceCtorEq, false_iff, not_and]
    intro h1 h2
    exact absurd (by rw [h1, h2]; rfl) h
theorem dpAll_take {K : PySem.W.Frag} {H : Hp} : ∀ {xs : List V} {ds : List PyData} (n : Nat), DpAll K H xs ds → DpAll K H (xs.take n) (ds.take n)
  | [], [], n, .nil => by simp; exact .nil
  | _ :: _, _ :: _, 0, .cons _ _ => .nil
  | _ :: _, _ :: _, n + 1, .cons h t => .cons h (dpAll_take n t)
theorem dpAll_drop {K : PySem.W.Frag} {H : Hp} : ∀ {xs : List V} {ds : List PyData} (n : Nat), DpAll K H xs ds → DpAll K H (xs.drop n) (ds.drop n)
  | [], [], n, .nil => by simp; exact .nil
  | _ :: _, _ :: _, 0, .cons h t => .cons h t
  | _ :: _, _ :: _, n + 1, .cons h t => dpAll_drop n t
theorem cutV_upto (xs : List V) (n : Nat) : cutV xs none (some (n : Int)) = xs.take n := by
  unfold cutV
  rw [HT.sIx_none, HT.sIx_nat, List.drop_zero, Nat.sub_zero]
  by_cases h : n ≤ xs.length
  · rw [Nat.min_eq_left h]
  · rw [Nat.min_eq_right (by omega), List.take_length, List.take_of_length_le (by omega)]
def spWith (K : PySem.W.Frag) (CM CI CB : Addr) : Sp := fun vs H Q E => ∃ (a b : Addr) (rows : List (List Nat)) (sg : List Nat) (fs : List Nm) (is0 is : List Ins), vs = [.ref a, .ref b] ∧ Mp K CM CI H a rows sg fs is0 ∧ fs.length ≤ 1000 ∧ InsAt K H b is ∧ SmI is ∧
  (mapBad sg fs is = none → ∀ x H', Same H H' → H x = none → Mp K CM CI H' x rows sg fs is → Q (.ref x) H') ∧
  ∀ n, mapBad sg fs is = some n → ∀ d H', H d = none → Same H H' → H' d = some (.xd (xdIM (.int n))) → E (.ref CB) (some d) H'
def spAdd (K : PySem.W.Frag) (CM CI CB : Addr) : Sp := fun vs H Q E => ∃ (a b : Addr) (rows : List (List Nat)) (sg : List Nat) (fs : List Nm) (is0 is : List Ins), vs = [.ref a, .ref b] ∧ Mp K CM CI H a rows sg fs is0 ∧ fs.length ≤ 1000 ∧ InsAt K H b is ∧ SmI (is0 ++ is) ∧
  (mapBad sg fs (is0 ++ is) = none → ∀ x H', Same H H' → H x = none → Mp K CM CI H' x rows sg fs (is0 ++ is) → Q (.ref x) H') ∧
  ∀ n, mapBad sg fs (is0 ++ is) = some n → ∀ d H', H d = none → Same H H' → H' d = some (.xd (xdIM (.int n))) → E (.ref CB) (some d) H'
def spUpto (K : PySem.W.Frag) (CM CI : Addr) : Sp := fun vs H Q _ => ∃ (a : Addr) (n : Int) (rows : List (List Nat)) (sg : List Nat) (fs : List Nm) (is : List Ins), vs = [.ref a, .int n] ∧ Mp K CM CI H a rows sg fs is ∧ fs.length ≤ 1000 ∧ SmI is ∧ mapBad sg fs is = none ∧
  ∀ x H', Same H H' → H x = none → Mp K CM CI H' x rows sg fs (is.take n.toNat) → Q (.ref x) H'
def spMLen (K : PySem.W.Frag) (CM CI : Addr) : Sp := fun vs H Q _ => ∃ (a : Addr) (rows : List (List Nat)) (sg : List Nat) (fs : List Nm) (is : List Ins), vs = [.ref a] ∧ Mp K CM CI H a rows sg fs is ∧ Q (.int (is.length : Nat)) H
def spMGet (K : PySem.W.Frag) (CM CI : Addr) : Sp := fun vs H Q _ => ∃ (a : Addr) (j : Nat) (i : Ins) (rows : List (List Nat)) (sg : List Nat) (fs : List Nm) (is : List Ins), vs = [.ref a, .int (j : Nat)] ∧ Mp K CM CI H a rows sg fs is ∧ is[j]? = some i ∧ ∀ v, Dp K H v i.d → Q v H
section
variable {P : Program} {w : World} {K : PySem.W.Frag} {mg : Str → Option Value} {base : Heap} {CM CI CB fM : Addr}
theorem scWith : FnScope ["self", "instructions"] ["self", "instructions"] (defScope (sMapM 7)) := ⟨rfl, rfl, rfl, by decide +kernel, rfl, by decide +kernel, by decide +kernel⟩
theorem ok_with {f : Addr} {fd fdM : FuncData} (F : FnP K "with_instructions" "Map.with_instructions" (sMapM 7) f fd) (T : MapF K mg CM fM) (GM : FnOk P w K mg base (L2.CX P w) 5 fM fdM nMapI (spMapI K CM CB)) (bM : Binds K fdM nMapI []) : FnOk P w K mg base (L2.CX P w) 7 f fd ["self", "instructions"] (spWith K CM CI CB) := by
  refine F.ok scWith (fun vs H Q E h => ?_) (fun cdv A outer s H vs Q E hr h => ?_)
  · obtain ⟨a, b, rows, sg, fs, is0, is, rfl, _⟩ := h
    rfl
  · obtain ⟨a, b, rows, sg, fs, is0, is, rfl, ⟨dx, li, lf, lt, xs, hp, hI, hF, _, _⟩, hfl, hb, sm, kN, kE⟩ := h
    refine ⟨_, pss_one (ps_ret (pe_make T.made GM hr rfl T.gM bM .nil (passes_call (W := fun cls d _ H => E cls d H) (takes_of rfl rfl rfl rfl) fun _ _ _ _ h => h) (pa_cons (pe_fld (pv 0) rfl) (pa_cons (pe_fld (pv 0) rfl) (pa_cons (pe_fld (pv 0) rfl) (pa_cons (pv 1) pa_nil)))))), ?_⟩
    refine mk_map (CI := CI) hfl sm (fun Qa h => ?_) kN kE
    exact ⟨_, rfl, a, CM, dx, _, .ref li, rfl, hp, T.cl, T.n1, mapFs_i .., _, rfl, a, CM, dx, _, .str (tx sg), rfl, hp, T.cl, T.n2, mapFs_s .., _, rfl, a, CM, dx, _, .ref lf, rfl, hp, T.cl, T.n3, mapFs_f .., _, rfl, h li lf b H (Same.refl H) hI hF hb⟩
theorem scAdd : FnScope ["self", "other"] ["self", "other"] (defScope (sMapM 12)) := ⟨rfl, rfl, rfl, by decide +kernel, rfl, by decide +kernel, by decide +kernel⟩
theorem ok_add {f : Addr} {fd fdM : FuncData} (F : FnP K "__add__" "Map.__add__" (sMapM 12) f fd) (T : MapF K mg CM fM) (GM : FnOk P w K mg base (L2.CX P w) 5 fM fdM nMapI (spMapI K CM CB)) (bM : Binds K fdM nMapI []) (gtuple : mg "tuple" = none) : FnOk P w K mg base (L2.CX P w) 7 f fd ["self", "other"] (spAdd K CM CI CB) := by
  refine F.ok scAdd (fun vs H Q E h => ?_) (fun cdv A outer s H vs Q E hr h => ?_)
  · obtain ⟨a, b, rows, sg, fs, is0, is, rfl, _⟩ := h
    rfl
  · obtain ⟨a, b, rows, sg, fs, is0, is, rfl, ⟨dx, li, lf, lt, xs, hp, hI, hF, hT, hD⟩, hfl, ⟨ys, hy, hE⟩, sm, kN, kE⟩ := h
    refine ⟨_, pss_one (ps_ret (pe_make T.made GM hr rfl T.gM bM .nil (passes_call (W := fun cls d _ H => E cls d H) (takes_of rfl rfl rfl rfl) fun _ _ _ _ h => h) (pa_cons (pe_fld (pv 0) rfl) (pa_cons (pe_fld (pv 0) rfl) (pa_cons (pe_fld (pv 0) rfl)
      (pa_cons (pe_op op_catA (pe_fld (pv 0) rfl) (pe_callTy call_tuple_of (by rfl) gtuple (by decide +kernel) (pa_cons (pv 1) pa_nil))) pa_nil)))))), ?_⟩
    refine mk_map (CI := CI) hfl sm (fun Qa h => ?_) kN kE
    have lx := dpAll_len hD
    have ly := dpAll_len hE
    have hl := sm.len
    rw [List.length_map] at lx ly
    rw [List.length_append] at hl
    have hsz : xs.length + ys.length ≤ sizeLine := small_le (by omega)
    refine ⟨_, rfl, a, CM, dx, _, .ref li, rfl, hp, T.cl, T.n1, mapFs_i .., _, rfl, a, CM, dx, _, .str (tx sg), rfl, hp, T.cl, T.n2, mapFs_s .., _, rfl, a, CM, dx, _, .ref lf, rfl, hp, T.cl, T.n3, mapFs_f .., _, rfl, a, CM, dx, _, .ref lt, rfl, hp, T.cl, T.n4, mapFs_t .., _, rfl, b, ys, rfl, ?_⟩
    have fin : ∀ (c : Addr) (H1 : Hp), Same H H1 → SqT K H1 c ys → rCatA K (.ref lt) (.ref c) H1 (fun v H' => tNil [some (V.ref a), some (V.ref b)] H' fun vs H1 => Qa (.ref li :: .str (tx sg) :: .ref lf :: v :: vs) H1) := fun c H1 s1 hc => by
      refine catA_read (xs := xs) (ys := ys) (Same.tup s1 hT) hc hsz fun p H2 s2 hp2 => ?_
      refine nilArgs (h li lf p H2 (s1.trans s2) (hI.same (s1.trans s2)) (Same.tup (s1.trans s2) hF) ⟨_, .inr hp2, ?_⟩)
      rw [List.map_append]
      exact dpAll_app (Same.dpAll (s1.trans s2) hD) (Same.dpAll (s1.trans s2) hE)
    rcases hy with hy | hy
    · exact .inl ⟨hy, fun t ht => fin t _ (Same.new (Same.refl H) ht) (.inl (.inl upd_same))⟩
    · exact .inr ⟨hy, fin b H (Same.refl H) hy⟩
end
end Om

namespace Om
open PySem PySem.Spec PyProof.Rows L2
theorem mapFs_no (li : Addr) (sg : Str) (lf lt : Addr) {m : Str} (h1 : m ≠ "_island") (h2 : m ≠ "_signs") (h3 : m ≠ "_facings") (h4 : m ≠ "_instructions") : (mapFs li sg lf lt).lookup m = none := by
  unfold mapFs
  rw [lookup_putF, if_neg h4, lookup_putF, if_neg h3, lookup_putF, if_neg h2, lookup_putF, if_neg h1]
  rfl
section
variable {P : Program} {w : World} {K : PySem.W.Frag} {mg : Str → Option Value} {base : Heap} {CM CI CB fM : Addr}
theorem scM1 (i : Nat) (h : i = 1 ∨ i = 2 ∨ i = 3 ∨ i = 4 ∨ i = 9) : FnScope ["self"] ["self"] (defScope (sMapM i)) := by
  rcases h with rfl | rfl | rfl | rfl | rfl <;> exact ⟨rfl, rfl, rfl, by decide +kernel, rfl, by decide +kernel, by decide +kernel⟩
theorem ok_mIsl {f : Addr} {fd : FuncData} (F : FnP K "island" "Map.island" (sMapM 1) f fd) (T : MapF K mg CM fM) : FnOk P w K mg base CX0 1 f fd ["self"] (getSp CM "_island") := by
  refine F.ok (scM1 1 (by simp)) (fun vs H Q E h => ?_) (fun cdv A outer s H vs Q E hr h => ?_)
  · obtain ⟨a, dx, fs, v, rfl, _⟩ := h
    rfl
  · obtain ⟨a, dx, fs, v, rfl, hp, hl, k⟩ := h
    exact ⟨_, PSs.nox (pss_one (ps_ret (pe_fld (pv 0) rfl))), _, rfl, a, CM, dx, _, v, rfl, hp, T.cl, T.n1, hl, k⟩
theorem ok_mSig {f : Addr} {fd : FuncData} (F : FnP K "signs" "Map.signs" (sMapM 2) f fd) (T : MapF K mg CM fM) : FnOk P w K mg base CX0 1 f fd ["self"] (getSp CM "_signs") := by
  refine F.ok (scM1 2 (by simp)) (fun vs H Q E h => ?_) (fun cdv A outer s H vs Q E hr h => ?_)
  · obtain ⟨a, dx, fs, v, rfl, _⟩ := h
    rfl
  · obtain ⟨a, dx, fs, v, rfl, hp, hl, k⟩ := h
    exact ⟨_, PSs.nox (pss_one (ps_ret (pe_fld (pv 0) rfl))), _, rfl, a, CM, dx, _, v, rfl, hp, T.cl, T.n2, hl, k⟩
theorem ok_mFac {f : Addr} {fd : FuncData} (F : FnP K "facings" "Map.facings" (sMapM 3) f fd) (T : MapF K mg CM fM) : FnOk P w K mg base CX0 1 f fd ["self"] (getSp CM "_facings") := by
  refine F.ok (scM1 3 (by simp)) (fun vs H Q E h => ?_) (fun cdv A outer s H vs Q E hr h => ?_)
  · obtain ⟨a, dx, fs, v, rfl, _⟩ := h
    rfl
  · obtain ⟨a, dx, fs, v, rfl, hp, hl, k⟩ := h
    exact ⟨_, PSs.nox (pss_one (ps_ret (pe_fld (pv 0) rfl))), _, rfl, a, CM, dx, _, v, rfl, hp, T.cl, T.n3, hl, k⟩
theorem ok_mIns {f : Addr} {fd : FuncData} (F : FnP K "instructions" "Map.instructions" (sMapM 4) f fd) (T : MapF K mg CM fM) : FnOk P w K mg base CX0 1 f fd ["self"] (getSp CM "_instructions") := by
  refine F.ok (scM1 4 (by simp)) (fun vs H Q E h => ?_) (fun cdv A outer s H vs Q E hr h => ?_)
  · obtain ⟨a, dx, fs, v, rfl, _⟩ := h
    rfl
  · obtain ⟨a, dx, fs, v, rfl, hp, hl, k⟩ := h
    exact ⟨_, PSs.nox (pss_one (ps_ret (pe_fld (pv 0) rfl))), _, rfl, a, CM, dx, _, v, rfl, hp, T.cl, T.n4, hl, k⟩
theorem ok_mLen {f : Addr} {fd : FuncData} (F : FnP K "__len__" "Map.__len__" (sMapM 9) f fd) (T : MapF K mg CM fM) (glen : mg "len" = none) : FnOk P w K mg base CX0 1 f fd ["self"] (spMLen K CM CI) := by
  refine F.ok (scM1 9 (by simp)) (fun vs H Q E h => ?_) (fun cdv A outer s H vs Q E hr h => ?_)
  · obtain ⟨a, rows, sg, fs, is, rfl, _⟩ := h
    rfl
  · obtain ⟨a, rows, sg, fs, is, rfl, ⟨dx, li, lf, lt, xs, hp, hI, hF, hT, hD⟩, k⟩ := h
    refine ⟨_, PSs.nox (pss_one (ps_ret (pe_callB call_len_seq (by rfl) glen PySem.boot_len (pa_cons (pe_fld (pv 0) rfl) pa_nil)))), ?_⟩
    refine ⟨_, rfl, a, CM, dx, _, .ref lt, rfl, hp, T.cl, T.n4, mapFs_t .., lt, _, rfl, .inr hT, ?_⟩
    rw [dpAll_len hD, List.length_map]
    exact k
theorem scMGet : FnScope ["self", "index"] ["self", "index"] (defScope (sMapM 10)) := ⟨rfl, rfl, rfl, by decide +kernel, rfl, by decide +kernel, by decide +kernel⟩
theorem ok_mGet {f : Addr} {fd : FuncData} (F : FnP K "__getitem__" "Map.__getitem__" (sMapM 10) f fd) (T : MapF K mg CM fM) : FnOk P w K mg base CX0 1 f fd ["self", "index"] (spMGet K CM CI) := by
  refine F.ok scMGet (fun vs H Q E h => ?_) (fun cdv A outer s H vs Q E hr h => ?_)
  · obtain ⟨a, j, i, rows, sg, fs, is, rfl, _⟩ := h
    rfl
  · obtain ⟨a, j, i, rows, sg, fs, is, rfl, ⟨dx, li, lf, lt, xs, hp, hI, hF, hT, hD⟩, hi, k⟩ := h
    obtain ⟨v, h1, h2⟩ := dpAll_at hD (i := j) (e := i.d) (by rw [List.getElem?_map, hi]; rfl)
    refine ⟨_, PSs.nox (pss_one (ps_ret (pe_ix ix_tup (pe_fld (pv 0) rfl) (pv 1) (fun _ _ => rfl)))), ?_⟩
    exact ⟨_, rfl, a, CM, dx, _, .ref lt, rfl, hp, T.cl, T.n4, mapFs_t .., _, rfl, lt, xs, _, v, rfl, rfl, hT, atI_nat h1, k v h2⟩
theorem scUpto : FnScope ["self", "number"] ["self", "number"] (defScope (sMapM 5)) := ⟨rfl, rfl, rfl, by decide +kernel, rfl, by decide +kernel, by decide +kernel⟩
theorem ok_upto {f gW : Addr} {fd fdW : FuncData} (F : FnP K "until" "Map.until" (sMapM 5) f fd) (T : MapF K mg CM fM) (mW : Meth K CM "with_instructions" gW) (GW : FnOk P w K mg base (L2.CX P w) 7 gW fdW ["self", "instructions"] (spWith K CM CI CB)) (bW : Binds K fdW ["self", "instructions"] [])
    (gmax : mg "max" = none) : FnOk P w K mg base (L2.CX P w) 8 f fd ["self", "number"] (spUpto K CM CI) := by
  refine F.ok scUpto (fun vs H Q E h => ?_) (fun cdv A outer s H vs Q E hr h => ?_)
  · obtain ⟨a, n, rows, sg, fs, is, rfl, _⟩ := h
    rfl
  · obtain ⟨a, n, rows, sg, fs, is, rfl, hM, hfl, sm, hb, k⟩ := h
    obtain ⟨dx, li, lf, lt, xs, hp, hI, hF, hT, hD⟩ := id hM
    refine ⟨_, pss_one (ps_ret (pe_meth (pv 0) T.cl mW GW hr bW .nil (passes_call (W := fun cls d _ H => E cls d H) (takes_of rfl rfl rfl rfl) fun _ _ _ _ h => h)
      (pa_cons (pe_slice sl_tupA (pe_fld (pv 0) rfl) po_none (po_some (pe_callB (call_max2 rfl) (by rfl) gmax (by decide +kernel) (pa_cons pe_int (pa_cons (pv 1) pa_nil))))) pa_nil))), ?_⟩
    refine ⟨_, rfl, a, dx, _, rfl, hp, mapFs_no _ _ _ _ (by decide +kernel) (by decide +kernel) (by decide +kernel) (by decide +kernel), ?_⟩
    refine ⟨_, rfl, a, CM, dx, _, .ref lt, rfl, hp, T.cl, T.n4, mapFs_t .., ?_⟩
    refine noPart ?_
    refine ⟨_, rfl, _, _, rfl, _, rfl, ?_⟩
    have en : (if n > 0 then n else 0) = ((n.toNat : Nat) : Int) := by split <;> omega
    rw [en]
    refine slA_read hT fun p H1 s1 hp1 => ?_
    rw [cutV_upto] at hp1
    refine nilArgs ?_
    obtain ⟨m1, m2, m3, m4⟩ := mapBad_none.mp hb
    refine ⟨a, p, rows, sg, fs, is, is.take n.toNat, rfl, hM.same s1, hfl, ⟨_, .inr hp1, ?_⟩, ⟨?_, fun i hi => sm.all i (List.mem_of_mem_take hi)⟩, fun _ x H' s2 hx h => k x H' (s1.trans s2) (Same.free s1 hx) h, fun m em => ?_⟩
    · rw [List.map_take]
      exact dpAll_take _ (Same.dpAll s1 hD)
    · rw [List.length_take]
      have := sm.len
      omega
    · have e := mapBad_none.mpr ⟨m1, m2, fun x hx => m3 x (List.mem_of_mem_take hx), show (is.take n.toNat).length ≤ 20 by rw [List.length_take]; omega⟩
      rw [e] at em
      cases em
end
end Om

/-! gaps and pools: what is refused -/
namespace Om
open PySem PySem.Spec PyProof.Rows L2
def Nm.num : Nm → Int
  | .i n => n
  | .b _ => 0
/-- the first gap that is wrong -/
def gapI : List Nm → Int → Nat → Int → Option Nat
  | [], _, _, _ => none
  | g :: r, lo, i, n => if i = 3 then some i else if inN g lo n = true then gapI r (g.num + 1) (i + 1) n else some i
def poolI : List Ins → Nat → Option Nat
  | [], _ => none
  | x :: r, i => if i = 6 then some i else if x.ok = true then poolI r (i + 1) else some i
inductive RO where
  | gap (n : Nat)
  | pool (n : Nat)
  | good
def reqO (n : Nat) (gs : List Nm) (ps : List Ins) : RO := match gapI gs 0 0 n with
  | some k => .gap k
  | none => match poolI ps 0 with
    | some k => .pool k
    | none => if 20 < n + gs.length then .gap gs.length else .good
def ROK (CG CP : Addr) (H : Hp) (E : XK) (N : Hp → Prop) : RO → Prop
  | .gap n => ∀ d H', H d = none → Same H H' → H' d = some (.xd (xdIM (.int (n : Nat)))) → E (.ref CG) (some d) H'
  | .pool n => ∀ d H', H d = none → Same H H' → H' d = some (.xd (xdIM (.int (n : Nat)))) → E (.ref CP) (some d) H'
  | .good => ∀ H', Same H H' → N H'
theorem ROK.same {CG CP : Addr} {H H' : Hp} {E : XK} {N : Hp → Prop} {o : RO} (h : ROK CG CP H E N o) (s : Same H H') : ROK CG CP H' E N o := by
  cases o with
  | gap n => exact fun d H2 a b c => h d H2 (Same.free s a) (s.trans b) c
  | pool n => exact fun d H2 a b c => h d H2 (Same.free s a) (s.trans b) c
  | good => exact fun H2 b => h H2 (s.trans b)
/-- a chart, gaps and a pool at hand -/
structure GP (K : PySem.W.Frag) (CM CI : Addr) (H : Hp) (a ga pa : Addr) (rows : List (List Nat)) (is : List Ins) (gs : List Nm) (ps : List Ins) : Prop where
  mp : ∃ sg fs, Mp K CM CI H a rows sg fs is
  G : SqT K H ga (gs.map Nm.v)
  P : ∃ xs, SqT K H pa xs ∧ DpAll K H xs (ps.map Ins.d)
  ln : is.length ≤ 1000
  lg : gs.length ≤ 1000
  sm : SmI ps
theorem GP.same {K : PySem.W.Frag} {CM CI a ga pa : Addr} {H H' : Hp} {rows : List (List Nat)} {is : List Ins} {gs : List Nm} {ps : List Ins} (h : GP K CM CI H a ga pa rows is gs ps) (s : Same H H') : GP K CM CI H' a ga pa rows is gs ps := by
  obtain ⟨⟨sg, fs, h1⟩, h2, ⟨xs, h3, h4⟩, h5, h6, h7⟩ := h
  exact ⟨⟨sg, fs, h1.same s⟩, Same.tup s h2, ⟨xs, Same.tup s h3, Same.dpAll s h4⟩, h5, h6, h7⟩
def spReq (K : PySem.W.Frag) (CM CI CG CP : Addr) : Sp := fun vs H Q E => ∃ (a ga pa : Addr) (rows : List (List Nat)) (is : List Ins) (gs : List Nm) (ps : List Ins), vs = [.ref a, .ref ga, .ref pa] ∧ GP K CM CI H a ga pa rows is gs ps ∧ ROK CG CP H E (fun H' => Q .non H') (reqO is.length gs ps)
structure IsE (K : PySem.W.Frag) (mg : Str → Option Value) (x : Str) (C fI : Addr) : Prop where
  oex : OexC K C
  noI : PySem.W.findIn K (.ref C) "index" = some none
  iC : PySem.W.findIn K (.ref C) "__init__" = some (some (.ref fI))
  tI : PySem.W.typeIn K (.ref fI) = some (.type "function")
  gC : mg x = some (.ref C)
abbrev sIG : Stmt := inClass (top 13) 0
abbrev sIP : Stmt := inClass (top 14) 0
section
variable {P : Program} {w : World} {K : PySem.W.Frag} {mg : Str → Option Value} {base : Heap} {C fI : Addr}
theorem scIG : FnScope ["self", "index"] ["self", "index"] (defScope sIG) := ⟨rfl, rfl, rfl, by decide +kernel, rfl, by decide +kernel, by decide +kernel⟩
theorem scIP : FnScope ["self", "index"] ["self", "index"] (defScope sIP) := ⟨rfl, rfl, rfl, by decide +kernel, rfl, by decide +kernel, by decide +kernel⟩
theorem ok_IG {x : Str} {fd : FuncData} (F : FnP K "__init__" "InvalidGaps.__init__" sIG fI fd) (T : IsE K mg x C fI) : FnOk P w K mg base CX0 1 fI fd ["self", "index"] (spIM C) := by
  refine F.ok scIG (fun vs H Q E h => ?_) (fun cdv A outer s H vs Q E hr h => ?_)
  · obtain ⟨a, x, rfl, _⟩ := h
    rfl
  · obtain ⟨a, x, rfl, ha, k⟩ := h
    refine ⟨_, PSs.nox (pss_one (ps_ost (pv 0) (pv 1))), ?_⟩
    exact ⟨_, rfl, _, rfl, a, C, rfl, T.oex, T.noI, .inl ⟨ha, fun dx h1 h2 => k dx h1 h2⟩⟩
theorem ok_IP {x : Str} {fd : FuncData} (F : FnP K "__init__" "InvalidPool.__init__" sIP fI fd) (T : IsE K mg x C fI) : FnOk P w K mg base CX0 1 fI fd ["self", "index"] (spIM C) := by
  refine F.ok scIP (fun vs H Q E h => ?_) (fun cdv A outer s H vs Q E hr h => ?_)
  · obtain ⟨a, x, rfl, _⟩ := h
    rfl
  · obtain ⟨a, x, rfl, ha, k⟩ := h
    refine ⟨_, PSs.nox (pss_one (ps_ost (pv 0) (pv 1))), ?_⟩
    exact ⟨_, rfl, _, rfl, a, C, rfl, T.oex, T.noI, .inl ⟨ha, fun dx h1 h2 => k dx h1 h2⟩⟩
end
abbrev sReq : Stmt := top 64
abbrev nReq : List Str := ["chart", "gaps", "pool", "least", "index", "gap", "instruction"]
abbrev nGP : List Str := ["chart", "gaps", "pool"]
theorem scReq : FnScope nReq nGP (defScope sReq) := ⟨rfl, rfl, rfl, by decide +kernel, rfl, by decide +kernel, by decide +kernel⟩
section
variable {P : Program} {w : World} {K : PySem.W.Frag} {mg : Str → Option Value} {base : Heap} {CM CI CG CP fG fP gL : Addr}
theorem ok_req {f : Addr} {fd fdG fdP fdL : FuncData} (F : FnP K "_require_gaps_and_pool" "_require_gaps_and_pool" sReq f fd) (TG : IsE K mg "InvalidGaps" CG fG) (TP : IsE K mg "InvalidPool" CP fP)
    (FG : FnOk P w K mg base CX0 1 fG fdG ["self", "index"] (spIM CG)) (bG : Binds K fdG ["self", "index"] []) (FP : FnOk P w K mg base CX0 1 fP fdP ["self", "index"] (spIM CP)) (bP : Binds K fdP ["self", "index"] [])
    (mL : OwnM K CM "__len__" gL) (GL : FnOk P w K mg base CX0 1 gL fdL ["self"] (spMLen K CM CI)) (bL : Binds K fdL ["self"] [])
    (GR : Cal P w K mg base CX0 1 "in_range" nInR spInN) (GI : Cal P w K mg base CX0 3 "is_instruction" ["instruction"] (spIsIns K)) (genum : mg "enumerate" = none) (glen : mg "len" = none)
    (g3 : ∃ t, mg "MOST_GAPS" = some (.int 3 t)) (g6 : ∃ t, mg "MOST_IN_POOL" = some (.int 6 t)) (g20 : ∃ t, mg "MOST_INSTRUCTIONS" = some (.int 20 t)) :
    FnOk P w K mg base (L2.CX P w) 4 f fd nGP (spReq K CM CI CG CP) := by
  obtain ⟨t3, g3⟩ := g3
  obtain ⟨t6, g6⟩ := g6
  obtain ⟨t20, g20⟩ := g20
  refine F.ok scReq (fun vs H Q E h => ?_) (fun cdv A outer s H vs Q E hr h => ?_)
  · obtain ⟨a, ga, pa, rows, is, gs, ps, rfl, _⟩ := h
    rfl
  · obtain ⟨a, ga, pa, rows, is, gs, ps, rfl, gp, ko⟩ := h
    obtain ⟨⟨sg, fs, hM⟩, hG, ⟨xs, hP, hD⟩, ln, lg, sm⟩ := id gp
    have nd := scReq.nd
    have hr1 : Room 1 _ := hr.mono (by decide)
    have hr2 : Room 2 _ := hr.mono (by decide)
    refine ⟨_, pss_cons (ps_set (i := 3) nd rfl (.inl rfl) pe_int)
      (pss_cons (ps_for (passes_of rfl) rfl (pi_enumT rfl genum (pa_cons (pv 1) pa_nil)) (pg_tup rfl (pgs_cons (pg_name (i := 4) nd rfl (.inl rfl)) (pgs_cons (pg_name (i := 5) nd rfl (.inl rfl)) pgs_nil)))
        (pss_cons (ps_if (PW.pt (pw_or (pt_cmpR op_eq (pv 4) (pe_glob (v := .int 3) rfl g3 ⟨_, rfl⟩) (nomark _)) (pw_or1 (pt_not (pt_val (pe_cal GR hr1 pass0 (pa_cons (pv 5) (pa_cons (pv 3) (pa_cons (pe_callB (call_lenOwn (E := E0) mL GL hr2 bL pass0) (by rfl) glen PySem.boot_len (pa_cons (pv 0) pa_nil)) pa_nil)))))))))
            (pss_one (ps_raise rfl (takes_of rfl rfl rfl rfl) (pmk_oex TG.oex TG.iC TG.tI FG hr2 bG .nil pass0 rfl TG.gC (pa_cons (pv 4) pa_nil)))) pss_nil)
          (pss_one (ps_set (i := 3) nd rfl (.inl rfl) (pe_op op_add (pv 5) pe_int)))))
      (pss_cons (ps_for (passes_of rfl) rfl (pi_enumT rfl genum (pa_cons (pv 2) pa_nil)) (pg_tup rfl (pgs_cons (pg_name (i := 4) nd rfl (.inl rfl)) (pgs_cons (pg_name (i := 6) nd rfl (.inl rfl)) pgs_nil)))
        (pss_one (ps_if (PW.pt (pw_or (pt_cmpR op_eq (pv 4) (pe_glob (v := .int 6) rfl g6 ⟨_, rfl⟩) (nomark _)) (pw_or1 (pt_not (pt_val (pe_cal GI (hr.mono (by decide)) pass0 (pa_cons (pv 6) pa_nil)))))))
            (pss_one (ps_raise rfl (takes_of rfl rfl rfl rfl) (pmk_oex TP.oex TP.iC TP.tI FP hr2 bP .nil pass0 rfl TP.gC (pa_cons (pv 4) pa_nil)))) pss_nil)))
      (pss_one (ps_if (pt_cmpR op_gt (pe_op op_add (pe_callB (call_lenOwn (E := E0) mL GL hr2 bL pass0) (by rfl) glen PySem.boot_len (pa_cons (pv 0) pa_nil)) (pe_callB call_len_seq (by rfl) glen PySem.boot_len (pa_cons (pv 1) pa_nil))) (pe_glob (v := .int 20) rfl g20 ⟨_, rfl⟩) (nomark _))
            (pss_one (ps_raise rfl (takes_of rfl rfl rfl rfl) (pmk_oex TG.oex TG.iC TG.tI FG hr2 bG .nil pass0 rfl TG.gC (pa_cons (pe_callB call_len_seq (by rfl) glen PySem.boot_len (pa_cons (pv 1) pa_nil)) pa_nil)))) pss_nil)))), ?_⟩
    have hxl := dpAll_len hD
    rw [List.length_map] at hxl
    refine ⟨_, rfl, ga, _, rfl, hG, for_it (walk_enumT (K := K) (a := ga) (xs := gs.map Nm.v)) (fun i σ H' => Same H H' ∧ (∃ lo v4 v5 v6, σ = [some (.ref a), some (.ref ga), some (.ref pa), some (.int lo), v4, v5, v6] ∧ gapI gs 0 0 is.length = gapI (gs.drop i) lo i is.length)) ⟨Same.refl H, 0, _, _, _, rfl, rfl⟩ (fun i σ H' _ p => Same.tup p.1 hG) ?_ ?_⟩
    · rintro i x σ H1 H2 hi ⟨s1, lo, v4, v5, v6, rfl, hc⟩ ⟨T1, y, rfl, hT, rfl, hy⟩
      have hi2 : i < gs.length := by rw [List.length_map] at hi; exact hi
      have hy : (gs.map Nm.v)[i]? = some y := hy
      rw [List.getElem?_map, List.getElem?_eq_getElem hi2] at hy
      obtain rfl : (gs[i]).v = y := Option.some.inj hy
      rw [List.drop_eq_getElem_cons hi2] at hc
      have s2 : Same H (upd H1 T1 (.tup [.int (i : Nat), (gs[i]).v])) := Same.new s1 hT
      refine ⟨T1, _, rfl, .inl (.inl upd_same), rfl, _, _, rfl, _, _, rfl, rfl, ?_⟩
      refine ⟨_, rfl, rfl, _, rfl, ?_⟩
      have hc : gapI gs 0 0 is.length = if i = 3 then some i else if inN gs[i] lo is.length = true then gapI (gs.drop (i + 1)) ((gs[i]).num + 1) (i + 1) is.length else some i := hc
      have eo : ∀ k, gapI gs 0 0 is.length = some k → reqO is.length gs ps = .gap k := fun k e => by unfold reqO; rw [e]
      refine ite2 (fun hz => ?_) (fun hz => ?_)
      · have hz := of_decide_eq_true hz
        injection hz with hz
        have hi3 : i = 3 := by omega
        rw [if_pos hi3] at hc
        rw [eo i hc] at ko
        exact iteT ⟨_, rfl, mkIM (W := E) fun d H' h1 h2 h3 => ko d H' (Same.free s2 h1) (s2.trans h2) h3⟩
      · have hi3 : i ≠ 3 := fun h => hz (decide_eq_true (by rw [h]; rfl))
        rw [if_neg hi3] at hc
        obtain ⟨dx, li, lf, lt, zs, hm1, _⟩ := id (hM.same s2)
        refine ⟨_, rfl, _, rfl, _, rfl, a, dx, _, rfl, hm1, a, rows, sg, fs, is, rfl, hM.same s2, _, rfl, by omega, by omega, ?_⟩
        refine nilArgs ⟨gs[i], lo, is.length, rfl, _, rfl, ?_⟩
        cases ho : inN gs[i] lo is.length with
        | false =>
          rw [ho, if_neg Bool.false_ne_true] at hc
          rw [eo i hc] at ko
          exact iteT ⟨_, rfl, mkIM (W := E) fun d H' h1 h2 h3 => ko d H' (Same.free s2 h1) (s2.trans h2) h3⟩
        | true =>
          rw [ho, if_pos rfl] at hc
          refine iteF ?_
          cases hg : gs[i] with
          | b z => rw [hg] at ho; cases ho
          | i m =>
            rw [hg] at hc s2
            exact ⟨_, rfl, _, _, rfl, rfl, s2, m + 1, _, _, _, rfl, hc⟩
    · rintro σ H1 ⟨s1, lo, v4, v5, v6, rfl, hc⟩
      have e0 : gs.drop (gs.map Nm.v).length = [] := by rw [List.length_map]; exact List.drop_length
      rw [e0] at hc
      have hc : gapI gs 0 0 is.length = none := hc
      refine ⟨_, rfl, pa, xs, rfl, Same.tup s1 hP, for_it (walk_enumT (K := K) (a := pa) (xs := xs)) (fun i σ H' => Same H H' ∧ (∃ v4 v5 v6, σ = [some (.ref a), some (.ref ga), some (.ref pa), some (.int lo), v4, v5, v6] ∧ poolI ps 0 = poolI (ps.drop i) i)) ⟨s1, _, _, _, rfl, rfl⟩ (fun i σ H' _ p => Same.tup p.1 hP) ?_ ?_⟩
      · rintro i x σ H1 H2 hi ⟨s1, v4, v5, v6, rfl, hp⟩ ⟨T1, y, rfl, hT, rfl, hy⟩
        have hi2 : i < ps.length := by omega
        have hii : ps[i]? = some ps[i] := by simp [hi2]
        have hid : (ps.map Ins.d)[i]? = some (ps[i]).d := by rw [List.getElem?_map, hii]; rfl
        obtain ⟨u, hu, hdu⟩ := dpAll_at hD hid
        have hy : xs[i]? = some y := hy
        obtain rfl : y = u := by rw [hy] at hu; exact Option.some.inj hu
        rw [List.drop_eq_getElem_cons hi2] at hp
        have s2 : Same H (upd H1 T1 (.tup [.int (i : Nat), y])) := Same.new s1 hT
        refine ⟨T1, _, rfl, .inl (.inl upd_same), rfl, _, _, rfl, _, _, rfl, rfl, ?_⟩
        refine ⟨_, rfl, rfl, _, rfl, ?_⟩
        have hp : poolI ps 0 = if i = 6 then some i else if (ps[i]).ok = true then poolI (ps.drop (i + 1)) (i + 1) else some i := hp
        have eo : ∀ k, poolI ps 0 = some k → reqO is.length gs ps = .pool k := fun k e => by unfold reqO; rw [hc, e]
        refine ite2 (fun hz => ?_) (fun hz => ?_)
        · have hz := of_decide_eq_true hz
          injection hz with hz
          have hi6 : i = 6 := by omega
          rw [if_pos hi6] at hp
          rw [eo i hp] at ko
          exact iteT ⟨_, rfl, mkIM (W := E) fun d H' h1 h2 h3 => ko d H' (Same.free s2 h1) (s2.trans h2) h3⟩
        · have hi6 : i ≠ 6 := fun h => hz (decide_eq_true (by rw [h]; rfl))
          rw [if_neg hi6] at hp
          refine ⟨_, rfl, y, ps[i], rfl, Same.dp s2 hdu, sm.all _ (List.getElem_mem hi2), fun H3 s3 => ⟨_, rfl, ?_⟩⟩
          cases ho : (ps[i]).ok with
          | true =>
            rw [ho, if_pos rfl] at hp
            exact iteF ⟨s2.trans s3, _, _, _, rfl, hp⟩
          | false =>
            rw [ho, if_neg Bool.false_ne_true] at hp
            rw [eo i hp] at ko
            exact iteT ⟨_, rfl, mkIM (W := E) fun d H' h1 h2 h3 => ko d H' (Same.free (s2.trans s3) h1) ((s2.trans s3).trans h2) h3⟩
      · rintro σ H1 ⟨s1, v4, v5, v6, rfl, hp⟩
        have e0 : ps.drop xs.length = [] := List.drop_eq_nil_of_le (by omega)
        rw [e0] at hp
        have hp : poolI ps 0 = none := hp
        obtain ⟨dx, li, lf, lt, zs, hm1, _⟩ := id (hM.same s1)
        refine ⟨_, rfl, a, dx, _, rfl, hm1, a, rows, sg, fs, is, rfl, hM.same s1, _, rfl, by omega, by omega, ?_⟩
        refine ⟨_, rfl, ga, _, rfl, .inr (Same.tup s1 hG), _, _, rfl, rfl, _, _, rfl, rfl, _, rfl, ?_⟩
        have eo : reqO is.length gs ps = if 20 < is.length + gs.length then .gap gs.length else .good := by unfold reqO; rw [hc, hp]
        rw [eo] at ko
        rw [List.length_map]
        by_cases hz : 20 < is.length + gs.length
        · rw [if_pos hz] at ko
          refine iteT' (decide_eq_true (by omega)) ⟨_, rfl, ga, _, rfl, .inr (Same.tup s1 hG), ?_⟩
          rw [List.length_map]
          exact mkIM (W := E) fun d H' h1 h2 h3 => ko d H' (Same.free s1 h1) (s1.trans h2) h3
        · rw [if_neg hz] at ko
          exact iteF' (decide_eq_false (by omega)) (ko H1 s1)
end
end Om

namespace Om
open PySem PySem.Spec PyProof.Rows L2
def nmF : Nat → Str
  | 0 => "UnknownCell"
  | 1 => "UnknownIndex"
  | 2 => "InvalidGaps"
  | _ => "InvalidPool"
end Om

/-! a head that tells function objects by paths of one's own: the getters of properties -/
namespace OmH
open PySem PySem.Spec PyProof.Rows L2 He
structure DefA where
  adr : PySem.W.Frag → Addr
  name : Str
  qual : Str
  params : Arguments
  body : List Stmt
  scope : Scope
def fnWA (K : PySem.W.Frag) (a : Addr) : FnW := match K.lookup a with
  | some ⟨_, _, .func fd, _⟩ => some (fd.name, fd.qualname, fd.params, fd.body, fd.scope, fd.globals, fd.closure, fd.builtins)
  | _ => none
def DefA.val (d : DefA) : FnW := some (d.name, d.qual, d.params, .stmts d.body, d.scope, mainGlobals, [], builtinsNs)
def DefA.ok (K : PySem.W.Frag) (d : DefA) : Bool := PySem.W.keepIn K (.ref (d.adr K)) && (match K.lookup (d.adr K) with
  | some ⟨_, _, .func fd, _⟩ => PySem.W.codeIn K fd.code d.qual && (dflB K fd.defaults [] && kwdB K fd.kwdefaults [])
  | _ => false)
theorem DefA.funD {K : PySem.W.Frag} {d : DefA} (e : fnWA K (d.adr K) = d.val) (c : d.ok K = true) : ∃ fd, FunD K d.name d.qual d.params d.body d.scope [] [] (d.adr K) fd := by
  obtain ⟨kp, c2⟩ := ba c
  unfold fnWA at e
  cases q : K.lookup (d.adr K) with
  | none =>
    rw [q] at c2
    cases c2
  | some o =>
    obtain ⟨oc, od, dt, osl⟩ := o
    rw [q] at c2 e
    cases dt with
    | func fd =>
      obtain ⟨n1, n2, n3, n4, n5, n6, n7, n8, n9, n10, n11, n12, n13, n14, n15⟩ := fd
      have e2 : (some (n1, n2, n3, n4, n5, n6, n7, n15) : FnW) = some (d.name, d.qual, d.params, .stmts d.body, d.scope, mainGlobals, [], builtinsNs) := e
      simp only [Option.some.injEq, Prod.mk.injEq] at e2
      obtain ⟨h1, h2, h3, h4, h5, h6, h7, h8⟩ := e2
      subst h1 h2 h3 h4 h5 h6 h7 h8
      have c3 : (PySem.W.codeIn K n13 d.qual && (dflB K n8 [] && kwdB K n9 [])) = true := c2
      obtain ⟨k1, k2⟩ := ba c3
      obtain ⟨k3, k4⟩ := ba k2
      exact ⟨_, ⟨oc, od, n8, n9, n10, n11, n12, n13, n14, osl, rfl, q, k1, dflB_ok k3, kwdB_ok k4⟩, kp⟩
    | _ => cases c2
/-- the getter of C's property x -/
def getA (K : PySem.W.Frag) (C : Addr) (x : Str) : Addr := match PySem.W.recIn K (ma K C x) "property" with
  | some (.ref g :: _) => g
  | _ => 0
def propB (K : PySem.W.Frag) (C : Addr) (x : Str) : Bool := eqO (PySem.W.findIn K (.ref C) x) (some (some (.ref (ma K C x)))) && (eqO (PySem.W.specialIn K (.ref (ma K C x)) "__get__") (some (some (.builtin "property.__get__"))) &&
  (decide (PySem.W.takesIn K (.ref (ma K C x)) = some true) && (match PySem.W.recIn K (ma K C x) "property" with
  | some (.ref _ :: _) => true
  | _ => false)))
theorem propB_ok {K : PySem.W.Frag} {C : Addr} {x : Str} (h : propB K C x = true) : PropOf K C x (ma K C x) (getA K C x) := by
  obtain ⟨h1, h2⟩ := ba h
  obtain ⟨h2, h3⟩ := ba h2
  obtain ⟨h3, h4⟩ := ba h3
  refine ⟨eqO_ok h1, eqO_ok h2, of_decide_eq_true h3, ?_⟩
  unfold getA
  cases e : PySem.W.recIn K (ma K C x) "property" with
  | none => rw [e] at h4; cases h4
  | some vs =>
    rw [e] at h4
    cases vs with
    | nil => cases h4
    | cons v r =>
      cases v with
      | ref g => exact ⟨r, rfl⟩
      | _ => cases h4
abbrev AlY : Type := AlX × (Bool × List FnW)
def obsA (gs : List DefA) (K : PySem.W.Frag) : Bool × List FnW := (gs.all fun d => d.ok K, gs.map fun d => fnWA K (d.adr K))
def valA (gs : List DefA) : Bool × List FnW := (true, gs.map DefA.val)
def obsY (n : Nat) (fa : List Fa) (fn : List DefD) (ts : List Tab) (tf : List Defn) (gs : List DefA) (ex : PySem.W.Frag → Bool) (g : Addr → Option Obj) : AlY := (obsX n fa fn ts tf ex g, obsA gs (frT g (asD g n)))
def hookY (n : Nat) (fa : List Fa) (fn : List DefD) (ts : List Tab) (tf : List Defn) (gs : List DefA) (ex : PySem.W.Frag → Bool) : PySem.W.Hook where
  α := AlY
  obs := fun s => obsY n fa fn ts tf gs ex s.heap.get?
  val := fun w => (valX fn ts w, valA gs)
  says := fun w h => ∃ K : PySem.W.Frag, K.In h ∧ SaysX fa fn ts tf ex w h K ∧ obsA gs K = valA gs
  of := fun _ _ e => ⟨_, frT_in, saysX_of (congrArg (fun z : AlY => z.1) e), congrArg (fun z : AlY => z.2) e⟩
  keeps := fun _ _ _ ⟨K, hK, c, d⟩ k => ⟨K, PySem.W.Frag.In.keeps hK k, ⟨c.t, c.more, c.hd, c.out, fun p hp => k _ _ (c.empty p hp)⟩, d⟩
theorem obsY_eq {n : Nat} {fa : List Fa} {fn : List DefD} {ts : List Tab} {tf : List Defn} {gs : List DefA} {ex : PySem.W.Frag → Bool} {g : Addr → Option Obj} {s : Shared} (h : ∀ a, g a = s.heap.get? a) : obsY n fa fn ts tf gs ex g = (hookY n fa fn ts tf gs ex).obs s := by
  have e : g = s.heap.get? := funext h
  rw [e] <;> rfl
theorem getter {gs : List DefA} {K : PySem.W.Frag} (c : obsA gs K = valA gs) (i : Nat) {d : DefA} (h : gs[i]? = some d := by rfl) : ∃ fd, FunD K d.name d.qual d.params d.body d.scope [] [] (d.adr K) fd := by
  have c2 : (gs.all fun d => d.ok K) = true := congrArg (fun z : Bool × List FnW => z.1) c
  have e : gs.map (fun d => fnWA K (d.adr K)) = gs.map DefA.val := congrArg (fun z : Bool × List FnW => z.2) c
  have e2 : (gs.map fun d => fnWA K (d.adr K))[i]? = (gs.map DefA.val)[i]? := by rw [e]
  rw [List.getElem?_map, List.getElem?_map, h] at e2
  exact DefA.funD (Option.some.inj e2) (List.all_eq_true.mp c2 d (List.mem_of_getElem? h))
end OmH

namespace Om
open PySem PySem.Spec PyProof.Rows L2 LamX He OmH
/-! ### facts of the top by own Bools -/
def oexB (K : PySem.W.Frag) (C : Addr) : Bool := (match K.lookup C with
  | some ⟨.type t, _, .cls cd, sl⟩ => decide (t = "type") && (cd.hasDict && (!cd.hasDel && ((match cd.mro with
    | .ref c :: bm => decide (c = C) && PySem.HandSPX.refsVE bm
    | _ => false) && (match sl.toList with
    | [_, _, _, _, some (.builtin n), _] => decide (n = "ValueError.__new__")
    | _ => false))))
  | _ => false) && (eqO (PySem.W.findIn K (.ref C) "__setattr__") (some (some (.builtin "object.__setattr__"))) && (decide (PySem.W.subIn K (.ref C) (.type "BaseException") = some true) && (decide (PySem.W.typeIn K (.ref C) = some (.type "type")) && PySem.W.keepIn K (.ref C))))
theorem oexB_ok {K : PySem.W.Frag} {C : Addr} (h : oexB K C = true) : OexC K C := by
  obtain ⟨h1, h2⟩ := ba h
  obtain ⟨h2, h3⟩ := ba h2
  obtain ⟨h3, h4⟩ := ba h3
  obtain ⟨h4, h5⟩ := ba h4
  refine ⟨?_, eqO_ok h2, of_decide_eq_true h3, of_decide_eq_true h4, h5⟩
  clear h h2 h3 h4 h5
  cases e : K.lookup C with
  | none => rw [e] at h1; cases h1
  | some o =>
    rw [e] at h1
    obtain ⟨oc, od, dt, sl⟩ := o
    cases oc with
    | type t =>
      cases dt with
      | cls cd =>
        obtain ⟨a1, a2⟩ := ba h1
        obtain ⟨a2, a3⟩ := ba a2
        obtain ⟨a3, a4⟩ := ba a3
        obtain ⟨a4, a5⟩ := ba a4
        obtain ⟨nm, bs, mro, ns, qn, hd, sn, sb, ab, col, del⟩ := cd
        have e1 : t = "type" := of_decide_eq_true a1
        have e2 : hd = true := a2
        have e3 : del = false := by
          have a3 : (!del) = true := a3
          cases del with
          | true => cases a3
          | false => rfl
        clear a1 a2 a3 h1
        subst e1 e2 e3
        cases mro with
        | nil => cases a4
        | cons v bm =>
          cases v with
          | ref c =>
            obtain ⟨b1, b2⟩ := ba (show (decide (c = C) && PySem.HandSPX.refsVE bm) = true from a4)
            have e4 : c = C := of_decide_eq_true b1
            clear b1 a4
            subst e4
            obtain ⟨sl⟩ := sl
            split at a5
            · rename_i q
              have e5 := of_decide_eq_true a5
              have e6 : sl = _ := q
              subst e5 e6
              exact ⟨_, _, _, _, _, _, _, _, _, _, _, _, _, _, _, rfl, b2⟩
            · cases a5
          | _ => cases a4
      | _ => cases h1
    | _ => cases dt <;> cases h1
def errIB (K : PySem.W.Frag) (x : Str) : Bool := oexB K (ga K x) && (eqO (PySem.W.findIn K (.ref (ga K x)) "__init__") (some (some (.ref (ma K (ga K x) "__init__")))) && decide (PySem.W.typeIn K (.ref (ma K (ga K x) "__init__")) = some (.type "function")))
/-- an own special method -/
def ownB (K : PySem.W.Frag) (C : Addr) (n : Str) : Bool := eqO (PySem.W.findIn K (.ref C) n) (some (some (.ref (ma K C n)))) && (PySem.W.isFn K (.ref (ma K C n)) && PySem.W.fnIn K (ma K C n))
theorem ownB_ok {K : PySem.W.Frag} {C : Addr} {n : Str} (h : ownB K C n = true) : OwnM K C n (ma K C n) := by
  obtain ⟨h1, h2⟩ := ba h
  obtain ⟨h2, h3⟩ := ba h2
  exact ⟨eqO_ok h1, h2, h3⟩
def errUB (K : PySem.W.Frag) (C : Addr) : Bool := PySem.W.excIn K C [.type "ValueError", .type "Exception", .type "BaseException", .type "object"] "ValueError.__new__" && (PySem.W.keepIn K (.ref C) && (decide (PySem.W.subIn K (.ref C) (.type "BaseException") = some true) && decide (PySem.W.typeIn K (.ref C) = some (.type "type"))))
/-- a written tuple of ints, whatever their tokens -/
def intsB : List Value → List Int → Bool
  | [], [] => true
  | .int x _ :: r, y :: q => decide (x = y) && intsB r q
  | _, _ => false
theorem intsB_ok : ∀ {vs : List Value} {ws : List Int}, intsB vs ws = true → Vals (ws.map V.int) vs
  | [], [], _ => .nil
  | .int x t :: r, y :: q, h => by
    obtain ⟨h1, h2⟩ := ba h
    have e : x = y := of_decide_eq_true h1
    subst e
    exact .cons ⟨t, rfl⟩ (intsB_ok h2)
def tupB (K : PySem.W.Frag) (x : Str) (ws : List Int) : Bool := match K.lookup (ga K x) with
  | some ⟨.type t, _, .seq its _, _⟩ => decide (t = "tuple") && (decide (its.size ≤ sizeLine) && intsB its.toList ws)
  | _ => false
theorem tupB_ok {K : PySem.W.Frag} {x : Str} {ws : List Int} (h : tupB K x ws = true) : ∀ H, SqT K H (ga K x) (ws.map V.int) := by
  intro H
  unfold tupB at h
  split at h
  · rename_i t od its n sl e2
    obtain ⟨h1, h2⟩ := ba h
    obtain ⟨h2, h3⟩ := ba h2
    have e3 : t = "tuple" := of_decide_eq_true h1
    subst e3
    exact .inr ⟨_, its, n, e2, rfl, rfl, of_decide_eq_true h2, intsB_ok h3⟩
  · cases h
def excCB (K : PySem.W.Frag) (D : Addr) : Bool := xfB K D && (eqO (PySem.W.findIn K (.ref D) "__class__") (some (some (.builtin "object.__class__"))) && (eqO (PySem.W.specialIn K (.builtin "object.__class__") "__get__") (some (some (.builtin "getset_descriptor.__get__"))) &&
  (decide (PySem.W.takesIn K (.builtin "object.__class__") = some true) && decide (PySem.W.mroIn K D (.type "object") = some true))))
theorem excCB_ok {K : PySem.W.Frag} {D : Addr} (h : excCB K D = true) : ExcC K D := by
  obtain ⟨h1, h2⟩ := ba h
  obtain ⟨h2, h3⟩ := ba h2
  obtain ⟨h3, h4⟩ := ba h3
  obtain ⟨h4, h5⟩ := ba h4
  obtain ⟨x1, x2, x3, x4⟩ := xfB_ok h1
  exact ⟨x1, x2, x3, x4, eqO_ok h2, eqO_ok h3, of_decide_eq_true h4, of_decide_eq_true h5⟩
abbrev C4 (K : PySem.W.Frag) (i : Nat) : Addr := ga K (nmF i)
def kitB4 (K : PySem.W.Frag) : Bool := (List.range 4).all fun i => excCB K (C4 K i) && (decide (PySem.W.exmOne K (.ref (C4 K i)) (.ref (ga K "MapError")) = some true) && (List.range 4).all fun j => decide (PySem.W.kitOne K (.ref (C4 K i)) (.ref (C4 K j)) = some (decide (j = i))))
def nstB (K : PySem.W.Frag) : Bool := (List.range 4).all fun i => decide (PySem.W.subIn K (.ref (C4 K i)) (.type "StopIteration") = some false)
def exB (K : PySem.W.Frag) : Bool := kitB4 K && (errIB K "InvalidIsland" && (errIB K "InvalidMap" && (errIB K "InvalidGaps" && (errIB K "InvalidPool" && (errUB K (ga K "UnknownCell") && (errUB K (ga K "UnknownIndex") && (ownB K (ga K "Island") "__contains__" && (ownB K (ga K "Map") "__len__" && (propB K (ga K "Map") "island" && nstB K)))))))))
def fa : List Fa := [.free "int", .free "list", .free "len", .free "range", .free "tuple", .free "max", .free "min", .free "enumerate", .free "isinstance", .free "bool", .free "str", .free "sorted", .free "dict", .free "all", .free "zip", .str "ALL_SIGNS" allSigns, .str "LAND_SIGNS" (Str.ofString ".ABCDEFGHIJKLMNOPQRSTUVWXYZ"), .str "WATER" (Str.ofString "~"), .int "LARGEST" 12, .int "MOST_PACES" 20, .int "MOST_AWAY" 22, .int "MOST_INSTRUCTIONS" 20, .int "MOST_GAPS" 3, .int "MOST_IN_POOL" 6, .glo "MapError", .glo "InvalidIsland", .glo "InvalidMap", .glo "InvalidGaps", .glo "InvalidPool", .glo "UnknownIndex", .glo "UnknownCell", .glo "Island", .glo "Map",
  .glo "in_range", .glo "ascending_numbers", .glo "ascending_signs", .glo "require_land", .glo "_lies_within", .glo "_check_rows", .glo "_first_wrong_column", .glo "is_instruction", .glo "_is_side", .glo "_are_paces", .glo "_check_instructions", .glo "mended", .glo "torn_places", .glo "least_mending", .glo "exchanged", .glo "_require_gaps_and_pool"]
def fa2 : List Fa := [.glo "_law_mix", .glo "_law_next", .glo "_law_alike", .glo "_law_signs", .glo "_law_turns", .glo "_law_one", .glo "_law_fail", .glo "law", .cls "Island", .mkr "Island", .noat "Island" "_rows", .cls "Map", .mkr "Map", .noat "Map" "_island", .noat "Map" "_signs", .noat "Map" "_facings", .noat "Map" "_instructions", .noat "InvalidIsland" "row", .noat "InvalidIsland" "column", .noat "InvalidMap" "index", .noat "InvalidGaps" "index", .noat "InvalidPool" "index"]
def dG (x : Str) (st : Stmt) : He.DefD := ⟨(x, none), x, x, defArgs st, defBody st, defScope st, [], []⟩
def dM (c x q : Str) (st : Stmt) : He.DefD := ⟨(c, some x), x, q, defArgs st, defBody st, defScope st, [], []⟩
def fnD : List He.DefD := [dG "_law_mix" (top 69), dG "_law_next" (top 70), dG "_law_alike" (top 71), dG "_law_signs" (top 72), dG "_law_turns" (top 73), dG "_law_one" (top 74), dG "_law_fail" (top 75), dG "law" (top 76), dG "in_range" (top 5), dG "ascending_numbers" (top 6), dG "ascending_signs" (top 7), dG "require_land" (top 19), dG "_lies_within" (top 20), dG "_check_rows" (top 21), dG "_first_wrong_column" (top 22), dG "is_instruction" (top 50), dG "_is_side" (top 51), dG "_are_paces" (top 52), dG "_check_instructions" (top 56), dG "mended" (top 60), dG "torn_places" (top 61), dG "least_mending" (top 62), dG "exchanged" (top 63), dG "_require_gaps_and_pool" (top 64), dM "Island" "__init__" "Island.__init__" sIslI, dM "Island" "__contains__" "Island.__contains__" (sIslM 8), dM "InvalidIsland" "__init__" "InvalidIsland.__init__" sII, dM "InvalidMap" "__init__" "InvalidMap.__init__" sIM, dM "InvalidGaps" "__init__" "InvalidGaps.__init__" sIG, dM "InvalidPool" "__init__" "InvalidPool.__init__" sIP, dM "Map" "__init__" "Map.__init__" (sMapM 0), dM "Map" "__len__" "Map.__len__" (sMapM 9)]
def gG (c x q : Str) (st : Stmt) : OmH.DefA := ⟨fun K => getA K (ga K c) x, x, q, defArgs st, defBody st, defScope st⟩
def gsD : List OmH.DefA := [gG "Map" "island" "Map.island" (sMapM 1)]
def tfD : List He.Defn := [("law", none)]
abbrev R : PySem.W.OpenRow := PySem.W.OpenLaw.row PySem.Challenge.rw_oldmap_k37_torn_charts_refused
abbrev hk : PySem.W.Hook := OmH.hookY 6 (fa ++ fa2) fnD [] tfD gsD exB
def ob (s : PySem.W.SharedT) : OmH.AlY := OmH.obsY 6 (fa ++ fa2) fnD [] tfD gsD exB (HandSHeadRun.getT s)
theorem ob_eq (s : PySem.W.SharedT) : ob s = hk.obs s.abs := OmH.obsY_eq (HandSHeadRun.getT_eq s)
def loose1 : List Str := ["_wall", "WATER", "LAND_SIGNS", "ALL_SIGNS", "in_range", "ascending_numbers", "ascending_signs", "MapError", "InvalidIsland", "InvalidMap", "UnknownCell", "InvalidGaps", "InvalidPool", "UnknownIndex", "LARGEST", "Island"]
def loose2 : List Str := ["require_land", "_lies_within", "_check_rows", "_first_wrong_column", "ROW_STEPS", "COLUMN_STEPS", "sign_at", "next_cell", "sign_ahead", "facing_by", "paces_ahead", "paces_along", "_pace", "_looked", "led_to", "_until"]
def loose3 : List Str := ["_all_sides", "_is_ahead", "_is_near", "least_choices", "_behind_stage", "_led_by", "begin_states", "cells_of", "MOST_PACES", "MOST_AWAY", "is_instruction", "_is_side", "_are_paces", "MOST_INSTRUCTIONS", "Map", "_check_instructions"]
def loose4 : List Str := ["MOST_GAPS", "MOST_IN_POOL", "mended", "torn_places", "least_mending", "exchanged", "_require_gaps_and_pool", "_all_choices", "_filled", "_least_fillings", "_law_mix", "_law_next", "_law_alike", "_law_signs", "_law_turns", "_law_one"]
def loose5 : List Str := ["_law_fail"]
def loose : List Str := loose1 ++ loose2 ++ loose3 ++ loose4 ++ loose5
theorem run (w : World) : HandSHeadRun.RunEq R (PySem.W.view R.prog [76]) hk ob 12000 loose w := by
  intro os
  kernel_rfl
end Om

/-! mended, torn_places, least_mending, exchanged: where they are refused -/
namespace Om
open PySem PySem.Spec PyProof.Rows L2
abbrev sMd : Stmt := top 60
abbrev sTn : Stmt := top 61
abbrev sLm : Stmt := top 62
abbrev sXc : Stmt := top 63
abbrev nMd : List Str := ["chart", "gaps", "pool", "choices"]
abbrev nLm : List Str := ["chart", "gaps", "pool", "cell", "leading", "_", "options", "chosen"]
abbrev pLm : List Str := ["chart", "gaps", "pool", "cell"]
abbrev nXc : List Str := ["chart", "one", "other", "last", "instructions"]
theorem scMd : GScope nMd nGP (defScope sMd) := ⟨rfl, rfl, rfl, by decide +kernel, rfl, by decide +kernel, by decide +kernel⟩
theorem scTn : FnScope nGP nGP (defScope sTn) := ⟨rfl, rfl, rfl, by decide +kernel, rfl, by decide +kernel, by decide +kernel⟩
theorem scLm : FnScope nLm pLm (defScope sLm) := ⟨rfl, rfl, rfl, by decide +kernel, rfl, by decide +kernel, by decide +kernel⟩
theorem scXc : FnScope nXc ["chart", "one", "other"] (defScope sXc) := ⟨rfl, rfl, rfl, by decide +kernel, rfl, by decide +kernel, by decide +kernel⟩
theorem gs_no {X : Cx} {st : List Stmt} : GSs X st (fun _ _ _ _ => False) := ⟨fun _ _ _ _ _ _ _ _ _ _ _ _ _ _ _ _ _ _ _ _ _ h => False.elim h⟩
def spMd (K : PySem.W.Frag) (CM CI CG CP : Addr) : SpG := fun vs H Q E => ∃ (a ga pa : Addr) (rows : List (List Nat)) (is : List Ins) (gs : List Nm) (ps : List Ins), vs = [.ref a, .ref ga, .ref pa] ∧ GP K CM CI H a ga pa rows is gs ps ∧ ROK CG CP H E (fun _ => False) (reqO is.length gs ps)
def spTn (K : PySem.W.Frag) (CM CI CG CP : Addr) : Sp := fun vs H Q E => ∃ (a ga pa : Addr) (rows : List (List Nat)) (is : List Ins) (gs : List Nm) (ps : List Ins), vs = [.ref a, .ref ga, .ref pa] ∧ GP K CM CI H a ga pa rows is gs ps ∧ ROK CG CP H E (fun _ => False) (reqO is.length gs ps)
def spLm (K : PySem.W.Frag) (CM CI CG CP CU : Addr) : Sp := fun vs H Q E => ∃ (a ga pa ca : Addr) (rows : List (List Nat)) (is : List Ins) (gs : List Nm) (ps : List Ins) (c : Int × Int), vs = [.ref a, .ref ga, .ref pa, .ref ca] ∧ GP K CM CI H a ga pa rows is gs ps ∧ Good2 rows ∧ SqT K H ca [.int c.1, .int c.2] ∧ hasC rows c.1 c.2 = false ∧
  ROK CG CP H E (fun H' => E (.ref CU) none H') (reqO is.length gs ps)
def xcBad (n : Nat) (x y : Nm) : Bool := !(inN x 0 ((n : Int) - 1) && (inN y 0 ((n : Int) - 1) && !decide (x.v = y.v)))
def spXc (K : PySem.W.Frag) (CM CI CX1 : Addr) : Sp := fun vs H Q E => ∃ (a : Addr) (rows : List (List Nat)) (sg : List Nat) (fs : List Nm) (is : List Ins) (x y : Nm), vs = [.ref a, x.v, y.v] ∧ Mp K CM CI H a rows sg fs is ∧ is.length ≤ 1000 ∧ xcBad is.length x y = true ∧ E (.ref CX1) none H
section
variable {P : Program} {w : World} {K : PySem.W.Frag} {mg : Str → Option Value} {base : Heap} {CM CI CG CP CU CX1 gL pmI gI fM : Addr}
theorem ok_md {f : Addr} {fd : FuncData} (F : FnP K "mended" "mended" sMd f fd) (RQ : Cal P w K mg base (L2.CX P w) 4 "_require_gaps_and_pool" nGP (spReq K CM CI CG CP)) : GFn P w K mg base 5 f fd nGP (spMd K CM CI CG CP) := by
  obtain ⟨oc, od, dV, kV, doc, pm, an, cdv, ct, osl, rfl, lk, hcdv, _, _⟩ := F.ex
  refine gfn_of (k := 4) lk hcdv scMd (fun vs H Q E h => ?_) (fun A outer s H vs Q E pn hr h => ?_)
  · obtain ⟨a, ga, pa, rows, is, gs, ps, rfl, _⟩ := h
    rfl
  · obtain ⟨a, ga, pa, rows, is, gs, ps, rfl, gp, ko⟩ := h
    refine ⟨_, gss_cons (gs_ps (ps_expr (pe_cal RQ hr (E := E) (passes_call (W := fun cls d _ H => E cls d H) takes_gcx fun _ _ _ _ h => h) (pa_cons (pv 0) (pa_cons (pv 1) (pa_cons (pv 2) pa_nil)))))) gs_no, ?_⟩
    exact ⟨_, rfl, _, rfl, _, rfl, a, ga, pa, rows, is, gs, ps, rfl, gp, ko⟩
theorem ok_tn {f : Addr} {fd : FuncData} (F : FnP K "torn_places" "torn_places" sTn f fd) (RQ : Cal P w K mg base (L2.CX P w) 4 "_require_gaps_and_pool" nGP (spReq K CM CI CG CP)) : FnOk P w K mg base (L2.CX P w) 5 f fd nGP (spTn K CM CI CG CP) := by
  refine F.ok scTn (fun vs H Q E h => ?_) (fun cdv A outer s H vs Q E hr h => ?_)
  · obtain ⟨a, ga, pa, rows, is, gs, ps, rfl, _⟩ := h
    rfl
  · obtain ⟨a, ga, pa, rows, is, gs, ps, rfl, gp, ko⟩ := h
    refine ⟨_, pss_cons (ps_expr (pe_cal RQ hr (E := E) (passes_call (W := fun cls d _ H => E cls d H) (takes_of rfl rfl rfl rfl) fun _ _ _ _ h => h) (pa_cons (pv 0) (pa_cons (pv 1) (pa_cons (pv 2) pa_nil))))) pss_no, ?_⟩
    exact ⟨_, rfl, _, rfl, _, rfl, a, ga, pa, rows, is, gs, ps, rfl, gp, ko⟩
theorem ok_lm {f : Addr} {fd fdI : FuncData} (F : FnP K "least_mending" "least_mending" sLm f fd) (RQ : Cal P w K mg base (L2.CX P w) 4 "_require_gaps_and_pool" nGP (spReq K CM CI CG CP))
    (LD : Cal P w K mg base (L2.CX P w) 4 "require_land" ["island", "cell"] (spLandF K CI CU)) (T : MapF K mg CM fM) (pI : PropOf K CM "island" pmI gI) (GI : FnOk P w K mg base CX0 1 gI fdI ["self"] (getSp CM "_island")) (bI : Binds K fdI ["self"] []) :
    FnOk P w K mg base (L2.CX P w) 5 f fd pLm (spLm K CM CI CG CP CU) := by
  refine F.ok scLm (fun vs H Q E h => ?_) (fun cdv A outer s H vs Q E hr h => ?_)
  · obtain ⟨a, ga, pa, ca, rows, is, gs, ps, c, rfl, _⟩ := h
    rfl
  · obtain ⟨a, ga, pa, ca, rows, is, gs, ps, c, rfl, gp, g2, hC, hc, ko⟩ := h
    refine ⟨_, pss_cons (ps_expr (pe_cal RQ hr (E := E) (passes_call (W := fun cls d _ H => E cls d H) (takes_of rfl rfl rfl rfl) fun _ _ _ _ h => h) (pa_cons (pv 0) (pa_cons (pv 1) (pa_cons (pv 2) pa_nil)))))
      (pss_cons (ps_expr (pe_cal LD hr (E := E) (passes_call (W := fun cls d _ H => E cls d H) (takes_of rfl rfl rfl rfl) fun _ _ _ _ h => h) (pa_cons (pe_prop (pv 0) T.cl pI GI (hr.mono (by decide)) bI .nil pass0 rfl) (pa_cons (pv 3) pa_nil)))) pss_no), ?_⟩
    refine ⟨_, rfl, _, rfl, _, rfl, a, ga, pa, rows, is, gs, ps, rfl, gp, ?_⟩
    cases e : reqO is.length gs ps with
    | gap n => rw [e] at ko; exact ko
    | pool n => rw [e] at ko; exact ko
    | good =>
      rw [e] at ko
      intro H' s'
      obtain ⟨⟨sg, fs, hM⟩, _⟩ := gp.same s'
      obtain ⟨dx, li, lf, lt, xs, h1, hI, _⟩ := id hM
      exact ⟨_, rfl, a, dx, _, rfl, h1, a, dx, _, .ref li, rfl, h1, mapFs_i .., _, rfl, li, ca, rows, c, rfl, hI, g2, Same.tup s' hC, (fun h => by rw [hc] at h; cases h), fun _ => ko H' s'⟩
theorem ok_xc {f : Addr} {fd fdL : FuncData} (F : FnP K "exchanged" "exchanged" sXc f fd) (U : ErrU K mg "UnknownIndex" CX1) (mL : OwnM K CM "__len__" gL) (GL : FnOk P w K mg base CX0 1 gL fdL ["self"] (spMLen K CM CI)) (bL : Binds K fdL ["self"] [])
    (GR : Cal P w K mg base CX0 1 "in_range" nInR spInN) (glen : mg "len" = none) : FnOk P w K mg base (L2.CX P w) 3 f fd ["chart", "one", "other"] (spXc K CM CI CX1) := by
  refine F.ok scXc (fun vs H Q E h => ?_) (fun cdv A outer s H vs Q E hr h => ?_)
  · obtain ⟨a, rows, sg, fs, is, x, y, rfl, _⟩ := h
    rfl
  · obtain ⟨a, rows, sg, fs, is, x, y, rfl, hM, ln, bad, ko⟩ := h
    have nd := scXc.nd
    have hr1 : Room 1 _ := hr.mono (by decide)
    refine ⟨_, pss_cons (ps_set (i := 3) nd rfl (.inl rfl) (pe_op op_sub (pe_callB (call_lenOwn (E := E0) mL GL hr bL pass0) (by rfl) glen PySem.boot_len (pa_cons (pv 0) pa_nil)) pe_int))
      (pss_cons (ps_if (PW.pt (pw_or (pt_not (pt_val (pe_cal GR hr1 pass0 (pa_cons (pv 1) (pa_cons pe_int (pa_cons (pv 3) pa_nil)))))) (pw_or (pt_not (pt_val (pe_cal GR hr1 pass0 (pa_cons (pv 2) (pa_cons pe_int (pa_cons (pv 3) pa_nil)))))) (pw_or1 (pt_cmpR op_eq (pv 1) (pv 2) (nomark _))))))
        (pss_one (ps_raise rfl (takes_of rfl rfl rfl rfl) (pmk_own PySem.F.excBase_ValueError U.q U.g U.kp (raises_own U.r1 U.r2) rfl))) pss_nil) pss_no), ?_⟩
    obtain ⟨dx, li, lf, lt, zs, hm1, _⟩ := id hM
    refine ⟨_, rfl, a, dx, _, rfl, hm1, a, rows, sg, fs, is, rfl, hM, _, rfl, by omega, by omega, _, _, rfl, rfl, ?_⟩
    refine ⟨_, rfl, _, rfl, nilArgs ⟨x, 0, _, rfl, _, rfl, ?_⟩⟩
    unfold xcBad at bad
    cases e1 : inN x 0 ((is.length : Int) - 1) with
    | false => exact iteT ko
    | true =>
      rw [e1] at bad
      refine iteF ?_
      refine ⟨_, rfl, _, rfl, nilArgs ⟨y, 0, _, rfl, _, rfl, ?_⟩⟩
      cases e2 : inN y 0 ((is.length : Int) - 1) with
      | false => exact iteT ko
      | true =>
        rw [e2] at bad
        refine iteF ?_
        cases x with
        | b z => cases e1
        | i m =>
          cases y with
          | b z => cases e2
          | i n =>
            refine ⟨_, rfl, _, rfl, rfl, ?_⟩
            cases e3 : decide ((Nm.i m).v = (Nm.i n).v) with
            | false => rw [e3] at bad; cases bad
            | true => exact ⟨_, rfl, iteT' rfl ko⟩
end
end Om

namespace Om
open PySem PySem.Spec PyProof.Rows L2
def LoS (s : List Nat) : Prop := ∀ c ∈ s, c < 1000
def Ins.lo : Ins → Prop
  | .upto s => LoS s
  | .toward s => LoS s
  | .beside _ s => LoS s
  | .near s _ => LoS s
  | _ => True
theorem nm_lay (n : Nm) : n.d.canLay0 = true := by cases n <;> simp [Nm.d, PyData.canLay0]
theorem nms_lay : ∀ ns : List Nm, PyData.canLayAll0 (ns.map Nm.d) = true
  | [] => by simp [PyData.canLayAll0]
  | n :: r => by simp only [List.map_cons, PyData.canLayAll0, nm_lay, nms_lay r, Bool.and_self]
theorem nm_dep (n : Nm) : n.d.depth = 0 := by cases n <;> simp [Nm.d, PyData.depth]
theorem nms_dep : ∀ ns : List Nm, PyData.depthAll (ns.map Nm.d) = 0
  | [] => by simp [PyData.depthAll]
  | n :: r => by simp [PyData.depthAll, nm_dep, nms_dep r]
theorem dt_lay {s : List Nat} (h : LoS s) : (dt s).canLay0 = true := by
  simp only [dt, PyData.canLay0]
  exact strOk_tx h
theorem dt_dep (s : List Nat) : (dt s).depth = 0 := by simp [dt, PyData.depth]
theorem word_ok (i : Ins) : PyData.strOk i.word = true := by cases i <;> (show PyData.strOk (Str.ofString _) = true; decide +kernel)
theorem ins_lay {i : Ins} (h : i.lo) : i.d.canLay0 = true := by
  have w := word_ok i
  cases i <;> simp only [Ins.d, Ins.parts, PyData.canLay0, PyData.canLayAll0, w, nm_lay, nms_lay, Bool.and_self] <;> first | rfl | (rw [dt_lay h] <;> rfl)
theorem ins_dep (i : Ins) : i.d.depth ≤ 2 := by
  cases i <;> simp [Ins.d, Ins.parts, PyData.depth, PyData.depthAll, nm_dep, nms_dep, dt_dep]
theorem inss_lay : ∀ {is : List Ins}, (∀ i ∈ is, i.lo) → PyData.canLayAll0 (is.map Ins.d) = true
  | [], _ => by simp [PyData.canLayAll0]
  | i :: r, h => by simp only [List.map_cons, PyData.canLayAll0, ins_lay (h i (List.mem_cons_self ..)), inss_lay (is := r) fun j hj => h j (List.mem_cons_of_mem _ hj), Bool.and_self]
theorem inss_dep : ∀ is : List Ins, PyData.depthAll (is.map Ins.d) ≤ 2
  | [] => by simp [PyData.depthAll]
  | i :: r => by
    have h1 := ins_dep i
    have h2 := inss_dep r
    simp only [List.map_cons, PyData.depthAll]
    omega
theorem sh_nms (ns : List Nm) : SeqAt.shaped (.tuple (ns.map Nm.d)) = true := shaped_of (by simp only [PyData.canLay0]; exact nms_lay ns) (by simp only [PyData.depth, nms_dep]; omega)
theorem sh_inss {is : List Ins} (h : ∀ i ∈ is, i.lo) : SeqAt.shaped (.tuple (is.map Ins.d)) = true := shaped_of (by simp only [PyData.canLay0]; exact inss_lay h) (by have := inss_dep is; simp only [PyData.depth]; omega)
theorem dpAll_cs {K : PySem.W.Frag} {H : Hp} : ∀ cs : List Nat, DpAll K H (cs.map fun c => vt [c]) (cs.map fun c => dt [c])
  | [] => .nil
  | c :: r => .cons (.str _) (dpAll_cs r)
theorem cs_lay : ∀ {cs : List Nat}, (∀ c ∈ cs, c < 1000) → PyData.canLayAll0 (cs.map fun c => dt [c]) = true
  | [], _ => by simp [PyData.canLayAll0]
  | c :: r, h => by
    have h1 : (dt [c]).canLay0 = true := dt_lay fun x hx => by rw [List.mem_singleton.mp hx]; exact h c (List.mem_cons_self ..)
    simp only [List.map_cons, PyData.canLayAll0, h1, cs_lay (cs := r) fun x hx => h x (List.mem_cons_of_mem _ hx), Bool.and_self]
theorem cs_dep : ∀ cs : List Nat, PyData.depthAll (cs.map fun c => dt [c]) = 0
  | [] => by simp [PyData.depthAll]
  | c :: r => by simp [PyData.depthAll, dt_dep, cs_dep r]
theorem sh_cs {cs : List Nat} (h : ∀ c ∈ cs, c < 1000) : SeqAt.shaped (.list (cs.map fun c => dt [c])) = true := shaped_of (by simp only [PyData.canLay0]; exact cs_lay h) (by simp only [PyData.depth, cs_dep]; omega)
theorem sh_lnil : SeqAt.shaped (.list []) = true := shaped_of (by simp [PyData.canLay0, PyData.canLayAll0]) (by simp [PyData.depth, PyData.depthAll])
theorem eqv_lnil {α : Type} (f : α → PyData) (cs : List α) : PyData.eqv (.list (cs.map f)) (.list []) = cs.isEmpty := by
  cases cs <;> simp [PyData.eqv, PyData.eqvAll]
def nm (n : Nat) : Nm := .i ((n : Nat) : Int)
theorem upN_of : ∀ ms : List Nat, ms.Pairwise (· < ·) → upN (ms.map nm) = true
  | [], _ => rfl
  | [_], _ => rfl
  | a :: b :: r, h => by
    obtain ⟨h1, h2⟩ := List.pairwise_cons.mp h
    have ih := upN_of (b :: r) h2
    have hab := h1 b (List.mem_cons_self ..)
    show (decide ((a : Int) < (b : Int)) && upN ((b :: r).map nm)) = true
    rw [ih, decide_eq_true (by omega)]
    rfl
theorem ascN_of {ms : List Nat} (hne : ms ≠ []) (hp : ms.Pairwise (· < ·)) (h4 : ∀ m ∈ ms, m < 4) : ascN (ms.map nm) 0 3 = true := by
  unfold ascN
  have e1 : (ms.map nm).isEmpty = false := by
    cases ms with
    | nil => exact absurd rfl hne
    | cons a r => rfl
  have e2 : (ms.map nm).all (fun n => inN n 0 3) = true := by
    rw [List.all_map]
    refine List.all_eq_true.mpr fun m hm => ?_
    have := h4 m hm
    show (decide ((0 : Int) ≤ (m : Int)) && decide ((m : Int) ≤ 3)) = true
    rw [decide_eq_true (by omega), decide_eq_true (by omega)]
    rfl
  rw [e1, e2, upN_of ms hp]
  rfl
theorem filter_sub : ∀ {t l : List Nat}, t.Sublist l → l.Nodup → l.filter (fun c => decide (c ∈ t)) = t := by
  intro t l h
  induction h with
  | slnil => intro _; rfl
  | @cons t l a h ih =>
    intro n
    obtain ⟨n1, n2⟩ := List.nodup_cons.mp n
    have ha : a ∉ t := fun z => n1 (h.subset z)
    rw [List.filter_cons, if_neg (by simp [ha]), ih n2]
  | @cons_cons t l a h ih =>
    intro n
    obtain ⟨n1, n2⟩ := List.nodup_cons.mp n
    rw [List.filter_cons, if_pos (by simp)]
    have e : l.filter (fun c => decide (c ∈ a :: t)) = l.filter (fun c => decide (c ∈ t)) := by
      refine List.filter_congr fun c hc => ?_
      have : c ≠ a := fun z => n1 (z ▸ hc)
      simp [this]
    rw [e, ih n2]
theorem ascS_of {t l : List Nat} (hne : t ≠ []) (h : t.Sublist l) (n : l.Nodup) : ascS t l = true := by
  unfold ascS
  rw [filter_sub h n, decide_eq_false hne, decide_eq_true rfl]
  rfl
theorem lands_nd : lands.Nodup := by decide
theorem alls_nd : alls.Nodup := by decide
theorem lo_of {t l : List Nat} (h : t.Sublist l) (hl : ∀ c ∈ l, c < 1000) : LoS t := fun c hc => hl c (h.subset hc)
theorem dpAll_nats {K : PySem.W.Frag} {H : Hp} : ∀ ms : List Nat, DpAll K H (ms.map fun n => (nm n).v) (ms.map fun n => (nm n).d)
  | [] => .nil
  | c :: r => .cons (.int _) (dpAll_nats r)
theorem sh_nats (ms : List Nat) : SeqAt.shaped (.list (ms.map fun n => (nm n).d)) = true := by
  have e : (ms.map fun n => (nm n).d) = (ms.map nm).map Nm.d := by rw [List.map_map]; rfl
  rw [e]
  exact shaped_of (by simp only [PyData.canLay0]; exact nms_lay _) (by simp only [PyData.depth, nms_dep]; omega)
theorem ixlK {X : Cx} {K : PySem.W.Frag} (hK : X.K = K) : IxR X (rIxL K) := by
  subst hK
  exact ix_list
end Om

/-! _law_signs, _law_turns, _law_one: what is drawn -/
namespace Om
open PySem PySem.Spec PyProof.Rows L2
theorem Bx.updO {b l D : Addr} {H : Hp} {o : HO} (B : Bx H b l) (h1 : D ≠ b) (h2 : D ≠ l) : Bx (upd H D o) b l := by
  obtain ⟨ns, z, j, k1, k2, k3⟩ := B.ex
  exact ⟨ns, z, j, by rw [upd_ne h1.symm]; exact k1, by rw [upd_ne h2.symm]; exact k2, k3⟩
abbrev sSgn : Stmt := top 72
abbrev sTrn : Stmt := top 73
abbrev sOne : Stmt := top 74
def spSgn : Sp := fun vs H Q _ => ∃ (b l : Addr) (cs : List Nat), vs = [.ref b, .str (tx cs)] ∧ Bx H b l ∧ cs ≠ [] ∧ cs.length ≤ 60 ∧ ∀ (t : List Nat) (H' : Hp), t ≠ [] → t.Sublist cs → Bx H' b l → Kp b l H H' → Q (vt t) H'
def spTrn : Sp := fun vs H Q _ => ∃ (b l : Addr), vs = [.ref b] ∧ Bx H b l ∧ ∀ (ns : List Nm) (p : Addr) (H' : Hp), ascN ns 0 3 = true → ns.length ≤ 4 → H' p = some (.tup (ns.map Nm.v)) → Bx H' b l → Kp b l H H' → Q (.ref p) H'
def spOne (K : PySem.W.Frag) : Sp := fun vs H Q _ => ∃ (b l : Addr), vs = [.ref b] ∧ Bx H b l ∧ ∀ (i : Ins) (v : V) (H' : Hp), i.ok = true → i.small = true → i.lo → Dp K H' v i.d → Bx H' b l → Kp b l H H' → Q v H'
def c4 : List Nat := [46, 65, 66, 84]
def c4v : List Nat := [46, 65, 66, 84, 126]
theorem c4_tx : Str.ofString ".ABT" = tx c4 := by decide +kernel
theorem c4v_tx : Str.ofString ".ABT~" = tx c4v := by decide +kernel
theorem c4_sub : c4.Sublist lands := by decide
theorem c4v_sub : c4v.Sublist alls := by decide
def joinArg (e : Expr) : Expr := match e with
  | .Call _ [a] _ _ => a
  | e => e
section
variable {P : Program} {w : World} {K : PySem.W.Frag} {mg : Str → Option Value} {base : Heap}
abbrev nSgn : List Str := ["_law_h", "_law_known", "_law_found", "_law_sign"]
theorem scSgn : FnScope nSgn ["_law_h", "_law_known"] (defScope sSgn) := ⟨rfl, rfl, rfl, by decide +kernel, rfl, by decide +kernel, by decide +kernel⟩
def sgnLc : Expr := joinArg (asgExpr ((defBody sSgn).getD 0 noS))
theorem blkSgn : BlkOk nSgn (defScope sSgn) (lcScope sgnLc) [("_law_sign", 3)] := blkOk_by (by decide +kernel)
theorem ok_sgn {f : Addr} {fd : FuncData} (F : FnP K "_law_signs" "_law_signs" sSgn f fd) (T : Cal P w K mg base CX0 1 "_law_next" ["_law_h", "_law_limit"] spNext) (glen : mg "len" = none) :
    FnOk P w K mg base CX0 2 f fd ["_law_h", "_law_known"] spSgn := by
  refine F.ok scSgn (fun vs H Q E h => ?_) (fun cdv A outer s H vs Q E hr h => ?_)
  · obtain ⟨b, l, cs, rfl, _⟩ := h
    rfl
  · obtain ⟨b, l, cs, rfl, B, hne, hl, k⟩ := h
    have nd := scSgn.nd
    refine ⟨_, PSs.nox (pss_cons (ps_set (i := 2) nd rfl (.inl rfl) (pe_joinK pe_str
        (pe_lc (own := [("_law_sign", 3)]) (g := gName 3) rfl nd (pi_str (pv 1)) blkSgn (fun _ _ _ _ _ => pg_name (i := 3) nd rfl (.inl rfl)) (fun _ _ _ _ _ => pts_one (pt_cmpR op_eq (pe_cal T hr pass0 (pa_cons (pv 0) (pa_cons pe_int pa_nil))) pe_int (nomark _))) (fun _ _ _ _ _ => pv 3))))
      (pss_one (ps_ret (pe_ifExp (pt_cmpR op_ne (pv 2) pe_str (nomark _)) (pv 2)
        (pe_ix ix_str (pv 1) (pe_cal T hr pass0 (pa_cons (pv 0) (pa_cons (pe_callB call_len_str (by rfl) glen PySem.boot_len (pa_cons (pv 1) pa_nil)) pa_nil))) (fun _ _ => rfl)))))), ?_⟩
    refine ⟨⟨_, rfl⟩, _, rfl, _, rfl, fun D hD => ?_⟩
    obtain ⟨Db, Dl⟩ := B.new hD
    refine lc_it (walk_str (z := tx cs)) (fun i H' => ∃ fs : List Nat, fs.Sublist (cs.take i) ∧ H' D = some (.lst (fs.map fun c => vt [c])) ∧ Bx H' b l ∧ Kp b l H H')
      ⟨[], List.nil_sublist _, upd_same, B.same (Same.new (Same.refl _) hD), Kp.of (Same.new (Same.refl _) hD)⟩ (fun _ _ _ _ => trivial) ?_ ?_
    · rintro i x H1 H2 hi ⟨fs, q1, q2, q4, q5⟩ ⟨rfl, c, hc, rfl⟩
      have hci : cs[i]? = some c := by
        rw [← Array.getElem?_toList, tx_cps] at hc
        exact hc
      have et : cs.take (i + 1) = cs.take i ++ [c] := by rw [List.take_succ, hci]; rfl
      refine ⟨rfl, ?_⟩
      refine ⟨_, rfl, b, l, 2, rfl, q4, by decide, by decide, fun n H3 a1 a2 B3 K3 => ⟨rfl, _, rfl, ?_⟩⟩
      have r2 := K3 D _ q2 Db Dl
      refine ite2 (fun hz => ?_) (fun hz => ?_)
      · have hfl : fs.length ≤ 60 := Nat.le_trans q1.length_le (by rw [List.length_take]; omega)
        refine ⟨_, rfl, _, r2, Nat.lt_of_le_of_lt (show _ ≤ 60 by rw [List.length_map]; exact hfl) (by decide), fs ++ [c], ?_, ?_, B3.updO Db Dl, fun x o hx n1 n2 => ?_⟩
        · rw [et]; exact q1.append (List.Sublist.refl _)
        · rw [upd_same, List.map_append]; rfl
        · rw [upd_ne (ne_of_none hx hD)]
          exact K3 x o (q5 x o hx n1 n2) n1 n2
      · exact ⟨fs, by rw [et]; exact q1.trans (List.sublist_append_left _ _), r2, B3, q5.trans K3⟩
    · rintro H2 ⟨fs, q1, q2, q4, q5⟩
      have e0 : cs.take (tx cs).cps.size = cs := List.take_of_length_le (by rw [← Array.length_toList, tx_cps]; exact Nat.le_refl _)
      rw [e0] at q1
      have hfl : fs.length ≤ 60 := Nat.le_trans q1.length_le hl
      have ecs : (fs.map fun c => vt [c]) = (fs.map fun c => tx [c]).map V.str := by rw [List.map_map]; rfl
      rw [ecs] at q2
      have e5 : ∀ l : List Nat, ((l.map fun c => tx [c]).map (·.length)).sum = l.length := by
        intro l
        induction l with
        | nil => rfl
        | cons a r ih => simp only [List.map_cons, List.sum_cons, ih, tx_len, List.length_cons, List.length_nil]; omega
      refine ⟨_, D, _, rfl, rfl, .inl (.inl (.inl q2)), ?_, ?_⟩
      · rw [empty_tx, e5, List.length_map]
        show _ + _ * 0 ≤ _
        omega
      rw [empty_tx, TL.join_eq, join_tx]
      refine ⟨_, rfl, rfl, _, rfl, ?_⟩
      cases fs with
      | nil =>
        refine iteF' (by show (!decide (V.str (tx []) = V.str (Str.ofString ""))) = false; rw [show Str.ofString "" = tx [] from by decide +kernel]; simp) ?_
        have hl1 : 1 ≤ cs.length := by
          cases cs with
          | nil => exact absurd rfl hne
          | cons c r => simp
        refine ⟨_, rfl, _, rfl, _, rfl, _, rfl, (by rw [tx_len]; exact small_le (by omega)), b, l, _, rfl, q4, (by rw [tx_len]; omega), (by rw [tx_len]; omega), fun n H4 a1 a2 B4 K4 => ?_⟩
        rw [tx_len] at a2
        have hn : n.toNat < cs.length := by omega
        have hci : cs[n.toNat]? = some cs[n.toNat] := by simp [hn]
        have hat : atI cs n = some cs[n.toNat] := by
          have z := atI_nat hci
          rwa [Int.toNat_of_nonneg a1] at z
        refine ⟨_, n, cs[n.toNat], rfl, rfl, (by rw [tx_len]; exact small_le (by omega)), (by rw [tx_cps]; exact hat), ?_⟩
        exact k [cs[n.toNat]] H4 (by simp) (List.singleton_sublist.mpr (List.getElem_mem hn)) B4 (q5.trans K4)
      | cons c r =>
        refine iteT' ?_ ?_
        · show (!decide (V.str (tx (c :: r)) = V.str (Str.ofString ""))) = true
          rw [decide_eq_false fun h => ?_]
          · rfl
          · rw [show Str.ofString "" = tx [] from by decide +kernel] at h
            have := tx_inj (V.str.inj h)
            cases this
        exact ⟨_, rfl, k (c :: r) _ (by simp) q1 q4 q5⟩
end
end Om

namespace Om
open PySem PySem.Spec PyProof.Rows L2
section
variable {P : Program} {w : World} {K : PySem.W.Frag} {mg : Str → Option Value} {base : Heap}
abbrev nTrn : List Str := ["_law_h", "_law_found", "_law_turn"]
theorem scTrn : FnScope nTrn ["_law_h"] (defScope sTrn) := ⟨rfl, rfl, rfl, by decide +kernel, rfl, by decide +kernel, by decide +kernel⟩
def trnLc : Expr := joinArg (asgExpr ((defBody sTrn).getD 0 noS))
theorem blkTrn : BlkOk nTrn (defScope sTrn) (lcScope trnLc) [("_law_turn", 2)] := blkOk_by (by decide +kernel)
theorem sh_natsT (ms : List Nat) : SeqAt.shaped (.tuple (ms.map fun n => (nm n).d)) = true := by
  have e : (ms.map fun n => (nm n).d) = (ms.map nm).map Nm.d := by rw [List.map_map]; rfl
  rw [e]
  exact sh_nms _
theorem sh_tnil : SeqAt.shaped (.tuple []) = true := shaped_of (by simp [PyData.canLay0, PyData.canLayAll0]) (by simp [PyData.depth, PyData.depthAll])
theorem eqv_tnil {α : Type} (f : α → PyData) (cs : List α) : PyData.eqv (.tuple (cs.map f)) (.tuple []) = cs.isEmpty := by
  cases cs <;> simp [PyData.eqv, PyData.eqvAll]
theorem ok_trn {f : Addr} {fd : FuncData} (F : FnP K "_law_turns" "_law_turns" sTrn f fd) (T : Cal P w K mg base CX0 1 "_law_next" ["_law_h", "_law_limit"] spNext) (grange : mg "range" = none) (gtuple : mg "tuple" = none) :
    FnOk P w K mg base CX0 2 f fd ["_law_h"] spTrn := by
  refine F.ok scTrn (fun vs H Q E h => ?_) (fun cdv A outer s H vs Q E hr h => ?_)
  · obtain ⟨b, l, rfl, _⟩ := h
    rfl
  · obtain ⟨b, l, rfl, B, k⟩ := h
    have nd := scTrn.nd
    refine ⟨_, PSs.nox (pss_cons (ps_set (i := 1) nd rfl (.inl rfl) (pe_callTy call_tuple_of (by rfl) gtuple (by decide +kernel) (pa_cons
        (pe_lc (own := [("_law_turn", 2)]) (g := gName 2) rfl nd (pi_range1 rfl grange (pa_cons pe_int pa_nil)) blkTrn (fun _ _ _ _ _ => pg_name (i := 2) nd rfl (.inl rfl)) (fun _ _ _ _ _ => pts_one (pt_cmpR op_eq (pe_cal T hr pass0 (pa_cons (pv 0) (pa_cons pe_int pa_nil))) pe_int (nomark _))) (fun _ _ _ _ _ => pv 2)) pa_nil)))
      (pss_one (ps_ret (pe_ifExp (pt_cmpR (op_neD hr.units) (pv 1) (pe_tup pa_nil) (nomark _)) (pv 1)
        (pe_tup (pa_cons (pe_cal T hr pass0 (pa_cons (pv 0) (pa_cons pe_int pa_nil))) pa_nil)))))), ?_⟩
    refine ⟨4, rfl, by decide, by decide, fun D hD => ?_⟩
    have bx := B.new hD
    refine lc_range (lo := 0) (n := (4 : Int).toNat) (fun i H' => ∃ ms : List Nat, ms.Sublist (List.range i) ∧ H' D = some (.lst (ms.map fun n => (nm n).v)) ∧ Bx H' b l ∧ Kp b l H H')
      ⟨[], List.nil_sublist _, upd_same, B.same (Same.new (Same.refl _) hD), Kp.of (Same.new (Same.refl _) hD)⟩ ?_ ?_
    · rintro i H2 hi ⟨ms, q1, q2, q4, q5⟩
      refine ⟨rfl, ?_⟩
      refine ⟨_, rfl, b, l, 3, rfl, q4, by decide, by decide, fun n H3 a1 a2 B3 K3 => ⟨rfl, _, rfl, ?_⟩⟩
      have r2 := K3 D _ q2 bx.1 bx.2
      refine ite2 (fun hz => ?_) (fun hz => ?_)
      · have hfl : ms.length ≤ 4 := Nat.le_trans q1.length_le (by rw [List.length_range]; have : (4 : Int).toNat = 4 := rfl; omega)
        refine ⟨_, rfl, _, r2, Nat.lt_of_le_of_lt (show _ ≤ 60 by rw [List.length_map]; omega) (by decide), ms ++ [i], ?_, ?_, B3.updO bx.1 bx.2, fun x o hx n1 n2 => ?_⟩
        · rw [List.range_succ]; exact q1.append (List.Sublist.refl _)
        · rw [upd_same, List.map_append]
          show some (HO.lst (_ ++ [V.int (0 + ((i : Nat) : Int))])) = _
          rw [Int.zero_add]
          rfl
        · rw [upd_ne (ne_of_none hx hD)]
          exact K3 x o (q5 x o hx n1 n2) n1 n2
      · exact ⟨ms, by rw [List.range_succ]; exact q1.trans (List.sublist_append_left _ _), r2, B3, q5.trans K3⟩
    · rintro H2 ⟨ms, q1, q2, q4, q5⟩
      have q1 : ms.Sublist (List.range 4) := q1
      have hfl : ms.length ≤ 4 := by have := q1.length_le; rwa [List.length_range] at this
      refine ⟨D, _, rfl, .inl ⟨.inl (.inl q2), fun p hp => ?_⟩⟩
      have s1 := Same.new (Same.refl H2) hp (o := .tup (ms.map fun n => (nm n).v))
      have e1 : (upd H2 p (.tup (ms.map fun n => (nm n).v))) p = some (.tup (ms.map fun n => (nm n).v)) := upd_same
      generalize upd H2 p (.tup (ms.map fun n => (nm n).v)) = H3 at s1 e1 ⊢
      refine ⟨_, rfl, by show 0 ≤ sizeLine; decide, fun e he => ?_⟩
      have s2 := s1.trans (Same.new (Same.refl H3) he (o := .tup []))
      have s3 := Same.new (Same.refl H3) he (o := .tup [])
      refine ⟨_, _, .tup (.inl (.inl (s3 _ _ e1))) (dpAll_nats ms), .tup (.inl (.inl upd_same)) .nil, sh_natsT ms, sh_tnil, _, rfl, ?_⟩
      rw [eqv_tnil]
      have e1' := s3 _ _ e1
      generalize upd H3 e (.tup []) = H4 at s2 e1' ⊢
      cases ms with
      | nil =>
        refine iteF' rfl ?_
        refine ⟨_, rfl, b, l, 4, rfl, q4.same s2, by decide, by decide, fun n H5 a1 a2 B5 K5 => ⟨by show 1 ≤ sizeLine; decide, fun p hp => ?_⟩⟩
        have s5 := Same.new (Same.refl H5) hp (o := .tup [.int n])
        have en : V.int n = (nm n.toNat).v := by
          show V.int n = V.int ((n.toNat : Nat) : Int)
          rw [Int.toNat_of_nonneg a1]
        refine k [nm n.toNat] p _ (ascN_of (ms := [n.toNat]) (by simp) (by simp) (by intro m hm; rw [List.mem_singleton.mp hm]; omega)) (by simp) ?_ (B5.same s5) (q5.trans ((Kp.of s2).trans (K5.trans (Kp.of s5))))
        rw [upd_same, en]
        rfl
      | cons m r =>
        refine iteT' rfl ⟨_, rfl, ?_⟩
        refine k ((m :: r).map nm) p _ (ascN_of (by simp) (List.Pairwise.sublist q1 List.pairwise_lt_range) (fun x hx => List.mem_range.mp (q1.subset hx))) (by rw [List.length_map]; exact hfl) ?_ (q4.same s2) (q5.trans (Kp.of s2))
        rw [e1', List.map_map]
        rfl
abbrev nOne : List Str := ["_law_h", "_law_kind", "_law_least"]
theorem scOne : FnScope nOne ["_law_h"] (defScope sOne) := ⟨rfl, rfl, rfl, by decide +kernel, rfl, by decide +kernel, by decide +kernel⟩
theorem ok_one {f : Addr} {fd : FuncData} (F : FnP K "_law_one" "_law_one" sOne f fd) (T : Cal P w K mg base CX0 1 "_law_next" ["_law_h", "_law_limit"] spNext) (GT : Cal P w K mg base CX0 2 "_law_turns" ["_law_h"] spTrn)
    (GS : Cal P w K mg base CX0 2 "_law_signs" ["_law_h", "_law_known"] spSgn) : FnOk P w K mg base CX0 3 f fd ["_law_h"] (spOne K) := by
  refine F.ok scOne (fun vs H Q E h => ?_) (fun cdv A outer s H vs Q E hr h => ?_)
  · obtain ⟨b, l, rfl, _⟩ := h
    rfl
  · obtain ⟨b, l, rfl, B, k⟩ := h
    have nd := scOne.nd
    have hr1 : Room 1 _ := hr.mono (by decide)
    refine ⟨_, PSs.nox (pss_cons (ps_par (i := 1) (j := 2) rfl nd rfl rfl (by decide) rfl rfl (pa_cons (pe_cal T hr1 pass0 (pa_cons (pv 0) (pa_cons pe_int pa_nil))) (pa_cons (pe_cal T hr1 pass0 (pa_cons (pv 0) (pa_cons pe_int pa_nil))) pa_nil)) (by rfl))
      (pss_cons (ps_if (pt_cmpR op_eq (pv 1) pe_int (nomark _)) (pss_one (ps_ret (pe_tup (pa_cons pe_str (pa_cons (pe_cal GT hr pass0 (pa_cons (pv 0) pa_nil)) pa_nil))))) pss_nil)
      (pss_cons (ps_if (pt_cmpR op_lt (pv 1) pe_int (nomark _)) (pss_one (ps_ret (pe_tup (pa_cons pe_str (pa_cons (pv 2) (pa_cons (pe_op op_add (pv 2) (pe_cal T hr1 pass0 (pa_cons (pv 0) (pa_cons pe_int pa_nil)))) pa_nil)))))) pss_nil)
      (pss_cons (ps_if (pt_cmpR op_lt (pv 1) pe_int (nomark _)) (pss_one (ps_ret (pe_tup (pa_cons (pe_ix (ixlK (K := K) rfl) (pe_lst (pa_cons pe_str (pa_cons pe_str pa_nil))) (pe_op op_sub (pv 1) pe_int) (fun _ _ => rfl)) (pa_cons (pe_cal GS hr pass0 (pa_cons (pv 0) (pa_cons pe_str pa_nil))) pa_nil))))) pss_nil)
      (pss_cons (ps_if (pt_cmpR op_eq (pv 1) pe_int (nomark _)) (pss_one (ps_ret (pe_tup (pa_cons pe_str (pa_cons (pe_cal T hr1 pass0 (pa_cons (pv 0) (pa_cons pe_int pa_nil))) (pa_cons (pe_cal GS hr pass0 (pa_cons (pv 0) (pa_cons pe_str pa_nil))) pa_nil)))))) pss_nil)
      (pss_cons (ps_if (pt_cmpR op_eq (pv 1) pe_int (nomark _)) (pss_one (ps_ret (pe_tup (pa_cons pe_str (pa_cons (pe_cal GS hr pass0 (pa_cons (pv 0) (pa_cons pe_str pa_nil))) (pa_cons (pe_cal T hr1 pass0 (pa_cons (pv 0) (pa_cons pe_int pa_nil))) pa_nil)))))) pss_nil)
      (pss_one (ps_ret (pe_tup (pa_cons pe_str (pa_cons (pe_ix (ixlK (K := K) rfl) (pe_lst (pa_cons pe_int (pa_cons pe_int pa_nil))) (pe_cal T hr1 pass0 (pa_cons (pv 0) (pa_cons pe_int pa_nil))) (fun _ _ => rfl)) (pa_cons (pv 2)
          (pa_cons (pe_op op_add (pv 2) (pe_cal T hr1 pass0 (pa_cons (pv 0) (pa_cons pe_int pa_nil)))) pa_nil))))))))))))), ?_⟩
    refine ⟨_, rfl, b, l, 8, rfl, B, by decide, by decide, fun wd H1 a1 a2 B1 K1 => ?_⟩
    refine ⟨_, rfl, b, l, 3, rfl, B1, by decide, by decide, fun le H2 b1 b2 B2 K2 => ?_⟩
    refine nilArgs ⟨_, _, rfl, ?_⟩
    have kk := K1.trans K2
    have lo5 : ∀ c ∈ c4, c < 1000 := by decide
    have lo5w : ∀ c ∈ c4v, c < 1000 := by decide
    refine ⟨_, rfl, rfl, _, rfl, ite2 (fun hz => ?_) (fun hz => ?_)⟩
    · refine ⟨_, rfl, b, l, rfl, B2, fun ns p H4 m1 m2 m3 B4 K4 => ⟨by show 2 ≤ sizeLine; decide, fun t ht => ?_⟩⟩
      have s5 := Same.new (Same.refl H4) ht (o := .tup [.str "turn", .ref p])
      exact k (.turn ns) _ _ m1 (decide_eq_true (by omega)) trivial (.tup (.inl (.inl upd_same)) (.cons (.str _) (.cons (.tup (.inl (.inl (s5 _ _ m3))) (nms_dp ns)) .nil))) (B4.same s5) (kk.trans (K4.trans (Kp.of s5)))
    have h0 : wd ≠ 0 := fun e => hz (decide_eq_true (by rw [e]))
    refine ⟨_, rfl, _, _, rfl, rfl, _, rfl, ite2 (fun hz2 => ?_) (fun hz2 => ?_)⟩
    · refine ⟨_, rfl, _, rfl, _, rfl, b, l, 3, rfl, B2, by decide, by decide, fun mo H3 c1 c2 B3 K3 => ⟨_, _, rfl, rfl, by show 3 ≤ sizeLine; decide, fun t ht => ?_⟩⟩
      have s5 := Same.new (Same.refl H3) ht (o := .tup [.str "walk", .int le, .int (le + mo)])
      have ok : paces (.i le) (.i (le + mo)) = true := by
        show ((decide (0 ≤ le) && decide (le ≤ 20)) && (decide (le ≤ le + mo) && decide (le + mo ≤ 20))) = true
        rw [decide_eq_true (by omega), decide_eq_true (by omega), decide_eq_true (by omega), decide_eq_true (by omega)]
        rfl
      exact k (.walk (.i le) (.i (le + mo))) _ _ ok rfl trivial (.tup (.inl (.inl upd_same)) (.cons (.str _) (.cons (.int _) (.cons (.int _) .nil)))) (B3.same s5) (kk.trans (K3.trans (Kp.of s5)))
    have hz2 : ¬ wd < 3 := fun h => hz2 (decide_eq_true h)
    refine ⟨_, rfl, _, _, rfl, rfl, _, rfl, ite2 (fun hz3 => ?_) (fun hz3 => ?_)⟩
    · have hz3 : wd < 5 := of_decide_eq_true hz3
      refine ⟨by show 2 ≤ sizeLine; decide, fun q hq => ?_⟩
      have s4 := Same.new (Same.refl H2) hq (o := .lst [.str "until", .str "toward"])
      have e4 : (upd H2 q (.lst [.str "until", .str "toward"])) q = some (.lst [.str "until", .str "toward"]) := upd_same
      generalize upd H2 q (.lst [.str "until", .str "toward"]) = H3 at s4 e4 ⊢
      refine ⟨_, rfl, _, _, rfl, rfl, ?_⟩
      have e : wd = 3 ∨ wd = 4 := by omega
      rcases e with rfl | rfl
      · refine ⟨q, _, _, _, rfl, rfl, .inl (.inl e4), (show atI [V.str "until", V.str "toward"] (3 - 3) = some (.str "until") from rfl), ?_⟩
        refine ⟨_, rfl, b, l, c4, by rw [← c4_tx]; rfl, B2.same s4, by decide, by decide, fun z H4 m1 m2 B4 K4 => ⟨by show 2 ≤ sizeLine; decide, fun t ht => ?_⟩⟩
        have s5 := Same.new (Same.refl H4) ht (o := .tup [.str "until", vt z])
        exact k (.upto z) _ _ (ascS_of m1 (m2.trans c4_sub) lands_nd) rfl (lo_of m2 lo5) (.tup (.inl (.inl upd_same)) (.cons (.str _) (.cons (.str _) .nil))) (B4.same s5) (kk.trans ((Kp.of s4).trans (K4.trans (Kp.of s5))))
      · refine ⟨q, _, _, _, rfl, rfl, .inl (.inl e4), (show atI [V.str "until", V.str "toward"] (4 - 3) = some (.str "toward") from rfl), ?_⟩
        refine ⟨_, rfl, b, l, c4, by rw [← c4_tx]; rfl, B2.same s4, by decide, by decide, fun z H4 m1 m2 B4 K4 => ⟨by show 2 ≤ sizeLine; decide, fun t ht => ?_⟩⟩
        have s5 := Same.new (Same.refl H4) ht (o := .tup [.str "toward", vt z])
        exact k (.toward z) _ _ (ascS_of m1 (m2.trans c4_sub) lands_nd) rfl (lo_of m2 lo5) (.tup (.inl (.inl upd_same)) (.cons (.str _) (.cons (.str _) .nil))) (B4.same s5) (kk.trans ((Kp.of s4).trans (K4.trans (Kp.of s5))))
    refine ⟨_, rfl, rfl, _, rfl, ite2 (fun hz5 => ?_) (fun hz5 => ?_)⟩
    · refine ⟨_, rfl, b, l, 4, rfl, B2, by decide, by decide, fun n H4 d1 d2 B4 K4 => ?_⟩
      refine ⟨_, rfl, b, l, c4v, by rw [← c4v_tx]; rfl, B4, by decide, by decide, fun z H5 m1 m2 B5 K5 => ⟨by show 3 ≤ sizeLine; decide, fun t ht => ?_⟩⟩
      have s5 := Same.new (Same.refl H5) ht (o := .tup [.str "beside", .int n, vt z])
      have ok : (inN (.i n) 0 3 && ascS z alls) = true := by
        rw [ascS_of m1 (m2.trans c4v_sub) alls_nd]
        show ((decide (0 ≤ n) && decide (n ≤ 3)) && true) = true
        rw [decide_eq_true (by omega), decide_eq_true (by omega)]
        rfl
      exact k (.beside (.i n) z) _ _ ok rfl (lo_of m2 lo5w) (.tup (.inl (.inl upd_same)) (.cons (.str _) (.cons (.int _) (.cons (.str _) .nil)))) (B5.same s5) (kk.trans (K4.trans (K5.trans (Kp.of s5))))
    refine ⟨_, rfl, rfl, _, rfl, ite2 (fun hz6 => ?_) (fun hz6 => ?_)⟩
    · refine ⟨_, rfl, b, l, c4v, by rw [← c4v_tx]; rfl, B2, by decide, by decide, fun z H4 m1 m2 B4 K4 => ?_⟩
      refine ⟨_, rfl, b, l, 4, rfl, B4, by decide, by decide, fun n H5 d1 d2 B5 K5 => ⟨by show 3 ≤ sizeLine; decide, fun t ht => ?_⟩⟩
      have s5 := Same.new (Same.refl H5) ht (o := .tup [.str "near", vt z, .int n])
      have ok : (ascS z alls && inN (.i n) 0 22) = true := by
        rw [ascS_of m1 (m2.trans c4v_sub) alls_nd]
        show (true && (decide (0 ≤ n) && decide (n ≤ 22))) = true
        rw [decide_eq_true (by omega), decide_eq_true (by omega)]
        rfl
      exact k (.near z (.i n)) _ _ ok rfl (lo_of m2 lo5w) (.tup (.inl (.inl upd_same)) (.cons (.str _) (.cons (.str _) (.cons (.int _) .nil)))) (B5.same s5) (kk.trans (K4.trans (K5.trans (Kp.of s5))))
    · refine ⟨by show 2 ≤ sizeLine; decide, fun q hq => ?_⟩
      have s4 := Same.new (Same.refl H2) hq (o := .lst [.int 1, .int 3])
      have e4 : (upd H2 q (.lst [.int 1, .int 3])) q = some (.lst [.int 1, .int 3]) := upd_same
      have qb := B2.new hq
      generalize upd H2 q (.lst [.int 1, .int 3]) = H3 at s4 e4 ⊢
      refine ⟨_, rfl, b, l, 2, rfl, B2.same s4, by decide, by decide, fun n H4 d1 d2 B4 K4 => ?_⟩
      have hl := K4 q _ e4 qb.1 qb.2
      obtain ⟨sd, hs1, hs2⟩ : ∃ sd : Int, atI [V.int 1, V.int 3] n = some (.int sd) ∧ (sd = 1 ∨ sd = 3) := by
        have e : n = 0 ∨ n = 1 := by omega
        rcases e with rfl | rfl
        · exact ⟨1, rfl, .inl rfl⟩
        · exact ⟨3, rfl, .inr rfl⟩
      refine ⟨q, _, n, _, rfl, rfl, .inl (.inl hl), hs1, _, rfl, _, rfl, _, rfl, b, l, 3, rfl, B4, by decide, by decide, fun m H5 f1 f2 B5 K5 => ⟨_, _, rfl, rfl, by show 4 ≤ sizeLine; decide, fun t ht => ?_⟩⟩
      have s5 := Same.new (Same.refl H5) ht (o := .tup [.str "shore", .int sd, .int le, .int (le + m)])
      have ok : (side (.i sd) && paces (.i le) (.i (le + m))) = true := by
        have e1 : side (.i sd) = true := by rcases hs2 with rfl | rfl <;> decide
        rw [e1]
        show (true && ((decide (0 ≤ le) && decide (le ≤ 20)) && (decide (le ≤ le + m) && decide (le + m ≤ 20)))) = true
        rw [decide_eq_true (by omega), decide_eq_true (by omega), decide_eq_true (by omega), decide_eq_true (by omega)]
        rfl
      exact k (.shore (.i sd) (.i le) (.i (le + m))) _ _ ok rfl trivial (.tup (.inl (.inl upd_same)) (.cons (.str _) (.cons (.int _) (.cons (.int _) (.cons (.int _) .nil))))) (B5.same s5) (kk.trans ((Kp.of s4).trans (K4.trans (K5.trans (Kp.of s5)))))
end
end Om

/-! sets of tuples of ints made by a comprehension: one clause, two clauses -/
namespace Om
open PySem PySem.Spec PyProof.Rows L2
/-! ### one tuple put in -/
section
variable {P : Program} {w : World} {A : Around} {E : Value → Shared → Prop} {s : Shared} {a : Addr} {L : List (Addr × List Int)} {es : Array (Int × Value)} {ep : Nat} {t : SetTable}
theorem setT_add {x : Addr} {k : List Int} {Q : Value → Shared → Prop} (R : SetTR P w s.heap a L es ep t) (hx : IsT P w s.heap k x) (hu : A.units + 3 < cLine) (hfew : L.length + 1 < 64)
    (hQ : ∀ h' tk L', Heap.SameBut a s.heap h' → SetT0 P w h' a L' → (k ∈ L.map (·.2) → L' = L) → (k ∉ L.map (·.2) → L'.Perm ((x, k) :: L)) → Q .none { s with heap := h', toks := tk }) :
    wpAny (model P w) A (call (.builtin "set.add") [.ref a, .ref x]) Q E s := by
  obtain ⟨o, ho, hex, hd⟩ := R.ob
  refine wpAny_call_entry F.slot_set_add ⟨o, ho, hex.1⟩ F.entry_set_add ?_ (F.args_set_add_2 _ _)
  unfold Builtin.«set.add» Builtin.Frozenset.oneOther
  simp only [List.isEmpty_nil, bind_assoc]
  unfold Builtin.Frozenset.addrOf setAdd
  refine wpAny_bind (wpAny_pure ?_)
  try dsimp only
  refine wpAny_bind (wpAny_pure ?_)
  try dsimp only
  refine wpAny_bind (wpAny_holding (wpAny_bind (wpAny_pyHash_tuple (by first | (show A.units + _ < _; omega) | omega) hx ?_)))
  refine add_at (s := { s with toks := s.toks + (k.length + 1) }) R hx (by first | (show A.units + _ < _; omega) | omega) hfew fun b h' L' es' ep' t' sb R' c1 c2 => ?_
  exact wpAny_pure ⟨_, rfl, hQ h' _ L' sb R'.t0 c1 c2⟩
end

/-! ### over the layer: what is put in -/
section
variable {X : Cx}
theorem addT_ok {pins : List (Addr × Obj)} {σ : L2.St} {H : Hp} {s : Shared} {E : Value → Shared → Prop} {D b : Addr} {k : List Int} {L : List (Addr × List Int)} {Q : Value → Shared → Prop} (I : Inv X pins σ H s) (hu : X.A.units + 3 < cLine)
    (hD : H D = some (SetTO X.prog X.w D L)) (hL : ∀ p ∈ L, SqT X.K H p.1 (p.2.map V.int)) (hb : SqT X.K H b (k.map V.int)) (hfew : L.length + 1 < 64)
    (h : ∀ s' L', (k ∈ L.map (·.2) → L' = L) → (k ∉ L.map (·.2) → L'.Perm ((b, k) :: L)) → Inv X pins σ (upd H D (SetTO X.prog X.w D L')) s' → Q .none s') :
    wpAny (model X.prog X.w) X.A (call (.builtin "set.add") [.ref D, .ref b]) Q E s := by
  have R0 : SetT0 X.prog X.w s.heap D L := (I.hok D _ hD).1
  obtain ⟨es, ep, t, R⟩ := R0.full fun p hp => I.isT (hL p hp)
  refine setT_add R (I.isT hb) hu hfew fun h' tk L' sb R' c1 c2 => ?_
  have he : ∃ u, h'.get? D = some u := by
    have ⟨_, _, _, ⟨o, ho, _⟩, _⟩ := R'.ex
    exact ⟨o, ho⟩
  exact h _ L' c1 c2 (I.write (e := D) (t' := tk) (by rw [hD]; trivial) (.inl rfl) (fun c u hc hu => (sb.2 c hc).trans hu) he (setTO_new R'))
end

/-! ### a clause's loop, whatever it does with an item -/
def clauseTurn (node : Expr) (k : Nat) (tg iter : Expr) (ifs : List Expr) (it acc : Value) (env : Env) (act : Sem PySem.Fin → Sem PySem.Fin) : Sem PySem.Fin := do
  standAt iter.pos
  match ← pyNext it with
  | none => pure (.done .next)
  | some v =>
    letOwnedTupleGo tg it v
    assign tg env v
    let mut ok := true
    for c in ifs do
      if ok then ok ← isTrue c env (eval c env)
    if ok then act (again (.compLoop node k it acc env)) else again (.compLoop node k it acc env)
/-- slots that know at least as much -/
def Knows (σ0 σ' : L2.St) : Prop := σ0.length = σ'.length ∧ ∀ (j : Nat) v, σ0[j]? = some (some v) → σ'[j]? = some (some v)
theorem thnE {α : Type} {t : Sem α} {Q Q' : α → Shared → Prop} {M : Model} {A : Around} {E E' : Value → Shared → Prop} {s : Shared} (hE : ∀ e s, ¬ E e s) (h : wpAny M A t Q E s) (hQ : ∀ a s, Q a s → Q' a s) : wpAny M A t Q' E' s := wpAny_mono h hQ fun e s z => (hE e s z).elim
theorem clause_loop {X : Cx} (hc : X.calm = true) (hxe : ∀ e s, ¬ X.xe e s) {elt : Expr} {cs : List Comprehension} {scope : Scope} {pos : Pos} {node : Expr} (en : node = .SetComp elt cs scope pos) {k : Nat} {tg iter : Expr} {ifs : List Expr} {it : Addr} {acc : Value} {act : Sem PySem.Fin → Sem PySem.Fin} {R : PySem.Result → Shared → Prop}
    (hturn : compTurn node k (.ref it) acc X.env = clauseTurn node k tg iter ifs (.ref it) acc X.env act)
    {pins : List (Addr × Obj)} {σ0 : L2.St} {fp : List Addr} {tn : Nat → Heap → Prop} {J : It} (T : Turn X.prog X.w X.K tg J fp it tn) {g : TG} {tt : TT} (pg : PG X tg g) (pt : PTs X ifs tt)
    (stat : ∀ {H' : Hp}, (∀ b ∈ fp, H' b = none) → ∀ b ∈ fp, FpOk X pins H' b)
    {Fin : Hp → Prop} {ok : L2.St → Prop} {Body : L2.St → Hp → (Hp → Prop) → Prop}
    (body : ∀ {σ2 : L2.St} {Hx : Heap} {s : Shared} {H : Hp} {Nx : Hp → Prop}, ok σ2 → Inv X (pins ++ pinsAt fp Hx) σ2 H s → Body σ2 H Nx → ∀ (kont : Sem PySem.Fin) (P : PySem.Fin → Shared → Prop) (E : Value → Shared → Prop), (∀ s', (∃ σ' H', Inv X (pins ++ pinsAt fp Hx) σ' H' s' ∧ Knows σ0 σ' ∧ Nx H') → wpAny (model X.prog X.w) X.A kont P E s') → wpAny (model X.prog X.w) X.A (act kont) P E s)
    (hok : ∀ {σ2 : L2.St}, ok σ2 → Knows σ0 σ2) {W : Nat → Nat → Hp → Prop}
    (turn : ∀ i m H, W i m H → (J.stop i H ∧ Fin H) ∨ (J.go i H ∧ ∃ Nx : Hp → Prop, (∀ H', Nx H' → ∃ m', m' < m ∧ W (i + 1) m' H') ∧ ∀ x H', J.yld i H x H' → g x σ0 H' fun σ2 H2 => ok σ2 ∧ tt σ2 H2 fun b H3 => if b = true then Body σ2 H3 Nx else Nx H3))
    (hend : ∀ H' s', Inv X pins σ0 H' s' → Fin H' → R (.ok .next) s')
    {s : Shared} {H : Hp} {m0 : Nat} (I : Inv X pins σ0 H s) (st : tn 0 s.heap) (nfp : ∀ b ∈ fp, H b = none) (w0 : W 0 m0 H) :
    codeAny (model X.prog X.w) X.A (.compLoop node k (.ref it) acc X.env) R s := by
  subst en
  refine codeAny_loop rfl (fun n s' => ∃ i H', Inv X pins σ0 H' s' ∧ tn i s'.heap ∧ (∀ b ∈ fp, H' b = none) ∧ W i n H') ?_ m0 ⟨0, H, I, st, nfp, w0⟩
  rintro n s5 ⟨i, H5, I5, st5, n5, w5⟩
  show wpAny _ X.A ((compTurn (.SetComp elt cs scope pos) k (.ref it) acc X.env).onRaise (fun x => do noteFrame x X.env; theTreesLotGoes x)) _ _ s5
  refine wpAny_noted ?_
  rw [hturn]
  unfold clauseTurn
  refine wpAny_bind (wpAny_standAt (wpAny_bind ?_))
  rcases turn i n H5 w5 with ⟨stop, qq⟩ | ⟨go, Nx, hNx, step⟩
  · refine thnF (T.done X rfl rfl rfl hc i pins s5 σ0 H5 (fun _ _ => False) I5 (stat n5) st5 stop) fun r s6 ⟨hr, I6⟩ => ?_
    subst hr
    exact wpAny_pure (hend H5 s6 I6 qq)
  · refine thnF (T.item X rfl rfl rfl hc i pins s5 σ0 H5 (fun _ _ => False) I5 (stat n5) st5 go) fun r s6 ⟨u, hr, h6⟩ => ?_
    subst hr
    dsimp only
    refine wpAny_bind (thnF h6 fun _ s7 ⟨x, H7, I7, r7, y7, st7, n7⟩ => ?_)
    have I7' := I7.pinned (stat n7) (T.obj _ _ st7)
    have fin : ∀ {σ' : L2.St} {s' : Shared} {H' : Hp}, Inv X (pins ++ pinsAt fp s7.heap) σ' H' s' → Knows σ0 σ' → Nx H' → ∃ m, m < n ∧ ∃ i H', Inv X pins σ0 H' s' ∧ tn i s'.heap ∧ (∀ b ∈ fp, H' b = none) ∧ W i m H' := fun {σ' s' H'} I' kn nx => by
      obtain ⟨m', hm, w'⟩ := hNx H' nx
      have held : ∀ b ∈ fp, ∀ o, s7.heap.get? b = some o → s'.heap.get? b = some o ∧ H' b = none := fun b hb o e =>
        ⟨(I'.pin (b, o) (List.mem_append_right _ (List.mem_append_right _ (mem_pinsAt hb e)))).1, (I'.pin (b, o) (List.mem_append_right _ (List.mem_append_right _ (mem_pinsAt hb e)))).2.1⟩
      refine ⟨m', hm, i + 1, H', I'.unpinned.weak kn.1 kn.2, T.keep _ _ _ st7 fun b hb o e => (held b hb o e).1, fun b hb => ?_, w'⟩
      obtain ⟨o, e, _⟩ := T.obj _ _ st7 b hb
      exact (held b hb o e).2
    refine wpAny_bind (thnE hxe (pg.run _ s7 σ0 H7 x u _ I7' r7 (step x H7 y7)) fun _ s8 ⟨σ8, H8, I8, k8, q8⟩ => ?_)
    refine wpAny_bind (thnE hxe (pt.run _ s8 σ8 H8 _ I8 q8) fun b s9 ⟨H9, I9, q9⟩ => ?_)
    cases b with
    | false => exact wpAny_pure ⟨rfl, fin I9 (hok k8) q9⟩
    | true => exact body k8 I9 q9 _ _ _ fun s' ⟨σ', H', I', kn, nx⟩ => wpAny_pure ⟨rfl, fin I' kn nx⟩
end Om

namespace Om
open PySem PySem.Spec PyProof.Rows L2
section
variable {X : Cx}
abbrev newSetObj (w : World) : Obj := { cls := .type "set", dict := none, data := .set #[] 0 (.fresh 0 0 (!w.params.followText "set-order")) }
/-- the block of a set comprehension is entered: D the new set, Rd what is known of it -/
theorem sc_enter {pins : List (Addr × Obj)} {s : Shared} {σ : L2.St} {H : Hp} {Q : VK} {elt tg iter : Expr} {ifs : List Expr} {rest : List Comprehension} {scope : Scope} {own : List (Str × Nat)} {pos pos' : Pos} {wi : TI} {use : Option (Value → Sem Unit)} {Qf : Value → Shared → Prop} {Rd : It → Addr → Hp → Prop}
    (hc : X.calm = true) (hN : X.N.Nodup) (I : Inv X pins σ H s) (hi : PI X tg iter wi) (ok : BlkOk X.N X.env.scope scope own) (hs : ∀ x, foldedSetIterable iter X.env x = pure x) (h : wi σ H fun J H1 => ∀ D, H1 D = none → Rd J D (upd H1 D (SetTO X.prog X.w D [])))
    (hRR : ∀ D C s' m H', Inv X pins σ H' s' → Q (.ref D) H' → s'.heap.Ns C m → FpOk X pins H' C → compPost (model X.prog X.w) X.A X.xe use Qf (.ref D) C (.ok .next) s')
    (loop : ∀ (it : Addr) (fp : List Addr) (tn : Nat → Heap → Prop) (J : It) (D C : Addr) (cl : List (Str × Addr)) (s3 s4 : Shared) (H3 : Hp), Rd J D H3 → Inv (X.blk s3 H3 scope (compEnvC scope cl C X.env) fp) [] (wipe σ (own.map (·.2))) H3 s4 → Turn X.prog X.w X.K tg J fp it tn → tn 0 s4.heap → (∀ b ∈ fp, H3 b = none) →
      (∀ {H' : Hp}, (∀ b ∈ fp, H' b = none) → ∀ b ∈ fp, FpOk (X.blk s3 H3 scope (compEnvC scope cl C X.env) fp) [] H' b) →
      (∀ H5 s6, Inv (X.blk s3 H3 scope (compEnvC scope cl C X.env) fp) [] (wipe σ (own.map (·.2))) H5 s6 → Q (.ref D) H5 → compPost (model X.prog X.w) X.A X.xe use Qf (.ref D) C (.ok .next) s6) →
      codeAny (model X.prog X.w) X.A (.compLoop (.SetComp elt (⟨tg, iter, ifs, 0⟩ :: rest) scope pos) 0 (.ref it) (.ref D) (compEnvC scope cl C X.env)) (compPost (model X.prog X.w) X.A X.xe use Qf (.ref D) C) s4) :
    wpAny (model X.prog X.w) X.A (comprehension (.SetComp elt (⟨tg, iter, ifs, 0⟩ :: rest) scope pos) scope X.env pos' (newSet (.type "set")) false (eval iter X.env) use) Qf X.xe s := by
  have cells : ∀ y ∈ scope.names, y.2 = .free → ∃ c, X.env.cells.lookup y.1 = some c := fun y hy e => (ok.free y hy e).elim (fun k => I.ok.has _ (.inl k)) fun k => I.ok.has _ (.inr k)
  refine wpAny_comprehension_free (use := use) rfl hs (closure_ok cells) ok.kind (fun y hy e => by rw [ok.uniq y hy, e])
    (thn (hi.run pins s σ H _ I h) fun xv s1 hx => thn hx fun itv s2 h2 => ?_)
  obtain ⟨it, fp, tn, J, H2, rfl, I2, T, st2, f2, q⟩ := h2
  refine PpSet.newSet_ok (newEnv_comp ?_)
  have hn2 : H2 s2.heap.objs.size = none := I2.hok.fresh (Nat.le_refl _)
  have rd := q _ hn2
  have I3 : Inv X pins σ (upd H2 s2.heap.objs.size (SetTO X.prog X.w s2.heap.objs.size [])) { s2 with heap := s2.heap.push (newSetObj X.w) } :=
    I2.laid (t' := s2.toks) (fun b o e => Heap.get?_push_of_some _ e) (Nat.le_refl _) (setTO_new (setTR_fresh (Heap.get?_push_size _ rfl)).t0)
  have below : ∀ b ∈ fp, b < s2.heap.objs.size := fun b hb => by
    obtain ⟨o, e, _⟩ := T.obj _ _ st2 b hb
    exact Heap.lt_size e
  have st3 : tn 0 (s2.heap.push (newSetObj X.w)) := T.keep _ _ _ st2 fun b _ o e => Heap.get?_push_of_some _ e
  have f3 : ∀ b ∈ fp, FpOk X pins (upd H2 s2.heap.objs.size (SetTO X.prog X.w s2.heap.objs.size [])) b ∧ b < (s2.heap.push (newSetObj X.w)).objs.size := fun b hb =>
    ⟨⟨by rw [upd_ne (Nat.ne_of_lt (below b hb))]; exact (f2 b hb).1, (f2 b hb).2⟩, by rw [Heap.size_push]; exact Nat.lt_succ_of_lt (below b hb)⟩
  generalize hS3 : ({ s2 with heap := s2.heap.push (newSetObj X.w) } : Shared) = s3 at I3
  have hh3 : s2.heap.push (newSetObj X.w) = s3.heap := by rw [← hS3]
  rw [hh3] at st3 f3
  generalize s2.heap.objs.size = D at I3 f3 rd hn2 ⊢
  generalize hH3 : upd H2 D (SetTO X.prog X.w D []) = H3 at I3 f3 rd
  have I4 := block_start I3 ok hN f3
  have st4 : tn 0 (pushCells (s3.heap.push { cls := .type "dict", data := .dict #[] }) scope.names) := T.keep _ _ _ st3 fun b _ o e => pushCells_keeps _ _ _ _ (Heap.get?_push_of_some _ e)
  have nfp : ∀ b ∈ fp, H3 b = none := fun b hb => (f3 b hb).1.1
  show codeAny _ _ (.compStart (.SetComp elt (⟨tg, iter, ifs, 0⟩ :: rest) scope pos) 0 (.ref it) (.ref D) (compEnvC scope (cellsFrom (s3.heap.objs.size + 1) scope.names (cloFrom X.env.cells scope.names [])) s3.heap.objs.size X.env)) (compPost (model X.prog X.w) X.A X.xe use Qf (.ref D) s3.heap.objs.size) { s3 with heap := pushCells (s3.heap.push { cls := .type "dict", data := .dict #[] }) scope.names }
  have L := loop it fp tn J D s3.heap.objs.size (cellsFrom (s3.heap.objs.size + 1) scope.names (cloFrom X.env.cells scope.names [])) s3 _ H3 rd I4 T st4 nfp
    (fun hn b hb => ⟨hn b hb, (I4.ok.exf b hb).1, I4.ok.exfs b hb, .inl hb, fun x c e => (I4.ok.exf b hb).2 x c e, fun p hp => absurd (show p ∈ ([] : List (Addr × Obj)) ++ [] from hp) (by simp)⟩)
    (fun H5 s6 I6 qq => by
      have I7 : Inv X pins σ H5 s6 := I3.call' (ch := fp) I6.os I6.base I6.hok I6.bare fun b hb => ⟨(f3 b hb).1.2.2.2.1, (f3 b hb).1.2.1, (f3 b hb).1.2.2.2.2.1, (f3 b hb).1.2.2.2.2.2⟩
      have nC : H5 s3.heap.objs.size = none := I6.free
      obtain ⟨m, hn, _⟩ := I6.loc
      exact hRR D s3.heap.objs.size s6 m H5 I7 qq hn (I3.fpOk (Nat.le_refl _) nC))
  exact PpSet.codeAny_compStart_set L (T.self X.A 0 _ _ _ st4 L)
end
section
variable {prog : Program} {w : World} {A : Around} {R : PySem.Result → Shared → Prop} {s : Shared} {env : Env}
/-- the second clause begins -/
theorem sc_start1 {elt : Expr} {c0 : Comprehension} {target iter : Expr} {ifs : List Expr} {scope : Scope} {pos : Pos} {it acc : Value}
    (h0 : codeAny (model prog w) A (.compLoop (.SetComp elt [c0, ⟨target, iter, ifs, 0⟩] scope pos) 1 it acc env) R s)
    (h : wpAny (model prog w) A (pyIter it) (fun it' s' => codeAny (model prog w) A (.compLoop (.SetComp elt [c0, ⟨target, iter, ifs, 0⟩] scope pos) 1 it' acc env) R s') (notedBy (model prog w) A env fun x s' => R (.error x) s') s) :
    codeAny (model prog w) A (.compStart (.SetComp elt [c0, ⟨target, iter, ifs, 0⟩] scope pos) 1 it acc env) R s := by
  refine codeAny_of_tree ?_
  show wpAny _ _ ((compStart (.SetComp elt [c0, ⟨target, iter, ifs, 0⟩] scope pos) 1 it acc env).onRaise (fun x => do noteFrame x env; standAt theWindowsPlace)) _ _ s
  refine wpAny_notedAt ?_
  unfold compStart
  refine wpAny_bind (wpAny_askSetting (wpAny_ite ?_))
  split
  · first
      | exact wpAny_bind (wpAny_pure (wpAny_pure (And.intro rfl h0)))
      | exact wpAny_pure (And.intro rfl h0)
  · refine wpAny_bind (wpAny_rule ?_)
    refine wpAny_bind (wpAny_standAt (wpAny_bind (wpAny_mono h (fun it' s' h' => wpAny_pure (And.intro rfl h')) fun _ _ x => x)))
end
section
variable {X : Cx}
/-! ### what is read -/
abbrev ownS (own : List (Str × Nat)) : List Nat := own.map fun p => p.2
/-- an item comes into the set at D -/
def tPut (K : PySem.W.Frag) (P : Program) (w : World) (D : Addr) (te : TE) : L2.St → Hp → (Hp → Prop) → Prop := fun σ H Nx => te σ H fun y H4 => ∃ (b : Addr) (k : List Int) (L : List (Addr × List Int)), y = .ref b ∧ SqT K H4 b (k.map V.int) ∧ H4 D = some (SetTO P w D L) ∧ (∀ p ∈ L, SqT K H4 p.1 (p.2.map V.int)) ∧ L.length + 1 < 64 ∧
  ∀ L', (k ∈ L.map (·.2) → L' = L) → (k ∉ L.map (·.2) → L'.Perm ((b, k) :: L)) → Nx (upd H4 D (SetTO P w D L'))
/-- a walk by turns: W holds, Fin at the end, Act of an item -/
def Wlk (J : It) (W : Nat → Nat → Hp → Prop) (Fin : Hp → Prop) (Act : V → Hp → (Hp → Prop) → Prop) : Prop := ∀ i m H, W i m H → (J.stop i H ∧ Fin H) ∨ (J.go i H ∧ ∃ Nx : Hp → Prop, (∀ H', Nx H' → ∃ m', m' < m ∧ W (i + 1) m' H') ∧ ∀ x H', J.yld i H x H' → Act x H' Nx)
/-- {elt for target in iter if ..} -/
def tSc1 (K : PySem.W.Frag) (P : Program) (w : World) (wi : TI) (g : TG) (tt : TT) (te : TE) (vs : List Nat) : TE := fun σ H Q => wi σ H fun J H1 => ∀ D, H1 D = none → ∃ W : Nat → Nat → Hp → Prop, (∃ m, W 0 m (upd H1 D (SetTO P w D []))) ∧
  Wlk J W (fun H => Q (.ref D) H) fun x H' Nx => g x (wipe σ vs) H' fun σ2 H2 => wipe σ2 vs = wipe σ vs ∧ tt σ2 H2 fun b H3 => if b = true then tPut K P w D te σ2 H3 Nx else Nx H3
/-- {elt for target in iter if .. for target1 in iter1 if ..} -/
def tSc2 (K : PySem.W.Frag) (P : Program) (w : World) (wi : TI) (g : TG) (tt : TT) (wi1 : TI) (g1 : TG) (tt1 : TT) (te : TE) (vs vs1 : List Nat) : TE := fun σ H Q => wi σ H fun J H1 => ∀ D, H1 D = none → ∃ W : Nat → Nat → Hp → Prop, (∃ m, W 0 m (upd H1 D (SetTO P w D []))) ∧
  Wlk J W (fun H => Q (.ref D) H) fun x H' Nx => g x (wipe σ vs) H' fun σ2 H2 => wipe σ2 vs = wipe σ vs ∧ tt σ2 H2 fun b H3 => if b = true then wi1 σ2 H3 fun J1 H4 => ∃ W1 : Nat → Nat → Hp → Prop, (∃ m, W1 0 m H4) ∧
      Wlk J1 W1 Nx fun x1 H5 Nx1 => g1 x1 (wipe σ2 vs1) H5 fun σ3 H6 => wipe σ3 vs1 = wipe σ2 vs1 ∧ tt1 σ3 H6 fun b1 H7 => if b1 = true then tPut K P w D te σ3 H7 Nx1 else Nx1 H7
    else Nx H3
theorem knows_wipe {σ0 σ2 : L2.St} {vs : List Nat} (h : wipe σ2 vs = σ0) : Knows σ0 σ2 := ⟨by rw [← h, wipe_length], fun j v e => by rw [← h] at e; exact (wipe_some e).1⟩
/-- the act of the innermost clause -/
theorem put_act {X : Cx} {pins : List (Addr × Obj)} {elt : Expr} {te : TE} {D : Addr} {σ : L2.St} {s : Shared} {H : Hp} {Nx : Hp → Prop} (hu : X.A.units + 3 < cLine) (hxe : ∀ e s, ¬ X.xe e s) (pe : PE X elt te) (I : Inv X pins σ H s) (h : tPut X.K X.prog X.w D te σ H Nx) :
    wpAny (model X.prog X.w) X.A (do let v ← eval elt X.env; standAt elt.pos; let _ ← call (.builtin "set.add") [.ref D, v]) (fun _ s' => ∃ H', Inv X pins σ H' s' ∧ Nx H') (fun _ _ => False) s := by
  refine wpAny_bind (thnE hxe (pe.run pins s σ H _ I h) fun z s1 ⟨y, H1, I1, r1, b, k, L, ey, hb, hD, hL, hf, nx⟩ => ?_)
  subst ey
  cases r1
  refine wpAny_bind (wpAny_standAt (wpAny_bind ?_))
  exact addT_ok I1 hu hD hL hb hf fun s' L' c1 c2 I' => wpAny_pure ⟨_, I', nx L' c1 c2⟩
abbrev BlkX (X : Cx) (scope : Scope) (J : Cx → Prop) : Prop := ∀ (s : Shared) (H : Hp) (C : Addr) (cl : List (Str × Addr)) (fp : List Addr), J (X.blk s H scope (compEnvC scope cl C X.env) fp)
theorem pe_sc1 {elt tg iter : Expr} {ifs : List Expr} {scope : Scope} {own : List (Str × Nat)} {pos : Pos} {wi : TI} {g : TG} {tt : TT} {te : TE} (hc : X.calm = true) (hu : X.A.units + 3 < cLine) (hN : X.N.Nodup) (hi : PI X tg iter wi) (ok : BlkOk X.N X.env.scope scope own)
    (hg : BlkX X scope fun Y => PG Y tg g) (ht : BlkX X scope fun Y => PTs Y ifs tt) (he : BlkX X scope fun Y => PE Y elt te) (hs : ∀ x, foldedSetIterable iter X.env x = pure x := by intro _; rfl) :
    PE X (.SetComp elt [⟨tg, iter, ifs, 0⟩] scope pos) (tSc1 X.K X.prog X.w wi g tt te (ownS own)) := by
  refine ⟨fun pins s σ H Q I h => ?_⟩
  rw [PpSet.eval_SetComp]
  refine sc_enter (Q := Q) (Rd := fun J D H0 => ∃ W : Nat → Nat → Hp → Prop, (∃ m, W 0 m H0) ∧ Wlk J W (fun H => Q (.ref D) H) fun x H' Nx => g x (wipe σ (ownS own)) H' fun σ2 H2 => wipe σ2 (ownS own) = wipe σ (ownS own) ∧ tt σ2 H2 fun b H3 => if b = true then tPut X.K X.prog X.w D te σ2 H3 Nx else Nx H3)
    hc hN I hi ok hs h (fun D C s' m H' I' q hn f => ⟨m, hn, fun h'' sb => ?_⟩) fun it fp tn J D C cl s3 s4 H3 rd I4 T st4 nfp stat back => ?_
  · obtain ⟨f0, f1, f2, f3, f4, f5⟩ := f
    exact ⟨.ref D, H', I'.turned (t' := s'.toks) (fun b o hb e => (sb.2 b hb).trans e) f0 f1 f3 f4 f5, rfl, q⟩
  · obtain ⟨W, ⟨m0, w0⟩, wlk⟩ := rd
    exact clause_loop (X := X.blk s3 H3 scope (compEnvC scope cl C X.env) fp) hc (fun _ _ h => h) rfl (iter := iter) (act := fun kont => (do let v ← eval elt (compEnvC scope cl C X.env); standAt elt.pos; let _ ← call (.builtin "set.add") [.ref D, v]) >>= fun _ => kont) rfl T (hg s3 H3 C cl fp) (ht s3 H3 C cl fp) stat (ok := fun σ2 => wipe σ2 (ownS own) = wipe σ (ownS own))
      (body := fun {σ2 Hx s H Nx} o I2 b kont P E hk => wpAny_bind (thnF (put_act (X := X.blk s3 H3 scope (compEnvC scope cl C X.env) fp) hu (fun _ _ h => h) (he s3 H3 C cl fp) I2 b) fun _ s' ⟨H', I', nx⟩ => hk s' ⟨σ2, H', I', knows_wipe o, nx⟩))
      knows_wipe wlk back I4 st4 nfp w0
theorem pe_sc2 {elt tg iter tg1 iter1 : Expr} {ifs ifs1 : List Expr} {scope : Scope} {own : List (Str × Nat)} {vs1 : List Nat} {pos : Pos} {wi wi1 : TI} {g g1 : TG} {tt tt1 : TT} {te : TE} (hc : X.calm = true) (hu : X.A.units + 3 < cLine) (hN : X.N.Nodup) (hi : PI X tg iter wi) (ok : BlkOk X.N X.env.scope scope own) (hv : ∀ i ∈ vs1, i ∈ ownS own)
    (hg : BlkX X scope fun Y => PG Y tg g) (ht : BlkX X scope fun Y => PTs Y ifs tt) (hi1 : BlkX X scope fun Y => PI Y tg1 iter1 wi1) (hg1 : BlkX X scope fun Y => PG Y tg1 g1) (ht1 : BlkX X scope fun Y => PTs Y ifs1 tt1) (he : BlkX X scope fun Y => PE Y elt te)
    (hs : ∀ x, foldedSetIterable iter X.env x = pure x := by intro _; rfl) (hs1 : ∀ env x, foldedSetIterable iter1 env x = pure x := by intro _ _; rfl) :
    PE X (.SetComp elt [⟨tg, iter, ifs, 0⟩, ⟨tg1, iter1, ifs1, 0⟩] scope pos) (tSc2 X.K X.prog X.w wi g tt wi1 g1 tt1 te (ownS own) vs1) := by
  refine ⟨fun pins s σ H Q I h => ?_⟩
  rw [PpSet.eval_SetComp]
  refine sc_enter (Q := Q) (Rd := fun J D H0 => ∃ W : Nat → Nat → Hp → Prop, (∃ m, W 0 m H0) ∧ Wlk J W (fun H => Q (.ref D) H) fun x H' Nx => g x (wipe σ (ownS own)) H' fun σ2 H2 => wipe σ2 (ownS own) = wipe σ (ownS own) ∧ tt σ2 H2 fun b H3 => if b = true then wi1 σ2 H3 fun J1 H4 => ∃ W1 : Nat → Nat → Hp → Prop, (∃ m, W1 0 m H4) ∧
      Wlk J1 W1 Nx fun x1 H5 Nx1 => g1 x1 (wipe σ2 vs1) H5 fun σ3 H6 => wipe σ3 vs1 = wipe σ2 vs1 ∧ tt1 σ3 H6 fun b1 H7 => if b1 = true then tPut X.K X.prog X.w D te σ3 H7 Nx1 else Nx1 H7
    else Nx H3)
    hc hN I hi ok hs h (fun D C s' m H' I' q hn f => ⟨m, hn, fun h'' sb => ?_⟩) fun it fp tn J D C cl s3 s4 H3 rd I4 T st4 nfp stat back => ?_
  · obtain ⟨f0, f1, f2, f3, f4, f5⟩ := f
    exact ⟨.ref D, H', I'.turned (t' := s'.toks) (fun b o hb e => (sb.2 b hb).trans e) f0 f1 f3 f4 f5, rfl, q⟩
  · obtain ⟨W, ⟨m0, w0⟩, wlk⟩ := rd
    refine clause_loop (X := X.blk s3 H3 scope (compEnvC scope cl C X.env) fp) hc (fun _ _ h => h) rfl (iter := iter)
      (act := fun kont => do
        let x ← eval iter1 (compEnvC scope cl C X.env)
        standAt iter1.pos
        let x ← foldedSetIterable iter1 (compEnvC scope cl C X.env) x
        let _ ← runOwn (.compStart (.SetComp elt [⟨tg, iter, ifs, 0⟩, ⟨tg1, iter1, ifs1, 0⟩] scope pos) 1 (← holding [x] (pyIter x)) (.ref D) (compEnvC scope cl C X.env)) (compEnvC scope cl C X.env)
        kont)
      rfl T (hg s3 H3 C cl fp) (ht s3 H3 C cl fp) stat (ok := fun σ2 => wipe σ2 (ownS own) = wipe σ (ownS own)) (body := fun {σ2 Hx s5 H5 Nx} o I2 b kont P E hk => ?_)
      knows_wipe wlk back I4 st4 nfp w0
    refine wpAny_bind (thnF ((hi1 s3 H3 C cl fp).run _ s5 σ2 H5 _ I2 b) fun xv s6 h6 => ?_)
    refine wpAny_bind (wpAny_standAt (wpAny_bind (wpAny_of_eq (hs1 _ xv) (wpAny_bind (wpAny_holding (thnF h6 fun itv s7 h7 => ?_))))))
    obtain ⟨it1, fp1, tn1, J1, H7, rfl, I7, T1, st7, f7, W1, ⟨m1, w1⟩, wlk1⟩ := h7
    refine wpAny_bind (wpAny_runOwn ?_)
    rw [Around.mark_none]
    have L : codeAny (model X.prog X.w) X.A (.compLoop (.SetComp elt [⟨tg, iter, ifs, 0⟩, ⟨tg1, iter1, ifs1, 0⟩] scope pos) 1 (.ref it1) (.ref D) (compEnvC scope cl C X.env)) (fun r s' => match r with
        | .ok _ => ∃ H', L2.Inv (X.blk s3 H3 scope (compEnvC scope cl C X.env) fp) ([] ++ pinsAt fp Hx) (wipe σ2 vs1) H' s' ∧ Nx H'
        | .error _ => False) s7 :=
      clause_loop (X := X.blk s3 H3 scope (compEnvC scope cl C X.env) fp) hc (fun _ _ h => h) rfl (iter := iter1) (act := fun kont => (do let v ← eval elt (compEnvC scope cl C X.env); standAt elt.pos; let _ ← call (.builtin "set.add") [.ref D, v]) >>= fun _ => kont) rfl T1 (hg1 s3 H3 C cl fp) (ht1 s3 H3 C cl fp) (fun hn b hb => ⟨hn b hb, (f7 b hb).2⟩) (ok := fun σ3 => wipe σ3 vs1 = wipe σ2 vs1)
        (body := fun {σ3 Hy s8 H8 Ny} o3 I8 b8 kont P E hk => wpAny_bind (thnF (put_act (X := X.blk s3 H3 scope (compEnvC scope cl C X.env) fp) hu (fun _ _ h => h) (he s3 H3 C cl fp) I8 b8) fun _ s' ⟨H', I', nx⟩ => hk s' ⟨σ3, H', I', knows_wipe o3, nx⟩))
        knows_wipe wlk1 (fun H' s' I' nx => ⟨H', I', nx⟩) (I7.weak (wipe_length _ _) fun j v e => (wipe_some e).1) st7 (fun b hb => (f7 b hb).1) w1
    have kw : Knows (wipe σ (ownS own)) (wipe σ2 vs1) := by
      refine ⟨by rw [← o, wipe_length, wipe_length], fun j v e => ?_⟩
      rw [← o] at e
      obtain ⟨e1, e2⟩ := wipe_some e
      rw [wipe_out fun z => e2 (hv j z)]
      exact e1
    refine codeAny_mono (sc_start1 L (T1.self X.A 0 _ _ _ st7 L)) fun r s' hr => ?_
    cases r with
    | error e => exact hr.elim
    | ok f =>
      obtain ⟨H', I', nx⟩ := hr
      exact hk s' ⟨wipe σ2 vs1, H', I', kw, nx⟩
end
end Om

/-! a lambda's function object, made: the parts of K1G that GFun needs -/
namespace Om
open PySem PySem.Spec PyProof.Rows L2 LamX
/-- the function object: as the library's, its defaults dV -/
abbrev lamFd (qual : Str) (params : Arguments) (body : Expr) (scope : Scope) (cl : List (Str × Addr)) (pm : Value) (c' : Addr) (ctv dV : Value) : FuncData :=
  { PySem.W.kla_fn "<lambda>" qual params body scope cl pm (.ref c') ctv with defaults := dV }
abbrev lamOb (qual : Str) (params : Arguments) (body : Expr) (scope : Scope) (cl : List (Str × Addr)) (pm : Value) (c' : Addr) (ctv dV : Value) : Obj :=
  { cls := .type "function", data := .func (lamFd qual params body scope cl pm c' ctv dV) }
section
variable {M : Model} {A : Around} {E : Value → Shared → Prop} {s : Shared} {qual : Str} {params : Arguments} {body : Expr} {scope : Scope} {env : Env} {c P : Addr} {ps : Array Value} {pos : Pos} {fl : Nat} {mg : Str → Option Value}
  {clos : List (Str × Addr)} {Q : Value → Shared → Prop} {dV : Value}
/-- its code object is new -/
theorem tail_new (e1 : closureFor scope env = pure clos) (e2 : env.globals = mainGlobals) (e3 : s.heap.Ns mainGlobals mg) (e4 : env.code = .ref c) (e5 : PySem.W.CodeHd s.heap c P) (e6 : s.heap.get? P = some { cls := .none, data := .fields ps })
    (e7 : TriplesOk ps.toList) (e8 : codeAmong pos ps.toList = none) (e9 : mainGlobals ≠ P) (e10 : s.heap.BuiltinsAt mg P)
    (k : ∀ c' ctv h' tk, Heap.ExtBut P s.heap h' → s.heap.objs.size ≤ c' → c' < h'.objs.size → h'.CodeRec (.ref c') qual → h'.get? P = some { cls := .none, data := .fields (ps ++ #[rawInt pos.line, rawInt pos.col, .ref c']) } →
      Q (.ref h'.objs.size) { s with heap := h'.push (lamOb qual params body scope clos ((mg "__name__").getD .none) c' ctv dV), toks := tk }) :
    wpAny M A (makeTail "<lambda>" qual params (.expr body) scope env dV .none none pos fl) Q E s := by
  obtain ⟨b1, o1, g1, g2, _, g3, g4, g5, g6, g7⟩ := e10
  unfold makeTail
  rw [e1, e2]
  refine wpAny_bind (wpAny_pure ?_)
  cases clos with
  | nil =>
    simp only [List.isEmpty_nil, if_true]
    refine wpAny_bind (wpAny_pure (wpAny_bind (wpAny_functionCodeX e4 (e5.code e6 e7) (e5.tab e6) e8 fun c' h' tk x1 x2 x3 _ x4 x5 _ => ?_)))
    have G2 := e3.extBut x1 e9
    exact wpAny_bind (wpAny_builtinsFor G2 g1 g2 (x1 _ _ g3 g4) g5 g6 g7 (wpAny_bind (wpAny_nsGet G2 (wpAny_bind (wpAny_pure (wpAny_newObj_type (k c' .none h' tk x1 x2 x3 x4 x5.2) (by size_fits)))))))
  | cons q r =>
    simp only [List.isEmpty_cons, Bool.false_eq_true, if_false]
    refine wpAny_bind (wpAny_newTextTuple ?_)
    have kp : ∀ (oT : Obj) (b : Addr) (o : Obj), s.heap.get? b = some o → (s.heap.push oT).get? b = some o := fun oT b o e => Heap.get?_push_of_some _ e
    refine wpAny_bind (wpAny_functionCodeX e4 ((e5.keeps (kp _)).code (kp _ _ _ e6) e7) ((e5.keeps (kp _)).tab (kp _ _ _ e6)) e8 fun c' h' tk x1 x2 x3 _ x4 x5 _ => ?_)
    have ex : Heap.ExtBut P s.heap h' := fun b o hb e => x1 b o hb (kp _ b o e)
    have G2 := (e3.push _).extBut x1 e9
    have sz : s.heap.objs.size ≤ c' := Nat.le_trans (by rw [Heap.size_push]; omega) x2
    exact wpAny_bind (wpAny_builtinsFor G2 g1 g2 (ex _ _ g3 g4) g5 g6 g7 (wpAny_bind (wpAny_nsGet G2 (wpAny_bind (wpAny_pure (wpAny_newObj_type (k c' _ h' tk ex sz x3 x4 x5.2) (by size_fits)))))))
/-- its code object stands in the table -/
theorem tail_hit {cv : Value} (e1 : closureFor scope env = pure clos) (e2 : env.globals = mainGlobals) (e3 : s.heap.Ns mainGlobals mg) (e4 : env.code = .ref c) (e5 : PySem.W.CodeHd s.heap c P) (e6 : s.heap.get? P = some { cls := .none, data := .fields ps })
    (e7 : TriplesOk ps.toList) (e8 : codeAmong pos ps.toList = some cv) (e10 : s.heap.BuiltinsAt mg P)
    (k : ∀ (ctv : Value) (h' : Heap) (tk : Tok), (∀ b o, s.heap.get? b = some o → h'.get? b = some o) → s.heap.objs.size ≤ h'.objs.size →
      Q (.ref h'.objs.size) { s with heap := h'.push { cls := .type "function", data := .func { PySem.W.kla_fn "<lambda>" qual params body scope clos ((mg "__name__").getD .none) cv ctv with defaults := dV } }, toks := tk }) :
    wpAny M A (makeTail "<lambda>" qual params (.expr body) scope env dV .none none pos fl) Q E s := by
  obtain ⟨b1, o1, g1, g2, _, g3, g4, g5, g6, g7⟩ := e10
  unfold makeTail
  rw [e1, e2]
  refine wpAny_bind (wpAny_pure ?_)
  cases clos with
  | nil =>
    simp only [List.isEmpty_nil, if_true]
    exact wpAny_bind (wpAny_pure (wpAny_bind (wpAny_functionCode_hit e4 (e5.code e6 e7) e8 (wpAny_bind (wpAny_builtinsFor e3 g1 g2 g4 g5 g6 g7 (wpAny_bind (wpAny_nsGet e3 (wpAny_bind (wpAny_pure (wpAny_newObj_type (k .none s.heap s.toks (fun _ _ e => e) (Nat.le_refl _)) (by size_fits)))))))))))
  | cons q r =>
    simp only [List.isEmpty_cons, Bool.false_eq_true, if_false]
    have kp : ∀ (oT : Obj) (b : Addr) (o : Obj), s.heap.get? b = some o → (s.heap.push oT).get? b = some o := fun oT b o e => Heap.get?_push_of_some _ e
    exact wpAny_bind (wpAny_newTextTuple (wpAny_bind (wpAny_functionCode_hit e4 ((e5.keeps (kp _)).code (kp _ _ _ e6) e7) e8 (wpAny_bind (wpAny_builtinsFor (e3.push _) g1 g2 (kp _ _ _ g4) g5 g6 g7
      (wpAny_bind (wpAny_nsGet (e3.push _) (wpAny_bind (wpAny_pure (wpAny_newObj_type (k _ _ s.toks (kp _) (by rw [Heap.size_push]; omega)) (by size_fits)))))))))))
end
end Om

/-! a lambda as a value: made, kept, handed on, called by whoever holds it -/
namespace Om
open PySem PySem.Spec PyProof.Rows L2 LamX NdefX
/-- its words -/
structure LE where
  params : Arguments
  body : Expr
  scope : Scope
  qual : Str
  cl : List (Str × Addr)
  c : Addr
def LE.nf (F : LE) : NF := ⟨"<lambda>", F.qual, F.params, [], F.scope, F.cl, F.c⟩
/-- the function object at f -/
def FnE (f : Addr) (F : LE) : HO := .ext fun h => ∃ pm ctv, h.get? f = some (lamOb F.qual F.params F.body F.scope F.cl pm F.c ctv .none)
theorem fnE_tbl {f : Addr} {F : LE} (ps : Array Value) : FnE f F ≠ .tbl ps := fun z => by
  unfold FnE at z
  cases z
section
variable {X : Cx} {pins : List (Addr × Obj)} {σ : L2.St} {H : Hp} {s : Shared}
theorem fnE_at {f : Addr} {F : LE} (I : Inv X pins σ H s) (h : H f = some (FnE f F)) : ∃ pm ctv, s.heap.get? f = some (lamOb F.qual F.params F.body F.scope F.cl pm F.c ctv .none) := (I.hok f _ h).1
/-- the function object just made is known from now on -/
theorem inv_fnE {F : LE} {o : Obj} {t' : Nat} {pm ctv : Value} (I : Inv X pins σ H s) (ho : o = lamOb F.qual F.params F.body F.scope F.cl pm F.c ctv .none) :
    Inv X pins σ (upd H s.heap.objs.size (FnE s.heap.objs.size F)) { s with heap := s.heap.push o, toks := t' } := by
  subst ho
  refine I.laid (a := s.heap.objs.size) (fun b u e => Heap.get?_push_of_some _ e) (Nat.le_refl _) ?_
  have e : (s.heap.push (lamOb F.qual F.params F.body F.scope F.cl pm F.c ctv .none)).get? s.heap.objs.size = some (lamOb F.qual F.params F.body F.scope F.cl pm F.c ctv .none) := Heap.get?_push_size _ rfl
  exact ⟨⟨pm, ctv, e⟩, ⟨_, e⟩, fun h1 h2 ⟨p, t, z⟩ st => ⟨p, t, st _ z⟩⟩
/-- a lambda without parameters that have a default is made -/
theorem lamE_make {T : List (Addr × Str)} {c P : Addr} {params : Arguments} {body : Expr} {scope : Scope} {pos : Pos} {Q : Value → Shared → Prop} (I : Inv X pins σ H s) (TB : TabB X.base X.mg c P) (hcode : X.env.code = .ref c)
    (hm : (P, X.env.qual ++ "<lambda>") ∈ T) (hu : ∀ p ∈ T, p.1 = P → p.2 = X.env.qual ++ "<lambda>") (hT : Tabs T H) (hdef : defaultsOf params X.env = ([], [])) (hfree : ∀ y ∈ scope.names, y.2 = .free → ∃ c, X.env.cells.lookup y.1 = some c)
    (k : ∀ (f c' : Addr) (H1 : Hp) (s' : Shared), Inv X pins σ H1 s' → ExtN H H1 → Tabs T H1 → H f = none → H1 f = some (FnE f ⟨params, body, scope, X.env.qual ++ "<lambda>", cloFrom X.env.cells scope.names [], c'⟩) → H1 c' = some (CodeO c' (X.env.qual ++ "<lambda>")) → Q (.ref f) s') :
    wpAny (model X.prog X.w) X.A (eval (.Lambda params body scope pos) X.env) Q X.xe s := by
  rw [arm_eval_Lambda, hdef]
  show wpAny _ _ (do let dv ← evalAll []; let kdv ← holding dv (evalAllOpt []); makeFunction "<lambda>" (X.env.qual ++ "<lambda>") params (.expr body) scope X.env dv kdv [] pos pos.line) Q X.xe s
  refine wpAny_bind (wpAny_pure (wpAny_bind (wpAny_holding (wpAny_pure ?_))))
  rw [makeFunction_eq]
  simp only [List.zip_nil_right, List.filterMap_nil, List.isEmpty_nil, if_true, pure_bind]
  obtain ⟨ps, tP, tt, ta⟩ := hT _ hm
  have bP : s.heap.BuiltinsAt X.mg P := TB.bm.keeps I.bk
  have oP : s.heap.get? P = some { cls := .none, data := .fields ps } := I.hok P _ tP
  cases hc : codeAmong pos ps.toList with
  | none =>
    refine tail_new (mg := X.mg) (closure_ok hfree) I.ok.glob (I.mod.glob.keeps I.bk) hcode (TB.code.keeps I.bk) oP tt hc TB.gP bP fun c' ctv h' tk x1 x2 x3 x4 x5 => ?_
    obtain ⟨c2, oc, vs, t, y1, y2, y3, y4⟩ := x4
    cases y1
    have nC : H c' = none := I.hok.fresh x2
    have I1 := inv_table (t' := tk) (more := #[rawInt pos.line, rawInt pos.col, .ref c']) (h' := h') I tP (fun b o hb e => x1 b o hb e) x5 x2 ⟨oc, vs, t, y2, y3, y4⟩
    have nPC : P ≠ c' := ne_of_none tP nC
    have eN : ExtN H (upd (upd H P (.tbl (ps ++ #[rawInt pos.line, rawInt pos.col, .ref c']))) c' (CodeO c' (X.env.qual ++ "<lambda>"))) := fun b o e n => by
      have n1 : b ≠ P := fun z => by
        rw [z, tP] at e
        exact n ps (Option.some.inj e).symm
      rw [upd_ne (ne_of_none e nC), upd_ne n1]
      exact e
    have eL : (ps ++ #[rawInt pos.line, rawInt pos.col, .ref c']).toList = ps.toList ++ [rawInt pos.line, rawInt pos.col, .ref c'] := by simp
    have T1 : Tabs T (upd (upd H P (.tbl (ps ++ #[rawInt pos.line, rawInt pos.col, .ref c']))) c' (CodeO c' (X.env.qual ++ "<lambda>"))) := fun p hp => by
      by_cases hb : p.1 = P
      · rw [hu p hp hb, hb]
        refine ⟨_, by rw [upd_ne nPC, upd_same], by rw [eL]; exact PySem.TriplesOk_snoc _ _ _ _ tt, fun p' cv hcv => ?_⟩
        rw [eL] at hcv
        rcases among_app _ tt hcv with z | z
        · obtain ⟨c0, w1, w2⟩ := ta p' cv z
          exact ⟨c0, w1, eN _ _ w2 codeO_ne⟩
        · exact ⟨c', z, upd_same⟩
      · obtain ⟨ps2, a1, a2, a3⟩ := hT p hp
        refine ⟨ps2, by rw [upd_ne (ne_of_none a1 nC), upd_ne hb]; exact a1, a2, fun p' cv hcv => ?_⟩
        obtain ⟨c0, w1, w2⟩ := a3 p' cv hcv
        exact ⟨c0, w1, eN _ _ w2 codeO_ne⟩
    have nF := I1.hok.fresh (Nat.le_refl _)
    have I2 := inv_fnE (F := ⟨params, body, scope, X.env.qual ++ "<lambda>", cloFrom X.env.cells scope.names [], c'⟩) (t' := tk) (pm := (X.mg "__name__").getD .none) (ctv := ctv) I1 rfl
    refine k h'.objs.size c' _ _ I2 (fun b o e n => ?_) (T1.ext fun b o e => ?_) (I.hok.fresh (Nat.le_trans x2 (Nat.le_of_lt x3))) upd_same ?_
    · have e1 := eN b o e n
      exact (upd_ne (ne_of_none e1 nF)).trans e1
    · exact (upd_ne (ne_of_none e nF)).trans e
    · exact (upd_ne (Nat.ne_of_lt x3)).trans upd_same
  | some cv =>
    obtain ⟨c', y1, y2⟩ := ta pos cv hc
    subst y1
    refine tail_hit (mg := X.mg) (closure_ok hfree) I.ok.glob (I.mod.glob.keeps I.bk) hcode (TB.code.keeps I.bk) oP tt hc bP fun ctv h' tk x1 x2 => ?_
    have I1 : Inv X pins σ H { s with heap := h', toks := tk } := I.kept x1
    have nF : H h'.objs.size = none := I1.hok.fresh (Nat.le_refl _)
    have I2 := inv_fnE (F := ⟨params, body, scope, X.env.qual ++ "<lambda>", cloFrom X.env.cells scope.names [], c'⟩) (t' := tk) (pm := (X.mg "__name__").getD .none) (ctv := ctv) I1 rfl
    refine k h'.objs.size c' _ _ I2 (fun b o e n => ?_) (hT.ext fun b o e => ?_) nF upd_same ?_
    · exact (upd_ne (ne_of_none e nF)).trans e
    · exact (upd_ne (ne_of_none e nF)).trans e
    · exact (upd_ne (ne_of_none y2 nF)).trans y2
end
/-- lambda ..: body, as a value -/
def tLamE (T : List (Addr × Str)) (mk : Addr → LE) : TE := fun σ H Q => Tabs T H ∧ ∀ (f c' : Addr) (H1 : Hp), ExtN H H1 → Tabs T H1 → H f = none → H1 f = some (FnE f (mk c')) → H1 c' = some (CodeO c' (mk c').qual) → Q (.ref f) H1
theorem pe_lamE {X : Cx} {T : List (Addr × Str)} {c P : Addr} {params : Arguments} {body : Expr} {scope : Scope} {pos : Pos} {mk : Addr → LE} (TB : TabB X.base X.mg c P) (hcode : X.env.code = .ref c)
    (hm : (P, X.env.qual ++ "<lambda>") ∈ T) (hu : ∀ p ∈ T, p.1 = P → p.2 = X.env.qual ++ "<lambda>") (hdef : defaultsOf params X.env = ([], [])) (hfree : ∀ y ∈ scope.names, y.2 = .free → X.env.scope.names.lookup y.1 = some .cell ∨ X.env.scope.names.lookup y.1 = some .free)
    (hmk : ∀ c', (⟨params, body, scope, X.env.qual ++ "<lambda>", cloFrom X.env.cells scope.names [], c'⟩ : LE) = mk c') : PE X (.Lambda params body scope pos) (tLamE T mk) := by
  constructor
  rintro pins s σ H Q I ⟨hT, h⟩
  have hfr : ∀ y ∈ scope.names, y.2 = .free → ∃ c, X.env.cells.lookup y.1 = some c := fun y hy e => (hfree y hy e).elim (fun z => I.ok.has _ (.inl z)) fun z => I.ok.has _ (.inr z)
  refine lamE_make I TB hcode hm hu hT hdef hfr fun f c' H1 s' I1 eN T1 f0 f1 c1 => ?_
  rw [hmk c'] at f1
  have eq : X.env.qual ++ "<lambda>" = (mk c').qual := by rw [← hmk c']
  rw [eq] at c1
  exact ⟨.ref f, H1, I1, rfl, h f c' H1 eN T1 f0 f1 c1⟩
/-! ### what it promises -/
structure EOk (P : Program) (w : World) (K : PySem.W.Frag) (mg : Str → Option Value) (base : Heap) (CX : CXT) (k : Nat) (f : Addr) (F : LE) (ps fr : List Str) (sp : List (Option V) → Sp) : Prop where
  len : ∀ ws vs H Q E, sp ws vs H Q E → vs.length = ps.length
  run : ∀ (A : Around) (outer : List Env) (s : Shared) (H : Hp) (us : List Value) (vs : List V) (ws : List (Option V)) (Q : VK) (E : XK), Room k A → Env0 P w K mg base A outer s H → H f = some (FnE f F) → H F.c = some (CodeO F.c F.qual) →
    CellsAt F.cl fr ws s.heap H → Vals vs us → sp ws vs H Q E → codeAny (model P w) A (.call (.ref f) ⟨us, []⟩) (CR CX outer P w H s Q E) s
section
variable {CX : CXT} {P : Program} {w : World} {K : PySem.W.Frag} {mg : Str → Option Value} {base : Heap} {N ps fr : List Str} {F : LE} {f : Addr} {k : Nat} {sp : List (Option V) → Sp}
/-- by its body -/
theorem eok_of (S : NScope N ps fr F.scope) (hb : ∀ (pm ctv : Value) (us : List Value), us.length = ps.length → bindArgs (lamFd F.qual F.params F.body F.scope F.cl pm F.c ctv .none) ⟨us, []⟩ = pure (ps.zip us)) (len : ∀ ws vs H Q E, sp ws vs H Q E → vs.length = ps.length)
    (hbody : ∀ (A : Around) (outer : List Env) (s : Shared) (H : Hp) (vs : List V) (ws : List (Option V)) (Q : VK) (E : XK), Room k (A.deeper (envF F.nf f s.heap.objs.size)) → ws.length = fr.length → sp ws vs H Q E →
      ∃ t, PE (ncx (L2.CX P w) P w K mg base N F.nf f A outer s H E) F.body t ∧ t (startF N vs ws) H Q) :
    EOk P w K mg base (L2.CX P w) (k + 1) f F ps fr sp := by
  refine ⟨len, fun A outer s H us vs ws Q E hr e0 hf hc C r hsp => ?_⟩
  have hl := len _ _ _ _ _ hsp
  have lim : s.heap.NoLimit := e0.mod.nolimit.keeps fun b o e => (e0.bs b o e).1
  obtain ⟨pm, ctv, ho⟩ := (e0.hok f _ hf).1
  obtain ⟨⟨oc, vs', t0, y1, y2, y3⟩, _, _⟩ := e0.hok F.c _ hc
  refine PySem.W.kla_callFunE hr.depth ho rfl S.co S.gen rfl ⟨F.c, oc, vs', t0, rfl, y1, y2, y3⟩ ?_
  have hb' := hb pm ctv us (by rw [← r.length]; exact hl)
  rw [hb']
  refine wpAny_pure (wpAny_newFunctionEnv S.nocell (fun ⟨n, _⟩ hy => S.par n (List.of_mem_zip hy).1) (fun h₁ hns hsb => ⟨lim.fresh _ hsb, ?_⟩) S.kind)
  have kp : ∀ b o, s.heap.get? b = some o → h₁.get? b = some o := fun b o e => hsb.extBut b o (Nat.ne_of_lt (Heap.lt_size e)) (Heap.get?_push_of_some _ e)
  obtain ⟨t, ht, hq⟩ := hbody A outer s H vs ws Q E (hr.deeper _) C.len hsp
  have I : Inv (ncx (L2.CX P w) P w K mg base N F.nf f A outer s H E) [] (startF N vs ws) H { s with heap := h₁, toks := s.toks + (ps.zip us).length } := inv_startN S hr.hd e0 hl r C hns kp
  refine PySem.W.kla_codeExpr (wpAny_mono (ht.run [] _ (startF N vs ws) H Q I hq) (fun v s' ⟨w', H', J, rv, q⟩ => ⟨w', H', J.os, J.bare, J.base, J.hok, rv, q⟩) fun e s' hq => hq)
end
/-! ### calls of a name that holds it -/
def tCallE (mk : Addr → LE) (i : Nat) (sp : List (Option V) → Sp) (E : XK) (t : TA) : TE := fun σ H Q => ∃ f c', σ[i]? = some (some (.ref f)) ∧ H f = some (FnE f (mk c')) ∧
  t σ H fun vs H1 => H1 f = some (FnE f (mk c')) ∧ H1 (mk c').c = some (CodeO (mk c').c (mk c').qual) ∧ sp [] vs H1 Q E
theorem fnAtE {X : Cx} {pins : List (Addr × Obj)} {σ : L2.St} {H : Hp} {s : Shared} {f : Addr} {F : LE} (I : Inv X pins σ H s) (e : H f = some (FnE f F)) : PySem.W.FnAt f s.heap := by
  obtain ⟨pm, ctv, ho⟩ := fnE_at I e
  exact ⟨_, _, _, _, ho⟩
section
variable {X : Cx} {CX : CXT} {mk : Addr → LE} {ps : List Str} {i j k : Nat} {x : Str} {sp : List (Option V) → Sp} {E : XK} {t : TA} {e : Expr} {es : List Expr} {p pos : Pos}
/-- .. a lambda that captures nothing -/
theorem pe_calle (Fn : ∀ f c', EOk X.prog X.w X.K X.mg X.base CX k f (mk c') ps [] sp) (hcl : ∀ c', (mk c').cl = []) (hr : Room j X.A) (hk : k ≤ j) (hx : Passes CX X E) (hN : X.N[i]? = some x) (hv : Vis X.env.scope x) (ha : PA X (e :: es) t)
    (hd : (x == ("__debug__" : Str)) = false := by decide) (hcd : (x == ("__classdict__" : Str)) = false := by decide)
    (he : starEach (e :: es) X.env = (false, eval e X.env) :: starEach es X.env := by rfl) (hpl : (backTo pos (starEach es X.env)).any (·.1) = false := by rfl) :
    PE X (.Call (.Name x p) (e :: es) [] pos) (tCallE mk i sp E t) := by
  refine ⟨fun pins s σ H Q I h => ?_⟩
  obtain ⟨f, c', hs, hf, ht⟩ := h
  refine wpAny_Call_Name_kw (thn ((pe_var (pos := p) hN hv hd hcd).run pins s σ H (fun v H1 => v = .ref f ∧ H1 = H) I ⟨.ref f, hs, rfl, rfl⟩) fun u s1 ⟨v, H1, I1, r1, q1⟩ => ?_)
  obtain ⟨ev, eH⟩ := q1
  subst ev
  rw [eH] at I1
  obtain rfl : u = Value.ref f := r1
  refine PySem.W.callWith_F (first := []) (fnAtE I1 hf) (thn (ha.run pos pins s1 σ H _ I1 ht) fun us s2 ⟨vs, H2, I2, r, h1, h2, q⟩ => ⟨fnAtE I2 h1, ?_⟩) he hpl
  show wpAny _ _ (call (.ref f) us) _ _ _
  have C : CellsAt (mk c').cl [] [] s2.heap H2 := by
    rw [hcl c']
    exact ⟨rfl, (fun y a z => by cases z), (fun y z a b => by cases b), (fun i y z => by cases z)⟩
  refine wpAny_call (codeAny_mono ((Fn f c').run X.A X.stack s2 H2 us vs _ Q E (hr.mono hk) I2.env0 h1 h2 C r q) fun r s' hq => ?_)
  cases r with
  | error e => exact hx pins σ H2 s2 e s' I2 hq
  | ok fl =>
    cases fl with
    | ret u => exact I2.after hq
    | next => exact False.elim hq
    | brk => exact False.elim hq
    | cont => exact False.elim hq
end
end Om

/-! a lambda handed to a def, its parameters all with a written default; what it raises is wished for at the slots of the def that calls it -/
namespace Om
open PySem PySem.Spec PyProof.Rows L2 LamX
section
variable {M : Model} {A : Around} {E : Value → Shared → Prop} {s : Shared} {qual : Str} {params : Arguments} {body : Expr} {scope : Scope} {env : Env} {c P : Addr} {ps : Array Value} {pos : Pos} {fl : Nat} {mg : Str → Option Value}
  {clos : List (Str × Addr)} {Q : Value → Shared → Prop} {dV : Value}
end
section
variable {X : Cx} {pins : List (Addr × Obj)} {σ : L2.St} {H : Hp} {s : Shared}
/-- a lambda with one parameter whose default is a written int is made -/
theorem lam_mk1 {T : List (Addr × Str)} {c P : Addr} {params : Arguments} {body : Expr} {scope : Scope} {pos p0 : Pos} {i0 : Int} {j0 : Nat} {E : Value → Shared → Prop} {Q : Value → Shared → Prop} (I : Inv X pins σ H s) (TB : TabB X.base X.mg c P) (hcode : X.env.code = .ref c)
    (hm : (P, X.env.qual ++ "<lambda>") ∈ T) (hu : ∀ p ∈ T, p.1 = P → p.2 = X.env.qual ++ "<lambda>") (hT : Tabs T H) (hdef : defaultsOf params X.env = ([eval (.Constant (.int i0) j0 p0) X.env], [])) (hfree : ∀ y ∈ scope.names, y.2 = .free → ∃ c, X.env.cells.lookup y.1 = some c)
    (k : ∀ (f c' D : Addr) (t0 : Tok) (pm ctv : Value) (H1 : Hp) (s' : Shared), Inv X pins σ H1 s' → ExtN H H1 → Tabs T H1 → s'.heap.get? f = some (lamOb (X.env.qual ++ "<lambda>") params body scope (cloFrom X.env.cells scope.names []) pm c' ctv (.ref D)) →
      s'.heap.get? D = some { cls := .type "tuple", data := .seq #[.int i0 t0] } → H1 f = none → H1 D = none → f ∉ frs X.stack → D ∉ frs X.stack → H1 c' = some (CodeO c' (X.env.qual ++ "<lambda>")) → Q (.ref f) s') (hxe : E = X.xe) :
    wpAny (model X.prog X.w) X.A (eval (.Lambda params body scope pos) X.env) Q E s := by
  subst hxe
  rw [arm_eval_Lambda, hdef]
  show wpAny _ _ (do let dv ← evalAll [eval (.Constant (.int i0) j0 p0) X.env]; let kdv ← holding dv (evalAllOpt []); makeFunction "<lambda>" (X.env.qual ++ "<lambda>") params (.expr body) scope X.env dv kdv [] pos pos.line) Q X.xe s
  refine wpAny_bind (wpAny_bind (thn ((pe_int (X := X) (i := i0) (j := j0) (pos := p0)).run pins s σ H (fun v H' => v = .int i0 ∧ H' = H) I ⟨rfl, rfl⟩) fun u s1 ⟨v, H1, I1, r1, ev, eH⟩ => ?_))
  subst ev
  rw [eH] at I1
  obtain ⟨t0, rfl⟩ := r1
  refine wpAny_bind (wpAny_holding (wpAny_pure (wpAny_pure (wpAny_bind (wpAny_holding (wpAny_pure ?_))))))
  rw [makeFunction_eq]
  simp only [List.zip_nil_right, List.filterMap_nil, List.isEmpty_nil, List.isEmpty_cons, Bool.false_eq_true, if_false, if_true, pure_bind]
  refine wpAny_bind (wpAny_newTextTuple ?_)
  have eD : (s1.heap.push { cls := .type "tuple", data := .seq [Value.int i0 t0].toArray }).get? s1.heap.objs.size = some { cls := .type "tuple", data := .seq #[.int i0 t0] } := Heap.get?_push_size _ rfl
  have I2 : Inv X pins σ H { s1 with heap := s1.heap.push { cls := .type "tuple", data := .seq [Value.int i0 t0].toArray } } := I1.kept (t' := s1.toks) fun b o e => Heap.get?_push_of_some _ e
  have nD : H s1.heap.objs.size = none := I1.hok.fresh (Nat.le_refl _)
  have frN : ∀ f, s1.heap.objs.size ≤ f → f ∉ frs X.stack := fun f hf z => by
    rcases List.mem_cons.mp (I1.stkSub _ z) with e | e
    · have q1 := I1.lt
      rw [← e] at q1
      exact Nat.lt_irrefl _ (Nat.lt_of_lt_of_le q1 hf)
    · exact I1.nofs hf e
  have frD := frN s1.heap.objs.size (Nat.le_refl _)
  have szD : s1.heap.objs.size ≤ (s1.heap.push { cls := .type "tuple", data := .seq [Value.int i0 t0].toArray }).objs.size := by rw [Heap.size_push]; omega
  generalize s1.heap.objs.size = D at eD nD frN frD szD
  generalize hs2 : ({ s1 with heap := s1.heap.push { cls := .type "tuple", data := .seq [Value.int i0 t0].toArray } } : Shared) = s2 at I2
  have eh : s2.heap = s1.heap.push { cls := .type "tuple", data := .seq [Value.int i0 t0].toArray } := by rw [← hs2]
  rw [← eh] at eD szD
  obtain ⟨ps, tP, tt, ta⟩ := hT _ hm
  have bP : s2.heap.BuiltinsAt X.mg P := TB.bm.keeps I2.bk
  have oP : s2.heap.get? P = some { cls := .none, data := .fields ps } := I2.hok P _ tP
  cases hc : codeAmong pos ps.toList with
  | none =>
    refine tail_new (mg := X.mg) (closure_ok hfree) I2.ok.glob (I2.mod.glob.keeps I2.bk) hcode (TB.code.keeps I2.bk) oP tt hc TB.gP bP fun c' ctv h' tk x1 x2 x3 x4 x5 => ?_
    obtain ⟨c2, oc, vs, t, y1, y2, y3, y4⟩ := x4
    cases y1
    have nC : H c' = none := I2.hok.fresh x2
    have sz2 : s2.heap.objs.size ≤ h'.objs.size := Nat.le_trans x2 (Nat.le_of_lt x3)
    have J := inv_table (t' := tk) (more := #[rawInt pos.line, rawInt pos.col, .ref c']) (h' := h'.push (lamOb (X.env.qual ++ "<lambda>") params body scope (cloFrom X.env.cells scope.names []) ((X.mg "__name__").getD .none) c' ctv (.ref D))) I2 tP
      (fun b o hb e => Heap.get?_push_of_some _ (x1 b o hb e)) (Heap.get?_push_of_some _ x5) x2 ⟨oc, vs, t, Heap.get?_push_of_some _ y2, y3, y4⟩
    have nPC : P ≠ c' := ne_of_none tP nC
    have eN : ExtN H (upd (upd H P (.tbl (ps ++ #[rawInt pos.line, rawInt pos.col, .ref c']))) c' (CodeO c' (X.env.qual ++ "<lambda>"))) := fun b o e n => by
      have n1 : b ≠ P := fun z => by
        rw [z, tP] at e
        exact n ps (Option.some.inj e).symm
      rw [upd_ne (ne_of_none e nC), upd_ne n1]
      exact e
    have eL : (ps ++ #[rawInt pos.line, rawInt pos.col, .ref c']).toList = ps.toList ++ [rawInt pos.line, rawInt pos.col, .ref c'] := by simp
    have eD2 : (h'.push (lamOb (X.env.qual ++ "<lambda>") params body scope (cloFrom X.env.cells scope.names []) ((X.mg "__name__").getD .none) c' ctv (.ref D))).get? D = some { cls := .type "tuple", data := .seq #[.int i0 t0] } := by
      refine Heap.get?_push_of_some _ (x1 D _ (fun z => ?_) eD)
      rw [z, tP] at nD
      cases nD
    have lD : D < s2.heap.objs.size := Heap.lt_size eD
    have nDc : D ≠ c' := Nat.ne_of_lt (Nat.lt_of_lt_of_le lD x2)
    have nDP : D ≠ P := fun z => by rw [z, tP] at nD; cases nD
    refine k h'.objs.size c' D t0 ((X.mg "__name__").getD .none) ctv _ _ J eN (fun p hp => ?_) (Heap.get?_push_size _ rfl) eD2 ?_ ?_ (frN _ (Nat.le_trans szD sz2)) frD upd_same
    · by_cases hb : p.1 = P
      · rw [hu p hp hb, hb]
        refine ⟨_, by rw [upd_ne nPC, upd_same], by rw [eL]; exact PySem.TriplesOk_snoc _ _ _ _ tt, fun p' cv hcv => ?_⟩
        rw [eL] at hcv
        rcases among_app _ tt hcv with z | z
        · obtain ⟨c0, w1, w2⟩ := ta p' cv z
          exact ⟨c0, w1, eN _ _ w2 codeO_ne⟩
        · exact ⟨c', z, upd_same⟩
      · obtain ⟨ps2, a1, a2, a3⟩ := hT p hp
        refine ⟨ps2, by rw [upd_ne (ne_of_none a1 nC), upd_ne hb]; exact a1, a2, fun p' cv hcv => ?_⟩
        obtain ⟨c0, w1, w2⟩ := a3 p' cv hcv
        exact ⟨c0, w1, eN _ _ w2 codeO_ne⟩
    · rw [upd_ne (Nat.ne_of_gt x3), upd_ne (Nat.ne_of_gt (Nat.lt_of_lt_of_le (Heap.lt_size oP) sz2))]
      exact I2.hok.fresh sz2
    · rw [upd_ne nDc, upd_ne nDP]
      exact nD
  | some cv =>
    obtain ⟨c', y1, y2⟩ := ta pos cv hc
    subst y1
    refine tail_hit (mg := X.mg) (closure_ok hfree) I2.ok.glob (I2.mod.glob.keeps I2.bk) hcode (TB.code.keeps I2.bk) oP tt hc bP fun ctv h' tk x1 x2 => ?_
    have J : Inv X pins σ H { s2 with heap := h'.push (lamOb (X.env.qual ++ "<lambda>") params body scope (cloFrom X.env.cells scope.names []) ((X.mg "__name__").getD .none) c' ctv (.ref D)), toks := tk } := I2.kept fun b o e => Heap.get?_push_of_some _ (x1 b o e)
    exact k h'.objs.size c' D t0 ((X.mg "__name__").getD .none) ctv H _ J (ExtN.refl H) hT (Heap.get?_push_size _ rfl) (Heap.get?_push_of_some _ (x1 _ _ eD)) (I2.hok.fresh x2) nD (frN _ (Nat.le_trans szD x2)) frD y2
end
end Om

namespace Om
open PySem PySem.Spec PyProof.Rows L2 LamX
/-- the lambda's names: parameters (none of the maker's names), captured ones, globals -/
structure LamG (N : List Str) (sc scope : Scope) (xs : List Str) : Prop where
  kind : scope.kind = .function
  co : scope.isCoroutine = false
  gen : scope.isGenerator = false
  own : ∀ y ∈ scope.names, y.2 ≠ .cell ∧ (y.2 = .local → y.1 ∉ N)
  free : ∀ y ∈ scope.names, y.2 = .free → sc.names.lookup y.1 = some .cell ∨ sc.names.lookup y.1 = some .free
  par : ∀ x ∈ xs, scope.names.lookup x = some .local
def lamGB (N : List Str) (sc scope : Scope) (xs : List Str) : Bool :=
  decide (scope.kind = .function) && (!scope.isCoroutine && (!scope.isGenerator && ((scope.names.all fun y => !decide (y.2 = .cell) && (!decide (y.2 = .local) || !decide (y.1 ∈ N))) &&
    ((scope.names.all fun y => !decide (y.2 = .free) || (decide (sc.names.lookup y.1 = some .cell) || decide (sc.names.lookup y.1 = some .free))) && xs.all fun x => decide (scope.names.lookup x = some .local)))))
theorem lamG_by {N : List Str} {sc scope : Scope} {xs : List Str} (h : lamGB N sc scope xs = true) : LamG N sc scope xs := by
  unfold lamGB at h
  simp only [Bool.and_eq_true, Bool.or_eq_true, Bool.not_eq_true', decide_eq_true_eq, decide_eq_false_iff_not, List.all_eq_true] at h
  obtain ⟨h1, h2, h3, h4, h5, h6⟩ := h
  refine ⟨h1, h2, h3, fun y hy => ⟨(h4 y hy).1, fun e => ?_⟩, fun y hy e => ?_, h6⟩
  · rcases (h4 y hy).2 with z | z
    · exact absurd e z
    · exact z
  · rcases h5 y hy with z | z
    · exact absurd e z
    · exact z
theorem LamG.has {X : Cx} {N : List Str} {scope : Scope} {xs : List Str} (L : LamG N X.env.scope scope xs) (ok : X.Ok) : ∀ y ∈ scope.names, y.2 = .free → ∃ c, X.env.cells.lookup y.1 = some c := fun y hy e => (L.free y hy e).elim (fun k => ok.has _ (.inl k)) fun k => ok.has _ (.inr k)
section
variable {X : Cx} {pins : List (Addr × Obj)} {σ : L2.St} {H HZ : Hp} {s s1 : Shared}
theorem lam_startG {A : Around} {outer : List Env} {E : XK} {scope : Scope} {xs : List Str} {binds : List (Str × Value)} {f c' : Addr} {h1 : Heap} {tk : Nat} (I : Inv X pins σ H s) (L : LamG X.N X.env.scope scope xs) (e0 : Env0 X.prog X.w X.K X.mg X.base A outer s1 HZ)
    (hd : A.handled = none) (un : Un (frs X.stack) [] H HZ s.heap s1.heap) (hns : h1.Ns s1.heap.objs.size fun y => binds.reverse.lookup y) (kp : ∀ b o, s1.heap.get? b = some o → h1.get? b = some o) :
    Inv (lamCx X A outer s1 HZ E scope f c') [] σ HZ { s1 with heap := h1, toks := tk } := by
  have frees := L.has I.ok
  have cm : ∀ {y c}, (cloFrom X.env.cells scope.names []).lookup y = some c → X.env.cells.lookup y = some c := fun {y c} e => by
    rcases cloFrom_mem (PySem.mem_of_lookup e) with m | ⟨z1, z2⟩
    · cases m
    · obtain ⟨c1, z3⟩ := frees _ z1 rfl
      have z3 : X.env.cells.lookup y = some c1 := z3
      obtain rfl : c = c1 := by rw [z2, z3]; rfl
      exact z3
  have lk : ∀ {y}, scope.names.lookup y = some .free → ∃ c, (cloFrom X.env.cells scope.names []).lookup y = some c := fun {y} e =>
    mem_lookup (cloFrom_has (cells := X.env.cells) (acc := []) (show (y, NameKind.free) ∈ scope.names from PySem.mem_of_lookup e))
  have cellK : ∀ {c : Addr} {v : Option Value}, H c = none → s.heap.IsCell c v → h1.IsCell c v := fun {c v} n ⟨o, z1, z2⟩ => by
    obtain ⟨sl, q⟩ := un.any z1 n (by simp)
    exact ⟨_, kp _ _ q, z2⟩
  have nx : ∀ b : Addr, b ∉ (lamCx X A outer s1 HZ E scope f c').ex := fun b z => by cases z
  have visN : ∀ (i : Nat) (y : Str), X.N[i]? = some y → Vis scope y → scope.names.lookup y = some .free := fun i y e v => by
    rcases v with z | z | z
    · exact absurd (List.mem_of_getElem? e) ((L.own _ (PySem.mem_of_lookup z)).2 rfl)
    · exact absurd rfl (L.own _ (PySem.mem_of_lookup z)).1
    · exact z
  have okC : (lamCx X A outer s1 HZ E scope f c').Ok := {
    mod := e0.mod, kind := L.kind, glob := rfl, blt := rfl, above := Nat.le_refl _
    inj := fun y z c z1 z2 => I.ok.inj y z c (cm z1) (cm z2)
    has := fun y hy => by
      rcases (show scope.names.lookup y = some .cell ∨ scope.names.lookup y = some .free from hy) with z | z
      · exact absurd rfl (L.own _ (PySem.mem_of_lookup z)).1
      · exact lk z
    cab := fun y c z _ => by cases (show false = true from z)
    hd := fun _ => hd, frames := Around.frames_deeper e0.frames, stk := .inr ⟨rfl, rfl⟩, exf := fun b z => absurd z (nx b), bs := e0.bs, bsz := e0.bsz, noex := fun b _ _ => nx b, exfs := fun b z => absurd z (nx b), funs := e0.funs, frf := e0.frf }
  exact {
    ok := okC, os := rfl, bare := e0.bare, base := Un.kept kp
    loc := ⟨_, hns, fun i y v z1 z2 z3 => by
      have fr := visN i y z1 z3
      obtain ⟨m, mn, ml⟩ := I.loc
      obtain ⟨u, r, q⟩ := ml i y v z1 z2 ((L.free _ (PySem.mem_of_lookup fr) rfl).elim (fun k => .inr (.inl k)) fun k => .inr (.inr k))
      obtain ⟨c2, y2⟩ := lk fr
      refine ⟨u, r, .inr ⟨.inr fr, c2, y2, ?_⟩⟩
      rcases q with ⟨q1, _⟩ | ⟨_, c3, q2, q3⟩
      · have q1 : X.env.scope.names.lookup y = some .local := q1
        rcases L.free _ (PySem.mem_of_lookup fr) rfl with w | w
        · rw [show X.env.scope.names.lookup y = _ from w] at q1; cases q1
        · rw [show X.env.scope.names.lookup y = _ from w] at q1; cases q1
      · rw [cm y2] at q2
        cases q2
        exact cellK (I.freeC y _ (cm y2)) q3⟩
    cell := fun y c z => let ⟨v, q⟩ := I.cell y c (cm z); ⟨v, cellK (I.freeC y c (cm z)) q⟩
    free := e0.hok.fresh (Nat.le_refl _)
    freeC := fun y c z => let ⟨v, o, q, _⟩ := I.cell y c (cm z); un.free c o q (I.freeC y c (cm z)) (by simp)
    pin := fun q hq => by cases (show q ∈ ([] : List (Addr × Obj)) ++ [] from hq)
    hok := e0.hok.kept kp
    len := I.len }
/-- x(), in the def that got the lambda (in slot 0) -/
theorem pe_actG {CXg : CXT} {Eg : XK} {Ng : List Str} {qg : Str} {sg : Scope} {g f c' : Addr} {cdg pm ctv dV : Value} {params : Arguments} {body : Expr} {scope : Scope} {xs : List Str} {binds : List (Str × Value)} {hold : List (Addr × Obj)} {k : Nat} {a : Str} {pn : List (Addr × Obj)} {xe : Value → Shared → Prop} {W : WX} {tb : XK → TE} {p1 p2 : Pos}
    (I : Inv X pins σ H s) (L : LamG X.N X.env.scope scope xs) (hf : s.heap.get? f = some (lamOb (X.env.qual ++ "<lambda>") params body scope (cloFrom X.env.cells scope.names []) pm c' ctv dV)) (hfn : H f = none) (hfr : f ∉ frs X.stack)
    (hh : ∀ p ∈ hold, s.heap.get? p.1 = some p.2 ∧ H p.1 = none ∧ p.1 ∉ frs X.stack) (hbn : ∀ s' : Shared, (∀ p ∈ hold, s'.heap.get? p.1 = some p.2) → BindsTo s' (lamFd (X.env.qual ++ "<lambda>") params body scope (cloFrom X.env.cells scope.names []) pm c' ctv dV) ⟨[], []⟩ binds)
    (hbx : ∀ y ∈ binds, y.1 ∈ xs)
    (tk : Takes ((cxOf CXg X.prog X.w X.K X.mg X.base Ng qg sg g cdg X.A X.stack s H Eg).tr pn xe) W) (hr : Room (k + 1) (X.A.deeper (envOfC qg sg s.heap.objs.size g cdg)))
    (hbody : ∀ (A : Around) (outer : List Env) (s : Shared) (H : Hp) (E : XK), Room k (A.deeper (lamEnv X scope s.heap.objs.size f c')) → PE (lamCx X A outer s H E scope f c') body (tb E))
    (hN : Ng[0]? = some a) (hv : Vis sg a) (hd : (a == ("__debug__" : Str)) = false := by decide) (hcd : (a == ("__classdict__" : Str)) = false := by decide) :
    PE ((cxOf CXg X.prog X.w X.K X.mg X.base Ng qg sg g cdg X.A X.stack s H Eg).tr pn xe) (.Call (.Name a p1) [] [] p2)
      (fun σZ HZ Q => σZ[0]? = some (some (.ref f)) ∧ HZ c' = some (CodeO c' (X.env.qual ++ "<lambda>")) ∧ ∃ E : XK, (∀ cls d H', E cls d H' → W cls d σZ H') ∧ tb E σ HZ Q) := by
  constructor
  rintro pinsZ sZ σZ HZ Q IZ ⟨hs, hc, E, hW, ht⟩
  refine wpAny_Call_Name_kw (thn ((pe_var (pos := p1) (i := 0) hN hv hd hcd).run pinsZ sZ σZ HZ (fun v H1 => v = .ref f ∧ H1 = HZ) IZ ⟨.ref f, hs, rfl, rfl⟩) fun u s1 ⟨v, H1, I1, r1, ev, eH⟩ => ?_)
  subst ev
  rw [eH] at I1
  obtain rfl : u = Value.ref f := r1
  have of1 := I1.base.keep f _ hf hfn hfr (by intro z; cases z)
  have hold1 : ∀ p ∈ hold, s1.heap.get? p.1 = some p.2 := fun p hp => let ⟨z1, z2, z3⟩ := hh p hp; I1.base.keep p.1 _ z1 z2 z3 (by intro z; cases z)
  have un : Un (frs X.stack) [] H HZ s.heap s1.heap := I1.base
  obtain ⟨⟨oc, vs, t, y1, y2, y3⟩, _, _⟩ := I1.hok c' _ hc
  have called : codeAny (model X.prog X.w) (X.A.deeper (envOfC qg sg s.heap.objs.size g cdg)) (.call (.ref f) ⟨[], []⟩) (CR (L2.CX X.prog X.w) (envOfC qg sg s.heap.objs.size g cdg :: X.stack) X.prog X.w HZ s1 Q E) s1 := by
    refine PySem.W.kla_callFunE hr.depth of1 rfl L.co L.gen rfl ⟨c', oc, vs, t, rfl, y1, y2, y3⟩ (hbn s1 hold1 _ _ _ _ (wpAny_newFunctionEnv (fun y hy => (L.own y hy).1) (fun y hy => L.par _ (hbx y hy)) (fun h1 hns hsb => ⟨I1.nolimit.fresh _ hsb, ?_⟩) L.kind))
    have kp : ∀ b o, s1.heap.get? b = some o → h1.get? b = some o := fun b o e => hsb.extBut b o (Nat.ne_of_lt (Heap.lt_size e)) (Heap.get?_push_of_some _ e)
    have J : Inv (lamCx X (X.A.deeper (envOfC qg sg s.heap.objs.size g cdg)) (envOfC qg sg s.heap.objs.size g cdg :: X.stack) s1 HZ E scope f c') [] σ HZ { s1 with heap := h1, toks := s1.toks + binds.length } := lam_startG I L I1.env0 hr.hd un hns kp
    refine PySem.W.kla_codeExpr (wpAny_mono ((hbody _ _ s1 HZ E (hr.deeper _)).run [] _ _ HZ Q J ht) (fun v s' ⟨w', H', J', rv, q⟩ => ⟨w', H', J'.os, J'.bare, J'.base, J'.hok, rv, q⟩) fun e s' hq => hq)
  refine PySem.W.callWith_F0 ⟨_, _, _, _, of1⟩ (wpAny_call (codeAny_mono called fun r s' hq => ?_))
  match r, hq with
  | .error e, hq => exact tk _ _ (XE.of_call I1 hW hq)
  | .ok (.ret u), hq => exact I1.after hq
  | .ok .next, hq => exact False.elim hq
  | .ok .brk, hq => exact False.elim hq
  | .ok .cont, hq => exact False.elim hq
end
end Om

namespace Om
open PySem PySem.Spec PyProof.Rows L2 LamX
/-- the def at g calls what it got (in slot 0, its name a); TT: what it makes of the lambda's reading -/
def GivesG (X : Cx) (Ng : List Str) (x : Str) (sg : Scope) (g : Addr) (cdg : Value) (bg : List Stmt) (a : Str) (q : Str) (TT : (XK → Hp → VK → Prop) → Hp → VK → Prop) : Prop :=
  ∀ (f c' : Addr) (s : Shared) (H : Hp) (Q : VK) (tl : XK → Hp → VK → Prop),
    (∀ (W : WX) (pn : List (Addr × Obj)) (xe : Value → Shared → Prop) (p1 p2 : Pos), Takes ((cxOf L2.CX0 X.prog X.w X.K X.mg X.base Ng x sg g cdg X.A X.stack s H L2.E0).tr pn xe) W →
      PE ((cxOf L2.CX0 X.prog X.w X.K X.mg X.base Ng x sg g cdg X.A X.stack s H L2.E0).tr pn xe) (.Call (.Name a p1) [] [] p2) (fun σZ HZ Q => σZ[0]? = some (some (.ref f)) ∧ HZ c' = some (CodeO c' q) ∧ ∃ E : XK, (∀ cls d H', E cls d H' → W cls d σZ H') ∧ tl E HZ Q)) →
    H c' = some (CodeO c' q) → Room 2 (X.A.deeper (envOfC x sg s.heap.objs.size g cdg)) → TT tl H Q →
    ∃ t, PSs (cxOf L2.CX0 X.prog X.w X.K X.mg X.base Ng x sg g cdg X.A X.stack s H L2.E0).nox bg t ∧ t { nx := fun _ H' => Q .non H', rt := Q } (L2.start Ng [.ref f]) H
section
variable {X : Cx}
/-- behind the making: the def is called with the lambda -/
theorem lam_given {T : List (Addr × Str)} {TT : (XK → Hp → VK → Prop) → Hp → VK → Prop} {x a : Str} {g f c' : Addr} {k : Nat} {pg : Arguments} {bg : List Stmt} {sg : Scope} {dG kG doc pmg cdg ctg oc pm ctv dV : Value} {an od : Option Addr} {osl : Array (Option Value)} {Ng : List Str}
    {params : Arguments} {body : Expr} {scope : Scope} {t : XK → TE} {xs : List Str} {binds : List (Str × Value)} {hold : List (Addr × Obj)} {pins : List (Addr × Obj)} {σ : L2.St} {H1 : Hp} {s' : Shared} {Q : VK} {E' : Value → Shared → Prop}
    (lk : X.K.lookup g = some ⟨oc, od, .func (PySem.W.fnOf x x pg bg sg dG kG doc pmg an cdg ctg), osl⟩) (hcg : PySem.W.codeIn X.K cdg x = true) (hb : L2.Binds X.K (PySem.W.fnOf x x pg bg sg dG kG doc pmg an cdg ctg) [a] []) (Sg : FnScope Ng [a] sg) (hNg : Ng[0]? = some a) (hva : Vis sg a)
    (hG : GivesG X Ng x sg g cdg bg a (X.env.qual ++ "<lambda>") TT) (hr : Room (k + 2) X.A) (hr3 : Room 3 X.A) (L : LamG X.N X.env.scope scope xs) (I1 : Inv X pins σ H1 s')
    (hf : s'.heap.get? f = some (lamOb (X.env.qual ++ "<lambda>") params body scope (cloFrom X.env.cells scope.names []) pm c' ctv dV)) (hfn : H1 f = none) (hfr : f ∉ frs X.stack)
    (hh : ∀ p ∈ hold, s'.heap.get? p.1 = some p.2 ∧ H1 p.1 = none ∧ p.1 ∉ frs X.stack) (hbn : ∀ s' : Shared, (∀ p ∈ hold, s'.heap.get? p.1 = some p.2) → BindsTo s' (lamFd (X.env.qual ++ "<lambda>") params body scope (cloFrom X.env.cells scope.names []) pm c' ctv dV) ⟨[], []⟩ binds)
    (hbx : ∀ y ∈ binds, y.1 ∈ xs) (hco : H1 c' = some (CodeO c' (X.env.qual ++ "<lambda>"))) (hT : TT (fun E H' Q' => t E σ H' Q') H1 Q)
    (hbody : ∀ (A : Around) (outer : List Env) (s : Shared) (H : Hp) (E : XK), Room k (A.deeper (lamEnv X scope s.heap.objs.size f c')) → PE (lamCx X A outer s H E scope f c') body (t E))
    (hd : (a == ("__debug__" : Str)) = false := by decide) (hcd : (a == ("__classdict__" : Str)) = false := by decide) :
    wpAny (model X.prog X.w) X.A (call (.ref g) [.ref f]) (EP X pins σ Q) E' s' := by
  have called : codeAny (model X.prog X.w) X.A (.call (.ref g) ⟨[.ref f], []⟩) (CR L2.CX0 X.stack X.prog X.w H1 s' Q L2.E0) s' := by
    refine run_ofS (k := k + 1) (N := Ng) (ps := [a]) (us := [.ref f]) (vs := [.ref f]) lk hcg Sg hr I1.env0 (hb s' [.ref f] I1.kIn rfl) (.cons rfl .nil) rfl fun hr' => ?_
    obtain ⟨t', z1, z2⟩ := hG f c' s' H1 Q (fun E H' Q' => t E σ H' Q') (fun W pn xe p1 p2 tk => pe_actG I1 L hf hfn hfr hh hbn hbx tk hr' hbody hNg hva hd hcd) hco (hr3.deeper _) hT
    exact ⟨t', z1.nox, z2⟩
  refine wpAny_call (codeAny_mono called fun r s2 hq => ?_)
  match r, hq with
  | .error e, hq => exact (show False from hq).elim
  | .ok (.ret u), hq => exact I1.after hq
  | .ok .next, hq => exact False.elim hq
  | .ok .brk, hq => exact False.elim hq
  | .ok .cont, hq => exact False.elim hq
/-- x(lambda: body) -/
theorem pe_lamG0 {T : List (Addr × Str)} {TT : (XK → Hp → VK → Prop) → Hp → VK → Prop} {x a : Str} {g c P : Addr} {k : Nat} {pg : Arguments} {bg : List Stmt} {sg : Scope} {dG kG doc pmg cdg ctg oc : Value} {an od : Option Addr} {osl : Array (Option Value)} {Ng : List Str}
    {params : Arguments} {body : Expr} {scope : Scope} {t : XK → TE} {p lpos pos : Pos} (hg : Gl X x) (hm : X.mg x = some (.ref g)) (hk : PySem.W.keepIn X.K (.ref g) = true)
    (lk : X.K.lookup g = some ⟨oc, od, .func (PySem.W.fnOf x x pg bg sg dG kG doc pmg an cdg ctg), osl⟩) (hcg : PySem.W.codeIn X.K cdg x = true) (hb : L2.Binds X.K (PySem.W.fnOf x x pg bg sg dG kG doc pmg an cdg ctg) [a] []) (Sg : FnScope Ng [a] sg) (hNg : Ng[0]? = some a) (hva : Vis sg a)
    (hG : GivesG X Ng x sg g cdg bg a (X.env.qual ++ "<lambda>") TT)
    (TB : TabB X.base X.mg c P) (hcode : X.env.code = .ref c) (hmT : (P, X.env.qual ++ "<lambda>") ∈ T) (hu : ∀ p ∈ T, p.1 = P → p.2 = X.env.qual ++ "<lambda>") (hr : Room (k + 2) X.A) (hr3 : Room 3 X.A) (L : LamG X.N X.env.scope scope []) (hdef : defaultsOf params X.env = ([], []))
    (hbind : ∀ (q : Str) (cl : List (Str × Addr)) (pm : Value) (c' : Addr) (ctv : Value), bindArgs (lamFd q params body scope cl pm c' ctv .none) ⟨[], []⟩ = pure [])
    (hbody : ∀ (A : Around) (outer : List Env) (s : Shared) (H : Hp) (E : XK) (f c' : Addr), Room k (A.deeper (lamEnv X scope s.heap.objs.size f c')) → PE (lamCx X A outer s H E scope f c') body (t E))
    (hdb : (x == ("__debug__" : Str)) = false := by decide) (hd : (a == ("__debug__" : Str)) = false := by decide) (hcd : (a == ("__classdict__" : Str)) = false := by decide) :
    PE X (.Call (.Name x p) [.Lambda params body scope lpos] [] pos) (tLam T TT t) := by
  constructor
  rintro pins s σ H Q I ⟨hT, h⟩
  refine wpAny_Call_Name_kw (ld_glob I hg hm (PySem.W.callWith_K (h₀ := X.base) I.ok.mod.kin hk ?_ (by rfl) (by rfl)) hdb)
  show wpAny _ _ (spliced ((false, eval (.Lambda params body scope lpos) X.env) :: backTo pos (starEach [] X.env))) _ _ s
  refine Calls.spliced_cons (lam_make2 I TB hcode hmT hu hT hdef (L.has I.ok) fun f c' pm' ctv H1 s' I1 eN T1 hf hfn hfr hco => Calls.spliced_nil ⟨I1.kIn, ?_⟩)
  exact lam_given (T := T) (dV := .none) (xs := []) (binds := []) (hold := []) lk hcg hb Sg hNg hva hG hr hr3 L I1 hf hfn hfr (fun p hp => by cases hp) (fun s' _ => BindsTo.of_eq (hbind _ _ _ _ _)) (fun y hy => by cases hy) hco (h H1 eN T1) (fun A outer s H E hr2 => hbody A outer s H E f c' hr2) hd hcd
/-- x(lambda y=i: body) -/
theorem pe_lamG1 {T : List (Addr × Str)} {TT : (XK → Hp → VK → Prop) → Hp → VK → Prop} {x a y : Str} {g c P : Addr} {k : Nat} {pg : Arguments} {bg : List Stmt} {sg : Scope} {dG kG doc pmg cdg ctg oc : Value} {an od : Option Addr} {osl : Array (Option Value)} {Ng : List Str}
    {params : Arguments} {body : Expr} {scope : Scope} {t : XK → TE} {p lpos pos p0 : Pos} {i0 : Int} {j0 : Nat} (hg : Gl X x) (hm : X.mg x = some (.ref g)) (hk : PySem.W.keepIn X.K (.ref g) = true)
    (lk : X.K.lookup g = some ⟨oc, od, .func (PySem.W.fnOf x x pg bg sg dG kG doc pmg an cdg ctg), osl⟩) (hcg : PySem.W.codeIn X.K cdg x = true) (hb : L2.Binds X.K (PySem.W.fnOf x x pg bg sg dG kG doc pmg an cdg ctg) [a] []) (Sg : FnScope Ng [a] sg) (hNg : Ng[0]? = some a) (hva : Vis sg a)
    (hG : GivesG X Ng x sg g cdg bg a (X.env.qual ++ "<lambda>") TT)
    (TB : TabB X.base X.mg c P) (hcode : X.env.code = .ref c) (hmT : (P, X.env.qual ++ "<lambda>") ∈ T) (hu : ∀ p ∈ T, p.1 = P → p.2 = X.env.qual ++ "<lambda>") (hr : Room (k + 2) X.A) (hr3 : Room 3 X.A) (L : LamG X.N X.env.scope scope [y]) (hdef : defaultsOf params X.env = ([eval (.Constant (.int i0) j0 p0) X.env], []))
    (hbind : ∀ (q : Str) (cl : List (Str × Addr)) (pm : Value) (c' : Addr) (ctv : Value) (D : Addr) (v : Value), ∃ kk : Option (Array Value) → Sem (List (Str × Value)), bindArgs (lamFd q params body scope cl pm c' ctv (.ref D)) ⟨[], []⟩ = seqItems? (.ref D) >>= kk ∧ kk (some #[v]) = pure [(y, v)])
    (hbody : ∀ (A : Around) (outer : List Env) (s : Shared) (H : Hp) (E : XK) (f c' : Addr), Room k (A.deeper (lamEnv X scope s.heap.objs.size f c')) → PE (lamCx X A outer s H E scope f c') body (t E))
    (hdb : (x == ("__debug__" : Str)) = false := by decide) (hd : (a == ("__debug__" : Str)) = false := by decide) (hcd : (a == ("__classdict__" : Str)) = false := by decide) :
    PE X (.Call (.Name x p) [.Lambda params body scope lpos] [] pos) (tLam T TT t) := by
  constructor
  rintro pins s σ H Q I ⟨hT, h⟩
  refine wpAny_Call_Name_kw (ld_glob I hg hm (PySem.W.callWith_K (h₀ := X.base) I.ok.mod.kin hk ?_ (by rfl) (by rfl)) hdb)
  show wpAny _ _ (spliced ((false, eval (.Lambda params body scope lpos) X.env) :: backTo pos (starEach [] X.env))) _ _ s
  refine Calls.spliced_cons (lam_mk1 I TB hcode hmT hu hT hdef (L.has I.ok) (fun f c' D t0 pm' ctv H1 s' I1 eN T1 hf hD hfn hDn hfr hDr hco => Calls.spliced_nil ⟨I1.kIn, ?_⟩) rfl)
  refine lam_given (T := T) (dV := .ref D) (xs := [y]) (binds := [(y, .int i0 t0)]) (hold := [(D, { cls := .type "tuple", data := .seq #[.int i0 t0] })]) lk hcg hb Sg hNg hva hG hr hr3 L I1 hf hfn hfr (fun p hp => ?_) (fun s2 hs2 => ?_) (fun z hz => ?_) hco (h H1 eN T1) (fun A outer s H E hr2 => hbody A outer s H E f c' hr2) hd hcd
  · rw [List.mem_singleton.mp hp]
    exact ⟨hD, hDn, hDr⟩
  · obtain ⟨kk, z1, z2⟩ := hbind (X.env.qual ++ "<lambda>") (cloFrom X.env.cells scope.names []) pm' c' ctv D (.int i0 t0)
    intro M A' E2 Q2 hq
    rw [z1]
    refine wpAny_bind (wpAny_seqItems (hs2 _ (List.mem_singleton.mpr rfl)) rfl ?_)
    rw [z2]
    exact wpAny_pure hq
  · rw [List.mem_singleton.mp hz]
    exact List.mem_singleton.mpr rfl
end
end Om

namespace Om
open PySem PySem.Spec PyProof.Rows L2 LamX
/-! ### xs.count(y), the items flat -/
def rCntF (K : PySem.W.Frag) : V → List V → Hp → VK → Prop := fun x vs H Q => ∃ (p : Addr) (ys : List V) (y : V), x = .ref p ∧ vs = [y] ∧ SqL K H p ys ∧ flatV y = true ∧ ys.all flatV = true ∧ Q (.int ((ys.countP fun z => eqV z y) : Nat)) H
theorem cnt_flat {y : V} {uy : Value} : ∀ {ys : List V} {us : List Value}, Vals ys us → ys.all flatV = true → us.countP (eqU y) = ys.countP fun z => eqV z y
  | _, _, .nil, _ => rfl
  | v :: vs, u :: us, .cons r rr, hf => by
    simp only [List.all_cons, Bool.and_eq_true] at hf
    rw [List.countP_cons, List.countP_cons, cnt_flat (uy := uy) rr hf.2, eqU_of r hf.1]
theorem mt_countF {X : Cx} : MtR X "list.count" (rCntF X.K) := by
  rintro pins s σ H x xs v us Q I rx rxs ⟨p, ys, y, rfl, rfl, hs, fy, fys, q⟩
  cases rx
  cases rxs with
  | @cons _ uy _ ut ry rt =>
    cases rt
    obtain ⟨its, rv, ⟨⟨cls, dd, data, sl⟩, n, ho, hc, hdn, hd⟩, hlen⟩ := I.list hs
    simp only at hc hd
    subst hc hd
    refine call_meets PySem.F.slot_list_count ⟨_, ho, rfl⟩ PySem.F.entry_list_count (PySem.F.args_list_count_2 _ _) (SeqAt.list_countAt p its.toArray n dd sl uy (eqU y)) ⟨ho, fun u' hu' => mem_eqAt ry fy rv fys u' (by simpa using hu'), ?_⟩
    have ec : its.toArray.toList.countP (eqU y) = ys.countP fun z => eqV z y := cnt_flat (uy := uy) rv fys
    refine ⟨.int ((ys.countP fun z => eqV z y) : Nat), H, I.tok _, ⟨s.toks, ?_⟩, q⟩
    show Value.int ((its.toArray.toList.countP (eqU y) : Nat) : Int) s.toks = _
    rw [ec]
/-! ### isinstance(e, C), e the exception that the suite holds, of an own class -/
def rIsX (K : PySem.W.Frag) (a : Addr) (cls : Value) (d : Option Addr) : List V → Hp → VK → Prop := fun xs H Q => ∃ (D : Addr) (c : V) (cv : Value) (b : Bool), cls = .ref D ∧ ExcC K D ∧ xs = [.ref a, c] ∧ (∀ u, RelV c u → u = cv) ∧ PySem.W.kitOne K (.ref D) cv = some b ∧
  (∀ dd, d = some dd → ∃ fs, H dd = some (.xd fs)) ∧ Q (.bl b) H
theorem call_isX {X : Cx} {a : Addr} {cls : Value} {d : Option Addr} {oe : Obj} {pn : List (Addr × Obj)} (hz : Zc cls d oe) (hf : ∃ vs, oe.data = .fields vs) : CallR (X.suite a ((a, oe) :: pn)) (.builtin "isinstance") (rIsX X.K a cls d) := by
  rintro pins s σ H xs us Q I r ⟨D, c, cv, b, rfl, C, rfl, hcv, e, hd, q⟩
  cases r with
  | cons rx rr =>
    cases rr with
    | cons rt rr =>
      cases rr
      cases rx
      obtain rfl := hcv _ rt
      obtain ⟨hget, _⟩ := I.pin (a, oe) (List.mem_append.mpr (.inl List.mem_cons_self))
      obtain ⟨vs, hv⟩ := hf
      have no : PySem.W.notCls oe = true := by unfold PySem.W.notCls; rw [hv]
      have J : ∃ od, PySem.W.InstAt s.heap a oe D od := by
        cases d with
        | none => exact ⟨none, hget, hz.1, no, by rw [hz.2]; trivial⟩
        | some dd =>
          obtain ⟨fs, hx⟩ := hd dd rfl
          obtain ⟨mA, ⟨o, es, ep, ho, _⟩, _⟩ := I.hok dd _ hx
          exact ⟨some o, hget, hz.1, no, by rw [hz.2]; exact ho⟩
      obtain ⟨od, J⟩ := J
      have hcl : (PySem.W.clsIn X.K D).isSome = true := by
        obtain ⟨cd, hc, _⟩ := PySem.W.any_some C.hd
        rw [hc]
        rfl
      exact PySem.W.kia_one (PySem.W.kitx_exc (ox := oe) (od := od) hcl C.hg C.hk C.hs C.ha C.hn C.ht C.hm) I.kIn J e (fun z => nomatch z) fun tk => ⟨.bl b, H, I.kept (t' := tk) fun _ _ z => z, rfl, q⟩
end Om

namespace Om
open PySem PySem.Spec PyProof.Rows L2 LamX
def nmE : Nat → Str
  | 0 => "InvalidIsland"
  | 1 => "InvalidMap"
  | 2 => "InvalidNumber"
  | 3 => "NoBeginning"
  | 4 => "NoWay"
  | 5 => "TooMany"
  | _ => "UnknownCell"
/-- what the top says of the errors' classes -/
structure ErrF (K : PySem.W.Frag) (mg : Str → Option Value) (C : Nat → Addr) (CM : Addr) : Prop where
  gM : mg "MapError" = some (.ref CM)
  g : ∀ i, i < 7 → mg (nmE i) = some (.ref (C i))
  exm : ∀ i, i < 7 → PySem.W.exmOne K (.ref (C i)) (.ref CM) = some true
  exc : ∀ i, i < 7 → ExcC K (C i)
  kit : ∀ i j, i < 7 → j < 7 → PySem.W.kitOne K (.ref (C i)) (.ref (C j)) = some (decide (j = i))
  kitV : ∀ i, i < 7 → PySem.W.kitOne K (.ref (C i)) (.type "ValueError") = some true
  xf0 : XfC K (C 0)
  noR : PySem.W.findIn K (.ref (C 0)) "row" = some none
  noC : PySem.W.findIn K (.ref (C 0)) "column" = some none
  xf1 : XfC K (C 1)
  noI : PySem.W.findIn K (.ref (C 1)) "index" = some none
  gi : mg "isinstance" = none
  gv : mg "ValueError" = none
inductive ErrOut (C : Nat → Addr) (Q : VK) : Value → Option Addr → Hp → Prop
/-- what _law_error makes of an error -/
  | isl {d : Addr} {x y : V} {H' : Hp} : H' d = some (.xd (xdII x y)) → (∀ p H2, H' p = none → Same H' H2 → H2 p = some (.tup [.str "InvalidIsland", x, y]) → Q (.ref p) H2) → ErrOut C Q (.ref (C 0)) (some d) H'
  | chart {d : Addr} {x : V} {H' : Hp} : H' d = some (.xd [(("index" : Str), x)]) → (∀ p H2, H' p = none → Same H' H2 → H2 p = some (.tup [.str "InvalidMap", x]) → Q (.ref p) H2) → ErrOut C Q (.ref (C 1)) (some d) H'
  | other {j : Nat} {H' : Hp} : 2 ≤ j → j < 7 → (∀ H2, Same H' H2 → Q (.str (nmE j)) H2) → ErrOut C Q (.ref (C j)) none H'
def TErr (C : Nat → Addr) : (XK → Hp → VK → Prop) → Hp → VK → Prop := fun tl H Q => tl (ErrOut C Q) H fun _ H' => Q (.str "") H'
/-! rules whose reading names the written part apart from the context -/
theorem isX_K {X : Cx} {K : PySem.W.Frag} {a : Addr} {cls : Value} {d : Option Addr} {oe : Obj} {pn : List (Addr × Obj)} (hK : X.K = K) (hz : Zc cls d oe) (hf : ∃ vs, oe.data = .fields vs) : CallR (X.suite a ((a, oe) :: pn)) (.builtin "isinstance") (rIsX K a cls d) := by
  subst hK
  exact call_isX hz hf
theorem bm_KV {X : Cx} {K : PySem.W.Frag} {T id : String} {name : Str} {r : V → List V → Hp → VK → Prop} {o e : Expr} {es : List Expr} {to : TE} {t : TA} {apos cpos : Pos} (hK : X.K = K) (pa : PlainAttrs T) (slot : Slot T name id) (hty : typeOf (.builtin id) = pure (.type "method_descriptor")) (hm : MtR X id r) (ho : PE X o to) (ha : PA X (e :: es) t)
    (hbase : attributeBase o name X.env (eval o X.env) = eval o X.env := by rfl)
    (hfew : ((backTo cpos (starEach (e :: es) X.env)).all (fun x => !x.1) && (backToKw cpos (keywordEach [] X.env)).all (fun x => x.1.isSome) && decide ((e :: es).length + ([] : List Keyword).length + (if ([] : List Keyword).isEmpty then 0 else 1) < 30)) = true := by rfl)
    (hline : (apos.endLine == cpos.line) = true := by rfl) (hs : starEach (e :: es) X.env = (false, eval e X.env) :: starEach es X.env := by rfl) (hplain : (backTo cpos (starEach es X.env)).any (·.1) = false := by rfl) :
    PE X (.Call (.Attribute o name apos) (e :: es) [] cpos) (tBM K T r to t) := by
  subst hK
  exact pe_bm pa slot hty hm ho ha hbase hfew hline hs hplain
theorem cnt_K {X : Cx} {K : PySem.W.Frag} (hK : X.K = K) : MtR X "list.count" (rCntF K) := by
  subst hK
  exact mt_countF
theorem index_K {X : Cx} {K : PySem.W.Frag} (hK : X.K = K) : MtR X "list.index" (rIndex K) := by
  subst hK
  exact mt_index
theorem ixl_K {X : Cx} {K : PySem.W.Frag} (hK : X.K = K) : IxR X (rIxL K) := by
  subst hK
  exact ix_list
def ksV (j : Nat) : List V := [.bl (decide (0 = j)), .bl (decide (1 = j)), .bl (decide (2 = j)), .bl (decide (3 = j)), .bl (decide (4 = j)), .bl (decide (5 = j)), .bl (decide (6 = j))]
def nmsV : List V := [.str (nmE 0), .str (nmE 1), .str (nmE 2), .str (nmE 3), .str (nmE 4), .str (nmE 5), .str (nmE 6)]
theorem ksV_flat (j : Nat) : (ksV j).all flatV = true := rfl
theorem ksV_count {j : Nat} (h : j < 7) : ((ksV j).countP fun z => eqV z (.bl true)) = 1 := by
  have e : ∀ j : Fin 7, ((ksV j).countP fun z => eqV z (.bl true)) = 1 := by decide
  exact e ⟨j, h⟩
theorem ksV_at {j : Nat} (h : j < 7) : (ksV j)[j]? = some (.bl true) := by
  have e : ∀ j : Fin 7, (ksV j)[j.val]? = some (.bl true) := by decide
  exact e ⟨j, h⟩
theorem ksV_ahead {j : Nat} (h : j < 7) {m : Nat} {z : V} (hm : m < j) (hz : (ksV j)[m]? = some z) : eqV z (.bl true) = false := by
  have e : ∀ j m : Fin 7, m.val < j.val → ((ksV j)[m.val]?.map fun z => eqV z (.bl true)) = some false := by decide
  have e2 := e ⟨j, h⟩ ⟨m, by omega⟩ hm
  rw [hz] at e2
  exact Option.some.inj e2
theorem nmsV_at {j : Nat} (h : j < 7) : atI nmsV ((j : Nat) : Int) = some (.str (nmE j)) := by
  refine atI_nat ?_
  have e : j = 0 ∨ j = 1 ∨ j = 2 ∨ j = 3 ∨ j = 4 ∨ j = 5 ∨ j = 6 := by omega
  rcases e with rfl | rfl | rfl | rfl | rfl | rfl | rfl <;> rfl
theorem nmE_inj {j : Nat} (h : j < 7) : (nmE j = nmE 0 ↔ j = 0) ∧ (nmE j = nmE 1 ↔ j = 1) := by
  have e : j = 0 ∨ j = 1 ∨ j = 2 ∨ j = 3 ∨ j = 4 ∨ j = 5 ∨ j = 6 := by omega
  rcases e with rfl | rfl | rfl | rfl | rfl | rfl | rfl <;> decide +kernel
section
variable {X : Cx} {C : Nat → Addr} {CM g : Addr} {cdg : Value} {q : Str}
end
end Om

/-! lambdas kept in a list: made as values (without a default, or one parameter with a written int), each called later, in a list comprehension of their maker, by a def that gets it -/
namespace Om
open PySem PySem.Spec PyProof.Rows L2 LamX NdefX
/-- a function object whose defaults are the tuple at D -/
def FnE1 (f : Addr) (F : LE) (D : Addr) : HO := .ext fun h => ∃ pm ctv, h.get? f = some (lamOb F.qual F.params F.body F.scope F.cl pm F.c ctv (.ref D))
def TupI (D : Addr) (i : Int) : HO := .ext fun h => ∃ t, h.get? D = some { cls := .type "tuple", data := .seq #[.int i t] }
/-- the lambda at f, its default (an int) or none -/
def LamAt (H : Hp) (f : Addr) (F : LE) : Option Int → Prop
  | none => H f = some (FnE f F)
  | some i => ∃ D, H f = some (FnE1 f F D) ∧ H D = some (TupI D i)
def LamK (H : Hp) (f : Addr) (F : Addr → LE) (d : Option Int) : Prop := ∃ c', LamAt H f (F c') d ∧ H (F c').c = some (CodeO (F c').c (F c').qual)
theorem LamAt.ext {H H' : Hp} {f : Addr} {F : LE} {d : Option Int} (h : LamAt H f F d) (k : ExtN H H') : LamAt H' f F d := by
  cases d with
  | none => exact k _ _ h fnE_tbl
  | some i =>
    obtain ⟨D, h1, h2⟩ := h
    exact ⟨D, k _ _ h1 (fun ps z => by unfold FnE1 at z; cases z), k _ _ h2 fun ps z => by unfold TupI at z; cases z⟩
theorem LamK.ext {H H' : Hp} {f : Addr} {F : Addr → LE} {d : Option Int} (h : LamK H f F d) (k : ExtN H H') : LamK H' f F d := by
  obtain ⟨c', h1, h2⟩ := h
  exact ⟨c', h1.ext k, k _ _ h2 codeO_ne⟩
/-- the words of a lambda written in the text -/
def leOf (cells : List (Str × Addr)) (q : Str) (params : Arguments) (body : Expr) (scope : Scope) (c' : Addr) : LE := ⟨params, body, scope, q ++ "<lambda>", cloFrom cells scope.names [], c'⟩
section
variable {X : Cx} {pins : List (Addr × Obj)} {σ : L2.St} {H : Hp} {s : Shared}
theorem inv_fnE1 {F : LE} {D : Addr} {o : Obj} {t' : Nat} {pm ctv : Value} (I : Inv X pins σ H s) (ho : o = lamOb F.qual F.params F.body F.scope F.cl pm F.c ctv (.ref D)) :
    Inv X pins σ (upd H s.heap.objs.size (FnE1 s.heap.objs.size F D)) { s with heap := s.heap.push o, toks := t' } := by
  subst ho
  refine I.laid (a := s.heap.objs.size) (fun b u e => Heap.get?_push_of_some _ e) (Nat.le_refl _) ?_
  have e : (s.heap.push (lamOb F.qual F.params F.body F.scope F.cl pm F.c ctv (.ref D))).get? s.heap.objs.size = some (lamOb F.qual F.params F.body F.scope F.cl pm F.c ctv (.ref D)) := Heap.get?_push_size _ rfl
  exact ⟨⟨pm, ctv, e⟩, ⟨_, e⟩, fun h1 h2 ⟨p, t, z⟩ st => ⟨p, t, st _ z⟩⟩
/-- the end of the making of a lambda whose defaults stand in the tuple at D -/
theorem lamE_tail {T : List (Addr × Str)} {c P D : Addr} {params : Arguments} {body : Expr} {scope : Scope} {pos : Pos} {Q : Value → Shared → Prop} (I : Inv X pins σ H s) (TB : TabB X.base X.mg c P) (hcode : X.env.code = .ref c)
    (hm : (P, X.env.qual ++ "<lambda>") ∈ T) (hu : ∀ p ∈ T, p.1 = P → p.2 = X.env.qual ++ "<lambda>") (hT : Tabs T H) (hfree : ∀ y ∈ scope.names, y.2 = .free → ∃ c, X.env.cells.lookup y.1 = some c)
    (k : ∀ (f c' : Addr) (H1 : Hp) (s' : Shared), Inv X pins σ H1 s' → ExtN H H1 → Tabs T H1 → H f = none → H1 f = some (FnE1 f ⟨params, body, scope, X.env.qual ++ "<lambda>", cloFrom X.env.cells scope.names [], c'⟩ D) → H1 c' = some (CodeO c' (X.env.qual ++ "<lambda>")) → Q (.ref f) s') :
    wpAny (model X.prog X.w) X.A (makeTail "<lambda>" (X.env.qual ++ "<lambda>") params (.expr body) scope X.env (.ref D) .none none pos pos.line) Q X.xe s := by
  obtain ⟨ps, tP, tt, ta⟩ := hT _ hm
  have bP : s.heap.BuiltinsAt X.mg P := TB.bm.keeps I.bk
  have oP : s.heap.get? P = some { cls := .none, data := .fields ps } := I.hok P _ tP
  cases hc : codeAmong pos ps.toList with
  | none =>
    refine tail_new (mg := X.mg) (closure_ok hfree) I.ok.glob (I.mod.glob.keeps I.bk) hcode (TB.code.keeps I.bk) oP tt hc TB.gP bP fun c' ctv h' tk x1 x2 x3 x4 x5 => ?_
    obtain ⟨c2, oc, vs, t, y1, y2, y3, y4⟩ := x4
    cases y1
    have nC : H c' = none := I.hok.fresh x2
    have I1 := inv_table (t' := tk) (more := #[rawInt pos.line, rawInt pos.col, .ref c']) (h' := h') I tP (fun b o hb e => x1 b o hb e) x5 x2 ⟨oc, vs, t, y2, y3, y4⟩
    have nPC : P ≠ c' := ne_of_none tP nC
    have eN : ExtN H (upd (upd H P (.tbl (ps ++ #[rawInt pos.line, rawInt pos.col, .ref c']))) c' (CodeO c' (X.env.qual ++ "<lambda>"))) := fun b o e n => by
      have n1 : b ≠ P := fun z => by
        rw [z, tP] at e
        exact n ps (Option.some.inj e).symm
      rw [upd_ne (ne_of_none e nC), upd_ne n1]
      exact e
    have eL : (ps ++ #[rawInt pos.line, rawInt pos.col, .ref c']).toList = ps.toList ++ [rawInt pos.line, rawInt pos.col, .ref c'] := by simp
    have T1 : Tabs T (upd (upd H P (.tbl (ps ++ #[rawInt pos.line, rawInt pos.col, .ref c']))) c' (CodeO c' (X.env.qual ++ "<lambda>"))) := fun p hp => by
      by_cases hb : p.1 = P
      · rw [hu p hp hb, hb]
        refine ⟨_, by rw [upd_ne nPC, upd_same], by rw [eL]; exact PySem.TriplesOk_snoc _ _ _ _ tt, fun p' cv hcv => ?_⟩
        rw [eL] at hcv
        rcases among_app _ tt hcv with z | z
        · obtain ⟨c0, w1, w2⟩ := ta p' cv z
          exact ⟨c0, w1, eN _ _ w2 codeO_ne⟩
        · exact ⟨c', z, upd_same⟩
      · obtain ⟨ps2, a1, a2, a3⟩ := hT p hp
        refine ⟨ps2, by rw [upd_ne (ne_of_none a1 nC), upd_ne hb]; exact a1, a2, fun p' cv hcv => ?_⟩
        obtain ⟨c0, w1, w2⟩ := a3 p' cv hcv
        exact ⟨c0, w1, eN _ _ w2 codeO_ne⟩
    have nF := I1.hok.fresh (Nat.le_refl _)
    have I2 := inv_fnE1 (F := ⟨params, body, scope, X.env.qual ++ "<lambda>", cloFrom X.env.cells scope.names [], c'⟩) (D := D) (t' := tk) (pm := (X.mg "__name__").getD .none) (ctv := ctv) I1 rfl
    refine k h'.objs.size c' _ _ I2 (fun b o e n => ?_) (T1.ext fun b o e => ?_) (I.hok.fresh (Nat.le_trans x2 (Nat.le_of_lt x3))) upd_same ?_
    · have e1 := eN b o e n
      exact (upd_ne (ne_of_none e1 nF)).trans e1
    · exact (upd_ne (ne_of_none e nF)).trans e
    · exact (upd_ne (Nat.ne_of_lt x3)).trans upd_same
  | some cv =>
    obtain ⟨c', y1, y2⟩ := ta pos cv hc
    subst y1
    refine tail_hit (mg := X.mg) (closure_ok hfree) I.ok.glob (I.mod.glob.keeps I.bk) hcode (TB.code.keeps I.bk) oP tt hc bP fun ctv h' tk x1 x2 => ?_
    have I1 : Inv X pins σ H { s with heap := h', toks := tk } := I.kept x1
    have nF : H h'.objs.size = none := I1.hok.fresh (Nat.le_refl _)
    have I2 := inv_fnE1 (F := ⟨params, body, scope, X.env.qual ++ "<lambda>", cloFrom X.env.cells scope.names [], c'⟩) (D := D) (t' := tk) (pm := (X.mg "__name__").getD .none) (ctv := ctv) I1 rfl
    refine k h'.objs.size c' _ _ I2 (fun b o e n => ?_) (hT.ext fun b o e => ?_) nF upd_same ?_
    · exact (upd_ne (ne_of_none e nF)).trans e
    · exact (upd_ne (ne_of_none e nF)).trans e
    · exact (upd_ne (ne_of_none y2 nF)).trans y2
end
section
variable {X : Cx}
def tLamV (T : List (Addr × Str)) (F : Addr → LE) (d : Option Int) : TE := fun σ H Q => Tabs T H ∧ ∀ (f : Addr) (H1 : Hp), ExtN H H1 → Tabs T H1 → H f = none → LamK H1 f F d → Q (.ref f) H1
theorem pe_lamV0 {T : List (Addr × Str)} {c P : Addr} {params : Arguments} {body : Expr} {scope : Scope} {pos : Pos} (TB : TabB X.base X.mg c P) (hcode : X.env.code = .ref c)
    (hm : (P, X.env.qual ++ "<lambda>") ∈ T) (hu : ∀ p ∈ T, p.1 = P → p.2 = X.env.qual ++ "<lambda>") (hdef : defaultsOf params X.env = ([], [])) (hfree : ∀ y ∈ scope.names, y.2 = .free → X.env.scope.names.lookup y.1 = some .cell ∨ X.env.scope.names.lookup y.1 = some .free) :
    PE X (.Lambda params body scope pos) (tLamV T (leOf X.env.cells X.env.qual params body scope) none) := by
  refine ⟨fun pins s σ H Q I ⟨hT, h⟩ => (pe_lamE (T := T) (mk := leOf X.env.cells X.env.qual params body scope) TB hcode hm hu hdef hfree (fun _ => rfl)).run pins s σ H Q I ⟨hT, fun f c' H1 e T1 hf h1 h2 => h f H1 e T1 hf ⟨c', h1, h2⟩⟩⟩
theorem pe_lamV1 {T : List (Addr × Str)} {c P : Addr} {params : Arguments} {body : Expr} {scope : Scope} {pos p0 : Pos} {i0 : Int} {j0 : Nat} (TB : TabB X.base X.mg c P) (hcode : X.env.code = .ref c)
    (hm : (P, X.env.qual ++ "<lambda>") ∈ T) (hu : ∀ p ∈ T, p.1 = P → p.2 = X.env.qual ++ "<lambda>") (hdef : defaultsOf params X.env = ([eval (.Constant (.int i0) j0 p0) X.env], [])) (hfree : ∀ y ∈ scope.names, y.2 = .free → X.env.scope.names.lookup y.1 = some .cell ∨ X.env.scope.names.lookup y.1 = some .free) :
    PE X (.Lambda params body scope pos) (tLamV T (leOf X.env.cells X.env.qual params body scope) (some i0)) := by
  constructor
  rintro pins s σ H Q I ⟨hT, h⟩
  have hfr : ∀ y ∈ scope.names, y.2 = .free → ∃ c, X.env.cells.lookup y.1 = some c := fun y hy e => (hfree y hy e).elim (fun z => I.ok.has _ (.inl z)) fun z => I.ok.has _ (.inr z)
  rw [arm_eval_Lambda, hdef]
  show wpAny _ _ (do let dv ← evalAll [eval (.Constant (.int i0) j0 p0) X.env]; let kdv ← holding dv (evalAllOpt []); makeFunction "<lambda>" (X.env.qual ++ "<lambda>") params (.expr body) scope X.env dv kdv [] pos pos.line) _ X.xe s
  refine wpAny_bind (wpAny_bind (thn ((pe_int (X := X) (i := i0) (j := j0) (pos := p0)).run pins s σ H (fun v H' => v = .int i0 ∧ H' = H) I ⟨rfl, rfl⟩) fun u s1 ⟨v, H1, I1, r1, ev, eH⟩ => ?_))
  subst ev
  rw [eH] at I1
  obtain ⟨t0, rfl⟩ := r1
  refine wpAny_bind (wpAny_holding (wpAny_pure (wpAny_pure (wpAny_bind (wpAny_holding (wpAny_pure ?_))))))
  rw [makeFunction_eq]
  simp only [List.zip_nil_right, List.filterMap_nil, List.isEmpty_nil, List.isEmpty_cons, Bool.false_eq_true, if_false, if_true, pure_bind]
  refine wpAny_bind (wpAny_newTextTuple ?_)
  have nD : H s1.heap.objs.size = none := I1.hok.fresh (Nat.le_refl _)
  have I2 : Inv X pins σ (upd H s1.heap.objs.size (TupI s1.heap.objs.size i0)) { s1 with heap := s1.heap.push { cls := .type "tuple", data := .seq [Value.int i0 t0].toArray } } := by
    refine I1.laid (t' := s1.toks) (fun b o e => Heap.get?_push_of_some _ e) (Nat.le_refl _) ?_
    have e : (s1.heap.push { cls := .type "tuple", data := .seq [Value.int i0 t0].toArray }).get? s1.heap.objs.size = some { cls := .type "tuple", data := .seq #[.int i0 t0] } := Heap.get?_push_size _ rfl
    exact ⟨⟨t0, e⟩, ⟨_, e⟩, fun h1 h2 ⟨t, z⟩ st => ⟨t, st _ z⟩⟩
  generalize s1.heap.objs.size = D at nD I2 ⊢
  have s2 := Same.new (Same.refl H) nD (o := TupI D i0)
  have eD : (upd H D (TupI D i0)) D = some (TupI D i0) := upd_same
  generalize upd H D (TupI D i0) = H2 at I2 s2 eD
  have e2 : ExtN H H2 := fun b o e _ => s2 _ _ e
  refine lamE_tail I2 TB hcode hm hu (hT.ext s2) hfr fun f c' H3 s' I3 e3 T3 hf h1 h2 => ?_
  exact ⟨.ref f, H3, I3, rfl, h f H3 (e2.trans e3) T3 (by cases q : H f with | none => rfl | some o => rw [s2 _ _ q] at hf; cases hf) ⟨c', ⟨D, h1, e3 _ _ eD fun ps z => by unfold TupI at z; cases z⟩, h2⟩⟩
end
end Om

/-! a lambda kept in a list is called: by a def that gets it, in a list comprehension of its maker -/
namespace Om
open PySem PySem.Spec PyProof.Rows L2 LamX NdefX
theorem clauseL_loop {X : Cx} (hc : X.calm = true) (hxe : ∀ e s, ¬ X.xe e s) {elt : Expr} {cs : List Comprehension} {scope : Scope} {pos : Pos} {node : Expr} (en : node = .ListComp elt cs scope pos) {k : Nat} {tg iter : Expr} {ifs : List Expr} {it : Addr} {acc : Value} {act : Sem PySem.Fin → Sem PySem.Fin} {R : PySem.Result → Shared → Prop}
    (hturn : compTurn node k (.ref it) acc X.env = clauseTurn node k tg iter ifs (.ref it) acc X.env act)
    {pins : List (Addr × Obj)} {σ0 : L2.St} {fp : List Addr} {tn : Nat → Heap → Prop} {J : It} (T : Turn X.prog X.w X.K tg J fp it tn) {g : TG} {tt : TT} (pg : PG X tg g) (pt : PTs X ifs tt)
    (stat : ∀ {H' : Hp}, (∀ b ∈ fp, H' b = none) → ∀ b ∈ fp, FpOk X pins H' b)
    {Fin : Hp → Prop} {ok : L2.St → Prop} {Body : L2.St → Hp → (Hp → Prop) → Prop}
    (body : ∀ {σ2 : L2.St} {Hx : Heap} {s : Shared} {H : Hp} {Nx : Hp → Prop}, ok σ2 → Inv X (pins ++ pinsAt fp Hx) σ2 H s → Body σ2 H Nx → ∀ (kont : Sem PySem.Fin) (P : PySem.Fin → Shared → Prop) (E : Value → Shared → Prop), (∀ s', (∃ σ' H', Inv X (pins ++ pinsAt fp Hx) σ' H' s' ∧ Knows σ0 σ' ∧ Nx H') → wpAny (model X.prog X.w) X.A kont P E s') → wpAny (model X.prog X.w) X.A (act kont) P E s)
    (hok : ∀ {σ2 : L2.St}, ok σ2 → Knows σ0 σ2) {W : Nat → Nat → Hp → Prop}
    (turn : ∀ i m H, W i m H → (J.stop i H ∧ Fin H) ∨ (J.go i H ∧ ∃ Nx : Hp → Prop, (∀ H', Nx H' → ∃ m', m' < m ∧ W (i + 1) m' H') ∧ ∀ x H', J.yld i H x H' → g x σ0 H' fun σ2 H2 => ok σ2 ∧ tt σ2 H2 fun b H3 => if b = true then Body σ2 H3 Nx else Nx H3))
    (hend : ∀ H' s', Inv X pins σ0 H' s' → Fin H' → R (.ok .next) s')
    {s : Shared} {H : Hp} {m0 : Nat} (I : Inv X pins σ0 H s) (st : tn 0 s.heap) (nfp : ∀ b ∈ fp, H b = none) (w0 : W 0 m0 H) :
    codeAny (model X.prog X.w) X.A (.compLoop node k (.ref it) acc X.env) R s := by
  subst en
  refine codeAny_loop rfl (fun n s' => ∃ i H', Inv X pins σ0 H' s' ∧ tn i s'.heap ∧ (∀ b ∈ fp, H' b = none) ∧ W i n H') ?_ m0 ⟨0, H, I, st, nfp, w0⟩
  rintro n s5 ⟨i, H5, I5, st5, n5, w5⟩
  show wpAny _ X.A ((compTurn (.ListComp elt cs scope pos) k (.ref it) acc X.env).onRaise (fun x => do noteFrame x X.env; theTreesLotGoes x)) _ _ s5
  refine wpAny_noted ?_
  rw [hturn]
  unfold clauseTurn
  refine wpAny_bind (wpAny_standAt (wpAny_bind ?_))
  rcases turn i n H5 w5 with ⟨stop, qq⟩ | ⟨go, Nx, hNx, step⟩
  · refine thnF (T.done X rfl rfl rfl hc i pins s5 σ0 H5 (fun _ _ => False) I5 (stat n5) st5 stop) fun r s6 ⟨hr, I6⟩ => ?_
    subst hr
    exact wpAny_pure (hend H5 s6 I6 qq)
  · refine thnF (T.item X rfl rfl rfl hc i pins s5 σ0 H5 (fun _ _ => False) I5 (stat n5) st5 go) fun r s6 ⟨u, hr, h6⟩ => ?_
    subst hr
    dsimp only
    refine wpAny_bind (thnF h6 fun _ s7 ⟨x, H7, I7, r7, y7, st7, n7⟩ => ?_)
    have I7' := I7.pinned (stat n7) (T.obj _ _ st7)
    have fin : ∀ {σ' : L2.St} {s' : Shared} {H' : Hp}, Inv X (pins ++ pinsAt fp s7.heap) σ' H' s' → Knows σ0 σ' → Nx H' → ∃ m, m < n ∧ ∃ i H', Inv X pins σ0 H' s' ∧ tn i s'.heap ∧ (∀ b ∈ fp, H' b = none) ∧ W i m H' := fun {σ' s' H'} I' kn nx => by
      obtain ⟨m', hm, w'⟩ := hNx H' nx
      have held : ∀ b ∈ fp, ∀ o, s7.heap.get? b = some o → s'.heap.get? b = some o ∧ H' b = none := fun b hb o e =>
        ⟨(I'.pin (b, o) (List.mem_append_right _ (List.mem_append_right _ (mem_pinsAt hb e)))).1, (I'.pin (b, o) (List.mem_append_right _ (List.mem_append_right _ (mem_pinsAt hb e)))).2.1⟩
      refine ⟨m', hm, i + 1, H', I'.unpinned.weak kn.1 kn.2, T.keep _ _ _ st7 fun b hb o e => (held b hb o e).1, fun b hb => ?_, w'⟩
      obtain ⟨o, e, _⟩ := T.obj _ _ st7 b hb
      exact (held b hb o e).2
    refine wpAny_bind (thnE hxe (pg.run _ s7 σ0 H7 x u _ I7' r7 (step x H7 y7)) fun _ s8 ⟨σ8, H8, I8, k8, q8⟩ => ?_)
    refine wpAny_bind (thnE hxe (pt.run _ s8 σ8 H8 _ I8 q8) fun b s9 ⟨H9, I9, q9⟩ => ?_)
    cases b with
    | false => exact wpAny_pure ⟨rfl, fin I9 (hok k8) q9⟩
    | true => exact body k8 I9 q9 _ _ _ fun s' ⟨σ', H', I', kn, nx⟩ => wpAny_pure ⟨rfl, fin I' kn nx⟩
section
variable {X : Cx}
/-- [elt for target in iter if ..], the element read with what the maker knows -/
def tLcV (wi : L2.TI) (g : TG) (tt : TT) (te : L2.St → TE) (vs : List Nat) : TE := fun σ H Q => wi σ H fun J H1 => ∀ D, H1 D = none → ∃ W : Nat → Nat → Hp → Prop, (∃ m, W 0 m (upd H1 D (.lst []))) ∧
  Wlk J W (fun H => Q (.ref D) H) fun x H' Nx => g x (wipe σ vs) H' fun σ2 H2 => wipe σ2 vs = wipe σ vs ∧ tt σ2 H2 fun b H3 => if b = true then (te σ σ2 H3 fun y H4 => ∃ acc, H4 D = some (.lst acc) ∧ acc.length < sizeLine ∧ Nx (upd H4 D (.lst (acc ++ [y])))) else Nx H3
/-- an expression in a block of X, which knows what X knew -/
structure PEV (X Y : Cx) (e : Expr) (te : L2.St → TE) : Prop where
  run : ∀ (pins : List (Addr × Obj)) (σ : L2.St), (∀ {pinsY : List (Addr × Obj)} {σY : L2.St} {H : Hp} {s : Shared}, Inv Y pinsY σY H s → Inv X pins σ H s) → ∀ (pinsY : List (Addr × Obj)) (s : Shared) (σY : L2.St) (H : Hp) (Q : VK), Inv Y pinsY σY H s → te σ σY H Q →
    wpAny (model Y.prog Y.w) Y.A (eval e Y.env) (EP Y pinsY σY Q) Y.xe s
theorem pe_lcV {elt tg iter : Expr} {ifs : List Expr} {scope : Scope} {own : List (Str × Nat)} {pos : Pos} {wi : L2.TI} {g : TG} {tt : TT} {te : L2.St → TE} (hc : X.calm = true) (hN : X.N.Nodup) (hi : PI X tg iter wi) (ok : BlkOk X.N X.env.scope scope own)
    (hg : BlkX X scope fun Y => PG Y tg g) (ht : BlkX X scope fun Y => PTs Y ifs tt) (he' : BlkX X scope fun Y => PEV X Y elt te) (hs : ∀ x, foldedSetIterable iter X.env x = pure x := by intro _; rfl) :
    PE X (.ListComp elt [⟨tg, iter, ifs, 0⟩] scope pos) (tLcV wi g tt te (ownS own)) := by
  have he := fun s H C cl fp => (he' s H C cl fp).run
  refine ⟨fun pins s σ H Q I h => ?_⟩
  rw [eval_ListComp]
  have cells : ∀ y ∈ scope.names, y.2 = .free → ∃ c, X.env.cells.lookup y.1 = some c := fun y hy e => (ok.free y hy e).elim (fun k => I.ok.has _ (.inl k)) fun k => I.ok.has _ (.inr k)
  refine wpAny_comprehension_free rfl hs (closure_ok cells) ok.kind (fun y hy e => by rw [ok.uniq y hy, e])
    (thn (hi.run pins s σ H _ I h) fun xv s1 hx => thn hx fun itv s2 h2 => ?_)
  obtain ⟨it, fp, tn, J, H2, rfl, I2, T, st2, f2, q⟩ := h2
  refine wpAny_newObj_type (newEnv_comp ?_) (by show 0 ≤ sizeLine; decide)
  have hn2 : H2 s2.heap.objs.size = none := I2.hok.fresh (Nat.le_refl _)
  obtain ⟨W, ⟨m0, w0⟩, wlk⟩ := q _ hn2
  have I3 : Inv X pins σ (upd H2 s2.heap.objs.size (.lst [])) { s2 with heap := s2.heap.push { cls := .type "list", data := .seq ([] : List Value).toArray } } :=
    I2.laid (t' := s2.toks) (fun b o e => Heap.get?_push_of_some _ e) (Nat.le_refl _) ⟨Nat.zero_le _, [], 0, .nil, Heap.get?_push_size _ rfl⟩
  have below : ∀ b ∈ fp, b < s2.heap.objs.size := fun b hb => by
    obtain ⟨o, e, _⟩ := T.obj _ _ st2 b hb
    exact Heap.lt_size e
  have st3 : tn 0 (s2.heap.push { cls := .type "list", data := .seq ([] : List Value).toArray }) := T.keep _ _ _ st2 fun b _ o e => Heap.get?_push_of_some _ e
  have f3 : ∀ b ∈ fp, FpOk X pins (upd H2 s2.heap.objs.size (.lst [])) b ∧ b < (s2.heap.push { cls := .type "list", data := .seq ([] : List Value).toArray }).objs.size := fun b hb =>
    ⟨⟨by rw [upd_ne (Nat.ne_of_lt (below b hb))]; exact (f2 b hb).1, (f2 b hb).2⟩, by rw [Heap.size_push]; exact Nat.lt_succ_of_lt (below b hb)⟩
  generalize hS3 : ({ s2 with heap := s2.heap.push { cls := .type "list", data := .seq ([] : List Value).toArray } } : Shared) = s3 at I3
  have hh3 : s2.heap.push { cls := .type "list", data := .seq ([] : List Value).toArray } = s3.heap := by rw [← hS3]
  rw [hh3] at st3 f3
  generalize s2.heap.objs.size = D at I3 f3 w0 wlk hn2 ⊢
  generalize hH3 : upd H2 D (.lst []) = H3 at I3 f3 w0
  have I4 := block_start I3 ok hN f3
  have st4 : tn 0 (pushCells (s3.heap.push { cls := .type "dict", data := .dict #[] }) scope.names) := T.keep _ _ _ st3 fun b _ o e => pushCells_keeps _ _ _ _ (Heap.get?_push_of_some _ e)
  have nfp : ∀ b ∈ fp, H3 b = none := fun b hb => (f3 b hb).1.1
  have back : ∀ H5 s6, Inv (X.blk s3 H3 scope (compEnvC scope (cellsFrom (s3.heap.objs.size + 1) scope.names (cloFrom X.env.cells scope.names [])) s3.heap.objs.size X.env) fp) [] (wipe σ (ownS own)) H5 s6 → Q (.ref D) H5 →
      compPost (model X.prog X.w) X.A X.xe none (EP X pins σ Q) (.ref D) s3.heap.objs.size (.ok .next) s6 := fun H5 s6 I6 qq => by
    have I7 : Inv X pins σ H5 s6 := I3.call' (ch := fp) I6.os I6.base I6.hok I6.bare fun b hb => ⟨(f3 b hb).1.2.2.2.1, (f3 b hb).1.2.1, (f3 b hb).1.2.2.2.2.1, (f3 b hb).1.2.2.2.2.2⟩
    have nC : H5 s3.heap.objs.size = none := I6.free
    obtain ⟨m, hn, _⟩ := I6.loc
    obtain ⟨f0, f1, f2, f3', f4, f5⟩ := I3.fpOk (Nat.le_refl _) nC
    exact ⟨m, hn, fun h'' sb => ⟨.ref D, H5, I7.turned (t' := s6.toks) (fun b o hb e => (sb.2 b hb).trans e) f0 f1 f3' f4 f5, rfl, qq⟩⟩
  show codeAny _ _ (.compStart (.ListComp elt [⟨tg, iter, ifs, 0⟩] scope pos) 0 (.ref it) (.ref D) (compEnvC scope (cellsFrom (s3.heap.objs.size + 1) scope.names (cloFrom X.env.cells scope.names [])) s3.heap.objs.size X.env)) (compPost (model X.prog X.w) X.A X.xe none (EP X pins σ Q) (.ref D) s3.heap.objs.size) { s3 with heap := pushCells (s3.heap.push { cls := .type "dict", data := .dict #[] }) scope.names }
  have L : codeAny (model X.prog X.w) X.A (.compLoop (.ListComp elt [⟨tg, iter, ifs, 0⟩] scope pos) 0 (.ref it) (.ref D) (compEnvC scope (cellsFrom (s3.heap.objs.size + 1) scope.names (cloFrom X.env.cells scope.names [])) s3.heap.objs.size X.env)) (compPost (model X.prog X.w) X.A X.xe none (EP X pins σ Q) (.ref D) s3.heap.objs.size) { s3 with heap := pushCells (s3.heap.push { cls := .type "dict", data := .dict #[] }) scope.names } := by
    generalize cellsFrom (s3.heap.objs.size + 1) scope.names (cloFrom X.env.cells scope.names []) = cl at I4 back ⊢
    generalize s3.heap.objs.size = C at I4 back ⊢
    exact clauseL_loop (X := X.blk s3 H3 scope (compEnvC scope cl C X.env) fp) hc (fun _ _ h => h) rfl (iter := iter)
      (act := fun kont => ((do let _ ← call (.builtin "list.append") [.ref D, ← eval elt (compEnvC scope cl C X.env)] : Sem Unit)) >>= fun _ => kont)
      (compTurn_list ..) T (hg s3 H3 C cl fp) (ht s3 H3 C cl fp)
      (fun hn b hb => ⟨hn b hb, (I4.ok.exf b hb).1, I4.ok.exfs b hb, .inl hb, fun x c e => (I4.ok.exf b hb).2 x c e, fun p hp => absurd (show p ∈ ([] : List (Addr × Obj)) ++ [] from hp) (by simp)⟩)
      (ok := fun σ2 => wipe σ2 (ownS own) = wipe σ (ownS own))
      (Body := fun σ2 H3 Nx => te σ σ2 H3 fun y H4 => ∃ acc, H4 D = some (.lst acc) ∧ acc.length < sizeLine ∧ Nx (upd H4 D (.lst (acc ++ [y]))))
      (body := fun {σ2 Hx s H Nx} o I2 b kont P E hk' => by
        refine wpAny_bind (wpAny_bind (thnE (fun _ _ h => h) (he s3 H3 C cl fp pins σ (fun {pinsY σY H5 s6} I6 => I3.call' (ch := fp) I6.os I6.base I6.hok I6.bare fun b hb => ⟨(f3 b hb).1.2.2.2.1, (f3 b hb).1.2.1, (f3 b hb).1.2.2.2.2.1, (f3 b hb).1.2.2.2.2.2⟩) _ s σ2 H _ I2 b) fun z s1 ⟨y, H1, I1, r1, acc, hD, hz, nx⟩ => ?_))
        exact wpAny_bind (app_ok (X := X.blk s3 H3 scope (compEnvC scope cl C X.env) fp) I1 hD hz r1 fun s' I' => wpAny_pure (hk' s' ⟨σ2, _, I', knows_wipe o, nx⟩)))
      knows_wipe wlk back I4 st4 nfp w0
  exact codeAny_compStart_list L (T.self X.A 0 _ _ _ st4 L)
end
end Om

namespace Om
open PySem PySem.Spec PyProof.Rows L2 LamX NdefX
/-- how a lambda of X's takes its default, when it is called with nothing -/
structure LamW (X : Cx) (params : Arguments) (body : Expr) (scope : Scope) (d : Option Int) : Prop where
  ex : ∃ xs, LamG X.N X.env.scope scope xs ∧ match d with
    | none => ∀ (q : Str) (cl : List (Str × Addr)) (pm : Value) (c' : Addr) (ctv : Value), bindArgs (lamFd q params body scope cl pm c' ctv .none) ⟨[], []⟩ = pure []
    | some _ => ∃ y, y ∈ xs ∧ ∀ (q : Str) (cl : List (Str × Addr)) (pm : Value) (c' : Addr) (ctv : Value) (D : Addr) (v : Value), ∃ kk : Option (Array Value) → Sem (List (Str × Value)), bindArgs (lamFd q params body scope cl pm c' ctv (.ref D)) ⟨[], []⟩ = seqItems? (.ref D) >>= kk ∧ kk (some #[v]) = pure [(y, v)]
section
variable {X : Cx} {pins : List (Addr × Obj)} {σ : L2.St} {H HZ : Hp} {s s1 : Shared}
theorem binds_of {f : Addr} {d : Option Int} {params : Arguments} {body : Expr} {scope : Scope} {cells : List (Str × Addr)} {q : Str} {c' : Addr} (L : LamW X params body scope d) (hok : HOk X.prog X.w HZ s1.heap) (h : LamAt HZ f (leOf cells q params body scope c') d) :
    ∃ (pm ctv dV : Value) (binds : List (Str × Value)) (xs : List Str), s1.heap.get? f = some (lamOb (q ++ "<lambda>") params body scope (cloFrom cells scope.names []) pm c' ctv dV) ∧ LamG X.N X.env.scope scope xs ∧ (∀ y ∈ binds, y.1 ∈ xs) ∧
      BindsTo s1 (lamFd (q ++ "<lambda>") params body scope (cloFrom cells scope.names []) pm c' ctv dV) ⟨[], []⟩ binds := by
  obtain ⟨xs, g, b⟩ := L.ex
  cases d with
  | none =>
    obtain ⟨pm, ctv, ho⟩ := (hok f _ h).1
    exact ⟨pm, ctv, .none, [], xs, ho, g, (fun y hy => by cases hy), BindsTo.of_eq (b _ _ _ _ _)⟩
  | some i =>
    obtain ⟨D, h1, h2⟩ := h
    obtain ⟨pm, ctv, ho⟩ := (hok f _ h1).1
    obtain ⟨t0, hD⟩ := (hok D _ h2).1
    obtain ⟨y, hy, b⟩ := b
    obtain ⟨kk, z1, z2⟩ := b (q ++ "<lambda>") (cloFrom cells scope.names []) pm c' ctv D (.int i t0)
    refine ⟨pm, ctv, .ref D, [(y, .int i t0)], xs, ho, g, (fun z hz => by rw [List.mem_singleton.mp hz]; exact hy), ?_⟩
    intro M A' E2 Q2 hq
    rw [z1]
    refine wpAny_bind (wpAny_seqItems hD rfl ?_)
    rw [z2]
    exact wpAny_pure hq
/-- x(), in the def that got the lambda (in slot 0) -/
theorem pe_actV {CXg : CXT} {Eg : XK} {Ng : List Str} {qg : Str} {sg : Scope} {g f : Addr} {cdg : Value} {params : Arguments} {body : Expr} {scope : Scope} {d : Option Int} {k : Nat} {a : Str} {pn : List (Addr × Obj)} {xe : Value → Shared → Prop} {W : WX} {tb : XK → TE} {p1 p2 : Pos}
    (I : Inv X pins σ H s) (L : LamW X params body scope d)
    (tk : Takes ((cxOf CXg X.prog X.w X.K X.mg X.base Ng qg sg g cdg X.A X.stack s H Eg).tr pn xe) W) (hr : Room (k + 1) (X.A.deeper (envOfC qg sg s.heap.objs.size g cdg)))
    (hbody : ∀ (A : Around) (outer : List Env) (s : Shared) (H : Hp) (E : XK) (f c' : Addr), Room k (A.deeper (lamEnv X scope s.heap.objs.size f c')) → PE (lamCx X A outer s H E scope f c') body (tb E))
    (hN : Ng[0]? = some a) (hv : Vis sg a) (hd : (a == ("__debug__" : Str)) = false := by decide) (hcd : (a == ("__classdict__" : Str)) = false := by decide) :
    PE ((cxOf CXg X.prog X.w X.K X.mg X.base Ng qg sg g cdg X.A X.stack s H Eg).tr pn xe) (.Call (.Name a p1) [] [] p2)
      (fun σZ HZ Q => σZ[0]? = some (some (.ref f)) ∧ LamK HZ f (leOf X.env.cells X.env.qual params body scope) d ∧ ∃ E : XK, (∀ cls d H', E cls d H' → W cls d σZ H') ∧ tb E σ HZ Q) := by
  constructor
  rintro pinsZ sZ σZ HZ Q IZ ⟨hs, ⟨c', hf, hc⟩, E, hW, ht⟩
  refine wpAny_Call_Name_kw (thn ((pe_var (pos := p1) (i := 0) hN hv hd hcd).run pinsZ sZ σZ HZ (fun v H1 => v = .ref f ∧ H1 = HZ) IZ ⟨.ref f, hs, rfl, rfl⟩) fun u s1 ⟨v, H1, I1, r1, ev, eH⟩ => ?_)
  subst ev
  rw [eH] at I1
  obtain rfl : u = Value.ref f := r1
  obtain ⟨pm, ctv, dV, binds, xs, of1, G, hbx, hbn⟩ := binds_of L I1.hok hf
  have un : Un (frs X.stack) [] H HZ s.heap s1.heap := I1.base
  obtain ⟨⟨oc, vs, t, y1, y2, y3⟩, _, _⟩ := I1.hok c' _ hc
  have called : codeAny (model X.prog X.w) (X.A.deeper (envOfC qg sg s.heap.objs.size g cdg)) (.call (.ref f) ⟨[], []⟩) (CR (L2.CX X.prog X.w) (envOfC qg sg s.heap.objs.size g cdg :: X.stack) X.prog X.w HZ s1 Q E) s1 := by
    refine PySem.W.kla_callFunE hr.depth of1 rfl G.co G.gen rfl ⟨c', oc, vs, t, rfl, y1, y2, y3⟩ (hbn _ _ _ _ (wpAny_newFunctionEnv (fun y hy => (G.own y hy).1) (fun y hy => G.par _ (hbx y hy)) (fun h1 hns hsb => ⟨I1.nolimit.fresh _ hsb, ?_⟩) G.kind))
    have kp : ∀ b o, s1.heap.get? b = some o → h1.get? b = some o := fun b o e => hsb.extBut b o (Nat.ne_of_lt (Heap.lt_size e)) (Heap.get?_push_of_some _ e)
    have J : Inv (lamCx X (X.A.deeper (envOfC qg sg s.heap.objs.size g cdg)) (envOfC qg sg s.heap.objs.size g cdg :: X.stack) s1 HZ E scope f c') [] σ HZ { s1 with heap := h1, toks := s1.toks + binds.length } := lam_startG I G I1.env0 hr.hd un hns kp
    refine PySem.W.kla_codeExpr (wpAny_mono ((hbody _ _ s1 HZ E f c' (hr.deeper _)).run [] _ _ HZ Q J ht) (fun v s' ⟨w', H', J', rv, q⟩ => ⟨w', H', J'.os, J'.bare, J'.base, J'.hok, rv, q⟩) fun e s' hq => hq)
  refine PySem.W.callWith_F0 ⟨_, _, _, _, of1⟩ (wpAny_call (codeAny_mono called fun r s' hq => ?_))
  match r, hq with
  | .error e, hq => exact tk _ _ (XE.of_call I1 hW hq)
  | .ok (.ret u), hq => exact I1.after hq
  | .ok .next, hq => exact False.elim hq
  | .ok .brk, hq => exact False.elim hq
  | .ok .cont, hq => exact False.elim hq
end
/-- the def at g calls what it got (in slot 0, its name a); CO: what is known of it; TT: what the def makes of its reading -/
def GivesV (X : Cx) (Ng : List Str) (x : Str) (sg : Scope) (g : Addr) (cdg : Value) (bg : List Stmt) (a : Str) (TT : (XK → Hp → VK → Prop) → Hp → VK → Prop) : Prop :=
  ∀ (f : Addr) (s : Shared) (H : Hp) (Q : VK) (CO : Hp → Prop) (tl : XK → Hp → VK → Prop),
    (∀ (W : WX) (pn : List (Addr × Obj)) (xe : Value → Shared → Prop) (p1 p2 : Pos), Takes ((cxOf L2.CX0 X.prog X.w X.K X.mg X.base Ng x sg g cdg X.A X.stack s H L2.E0).tr pn xe) W →
      PE ((cxOf L2.CX0 X.prog X.w X.K X.mg X.base Ng x sg g cdg X.A X.stack s H L2.E0).tr pn xe) (.Call (.Name a p1) [] [] p2) (fun σZ HZ Q => σZ[0]? = some (some (.ref f)) ∧ CO HZ ∧ ∃ E : XK, (∀ cls d H', E cls d H' → W cls d σZ H') ∧ tl E HZ Q)) →
    CO H → Room 2 (X.A.deeper (envOfC x sg s.heap.objs.size g cdg)) → TT tl H Q →
    ∃ t, PSs (cxOf L2.CX0 X.prog X.w X.K X.mg X.base Ng x sg g cdg X.A X.stack s H L2.E0).nox bg t ∧ t { nx := fun _ H' => Q .non H', rt := Q } (L2.start Ng [.ref f]) H
/-- a lambda of X's, what it is known by and what its body reads -/
structure LamB (X : Cx) (k : Nat) (params : Arguments) (body : Expr) (scope : Scope) (d : Option Int) (tb : XK → TE) : Prop where
  w : LamW X params body scope d
  run : ∀ (A : Around) (outer : List Env) (s : Shared) (H : Hp) (E : XK) (f c' : Addr), Room k (A.deeper (lamEnv X scope s.heap.objs.size f c')) → PE (lamCx X A outer s H E scope f c') body (tb E)
/-- some lambdas of X's: each reads by its own tb -/
structure LamJ where
  params : Arguments
  body : Expr
  scope : Scope
  d : Option Int
  tb : XK → TE
section
variable {X : Cx}
def tGiveV (X : Cx) (js : List LamJ) (TT : (XK → Hp → VK → Prop) → Hp → VK → Prop) (i : Nat) : L2.St → TE := fun σ σY H Q => ∃ (f : Addr) (j : LamJ), σY[i]? = some (some (.ref f)) ∧ j ∈ js ∧ LamK H f (leOf X.env.cells X.env.qual j.params j.body j.scope) j.d ∧ TT (fun E H' Q' => j.tb E σ H' Q') H Q
theorem pev_give {js : List LamJ} {TT : (XK → Hp → VK → Prop) → Hp → VK → Prop} {x y a : Str} {g : Addr} {k i : Nat} {pg : Arguments} {bg : List Stmt} {sg : Scope} {dG kG doc pmg cdg ctg oc : Value} {an od : Option Addr} {osl : Array (Option Value)} {Ng : List Str} {p py pos : Pos}
    {s0 : Shared} {H0 : Hp} {scope : Scope} {cenv : Env} {fp : List Addr}
    (hg : Gl (X.blk s0 H0 scope cenv fp) x) (hm : X.mg x = some (.ref g)) (hk : PySem.W.keepIn X.K (.ref g) = true)
    (lk : X.K.lookup g = some ⟨oc, od, .func (PySem.W.fnOf x x pg bg sg dG kG doc pmg an cdg ctg), osl⟩) (hcg : PySem.W.codeIn X.K cdg x = true) (hb : L2.Binds X.K (PySem.W.fnOf x x pg bg sg dG kG doc pmg an cdg ctg) [a] []) (Sg : FnScope Ng [a] sg) (hNg : Ng[0]? = some a) (hva : Vis sg a)
    (hG : GivesV X Ng x sg g cdg bg a TT) (hr : Room (k + 2) X.A) (hr3 : Room 3 X.A) (hL : ∀ j ∈ js, LamB X k j.params j.body j.scope j.d j.tb) (hN : X.N[i]? = some y) (hv : Vis cenv.scope y)
    (hdb : (x == ("__debug__" : Str)) = false := by decide) (hd : (a == ("__debug__" : Str)) = false := by decide) (hcd : (a == ("__classdict__" : Str)) = false := by decide) (hd2 : (y == ("__debug__" : Str)) = false := by decide) (hcd2 : (y == ("__classdict__" : Str)) = false := by decide)
    (he : starEach [Expr.Name y py] cenv = (false, eval (.Name y py) cenv) :: starEach [] cenv := by rfl) (hpl : (backTo pos (starEach [] cenv)).any (·.1) = false := by rfl) :
    PEV X (X.blk s0 H0 scope cenv fp) (.Call (.Name x p) [.Name y py] [] pos) (tGiveV X js TT i) := by
  constructor
  rintro pins σ back pinsY s σY H Q IY ⟨f, j, hs, hj, hf, hT⟩
  refine wpAny_Call_Name_kw (ld_glob IY hg hm ?_ hdb)
  refine PySem.W.callWith_K (h₀ := X.base) IY.ok.mod.kin hk (thn ((pa_cons (pe_var (X := X.blk s0 H0 scope cenv fp) (pos := py) hN hv hd2 hcd2) pa_nil).run pos pinsY s σY H (fun vs H1 => vs = [.ref f] ∧ H1 = H) IY ⟨.ref f, hs, rfl, rfl⟩) fun us s1 ⟨vs, H1, I1, r, ev, eH⟩ => ⟨I1.kIn, ?_⟩) he hpl
  subst ev
  rw [eH] at I1
  cases r with
  | cons r1 rr =>
    cases rr
    obtain rfl := r1
    have I := back I1
    have called : codeAny (model X.prog X.w) X.A (.call (.ref g) ⟨[.ref f], []⟩) (CR L2.CX0 X.stack X.prog X.w H s1 Q L2.E0) s1 := by
      refine run_ofS (k := k + 1) (N := Ng) (ps := [a]) (us := [.ref f]) (vs := [.ref f]) lk hcg Sg hr I1.env0 (hb s1 [.ref f] I1.kIn rfl) (.cons rfl .nil) rfl fun hr' => ?_
      obtain ⟨t', z1, z2⟩ := hG f s1 H Q (fun H' => LamK H' f (leOf X.env.cells X.env.qual j.params j.body j.scope) j.d) (fun E H' Q' => j.tb E σ H' Q') (fun W pn xe p1 p2 tk => pe_actV I (hL j hj).w tk hr' (hL j hj).run hNg hva hd hcd) hf (hr3.deeper _) hT
      exact ⟨t', z1.nox, z2⟩
    refine wpAny_call (codeAny_mono called fun r s2 hq => ?_)
    match r, hq with
    | .error e, hq => exact (show False from hq).elim
    | .ok (.ret u), hq => exact I1.after hq
    | .ok .next, hq => exact False.elim hq
    | .ok .brk, hq => exact False.elim hq
    | .ok .cont, hq => exact False.elim hq
end
end Om

namespace Om
open PySem PySem.Spec PyProof.Rows L2 LamX NdefX
/-! _law_fail -/
abbrev sFail : Stmt := top 75
structure FailF (K : PySem.W.Frag) (mg : Str → Option Value) (C : Nat → Addr) (CM : Addr) : Prop where
  gM : mg "MapError" = some (.ref CM)
  g : ∀ i, i < 4 → mg (nmF i) = some (.ref (C i))
  exm : ∀ i, i < 4 → PySem.W.exmOne K (.ref (C i)) (.ref CM) = some true
  exc : ∀ i, i < 4 → ExcC K (C i)
  kit : ∀ i j, i < 4 → j < 4 → PySem.W.kitOne K (.ref (C i)) (.ref (C j)) = some (decide (j = i))
  xf : ∀ i, i < 4 → XfC K (C i)
  noI : ∀ i, 2 ≤ i → i < 4 → PySem.W.findIn K (.ref (C i)) "index" = some none
  nst : ∀ i, i < 4 → PySem.W.subIn K (.ref (C i)) (.type "StopIteration") = some false
  gi : mg "isinstance" = none
/-- what _law_fail makes of an error -/
inductive FailOut (C : Nat → Addr) (Q : VK) : Value → Option Addr → Hp → Prop
  | mk {j : Nat} {H' : Hp} : j < 2 → (∀ H2, Same H' H2 → Q (.str (nmF j)) H2) → FailOut C Q (.ref (C j)) none H'
  | dig {j : Nat} {d : Addr} {x : V} {H' : Hp} : 2 ≤ j → j < 4 → H' d = some (.xd (xdIM x)) → (∀ p H2, H' p = none → Same H' H2 → H2 p = some (.tup [.str (nmF j), x]) → Q (.ref p) H2) → FailOut C Q (.ref (C j)) (some d) H'
def TFail (C : Nat → Addr) : (XK → Hp → VK → Prop) → Hp → VK → Prop := fun tl H Q => tl (FailOut C Q) H Q
abbrev nFail : List Str := ["_law_work", "e", "_law_kinds"]
theorem scFail : FnScope nFail ["_law_work"] (defScope sFail) := ⟨rfl, rfl, rfl, by decide +kernel, rfl, by decide +kernel, by decide +kernel⟩
def kfV (j : Nat) : List V := [.bl (decide (0 = j)), .bl (decide (1 = j)), .bl true]
def nmfV : List V := [.str (nmF 0), .str (nmF 1), .str "another"]
theorem kfV_flat (j : Nat) : (kfV j).all flatV = true := rfl
theorem kfV_at {j : Nat} (h : j < 2) : (kfV j)[j]? = some (.bl true) := by
  have e : j = 0 ∨ j = 1 := by omega
  rcases e with rfl | rfl <;> rfl
theorem kfV_ahead {j : Nat} (h : j < 2) {m : Nat} {z : V} (hm : m < j) (hz : (kfV j)[m]? = some z) : eqV z (.bl true) = false := by
  have e : j = 0 ∨ j = 1 := by omega
  have e2 : m = 0 := by omega
  subst e2
  rcases e with rfl | rfl <;> first | omega | (cases hz; rfl)
theorem nmfV_at {j : Nat} (h : j < 2) : atI nmfV ((j : Nat) : Int) = some (.str (nmF j)) := by
  have e : j = 0 ∨ j = 1 := by omega
  rcases e with rfl | rfl <;> rfl
section
variable {X : Cx} {C : Nat → Addr} {CM g : Addr} {cdg : Value}
theorem fail_gives (T : FailF X.K X.mg C CM) : GivesV X nFail "_law_fail" (defScope sFail) g cdg (defBody sFail) "_law_work" (TFail C) := by
  intro f s H Q CO tl act hc hr h
  have nd := scFail.nd
  refine ⟨_, pss_one (ps_try_as (X := (cxOf L2.CX0 X.prog X.w X.K X.mg X.base nFail "_law_fail" (defScope sFail) g cdg X.A X.stack s H L2.E0).nox) (i := 1) (c := .ref CM)
      (tb := fun W D σ H => σ[0]? = some (some (.ref f)) ∧ CO H ∧ ∃ E : XK, (∀ cls d H', E cls d H' → W cls d σ H') ∧ tl E H D.rt)
      rfl rfl nd rfl rfl ⟨rfl, by decide, .inl T.gM⟩ L2.takes0 (fun W pn xe tk _ => ?_)
      (fun a oe cls d pn hz hf =>
        pss_cons (ps_if (pt_val (pe_callB (isX_K (K := X.K) rfl hz hf) (by rfl) T.gi (by decide +kernel) (pa_cons (pv 1) (pa_cons (pe_glob (v := .ref (C 2)) rfl (T.g 2 (by decide)) rfl) pa_nil)))) (pss_one (ps_ret (pe_tup (pa_cons pe_str (pa_cons (pe_xf (T.xf 2 (by decide)) (T.noI 2 (by decide) (by decide)) hz hf (pv 1)) pa_nil))))) pss_nil)
        (pss_cons (ps_if (pt_val (pe_callB (isX_K (K := X.K) rfl hz hf) (by rfl) T.gi (by decide +kernel) (pa_cons (pv 1) (pa_cons (pe_glob (v := .ref (C 3)) rfl (T.g 3 (by decide)) rfl) pa_nil)))) (pss_one (ps_ret (pe_tup (pa_cons pe_str (pa_cons (pe_xf (T.xf 3 (by decide)) (T.noI 3 (by decide) (by decide)) hz hf (pv 1)) pa_nil))))) pss_nil)
        (pss_cons (ps_set (i := 2) nd rfl (.inl rfl) (pe_lst (pa_cons (pe_callB (isX_K (K := X.K) rfl hz hf) (by rfl) T.gi (by decide +kernel) (pa_cons (pv 1) (pa_cons (pe_glob (v := .ref (C 0)) rfl (T.g 0 (by decide)) rfl) pa_nil)))
            (pa_cons (pe_callB (isX_K (K := X.K) rfl hz hf) (by rfl) T.gi (by decide +kernel) (pa_cons (pv 1) (pa_cons (pe_glob (v := .ref (C 1)) rfl (T.g 1 (by decide)) rfl) pa_nil))) (pa_cons pe_bl pa_nil)))))
        (pss_one (ps_ret (pe_ix (ixl_K (K := X.K) rfl) (pe_lst (pa_cons pe_str (pa_cons pe_str (pa_cons pe_str pa_nil)))) (bm_KV (K := X.K) rfl PySem.F.plainAttrs_list PySem.F.slot_list_index PySem.F.type_list_index (index_K (K := X.K) rfl) (pv 2) (pa_cons pe_bl pa_nil)) (fun _ _ => rfl)))))))), ?_⟩
  · refine ⟨fun pins s' σ H' D I h' => ?_⟩
    obtain ⟨h1, h2, h3⟩ := h'
    exact (pss_one (ps_ret (act W pn xe _ _ tk))).run pins s' σ H' D I ⟨h1, h2, h3⟩
  · refine ⟨rfl, hc, FailOut C Q, fun cls d H' out => ?_, h⟩
    cases out with
    | dig h2 h4 hx k =>
      rename_i j dd x
      refine ⟨true, T.exm j h4, fun _ a ha => ?_, fun z => by cases z⟩
      have li : List.lookup ("index" : Str) (xdIM x) = some x := by unfold xdIM; rw [lookup_put, if_pos rfl]
      have e : j = 2 ∨ j = 3 := by omega
      rcases e with rfl | rfl
      · refine ⟨_, rfl, C 2, _, _, _, rfl, T.exc 2 h4, rfl, fun u r => r, T.kit 2 2 h4 h4, fun d' e => by cases e; exact ⟨_, hx⟩, _, rfl, ?_⟩
        refine iteT' (decide_eq_true rfl) ?_
        refine ⟨_, rfl, rfl, rfl, dd, _, x, rfl, hx, li, (by show 2 ≤ sizeLine; decide), fun p hp => ?_⟩
        exact k p _ hp (Same.new (Same.refl _) hp) upd_same
      · refine ⟨_, rfl, C 3, _, _, _, rfl, T.exc 3 h4, rfl, fun u r => r, T.kit 3 2 h4 (by decide), fun d' e => by cases e; exact ⟨_, hx⟩, _, rfl, iteF' rfl ?_⟩
        refine ⟨_, rfl, C 3, _, _, _, rfl, T.exc 3 h4, rfl, fun u r => r, T.kit 3 3 h4 h4, fun d' e => by cases e; exact ⟨_, hx⟩, _, rfl, ?_⟩
        refine iteT' (decide_eq_true rfl) ?_
        refine ⟨_, rfl, rfl, rfl, dd, _, x, rfl, hx, li, (by show 2 ≤ sizeLine; decide), fun p hp => ?_⟩
        exact k p _ hp (Same.new (Same.refl _) hp) upd_same
    | mk hj k =>
    rename_i j
    have hj4 : j < 4 := by omega
    have hd : ∀ (dd : Addr), (none : Option Addr) = some dd → ∃ fs, H' dd = some (.xd fs) := fun dd e => by cases e
    refine ⟨true, T.exm j hj4, fun _ a ha => ?_, fun z => by cases z⟩
    refine ⟨_, rfl, C j, _, _, _, rfl, T.exc j hj4, rfl, fun u r => r, T.kit j 2 hj4 (by decide), hd, _, rfl, iteF' (decide_eq_false (by omega)) ?_⟩
    refine ⟨_, rfl, C j, _, _, _, rfl, T.exc j hj4, rfl, fun u r => r, T.kit j 3 hj4 (by decide), hd, _, rfl, iteF' (decide_eq_false (by omega)) ?_⟩
    refine ⟨_, rfl, C j, _, _, _, rfl, T.exc j hj4, rfl, fun u r => r, T.kit j 0 hj4 (by decide), hd, _, rfl, C j, _, _, _, rfl, T.exc j hj4, rfl, fun u r => r, T.kit j 1 hj4 (by decide), hd,
      (by show 3 ≤ sizeLine; decide), fun p1 hp1 => ?_⟩
    have S1 : Same H' (upd H' p1 (.lst (kfV j))) := Same.new (Same.refl _) hp1
    have k1 : (upd H' p1 (.lst (kfV j))) p1 = some (.lst (kfV j)) := upd_same
    show (fun (Hx : Hp) => _) (upd H' p1 (.lst (kfV j)))
    generalize (upd H' p1 (.lst (kfV j))) = H1 at S1 k1 ⊢
    refine ⟨by show 3 ≤ sizeLine; decide, fun p2 hp2 => ?_⟩
    have S2 := S1.trans (Same.new (Same.refl H1) hp2 (o := .lst nmfV))
    have k2 : (upd H1 p2 (.lst nmfV)) p2 = some (.lst nmfV) := upd_same
    have k12 : (upd H1 p2 (.lst nmfV)) p1 = some (.lst (kfV j)) := Same.new (Same.refl H1) hp2 _ _ k1
    refine ⟨_, rfl, .inl ⟨rfl, _, .inl (.inl k12)⟩, p1, _, _, j, _, rfl, rfl, .inl (.inl k12), rfl, kfV_flat j, kfV_at hj, rfl, fun m z hm hz => kfV_ahead hj hm hz, ?_⟩
    refine ⟨p2, _, _, _, rfl, rfl, .inl (.inl k2), nmfV_at hj, ?_⟩
    exact k _ S2
theorem GivesV.toG {Ng : List Str} {x : Str} {sg : Scope} {bg : List Stmt} {a q : Str} {TT : (XK → Hp → VK → Prop) → Hp → VK → Prop} (h : GivesV X Ng x sg g cdg bg a TT) : GivesG X Ng x sg g cdg bg a q TT :=
  fun f c' s H Q tl act hc hr hT => h f s H Q (fun HZ => HZ c' = some (CodeO c' q)) tl act hc hr hT
end
end Om

namespace Om
open PySem PySem.Spec PyProof.Rows L2 LamX NdefX
/-! lambdas in lists -/
abbrev sLaw : Stmt := top 76
theorem SqT.ext {K : PySem.W.Frag} {H H' : Hp} {a : Addr} {xs : List V} (k : ExtN H H') (h : SqT K H a xs) : SqT K H' a xs := by
  rcases h with (h | ⟨o, h⟩) | h
  · exact .inl (.inl (k _ _ h fun ps e => by cases e))
  · exact .inl (.inr ⟨o, k _ _ h fun ps e => by cases e⟩)
  · exact .inr h
theorem Isl.ext {K : PySem.W.Frag} {CI : Addr} {H H' : Hp} {a : Addr} {rows : List (List Nat)} (h : Isl K CI H a rows) (k : ExtN H H') : Isl K CI H' a rows := by
  obtain ⟨dx, p, hp, hS⟩ := h
  exact ⟨dx, p, k _ _ hp (fun ps e => by cases e), SqT.ext k hS⟩
theorem Same.extN {H H' : Hp} (s : Same H H') : ExtN H H' := fun b o h _ => s _ _ h
theorem opCatAK {X : Cx} {K : PySem.W.Frag} (hK : X.K = K) : OpR X (binaryOp .Add) (rCatA K) := by
  subst hK
  exact op_catA
theorem tupOfK {X : Cx} {K : PySem.W.Frag} (hK : X.K = K) : CallR X (.type "tuple") (fun xs H Q => ∃ p ys, xs = [.ref p] ∧ ((SqL K H p ys ∧ ∀ l, H l = none → Q (.ref l) (upd H l (.tup ys))) ∨ (SqT K H p ys ∧ Q (.ref p) H))) := by
  subst hK
  exact call_tuple_of
def elE (e : Expr) (i : Nat) : Expr := match e with
  | .List l _ => l.getD i e
  | e => e
def binRt (e : Expr) : Expr := match e with
  | .BinOp _ _ r _ => r
  | e => e
def stArg (s : Stmt) : Expr := match s with
  | .Expr (.Call _ [e] _ _) _ => e
  | _ => .Constant .none 0 ⟨0, 0, 0, 0⟩
def lmP (e : Expr) : Arguments := match e with
  | .Lambda p _ _ _ => p
  | _ => defArgs sLaw
def lmB (e : Expr) : Expr := match e with
  | .Lambda _ b _ _ => b
  | e => e
def lmS (e : Expr) : Scope := match e with
  | .Lambda _ _ s _ => s
  | _ => defScope sLaw
theorem upd_keep {H : Hp} {wk : Addr} {xs : List V} {o' : HO} (hw : H wk = some (.lst xs)) {b : Addr} {o : HO} (h : H b = some o) (n : ∀ ys, o ≠ .lst ys) : (upd H wk o') b = some o := by
  rw [upd_ne (ne_of h hw (n _))]
  exact h
/-- what a lambda comes to -/
inductive Oc where
  | err (j : Nat)
  | dig (j i : Nat)
  | ret (v : V)
abbrev LZ := Expr × Option Int × Oc
def OcK (C : Nat → Addr) (H : Hp) (Ex : XK) (Q : VK) : Oc → Prop
  | .err j => ∀ H', Same H H' → Ex (.ref (C j)) none H'
  | .dig j i => ∀ d H', H d = none → Same H H' → H' d = some (.xd (xdIM (.int (i : Nat)))) → Ex (.ref (C j)) (some d) H'
  | .ret v => ∀ H', Same H H' → Q v H'
theorem OcK.same {C : Nat → Addr} {H H' : Hp} {Ex : XK} {Q : VK} {o : Oc} (h : OcK C H Ex Q o) (s : Same H H') : OcK C H' Ex Q o := by
  cases o with
  | err j => exact fun H2 s2 => h H2 (s.trans s2)
  | dig j i => exact fun d H2 n s2 e => h d H2 (Same.free s n) (s.trans s2) e
  | ret v => exact fun H2 s2 => h H2 (s.trans s2)
/-- a lambda of X's comes to that, where G stands -/
def LF (X : Cx) (k : Nat) (C : Nat → Addr) (G : L2.St → Hp → Prop) (z : LZ) : Prop := ∃ tb : XK → TE, LamB X k (lmP z.1) (lmB z.1) (lmS z.1) z.2.1 tb ∧ ∀ (σ : L2.St) (H : Hp) (Ex : XK) (Q : VK), G σ H → OcK C H Ex Q z.2.2 → tb Ex σ H Q
abbrev leX (X : Cx) (z : LZ) : Addr → LE := leOf X.env.cells X.env.qual (lmP z.1) (lmB z.1) (lmS z.1)
theorem LamK.app {H : Hp} {wk f : Addr} {F : Addr → LE} {d : Option Int} {xs : List V} {o' : HO} (h : LamK H f F d) (hw : H wk = some (.lst xs)) : LamK (upd H wk o') f F d := by
  obtain ⟨c', h1, h2⟩ := h
  refine ⟨c', ?_, upd_keep hw h2 fun ys e => by unfold CodeO at e; cases e⟩
  cases d with
  | none => exact upd_keep hw h1 fun ys e => by unfold FnE at e; cases e
  | some i =>
    obtain ⟨D, k1, k2⟩ := h1
    exact ⟨D, upd_keep hw k1 (fun ys e => by unfold FnE1 at e; cases e), upd_keep hw k2 fun ys e => by unfold TupI at e; cases e⟩
structure LA (X : Cx) (H : Hp) (fs : List Addr) (zs : List LZ) : Prop where
  len : fs.length = zs.length
  k : ∀ (i : Nat) (f : Addr) (z : LZ), fs[i]? = some f → zs[i]? = some z → LamK H f (leX X z) z.2.1
section
variable {X : Cx} {H H' : Hp} {fs : List Addr} {zs : List LZ}
theorem LA.nil : LA X H [] [] := ⟨rfl, fun i f z h => by cases h⟩
theorem LA.ext (a : LA X H fs zs) (k : ExtN H H') : LA X H' fs zs := ⟨a.len, fun i f z h1 h2 => (a.k i f z h1 h2).ext k⟩
theorem LA.app {wk : Addr} {xs : List V} {o' : HO} (a : LA X H fs zs) (hw : H wk = some (.lst xs)) : LA X (upd H wk o') fs zs := ⟨a.len, fun i f z h1 h2 => (a.k i f z h1 h2).app hw⟩
theorem LA.snoc {f : Addr} {z : LZ} (a : LA X H fs zs) (h : LamK H f (leX X z) z.2.1) : LA X H (fs ++ [f]) (zs ++ [z]) := by
  refine ⟨by rw [List.length_append, List.length_append, a.len]; rfl, fun i f' z' h1 h2 => ?_⟩
  rw [List.getElem?_append] at h1 h2
  rw [a.len] at h1
  split at h1
  · rename_i hi
    rw [if_pos hi] at h2
    exact a.k i f' z' h1 h2
  · rename_i hi
    rw [if_neg hi] at h2
    have e : i - zs.length = 0 := by
      have := (List.getElem?_eq_some_iff.mp h1).1
      rw [List.length_singleton] at this
      omega
    rw [e] at h1 h2
    cases h1
    cases h2
    exact h
end
def outD : Oc → PyData
  | .err j => .str (nmF j)
  | .dig j i => .tuple [.str (nmF j), .int (i : Nat)]
  | .ret (.int m) => .int m
  | .ret _ => .none
def OV (H : Hp) (v : V) : Oc → Prop
  | .err j => v = .str (nmF j)
  | .dig j i => ∃ p, v = .ref p ∧ H p = some (.tup [.str (nmF j), .int (i : Nat)])
  | .ret x => v = x
def OcOk : Oc → Prop
  | .err j => j < 2
  | .dig j _ => 2 ≤ j ∧ j < 4
  | .ret x => x = .non ∨ ∃ m, x = .int m
theorem OV.keep {H H' : Hp} {v : V} {o : Oc} (h : OV H v o) (k : ∀ p vs, H p = some (.tup vs) → H' p = some (.tup vs)) : OV H' v o := by
  cases o with
  | err j => exact h
  | dig j i =>
    obtain ⟨p, h1, h2⟩ := h
    exact ⟨p, h1, k _ _ h2⟩
  | ret x => exact h
theorem OV.dp {K : PySem.W.Frag} {H : Hp} {v : V} {o : Oc} (h : OV H v o) (ok : OcOk o) : Dp K H v (outD o) := by
  cases o with
  | err j =>
    have h : v = .str (nmF j) := h
    rw [h]
    exact .str _
  | dig j i =>
    obtain ⟨p, rfl, h2⟩ := h
    exact .tup (.inl (.inl h2)) (.cons (.str _) (.cons (.int _) .nil))
  | ret x =>
    have h : v = x := h
    subst h
    rcases ok with rfl | ⟨m, rfl⟩
    · exact .non
    · exact .int _
theorem Same.updN {H H' : Hp} {D : Addr} {o : HO} (s : Same H H') (h : H D = none) : Same H (upd H' D o) := by
  intro b q hb
  rw [upd_ne (ne_of_none hb h)]
  exact s _ _ hb
theorem wlk_it {J : It} {n : Nat} {G : Hp → Prop} {Y : Nat → Hp → V → Hp → Prop} (wk : Walk J n G Y) {Fin : Hp → Prop} {Act : V → Hp → (Hp → Prop) → Prop} {H0 : Hp} (Pv : Nat → Hp → Prop) (h0 : Pv 0 H0) (hG : ∀ i H, i ≤ n → Pv i H → G H)
    (hs : ∀ i x H H', i < n → Pv i H → Y i H x H' → Act x H' (Pv (i + 1))) (hd : ∀ H, Pv n H → Fin H) : ∃ W : Nat → Nat → Hp → Prop, (∃ m, W 0 m H0) ∧ Wlk J W Fin Act := by
  refine ⟨fun i m H => m = n - i ∧ i ≤ n ∧ Pv i H, ⟨n, by simp, Nat.zero_le _, h0⟩, ?_⟩
  rintro i m H ⟨rfl, hi, p⟩
  have q := hG i H hi p
  by_cases hlt : i < n
  · exact .inr ⟨wk.goes i H hlt q, Pv (i + 1), fun H' p' => ⟨n - (i + 1), by omega, rfl, hlt, p'⟩, fun x H' y => hs i x H H' hlt p (wk.yields i H x H' hlt q y)⟩
  · have e : i = n := by omega
    subst e
    exact .inl ⟨wk.stops H q, hd H p⟩
/-- values as outcomes -/
def OVs (H : Hp) : List V → List Oc → Prop
  | [], [] => True
  | v :: vs, o :: os => OV H v o ∧ OVs H vs os
  | _, _ => False
theorem OVs.keep {H H' : Hp} (k : ∀ p vs, H p = some (.tup vs) → H' p = some (.tup vs)) : ∀ {vs : List V} {os : List Oc}, OVs H vs os → OVs H' vs os
  | [], [], _ => trivial
  | _ :: _, _ :: _, ⟨h1, h2⟩ => ⟨h1.keep k, OVs.keep k h2⟩
  | [], _ :: _, h => h.elim
  | _ :: _, [], h => h.elim
theorem OVs.len {H : Hp} : ∀ {vs : List V} {os : List Oc}, OVs H vs os → vs.length = os.length
  | [], [], _ => rfl
  | _ :: _, _ :: _, ⟨_, h2⟩ => by rw [List.length_cons, List.length_cons, OVs.len h2]
  | [], _ :: _, h => h.elim
  | _ :: _, [], h => h.elim
theorem OVs.snoc {H : Hp} {v : V} {o : Oc} (hv : OV H v o) : ∀ {vs : List V} {os : List Oc}, OVs H vs os → OVs H (vs ++ [v]) (os ++ [o])
  | [], [], _ => ⟨hv, trivial⟩
  | _ :: _, _ :: _, ⟨h1, h2⟩ => ⟨h1, OVs.snoc hv h2⟩
  | [], _ :: _, h => h.elim
  | _ :: _, [], h => h.elim
theorem OVs.dp {K : PySem.W.Frag} {H : Hp} : ∀ {vs : List V} {os : List Oc}, OVs H vs os → (∀ o ∈ os, OcOk o) → DpAll K H vs (os.map outD)
  | [], [], _, _ => .nil
  | _ :: _, _ :: _, ⟨h1, h2⟩, ok => .cons (h1.dp (ok _ List.mem_cons_self)) (OVs.dp h2 fun o h => ok o (List.mem_cons_of_mem _ h))
  | [], _ :: _, h, _ => h.elim
  | _ :: _, [], h, _ => h.elim
theorem lf_choose {X : Cx} {k : Nat} {C : Nat → Addr} {G : L2.St → Hp → Prop} {zs : List LZ} (h : ∀ z ∈ zs, LF X k C G z) : ∃ tbs : LZ → XK → TE, ∀ z ∈ zs, LamB X k (lmP z.1) (lmB z.1) (lmS z.1) z.2.1 (tbs z) ∧ ∀ (σ : L2.St) (H : Hp) (Ex : XK) (Q : VK), G σ H → OcK C H Ex Q z.2.2 → tbs z Ex σ H Q := by
  obtain ⟨tbs, htb⟩ := Classical.axiomOfChoice (r := fun (z : LZ) (tb : XK → TE) => z ∈ zs → LamB X k (lmP z.1) (lmB z.1) (lmS z.1) z.2.1 tb ∧ ∀ (σ : L2.St) (H : Hp) (Ex : XK) (Q : VK), G σ H → OcK C H Ex Q z.2.2 → tb Ex σ H Q) (fun z => by
    by_cases hz : z ∈ zs
    · obtain ⟨tb, h1, h2⟩ := h z hz
      exact ⟨tb, fun _ => ⟨h1, h2⟩⟩
    · exact ⟨fun _ _ _ _ => False, fun h' => absurd h' hz⟩)
  exact ⟨tbs, htb⟩
def jsOf (tbs : LZ → XK → TE) (zs : List LZ) : List LamJ := zs.map fun z => ⟨lmP z.1, lmB z.1, lmS z.1, z.2.1, tbs z⟩
theorem fails_wlk {X : Cx} {K : PySem.W.Frag} {C : Nat → Addr} {G : L2.St → Hp → Prop} {zs : List LZ} {tbs : LZ → XK → TE} {σ : L2.St} {H : Hp} {wk D : Addr} {fs : List Addr} {slot : Nat} {Fin : Hp → Prop} (hD : H D = none) (hs : slot < σ.length) (hw : H wk = some (.lst (fs.map V.ref))) (a : LA X H fs zs)
    (htb : ∀ z ∈ zs, ∀ (σ : L2.St) (H : Hp) (Ex : XK) (Q : VK), G σ H → OcK C H Ex Q z.2.2 → tbs z Ex σ H Q) (hG : ∀ H', Same H H' → G σ H') (hok : ∀ z ∈ zs, OcOk z.2.2) (hz : zs.length ≤ 50)
    (cont : ∀ H', Same H H' → Dp K H' (.ref D) (.list (zs.map fun z => outD z.2.2)) → Fin H') :
    ∃ W : Nat → Nat → Hp → Prop, (∃ m, W 0 m (upd H D (.lst []))) ∧ Wlk (Itl K wk) W Fin fun x H' Nx => gName slot x (wipe σ [slot]) H' fun σ2 H2 => wipe σ2 [slot] = wipe σ [slot] ∧ tYes σ2 H2 fun b H3 =>
      if b = true then (tGiveV X (jsOf tbs zs) (TFail C) slot σ σ2 H3 fun y H4 => ∃ acc, H4 D = some (.lst acc) ∧ acc.length < sizeLine ∧ Nx (upd H4 D (.lst (acc ++ [y])))) else Nx H3 := by
  refine wlk_it (walk_list (K := K) (a := wk) (xs := fs.map V.ref)) (fun i H1 => Same H H1 ∧ ∃ vs, H1 D = some (.lst vs) ∧ OVs H1 vs ((zs.take i).map (·.2.2))) ⟨Same.new (Same.refl H) hD, [], upd_same, by rw [List.take_zero]; trivial⟩ (fun i H1 _ z => .inl (.inl (z.1 _ _ hw))) ?_ ?_
  · rintro i x H5 H5' hi ⟨s5, vs, l5, o5⟩ ⟨rfl, hx⟩
    rw [List.getElem?_map] at hx
    obtain ⟨fa, hfa, rfl⟩ := Option.map_eq_some_iff.mp hx
    have hil : i < zs.length := by rw [← a.len]; exact (List.getElem?_eq_some_iff.mp hfa).1
    have hzz := List.getElem?_eq_getElem hil
    have hzm := List.getElem_mem hil
    generalize zs[i] = z at hzz hzm
    have lk := (a.k i fa z hfa hzz).ext (Same.extN s5)
    have lv := OVs.len o5
    rw [List.length_map, List.length_take] at lv
    have e1 : wipe σ [slot] = σ.set slot none := rfl
    refine ⟨by rw [e1]; show ((σ.set slot none).set slot (some (V.ref fa))).set slot none = σ.set slot none; rw [List.set_set, List.set_set], tyes ?_⟩
    refine ⟨fa, ⟨lmP z.1, lmB z.1, lmS z.1, z.2.1, tbs z⟩, by rw [e1]; show ((σ.set slot none).set slot (some (V.ref fa)))[slot]? = _; rw [List.getElem?_set_self (by rw [List.length_set]; exact hs)], List.mem_map.mpr ⟨z, hzm, rfl⟩, lk, ?_⟩
    have etk : (zs.take (i + 1)).map (·.2.2) = (zs.take i).map (·.2.2) ++ [z.2.2] := by
      rw [List.take_succ, hzz, List.map_append]
      rfl
    have put : ∀ (y : V) (H7 : Hp), Same H5' H7 → OV H7 y z.2.2 → ∃ acc, H7 D = some (.lst acc) ∧ acc.length < sizeLine ∧ (Same H (upd H7 D (.lst (acc ++ [y]))) ∧ ∃ vs, (upd H7 D (.lst (acc ++ [y]))) D = some (.lst vs) ∧ OVs (upd H7 D (.lst (acc ++ [y]))) vs ((zs.take (i + 1)).map (·.2.2))) := fun y H7 s7 hy => by
      have l7 := s7 _ _ l5
      refine ⟨vs, l7, Nat.lt_of_le_of_lt (show _ ≤ 100 by omega) (by decide), Same.updN (s5.trans s7) hD, vs ++ [y], upd_same, ?_⟩
      rw [etk]
      have kk : ∀ p us, H7 p = some (.tup us) → (upd H7 D (.lst (vs ++ [y]))) p = some (.tup us) := fun p us h => by
        rw [upd_ne (ne_of h l7 fun e => by cases e)]
        exact h
      exact OVs.snoc (hy.keep kk) ((o5.keep fun p us h => s7 _ _ h).keep kk)
    refine htb z hzm σ H5' _ _ (hG _ s5) ?_
    have okz := hok z hzm
    generalize z.2.2 = o at put okz
    cases o with
    | err j => exact fun H6 s6 => .mk okz fun H7 s7 => put _ H7 (s6.trans s7) rfl
    | dig j i => exact fun d H6 hd s6 hx => .dig okz.1 okz.2 hx fun p H7 hp s7 h7 => put _ H7 (s6.trans s7) ⟨p, rfl, h7⟩
    | ret v => exact fun H6 s6 => put v H6 s6 rfl
  · rintro H5 ⟨s5, vs, l5, o5⟩
    rw [List.length_map, a.len, List.take_length] at o5
    refine cont H5 s5 (.lst (.inl (.inl l5)) ?_)
    have := OVs.dp (K := K) o5 fun o ho => by
      obtain ⟨z, hz, rfl⟩ := List.mem_map.mp ho
      exact hok z hz
    rw [List.map_map] at this
    exact this
def notE (e : Expr) : Expr := match e with
  | .UnaryOp _ x _ => x
  | e => e
def testE (s : Stmt) : Expr := match s with
  | .If t _ _ _ => t
  | _ => .Constant .none 0 ⟨0, 0, 0, 0⟩
theorem sqT_keep {K : PySem.W.Frag} {H : Hp} {wk a : Addr} {xs ys : List V} {o' : HO} (hw : H wk = some (.lst xs)) (h : SqT K H a ys) : SqT K (upd H wk o') a ys := by
  rcases h with (h | ⟨o, h⟩) | h
  · exact .inl (.inl (upd_keep hw h fun ys e => by cases e))
  · exact .inl (.inr ⟨o, upd_keep hw h fun ys e => by cases e⟩)
  · exact .inr h
theorem isl_keep {K : PySem.W.Frag} {CI : Addr} {H : Hp} {wk a : Addr} {xs : List V} {o' : HO} {rows : List (List Nat)} (hw : H wk = some (.lst xs)) (h : Isl K CI H a rows) : Isl K CI (upd H wk o') a rows := by
  obtain ⟨dx, p, hp, hS⟩ := h
  exact ⟨dx, p, upd_keep hw hp (fun ys e => by cases e), sqT_keep hw hS⟩
theorem tabs_keep {T : List (Addr × Str)} {H : Hp} {wk : Addr} {xs : List V} {o' : HO} (hw : H wk = some (.lst xs)) (h : Tabs T H) : Tabs T (upd H wk o') := fun p hp => by
  obtain ⟨ps, q1, q2, q3⟩ := h p hp
  refine ⟨ps, upd_keep hw q1 (fun ys e => by cases e), q2, fun pos cv hc => ?_⟩
  obtain ⟨c0, w1, w2⟩ := q3 pos cv hc
  exact ⟨c0, w1, upd_keep hw w2 fun ys e => by unfold CodeO at e; cases e⟩
structure CalM (P : Program) (w : World) (K : PySem.W.Frag) (mg : Str → Option Value) (base : Heap) (CX : CXT) (k : Nat) (f : Addr) (ps : List Str) (sp : Sp) : Prop where
  ex : ∃ fd : FuncData, FnOk P w K mg base CX k f fd ps sp ∧ Binds K fd ps []
end Om

namespace Om
open PySem PySem.Spec PyProof.Rows L2 LamX NdefX
/-! the law's lambdas -/
abbrev nLaw : List Str := ["_law_script", "_law_h", "_law_island", "_law_many", "_law_odd", "_law_place", "_law_bad", "_law_due", "_law_works", "_law_found", "_law_chart", "_law_gaps", "_law_one_here", "_law_other", "_law_pool", "_law_wrong", "_law_k", "_law_work"]
theorem scLaw : FnScope nLaw ["_law_script"] (defScope sLaw) := ⟨rfl, rfl, rfl, by decide +kernel, rfl, by decide +kernel, by decide +kernel⟩
def lst (i : Nat) : Stmt := (defBody sLaw).getD i noS
def lM (i : Nat) : Expr := match i with
  | 1 => elE (asgExpr (lst 11)) 0
  | 2 => elE (asgExpr (lst 11)) 1
  | 3 => stArg (lst 12)
  | 4 => elE (asgExpr (lst 15)) 0
  | 5 => elE (asgExpr (lst 15)) 1
  | 6 => stArg (lst 16)
  | 7 => arg0 (asgExpr (lst 19))
  | 8 => elE (asgExpr (lst 22)) 0
  | 9 => elE (asgExpr (lst 22)) 1
  | _ => stArg (lst 23)
theorem lg1 : LamG nLaw (defScope sLaw) (lmS (lM 1)) [] := lamG_by (by decide +kernel)
theorem lg2 : LamG nLaw (defScope sLaw) (lmS (lM 2)) ["_law_a"] := lamG_by (by decide +kernel)
theorem lg3 : LamG nLaw (defScope sLaw) (lmS (lM 3)) ["_law_b"] := lamG_by (by decide +kernel)
theorem lg4 : LamG nLaw (defScope sLaw) (lmS (lM 4)) [] := lamG_by (by decide +kernel)
theorem lg5 : LamG nLaw (defScope sLaw) (lmS (lM 5)) ["_law_a"] := lamG_by (by decide +kernel)
theorem lg6 : LamG nLaw (defScope sLaw) (lmS (lM 6)) ["_law_b"] := lamG_by (by decide +kernel)
theorem lg7 : LamG nLaw (defScope sLaw) (lmS (lM 7)) [] := lamG_by (by decide +kernel)
theorem lg8 : LamG nLaw (defScope sLaw) (lmS (lM 8)) [] := lamG_by (by decide +kernel)
theorem lg9 : LamG nLaw (defScope sLaw) (lmS (lM 9)) ["_law_a"] := lamG_by (by decide +kernel)
theorem lg10 : LamG nLaw (defScope sLaw) (lmS (lM 10)) ["_law_b"] := lamG_by (by decide +kernel)
def TT1 (Pt : Addr) : List (Addr × Str) := [(Pt, (envOfC "law" (defScope sLaw) 0 0 .none).qual ++ "<lambda>")]
def R0 : List (List Nat) := [[46, 65], [66, 126]]
/-- a generator def, by its promise -/
structure CalG (P : Program) (w : World) (K : PySem.W.Frag) (mg : Str → Option Value) (base : Heap) (k : Nat) (x : Str) (ps : List Str) (sp : SpG) : Prop where
  ex : ∃ (f : Addr) (fd : FuncData), GFn P w K mg base k f fd ps sp ∧ mg x = some (.ref f) ∧ PySem.W.keepIn K (.ref f) = true ∧ Binds K fd ps []
/-- the refusals -/
structure PX (P : Program) (w : World) (K : PySem.W.Frag) (mg : Str → Option Value) (base : Heap) (CM CI CMp gF : Addr) (C : Nat → Addr) : Prop where
  md : CalG P w K mg base 5 "mended" nGP (spMd K CM CI (C 2) (C 3))
  tn : Cal P w K mg base (L2.CX P w) 5 "torn_places" nGP (spTn K CM CI (C 2) (C 3))
  lm : Cal P w K mg base (L2.CX P w) 5 "least_mending" pLm (spLm K CM CI (C 2) (C 3) (C 0))
  xc : Cal P w K mg base (L2.CX P w) 3 "exchanged" ["chart", "one", "other"] (spXc K CM CI (C 1))
  fai : FailF K mg C CMp
  glist : mg "list" = none
theorem GP.ext {K : PySem.W.Frag} {CM CI a ga pa : Addr} {H H' : Hp} {rows : List (List Nat)} {is : List Ins} {gs : List Nm} {ps : List Ins} (h : GP K CM CI H a ga pa rows is gs ps) (s : Same H H') : GP K CM CI H' a ga pa rows is gs ps := h.same s
/-- the law's things, as its lambdas see them -/
structure TL (K : PySem.W.Frag) (CM CI : Addr) (H : Hp) (a ga qa pa : Addr) (is : List Ins) (gs : List Nm) (pool wrong : List Ins) : Prop where
  gw : GP K CM CI H a ga pa R0 is gs wrong
  gp : GP K CM CI H a ga qa R0 is gs pool
theorem TL.same {K : PySem.W.Frag} {CM CI a ga qa pa : Addr} {H H' : Hp} {is : List Ins} {gs : List Nm} {pool wrong : List Ins} (h : TL K CM CI H a ga qa pa is gs pool wrong) (s : Same H H') : TL K CM CI H' a ga qa pa is gs pool wrong := ⟨h.gw.same s, h.gp.same s⟩
abbrev sT (v0 v1 v2 v3 v4 v5 v6 v7 v8 v9 v12 v13 v16 v17 : Option V) (a ga qa pa : Addr) : L2.St := [v0, v1, v2, v3, v4, v5, v6, v7, v8, v9, some (.ref a), some (.ref ga), v12, v13, some (.ref qa), some (.ref pa), v16, v17]
def GW (K : PySem.W.Frag) (CM CI : Addr) (o : RO) (σ : L2.St) (H : Hp) : Prop := ∃ (v0 v1 v2 v3 v4 v5 v6 v7 v8 v9 v12 v13 v16 v17 : Option V) (a ga qa pa : Addr) (is : List Ins) (gs : List Nm) (pool wrong : List Ins),
  σ = sT v0 v1 v2 v3 v4 v5 v6 v7 v8 v9 v12 v13 v16 v17 a ga qa pa ∧ TL K CM CI H a ga qa pa is gs pool wrong ∧ reqO is.length gs wrong = o
def GQ (K : PySem.W.Frag) (CM CI : Addr) (o : RO) (σ : L2.St) (H : Hp) : Prop := ∃ (v0 v1 v2 v3 v4 v5 v6 v7 v8 v9 v12 v13 v16 v17 : Option V) (a ga qa pa : Addr) (is : List Ins) (gs : List Nm) (pool wrong : List Ins),
  σ = sT v0 v1 v2 v3 v4 v5 v6 v7 v8 v9 v12 v13 v16 v17 a ga qa pa ∧ TL K CM CI H a ga qa pa is gs pool wrong ∧ reqO is.length gs pool = o
def GX (K : PySem.W.Frag) (CM CI : Addr) (σ : L2.St) (H : Hp) : Prop := ∃ (v0 v1 v2 v3 v4 v5 v6 v7 v8 v9 v16 v17 : Option V) (a ga qa pa : Addr) (is : List Ins) (m : Int) (n : Nm) (sg : List Nat) (fs : List Nm),
  σ = sT v0 v1 v2 v3 v4 v5 v6 v7 v8 v9 (some (.int m)) (some n.v) v16 v17 a ga qa pa ∧ Mp K CM CI H a R0 sg fs is ∧ is.length ≤ 1000 ∧ 0 ≤ m ∧ m < is.length ∧ inN n 0 ((is.length : Int) - 1) = false
/-- what such a call comes to -/
def roO : RO → Oc
  | .gap n => .dig 2 n
  | .pool n => .dig 3 n
  | .good => .err 0
theorem good_R0 : Good2 R0 := ((⟨by decide, by decide, 2, by decide, by decide, by unfold okSign; decide +kernel⟩ : RowsOk 12 R0).vd (by decide)).toGood2
theorem no11 : hasC R0 1 1 = false := by decide +kernel
section
variable {P : Program} {w : World} {K : PySem.W.Frag} {mg : Str → Option Value} {base : Heap} {CM CI CMp gF cc f : Addr} {C : Nat → Addr} {A : Around} {outer : List Env} {s : Shared} {H0 : Hp} {E : XK}
abbrev lX (P : Program) (w : World) (K : PySem.W.Frag) (mg : Str → Option Value) (base : Heap) (f c : Addr) (A : Around) (outer : List Env) (s : Shared) (H0 : Hp) (E : XK) : Cx := (cxOf CX0 P w K mg base nLaw "law" (defScope sLaw) f (.ref c) A outer s H0 E).nox
def NS (K : PySem.W.Frag) (E : XK) : XK := fun cls d H => E cls d H ∧ PySem.W.subIn K cls (.type "StopIteration") = some false
theorem lm1 (PP : PX P w K mg base CM CI CMp gF C) {o : RO} (ho : o ≠ .good) : LF (lX P w K mg base f cc A outer s H0 E) 8 C (GW K CM CI o) (lM 1, none, roO o) := by
  obtain ⟨fm, fdm, GM, hm, hk, hb⟩ := PP.md.ex
  refine ⟨fun E => _, ⟨⟨[], lg1, fun _ _ _ _ _ => rfl⟩, fun A outer s H E f c' hrb => pe_listG (E := NS K E) (pgen_call GM (hrb.mono (by decide)) rfl hm hk hb .nil (pa_cons (pv 10) (pa_cons (pv 11) (pa_cons (pv 15) pa_nil)))) (passes_call (W := fun cls d _ H => E cls d H) (takes_of rfl rfl rfl rfl) fun _ _ _ _ h => h.1) (fun cls d H h => h.2) hrb rfl PP.glist (by decide +kernel)⟩, ?_⟩
  rintro σ H Ex Q ⟨v0, v1, v2, v3, v4, v5, v6, v7, v8, v9, v12, v13, v16, v17, a, ga, qa, pa, is, gs, pool, wrong, rfl, g, e⟩ kk
  refine ⟨_, rfl, _, rfl, _, rfl, a, ga, pa, R0, is, gs, wrong, rfl, g.gw, ?_⟩
  rw [e]
  cases o with
  | gap n => exact fun d H' h1 h2 h3 => ⟨kk d H' h1 h2 h3, PP.fai.nst 2 (by decide)⟩
  | pool n => exact fun d H' h1 h2 h3 => ⟨kk d H' h1 h2 h3, PP.fai.nst 3 (by decide)⟩
  | good => exact absurd rfl ho
theorem lm4 (PP : PX P w K mg base CM CI CMp gF C) {o : RO} (ho : o ≠ .good) : LF (lX P w K mg base f cc A outer s H0 E) 8 C (GW K CM CI o) (lM 4, none, roO o) := by
  obtain ⟨fm, fdm, GM, hm, hk, hb⟩ := PP.md.ex
  refine ⟨fun E => _, ⟨⟨[], lg4, fun _ _ _ _ _ => rfl⟩, fun A outer s H E f c' hrb => pe_listG (E := NS K E) (pgen_call GM (hrb.mono (by decide)) rfl hm hk hb .nil (pa_cons (pv 10) (pa_cons (pv 11) (pa_cons (pv 15) pa_nil)))) (passes_call (W := fun cls d _ H => E cls d H) (takes_of rfl rfl rfl rfl) fun _ _ _ _ h => h.1) (fun cls d H h => h.2) hrb rfl PP.glist (by decide +kernel)⟩, ?_⟩
  rintro σ H Ex Q ⟨v0, v1, v2, v3, v4, v5, v6, v7, v8, v9, v12, v13, v16, v17, a, ga, qa, pa, is, gs, pool, wrong, rfl, g, e⟩ kk
  refine ⟨_, rfl, _, rfl, _, rfl, a, ga, pa, R0, is, gs, wrong, rfl, g.gw, ?_⟩
  rw [e]
  cases o with
  | gap n => exact fun d H' h1 h2 h3 => ⟨kk d H' h1 h2 h3, PP.fai.nst 2 (by decide)⟩
  | pool n => exact fun d H' h1 h2 h3 => ⟨kk d H' h1 h2 h3, PP.fai.nst 3 (by decide)⟩
  | good => exact absurd rfl ho
theorem lm2 (PP : PX P w K mg base CM CI CMp gF C) {o : RO} (ho : o ≠ .good) : LF (lX P w K mg base f cc A outer s H0 E) 8 C (GW K CM CI o) (lM 2, some 0, roO o) := by
  refine ⟨fun E => _, ⟨⟨["_law_a"], lg2, "_law_a", List.mem_cons_self, fun _ _ _ _ _ _ _ => ⟨_, rfl, rfl⟩⟩, fun A outer s H E f c' hrb => pe_cal PP.tn (hrb.mono (by decide)) (passes_call (W := fun cls d _ H => E cls d H) (takes_of rfl rfl rfl rfl) fun _ _ _ _ h => h) (pa_cons (pv 10) (pa_cons (pv 11) (pa_cons (pv 15) pa_nil)))⟩, ?_⟩
  rintro σ H Ex Q ⟨v0, v1, v2, v3, v4, v5, v6, v7, v8, v9, v12, v13, v16, v17, a, ga, qa, pa, is, gs, pool, wrong, rfl, g, e⟩ kk
  refine ⟨_, rfl, _, rfl, _, rfl, a, ga, pa, R0, is, gs, wrong, rfl, g.gw, ?_⟩
  rw [e]
  cases o with
  | gap n => exact kk
  | pool n => exact kk
  | good => exact absurd rfl ho
theorem lm5 (PP : PX P w K mg base CM CI CMp gF C) {o : RO} (ho : o ≠ .good) : LF (lX P w K mg base f cc A outer s H0 E) 8 C (GW K CM CI o) (lM 5, some 0, roO o) := by
  refine ⟨fun E => _, ⟨⟨["_law_a"], lg5, "_law_a", List.mem_cons_self, fun _ _ _ _ _ _ _ => ⟨_, rfl, rfl⟩⟩, fun A outer s H E f c' hrb => pe_cal PP.tn (hrb.mono (by decide)) (passes_call (W := fun cls d _ H => E cls d H) (takes_of rfl rfl rfl rfl) fun _ _ _ _ h => h) (pa_cons (pv 10) (pa_cons (pv 11) (pa_cons (pv 15) pa_nil)))⟩, ?_⟩
  rintro σ H Ex Q ⟨v0, v1, v2, v3, v4, v5, v6, v7, v8, v9, v12, v13, v16, v17, a, ga, qa, pa, is, gs, pool, wrong, rfl, g, e⟩ kk
  refine ⟨_, rfl, _, rfl, _, rfl, a, ga, pa, R0, is, gs, wrong, rfl, g.gw, ?_⟩
  rw [e]
  cases o with
  | gap n => exact kk
  | pool n => exact kk
  | good => exact absurd rfl ho
theorem lm3 (PP : PX P w K mg base CM CI CMp gF C) {o : RO} (ho : o ≠ .good) : LF (lX P w K mg base f cc A outer s H0 E) 8 C (GW K CM CI o) (lM 3, some 0, roO o) := by
  refine ⟨fun E => _, ⟨⟨["_law_b"], lg3, "_law_b", List.mem_cons_self, fun _ _ _ _ _ _ _ => ⟨_, rfl, rfl⟩⟩, fun A outer s H E f c' hrb => pe_cal PP.lm (hrb.mono (by decide)) (passes_call (W := fun cls d _ H => E cls d H) (takes_of rfl rfl rfl rfl) fun _ _ _ _ h => h) (pa_cons (pv 10) (pa_cons (pv 11) (pa_cons (pv 15) (pa_cons (pe_tup (pa_cons pe_int (pa_cons pe_int pa_nil))) pa_nil))))⟩, ?_⟩
  rintro σ H Ex Q ⟨v0, v1, v2, v3, v4, v5, v6, v7, v8, v9, v12, v13, v16, v17, a, ga, qa, pa, is, gs, pool, wrong, rfl, g, e⟩ kk
  refine ⟨_, rfl, _, rfl, _, rfl, by show 2 ≤ sizeLine; decide, fun t ht => nilArgs ?_⟩
  have s1 := Same.new (Same.refl H) ht (o := .tup [.int 1, .int 1])
  have e1 : (upd H t (.tup [.int 1, .int 1])) t = some (.tup [.int 1, .int 1]) := upd_same
  generalize upd H t (.tup [.int 1, .int 1]) = H1 at s1 e1 ⊢
  refine ⟨a, ga, pa, t, R0, is, gs, wrong, (1, 1), rfl, g.gw.same s1, good_R0, .inl (.inl e1), no11, ?_⟩
  rw [e]
  have kk := kk.same s1
  cases o with
  | gap n => exact kk
  | pool n => exact kk
  | good => exact absurd rfl ho
theorem lm7 (PP : PX P w K mg base CM CI CMp gF C) {o : RO} (ho : ∀ n, o ≠ .pool n) : LF (lX P w K mg base f cc A outer s H0 E) 8 C (GQ K CM CI o) (lM 7, none, roO o) := by
  refine ⟨fun E => _, ⟨⟨[], lg7, fun _ _ _ _ _ => rfl⟩, fun A outer s H E f c' hrb => pe_cal PP.lm (hrb.mono (by decide)) (passes_call (W := fun cls d _ H => E cls d H) (takes_of rfl rfl rfl rfl) fun _ _ _ _ h => h) (pa_cons (pv 10) (pa_cons (pv 11) (pa_cons (pv 14) (pa_cons (pe_tup (pa_cons pe_int (pa_cons pe_int pa_nil))) pa_nil))))⟩, ?_⟩
  rintro σ H Ex Q ⟨v0, v1, v2, v3, v4, v5, v6, v7, v8, v9, v12, v13, v16, v17, a, ga, qa, pa, is, gs, pool, wrong, rfl, g, e⟩ kk
  refine ⟨_, rfl, _, rfl, _, rfl, by show 2 ≤ sizeLine; decide, fun t ht => nilArgs ?_⟩
  have s1 := Same.new (Same.refl H) ht (o := .tup [.int 1, .int 1])
  have e1 : (upd H t (.tup [.int 1, .int 1])) t = some (.tup [.int 1, .int 1]) := upd_same
  generalize upd H t (.tup [.int 1, .int 1]) = H1 at s1 e1 ⊢
  refine ⟨a, ga, qa, t, R0, is, gs, pool, (1, 1), rfl, g.gp.same s1, good_R0, .inl (.inl e1), no11, ?_⟩
  rw [e]
  have kk := kk.same s1
  cases o with
  | gap n => exact kk
  | pool n => exact kk
  | good => exact kk
theorem lm8 (PP : PX P w K mg base CM CI CMp gF C) : LF (lX P w K mg base f cc A outer s H0 E) 8 C (GX K CM CI) (lM 8, none, .err 1) := by
  refine ⟨fun E => _, ⟨⟨[], lg8, fun _ _ _ _ _ => rfl⟩, fun A outer s H E f c' hrb => pe_cal PP.xc (hrb.mono (by decide)) (passes_call (W := fun cls d _ H => E cls d H) (takes_of rfl rfl rfl rfl) fun _ _ _ _ h => h) (pa_cons (pv 10) (pa_cons (pv 12) (pa_cons (pv 13) pa_nil)))⟩, ?_⟩
  rintro σ H Ex Q ⟨v0, v1, v2, v3, v4, v5, v6, v7, v8, v9, v16, v17, a, ga, qa, pa, is, m, n, sg, fs, rfl, hM, ln, m0, m1, hn⟩ kk
  refine ⟨_, rfl, _, rfl, _, rfl, a, R0, sg, fs, is, .i m, n, rfl, hM, ln, ?_, kk H (Same.refl H)⟩
  unfold xcBad
  rw [hn, Bool.false_and, Bool.and_false]; rfl
theorem lm9 (PP : PX P w K mg base CM CI CMp gF C) : LF (lX P w K mg base f cc A outer s H0 E) 8 C (GX K CM CI) (lM 9, some 0, .err 1) := by
  refine ⟨fun E => _, ⟨⟨["_law_a"], lg9, "_law_a", List.mem_cons_self, fun _ _ _ _ _ _ _ => ⟨_, rfl, rfl⟩⟩, fun A outer s H E f c' hrb => pe_cal PP.xc (hrb.mono (by decide)) (passes_call (W := fun cls d _ H => E cls d H) (takes_of rfl rfl rfl rfl) fun _ _ _ _ h => h) (pa_cons (pv 10) (pa_cons (pv 13) (pa_cons (pv 12) pa_nil)))⟩, ?_⟩
  rintro σ H Ex Q ⟨v0, v1, v2, v3, v4, v5, v6, v7, v8, v9, v16, v17, a, ga, qa, pa, is, m, n, sg, fs, rfl, hM, ln, m0, m1, hn⟩ kk
  refine ⟨_, rfl, _, rfl, _, rfl, a, R0, sg, fs, is, n, .i m, rfl, hM, ln, ?_, kk H (Same.refl H)⟩
  unfold xcBad
  rw [hn, Bool.false_and]; rfl
theorem lm10 (PP : PX P w K mg base CM CI CMp gF C) : LF (lX P w K mg base f cc A outer s H0 E) 8 C (GX K CM CI) (lM 10, some 0, .err 1) := by
  refine ⟨fun E => _, ⟨⟨["_law_b"], lg10, "_law_b", List.mem_cons_self, fun _ _ _ _ _ _ _ => ⟨_, rfl, rfl⟩⟩, fun A outer s H E f c' hrb => pe_cal PP.xc (hrb.mono (by decide)) (passes_call (W := fun cls d _ H => E cls d H) (takes_of rfl rfl rfl rfl) fun _ _ _ _ h => h) (pa_cons (pv 10) (pa_cons (pv 12) (pa_cons (pv 12) pa_nil)))⟩, ?_⟩
  rintro σ H Ex Q ⟨v0, v1, v2, v3, v4, v5, v6, v7, v8, v9, v16, v17, a, ga, qa, pa, is, m, n, sg, fs, rfl, hM, ln, m0, m1, hn⟩ kk
  refine ⟨_, rfl, _, rfl, _, rfl, a, R0, sg, fs, is, .i m, .i m, rfl, hM, ln, ?_, kk H (Same.refl H)⟩
  unfold xcBad
  rw [decide_eq_true rfl, Bool.not_true, Bool.and_false, Bool.and_false]; rfl
end
end Om

namespace Om
open PySem PySem.Spec PyProof.Rows L2 LamX NdefX
theorem noL_nm (n : Nm) : noL n.d = true := by cases n <;> simp [Nm.d, noL]
theorem noL_nms : ∀ ns : List Nm, noLs (ns.map Nm.d) = true
  | [] => by simp [noLs]
  | n :: r => by simp [noLs, noL_nm, noL_nms r]
theorem noL_dt (s : List Nat) : noL (dt s) = true := by simp [dt, noL]
theorem noL_ins (i : Ins) : noL i.d = true := by cases i <;> simp [Ins.d, Ins.parts, noL, noLs, noL_nm, noL_nms, noL_dt]
theorem noL_inss : ∀ is : List Ins, noLs (is.map Ins.d) = true
  | [] => by simp [noLs]
  | i :: r => by simp [noLs, noL_ins, noL_inss r]
theorem mk_read {K : PySem.W.Frag} {CI C0 a x dx : Addr} {H : Hp} {W : Hp → Prop} {E : XK} {rows : List (List Nat)} (ok : RowsOk 12 rows) (hS : SqT K H a (rows.map vt)) (hx : H x = none) (hdx : H dx = none) (k : ∀ H', Same H H' → Isl K CI H' x rows → W H') :
    spIsl K CI C0 (.ref x :: ([.ref a] ++ [])) (upd (upd H dx (.own x)) x (.ins CI dx [])) (fun v H2 => v = .non ∧ W H2) E := by
  have g := ok.good (Nat.le_refl _)
  have s2 : Same H (upd (upd H dx (.own x)) x (.ins CI dx [])) := fun c o hc => by
    rw [upd_ne (ne_of_none hc hx), upd_ne (ne_of_none hc hdx)]
    exact hc
  refine ⟨x, dx, a, rows, rfl, upd_same, Same.tup s2 hS, g.le, g.lens, fun e H2 k1 k2 => ⟨rfl, ?_⟩, fun r c e => by rw [chk_rows ok (Nat.le_refl _)] at e; cases e⟩
  have s3 : Same H H2 := fun c o hc => k1 c o (s2 c o hc) (ne_of_none hc hx)
  exact k H2 s3 ⟨dx, a, k2, Same.tup s3 hS⟩
theorem repTK {X : Cx} {K : PySem.W.Frag} (hK : X.K = K) : OpR X (binaryOp .Mult) (rRepT K) := by
  subst hK
  exact op_repT
theorem pi_listK {X : Cx} {K : PySem.W.Frag} {tg l : Expr} {tl : TE} (hK : X.K = K) (h : PE X l tl) : PI X tg l (iList K tl) := by
  subst hK
  exact pi_list h
theorem Bx.ext {b l : Addr} {H H' : Hp} (B : Bx H b l) (k : ExtN H H') : Bx H' b l := by
  obtain ⟨ns, z, j, h1, h2, h3⟩ := B.ex
  exact ⟨ns, z, j, k _ _ h1 (fun ps e => by cases e), k _ _ h2 (fun ps e => by cases e), h3⟩
section
variable {K : PySem.W.Frag} {CM CI : Addr} {H H' : Hp} {a ga qa pa b l wk : Addr} {rows : List (List Nat)} {sg : List Nat} {fs : List Nm} {is : List Ins} {gs : List Nm} {ps pool wrong : List Ins}
theorem Mp.via (hN : ∀ a C dx fs, H a = some (.ins C dx fs) → H' a = some (.ins C dx fs)) (hS : ∀ a xs, SqT K H a xs → SqT K H' a xs) (h : Mp K CM CI H a rows sg fs is) : Mp K CM CI H' a rows sg fs is := by
  obtain ⟨dx, li, lf, lt, xs, h1, ⟨dy, p, h2, h2'⟩, h3, h4, h5⟩ := h
  exact ⟨dx, li, lf, lt, xs, hN _ _ _ _ h1, ⟨dy, p, hN _ _ _ _ h2, hS _ _ h2'⟩, hS _ _ h3, hS _ _ h4, dpAll_noL hS (noL_inss is) h5⟩
theorem GP.via (hN : ∀ a C dx fs, H a = some (.ins C dx fs) → H' a = some (.ins C dx fs)) (hS : ∀ a xs, SqT K H a xs → SqT K H' a xs) (h : GP K CM CI H a ga pa rows is gs ps) : GP K CM CI H' a ga pa rows is gs ps := by
  obtain ⟨⟨sg, fs, h1⟩, h2, ⟨xs, h3, h4⟩, h5, h6, h7⟩ := h
  exact ⟨⟨sg, fs, h1.via hN hS⟩, hS _ _ h2, ⟨xs, hS _ _ h3, dpAll_noL hS (noL_inss ps) h4⟩, h5, h6, h7⟩
theorem TL.via (hN : ∀ a C dx fs, H a = some (.ins C dx fs) → H' a = some (.ins C dx fs)) (hS : ∀ a xs, SqT K H a xs → SqT K H' a xs) (h : TL K CM CI H a ga qa pa is gs pool wrong) : TL K CM CI H' a ga qa pa is gs pool wrong := ⟨h.gw.via hN hS, h.gp.via hN hS⟩
theorem ext_ins (k : ExtN H H') : ∀ a C dx fs, H a = some (.ins C dx fs) → H' a = some (.ins C dx fs) := fun a C dx fs h => k _ _ h fun ps e => by cases e
theorem ext_tup (k : ExtN H H') : ∀ a xs, SqT K H a xs → SqT K H' a xs := fun a xs h => SqT.ext k h
theorem app_ins {xs : List V} {o' : HO} (hw : H wk = some (.lst xs)) : ∀ a C dx fs, H a = some (.ins C dx fs) → (upd H wk o') a = some (.ins C dx fs) := fun a C dx fs h => upd_keep hw h fun ys e => by cases e
theorem app_tup {xs : List V} {o' : HO} (hw : H wk = some (.lst xs)) : ∀ a ys, SqT K H a ys → SqT K (upd H wk o') a ys := fun a ys h => sqT_keep hw h
theorem kp_ins (B : Bx H b l) (k : Kp b l H H') : ∀ a C dx fs, H a = some (.ins C dx fs) → H' a = some (.ins C dx fs) := fun a C dx fs h => k.ins B h
theorem kp_tup (B : Bx H b l) (k : Kp b l H H') : ∀ a xs, SqT K H a xs → SqT K H' a xs := fun a xs h => SqT.kp B k h
theorem TL.ext (h : TL K CM CI H a ga qa pa is gs pool wrong) (k : ExtN H H') : TL K CM CI H' a ga qa pa is gs pool wrong := h.via (ext_ins k) (ext_tup k)
theorem TL.app {xs : List V} {o' : HO} (h : TL K CM CI H a ga qa pa is gs pool wrong) (hw : H wk = some (.lst xs)) : TL K CM CI (upd H wk o') a ga qa pa is gs pool wrong := h.via (app_ins hw) (app_tup hw)
theorem TL.kp (h : TL K CM CI H a ga qa pa is gs pool wrong) (B : Bx H b l) (k : Kp b l H H') : TL K CM CI H' a ga qa pa is gs pool wrong := h.via (kp_ins B k) (kp_tup B k)
end
def seven : List Ins := List.replicate 7 (.turn [.i 0])
theorem seven_bad (n : Nat) : reqO n [] seven = .pool 6 := by
  unfold reqO
  rw [show gapI [] 0 0 (n : Int) = none from rfl, show poolI seven 0 = some 6 from by decide +kernel]
section
variable {P : Program} {w : World} {K : PySem.W.Frag} {mg : Str → Option Value} {base : Heap} {CM CI CMp gF cc f : Addr} {C : Nat → Addr} {A : Around} {outer : List Env} {s : Shared} {H0 : Hp} {E : XK}
theorem lm6 (PP : PX P w K mg base CM CI CMp gF C) {o : RO} : LF (lX P w K mg base f cc A outer s H0 E) 8 C (GW K CM CI o) (lM 6, some 0, .dig 3 6) := by
  refine ⟨fun E => _, ⟨⟨["_law_b"], lg6, "_law_b", List.mem_cons_self, fun _ _ _ _ _ _ _ => ⟨_, rfl, rfl⟩⟩, fun A outer s H E f c' hrb => pe_cal PP.lm (hrb.mono (by decide)) (passes_call (W := fun cls d _ H => E cls d H) (takes_of rfl rfl rfl rfl) fun _ _ _ _ h => h) (pa_cons (pv 10) (pa_cons (pe_tup pa_nil) (pa_cons (pe_op (repTK (K := K) rfl) (pe_tup (pa_cons (pe_tup (pa_cons pe_str (pa_cons (pe_tup (pa_cons pe_int pa_nil)) pa_nil))) pa_nil)) pe_int) (pa_cons (pe_tup (pa_cons pe_int (pa_cons pe_int pa_nil))) pa_nil))))⟩, ?_⟩
  rintro σ H Ex Q ⟨v0, v1, v2, v3, v4, v5, v6, v7, v8, v9, v12, v13, v16, v17, a, ga, qa, pa, is, gs, pool, wrong, rfl, g, e⟩ kk
  refine ⟨_, rfl, by show 0 ≤ sizeLine; decide, fun t0 h0 => ⟨by show 1 ≤ sizeLine; decide, fun u1 h1 => ⟨by show 2 ≤ sizeLine; decide, fun u2 h2 => ⟨by show 1 ≤ sizeLine; decide, fun u3 h3 => ?_⟩⟩⟩⟩
  have s0 := Same.new (Same.refl H) h0 (o := .tup [])
  have e0 : (upd H t0 (.tup [])) t0 = some (.tup []) := upd_same
  generalize upd H t0 (.tup []) = H1 at s0 e0 h1 h2 h3 ⊢
  have s1 := Same.new (Same.refl H1) h1 (o := .tup [.int 0])
  have e1 : (upd H1 u1 (.tup [.int 0])) u1 = some (.tup [.int 0]) := upd_same
  generalize upd H1 u1 (.tup [.int 0]) = H2 at s1 e1 h2 h3 ⊢
  have s2 := Same.new (Same.refl H2) h2 (o := .tup [.str "turn", .ref u1])
  have e2 : (upd H2 u2 (.tup [.str "turn", .ref u1])) u2 = some (.tup [.str "turn", .ref u1]) := upd_same
  generalize upd H2 u2 (.tup [.str "turn", .ref u1]) = H3 at s2 e2 h3 ⊢
  have s3 := Same.new (Same.refl H3) h3 (o := .tup [.ref u2])
  have e3 : (upd H3 u3 (.tup [.ref u2])) u3 = some (.tup [.ref u2]) := upd_same
  generalize upd H3 u3 (.tup [.ref u2]) = H4 at s3 e3 ⊢
  refine ⟨u3, 7, _, rfl, rfl, .inl (.inl e3), by simp, by decide, by decide, by show 1 ≤ 1000; decide, fun p hp => ⟨by show 2 ≤ sizeLine; decide, fun t ht => nilArgs ?_⟩⟩
  have s4 := Same.new (Same.refl H4) hp (o := .tup (List.replicate (7 : Int).toNat [V.ref u2]).flatten)
  have e4 : (upd H4 p (.tup (List.replicate (7 : Int).toNat [V.ref u2]).flatten)) p = some (.tup (List.replicate 7 (V.ref u2))) := by rw [upd_same]; rfl
  generalize upd H4 p (.tup (List.replicate (7 : Int).toNat [V.ref u2]).flatten) = H5 at s4 e4 ht ⊢
  have s5 := Same.new (Same.refl H5) ht (o := .tup [.int 1, .int 1])
  have e5 : (upd H5 t (.tup [.int 1, .int 1])) t = some (.tup [.int 1, .int 1]) := upd_same
  generalize upd H5 t (.tup [.int 1, .int 1]) = H6 at s5 e5 ⊢
  have s26 := s3.trans (s4.trans s5)
  have s16 := s2.trans s26
  have s06 := s1.trans s16
  have sall := s0.trans s06
  obtain ⟨M, _, _, ln, _, _⟩ := g.gw.same sall
  have d1 : Dp K H6 (.ref u2) (Ins.turn [.i 0]).d := .tup (.inl (.inl (s26 _ _ e2))) (.cons (.str _) (.cons (.tup (.inl (.inl (s16 _ _ e1))) (.cons (.int _) .nil)) .nil))
  have all : ∀ n : Nat, DpAll K H6 (List.replicate n (V.ref u2)) ((List.replicate n (Ins.turn [.i 0])).map Ins.d) := fun n => by
    induction n with
    | zero => exact .nil
    | succ n ih => exact .cons d1 ih
  refine ⟨a, t0, p, t, R0, is, [], seven, (1, 1), rfl, ⟨M, .inl (.inl (s06 _ _ e0)), ⟨_, .inl (.inl (s5 _ _ e4)), all 7⟩, ln, by decide, by decide, fun x hx => by rw [(List.mem_replicate.mp hx).2]; rfl⟩, good_R0, .inl (.inl e5), no11, ?_⟩
  rw [seven_bad]
  exact fun d H' q1 q2 q3 => kk d H' (Same.free sall q1) (sall.trans q2) q3
end
end Om

/-! the law's rows from its end -/
namespace Om
open PySem PySem.Spec PyProof.Rows L2 LamX NdefX
structure LPr (P : Program) (w : World) (K : PySem.W.Frag) (mg : Str → Option Value) (base : Heap) (CM CI CB C0 CMp gF fM fN : Addr) (C : Nat → Addr) (fdF : FuncData) : Prop where
  px : PX P w K mg base CM CI CMp gF C
  mix : Cal P w K mg base CX0 1 "_law_mix" ["_law_script", "_law_seed"] (spMix K)
  nxt : Cal P w K mg base CX0 1 "_law_next" ["_law_h", "_law_limit"] spNext
  one : Cal P w K mg base CX0 3 "_law_one" ["_law_h"] (spOne K)
  alk : Cal P w K mg base CX0 5 "_law_alike" ["_law_found", "_law_due"] (spAlike K 4)
  isl : IslF K mg CI fN
  mkI : CalM P w K mg base (L2.CX P w) 4 fN ["self", "rows"] (spIsl K CI C0)
  mpf : MapF K mg CM fM
  mkM : CalM P w K mg base (L2.CX P w) 5 fM nMapI (spMapI K CM CB)
  FF : FnP K "_law_fail" "_law_fail" sFail gF fdF
  hF : mg "_law_fail" = some (.ref gF)
  bF : Binds K fdF ["_law_work"] []
def worL (i : Nat) : Expr := match i with
  | 13 => arg0 (notE (testE (lst 13)))
  | 18 => arg0 (notE (testE (lst 18)))
  | _ => arg0 (retExpr (lst 24))
theorem blk13 : BlkOk nLaw (defScope sLaw) (lcScope (worL 13)) [("_law_work", 17)] := blkOk_by (by decide +kernel)
theorem blk18 : BlkOk nLaw (defScope sLaw) (lcScope (worL 18)) [("_law_work", 17)] := blkOk_by (by decide +kernel)
theorem blk24 : BlkOk nLaw (defScope sLaw) (lcScope (worL 24)) [("_law_work", 17)] := blkOk_by (by decide +kernel)
def zsC : List LZ := [(lM 8, none, .err 1), (lM 9, some 0, .err 1), (lM 10, some 0, .err 1)]
theorem okzC : ∀ z ∈ zsC, OcOk z.2.2 := by
  intro z hz
  simp only [zsC, List.mem_cons, List.not_mem_nil, or_false] at hz
  rcases hz with rfl | rfl | rfl <;> exact (by decide : (1 : Nat) < 2)
theorem okD_C : okD 4 (.list (zsC.map fun z => outD z.2.2)) = true := by
  show (decide (3 ≤ 10000) && (okD 3 (.str (nmF 1)) && (okD 3 (.str (nmF 1)) && (okD 3 (.str (nmF 1)) && true)))) = true
  rw [show okD 3 (.str (nmF 1)) = true from by decide +kernel]
  rfl
theorem tt1_m {Pt : Addr} : (Pt, (envOfC "law" (defScope sLaw) 0 0 .none).qual ++ "<lambda>") ∈ TT1 Pt := List.mem_cons_self
theorem tt1_u {Pt : Addr} : ∀ p ∈ TT1 Pt, p.1 = Pt → p.2 = (envOfC "law" (defScope sLaw) 0 0 .none).qual ++ "<lambda>" := fun p hp _ => by
  rw [List.mem_singleton.mp hp]
def d24 : List Stmt := (defBody sLaw).drop 24
def d22 : List Stmt := (defBody sLaw).drop 22
section
variable {P : Program} {w : World} {K : PySem.W.Frag} {mg : Str → Option Value} {base : Heap} {CM CI CB C0 CMp gF fM fN cc f Pt : Addr} {C : Nat → Addr} {fdF : FuncData}
theorem allC (PP : LPr P w K mg base CM CI CB C0 CMp gF fM fN C fdF) {A : Around} {outer : List Env} {s : Shared} {H0 : Hp} {E : XK} : ∀ z ∈ zsC, LF (lX P w K mg base f cc A outer s H0 E) 8 C (GX K CM CI) z := by
  intro z hz
  simp only [zsC, List.mem_cons, List.not_mem_nil, or_false] at hz
  rcases hz with rfl | rfl | rfl
  · exact lm8 PP.px
  · exact lm9 PP.px
  · exact lm10 PP.px
theorem law_24 (PP : LPr P w K mg base CM CI CB C0 CMp gF fM fN C fdF) {A : Around} {outer : List Env} {s : Shared} {H0 : Hp} {E : XK} (hr : Room 10 (A.deeper (envOfC "law" (defScope sLaw) s.heap.objs.size f (.ref cc)))) :
    ∃ t, PSs (lX P w K mg base f cc A outer s H0 E) d24 t ∧
      ∀ (Dn : Ends) (v0 v1 v2 v3 v4 v5 v6 v7 v9 v12 v13 v16 v17 : Option V) (wk a ga qa pa : Addr) (fs : List Addr) (H : Hp), H wk = some (.lst (fs.map V.ref)) → LA (lX P w K mg base f cc A outer s H0 E) H fs zsC →
        (∀ H', Same H H' → GX K CM CI (sT v0 v1 v2 v3 v4 v5 v6 v7 (some (.ref wk)) v9 v12 v13 v16 v17 a ga qa pa) H') → (∀ H', Dn.rt (.bl true) H') → t Dn (sT v0 v1 v2 v3 v4 v5 v6 v7 (some (.ref wk)) v9 v12 v13 v16 v17 a ga qa pa) H := by
  have nd := scLaw.nd
  have hr3 : Room 3 _ := hr.mono (by decide)
  have hr5 : Room 5 _ := hr.mono (by decide)
  obtain ⟨ocE, odE, dE, kE, docE, pmE, anE, cdE, ctE, oslE, rfl, lkE, hcE, _, _⟩ := PP.FF.ex
  obtain ⟨tbs, htb⟩ := lf_choose (allC (f := f) (cc := cc) PP (A := A) (outer := outer) (s := s) (H0 := H0) (E := E))
  refine ⟨_, pss_one (ps_ret (pe_cal PP.alk hr5 pass0 (pa_cons (pe_lcV (own := [("_law_work", 17)]) (g := gName 17) (te := tGiveV _ (jsOf tbs zsC) (TFail C) 17) rfl nd (pi_listK (K := K) rfl (pv 8)) blk24 (fun _ _ _ _ _ => pg_name (i := 17) nd rfl (.inl rfl)) (fun _ _ _ _ _ => pts_nil)
        (fun _ _ _ _ _ => pev_give (k := 8) rfl PP.hF PP.FF.kp lkE hcE PP.bF scFail rfl (.inl rfl) (fail_gives PP.px.fai) hr hr3 (fun j hj => by
          obtain ⟨z, hz, rfl⟩ := List.mem_map.mp hj
          exact (htb z hz).1) rfl (.inl rfl))) (pa_cons (pe_op op_rep (pe_lst (pa_cons pe_str pa_nil)) pe_int) pa_nil)))), ?_⟩
  intro Dn v0 v1 v2 v3 v4 v5 v6 v7 v9 v12 v13 v16 v17 wk a ga qa pa fs H hw la hG kn
  refine ⟨_, rfl, wk, rfl, ⟨_, .inl (.inl hw)⟩, fun D hD => ?_⟩
  refine fails_wlk (K := K) (slot := 17) (G := GX K CM CI) hD (by show 17 < 18; decide) hw la (fun z hz => (htb z hz).2) hG okzC (by show 3 ≤ 50; decide) fun H4 s4 d4 => ?_
  refine ⟨by show 1 ≤ sizeLine; decide, fun u1 h1 => ?_⟩
  have s5 := Same.new (Same.refl H4) h1 (o := .lst [.str "UnknownIndex"])
  have e5 : (upd H4 u1 (.lst [.str "UnknownIndex"])) u1 = some (.lst [.str "UnknownIndex"]) := upd_same
  generalize upd H4 u1 (.lst [.str "UnknownIndex"]) = H5 at s5 e5 ⊢
  refine ⟨u1, 3, _, rfl, rfl, e5, by decide, by decide, by show 1 * 3 ≤ sizeLine; decide, fun u2 h2 => nilArgs ?_⟩
  have s6 := Same.new (Same.refl H5) h2 (o := .lst (List.replicate (3 : Int).toNat [V.str "UnknownIndex"]).flatten)
  have e6 : (upd H5 u2 (.lst (List.replicate (3 : Int).toNat [V.str "UnknownIndex"]).flatten)) u2 = some (.lst [.str "UnknownIndex", .str "UnknownIndex", .str "UnknownIndex"]) := by rw [upd_same]; rfl
  generalize upd H5 u2 (.lst (List.replicate (3 : Int).toNat [V.str "UnknownIndex"]).flatten) = H6 at s6 e6 ⊢
  exact ⟨_, _, _, rfl, Same.dp (s5.trans s6) d4, .lst (.inl (.inl e6)) (.cons (.str _) (.cons (.str _) (.cons (.str _) .nil))), okD_C, fun H7 s7 => kn H7⟩
theorem law_22 (PP : LPr P w K mg base CM CI CB C0 CMp gF fM fN C fdF) (TB : TabB base mg cc Pt) {A : Around} {outer : List Env} {s : Shared} {H0 : Hp} {E : XK} (hr : Room 10 (A.deeper (envOfC "law" (defScope sLaw) s.heap.objs.size f (.ref cc)))) :
    ∃ t, PSs (lX P w K mg base f cc A outer s H0 E) d22 t ∧
      ∀ (Dn : Ends) (v0 v1 v2 v3 v4 v5 v6 v7 v8 v9 v16 v17 : Option V) (a ga qa pa : Addr) (m : Int) (n : Nm) (sg : List Nat) (fs : List Nm) (is : List Ins) (H : Hp), Tabs (TT1 Pt) H → Mp K CM CI H a R0 sg fs is → is.length ≤ 1000 → 0 ≤ m → m < is.length → inN n 0 ((is.length : Int) - 1) = false →
        (∀ H', Dn.rt (.bl true) H') → t Dn (sT v0 v1 v2 v3 v4 v5 v6 v7 v8 v9 (some (.int m)) (some n.v) v16 v17 a ga qa pa) H := by
  obtain ⟨t4, q4, r4⟩ := law_24 (f := f) (cc := cc) PP (A := A) (outer := outer) (s := s) (H0 := H0) (E := E) hr
  have nd := scLaw.nd
  refine ⟨_, pss_cons (ps_set (i := 8) nd rfl (.inl rfl) (pe_lst (pa_cons (pe_lamV0 (T := TT1 Pt) TB rfl tt1_m tt1_u rfl lg8.free) (pa_cons (pe_lamV1 (T := TT1 Pt) TB rfl tt1_m tt1_u rfl lg9.free) pa_nil))))
    (pss_cons (ps_expr (pe_bm PySem.F.plainAttrs_list PySem.F.slot_list_append PySem.F.type_list_append mt_append (pv 8) (pa_cons (pe_lamV1 (T := TT1 Pt) TB rfl tt1_m tt1_u rfl lg10.free) pa_nil))) q4), ?_⟩
  intro Dn v0 v1 v2 v3 v4 v5 v6 v7 v8 v9 v16 v17 a ga qa pa m n sg fs is H T hM ln m0 m1 hn kn
  refine ⟨T, fun f1 H1 x1 T1 _ k1 => ⟨T1, fun f2 H2 x2 T2 _ k2 => ⟨by show 2 ≤ sizeLine; decide, fun w1 hw1 => ?_⟩⟩⟩
  have M2 := (hM.via (ext_ins x1) (ext_tup x1)).via (ext_ins x2) (ext_tup x2)
  have a1 : LA (lX P w K mg base f cc A outer s H0 E) H1 [f1] [(lM 8, none, .err 1)] := LA.nil.snoc (z := (lM 8, none, .err 1)) k1
  have a2 : LA (lX P w K mg base f cc A outer s H0 E) H2 [f1, f2] [(lM 8, none, .err 1), (lM 9, some 0, .err 1)] := (a1.ext x2).snoc (z := (lM 9, some 0, .err 1)) k2
  have s3 := Same.new (Same.refl H2) hw1 (o := .lst ([f1, f2].map V.ref))
  have e3 : (upd H2 w1 (.lst ([f1, f2].map V.ref))) w1 = some (.lst ([f1, f2].map V.ref)) := upd_same
  have eh : (upd H2 w1 (.lst [.ref f1, .ref f2])) = upd H2 w1 (.lst ([f1, f2].map V.ref)) := rfl
  rw [eh]
  have T3 := T2.ext s3
  generalize upd H2 w1 (.lst ([f1, f2].map V.ref)) = H3 at s3 e3 T3 ⊢
  have M3 := M2.same s3
  have a3 := a2.ext (Same.extN s3)
  refine ⟨_, rfl, .inl ⟨rfl, _, .inl (.inl e3)⟩, T3, fun f3 H4 x4 T4 _ k3 => nilArgs ?_⟩
  have e4 := x4 _ _ e3 fun ps e => by cases e
  refine ⟨w1, _, _, rfl, rfl, e4, by show 2 < sizeLine; decide, ?_⟩
  have M5 : Mp K CM CI (upd H4 w1 (.lst ([f1, f2, f3].map V.ref))) a R0 sg fs is := (M3.via (ext_ins x4) (ext_tup x4)).via (app_ins e4) (app_tup e4)
  have a5 : LA (lX P w K mg base f cc A outer s H0 E) (upd H4 w1 (.lst ([f1, f2, f3].map V.ref))) [f1, f2, f3] zsC := ((a3.ext x4).snoc (z := (lM 10, some 0, .err 1)) k3).app e4
  refine r4 Dn _ _ _ _ _ _ _ _ _ _ _ _ _ w1 a ga qa pa [f1, f2, f3] _ upd_same a5 (fun H' s' => ?_) kn
  exact ⟨_, _, _, _, _, _, _, _, _, _, _, _, a, ga, qa, pa, is, m, n, sg, fs, rfl, M5.same s', ln, m0, m1, hn⟩
end
end Om

namespace Om
open PySem PySem.Spec PyProof.Rows L2 LamX NdefX
def d21 : List Stmt := (defBody sLaw).drop 21
def d19 : List Stmt := (defBody sLaw).drop 19
/-- the law's chart, gaps, pools, its box and its table -/
structure LW (K : PySem.W.Frag) (CM CI Pt : Addr) (H : Hp) (b l a ga qa pa : Addr) (is : List Ins) (gs : List Nm) (pool wrong : List Ins) : Prop where
  B : Bx H b l
  L : TL K CM CI H a ga qa pa is gs pool wrong
  T : Tabs (TT1 Pt) H
theorem LW.same {K : PySem.W.Frag} {CM CI Pt : Addr} {H H' : Hp} {b l a ga qa pa : Addr} {is : List Ins} {gs : List Nm} {pool wrong : List Ins} (h : LW K CM CI Pt H b l a ga qa pa is gs pool wrong) (s : Same H H') : LW K CM CI Pt H' b l a ga qa pa is gs pool wrong := ⟨h.B.same s, h.L.same s, h.T.ext s⟩
theorem LW.ext {K : PySem.W.Frag} {CM CI Pt : Addr} {H H' : Hp} {b l a ga qa pa : Addr} {is : List Ins} {gs : List Nm} {pool wrong : List Ins} (h : LW K CM CI Pt H b l a ga qa pa is gs pool wrong) (k : ExtN H H') (T' : Tabs (TT1 Pt) H') : LW K CM CI Pt H' b l a ga qa pa is gs pool wrong := ⟨h.B.ext k, h.L.ext k, T'⟩
theorem LW.app {K : PySem.W.Frag} {CM CI Pt wk : Addr} {H : Hp} {b l a ga qa pa : Addr} {is : List Ins} {gs : List Nm} {pool wrong : List Ins} {xs : List V} {o' : HO} (h : LW K CM CI Pt H b l a ga qa pa is gs pool wrong) (hw : H wk = some (.lst xs)) (n1 : wk ≠ b) (n2 : wk ≠ l) : LW K CM CI Pt (upd H wk o') b l a ga qa pa is gs pool wrong := ⟨h.B.updO n1 n2, h.L.app hw, tabs_keep hw h.T⟩
theorem kp_at {b l : Addr} {H H' : Hp} (B : Bx H b l) (k : Kp b l H H') {a : Addr} {x : HO} (h : H a = some x) (n : ∀ xs, x ≠ .lst xs) : H' a = some x := by
  obtain ⟨ns, z, j, h1, h2, _⟩ := B.ex
  exact k _ _ h (ne_of h h1 (n _)) (ne_of h h2 (n _))
theorem tabs_kpb {T : List (Addr × Str)} {b l : Addr} {H H' : Hp} (t : Tabs T H) (B : Bx H b l) (k : Kp b l H H') : Tabs T H' := by
  intro p hp
  obtain ⟨ps, q1, q2, q3⟩ := t p hp
  refine ⟨ps, kp_at B k q1 (fun xs e => by cases e), q2, fun pos cv hc => ?_⟩
  obtain ⟨c0, w1, w2⟩ := q3 pos cv hc
  exact ⟨c0, w1, kp_at B k w2 fun xs e => by unfold CodeO at e; cases e⟩
theorem LW.kp {K : PySem.W.Frag} {CM CI Pt : Addr} {H H' : Hp} {b l a ga qa pa : Addr} {is : List Ins} {gs : List Nm} {pool wrong : List Ins} (h : LW K CM CI Pt H b l a ga qa pa is gs pool wrong) (k : Kp b l H H') (B' : Bx H' b l) : LW K CM CI Pt H' b l a ga qa pa is gs pool wrong := ⟨B', h.L.kp h.B k, tabs_kpb h.T h.B k⟩
section
variable {P : Program} {w : World} {K : PySem.W.Frag} {mg : Str → Option Value} {base : Heap} {CM CI CB C0 CMp gF fM fN cc f Pt : Addr} {C : Nat → Addr} {fdF : FuncData}
theorem law_21 (PP : LPr P w K mg base CM CI CB C0 CMp gF fM fN C fdF) (TB : TabB base mg cc Pt) {A : Around} {outer : List Env} {s : Shared} {H0 : Hp} {E : XK} (hr : Room 10 (A.deeper (envOfC "law" (defScope sLaw) s.heap.objs.size f (.ref cc)))) :
    ∃ t, PSs (lX P w K mg base f cc A outer s H0 E) d21 t ∧
      ∀ (Dn : Ends) (v0 v2 v4 v5 v6 v7 v8 v9 v12 v13 v16 v17 : Option V) (b l a ga qa pa : Addr) (is : List Ins) (gs : List Nm) (pool wrong : List Ins) (H : Hp), LW K CM CI Pt H b l a ga qa pa is gs pool wrong → 4 ≤ is.length → is.length ≤ 20 →
        (∀ H', Dn.rt (.bl true) H') → t Dn (sT v0 (some (.ref b)) v2 (some (.int is.length)) v4 v5 v6 v7 v8 v9 v12 v13 v16 v17 a ga qa pa) H := by
  obtain ⟨t4, q4, r4⟩ := law_22 (f := f) (cc := cc) PP TB (A := A) (outer := outer) (s := s) (H0 := H0) (E := E) hr
  have nd := scLaw.nd
  have hr1 : Room 1 _ := hr.mono (by decide)
  refine ⟨_, pss_cons (ps_asg (pe_tup (pa_cons (pe_cal PP.nxt hr1 pass0 (pa_cons (pv 1) (pa_cons (pv 3) pa_nil))) (pa_cons (pe_ix ix_list (pe_lst (pa_cons (pv 3) (pa_cons (pe_op op_sub pe_int pe_int) (pa_cons pe_bl pa_nil)))) (pe_cal PP.nxt hr1 pass0 (pa_cons (pv 1) (pa_cons pe_int pa_nil))) (fun _ _ => rfl)) pa_nil))) (pg_tup rfl (pgs_cons (pg_name (i := 12) nd rfl (.inr rfl)) (pgs_cons (pg_name (i := 13) nd rfl (.inr rfl)) pgs_nil)))) q4, ?_⟩
  intro Dn v0 v2 v4 v5 v6 v7 v8 v9 v12 v13 v16 v17 b l a ga qa pa is gs pool wrong H g h4 h20 kn
  refine ⟨_, rfl, _, rfl, b, l, _, rfl, g.B, by omega, by omega, fun m H1 m0 m1 B1 K1 => ⟨_, rfl, _, _, rfl, rfl, by show 3 ≤ sizeLine; decide, fun q hq => ?_⟩⟩
  have g1 := g.kp K1 B1
  have s2 := Same.new (Same.refl H1) hq (o := .lst [.int is.length, .int (0 - 1), .bl true])
  have e2 : (upd H1 q (.lst [.int is.length, .int (0 - 1), .bl true])) q = some (.lst [.int is.length, .int (0 - 1), .bl true]) := upd_same
  have qb := B1.new hq
  show (fun (Hx : Hp) => _) (upd H1 q (.lst [.int is.length, .int (0 - 1), .bl true]))
  generalize upd H1 q (.lst [.int is.length, .int (0 - 1), .bl true]) = H2 at s2 e2 ⊢
  have g2 := g1.same s2
  refine ⟨_, rfl, b, l, 3, rfl, g2.B, by decide, by decide, fun j H3 j0 j1 B3 K3 => ?_⟩
  have g3 := g2.kp K3 B3
  have e3 := K3 q _ e2 qb.1 qb.2
  obtain ⟨n, hn1, hn2⟩ : ∃ n : Nm, atI [V.int is.length, .int (0 - 1), .bl true] j = some n.v ∧ inN n 0 ((is.length : Int) - 1) = false := by
    have e : j = 0 ∨ j = 1 ∨ j = 2 := by omega
    rcases e with rfl | rfl | rfl
    · refine ⟨.i is.length, rfl, ?_⟩
      show (decide (0 ≤ (is.length : Int)) && decide ((is.length : Int) ≤ (is.length : Int) - 1)) = false
      rw [decide_eq_false (show ¬ (is.length : Int) ≤ (is.length : Int) - 1 by omega), Bool.and_false]
    · exact ⟨.i (-1), rfl, rfl⟩
    · exact ⟨.b true, rfl, rfl⟩
  refine ⟨q, _, j, n.v, rfl, rfl, .inl (.inl e3), hn1, by show 2 ≤ sizeLine; decide, fun tp htp => ?_⟩
  refine ⟨tp, _, rfl, .inl (.inl upd_same), rfl, _, _, rfl, _, _, rfl, rfl, ?_⟩
  have s4 := Same.new (Same.refl H3) htp (o := .tup [.int m, n.v])
  have g4 := g3.same s4
  obtain ⟨⟨sg, fs, M⟩, _, _, ln, _, _⟩ := g4.L.gw
  exact r4 Dn _ _ _ _ _ _ _ _ _ _ _ _ a ga qa pa m n sg fs is _ g4.T M ln m0 m1 hn2 kn
theorem okD_n0 : okD 4 (.str (nmF 0)) = true := by decide +kernel
theorem okD_g3 : okD 4 (.tuple [.str "InvalidGaps", .int 3]) = true := by
  show (decide (2 ≤ 10000) && (okD 3 (.str "InvalidGaps") && (okD 3 (.int 3) && true))) = true
  rw [show okD 3 (.str "InvalidGaps") = true from by decide +kernel]
  rfl
theorem law_19 (PP : LPr P w K mg base CM CI CB C0 CMp gF fM fN C fdF) (TB : TabB base mg cc Pt) {A : Around} {outer : List Env} {s : Shared} {H0 : Hp} {E : XK} (hr : Room 10 (A.deeper (envOfC "law" (defScope sLaw) s.heap.objs.size f (.ref cc)))) :
    ∃ t : RO → TS, (∀ o, (∀ n, o ≠ .pool n) → PSs (lX P w K mg base f cc A outer s H0 E) d19 (t o)) ∧
      ∀ (o : RO) (Dn : Ends) (v0 v2 v4 v5 v6 v7 v8 v9 v12 v13 v16 v17 : Option V) (b l a ga qa pa : Addr) (is : List Ins) (gs : List Nm) (pool wrong : List Ins) (H : Hp), (∀ n, o ≠ .pool n) → LW K CM CI Pt H b l a ga qa pa is gs pool wrong → 4 ≤ is.length → is.length ≤ 20 → reqO is.length gs pool = o → (o = if 17 < is.length then .gap 3 else .good) →
        (∀ H', Dn.rt (.bl true) H') → t o Dn (sT v0 (some (.ref b)) v2 (some (.int is.length)) v4 v5 v6 v7 v8 v9 v12 v13 v16 v17 a ga qa pa) H := by
  obtain ⟨t4, q4, r4⟩ := law_21 (f := f) (cc := cc) PP TB (A := A) (outer := outer) (s := s) (H0 := H0) (E := E) hr
  have nd := scLaw.nd
  have hr3 : Room 3 _ := hr.mono (by decide)
  have hr5 : Room 5 _ := hr.mono (by decide)
  obtain ⟨ocE, odE, dE, kE, docE, pmE, anE, cdE, ctE, oslE, rfl, lkE, hcE, _, _⟩ := PP.FF.ex
  have hk : ∀ o : RO, ∃ tb : XK → TE, (∀ n, o ≠ .pool n) → LamB (lX P w K mg base f cc A outer s H0 E) 8 (lmP (lM 7)) (lmB (lM 7)) (lmS (lM 7)) none tb ∧ ∀ (σ : L2.St) (H : Hp) (Ex : XK) (Q : VK), GQ K CM CI o σ H → OcK C H Ex Q (roO o) → tb Ex σ H Q := fun o => by
    by_cases h : ∀ n, o ≠ .pool n
    · obtain ⟨tb, h1, h2⟩ := lm7 (f := f) (cc := cc) PP.px (A := A) (outer := outer) (s := s) (H0 := H0) (E := E) h
      exact ⟨tb, fun _ => ⟨h1, h2⟩⟩
    · exact ⟨fun _ _ _ _ => False, fun h' => absurd h' h⟩
  obtain ⟨tbs, htb⟩ := Classical.axiomOfChoice hk
  refine ⟨fun o => _, fun o ho => pss_cons (ps_set (i := 9) nd rfl (.inl rfl) (pe_lamG0 (T := TT1 Pt) (TT := TFail C) (t := tbs o) rfl PP.hF PP.FF.kp lkE hcE PP.bF scFail rfl (.inl rfl) (fail_gives PP.px.fai).toG TB rfl tt1_m tt1_u (k := 8) hr hr3 lg7 rfl (fun _ _ _ _ _ => rfl) (htb o ho).1.run))
    (pss_cons (ps_if (pt_not (pt_val (pe_cal PP.alk hr5 pass0 (pa_cons (pv 9) (pa_cons (pe_ifExp (pt_cmpR op_gt (pv 3) pe_int (nomark _)) (pe_tup (pa_cons pe_str (pa_cons pe_int pa_nil))) pe_str) pa_nil))))) pss_no pss_nil) q4), ?_⟩
  intro o Dn v0 v2 v4 v5 v6 v7 v8 v9 v12 v13 v16 v17 b l a ga qa pa is gs pool wrong H ho g h4 h20 he hif kn
  refine ⟨g.T, fun H1 x1 T1 => ?_⟩
  have g1 := g.ext x1 T1
  refine (htb o ho).2 _ H1 _ _ ⟨_, _, _, _, _, _, _, _, _, _, _, _, _, _, a, ga, qa, pa, is, gs, pool, wrong, rfl, g1.L, he⟩ ?_
  by_cases h17 : 17 < is.length
  · rw [if_pos h17] at hif
    subst hif
    refine fun d H2 hd s2 hx => .dig (by decide) (by decide) hx fun p H3 hp s3 h3 => ?_
    have s13 := s2.trans s3
    have g3 := g1.same s13
    refine ⟨_, rfl, _, rfl, _, _, rfl, rfl, _, rfl, iteT' (decide_eq_true (by omega)) ⟨by show 2 ≤ sizeLine; decide, fun u hu => nilArgs ?_⟩⟩
    have s4 := Same.new (Same.refl H3) hu (o := .tup [.str "InvalidGaps", .int 3])
    have e4 : (upd H3 u (.tup [.str "InvalidGaps", .int 3])) u = some (.tup [.str "InvalidGaps", .int 3]) := upd_same
    have h4' := s4 _ _ h3
    generalize upd H3 u (.tup [.str "InvalidGaps", .int 3]) = H4 at s4 e4 h4' ⊢
    have g4 := g3.same s4
    exact ⟨_, _, .tuple [.str "InvalidGaps", .int 3], rfl, .tup (.inl (.inl h4')) (.cons (.str _) (.cons (.int _) .nil)), .tup (.inl (.inl e4)) (.cons (.str _) (.cons (.int _) .nil)), okD_g3, fun H5 s5 => ⟨true, rfl, iteF' rfl (r4 Dn _ _ _ _ _ _ _ _ _ _ _ _ b l a ga qa pa is gs pool wrong H5 (g4.same s5) h4 h20 kn)⟩⟩
  · rw [if_neg h17] at hif
    subst hif
    refine fun H2 s2 => .mk (by decide) fun H3 s3 => ?_
    have g3 := g1.same (s2.trans s3)
    refine ⟨_, rfl, _, rfl, _, _, rfl, rfl, _, rfl, iteF' (decide_eq_false (by omega)) ?_⟩
    exact ⟨_, _, .str (nmF 0), rfl, .str _, .str _, okD_n0, fun H5 s5 => ⟨true, rfl, iteF' rfl (r4 Dn _ _ _ _ _ _ _ _ _ _ _ _ b l a ga qa pa is gs pool wrong H5 (g3.same s5) h4 h20 kn)⟩⟩
end
end Om

namespace Om
open PySem PySem.Spec PyProof.Rows L2 LamX NdefX
def d17 : List Stmt := (defBody sLaw).drop 17
def d14 : List Stmt := (defBody sLaw).drop 14
def zsB (p : Nat) : List LZ := [(lM 4, none, .dig 3 p), (lM 5, some 0, .dig 3 p), (lM 6, some 0, .dig 3 6)]
theorem okzB (p : Nat) : ∀ z ∈ zsB p, OcOk z.2.2 := by
  intro z hz
  simp only [zsB, List.mem_cons, List.not_mem_nil, or_false] at hz
  rcases hz with rfl | rfl | rfl <;> exact ⟨by decide, by decide⟩
theorem okD_t (j : Nat) (m : Int) : okD 3 (.tuple [.str (nmF j), .int m]) = true := by
  show (decide (2 ≤ 10000) && (okD 2 (.str (nmF j)) && (okD 2 (.int m) && true))) = true
  rw [show okD 2 (.str (nmF j)) = true from by
    match j with
    | 0 => decide +kernel
    | 1 => decide +kernel
    | 2 => decide +kernel
    | j + 3 => show okD 2 (.str "InvalidPool") = true; decide +kernel]
  rfl
theorem okD_B (p : Nat) : okD 4 (.list ((zsB p).map fun z => outD z.2.2)) = true := by
  show (decide (3 ≤ 10000) && (okD 3 (.tuple [.str (nmF 3), .int (p : Nat)]) && (okD 3 (.tuple [.str (nmF 3), .int (p : Nat)]) && (okD 3 (.tuple [.str (nmF 3), .int ((6 : Nat) : Int)]) && true)))) = true
  rw [okD_t, okD_t]
  rfl
section
variable {P : Program} {w : World} {K : PySem.W.Frag} {mg : Str → Option Value} {base : Heap} {CM CI CB C0 CMp gF fM fN cc f Pt : Addr} {C : Nat → Addr} {fdF : FuncData}
theorem allB (PP : LPr P w K mg base CM CI CB C0 CMp gF fM fN C fdF) {A : Around} {outer : List Env} {s : Shared} {H0 : Hp} {E : XK} (p : Nat) : ∀ z ∈ zsB p, LF (lX P w K mg base f cc A outer s H0 E) 8 C (GW K CM CI (.pool p)) z := by
  intro z hz
  simp only [zsB, List.mem_cons, List.not_mem_nil, or_false] at hz
  rcases hz with rfl | rfl | rfl
  · exact lm4 PP.px (o := .pool p) (fun e => by cases e)
  · exact lm5 PP.px (o := .pool p) (fun e => by cases e)
  · exact lm6 PP.px
theorem law_17 (PP : LPr P w K mg base CM CI CB C0 CMp gF fM fN C fdF) (TB : TabB base mg cc Pt) {A : Around} {outer : List Env} {s : Shared} {H0 : Hp} {E : XK} (hr : Room 10 (A.deeper (envOfC "law" (defScope sLaw) s.heap.objs.size f (.ref cc)))) :
    ∃ t : Nat → RO → TS, (∀ p o, (∀ n, o ≠ .pool n) → PSs (lX P w K mg base f cc A outer s H0 E) d17 (t p o)) ∧
      ∀ (p : Nat) (o : RO) (Dn : Ends) (v0 v2 v4 v6 v7 v9 v12 v13 v16 v17 : Option V) (b l a ga qa pa wk : Addr) (fs : List Addr) (is : List Ins) (gs : List Nm) (pool wrong : List Ins) (H : Hp), (∀ n, o ≠ .pool n) → LW K CM CI Pt H b l a ga qa pa is gs pool wrong → 4 ≤ is.length → is.length ≤ 20 → reqO is.length gs wrong = .pool p → reqO is.length gs pool = o → (o = if 17 < is.length then .gap 3 else .good) →
        H wk = some (.lst (fs.map V.ref)) → LA (lX P w K mg base f cc A outer s H0 E) H fs (zsB p) → (∀ H', Dn.rt (.bl true) H') → t p o Dn (sT v0 (some (.ref b)) v2 (some (.int is.length)) v4 (some (.int (p : Nat))) v6 v7 (some (.ref wk)) v9 v12 v13 v16 v17 a ga qa pa) H := by
  obtain ⟨t4, q4, r4⟩ := law_19 (f := f) (cc := cc) PP TB (A := A) (outer := outer) (s := s) (H0 := H0) (E := E) hr
  have nd := scLaw.nd
  have hr3 : Room 3 _ := hr.mono (by decide)
  have hr5 : Room 5 _ := hr.mono (by decide)
  obtain ⟨ocE, odE, dE, kE, docE, pmE, anE, cdE, ctE, oslE, rfl, lkE, hcE, _, _⟩ := PP.FF.ex
  have hk := fun p => lf_choose (allB (f := f) (cc := cc) PP (A := A) (outer := outer) (s := s) (H0 := H0) (E := E) p)
  obtain ⟨tbs, htb⟩ := Classical.axiomOfChoice hk
  refine ⟨fun p o => _, fun p o ho => pss_cons (ps_set (i := 7) nd rfl (.inl rfl) (pe_lst (pa_cons (pe_tup (pa_cons pe_str (pa_cons (pv 5) pa_nil))) (pa_cons (pe_tup (pa_cons pe_str (pa_cons (pv 5) pa_nil))) (pa_cons (pe_tup (pa_cons pe_str (pa_cons pe_int pa_nil))) pa_nil)))))
    (pss_cons (ps_if (pt_not (pt_val (pe_cal PP.alk hr5 pass0 (pa_cons (pe_lcV (own := [("_law_work", 17)]) (g := gName 17) (te := tGiveV _ (jsOf (tbs p) (zsB p)) (TFail C) 17) rfl nd (pi_listK (K := K) rfl (pv 8)) blk18 (fun _ _ _ _ _ => pg_name (i := 17) nd rfl (.inl rfl)) (fun _ _ _ _ _ => pts_nil)
        (fun _ _ _ _ _ => pev_give (k := 8) rfl PP.hF PP.FF.kp lkE hcE PP.bF scFail rfl (.inl rfl) (fail_gives PP.px.fai) hr hr3 (fun j hj => by
          obtain ⟨z, hz, rfl⟩ := List.mem_map.mp hj
          exact (htb p z hz).1) rfl (.inl rfl))) (pa_cons (pv 7) pa_nil))))) pss_no pss_nil) (q4 o ho)), ?_⟩
  intro p o Dn v0 v2 v4 v6 v7 v9 v12 v13 v16 v17 b l a ga qa pa wk fs is gs pool wrong H ho g h4 h20 hw1 hp1 hif hw la kn
  refine ⟨_, rfl, by show 2 ≤ sizeLine; decide, fun u1 h1 => ⟨_, rfl, by show 2 ≤ sizeLine; decide, fun u2 h2 => ⟨by show 2 ≤ sizeLine; decide, fun u3 h3 => ⟨by show 3 ≤ sizeLine; decide, fun u4 hu4 => ?_⟩⟩⟩⟩
  have s1 := Same.new (Same.refl H) h1 (o := .tup [.str "InvalidPool", .int (p : Nat)])
  have e1 : (upd H u1 (.tup [.str "InvalidPool", .int (p : Nat)])) u1 = some (.tup [.str "InvalidPool", .int (p : Nat)]) := upd_same
  generalize upd H u1 (.tup [.str "InvalidPool", .int (p : Nat)]) = H1 at s1 e1 h2 h3 hu4 ⊢
  have s2 := Same.new (Same.refl H1) h2 (o := .tup [.str "InvalidPool", .int (p : Nat)])
  have e2 : (upd H1 u2 (.tup [.str "InvalidPool", .int (p : Nat)])) u2 = some (.tup [.str "InvalidPool", .int (p : Nat)]) := upd_same
  generalize upd H1 u2 (.tup [.str "InvalidPool", .int (p : Nat)]) = H2 at s2 e2 h3 hu4 ⊢
  have s3 := Same.new (Same.refl H2) h3 (o := .tup [.str "InvalidPool", .int 6])
  have e3 : (upd H2 u3 (.tup [.str "InvalidPool", .int 6])) u3 = some (.tup [.str "InvalidPool", .int 6]) := upd_same
  generalize upd H2 u3 (.tup [.str "InvalidPool", .int 6]) = H3 at s3 e3 hu4 ⊢
  have s4 := Same.new (Same.refl H3) hu4 (o := .lst [.ref u1, .ref u2, .ref u3])
  have e4 : (upd H3 u4 (.lst [.ref u1, .ref u2, .ref u3])) u4 = some (.lst [.ref u1, .ref u2, .ref u3]) := upd_same
  generalize upd H3 u4 (.lst [.ref u1, .ref u2, .ref u3]) = H4 at s4 e4 ⊢
  have s04 := s1.trans (s2.trans (s3.trans s4))
  have g4 := g.same s04
  have dU : Dp K H4 (.ref u4) (.list ((zsB p).map fun z => outD z.2.2)) :=
    .lst (.inl (.inl e4)) (.cons (.tup (.inl (.inl ((s2.trans (s3.trans s4)) _ _ e1))) (.cons (.str _) (.cons (.int _) .nil))) (.cons (.tup (.inl (.inl ((s3.trans s4) _ _ e2))) (.cons (.str _) (.cons (.int _) .nil))) (.cons (.tup (.inl (.inl (s4 _ _ e3))) (.cons (.str _) (.cons (.int _) .nil))) .nil)))
  refine ⟨_, rfl, wk, rfl, ⟨_, .inl (.inl (s04 _ _ hw))⟩, fun D hD => ?_⟩
  refine fails_wlk (K := K) (slot := 17) (G := GW K CM CI (.pool p)) hD (by show 17 < 18; decide) (s04 _ _ hw) (la.ext (Same.extN s04)) (fun z hz => (htb p z hz).2) (fun H' s' => ⟨_, _, _, _, _, _, _, _, _, _, _, _, _, _, a, ga, qa, pa, is, gs, pool, wrong, rfl, (g4.same s').L, hw1⟩) (okzB p) (by show 3 ≤ 50; decide) fun H5 s5 d5 => ?_
  refine ⟨_, rfl, nilArgs ⟨_, _, _, rfl, d5, Same.dp s5 dU, okD_B p, fun H6 s6 => ⟨true, rfl, iteF' rfl ?_⟩⟩⟩
  exact r4 o Dn _ _ _ _ _ _ _ _ _ _ _ _ b l a ga qa pa is gs pool wrong H6 ho (g4.same (s5.trans s6)) h4 h20 hp1 hif kn
theorem law_14 (PP : LPr P w K mg base CM CI CB C0 CMp gF fM fN C fdF) (TB : TabB base mg cc Pt) {A : Around} {outer : List Env} {s : Shared} {H0 : Hp} {E : XK} (hr : Room 10 (A.deeper (envOfC "law" (defScope sLaw) s.heap.objs.size f (.ref cc)))) :
    ∃ t : Nat → RO → TS, (∀ p o, (∀ n, o ≠ .pool n) → PSs (lX P w K mg base f cc A outer s H0 E) d14 (t p o)) ∧
      ∀ (p : Nat) (o : RO) (Dn : Ends) (v0 v2 v4 v6 v7 v8 v9 v12 v13 v16 v17 : Option V) (b l a ga qa pa : Addr) (is : List Ins) (gs : List Nm) (pool wrong : List Ins) (H : Hp), (∀ n, o ≠ .pool n) → LW K CM CI Pt H b l a ga qa pa is gs pool wrong → 4 ≤ is.length → is.length ≤ 20 →
        reqO is.length [.i 0, .i 2, .i is.length] wrong = .pool p → reqO is.length [.i 0, .i 2, .i is.length] pool = o → (o = if 17 < is.length then .gap 3 else .good) →
        (∀ H', Dn.rt (.bl true) H') → t p o Dn (sT v0 (some (.ref b)) v2 (some (.int is.length)) v4 (some (.int (p : Nat))) v6 v7 v8 v9 v12 v13 v16 v17 a ga qa pa) H := by
  obtain ⟨t4, q4, r4⟩ := law_17 (f := f) (cc := cc) PP TB (A := A) (outer := outer) (s := s) (H0 := H0) (E := E) hr
  have nd := scLaw.nd
  refine ⟨fun p o => _, fun p o ho => pss_cons (ps_set (i := 11) nd rfl (.inr rfl) (pe_tup (pa_cons pe_int (pa_cons pe_int (pa_cons (pv 3) pa_nil)))))
    (pss_cons (ps_set (i := 8) nd rfl (.inl rfl) (pe_lst (pa_cons (pe_lamV0 (T := TT1 Pt) TB rfl tt1_m tt1_u rfl lg4.free) (pa_cons (pe_lamV1 (T := TT1 Pt) TB rfl tt1_m tt1_u rfl lg5.free) pa_nil))))
    (pss_cons (ps_expr (pe_bm PySem.F.plainAttrs_list PySem.F.slot_list_append PySem.F.type_list_append mt_append (pv 8) (pa_cons (pe_lamV1 (T := TT1 Pt) TB rfl tt1_m tt1_u rfl lg6.free) pa_nil))) (q4 p o ho))), ?_⟩
  intro p o Dn v0 v2 v4 v6 v7 v8 v9 v12 v13 v16 v17 b l a ga qa pa is gs pool wrong H ho g h4 h20 hw1 hp1 hif kn
  refine ⟨_, rfl, by show 3 ≤ sizeLine; decide, fun gb hgb => ?_⟩
  have s0 := Same.new (Same.refl H) hgb (o := .tup [.int 0, .int 2, .int is.length])
  have e0 : (upd H gb (.tup [.int 0, .int 2, .int is.length])) gb = some (.tup [.int 0, .int 2, .int is.length]) := upd_same
  generalize upd H gb (.tup [.int 0, .int 2, .int is.length]) = Ha at s0 e0 ⊢
  have g0 : LW K CM CI Pt Ha b l a gb qa pa is [.i 0, .i 2, .i is.length] pool wrong := by
    have z := g.same s0
    exact ⟨z.B, ⟨⟨z.L.gw.mp, .inl (.inl e0), z.L.gw.P, z.L.gw.ln, (show 3 ≤ 1000 from by decide), z.L.gw.sm⟩, ⟨z.L.gp.mp, .inl (.inl e0), z.L.gp.P, z.L.gp.ln, (show 3 ≤ 1000 from by decide), z.L.gp.sm⟩⟩, z.T⟩
  refine ⟨g0.T, fun f1 H1 x1 T1 _ k1 => ⟨T1, fun f2 H2 x2 T2 _ k2 => ⟨by show 2 ≤ sizeLine; decide, fun w1 hw1' => ?_⟩⟩⟩
  have g2 := (g0.ext x1 T1).ext x2 T2
  have a1 : LA (lX P w K mg base f cc A outer s H0 E) H1 [f1] [(lM 4, none, .dig 3 p)] := LA.nil.snoc (z := (lM 4, none, .dig 3 p)) k1
  have a2 : LA (lX P w K mg base f cc A outer s H0 E) H2 [f1, f2] [(lM 4, none, .dig 3 p), (lM 5, some 0, .dig 3 p)] := (a1.ext x2).snoc (z := (lM 5, some 0, .dig 3 p)) k2
  have nb := g2.B.new hw1'
  have s3 := Same.new (Same.refl H2) hw1' (o := .lst ([f1, f2].map V.ref))
  have e3 : (upd H2 w1 (.lst ([f1, f2].map V.ref))) w1 = some (.lst ([f1, f2].map V.ref)) := upd_same
  have eh : (upd H2 w1 (.lst [.ref f1, .ref f2])) = upd H2 w1 (.lst ([f1, f2].map V.ref)) := rfl
  rw [eh]
  generalize upd H2 w1 (.lst ([f1, f2].map V.ref)) = H3 at s3 e3 ⊢
  have g3 := g2.same s3
  have a3 := a2.ext (Same.extN s3)
  refine ⟨_, rfl, .inl ⟨rfl, _, .inl (.inl e3)⟩, g3.T, fun f3 H4 x4 T4 _ k3 => nilArgs ?_⟩
  have e4 := x4 _ _ e3 fun ps e => by cases e
  refine ⟨w1, _, _, rfl, rfl, e4, by show 2 < sizeLine; decide, ?_⟩
  have g5 := (g3.ext x4 T4).app (o' := .lst ([f1, f2, f3].map V.ref)) e4 nb.1 nb.2
  have a5 : LA (lX P w K mg base f cc A outer s H0 E) (upd H4 w1 (.lst ([f1, f2, f3].map V.ref))) [f1, f2, f3] (zsB p) := ((a3.ext x4).snoc (z := (lM 6, some 0, .dig 3 6)) k3).app e4
  exact r4 p o Dn _ _ _ _ _ _ _ _ _ _ b l a gb qa pa w1 [f1, f2, f3] is _ pool wrong _ ho g5 h4 h20 hw1 hp1 hif upd_same a5 kn
end
end Om

namespace Om
open PySem PySem.Spec PyProof.Rows L2 LamX NdefX
def d13 : List Stmt := (defBody sLaw).drop 13
def d11 : List Stmt := (defBody sLaw).drop 11
def zsA (n : Nat) : List LZ := [(lM 1, none, .dig 2 n), (lM 2, some 0, .dig 2 n), (lM 3, some 0, .dig 2 n)]
theorem okzA (n : Nat) : ∀ z ∈ zsA n, OcOk z.2.2 := by
  intro z hz
  simp only [zsA, List.mem_cons, List.not_mem_nil, or_false] at hz
  rcases hz with rfl | rfl | rfl <;> exact ⟨by decide, by decide⟩
theorem okD_A (n : Nat) : okD 4 (.list ((zsA n).map fun z => outD z.2.2)) = true := by
  show (decide (3 ≤ 10000) && (okD 3 (.tuple [.str (nmF 2), .int (n : Nat)]) && (okD 3 (.tuple [.str (nmF 2), .int (n : Nat)]) && (okD 3 (.tuple [.str (nmF 2), .int (n : Nat)]) && true)))) = true
  rw [okD_t]
  rfl
section
variable {P : Program} {w : World} {K : PySem.W.Frag} {mg : Str → Option Value} {base : Heap} {CM CI CB C0 CMp gF fM fN cc f Pt : Addr} {C : Nat → Addr} {fdF : FuncData}
theorem allA (PP : LPr P w K mg base CM CI CB C0 CMp gF fM fN C fdF) {A : Around} {outer : List Env} {s : Shared} {H0 : Hp} {E : XK} (n : Nat) : ∀ z ∈ zsA n, LF (lX P w K mg base f cc A outer s H0 E) 8 C (GW K CM CI (.gap n)) z := by
  intro z hz
  simp only [zsA, List.mem_cons, List.not_mem_nil, or_false] at hz
  rcases hz with rfl | rfl | rfl
  · exact lm1 PP.px (o := .gap n) (fun e => by cases e)
  · exact lm2 PP.px (o := .gap n) (fun e => by cases e)
  · exact lm3 PP.px (o := .gap n) (fun e => by cases e)
theorem law_13 (PP : LPr P w K mg base CM CI CB C0 CMp gF fM fN C fdF) (TB : TabB base mg cc Pt) {A : Around} {outer : List Env} {s : Shared} {H0 : Hp} {E : XK} (hr : Room 10 (A.deeper (envOfC "law" (defScope sLaw) s.heap.objs.size f (.ref cc)))) :
    ∃ t : Nat → Nat → RO → TS, (∀ k p o, (∀ n, o ≠ .pool n) → PSs (lX P w K mg base f cc A outer s H0 E) d13 (t k p o)) ∧
      ∀ (k p : Nat) (o : RO) (Dn : Ends) (v0 v2 v4 v6 v9 v12 v13 v16 v17 : Option V) (b l a ga qa pa wk : Addr) (fs : List Addr) (is : List Ins) (gs : List Nm) (pool wrong : List Ins) (H : Hp), (∀ n, o ≠ .pool n) → LW K CM CI Pt H b l a ga qa pa is gs pool wrong → 4 ≤ is.length → is.length ≤ 20 → reqO is.length gs wrong = .gap k →
        reqO is.length [.i 0, .i 2, .i is.length] wrong = .pool p → reqO is.length [.i 0, .i 2, .i is.length] pool = o → (o = if 17 < is.length then .gap 3 else .good) →
        H wk = some (.lst (fs.map V.ref)) → LA (lX P w K mg base f cc A outer s H0 E) H fs (zsA k) → (∀ H', Dn.rt (.bl true) H') → t k p o Dn (sT v0 (some (.ref b)) v2 (some (.int is.length)) v4 (some (.int (p : Nat))) v6 (some (.int (k : Nat))) (some (.ref wk)) v9 v12 v13 v16 v17 a ga qa pa) H := by
  obtain ⟨t4, q4, r4⟩ := law_14 (f := f) (cc := cc) PP TB (A := A) (outer := outer) (s := s) (H0 := H0) (E := E) hr
  have nd := scLaw.nd
  have hr3 : Room 3 _ := hr.mono (by decide)
  have hr5 : Room 5 _ := hr.mono (by decide)
  obtain ⟨ocE, odE, dE, kE, docE, pmE, anE, cdE, ctE, oslE, rfl, lkE, hcE, _, _⟩ := PP.FF.ex
  have hk := fun p => lf_choose (allA (f := f) (cc := cc) PP (A := A) (outer := outer) (s := s) (H0 := H0) (E := E) p)
  obtain ⟨tbs, htb⟩ := Classical.axiomOfChoice hk
  refine ⟨fun k p o => _, fun k p o ho => pss_cons (ps_if (pt_not (pt_val (pe_cal PP.alk hr5 pass0 (pa_cons (pe_lcV (own := [("_law_work", 17)]) (g := gName 17) (te := tGiveV _ (jsOf (tbs k) (zsA k)) (TFail C) 17) rfl nd (pi_listK (K := K) rfl (pv 8)) blk13 (fun _ _ _ _ _ => pg_name (i := 17) nd rfl (.inl rfl)) (fun _ _ _ _ _ => pts_nil)
        (fun _ _ _ _ _ => pev_give (k := 8) rfl PP.hF PP.FF.kp lkE hcE PP.bF scFail rfl (.inl rfl) (fail_gives PP.px.fai) hr hr3 (fun j hj => by
          obtain ⟨z, hz, rfl⟩ := List.mem_map.mp hj
          exact (htb k z hz).1) rfl (.inl rfl))) (pa_cons (pe_op op_rep (pe_lst (pa_cons (pe_tup (pa_cons pe_str (pa_cons (pv 7) pa_nil))) pa_nil)) pe_int) pa_nil))))) pss_no pss_nil) (q4 p o ho), ?_⟩
  intro k p o Dn v0 v2 v4 v6 v9 v12 v13 v16 v17 b l a ga qa pa wk fs is gs pool wrong H ho g h4 h20 hk1 hw1 hp1 hif hw la kn
  refine ⟨_, rfl, wk, rfl, ⟨_, .inl (.inl hw)⟩, fun D hD => ?_⟩
  refine fails_wlk (K := K) (slot := 17) (G := GW K CM CI (.gap k)) hD (by show 17 < 18; decide) hw la (fun z hz => (htb k z hz).2) (fun H' s' => ⟨_, _, _, _, _, _, _, _, _, _, _, _, _, _, a, ga, qa, pa, is, gs, pool, wrong, rfl, (g.same s').L, hk1⟩) (okzA k) (by show 3 ≤ 50; decide) fun H1 s1 d1 => ?_
  refine ⟨_, rfl, by show 2 ≤ sizeLine; decide, fun u1 h1 => ⟨by show 1 ≤ sizeLine; decide, fun u2 h2 => ?_⟩⟩
  have s2 := Same.new (Same.refl H1) h1 (o := .tup [.str "InvalidGaps", .int (k : Nat)])
  have e2 : (upd H1 u1 (.tup [.str "InvalidGaps", .int (k : Nat)])) u1 = some (.tup [.str "InvalidGaps", .int (k : Nat)]) := upd_same
  generalize upd H1 u1 (.tup [.str "InvalidGaps", .int (k : Nat)]) = H2 at s2 e2 h2 ⊢
  have s3 := Same.new (Same.refl H2) h2 (o := .lst [.ref u1])
  have e3 : (upd H2 u2 (.lst [.ref u1])) u2 = some (.lst [.ref u1]) := upd_same
  generalize upd H2 u2 (.lst [.ref u1]) = H3 at s3 e3 ⊢
  refine ⟨u2, 3, _, rfl, rfl, e3, by decide, by decide, by show 1 * 3 ≤ sizeLine; decide, fun u3 h3 => nilArgs ?_⟩
  have s4 := Same.new (Same.refl H3) h3 (o := .lst (List.replicate (3 : Int).toNat [V.ref u1]).flatten)
  have e4 : (upd H3 u3 (.lst (List.replicate (3 : Int).toNat [V.ref u1]).flatten)) u3 = some (.lst [.ref u1, .ref u1, .ref u1]) := by rw [upd_same]; rfl
  generalize upd H3 u3 (.lst (List.replicate (3 : Int).toNat [V.ref u1]).flatten) = H4 at s4 e4 ⊢
  have s14 := s2.trans (s3.trans s4)
  have dT : Dp K H4 (.ref u1) (.tuple [.str (nmF 2), .int (k : Nat)]) := .tup (.inl (.inl ((s3.trans s4) _ _ e2))) (.cons (.str _) (.cons (.int _) .nil))
  refine ⟨_, _, _, rfl, Same.dp s14 d1, .lst (.inl (.inl e4)) (.cons dT (.cons dT (.cons dT .nil))), okD_A k, fun H6 s6 => ⟨true, rfl, iteF' rfl ?_⟩⟩
  exact r4 p o Dn _ _ _ _ _ _ _ _ _ _ _ b l a ga qa pa is gs pool wrong H6 ho (g.same (s1.trans (s14.trans s6))) h4 h20 hw1 hp1 hif kn
theorem law_11 (PP : LPr P w K mg base CM CI CB C0 CMp gF fM fN C fdF) (TB : TabB base mg cc Pt) {A : Around} {outer : List Env} {s : Shared} {H0 : Hp} {E : XK} (hr : Room 10 (A.deeper (envOfC "law" (defScope sLaw) s.heap.objs.size f (.ref cc)))) :
    ∃ t : Nat → Nat → RO → TS, (∀ k p o, (∀ n, o ≠ .pool n) → PSs (lX P w K mg base f cc A outer s H0 E) d11 (t k p o)) ∧
      ∀ (k p : Nat) (o : RO) (Dn : Ends) (v0 v2 v4 v6 v8 v9 v12 v13 v16 v17 : Option V) (b l a ga qa pa : Addr) (is : List Ins) (gs : List Nm) (pool wrong : List Ins) (H : Hp), (∀ n, o ≠ .pool n) → LW K CM CI Pt H b l a ga qa pa is gs pool wrong → 4 ≤ is.length → is.length ≤ 20 → reqO is.length gs wrong = .gap k →
        reqO is.length [.i 0, .i 2, .i is.length] wrong = .pool p → reqO is.length [.i 0, .i 2, .i is.length] pool = o → (o = if 17 < is.length then .gap 3 else .good) →
        (∀ H', Dn.rt (.bl true) H') → t k p o Dn (sT v0 (some (.ref b)) v2 (some (.int is.length)) v4 (some (.int (p : Nat))) v6 (some (.int (k : Nat))) v8 v9 v12 v13 v16 v17 a ga qa pa) H := by
  obtain ⟨t4, q4, r4⟩ := law_13 (f := f) (cc := cc) PP TB (A := A) (outer := outer) (s := s) (H0 := H0) (E := E) hr
  have nd := scLaw.nd
  refine ⟨fun k p o => _, fun k p o ho => pss_cons (ps_set (i := 8) nd rfl (.inl rfl) (pe_lst (pa_cons (pe_lamV0 (T := TT1 Pt) TB rfl tt1_m tt1_u rfl lg1.free) (pa_cons (pe_lamV1 (T := TT1 Pt) TB rfl tt1_m tt1_u rfl lg2.free) pa_nil))))
    (pss_cons (ps_expr (pe_bm PySem.F.plainAttrs_list PySem.F.slot_list_append PySem.F.type_list_append mt_append (pv 8) (pa_cons (pe_lamV1 (T := TT1 Pt) TB rfl tt1_m tt1_u rfl lg3.free) pa_nil))) (q4 k p o ho)), ?_⟩
  intro k p o Dn v0 v2 v4 v6 v8 v9 v12 v13 v16 v17 b l a ga qa pa is gs pool wrong H ho g0 h4 h20 hk1 hw1 hp1 hif kn
  refine ⟨g0.T, fun f1 H1 x1 T1 _ k1 => ⟨T1, fun f2 H2 x2 T2 _ k2 => ⟨by show 2 ≤ sizeLine; decide, fun w1 hw1' => ?_⟩⟩⟩
  have g2 := (g0.ext x1 T1).ext x2 T2
  have a1 : LA (lX P w K mg base f cc A outer s H0 E) H1 [f1] [(lM 1, none, .dig 2 k)] := LA.nil.snoc (z := (lM 1, none, .dig 2 k)) k1
  have a2 : LA (lX P w K mg base f cc A outer s H0 E) H2 [f1, f2] [(lM 1, none, .dig 2 k), (lM 2, some 0, .dig 2 k)] := (a1.ext x2).snoc (z := (lM 2, some 0, .dig 2 k)) k2
  have nb := g2.B.new hw1'
  have s3 := Same.new (Same.refl H2) hw1' (o := .lst ([f1, f2].map V.ref))
  have e3 : (upd H2 w1 (.lst ([f1, f2].map V.ref))) w1 = some (.lst ([f1, f2].map V.ref)) := upd_same
  have eh : (upd H2 w1 (.lst [.ref f1, .ref f2])) = upd H2 w1 (.lst ([f1, f2].map V.ref)) := rfl
  rw [eh]
  generalize upd H2 w1 (.lst ([f1, f2].map V.ref)) = H3 at s3 e3 ⊢
  have g3 := g2.same s3
  have a3 := a2.ext (Same.extN s3)
  refine ⟨_, rfl, .inl ⟨rfl, _, .inl (.inl e3)⟩, g3.T, fun f3 H4 x4 T4 _ k3 => nilArgs ?_⟩
  have e4 := x4 _ _ e3 fun ps e => by cases e
  refine ⟨w1, _, _, rfl, rfl, e4, by show 2 < sizeLine; decide, ?_⟩
  have g5 := (g3.ext x4 T4).app (o' := .lst ([f1, f2, f3].map V.ref)) e4 nb.1 nb.2
  have a5 : LA (lX P w K mg base f cc A outer s H0 E) (upd H4 w1 (.lst ([f1, f2, f3].map V.ref))) [f1, f2, f3] (zsA k) := ((a3.ext x4).snoc (z := (lM 3, some 0, .dig 2 k)) k3).app e4
  exact r4 k p o Dn _ _ _ _ _ _ _ _ _ b l a ga qa pa w1 [f1, f2, f3] is _ pool wrong _ ho g5 h4 h20 hk1 hw1 hp1 hif upd_same a5 kn
end
end Om

namespace Om
open PySem PySem.Spec PyProof.Rows L2 LamX NdefX
def d10 : List Stmt := (defBody sLaw).drop 10
def d8 : List Stmt := (defBody sLaw).drop 8
/-- gaps that cannot be, with the index of the first that is wrong -/
def bads (n : Nat) : List (List Nm × Nat) := [([.i (-1)], 0), ([.i 0, .i 0], 1), ([.i 1, .i ((n : Int) + 1)], 1), ([.i 0, .i 1, .i 2, .i 3], 3), ([.i 2, .i 1], 1), ([.i 0, .b true], 1), ([.i 0, .i 1, .i 1], 2)]
theorem gap_go {m lo n : Int} {r : List Nm} {i : Nat} (hi : i ≠ 3) (h1 : lo ≤ m) (h2 : m ≤ n) : gapI (.i m :: r) lo i n = gapI r (m + 1) (i + 1) n := by
  show (if i = 3 then some i else if (decide (lo ≤ m) && decide (m ≤ n)) = true then gapI r (m + 1) (i + 1) n else some i) = _
  rw [if_neg hi, decide_eq_true h1, decide_eq_true h2]
  rfl
theorem gap_no {g : Nm} {lo n : Int} {r : List Nm} {i : Nat} (h : inN g lo n = false) : gapI (g :: r) lo i n = some i := by
  show (if i = 3 then some i else if inN g lo n = true then gapI r (g.num + 1) (i + 1) n else some i) = _
  rw [h, if_neg Bool.false_ne_true]
  split <;> rfl
theorem gap_3 {g : Nm} {lo n : Int} {r : List Nm} : gapI (g :: r) lo 3 n = some 3 := by
  show (if 3 = 3 then some 3 else _) = _
  rw [if_pos rfl]
theorem in_lo {m lo n : Int} (h : m < lo) : inN (.i m) lo n = false := by
  show (decide (lo ≤ m) && decide (m ≤ n)) = false
  rw [decide_eq_false (by omega), Bool.false_and]
theorem in_hi {m lo n : Int} (h : n < m) : inN (.i m) lo n = false := by
  show (decide (lo ≤ m) && decide (m ≤ n)) = false
  rw [decide_eq_false (show ¬ m ≤ n by omega), Bool.and_false]
theorem bads_gap {n : Nat} (h : 4 ≤ n) : ∀ x ∈ bads n, gapI x.1 0 0 n = some x.2 ∧ x.1.length ≤ 1000 := by
  intro x hx
  simp only [bads, List.mem_cons, List.not_mem_nil, or_false] at hx
  rcases hx with rfl | rfl | rfl | rfl | rfl | rfl | rfl <;> refine ⟨?_, (by simp)⟩
  · exact gap_no (in_lo (by omega))
  · exact (gap_go (by decide) (by omega) (by omega)).trans (gap_no (in_lo (by omega)))
  · exact (gap_go (by decide) (by omega) (by omega)).trans (gap_no (in_hi (by omega)))
  · exact (gap_go (by decide) (by omega) (by omega)).trans ((gap_go (by decide) (by omega) (by omega)).trans ((gap_go (by decide) (by omega) (by omega)).trans gap_3))
  · exact (gap_go (by decide) (by omega) (by omega)).trans (gap_no (in_lo (by omega)))
  · exact (gap_go (by decide) (by omega) (by omega)).trans (gap_no rfl)
  · exact (gap_go (by decide) (by omega) (by omega)).trans ((gap_go (by decide) (by omega) (by omega)).trans (gap_no (in_lo (by omega))))
theorem gaps_ok {n : Nat} (h : 4 ≤ n) : gapI [.i 0, .i 2, .i n] 0 0 n = none :=
  (gap_go (by decide) (by omega) (by omega)).trans ((gap_go (by decide) (by omega) (by omega)).trans ((gap_go (by decide) (by omega) (by omega)).trans rfl))
theorem poolI_odd : ∀ (u : List Ins) (x : Ins) (v : List Ins) (i : Nat), (∀ y ∈ u, y.ok = true) → x.ok = false → i + u.length ≤ 5 → poolI (u ++ x :: v) i = some (i + u.length)
  | [], x, v, i, _, hx, hi => by
    show (if i = 6 then some i else if x.ok = true then poolI v (i + 1) else some i) = some (i + 0)
    rw [if_neg (by simp only [List.length_nil] at hi; omega), hx, if_neg Bool.false_ne_true]
    rfl
  | y :: u, x, v, i, hu, hx, hi => by
    rw [List.length_cons] at hi
    show (if i = 6 then some i else if y.ok = true then poolI (u ++ x :: v) (i + 1) else some i) = some (i + (u.length + 1))
    rw [if_neg (by omega), if_pos (hu y List.mem_cons_self), poolI_odd u x v (i + 1) (fun z hz => hu z (List.mem_cons_of_mem _ hz)) hx (by omega)]
    congr 1
    omega
theorem poolI_ok : ∀ (u : List Ins) (i : Nat), (∀ y ∈ u, y.ok = true) → i + u.length ≤ 5 → poolI u i = none
  | [], _, _, _ => rfl
  | y :: u, i, hu, hi => by
    rw [List.length_cons] at hi
    show (if i = 6 then some i else if y.ok = true then poolI u (i + 1) else some i) = none
    rw [if_neg (by omega), if_pos (hu y List.mem_cons_self), poolI_ok u (i + 1) (fun z hz => hu z (List.mem_cons_of_mem _ hz)) (by omega)]
/-- all but the gaps -/
structure LV (K : PySem.W.Frag) (CM CI Pt : Addr) (H : Hp) (b l a qa pa : Addr) (is pool wrong : List Ins) : Prop where
  B : Bx H b l
  mp : ∃ sg fs, Mp K CM CI H a R0 sg fs is
  P : ∃ xs, SqT K H qa xs ∧ DpAll K H xs (pool.map Ins.d)
  W : ∃ xs, SqT K H pa xs ∧ DpAll K H xs (wrong.map Ins.d)
  T : Tabs (TT1 Pt) H
structure LP (is pool wrong : List Ins) (p : Nat) : Prop where
  h4 : 4 ≤ is.length
  h20 : is.length ≤ 20
  pk : ∀ y ∈ pool, y.ok = true
  pl : pool.length ≤ 5
  sp : SmI pool
  sw : SmI wrong
  wr : ∃ (u : List Ins) (x : Ins) (v : List Ins), wrong = u ++ x :: v ∧ (∀ y ∈ u, y.ok = true) ∧ x.ok = false ∧ u.length ≤ 5 ∧ u.length = p
theorem LV.same {K : PySem.W.Frag} {CM CI Pt : Addr} {H H' : Hp} {b l a qa pa : Addr} {is pool wrong : List Ins} (h : LV K CM CI Pt H b l a qa pa is pool wrong) (s : Same H H') : LV K CM CI Pt H' b l a qa pa is pool wrong := by
  obtain ⟨B, ⟨sg, fs, M⟩, ⟨xs, h1, h2⟩, ⟨ys, h3, h4⟩, T⟩ := h
  exact ⟨B.same s, ⟨sg, fs, M.same s⟩, ⟨xs, Same.tup s h1, Same.dpAll s h2⟩, ⟨ys, Same.tup s h3, Same.dpAll s h4⟩, T.ext s⟩
theorem LV.kp {K : PySem.W.Frag} {CM CI Pt : Addr} {H H' : Hp} {b l a qa pa : Addr} {is pool wrong : List Ins} (h : LV K CM CI Pt H b l a qa pa is pool wrong) (k : Kp b l H H') (B' : Bx H' b l) : LV K CM CI Pt H' b l a qa pa is pool wrong := by
  obtain ⟨B, ⟨sg, fs, M⟩, ⟨xs, h1, h2⟩, ⟨ys, h3, h4⟩, T⟩ := h
  exact ⟨B', ⟨sg, fs, M.via (kp_ins B k) (kp_tup B k)⟩, ⟨xs, kp_tup B k _ _ h1, dpAll_noL (kp_tup B k) (noL_inss _) h2⟩, ⟨ys, kp_tup B k _ _ h3, dpAll_noL (kp_tup B k) (noL_inss _) h4⟩, tabs_kpb T B k⟩
def BadAt (K : PySem.W.Frag) (H : Hp) (v : V) (x : List Nm × Nat) : Prop := ∃ t g, v = .ref t ∧ SqT K H t [.ref g, .int (x.2 : Nat)] ∧ SqT K H g (x.1.map Nm.v)
theorem BadAt.same {K : PySem.W.Frag} {H H' : Hp} {v : V} {x : List Nm × Nat} (h : BadAt K H v x) (s : Same H H') : BadAt K H' v x := by
  obtain ⟨t, g, h1, h2, h3⟩ := h
  exact ⟨t, g, h1, Same.tup s h2, Same.tup s h3⟩
theorem BadAt.kp {K : PySem.W.Frag} {H H' : Hp} {v : V} {x : List Nm × Nat} {b l : Addr} (h : BadAt K H v x) (B : Bx H b l) (k : Kp b l H H') : BadAt K H' v x := by
  obtain ⟨t, g, h1, h2, h3⟩ := h
  exact ⟨t, g, h1, SqT.kp B k h2, SqT.kp B k h3⟩
abbrev sE (v0 v2 v4 v6 v7 v8 v9 v11 v12 v13 v16 v17 : Option V) (b a qa pa : Addr) (n p : Nat) : L2.St := [v0, some (.ref b), v2, some (.int (n : Nat)), v4, some (.int (p : Nat)), v6, v7, v8, v9, some (.ref a), v11, v12, v13, some (.ref qa), some (.ref pa), v16, v17]
section
variable {P : Program} {w : World} {K : PySem.W.Frag} {mg : Str → Option Value} {base : Heap} {CM CI CB C0 CMp gF fM fN cc f Pt : Addr} {C : Nat → Addr} {fdF : FuncData}
theorem law_10 (PP : LPr P w K mg base CM CI CB C0 CMp gF fM fN C fdF) (TB : TabB base mg cc Pt) {A : Around} {outer : List Env} {s : Shared} {H0 : Hp} {E : XK} (hr : Room 10 (A.deeper (envOfC "law" (defScope sLaw) s.heap.objs.size f (.ref cc)))) :
    ∃ t, PSs (lX P w K mg base f cc A outer s H0 E) d10 t ∧
      ∀ (Dn : Ends) (v0 v2 v4 v7 v8 v9 v11 v12 v13 v16 v17 : Option V) (b l a qa pa bd : Addr) (is pool wrong : List Ins) (p : Nat) (ys : List V) (H : Hp), LV K CM CI Pt H b l a qa pa is pool wrong → LP is pool wrong p → H bd = some (.lst ys) → bd ≠ b → bd ≠ l → ys.length = 7 → (∀ (i : Nat) (y : V) (x : List Nm × Nat), ys[i]? = some y → (bads is.length)[i]? = some x → BadAt K H y x) →
        (∀ H', Dn.rt (.bl true) H') → t Dn (sE v0 v2 v4 (some (.ref bd)) v7 v8 v9 v11 v12 v13 v16 v17 b a qa pa is.length p) H := by
  obtain ⟨t4, q4, r4⟩ := law_11 (f := f) (cc := cc) PP TB (A := A) (outer := outer) (s := s) (H0 := H0) (E := E) hr
  have nd := scLaw.nd
  have hr1 : Room 1 _ := hr.mono (by decide)
  have qq : PSs (lX P w K mg base f cc A outer s H0 E) d11 (fun D σ H => ∃ k p o, (∀ n, o ≠ RO.pool n) ∧ t4 k p o D σ H) := ⟨fun pins s σ H D I ⟨k, p, o, ho, h⟩ => (q4 k p o ho).run pins s σ H D I h⟩
  refine ⟨_, pss_cons (ps_asg (pe_ix ix_list (pv 6) (pe_cal PP.nxt hr1 pass0 (pa_cons (pv 1) (pa_cons pe_int pa_nil))) (fun _ _ => rfl)) (pg_tup rfl (pgs_cons (pg_name (i := 11) nd rfl (.inr rfl)) (pgs_cons (pg_name (i := 7) nd rfl (.inl rfl)) pgs_nil)))) qq, ?_⟩
  intro Dn v0 v2 v4 v7 v8 v9 v11 v12 v13 v16 v17 b l a qa pa bd is pool wrong p ys H g lp hb nb nl hy hB kn
  refine ⟨_, rfl, _, rfl, b, l, 7, rfl, g.B, by decide, by decide, fun j H1 j0 j1 B1 K1 => ?_⟩
  have g1 := g.kp K1 B1
  have hj : j.toNat < ys.length := by omega
  have hyj := List.getElem?_eq_getElem hj
  have hjb : j.toNat < (bads is.length).length := by show j.toNat < 7; omega
  have hxj := List.getElem?_eq_getElem hjb
  have hxm := List.getElem_mem hjb
  generalize ys[j.toNat] = y at hyj
  generalize (bads is.length)[j.toNat] = x at hxj hxm
  obtain ⟨tp, ga, rfl, ht, hg⟩ := (hB _ _ _ hyj hxj).kp g.B K1
  obtain ⟨gx, gl⟩ := bads_gap lp.h4 x hxm
  have hat : atI ys j = some (.ref tp) := by
    have z := atI_nat hyj
    rwa [Int.toNat_of_nonneg j0] at z
  refine ⟨bd, _, j, _, rfl, rfl, .inl (.inl (K1 _ _ hb nb nl)), hat, ?_⟩
  refine ⟨tp, _, rfl, ht, rfl, _, _, rfl, _, _, rfl, rfl, ?_⟩
  have gw : GP K CM CI H1 a ga pa R0 is x.1 wrong := ⟨g1.mp, hg, g1.W, by have := lp.h20; omega, gl, lp.sw⟩
  have gp : GP K CM CI H1 a ga qa R0 is x.1 pool := ⟨g1.mp, hg, g1.P, by have := lp.h20; omega, gl, lp.sp⟩
  obtain ⟨u, z, v, e1, e2, e3, e4, e5⟩ := lp.wr
  refine ⟨x.2, p, (if 17 < is.length then .gap 3 else .good), fun n => by split <;> simp, ?_⟩
  refine r4 x.2 p _ Dn _ _ _ _ _ _ _ _ _ _ b l a ga qa pa is x.1 pool wrong H1 (fun n => by split <;> simp) ⟨g1.B, ⟨gw, gp⟩, g1.T⟩ lp.h4 lp.h20 ?_ ?_ ?_ rfl kn
  · unfold reqO
    rw [gx]
  · unfold reqO
    have ep : poolI wrong 0 = some p := by
      rw [e1, poolI_odd u z v 0 e2 e3 (by omega), Nat.zero_add, e5]
    rw [gaps_ok lp.h4, ep]
  · unfold reqO
    rw [gaps_ok lp.h4, poolI_ok pool 0 lp.pk (by have := lp.pl; omega)]
    show (if 20 < is.length + 3 then RO.gap 3 else .good) = _
    by_cases h : 17 < is.length
    · rw [if_pos h, if_pos (by omega)]
    · rw [if_neg h, if_neg (by omega)]
end
end Om

namespace Om
open PySem PySem.Spec PyProof.Rows L2 LamX NdefX
section
variable {P : Program} {w : World} {K : PySem.W.Frag} {mg : Str → Option Value} {base : Heap} {CM CI CB C0 CMp gF fM fN cc f Pt : Addr} {C : Nat → Addr} {fdF : FuncData}
theorem law_8 (PP : LPr P w K mg base CM CI CB C0 CMp gF fM fN C fdF) (TB : TabB base mg cc Pt) {A : Around} {outer : List Env} {s : Shared} {H0 : Hp} {E : XK} (hr : Room 10 (A.deeper (envOfC "law" (defScope sLaw) s.heap.objs.size f (.ref cc)))) :
    ∃ t, PSs (lX P w K mg base f cc A outer s H0 E) d8 t ∧
      ∀ (Dn : Ends) (v0 v2 v4 v6 v7 v8 v9 v11 v12 v13 v16 v17 : Option V) (b l a qa pa : Addr) (is pool wrong : List Ins) (p : Nat) (H : Hp), LV K CM CI Pt H b l a qa pa is pool wrong → LP is pool wrong p →
        (∀ H', Dn.rt (.bl true) H') → t Dn (sE v0 v2 v4 v6 v7 v8 v9 v11 v12 v13 v16 v17 b a qa pa is.length p) H := by
  obtain ⟨t4, q4, r4⟩ := law_10 (f := f) (cc := cc) PP TB (A := A) (outer := outer) (s := s) (H0 := H0) (E := E) hr
  have nd := scLaw.nd
  refine ⟨_, pss_cons (ps_set (i := 6) nd rfl (.inl rfl) (pe_lst (pa_cons (pe_tup (pa_cons (pe_tup (pa_cons (pe_op op_sub pe_int pe_int) pa_nil)) (pa_cons pe_int pa_nil))) (pa_cons (pe_tup (pa_cons (pe_tup (pa_cons pe_int (pa_cons pe_int pa_nil))) (pa_cons pe_int pa_nil))) (pa_cons (pe_tup (pa_cons (pe_tup (pa_cons pe_int (pa_cons (pe_op op_add (pv 3) pe_int) pa_nil))) (pa_cons pe_int pa_nil))) (pa_cons (pe_tup (pa_cons (pe_tup (pa_cons pe_int (pa_cons pe_int (pa_cons pe_int (pa_cons pe_int pa_nil))))) (pa_cons pe_int pa_nil))) pa_nil))))))
    (pss_cons (ps_set (i := 6) nd rfl (.inl rfl) (pe_op op_cat (pv 6) (pe_lst (pa_cons (pe_tup (pa_cons (pe_tup (pa_cons pe_int (pa_cons pe_int pa_nil))) (pa_cons pe_int pa_nil))) (pa_cons (pe_tup (pa_cons (pe_tup (pa_cons pe_int (pa_cons pe_bl pa_nil))) (pa_cons pe_int pa_nil))) (pa_cons (pe_tup (pa_cons (pe_tup (pa_cons pe_int (pa_cons pe_int (pa_cons pe_int pa_nil)))) (pa_cons pe_int pa_nil))) pa_nil)))))) q4), ?_⟩
  intro Dn v0 v2 v4 v6 v7 v8 v9 v11 v12 v13 v16 v17 b l a qa pa is pool wrong p H g lp kn
  refine ⟨_, _, rfl, rfl, by show 1 ≤ sizeLine; decide, fun g0 hg0 => ?_⟩
  have sg0 := Same.new (Same.refl H) hg0 (o := .tup [.int (0 - 1)])
  have eg0 : (upd H g0 (.tup [.int (0 - 1)])) g0 = some (.tup [.int (0 - 1)]) := upd_same
  generalize upd H g0 (.tup [.int (0 - 1)]) = Hx1 at sg0 eg0 ⊢
  refine ⟨by show 2 ≤ sizeLine; decide, fun t0 ht0 => ?_⟩
  have st0 := Same.new (Same.refl Hx1) ht0 (o := .tup [.ref g0, .int (0 : Nat)])
  have et0 : (upd Hx1 t0 (.tup [.ref g0, .int (0 : Nat)])) t0 = some (.tup [.ref g0, .int (0 : Nat)]) := upd_same
  generalize upd Hx1 t0 (.tup [.ref g0, .int (0 : Nat)]) = Hx2 at st0 et0 ⊢
  refine ⟨by show 2 ≤ sizeLine; decide, fun g1 hg1 => ?_⟩
  have sg1 := Same.new (Same.refl Hx2) hg1 (o := .tup [.int 0, .int 0])
  have eg1 : (upd Hx2 g1 (.tup [.int 0, .int 0])) g1 = some (.tup [.int 0, .int 0]) := upd_same
  generalize upd Hx2 g1 (.tup [.int 0, .int 0]) = Hx3 at sg1 eg1 ⊢
  refine ⟨by show 2 ≤ sizeLine; decide, fun t1 ht1 => ?_⟩
  have st1 := Same.new (Same.refl Hx3) ht1 (o := .tup [.ref g1, .int (1 : Nat)])
  have et1 : (upd Hx3 t1 (.tup [.ref g1, .int (1 : Nat)])) t1 = some (.tup [.ref g1, .int (1 : Nat)]) := upd_same
  generalize upd Hx3 t1 (.tup [.ref g1, .int (1 : Nat)]) = Hx4 at st1 et1 ⊢
  refine ⟨_, rfl, _, _, rfl, rfl, by show 2 ≤ sizeLine; decide, fun g2 hg2 => ?_⟩
  have sg2 := Same.new (Same.refl Hx4) hg2 (o := .tup [.int 1, .int ((is.length : Int) + 1)])
  have eg2 : (upd Hx4 g2 (.tup [.int 1, .int ((is.length : Int) + 1)])) g2 = some (.tup [.int 1, .int ((is.length : Int) + 1)]) := upd_same
  generalize upd Hx4 g2 (.tup [.int 1, .int ((is.length : Int) + 1)]) = Hx5 at sg2 eg2 ⊢
  refine ⟨by show 2 ≤ sizeLine; decide, fun t2 ht2 => ?_⟩
  have st2 := Same.new (Same.refl Hx5) ht2 (o := .tup [.ref g2, .int (1 : Nat)])
  have et2 : (upd Hx5 t2 (.tup [.ref g2, .int (1 : Nat)])) t2 = some (.tup [.ref g2, .int (1 : Nat)]) := upd_same
  generalize upd Hx5 t2 (.tup [.ref g2, .int (1 : Nat)]) = Hx6 at st2 et2 ⊢
  refine ⟨by show 4 ≤ sizeLine; decide, fun g3 hg3 => ?_⟩
  have sg3 := Same.new (Same.refl Hx6) hg3 (o := .tup [.int 0, .int 1, .int 2, .int 3])
  have eg3 : (upd Hx6 g3 (.tup [.int 0, .int 1, .int 2, .int 3])) g3 = some (.tup [.int 0, .int 1, .int 2, .int 3]) := upd_same
  generalize upd Hx6 g3 (.tup [.int 0, .int 1, .int 2, .int 3]) = Hx7 at sg3 eg3 ⊢
  refine ⟨by show 2 ≤ sizeLine; decide, fun t3 ht3 => ?_⟩
  have st3 := Same.new (Same.refl Hx7) ht3 (o := .tup [.ref g3, .int (3 : Nat)])
  have et3 : (upd Hx7 t3 (.tup [.ref g3, .int (3 : Nat)])) t3 = some (.tup [.ref g3, .int (3 : Nat)]) := upd_same
  generalize upd Hx7 t3 (.tup [.ref g3, .int (3 : Nat)]) = Hx8 at st3 et3 ⊢
  refine ⟨by show 4 ≤ sizeLine; decide, fun w1 hw1 => ?_⟩
  have sw1 := Same.new (Same.refl Hx8) hw1 (o := .lst [.ref t0, .ref t1, .ref t2, .ref t3])
  have ew1 : (upd Hx8 w1 (.lst [.ref t0, .ref t1, .ref t2, .ref t3])) w1 = some (.lst [.ref t0, .ref t1, .ref t2, .ref t3]) := upd_same
  generalize upd Hx8 w1 (.lst [.ref t0, .ref t1, .ref t2, .ref t3]) = Hx9 at sw1 ew1 ⊢
  refine ⟨_, rfl, ?_⟩
  refine ⟨by show 2 ≤ sizeLine; decide, fun g4 hg4 => ?_⟩
  have sg4 := Same.new (Same.refl Hx9) hg4 (o := .tup [.int 2, .int 1])
  have eg4 : (upd Hx9 g4 (.tup [.int 2, .int 1])) g4 = some (.tup [.int 2, .int 1]) := upd_same
  generalize upd Hx9 g4 (.tup [.int 2, .int 1]) = Hx10 at sg4 eg4 ⊢
  refine ⟨by show 2 ≤ sizeLine; decide, fun t4 ht4 => ?_⟩
  have st4 := Same.new (Same.refl Hx10) ht4 (o := .tup [.ref g4, .int (1 : Nat)])
  have et4 : (upd Hx10 t4 (.tup [.ref g4, .int (1 : Nat)])) t4 = some (.tup [.ref g4, .int (1 : Nat)]) := upd_same
  generalize upd Hx10 t4 (.tup [.ref g4, .int (1 : Nat)]) = Hx11 at st4 et4 ⊢
  refine ⟨by show 2 ≤ sizeLine; decide, fun g5 hg5 => ?_⟩
  have sg5 := Same.new (Same.refl Hx11) hg5 (o := .tup [.int 0, .bl true])
  have eg5 : (upd Hx11 g5 (.tup [.int 0, .bl true])) g5 = some (.tup [.int 0, .bl true]) := upd_same
  generalize upd Hx11 g5 (.tup [.int 0, .bl true]) = Hx12 at sg5 eg5 ⊢
  refine ⟨by show 2 ≤ sizeLine; decide, fun t5 ht5 => ?_⟩
  have st5 := Same.new (Same.refl Hx12) ht5 (o := .tup [.ref g5, .int (1 : Nat)])
  have et5 : (upd Hx12 t5 (.tup [.ref g5, .int (1 : Nat)])) t5 = some (.tup [.ref g5, .int (1 : Nat)]) := upd_same
  generalize upd Hx12 t5 (.tup [.ref g5, .int (1 : Nat)]) = Hx13 at st5 et5 ⊢
  refine ⟨by show 3 ≤ sizeLine; decide, fun g6 hg6 => ?_⟩
  have sg6 := Same.new (Same.refl Hx13) hg6 (o := .tup [.int 0, .int 1, .int 1])
  have eg6 : (upd Hx13 g6 (.tup [.int 0, .int 1, .int 1])) g6 = some (.tup [.int 0, .int 1, .int 1]) := upd_same
  generalize upd Hx13 g6 (.tup [.int 0, .int 1, .int 1]) = Hx14 at sg6 eg6 ⊢
  refine ⟨by show 2 ≤ sizeLine; decide, fun t6 ht6 => ?_⟩
  have st6 := Same.new (Same.refl Hx14) ht6 (o := .tup [.ref g6, .int (2 : Nat)])
  have et6 : (upd Hx14 t6 (.tup [.ref g6, .int (2 : Nat)])) t6 = some (.tup [.ref g6, .int (2 : Nat)]) := upd_same
  generalize upd Hx14 t6 (.tup [.ref g6, .int (2 : Nat)]) = Hx15 at st6 et6 ⊢
  refine ⟨by show 3 ≤ sizeLine; decide, fun w2 hw2 => ?_⟩
  have sw2 := Same.new (Same.refl Hx15) hw2 (o := .lst [.ref t4, .ref t5, .ref t6])
  have ew2 : (upd Hx15 w2 (.lst [.ref t4, .ref t5, .ref t6])) w2 = some (.lst [.ref t4, .ref t5, .ref t6]) := upd_same
  generalize upd Hx15 w2 (.lst [.ref t4, .ref t5, .ref t6]) = Hx16 at sw2 ew2 ⊢
  refine ⟨w1, w2, _, _, rfl, rfl, (sg4.trans (st4.trans (sg5.trans (st5.trans (sg6.trans (st6.trans (sw2))))))) _ _ ew1, ew2, by show 4 + 3 ≤ sizeLine; decide, fun w3 hw3 => ?_⟩
  have gH := g.same (sg0.trans (st0.trans (sg1.trans (st1.trans (sg2.trans (st2.trans (sg3.trans (st3.trans (sw1.trans (sg4.trans (st4.trans (sg5.trans (st5.trans (sg6.trans (st6.trans (sw2))))))))))))))))
  have nb := gH.B.new hw3
  have s3 := Same.new (Same.refl Hx16) hw3 (o := .lst [.ref t0, .ref t1, .ref t2, .ref t3, .ref t4, .ref t5, .ref t6])
  have e3 : (upd Hx16 w3 (.lst [.ref t0, .ref t1, .ref t2, .ref t3, .ref t4, .ref t5, .ref t6])) w3 = some (.lst [.ref t0, .ref t1, .ref t2, .ref t3, .ref t4, .ref t5, .ref t6]) := upd_same
  show (fun (Hx : Hp) => _) (upd Hx16 w3 (.lst [.ref t0, .ref t1, .ref t2, .ref t3, .ref t4, .ref t5, .ref t6]))
  have b0 : BadAt K Hx16 (.ref t0) ((bads is.length).getD 0 ([], 0)) := ⟨t0, g0, rfl, .inl (.inl ((sg1.trans (st1.trans (sg2.trans (st2.trans (sg3.trans (st3.trans (sw1.trans (sg4.trans (st4.trans (sg5.trans (st5.trans (sg6.trans (st6.trans (sw2)))))))))))))) _ _ et0)), .inl (.inl ((st0.trans (sg1.trans (st1.trans (sg2.trans (st2.trans (sg3.trans (st3.trans (sw1.trans (sg4.trans (st4.trans (sg5.trans (st5.trans (sg6.trans (st6.trans (sw2))))))))))))))) _ _ eg0))⟩
  have b1 : BadAt K Hx16 (.ref t1) ((bads is.length).getD 1 ([], 0)) := ⟨t1, g1, rfl, .inl (.inl ((sg2.trans (st2.trans (sg3.trans (st3.trans (sw1.trans (sg4.trans (st4.trans (sg5.trans (st5.trans (sg6.trans (st6.trans (sw2)))))))))))) _ _ et1)), .inl (.inl ((st1.trans (sg2.trans (st2.trans (sg3.trans (st3.trans (sw1.trans (sg4.trans (st4.trans (sg5.trans (st5.trans (sg6.trans (st6.trans (sw2))))))))))))) _ _ eg1))⟩
  have b2 : BadAt K Hx16 (.ref t2) ((bads is.length).getD 2 ([], 0)) := ⟨t2, g2, rfl, .inl (.inl ((sg3.trans (st3.trans (sw1.trans (sg4.trans (st4.trans (sg5.trans (st5.trans (sg6.trans (st6.trans (sw2)))))))))) _ _ et2)), .inl (.inl ((st2.trans (sg3.trans (st3.trans (sw1.trans (sg4.trans (st4.trans (sg5.trans (st5.trans (sg6.trans (st6.trans (sw2))))))))))) _ _ eg2))⟩
  have b3 : BadAt K Hx16 (.ref t3) ((bads is.length).getD 3 ([], 0)) := ⟨t3, g3, rfl, .inl (.inl ((sw1.trans (sg4.trans (st4.trans (sg5.trans (st5.trans (sg6.trans (st6.trans (sw2)))))))) _ _ et3)), .inl (.inl ((st3.trans (sw1.trans (sg4.trans (st4.trans (sg5.trans (st5.trans (sg6.trans (st6.trans (sw2))))))))) _ _ eg3))⟩
  have b4 : BadAt K Hx16 (.ref t4) ((bads is.length).getD 4 ([], 0)) := ⟨t4, g4, rfl, .inl (.inl ((sg5.trans (st5.trans (sg6.trans (st6.trans (sw2))))) _ _ et4)), .inl (.inl ((st4.trans (sg5.trans (st5.trans (sg6.trans (st6.trans (sw2)))))) _ _ eg4))⟩
  have b5 : BadAt K Hx16 (.ref t5) ((bads is.length).getD 5 ([], 0)) := ⟨t5, g5, rfl, .inl (.inl ((sg6.trans (st6.trans (sw2))) _ _ et5)), .inl (.inl ((st5.trans (sg6.trans (st6.trans (sw2)))) _ _ eg5))⟩
  have b6 : BadAt K Hx16 (.ref t6) ((bads is.length).getD 6 ([], 0)) := ⟨t6, g6, rfl, .inl (.inl ((sw2) _ _ et6)), .inl (.inl ((st6.trans (sw2)) _ _ eg6))⟩
  refine r4 Dn _ _ _ _ _ _ _ _ _ _ _ b l a qa pa w3 is pool wrong p [.ref t0, .ref t1, .ref t2, .ref t3, .ref t4, .ref t5, .ref t6] _ (gH.same s3) lp e3 nb.1 nb.2 rfl (fun i y x hy hx => ?_) kn
  match i, hy, hx with
  | 0, hy, hx => cases hy; cases hx; exact b0.same s3
  | 1, hy, hx => cases hy; cases hx; exact b1.same s3
  | 2, hy, hx => cases hy; cases hx; exact b2.same s3
  | 3, hy, hx => cases hy; cases hx; exact b3.same s3
  | 4, hy, hx => cases hy; cases hx; exact b4.same s3
  | 5, hy, hx => cases hy; cases hx; exact b5.same s3
  | 6, hy, hx => cases hy; cases hx; exact b6.same s3
  | _ + 7, hy, hx => cases hx
end
end Om

namespace Om
open PySem PySem.Spec PyProof.Rows L2 LamX NdefX
theorem cutV_from (xs : List V) (k : Nat) : cutV xs (some (k : Int)) none = xs.drop k := by
  unfold cutV
  rw [HT.sIx_none, HT.sIx_nat]
  by_cases h : k ≤ xs.length
  · rw [Nat.min_eq_left h, List.take_of_length_le (by rw [List.length_drop]; omega)]
  · rw [Nat.min_eq_right (by omega), List.drop_of_length_le (Nat.le_refl _), List.take_nil, List.drop_of_length_le (by omega)]

def d6 : List Stmt := (defBody sLaw).drop 6
def d4 : List Stmt := (defBody sLaw).drop 4
def d3 : List Stmt := (defBody sLaw).drop 3
def oddsI : List Ins := [.walk (.i 3) (.i 2), .turn [], .turn [.i 4], .shore (.i 2) (.i 0) (.i 1), .upto [126], .near [65] (.i 23)]
theorem wavy : Str.ofString "~" = tx [126] := by decide +kernel
theorem big_A : Str.ofString "A" = tx [65] := by decide +kernel
theorem dps {K : PySem.W.Frag} {H : Hp} {x : Str} {s : List Nat} (e : x = tx s) : Dp K H (.str x) (dt s) := by
  rw [e]
  exact .str _
theorem oddsI_bad : ∀ i ∈ oddsI, i.ok = false ∧ i.small = true := by
  intro i hi
  simp only [oddsI, List.mem_cons, List.not_mem_nil, or_false] at hi
  rcases hi with rfl | rfl | rfl | rfl | rfl | rfl <;> exact ⟨by decide, by decide⟩
/-- ahead of the pool's parting -/
structure LU (K : PySem.W.Frag) (CM CI Pt : Addr) (H : Hp) (b l a qa : Addr) (is pool : List Ins) : Prop where
  B : Bx H b l
  mp : ∃ sg fs, Mp K CM CI H a R0 sg fs is
  P : ∃ xs, SqT K H qa xs ∧ DpAll K H xs (pool.map Ins.d)
  T : Tabs (TT1 Pt) H
theorem LU.same {K : PySem.W.Frag} {CM CI Pt : Addr} {H H' : Hp} {b l a qa : Addr} {is pool : List Ins} (h : LU K CM CI Pt H b l a qa is pool) (s : Same H H') : LU K CM CI Pt H' b l a qa is pool := by
  obtain ⟨B, ⟨sg, fs, M⟩, ⟨xs, h1, h2⟩, T⟩ := h
  exact ⟨B.same s, ⟨sg, fs, M.same s⟩, ⟨xs, Same.tup s h1, Same.dpAll s h2⟩, T.ext s⟩
theorem LU.kp {K : PySem.W.Frag} {CM CI Pt : Addr} {H H' : Hp} {b l a qa : Addr} {is pool : List Ins} (h : LU K CM CI Pt H b l a qa is pool) (k : Kp b l H H') (B' : Bx H' b l) : LU K CM CI Pt H' b l a qa is pool := by
  obtain ⟨B, ⟨sg, fs, M⟩, ⟨xs, h1, h2⟩, T⟩ := h
  exact ⟨B', ⟨sg, fs, M.via (kp_ins B k) (kp_tup B k)⟩, ⟨xs, kp_tup B k _ _ h1, dpAll_noL (kp_tup B k) (noL_inss _) h2⟩, tabs_kpb T B k⟩
structure LQ (is pool : List Ins) : Prop where
  h4 : 4 ≤ is.length
  h20 : is.length ≤ 20
  pk : ∀ y ∈ pool, y.ok = true
  pl : pool.length ≤ 5
  sp : SmI pool
theorem dp_ins_kp {K : PySem.W.Frag} {H H' : Hp} {b l : Addr} {v : V} {i : Ins} (B : Bx H b l) (k : Kp b l H H') (h : Dp K H v i.d) : Dp K H' v i.d := dp_noL (kp_tup B k) (noL_ins i) h
section
variable {P : Program} {w : World} {K : PySem.W.Frag} {mg : Str → Option Value} {base : Heap} {CM CI CB C0 CMp gF fM fN cc f Pt : Addr} {C : Nat → Addr} {fdF : FuncData}
theorem law_6 (PP : LPr P w K mg base CM CI CB C0 CMp gF fM fN C fdF) (TB : TabB base mg cc Pt) (glen : mg "len" = none) {A : Around} {outer : List Env} {s : Shared} {H0 : Hp} {E : XK} (hr : Room 10 (A.deeper (envOfC "law" (defScope sLaw) s.heap.objs.size f (.ref cc)))) :
    ∃ t, PSs (lX P w K mg base f cc A outer s H0 E) d6 t ∧
      ∀ (Dn : Ends) (v0 v2 v5 v6 v7 v8 v9 v11 v12 v13 v15 v16 v17 : Option V) (b l a qa : Addr) (is pool : List Ins) (vo : V) (od : Ins) (H : Hp), LU K CM CI Pt H b l a qa is pool → LQ is pool → Dp K H vo od.d → od.ok = false → od.small = true →
        (∀ H', Dn.rt (.bl true) H') → t Dn [v0, some (.ref b), v2, some (.int is.length), some vo, v5, v6, v7, v8, v9, some (.ref a), v11, v12, v13, some (.ref qa), v15, v16, v17] H := by
  obtain ⟨t4, q4, r4⟩ := law_8 (f := f) (cc := cc) PP TB (A := A) (outer := outer) (s := s) (H0 := H0) (E := E) hr
  have nd := scLaw.nd
  have hr1 : Room 1 _ := hr.mono (by decide)
  refine ⟨_, pss_cons (ps_set (i := 5) nd rfl (.inl rfl) (pe_cal PP.nxt hr1 pass0 (pa_cons (pv 1) (pa_cons (pe_op op_add (pe_callB call_len_seq (by rfl) glen PySem.boot_len (pa_cons (pv 14) pa_nil)) pe_int) pa_nil))))
    (pss_cons (ps_set (i := 15) nd rfl (.inr rfl) (pe_op op_catA (pe_op op_catA (pe_slice sl_tupA (pv 14) po_none (po_some (pv 5))) (pe_tup (pa_cons (pv 4) pa_nil))) (pe_slice sl_tupA (pv 14) (po_some (pv 5)) po_none))) q4), ?_⟩
  intro Dn v0 v2 v5 v6 v7 v8 v9 v11 v12 v13 v15 v16 v17 b l a qa is pool vo od H g lq ho o1 o2 kn
  obtain ⟨xs, hX, hD⟩ := id g.P
  have hxl := dpAll_len hD
  rw [List.length_map] at hxl
  have hpl := lq.pl
  refine ⟨_, rfl, _, rfl, qa, _, rfl, .inr hX, _, _, rfl, rfl, b, l, _, rfl, g.B, by omega, by omega, fun p H1 p0 p1 B1 K1 => ?_⟩
  have g1 := g.kp K1 B1
  have ho1 := dp_ins_kp g.B K1 ho
  have hX1 := kp_tup g.B K1 _ _ hX
  have hD1 : DpAll K H1 xs (pool.map Ins.d) := dpAll_noL (kp_tup g.B K1) (noL_inss _) hD
  obtain ⟨q, rfl⟩ : ∃ q : Nat, p = (q : Nat) := ⟨p.toNat, (Int.toNat_of_nonneg p0).symm⟩
  have hq : q ≤ pool.length := by omega
  refine ⟨_, rfl, noPart ⟨_, rfl, _, rfl, ?_⟩⟩
  refine slA_read hX1 fun p1 H2 s2 hp1 => ?_
  rw [cutV_upto] at hp1
  refine ⟨_, rfl, by show 1 ≤ sizeLine; decide, fun t1 ht1 => ?_⟩
  have s3 := Same.new (Same.refl H2) ht1 (o := .tup [vo])
  have e3 : (upd H2 t1 (.tup [vo])) t1 = some (.tup [vo]) := upd_same
  generalize upd H2 t1 (.tup [vo]) = H3 at s3 e3 ⊢
  refine catA_read (Same.tup s3 hp1) (.inl (.inl e3)) (by rw [List.length_take, List.length_singleton]; exact small_le (by omega)) fun p2 H4 s4 hp2 => ?_
  refine ⟨_, rfl, _, rfl, _, rfl, noPart ?_⟩
  have s14 := s2.trans (s3.trans s4)
  refine slA_read (Same.tup s14 hX1) fun p3 H5 s5 hp3 => ?_
  rw [cutV_from] at hp3
  refine catA_read (Same.tup s5 hp2) hp3 (by rw [List.length_append, List.length_take, List.length_singleton, List.length_drop]; exact small_le (by omega)) fun p4 H6 s6 hp4 => ?_
  have s16 := s14.trans (s5.trans s6)
  have g6 := g1.same s16
  have hW : DpAll K H6 ((xs.take q ++ [vo]) ++ xs.drop q) ((pool.take q ++ od :: pool.drop q).map Ins.d) := by
    have e : (pool.take q ++ od :: pool.drop q).map Ins.d = (((pool.map Ins.d).take q) ++ [od.d]) ++ (pool.map Ins.d).drop q := by
      rw [List.map_append, List.map_cons, List.map_take, List.map_drop, List.append_assoc]
      rfl
    rw [e]
    have z := Same.dpAll s16 hD1
    exact dpAll_app (dpAll_app (dpAll_take q z) (.cons (Same.dp s16 ho1) .nil)) (dpAll_drop q z)
  refine r4 Dn _ _ _ _ _ _ _ _ _ _ _ _ b l a qa p4 is pool (pool.take q ++ od :: pool.drop q) q H6 ⟨g6.B, g6.mp, g6.P, ⟨_, hp4, hW⟩, g6.T⟩ ⟨lq.h4, lq.h20, lq.pk, lq.pl, lq.sp, ⟨?_, fun x hx => ?_⟩, pool.take q, od, pool.drop q, rfl, fun y hy => lq.pk y (List.mem_of_mem_take hy), o1, ?_, ?_⟩ kn
  · rw [List.length_append, List.length_cons, List.length_take, List.length_drop]
    omega
  · rcases List.mem_append.mp hx with h | h
    · exact lq.sp.all x (List.mem_of_mem_take h)
    · rcases List.mem_cons.mp h with h | h
      · rw [h]; exact o2
      · exact lq.sp.all x (List.mem_of_mem_drop h)
  · rw [List.length_take]; omega
  · rw [List.length_take]; omega
theorem law_4 (PP : LPr P w K mg base CM CI CB C0 CMp gF fM fN C fdF) (TB : TabB base mg cc Pt) (glen : mg "len" = none) {A : Around} {outer : List Env} {s : Shared} {H0 : Hp} {E : XK} (hr : Room 10 (A.deeper (envOfC "law" (defScope sLaw) s.heap.objs.size f (.ref cc)))) :
    ∃ t, PSs (lX P w K mg base f cc A outer s H0 E) d4 t ∧
      ∀ (Dn : Ends) (v0 v2 v4 v5 v6 v7 v8 v9 v11 v12 v13 v15 v16 v17 : Option V) (b l a qa : Addr) (is pool : List Ins) (H : Hp), LU K CM CI Pt H b l a qa is pool → LQ is pool →
        (∀ H', Dn.rt (.bl true) H') → t Dn [v0, some (.ref b), v2, some (.int is.length), v4, v5, v6, v7, v8, v9, some (.ref a), v11, v12, v13, some (.ref qa), v15, v16, v17] H := by
  obtain ⟨t4, q4, r4⟩ := law_6 (f := f) (cc := cc) PP TB glen (A := A) (outer := outer) (s := s) (H0 := H0) (E := E) hr
  have nd := scLaw.nd
  have hr1 : Room 1 _ := hr.mono (by decide)
  refine ⟨_, pss_cons (ps_set (i := 4) nd rfl (.inl rfl) (pe_lst (pa_cons (pe_tup (pa_cons pe_str (pa_cons pe_int (pa_cons pe_int pa_nil)))) (pa_cons (pe_tup (pa_cons pe_str (pa_cons (pe_tup pa_nil) pa_nil))) (pa_cons (pe_tup (pa_cons pe_str (pa_cons (pe_tup (pa_cons pe_int pa_nil)) pa_nil))) (pa_cons (pe_tup (pa_cons pe_str (pa_cons pe_int (pa_cons pe_int (pa_cons pe_int pa_nil))))) (pa_cons (pe_tup (pa_cons pe_str (pa_cons pe_str pa_nil))) (pa_cons (pe_tup (pa_cons pe_str (pa_cons pe_str (pa_cons pe_int pa_nil)))) pa_nil))))))))
    (pss_cons (ps_set (i := 4) nd rfl (.inl rfl) (pe_ix ix_list (pv 4) (pe_cal PP.nxt hr1 pass0 (pa_cons (pv 1) (pa_cons pe_int pa_nil))) (fun _ _ => rfl))) q4), ?_⟩
  intro Dn v0 v2 v4 v5 v6 v7 v8 v9 v11 v12 v13 v15 v16 v17 b l a qa is pool H g lq kn
  refine ⟨by show 3 ≤ sizeLine; decide, fun u0 hu0 => ?_⟩
  have su0 := Same.new (Same.refl H) hu0 (o := .tup [.str "walk", .int 3, .int 2])
  have eu0 : (upd H u0 (.tup [.str "walk", .int 3, .int 2])) u0 = some (.tup [.str "walk", .int 3, .int 2]) := upd_same
  generalize upd H u0 (.tup [.str "walk", .int 3, .int 2]) = Hx1 at su0 eu0 ⊢
  refine ⟨by show 0 ≤ sizeLine; decide, fun x1 hx1 => ?_⟩
  have sx1 := Same.new (Same.refl Hx1) hx1 (o := .tup [])
  have ex1 : (upd Hx1 x1 (.tup [])) x1 = some (.tup []) := upd_same
  generalize upd Hx1 x1 (.tup []) = Hx2 at sx1 ex1 ⊢
  refine ⟨by show 2 ≤ sizeLine; decide, fun u1 hu1 => ?_⟩
  have su1 := Same.new (Same.refl Hx2) hu1 (o := .tup [.str "turn", .ref x1])
  have eu1 : (upd Hx2 u1 (.tup [.str "turn", .ref x1])) u1 = some (.tup [.str "turn", .ref x1]) := upd_same
  generalize upd Hx2 u1 (.tup [.str "turn", .ref x1]) = Hx3 at su1 eu1 ⊢
  refine ⟨by show 1 ≤ sizeLine; decide, fun x2 hx2 => ?_⟩
  have sx2 := Same.new (Same.refl Hx3) hx2 (o := .tup [.int 4])
  have ex2 : (upd Hx3 x2 (.tup [.int 4])) x2 = some (.tup [.int 4]) := upd_same
  generalize upd Hx3 x2 (.tup [.int 4]) = Hx4 at sx2 ex2 ⊢
  refine ⟨by show 2 ≤ sizeLine; decide, fun u2 hu2 => ?_⟩
  have su2 := Same.new (Same.refl Hx4) hu2 (o := .tup [.str "turn", .ref x2])
  have eu2 : (upd Hx4 u2 (.tup [.str "turn", .ref x2])) u2 = some (.tup [.str "turn", .ref x2]) := upd_same
  generalize upd Hx4 u2 (.tup [.str "turn", .ref x2]) = Hx5 at su2 eu2 ⊢
  refine ⟨by show 4 ≤ sizeLine; decide, fun u3 hu3 => ?_⟩
  have su3 := Same.new (Same.refl Hx5) hu3 (o := .tup [.str "shore", .int 2, .int 0, .int 1])
  have eu3 : (upd Hx5 u3 (.tup [.str "shore", .int 2, .int 0, .int 1])) u3 = some (.tup [.str "shore", .int 2, .int 0, .int 1]) := upd_same
  generalize upd Hx5 u3 (.tup [.str "shore", .int 2, .int 0, .int 1]) = Hx6 at su3 eu3 ⊢
  refine ⟨by show 2 ≤ sizeLine; decide, fun u4 hu4 => ?_⟩
  have su4 := Same.new (Same.refl Hx6) hu4 (o := .tup [.str "until", .str "~"])
  have eu4 : (upd Hx6 u4 (.tup [.str "until", .str "~"])) u4 = some (.tup [.str "until", .str "~"]) := upd_same
  generalize upd Hx6 u4 (.tup [.str "until", .str "~"]) = Hx7 at su4 eu4 ⊢
  refine ⟨by show 3 ≤ sizeLine; decide, fun u5 hu5 => ?_⟩
  have su5 := Same.new (Same.refl Hx7) hu5 (o := .tup [.str "near", .str "A", .int 23])
  have eu5 : (upd Hx7 u5 (.tup [.str "near", .str "A", .int 23])) u5 = some (.tup [.str "near", .str "A", .int 23]) := upd_same
  generalize upd Hx7 u5 (.tup [.str "near", .str "A", .int 23]) = Hx8 at su5 eu5 ⊢
  refine ⟨by show 6 ≤ sizeLine; decide, fun w1 hw1 => ?_⟩
  have sw1 := Same.new (Same.refl Hx8) hw1 (o := .lst [.ref u0, .ref u1, .ref u2, .ref u3, .ref u4, .ref u5])
  have ew1 : (upd Hx8 w1 (.lst [.ref u0, .ref u1, .ref u2, .ref u3, .ref u4, .ref u5])) w1 = some (.lst [.ref u0, .ref u1, .ref u2, .ref u3, .ref u4, .ref u5]) := upd_same
  have sall := su0.trans (sx1.trans (su1.trans (sx2.trans (su2.trans (su3.trans (su4.trans (su5.trans (sw1))))))))
  have nb : w1 ≠ b ∧ w1 ≠ l := by
    obtain ⟨ns, z, j, k1, k2, _⟩ := g.B.ex
    have s0 : Same H Hx8 := su0.trans (sx1.trans (su1.trans (sx2.trans (su2.trans (su3.trans (su4.trans (su5)))))))
    exact ⟨(fun e => by rw [e, s0 _ _ k1] at hw1; cases hw1), (fun e => by rw [e, s0 _ _ k2] at hw1; cases hw1)⟩
  show (fun (Hx : Hp) => _) (upd Hx8 w1 (.lst [.ref u0, .ref u1, .ref u2, .ref u3, .ref u4, .ref u5]))
  generalize upd Hx8 w1 (.lst [.ref u0, .ref u1, .ref u2, .ref u3, .ref u4, .ref u5]) = H9 at sw1 ew1 sall ⊢
  have g9 := g.same sall
  have d0 : Dp K H9 (.ref u0) ((oddsI.getD 0 (.turn [])).d) := .tup (.inl (.inl ((sx1.trans (su1.trans (sx2.trans (su2.trans (su3.trans (su4.trans (su5.trans (sw1)))))))) _ _ eu0))) (.cons (.str _) (.cons (.int _) (.cons (.int _) .nil)))
  have d1 : Dp K H9 (.ref u1) ((oddsI.getD 1 (.turn [])).d) := .tup (.inl (.inl ((sx2.trans (su2.trans (su3.trans (su4.trans (su5.trans (sw1)))))) _ _ eu1))) (.cons (.str _) (.cons (.tup (.inl (.inl ((su1.trans (sx2.trans (su2.trans (su3.trans (su4.trans (su5.trans (sw1))))))) _ _ ex1))) .nil) .nil))
  have d2 : Dp K H9 (.ref u2) ((oddsI.getD 2 (.turn [])).d) := .tup (.inl (.inl ((su3.trans (su4.trans (su5.trans (sw1)))) _ _ eu2))) (.cons (.str _) (.cons (.tup (.inl (.inl ((su2.trans (su3.trans (su4.trans (su5.trans (sw1))))) _ _ ex2))) (.cons (.int _) .nil)) .nil))
  have d3 : Dp K H9 (.ref u3) ((oddsI.getD 3 (.turn [])).d) := .tup (.inl (.inl ((su4.trans (su5.trans (sw1))) _ _ eu3))) (.cons (.str _) (.cons (.int _) (.cons (.int _) (.cons (.int _) .nil))))
  have d4 : Dp K H9 (.ref u4) ((oddsI.getD 4 (.turn [])).d) := .tup (.inl (.inl ((su5.trans (sw1)) _ _ eu4))) (.cons (.str _) (.cons (dps wavy) .nil))
  have d5 : Dp K H9 (.ref u5) ((oddsI.getD 5 (.turn [])).d) := .tup (.inl (.inl ((sw1) _ _ eu5))) (.cons (.str _) (.cons (dps big_A) (.cons (.int _) .nil)))
  refine ⟨_, rfl, _, rfl, b, l, 6, rfl, g9.B, by decide, by decide, fun j H1 j0 j1 B1 K1 => ?_⟩
  have g1 := g9.kp K1 B1
  have fin : ∀ (k : Nat), k < 6 → j = (k : Nat) → ∀ v, ([.ref u0, .ref u1, .ref u2, .ref u3, .ref u4, .ref u5] : List V)[k]? = some v → Dp K H9 v ((oddsI.getD k (.turn [])).d) → ∃ v, atI [.ref u0, .ref u1, .ref u2, .ref u3, .ref u4, .ref u5] j = some v ∧ t4 Dn [v0, some (.ref b), v2, some (.int is.length), some v, v5, v6, v7, v8, v9, some (.ref a), v11, v12, v13, some (.ref qa), v15, v16, v17] H1 := fun k hk ej v hv hd => by
    refine ⟨v, by rw [ej]; exact atI_nat hv, ?_⟩
    have hm : oddsI.getD k (.turn []) ∈ oddsI := by
      have e : k = 0 ∨ k = 1 ∨ k = 2 ∨ k = 3 ∨ k = 4 ∨ k = 5 := by omega
      rcases e with rfl | rfl | rfl | rfl | rfl | rfl <;> simp [oddsI]
    obtain ⟨o1, o2⟩ := oddsI_bad _ hm
    exact r4 Dn _ _ _ _ _ _ _ _ _ _ _ _ _ b l a qa is pool v _ H1 g1 lq (dp_ins_kp g9.B K1 hd) o1 o2 kn
  have go : ∃ v, atI [.ref u0, .ref u1, .ref u2, .ref u3, .ref u4, .ref u5] j = some v ∧ t4 Dn [v0, some (.ref b), v2, some (.int is.length), some v, v5, v6, v7, v8, v9, some (.ref a), v11, v12, v13, some (.ref qa), v15, v16, v17] H1 := by
    have e : j = 0 ∨ j = 1 ∨ j = 2 ∨ j = 3 ∨ j = 4 ∨ j = 5 := by omega
    rcases e with e | e | e | e | e | e
    · exact fin 0 (by decide) e _ rfl d0
    · exact fin 1 (by decide) e _ rfl d1
    · exact fin 2 (by decide) e _ rfl d2
    · exact fin 3 (by decide) e _ rfl d3
    · exact fin 4 (by decide) e _ rfl d4
    · exact fin 5 (by decide) e _ rfl d5
  obtain ⟨v, hv, ht⟩ := go
  exact ⟨w1, _, j, v, rfl, rfl, .inl (.inl (K1 _ _ ew1 nb.1 nb.2)), hv, ht⟩
end
end Om

namespace Om
open PySem PySem.Spec PyProof.Rows L2 LamX NdefX
def lst4 (e : Expr) : Expr := match e with
  | .Call _ [_, _, _, x] _ _ => x
  | e => e
def chLc : Expr := lst4 (asgExpr (lst 2))
def poLc : Expr := arg0 (asgExpr (lst 3))
theorem blkCh : BlkOk nLaw (defScope sLaw) (lcScope chLc) [("_law_k", 16)] := blkOk_by (by decide +kernel)
theorem blkPo : BlkOk nLaw (defScope sLaw) (lcScope poLc) [("_law_k", 16)] := blkOk_by (by decide +kernel)
def spLaw (K : PySem.W.Frag) (Pt : Addr) : Sp := fun vs H Q _ => ∃ (a : Addr) (ns : List Int), vs = [.ref a] ∧ SqL K H a (ns.map V.int) ∧ ns.length ≤ 63 ∧ H Pt = some (.tbl #[]) ∧ ∀ H', Q (.bl true) H'
def turnsI (n : Nat) : List Ins := (List.range n).map fun k => .turn [nm (k / 7)]
theorem turnsI_bad {n : Nat} (h : n ≤ 20) : mapBad [46] [.i 0] (turnsI n) = none := by
  refine mapBad_none.mpr ⟨by decide, by decide, fun x hx => ?_, by unfold turnsI; rw [List.length_map, List.length_range]; exact h⟩
  obtain ⟨k, hk, rfl⟩ := List.mem_map.mp hx
  have hk := List.mem_range.mp hk
  exact ascN_of (ms := [k / 7]) (by simp) (by simp) (by intro m hm; rw [List.mem_singleton.mp hm]; omega)
theorem turnsI_sm {n : Nat} (h : n ≤ 20) : SmI (turnsI n) := ⟨by unfold turnsI; rw [List.length_map, List.length_range]; omega, fun x hx => by
  obtain ⟨k, hk, rfl⟩ := List.mem_map.mp hx
  rfl⟩
theorem ok_R0 : RowsOk 12 R0 := ⟨by decide, by decide, 2, by decide, by decide, by unfold okSign; decide +kernel⟩
theorem R0_vt : R0.map vt = [V.str ".A", V.str "B~"] := by decide +kernel
theorem dot_tx : Str.ofString "." = tx [46] := by decide +kernel
section
variable {P : Program} {w : World} {K : PySem.W.Frag} {mg : Str → Option Value} {base : Heap} {CM CI CB C0 CMp gF fM fN cc f Pt : Addr} {C : Nat → Addr} {fdF : FuncData}
theorem law_3 (PP : LPr P w K mg base CM CI CB C0 CMp gF fM fN C fdF) (TB : TabB base mg cc Pt) (glen : mg "len" = none) (grange : mg "range" = none) (gtuple : mg "tuple" = none) {A : Around} {outer : List Env} {s : Shared} {H0 : Hp} {E : XK} (hr : Room 10 (A.deeper (envOfC "law" (defScope sLaw) s.heap.objs.size f (.ref cc)))) :
    ∃ t, PSs (lX P w K mg base f cc A outer s H0 E) d3 t ∧
      ∀ (Dn : Ends) (v0 v2 v4 v5 v6 v7 v8 v9 v11 v12 v13 v14 v15 v16 v17 : Option V) (b l a : Addr) (is : List Ins) (sg : List Nat) (fs : List Nm) (H : Hp), Bx H b l → Mp K CM CI H a R0 sg fs is → Tabs (TT1 Pt) H → 4 ≤ is.length → is.length ≤ 20 →
        (∀ H', Dn.rt (.bl true) H') → t Dn [v0, some (.ref b), v2, some (.int is.length), v4, v5, v6, v7, v8, v9, some (.ref a), v11, v12, v13, v14, v15, v16, v17] H := by
  obtain ⟨t4, q4, r4⟩ := law_4 (f := f) (cc := cc) PP TB glen (A := A) (outer := outer) (s := s) (H0 := H0) (E := E) hr
  have nd := scLaw.nd
  have hr1 : Room 1 _ := hr.mono (by decide)
  have hr3 : Room 3 _ := hr.mono (by decide)
  refine ⟨_, pss_cons (ps_set (i := 14) nd rfl (.inr rfl) (pe_callTy call_tuple_of (by rfl) gtuple (by decide +kernel) (pa_cons
      (pe_lc (own := [("_law_k", 16)]) (g := gName 16) rfl nd (pi_range1 rfl grange (pa_cons (pe_cal PP.nxt hr1 pass0 (pa_cons (pv 1) (pa_cons pe_int pa_nil))) pa_nil)) blkPo (fun _ _ _ _ _ => pg_name (i := 16) nd rfl (.inl rfl)) (fun _ _ _ _ _ => pts_nil) (fun _ _ _ _ _ => pe_cal PP.one hr3 pass0 (pa_cons (pv 1) pa_nil))) pa_nil))) q4, ?_⟩
  intro Dn v0 v2 v4 v5 v6 v7 v8 v9 v11 v12 v13 v14 v15 v16 v17 b l a is sg fs H B M T h4 h20 kn
  refine ⟨_, rfl, b, l, 6, rfl, B, by decide, by decide, fun n H1 n0 n1 B1 K1 => ?_⟩
  refine ⟨n, rfl, by omega, by omega, fun D hD => ?_⟩
  obtain ⟨Db, Dl⟩ := B1.new hD
  refine lc_range (lo := 0) (n := n.toNat) (fun i H' => ∃ (us : List Ins) (xs : List V), us.length = i ∧ H' D = some (.lst xs) ∧ DpAll K H' xs (us.map Ins.d) ∧ (∀ y ∈ us, y.ok = true ∧ y.small = true) ∧ Bx H' b l ∧ Kp b l H1 H')
    ⟨[], [], rfl, upd_same, .nil, (fun y hy => by cases hy), B1.same (Same.new (Same.refl _) hD), Kp.of (Same.new (Same.refl _) hD)⟩ ?_ ?_
  · rintro i H2 hi ⟨us, xs, q1, q2, q3, q4, q5, q6⟩
    have hi5 : i < 6 := by omega
    refine ⟨rfl, tyes ?_⟩
    refine ⟨_, rfl, b, l, rfl, q5, fun z v H3 o1 o2 o3 dv B3 K3 => ?_⟩
    have r2 := K3 D _ q2 Db Dl
    have hxl := dpAll_len q3
    rw [List.length_map] at hxl
    have r3 : DpAll K H3 xs (us.map Ins.d) := dpAll_noL (kp_tup q5 K3) (noL_inss _) q3
    refine ⟨xs, r2, Nat.lt_of_le_of_lt (show _ ≤ 60 by omega) (by decide), us ++ [z], xs ++ [v], by rw [List.length_append, q1]; rfl, upd_same, ?_, fun y hy => ?_, B3.updO Db Dl, fun x o hx m1 m2 => ?_⟩
    · rw [List.map_append]
      exact dpAll_app (dpAll_noL (app_tup r2) (noL_inss _) r3) (.cons (dp_noL (app_tup r2) (noL_ins _) dv) .nil)
    · rcases List.mem_append.mp hy with h | h
      · exact q4 y h
      · rw [List.mem_singleton.mp h]; exact ⟨o1, o2⟩
    · rw [upd_ne (ne_of_none hx hD)]
      exact K3 x o (q6 x o hx m1 m2) m1 m2
  · rintro H2 ⟨us, xs, q1, q2, q3, q4, q5, q6⟩
    refine ⟨D, _, rfl, .inl ⟨.inl (.inl q2), fun p hp => ?_⟩⟩
    have s3 := Same.new (Same.refl H2) hp (o := .tup xs)
    have e3 : (upd H2 p (.tup xs)) p = some (.tup xs) := upd_same
    generalize upd H2 p (.tup xs) = H3 at s3 e3 ⊢
    have kk := K1.trans q6
    have M3 := (M.via (kp_ins B kk) (kp_tup B kk)).same s3
    refine r4 Dn _ _ _ _ _ _ _ _ _ _ _ _ _ _ b l a p is us H3 ⟨q5.same s3, ⟨_, _, M3⟩, ⟨xs, .inl (.inl e3), Same.dpAll s3 q3⟩, (tabs_kpb T B kk).ext s3⟩ ⟨h4, h20, fun y hy => (q4 y hy).1, by omega, by omega, fun y hy => (q4 y hy).2⟩ kn
theorem ok_law {f : Addr} {fd : FuncData} (F : FnP K "law" "law" sLaw f fd) (hcd : ∀ cd, fd.code = cd → cd = .ref cc) (PP : LPr P w K mg base CM CI CB C0 CMp gF fM fN C fdF) (TB : TabB base mg cc Pt) (glen : mg "len" = none) (grange : mg "range" = none) (gtuple : mg "tuple" = none) :
    FnOk P w K mg base CX0 11 f fd ["_law_script"] (spLaw K Pt) := by
  obtain ⟨oc, od, dV, kV, doc, pm', an, cdv, ct, osl, rfl, lk, hcdv, _, _⟩ := F.ex
  obtain rfl : cdv = .ref cc := hcd _ rfl
  refine fn_of (k := 10) lk hcdv scLaw (fun vs H Q E h => ?_) (fun A outer s H vs Q E hr h => ?_)
  · obtain ⟨a, ns, rfl, _⟩ := h
    rfl
  · obtain ⟨a, ns, rfl, hS, hlen, hP1, k⟩ := h
    have nd := scLaw.nd
    have hr1 : Room 1 _ := hr.mono (by decide)
    have hr5 : Room 5 _ := hr.mono (by decide)
    have hr6 : Room 6 _ := hr.mono (by decide)
    obtain ⟨tT, qT, rT⟩ := law_3 (f := f) (cc := cc) (H0 := H) (E := E) (s := s) (A := A) (outer := outer) PP TB glen grange gtuple hr
    obtain ⟨fdI, GI, bI⟩ := PP.mkI.ex
    obtain ⟨fdM, GM, bM⟩ := PP.mkM.ex
    refine ⟨_, PSs.nox (pss_cons (ps_set (i := 1) nd rfl (.inr rfl) (pe_cal PP.mix hr1 pass0 (pa_cons (pv 0) (pa_cons pe_int pa_nil))))
      (pss_cons (ps_par (i := 2) (j := 3) rfl nd rfl rfl (by decide) rfl rfl (pa_cons (pe_make PP.isl.made GI hr5 rfl PP.isl.gI bI .nil passE0 (pa_cons (pe_tup (pa_cons pe_str (pa_cons pe_str pa_nil))) pa_nil)) (pa_cons (pe_op op_add pe_int (pe_cal PP.nxt hr1 pass0 (pa_cons (pv 1) (pa_cons pe_int pa_nil)))) pa_nil)) (by rfl))
      (pss_cons (ps_set (i := 10) nd rfl (.inr rfl) (pe_make PP.mpf.made GM hr6 rfl PP.mpf.gM bM .nil passE0 (pa_cons (pv 2) (pa_cons pe_str (pa_cons (pe_tup (pa_cons pe_int pa_nil)) (pa_cons
          (pe_lc (own := [("_law_k", 16)]) (g := gName 16) rfl nd (pi_range1 rfl grange (pa_cons (pv 3) pa_nil)) blkCh (fun _ _ _ _ _ => pg_name (i := 16) nd rfl (.inl rfl)) (fun _ _ _ _ _ => pts_nil) (fun _ _ _ _ _ => pe_tup (pa_cons pe_str (pa_cons (pe_tup (pa_cons (pe_op op_fdiv (pv 16) pe_int) pa_nil)) pa_nil)))) pa_nil)))))) qT))), ?_⟩
    refine ⟨_, rfl, a, ns, 37, rfl, hS, hlen, fun b l H1 hb hl s1 B1 => ?_⟩
    have T1 : Tabs (TT1 Pt) H1 := fun p hp => by
      rw [List.mem_singleton.mp hp]
      exact TabS.nil (s1 _ _ hP1)
    refine ⟨by show 2 ≤ sizeLine; decide, fun u1 h1 => nilArgs ?_⟩
    have s2 := Same.new (Same.refl H1) h1 (o := .tup [V.str ".A", V.str "B~"])
    have e2 : (upd H1 u1 (.tup [V.str ".A", V.str "B~"])) u1 = some (.tup (R0.map vt)) := by rw [R0_vt]; exact upd_same
    generalize upd H1 u1 (.tup [V.str ".A", V.str "B~"]) = H2 at s2 e2 ⊢
    intro xi dxi hxi hdxi _
    refine mk_read ok_R0 (.inl (.inl e2)) hxi hdxi fun H3 s3 I3 => ?_
    have s13 := s2.trans s3
    refine ⟨_, rfl, b, l, 17, rfl, B1.same s13, by decide, by decide, fun m H4 m0 m1 B4 K4 => ?_⟩
    refine ⟨_, _, rfl, rfl, nilArgs ⟨_, _, rfl, ?_⟩⟩
    have T4 := tabs_kpb (T1.ext s13) (B1.same s13) K4
    have I4 := Isl.kp (B1.same s13) K4 I3
    obtain ⟨n, hn⟩ : ∃ n : Nat, 4 + m = (n : Nat) := ⟨(4 + m).toNat, by omega⟩
    have n4 : 4 ≤ n := by omega
    have n20 : n ≤ 20 := by omega
    have hlen : (turnsI n).length = n := by unfold turnsI; rw [List.length_map, List.length_range]
    have ev : ((fun (i j : Int) => V.int (i + j)) 4 m : V) = V.int (n : Nat) := by show V.int (4 + m) = _; rw [hn]
    rw [ev]
    unfold tSeq tAsg
    dsimp only
    refine mk_map (CI := CI) (rows := R0) (sg := [46]) (fs := [.i 0]) (is := turnsI n) (by decide) (turnsI_sm n20) (fun Qa h => ?_) (fun _ x H' s' hx hM => ?_) (fun e he => by rw [turnsI_bad n20] at he; cases he)
    · refine ⟨_, rfl, by show 1 ≤ sizeLine; decide, fun u2 h2 => ⟨_, rfl, ?_⟩⟩
      have s5 := Same.new (Same.refl H4) h2 (o := .tup [.int 0])
      have e5 : (upd H4 u2 (.tup [.int 0])) u2 = some (.tup [.int 0]) := upd_same
      generalize upd H4 u2 (.tup [.int 0]) = H5 at s5 e5 ⊢
      refine ⟨n, rfl, by omega, by omega, fun D hD => ?_⟩
      refine lc_range (lo := 0) (n := (n : Int).toNat) (fun i H' => ∃ (xs : List V), xs.length = i ∧ H' D = some (.lst xs) ∧ DpAll K H' xs ((turnsI i).map Ins.d) ∧ Same H5 H')
        ⟨[], rfl, upd_same, .nil, Same.new (Same.refl _) hD⟩ ?_ ?_
      · rintro i Hx hi ⟨xs, q1, q2, q3, q4⟩
        have hi20 : i < 20 := by omega
        refine ⟨rfl, tyes ?_⟩
        refine ⟨_, rfl, _, _, rfl, rfl, ⟨by decide, by decide⟩, by show 1 ≤ sizeLine; decide, fun y1 k1 => ⟨by show 2 ≤ sizeLine; decide, fun y2 k2 => ?_⟩⟩
        have s6 := Same.new (Same.refl Hx) k1 (o := .tup [.int ((0 + (i : Int)) / 7)])
        have e6 : (upd Hx y1 (.tup [.int ((0 + (i : Int)) / 7)])) y1 = some (.tup [.int ((i / 7 : Nat) : Int)]) := by
          rw [upd_same]
          have : (0 + (i : Int)) / 7 = ((i / 7 : Nat) : Int) := by omega
          rw [this]
        generalize upd Hx y1 (.tup [.int ((0 + (i : Int)) / 7)]) = Hy at s6 e6 k2 ⊢
        have s7 := Same.new (Same.refl Hy) k2 (o := .tup [.str "turn", .ref y1])
        have e7 : (upd Hy y2 (.tup [.str "turn", .ref y1])) y2 = some (.tup [.str "turn", .ref y1]) := upd_same
        have e67 := s7 _ _ e6
        generalize upd Hy y2 (.tup [.str "turn", .ref y1]) = Hz at s7 e7 e67 ⊢
        have s67 := s6.trans s7
        have hDz := s67 _ _ q2
        refine ⟨xs, hDz, Nat.lt_of_le_of_lt (show _ ≤ 60 by omega) (by decide), xs ++ [.ref y2], by rw [List.length_append, q1]; rfl, upd_same, ?_, Same.updN (q4.trans s67) hD⟩
        have et : turnsI (i + 1) = turnsI i ++ [.turn [nm (i / 7)]] := by unfold turnsI; rw [List.range_succ, List.map_append]; rfl
        rw [et, List.map_append]
        refine dpAll_app (dpAll_noL (app_tup hDz) (noL_inss _) (Same.dpAll s67 q3)) (.cons ?_ .nil)
        exact dp_noL (app_tup hDz) (noL_ins _) (.tup (.inl (.inl e7)) (.cons (.str _) (.cons (.tup (.inl (.inl e67)) (.cons (.int _) .nil)) .nil)))
      · rintro Hx ⟨xs, q1, q2, q3, q4⟩
        refine nilArgs (h xi u2 D Hx (s5.trans q4) (I4.same (s5.trans q4)) (.inl (.inl (q4 _ _ e5))) ⟨xs, .inl (.inl (.inl q2)), q3⟩)
    · have B5 := B4.same s'
      have T5 := T4.ext s'
      have := rT (Dn := { nx := fun _ H' => Q .non H', rt := Q }) (some (.ref a)) (some (.ref xi)) none none none none none none none none none none none none none b l x (turnsI n) [46] [.i 0] H' B5 hM T5 (by rw [hlen]; exact n4) (by rw [hlen]; exact n20) k
      rw [hlen] at this
      exact this
end
end Om

namespace Om
open PySem PySem.Spec PyProof.Rows L2 LamX He OmH
theorem errIB_ok {K : PySem.W.Frag} {x : Str} (h : errIB K x = true) : OexC K (ga K x) ∧ PySem.W.findIn K (.ref (ga K x)) "__init__" = some (some (.ref (ma K (ga K x) "__init__"))) ∧ PySem.W.typeIn K (.ref (ma K (ga K x) "__init__")) = some (.type "function") := by
  obtain ⟨h1, h2⟩ := ba h
  obtain ⟨h2, h3⟩ := ba h2
  exact ⟨oexB_ok h1, eqO_ok h2, of_decide_eq_true h3⟩
theorem b1 {K : PySem.W.Frag} {x q a : Str} {st : Stmt} {f : Addr} {fd : FuncData} (F : FnP K x q st f fd) (h : ∀ (kV doc pm : Value) (an : Option Addr) (cdv ct : Value) (u : Value), bindArgs (PySem.W.fnOf x q (defArgs st) (defBody st) (defScope st) .none kV doc pm an cdv ct) ⟨[u], []⟩ = pure [(a, u)]) : Binds K fd [a] [] :=
  FunD.bindsN F fun _ _ _ _ _ _ us hl => match us, hl with | [_], _ => h ..
theorem b2 {K : PySem.W.Frag} {x q a b : Str} {st : Stmt} {f : Addr} {fd : FuncData} (F : FnP K x q st f fd) (h : ∀ (kV doc pm : Value) (an : Option Addr) (cdv ct : Value) (u v : Value), bindArgs (PySem.W.fnOf x q (defArgs st) (defBody st) (defScope st) .none kV doc pm an cdv ct) ⟨[u, v], []⟩ = pure [(a, u), (b, v)]) : Binds K fd [a, b] [] :=
  FunD.bindsN F fun _ _ _ _ _ _ us hl => match us, hl with | [_, _], _ => h ..
theorem b3 {K : PySem.W.Frag} {x q a b c : Str} {st : Stmt} {f : Addr} {fd : FuncData} (F : FnP K x q st f fd) (h : ∀ (kV doc pm : Value) (an : Option Addr) (cdv ct : Value) (u v z : Value), bindArgs (PySem.W.fnOf x q (defArgs st) (defBody st) (defScope st) .none kV doc pm an cdv ct) ⟨[u, v, z], []⟩ = pure [(a, u), (b, v), (c, z)]) : Binds K fd [a, b, c] [] :=
  FunD.bindsN F fun _ _ _ _ _ _ us hl => match us, hl with | [_, _, _], _ => h ..
theorem b4 {K : PySem.W.Frag} {x q a b c d : Str} {st : Stmt} {f : Addr} {fd : FuncData} (F : FnP K x q st f fd) (h : ∀ (kV doc pm : Value) (an : Option Addr) (cdv ct : Value) (u v z y : Value), bindArgs (PySem.W.fnOf x q (defArgs st) (defBody st) (defScope st) .none kV doc pm an cdv ct) ⟨[u, v, z, y], []⟩ = pure [(a, u), (b, v), (c, z), (d, y)]) : Binds K fd [a, b, c, d] [] :=
  FunD.bindsN F fun _ _ _ _ _ _ us hl => match us, hl with | [_, _, _, _], _ => h ..
abbrev gI (K : PySem.W.Frag) : Addr := ga K "Island"
abbrev gMp (K : PySem.W.Frag) : Addr := ga K "Map"
theorem kit4 {K : PySem.W.Frag} (h : kitB4 K = true) {i : Nat} (hi : i < 4) : ExcC K (C4 K i) ∧ PySem.W.exmOne K (.ref (C4 K i)) (.ref (ga K "MapError")) = some true ∧ ∀ j, j < 4 → PySem.W.kitOne K (.ref (C4 K i)) (.ref (C4 K j)) = some (decide (j = i)) := by
  have h1 := List.all_eq_true.mp h i (List.mem_range.mpr hi)
  obtain ⟨b, c⟩ := ba h1
  obtain ⟨c, d⟩ := ba c
  exact ⟨excCB_ok b, of_decide_eq_true c, fun j hj => of_decide_eq_true (List.all_eq_true.mp d j (List.mem_range.mpr hj))⟩
theorem in4 : ∀ i, i < 4 → Fa.glo (nmF i) ∈ fa ++ fa2 := fun i hi => by
  have e : i = 0 ∨ i = 1 ∨ i = 2 ∨ i = 3 := by omega
  rcases e with rfl | rfl | rfl | rfl <;> simp [fa, nmF]
theorem code_at {K : PySem.W.Frag} {x : Str} {st : Stmt} {f : Addr} {fd : FuncData} (F : FnP K x x st f fd) (e : ∀ {oc : Value} {od : Option Addr} {dV kV doc pm : Value} {an : Option Addr} {c' : Addr} {ct : Value} {osl : Array (Option Value)}, K.lookup f = some ⟨oc, od, .func (PySem.W.fnOf x x (defArgs st) (defBody st) (defScope st) dV kV doc pm an (.ref c') ct), osl⟩ → codeOf K (x, none) = c') : ∀ cd, fd.code = cd → cd = .ref (cT K (x, none)).1 := by
  obtain ⟨oc, od, dV, kV, doc, pm, an, cdv, ct, osl, rfl, lk, hcdv, _, _⟩ := F.ex
  obtain ⟨c', rfl⟩ := codeIn_ref hcdv
  intro cd hcd
  have e1 := e lk
  subst hcd
  show Value.ref c' = .ref (codeOf K (x, none))
  rw [e1]
theorem parts_at {P : Program} {w : World} {K : PySem.W.Frag} {h base : Heap} {mg : Str → Option Value} (X : K.In h) (G : h.Ns mainGlobals mg) (c : He.SaysX (fa ++ fa2) fnD [] tfD exB w h K) (cg : obsA gsD K = valA gsD) : ∃ fdF, LPr P w K mg base (gMp K) (gI K) (ga K "InvalidMap") (ga K "InvalidIsland") (ga K "MapError") (ga K "_law_fail") (ma K (gMp K) "__init__") (ma K (gI K) "__init__") (C4 K) fdF := by
  have d := c.t.d
  obtain ⟨f0, F0⟩ := d.def_ 0 (d := dG "_law_mix" (top 69)) rfl
  have F0 : FnP K "_law_mix" "_law_mix" (top 69) _ f0 := F0
  obtain ⟨f1, F1⟩ := d.def_ 1 (d := dG "_law_next" (top 70)) rfl
  have F1 : FnP K "_law_next" "_law_next" (top 70) _ f1 := F1
  obtain ⟨f2, F2⟩ := d.def_ 2 (d := dG "_law_alike" (top 71)) rfl
  have F2 : FnP K "_law_alike" "_law_alike" (top 71) _ f2 := F2
  obtain ⟨f3, F3⟩ := d.def_ 3 (d := dG "_law_signs" (top 72)) rfl
  have F3 : FnP K "_law_signs" "_law_signs" (top 72) _ f3 := F3
  obtain ⟨f4, F4⟩ := d.def_ 4 (d := dG "_law_turns" (top 73)) rfl
  have F4 : FnP K "_law_turns" "_law_turns" (top 73) _ f4 := F4
  obtain ⟨f5, F5⟩ := d.def_ 5 (d := dG "_law_one" (top 74)) rfl
  have F5 : FnP K "_law_one" "_law_one" (top 74) _ f5 := F5
  obtain ⟨f6, F6⟩ := d.def_ 6 (d := dG "_law_fail" (top 75)) rfl
  have F6 : FnP K "_law_fail" "_law_fail" (top 75) _ f6 := F6
  obtain ⟨f8, F8⟩ := d.def_ 8 (d := dG "in_range" (top 5)) rfl
  have F8 : FnP K "in_range" "in_range" (top 5) _ f8 := F8
  obtain ⟨f9, F9⟩ := d.def_ 9 (d := dG "ascending_numbers" (top 6)) rfl
  have F9 : FnP K "ascending_numbers" "ascending_numbers" (top 6) _ f9 := F9
  obtain ⟨f10, F10⟩ := d.def_ 10 (d := dG "ascending_signs" (top 7)) rfl
  have F10 : FnP K "ascending_signs" "ascending_signs" (top 7) _ f10 := F10
  obtain ⟨f11, F11⟩ := d.def_ 11 (d := dG "require_land" (top 19)) rfl
  have F11 : FnP K "require_land" "require_land" (top 19) _ f11 := F11
  obtain ⟨f12, F12⟩ := d.def_ 12 (d := dG "_lies_within" (top 20)) rfl
  have F12 : FnP K "_lies_within" "_lies_within" (top 20) _ f12 := F12
  obtain ⟨f13, F13⟩ := d.def_ 13 (d := dG "_check_rows" (top 21)) rfl
  have F13 : FnP K "_check_rows" "_check_rows" (top 21) _ f13 := F13
  obtain ⟨f14, F14⟩ := d.def_ 14 (d := dG "_first_wrong_column" (top 22)) rfl
  have F14 : FnP K "_first_wrong_column" "_first_wrong_column" (top 22) _ f14 := F14
  obtain ⟨f15, F15⟩ := d.def_ 15 (d := dG "is_instruction" (top 50)) rfl
  have F15 : FnP K "is_instruction" "is_instruction" (top 50) _ f15 := F15
  obtain ⟨f16, F16⟩ := d.def_ 16 (d := dG "_is_side" (top 51)) rfl
  have F16 : FnP K "_is_side" "_is_side" (top 51) _ f16 := F16
  obtain ⟨f17, F17⟩ := d.def_ 17 (d := dG "_are_paces" (top 52)) rfl
  have F17 : FnP K "_are_paces" "_are_paces" (top 52) _ f17 := F17
  obtain ⟨f18, F18⟩ := d.def_ 18 (d := dG "_check_instructions" (top 56)) rfl
  have F18 : FnP K "_check_instructions" "_check_instructions" (top 56) _ f18 := F18
  obtain ⟨f19, F19⟩ := d.def_ 19 (d := dG "mended" (top 60)) rfl
  have F19 : FnP K "mended" "mended" (top 60) _ f19 := F19
  obtain ⟨f20, F20⟩ := d.def_ 20 (d := dG "torn_places" (top 61)) rfl
  have F20 : FnP K "torn_places" "torn_places" (top 61) _ f20 := F20
  obtain ⟨f21, F21⟩ := d.def_ 21 (d := dG "least_mending" (top 62)) rfl
  have F21 : FnP K "least_mending" "least_mending" (top 62) _ f21 := F21
  obtain ⟨f22, F22⟩ := d.def_ 22 (d := dG "exchanged" (top 63)) rfl
  have F22 : FnP K "exchanged" "exchanged" (top 63) _ f22 := F22
  obtain ⟨f23, F23⟩ := d.def_ 23 (d := dG "_require_gaps_and_pool" (top 64)) rfl
  have F23 : FnP K "_require_gaps_and_pool" "_require_gaps_and_pool" (top 64) _ f23 := F23
  obtain ⟨f24, F24⟩ := d.def_ 24 (d := dM "Island" "__init__" "Island.__init__" sIslI) rfl
  have F24 : FnP K "__init__" "Island.__init__" sIslI _ f24 := F24
  obtain ⟨f25, F25⟩ := d.def_ 25 (d := dM "Island" "__contains__" "Island.__contains__" (sIslM 8)) rfl
  have F25 : FnP K "__contains__" "Island.__contains__" (sIslM 8) _ f25 := F25
  obtain ⟨f26, F26⟩ := d.def_ 26 (d := dM "InvalidIsland" "__init__" "InvalidIsland.__init__" sII) rfl
  have F26 : FnP K "__init__" "InvalidIsland.__init__" sII _ f26 := F26
  obtain ⟨f27, F27⟩ := d.def_ 27 (d := dM "InvalidMap" "__init__" "InvalidMap.__init__" sIM) rfl
  have F27 : FnP K "__init__" "InvalidMap.__init__" sIM _ f27 := F27
  obtain ⟨f28, F28⟩ := d.def_ 28 (d := dM "InvalidGaps" "__init__" "InvalidGaps.__init__" sIG) rfl
  have F28 : FnP K "__init__" "InvalidGaps.__init__" sIG _ f28 := F28
  obtain ⟨f29, F29⟩ := d.def_ 29 (d := dM "InvalidPool" "__init__" "InvalidPool.__init__" sIP) rfl
  have F29 : FnP K "__init__" "InvalidPool.__init__" sIP _ f29 := F29
  obtain ⟨f30, F30⟩ := d.def_ 30 (d := dM "Map" "__init__" "Map.__init__" (sMapM 0)) rfl
  have F30 : FnP K "__init__" "Map.__init__" (sMapM 0) _ f30 := F30
  obtain ⟨f31, F31⟩ := d.def_ 31 (d := dM "Map" "__len__" "Map.__len__" (sMapM 9)) rfl
  have F31 : FnP K "__len__" "Map.__len__" (sMapM 9) _ f31 := F31
  obtain ⟨g0, P0⟩ := getter cg 0 (d := gG "Map" "island" "Map.island" (sMapM 1)) rfl
  have P0 : FnP K "island" "Map.island" (sMapM 1) _ g0 := P0
  have fr : ∀ {x : Str}, Fa.free x ∈ fa ++ fa2 → mg x = none := fun hx => free_ok X G (d.facts hx)
  have gl : ∀ {x : Str}, Fa.glo x ∈ fa ++ fa2 → mg x = some (.ref (ga K x)) := fun hx => glo_ok X G (d.facts hx)
  have fact : ∀ {f : Fa}, f ∈ fa ++ fa2 → f.ok K = true := fun hf => d.facts hf
  have gint : mg "int" = none := fr (by simp [fa])
  have glist : mg "list" = none := fr (by simp [fa])
  have glen : mg "len" = none := fr (by simp [fa])
  have grange : mg "range" = none := fr (by simp [fa])
  have gtuple : mg "tuple" = none := fr (by simp [fa])
  have gmax : mg "max" = none := fr (by simp [fa])
  have gmin : mg "min" = none := fr (by simp [fa])
  have genum : mg "enumerate" = none := fr (by simp [fa])
  have gisi : mg "isinstance" = none := fr (by simp [fa])
  have gbool : mg "bool" = none := fr (by simp [fa])
  have gstr : mg "str" = none := fr (by simp [fa])
  have gsorted : mg "sorted" = none := fr (by simp [fa])
  have gdict : mg "dict" = none := fr (by simp [fa])
  have gall : mg "all" = none := fr (by simp [fa])
  have gzip : mg "zip" = none := fr (by simp [fa])
  have sall := str_ok X G (fact (f := .str "ALL_SIGNS" allSigns) (by simp [fa]))
  have sland := str_ok X G (fact (f := .str "LAND_SIGNS" (Str.ofString ".ABCDEFGHIJKLMNOPQRSTUVWXYZ")) (by simp [fa]))
  have swat := str_ok X G (fact (f := .str "WATER" (Str.ofString "~")) (by simp [fa]))
  have slarge := int_ok X G (fact (f := .int "LARGEST" 12) (by simp [fa]))
  have spac := int_ok X G (fact (f := .int "MOST_PACES" 20) (by simp [fa]))
  have saway := int_ok X G (fact (f := .int "MOST_AWAY" 22) (by simp [fa]))
  have sins := int_ok X G (fact (f := .int "MOST_INSTRUCTIONS" 20) (by simp [fa]))
  have sgap := int_ok X G (fact (f := .int "MOST_GAPS" 3) (by simp [fa]))
  have spol := int_ok X G (fact (f := .int "MOST_IN_POOL" 6) (by simp [fa]))
  have sl2 : ∃ t, mg "LAND_SIGNS" = some (.str (tx lands) t) := by rw [← lands_tx]; exact sland
  have sa2 : ∃ t, mg "ALL_SIGNS" = some (.str (tx alls) t) := by rw [← alls_tx]; exact sall
  obtain ⟨x1, x2⟩ := ba c.more
  obtain ⟨x2, x3⟩ := ba x2
  obtain ⟨x3, x4⟩ := ba x3
  obtain ⟨x4, x5⟩ := ba x4
  obtain ⟨x5, x6⟩ := ba x5
  obtain ⟨x6, x7⟩ := ba x6
  obtain ⟨x7, x8⟩ := ba x7
  obtain ⟨x8, x9⟩ := ba x8
  obtain ⟨x9, x10⟩ := ba x9
  obtain ⟨x10, x11⟩ := ba x10
  obtain ⟨oII, iII, tII⟩ := errIB_ok x2
  obtain ⟨oIM, iIM, tIM⟩ := errIB_ok x3
  obtain ⟨oIG, iIG, tIG⟩ := errIB_ok x4
  obtain ⟨oIP, iIP, tIP⟩ := errIB_ok x5
  have nR := noat_ok (fact (f := .noat "InvalidIsland" "row") (by simp [fa, fa2]))
  have nC := noat_ok (fact (f := .noat "InvalidIsland" "column") (by simp [fa, fa2]))
  have nI := noat_ok (fact (f := .noat "InvalidMap" "index") (by simp [fa, fa2]))
  have nG := noat_ok (fact (f := .noat "InvalidGaps" "index") (by simp [fa, fa2]))
  have nP := noat_ok (fact (f := .noat "InvalidPool" "index") (by simp [fa, fa2]))
  have isi : IsI K mg (ga K "InvalidIsland") (ma K (ga K "InvalidIsland") "__init__") := ⟨oII, nR, nC, iII, tII, gl (by simp [fa])⟩
  have ism : IsM K mg (ga K "InvalidMap") (ma K (ga K "InvalidMap") "__init__") := ⟨oIM, nI, iIM, tIM, gl (by simp [fa])⟩
  have isg : IsE K mg "InvalidGaps" (ga K "InvalidGaps") (ma K (ga K "InvalidGaps") "__init__") := ⟨oIG, nG, iIG, tIG, gl (by simp [fa])⟩
  have isp : IsE K mg "InvalidPool" (ga K "InvalidPool") (ma K (ga K "InvalidPool") "__init__") := ⟨oIP, nP, iIP, tIP, gl (by simp [fa])⟩
  have isl : IslF K mg (gI K) (ma K (gI K) "__init__") := ⟨cls_ok (fact (f := .cls "Island") (by simp [fa, fa2])), noat_ok (fact (f := .noat "Island" "_rows") (by simp [fa, fa2])), mkr_ok (fact (f := .mkr "Island") (by simp [fa, fa2])), gl (by simp [fa])⟩
  have mp : MapF K mg (gMp K) (ma K (gMp K) "__init__") := ⟨cls_ok (fact (f := .cls "Map") (by simp [fa, fa2])), noat_ok (fact (f := .noat "Map" "_island") (by simp [fa, fa2])), noat_ok (fact (f := .noat "Map" "_signs") (by simp [fa, fa2])), noat_ok (fact (f := .noat "Map" "_facings") (by simp [fa, fa2])), noat_ok (fact (f := .noat "Map" "_instructions") (by simp [fa, fa2])), mkr_ok (fact (f := .mkr "Map") (by simp [fa, fa2])), gl (by simp [fa])⟩
  have eu : ErrU K mg "UnknownCell" (ga K "UnknownCell") := by
    obtain ⟨y1, y2⟩ := ba x6
    obtain ⟨y2, y3⟩ := ba y2
    obtain ⟨y3, y4⟩ := ba y3
    exact ⟨y1, y2, of_decide_eq_true y3, of_decide_eq_true y4, gl (by simp [fa])⟩
  have ei : ErrU K mg "UnknownIndex" (ga K "UnknownIndex") := by
    obtain ⟨y1, y2⟩ := ba x7
    obtain ⟨y2, y3⟩ := ba y2
    obtain ⟨y3, y4⟩ := ba y3
    exact ⟨y1, y2, of_decide_eq_true y3, of_decide_eq_true y4, gl (by simp [fa])⟩
  have nst : ∀ i, i < 4 → PySem.W.subIn K (.ref (C4 K i)) (.type "StopIteration") = some false := fun i hi => of_decide_eq_true (List.all_eq_true.mp x11 i (List.mem_range.mpr hi))
  have xf : ∀ i, i < 4 → XfC K (C4 K i) := fun i hi => by
    obtain ⟨y1, y2, y3, y4, y5, y6, y7, y8⟩ := (kit4 x1 hi).1
    exact ⟨y1, y2, y3, y4⟩
  have noI : ∀ i, 2 ≤ i → i < 4 → PySem.W.findIn K (.ref (C4 K i)) "index" = some none := fun i h2 h4 => by
    have e : i = 2 ∨ i = 3 := by omega
    rcases e with rfl | rfl
    · exact nG
    · exact nP
  have fai : FailF K mg (C4 K) (ga K "MapError") := ⟨gl (by simp [fa]), fun i hi => glo_ok X G (d.facts (in4 i hi)), fun i hi => (kit4 x1 hi).2.1, fun i hi => (kit4 x1 hi).1, fun i j hi hj => (kit4 x1 hi).2.2 j hj, xf, noI, nst, gisi⟩
  have kNx : Cal P w K mg base CX0 1 "_law_next" ["_law_h", "_law_limit"] spNext := ⟨_, _, ok_next F1 gint gmax glen, gl (by simp [fa, fa2]), F1.kp, b2 F1 fun _ _ _ _ _ _ _ _ => rfl⟩
  have kRg : Cal P w K mg base CX0 1 "in_range" nInR spInR := ⟨_, _, ok_inR F8 gisi gint gbool, gl (by simp [fa, fa2]), F8.kp, b3 F8 fun _ _ _ _ _ _ _ _ _ => rfl⟩
  have kRn : Cal P w K mg base CX0 1 "in_range" nInR spInN := ⟨_, _, ok_inN F8 gisi gint gbool, gl (by simp [fa, fa2]), F8.kp, b3 F8 fun _ _ _ _ _ _ _ _ _ => rfl⟩
  have kAN : Cal P w K mg base CX0 2 "ascending_numbers" ["numbers", "least", "most"] (spAscN K) := ⟨_, _, ok_ascN F9 kRn glen gall gzip, gl (by simp [fa, fa2]), F9.kp, b3 F9 fun _ _ _ _ _ _ _ _ _ => rfl⟩
  have kAS : Cal P w K mg base CX0 1 "ascending_signs" ["text", "allowed"] spAscS := ⟨_, _, ok_ascS F10, gl (by simp [fa, fa2]), F10.kp, b2 F10 fun _ _ _ _ _ _ _ _ => rfl⟩
  have kSd : Cal P w K mg base CX0 2 "_is_side" ["side"] spSide := ⟨_, _, ok_side F16 kRn, gl (by simp [fa, fa2]), F16.kp, b1 F16 fun _ _ _ _ _ _ _ => rfl⟩
  have kPa : Cal P w K mg base CX0 2 "_are_paces" ["least", "most"] spPaces := ⟨_, _, ok_paces F17 kRn spac, gl (by simp [fa, fa2]), F17.kp, b2 F17 fun _ _ _ _ _ _ _ _ => rfl⟩
  have kIs : Cal P w K mg base CX0 3 "is_instruction" ["instruction"] (spIsIns K) := ⟨_, _, ok_isIns F15 kRn kAN kAS kPa kSd sl2 sa2 saway, gl (by simp [fa, fa2]), F15.kp, b1 F15 fun _ _ _ _ _ _ _ => rfl⟩
  have bIM : Binds K f27 ["self", "index"] [] := b2 F27 fun _ _ _ _ _ _ _ _ => rfl
  have bIG : Binds K f28 ["self", "index"] [] := b2 F28 fun _ _ _ _ _ _ _ _ => rfl
  have bIP : Binds K f29 ["self", "index"] [] := b2 F29 fun _ _ _ _ _ _ _ _ => rfl
  have kCI : Cal P w K mg base (L2.CX P w) 4 "_check_instructions" ["instructions"] (spChkI K (ga K "InvalidMap")) := ⟨_, _, ok_chkI F18 ism (ok_IM F27 ism) bIM kIs genum sins, gl (by simp [fa, fa2]), F18.kp, b1 F18 fun _ _ _ _ _ _ _ => rfl⟩
  have bM : Binds K f30 nMapI [] := FunD.bindsN F30 fun _ _ _ _ _ _ us hl => match us, hl with | [_, _, _, _, _], _ => rfl
  have okM : FnOk P w K mg base (L2.CX P w) 5 (ma K (gMp K) "__init__") f30 nMapI (spMapI K (gMp K) (ga K "InvalidMap")) := ok_mapI F30 mp ism (ok_IM F27 ism) bIM kCI kAN kAS sl2 gtuple
  have kLi : Cal P w K mg base CX0 2 "_lies_within" ["rows", "cell"] (spLies K) := ⟨_, _, ok_lies F12 kRg glen, gl (by simp [fa, fa2]), F12.kp, b2 F12 fun _ _ _ _ _ _ _ _ => rfl⟩
  have kFw : Cal P w K mg base CX0 1 "_first_wrong_column" ["signs", "width"] spFwc := ⟨_, _, ok_fwc F14 grange glen sall, gl (by simp [fa, fa2]), F14.kp, b2 F14 fun _ _ _ _ _ _ _ _ => rfl⟩
  have bII : Binds K f26 ["self", "row", "column"] [] := b3 F26 fun _ _ _ _ _ _ _ _ _ => rfl
  have kCk : Cal P w K mg base (L2.CX P w) 3 "_check_rows" ["rows"] (spChk K (ga K "InvalidIsland")) := ⟨_, _, ok_chk F13 isi (ok_II F26 isi) bII kFw glen gmax gmin genum slarge, gl (by simp [fa, fa2]), F13.kp, b1 F13 fun _ _ _ _ _ _ _ => rfl⟩
  have bAl : Binds K f2 ["_law_found", "_law_due"] [] := b2 F2 fun _ _ _ _ _ _ _ _ => rfl
  have gAl : mg "_law_alike" = some (.ref (ga K "_law_alike")) := gl (by simp [fa, fa2])
  have bN : Binds K f24 ["self", "rows"] [] := b2 F24 fun _ _ _ _ _ _ _ _ => rfl
  have okN : FnOk P w K mg base (L2.CX P w) 4 (ma K (gI K) "__init__") f24 ["self", "rows"] (spIsl K (gI K) (ga K "InvalidIsland")) := ok_isl F24 isl kCk gtuple
  have okH : FnOk P w K mg base CX0 3 (ma K (gI K) "__contains__") f25 ["self", "cell"] (spHas K (gI K)) := ok_has F25 isl kLi swat
  have bH : Binds K f25 ["self", "cell"] [] := b2 F25 fun _ _ _ _ _ _ _ _ => rfl
  have oH := ownB_ok x8
  have oL := ownB_ok x9
  have okL : FnOk P w K mg base CX0 1 (ma K (gMp K) "__len__") f31 ["self"] (spMLen K (gMp K) (gI K)) := ok_mLen F31 mp glen
  have bL : Binds K f31 ["self"] [] := b1 F31 fun _ _ _ _ _ _ _ => rfl
  have pI := propB_ok x10
  have okI : FnOk P w K mg base CX0 1 (getA K (gMp K) "island") g0 ["self"] (getSp (gMp K) "_island") := ok_mIsl P0 mp
  have bI : Binds K g0 ["self"] [] := b1 P0 fun _ _ _ _ _ _ _ => rfl
  have kLa : Cal P w K mg base (L2.CX P w) 4 "require_land" ["island", "cell"] (spLandF K (gI K) (C4 K 0)) := ⟨_, _, ok_landF F11 eu oH okH bH, gl (by simp [fa, fa2]), F11.kp, b2 F11 fun _ _ _ _ _ _ _ _ => rfl⟩
  have kRq : Cal P w K mg base (L2.CX P w) 4 "_require_gaps_and_pool" nGP (spReq K (gMp K) (gI K) (C4 K 2) (C4 K 3)) := ⟨_, _, ok_req F23 isg isp (ok_IG F28 isg) bIG (ok_IP F29 isp) bIP oL okL bL kRn kIs genum glen sgap spol sins, gl (by simp [fa, fa2]), F23.kp, b3 F23 fun _ _ _ _ _ _ _ _ _ => rfl⟩
  have kMd : CalG P w K mg base 5 "mended" nGP (spMd K (gMp K) (gI K) (C4 K 2) (C4 K 3)) := ⟨_, _, ok_md F19 kRq, gl (by simp [fa, fa2]), F19.kp, b3 F19 fun _ _ _ _ _ _ _ _ _ => rfl⟩
  have kTn : Cal P w K mg base (L2.CX P w) 5 "torn_places" nGP (spTn K (gMp K) (gI K) (C4 K 2) (C4 K 3)) := ⟨_, _, ok_tn F20 kRq, gl (by simp [fa, fa2]), F20.kp, b3 F20 fun _ _ _ _ _ _ _ _ _ => rfl⟩
  have kLm : Cal P w K mg base (L2.CX P w) 5 "least_mending" pLm (spLm K (gMp K) (gI K) (C4 K 2) (C4 K 3) (C4 K 0)) := ⟨_, _, ok_lm F21 kRq kLa mp pI okI bI, gl (by simp [fa, fa2]), F21.kp, b4 F21 fun _ _ _ _ _ _ _ _ _ _ => rfl⟩
  have kXc : Cal P w K mg base (L2.CX P w) 3 "exchanged" ["chart", "one", "other"] (spXc K (gMp K) (gI K) (C4 K 1)) := ⟨_, _, ok_xc F22 ei oL okL bL kRn glen, gl (by simp [fa, fa2]), F22.kp, b3 F22 fun _ _ _ _ _ _ _ _ _ => rfl⟩
  have kSg : Cal P w K mg base CX0 2 "_law_signs" ["_law_h", "_law_known"] spSgn := ⟨_, _, ok_sgn F3 kNx glen, gl (by simp [fa, fa2]), F3.kp, b2 F3 fun _ _ _ _ _ _ _ _ => rfl⟩
  have kTu : Cal P w K mg base CX0 2 "_law_turns" ["_law_h"] spTrn := ⟨_, _, ok_trn F4 kNx grange gtuple, gl (by simp [fa, fa2]), F4.kp, b1 F4 fun _ _ _ _ _ _ _ => rfl⟩
  refine ⟨f6, {
    px := ⟨kMd, kTn, kLm, kXc, fai, glist⟩
    mix := ⟨_, _, ok_mix F0 gint glist, gl (by simp [fa, fa2]), F0.kp, b2 F0 fun _ _ _ _ _ _ _ _ => rfl⟩
    nxt := kNx
    one := ⟨_, _, ok_one F5 kNx kTu kSg, gl (by simp [fa, fa2]), F5.kp, b1 F5 fun _ _ _ _ _ _ _ => rfl⟩
    alk := ⟨_, _, ok_alike F2 gAl F2.kp bAl gisi gint gbool gstr gtuple glist gdict glen grange 4, gAl, F2.kp, bAl⟩
    isl := isl
    mkI := ⟨_, okN, bN⟩
    mpf := mp
    mkM := ⟨_, okM, bM⟩
    FF := F6
    hF := gl (by simp [fa, fa2])
    bF := b1 F6 fun _ _ _ _ _ _ _ => rfl }⟩
theorem law_at {w : World} {K : PySem.W.Frag} {h : Heap} {mg : Str → Option Value} {f : Addr} (X : K.In h) (G : h.Ns mainGlobals mg) (hfa : mg ("law" : Str) = some (.ref f)) (c : He.SaysX (fa ++ fa2) fnD [] tfD exB w h K) (cg : obsA gsD K = valA gsD) :
    LawAtS PySem.Challenge.rw_oldmap_k37_torn_charts_refused w K CX0 11 63 "_law_script" mg f h := by
  have d := c.t.d
  have fr : ∀ {x : Str}, Fa.free x ∈ fa ++ fa2 → mg x = none := fun hx => free_ok X G (d.facts hx)
  have gl : ∀ {x : Str}, Fa.glo x ∈ fa ++ fa2 → mg x = some (.ref (ga K x)) := fun hx => glo_ok X G (d.facts hx)
  have e := hfa.symm.trans (gl (x := "law") (by simp [fa, fa2]))
  cases e
  obtain ⟨fd, F⟩ := d.def_ 7 (d := dG "law" (top 76)) rfl
  have F : FnP K "law" "law" sLaw _ fd := F
  have bL := FunD.bindsA (ps := ["_law_script"]) F fun _ _ _ _ _ _ us hl => match us, hl with | [_], _ => rfl
  have hcd : ∀ cd, fd.code = cd → cd = .ref (cT K ("law", none)).1 := code_at F fun lk => codeOf_eq (p := ("law", none)) lk rfl
  have hm1 : (("law", none) : He.Defn) ∈ tfD := List.mem_cons_self
  have each : ∀ {φ : Addr × Addr → Prop}, φ (cT K ("law", none)) → ∀ p ∈ [cT K ("law", none)], φ p := fun {φ} h1 p hp => by
    rw [List.mem_singleton.mp hp]
    exact h1
  refine ⟨fd, [cT K ("law", none)], spLaw K (cT K ("law", none)).2, each (c.empty _ hm1), each (c.out _ hm1), each (PySem.W.codeHd_of_K X (c.hd _ hm1)), fun s u => bL s [u] rfl, fun H a ns hl _ hT hS => ⟨a, ns, rfl, hS, hl, hT _ List.mem_cons_self, fun _ => rfl⟩, fun base KB GB TB => ?_⟩
  obtain ⟨fdF, PP⟩ := parts_at (P := PySem.Challenge.rw_oldmap_k37_torn_charts_refused.prog) (w := w) (base := base) X G c cg
  exact ok_law F hcd PP (TB _ List.mem_cons_self) (fr (x := "len") (by simp [fa])) (fr (x := "range") (by simp [fa])) (fr (x := "tuple") (by simp [fa]))
end Om
open PySem PySem.W PySem.Calls PyProof.Rows
theorem PySem.Challenge.cw_oldmap_k37_torn_charts_refused_holds : PySem.Challenge.rw_oldmap_k37_torn_charts_refused.Holds := by
  w_on; o_law
  refine HandSHeadRun.head_any (r := OpenLaw.row PySem.Challenge.rw_oldmap_k37_torn_charts_refused) (q := view (OpenLaw.row PySem.Challenge.rw_oldmap_k37_torn_charts_refused).prog [76]) (H := Om.hk) (ob := Om.ob) (M := 12000) (loose := Om.loose) (d := HandSHeadRun.topDef (OpenLaw.row PySem.Challenge.rw_oldmap_k37_torn_charts_refused).prog 76) (kwd := []) Om.ob_eq
    (by kernel_rfl) (fun s => by kernel_rfl) Om.run (by kernel_rfl) (by kernel_rfl) (by kernel_rfl) (by rfl) (by first | assumption | decide +kernel) (by decide +kernel) ⟨rfl, rfl, rfl, rfl, rfl, by decide +kernel⟩ ?hw ?hc
  case hw => w_witness2
  case hc =>
    refine LamX.walk_ofTsE (l := PySem.Challenge.rw_oldmap_k37_torn_charts_refused) (n := 63) (k := 11) (x := "_law_script") (CX := fun _ => L2.CX0) rfl (by decide) (by kernel_rfl) ⟨rfl, by decide, by decide⟩ ?F (fun _ _ _ _ _ z => z)
    intro w mg fa h Y G hmg0
    obtain ⟨K, KX, c, cg⟩ := Y
    have hmg : mg ("law" : PySem.Str) = some (.ref fa) := by
      have e : (HandSHeadRun.topDef (OpenLaw.row PySem.Challenge.rw_oldmap_k37_torn_charts_refused).prog 76).name = ("law" : PySem.Str) := by kernel_rfl
      rw [← e]
      exact hmg0
    exact ⟨K, KX, Om.law_at KX G hmg c cg⟩
