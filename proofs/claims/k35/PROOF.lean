import PyProof.Rows.All
import Wide.All
import OpenK.AllK
import Wide.FinOn
import HandS.ForMost
import HandS.Defaults
import HandS.More
import HandS.TupAny
import HandS.TupMul
import HandS.Exc
import HandS.ExcInit
import HandS.ExcField
import HandS.ExcIs
import HandS.TryOnly
import HandS.WordsExc
import HandS.Lambda
import HandS.EndTab
import HandS.HeadWalk
import HandS.HeadHook4
import PySem.Challenge.RW_oldmap_k35_walks_refused
import KE.GoesMore
import KE.GoesEnum
import HandS.Property
import HandS.OwnEq
import HandS.IsInst
import HandS.Walk
import HandS.ExcOwn
import PyProof.ExcBaseAll.ValueError
import HandS.SetTxt0
import HandS.Deep
import HandS.ReplaceLit
import HandS.ReplaceList
import HandS.Sort
import HandS.SetBool
import HandS.TupSets
import KE.SortData
import HandS.ListItems
import KE.KDictCopyH
import HandS.DictComp
import PyProof.Rows.TupDisplay
import HandS.Dict
import HandS.ExcValue
import KE.KDictSum
import KE.DataMinMax
import HandS.Nested
import KE.KDictWalk
import HandS.TupLen
import HandS.Style
import KE.KDictPairs
import KE.KExcIs
import PyProof.TupleOfGen
import HandS.DictTup
import KE.KDictItemsList
import HandS.Head0
import HandS.Head1
import HandS.Head2
set_option Elab.async false
set_option linter.all false
set_option maxRecDepth 100000
set_option maxHeartbeats 0
namespace Om
open PySem PySem.Spec PyProof.Rows L2
def top (i : Nat) : Stmt := PySem.Challenge.pw_oldmap_k35_walks_refused.main.body.getD i (.Pass ⟨0, 0, 0, 0⟩)
/-- a def of the top -/
abbrev FnP (K : PySem.W.Frag) (x qual : Str) (st : Stmt) (f : Addr) (fd : FuncData) : Prop := FunD K x qual (defArgs st) (defBody st) (defScope st) [] [] f fd
/-- a def as its callers know it -/
structure Cal (P : Program) (w : World) (K : PySem.W.Frag) (mg : Str → Option Value) (base : Heap) (CX : CXT) (k : Nat) (x : Str) (ps : List Str) (sp : Sp) : Prop where
  ex : ∃ (f : Addr) (fd : FuncData), FnOk P w K mg base CX k f fd ps sp ∧ mg x = some (.ref f) ∧ PySem.W.keepIn K (.ref f) = true ∧ Binds K fd ps []
theorem pe_cal {X : Cx} {CX : CXT} {k : Nat} {x : Str} {ps : List Str} {sp : Sp} {E : XK} {e : Expr} {es : List Expr} {t : TA} {p pos : Pos} (C : Cal X.prog X.w X.K X.mg X.base CX k x ps sp) (hr : Room k X.A) (hx : Passes CX X E) (ha : PA X (e :: es) t) (hg : Gl X x := by rfl)
    (hdb : (x == ("__debug__" : Str)) = false := by decide) (he : starEach (e :: es) X.env = (false, eval e X.env) :: starEach es X.env := by rfl) (hpl : (backTo pos (starEach es X.env)).any (·.1) = false := by rfl) :
    PE X (.Call (.Name x p) (e :: es) [] pos) (tCall sp [] E t) := by
  obtain ⟨f, fd, F, hm, hk, hb⟩ := C.ex
  exact pe_call F hr hg hm hk hb .nil hx ha (hdb := hdb) (he := he) (hpl := hpl)
/-- all but two objects stay -/
def Kp (b l : Addr) (H H' : Hp) : Prop := ∀ c o, H c = some o → c ≠ b → c ≠ l → H' c = some o
theorem Kp.refl (b l : Addr) (H : Hp) : Kp b l H H := fun _ _ h _ _ => h
theorem Kp.trans {b l : Addr} {H H1 H2 : Hp} (a : Kp b l H H1) (c : Kp b l H1 H2) : Kp b l H H2 := fun x o h n1 n2 => c x o (a x o h n1 n2) n1 n2
theorem Kp.of {b l : Addr} {H H' : Hp} (a : Same H H') : Kp b l H H' := fun x o h _ _ => a x o h
theorem Kp.upd1 {b l : Addr} {H H' : Hp} {o : HO} (a : Kp b l H H') : Kp b l H (upd H' b o) := fun x u h n1 n2 => by rw [upd_ne n1]; exact a x u h n1 n2
theorem Kp.upd2 {b l : Addr} {H H' : Hp} {o : HO} (a : Kp b l H H') : Kp b l H (upd H' l o) := fun x u h n1 n2 => by rw [upd_ne n2]; exact a x u h n1 n2
theorem Same.new {H H' : Hp} {p : Addr} {o : HO} (a : Same H H') (h : H' p = none) : Same H (upd H' p o) := fun x u e => by
  rw [upd_ne (ne_of_none (a x u e) h)]
  exact a x u e
/-- the box of numbers that a law draws from -/
structure Box (H : Hp) (b l : Addr) : Prop where
  ex : ∃ (ns : List Int) (z : Int), H b = some (.lst [.ref l, .int z]) ∧ H l = some (.lst (ns.map V.int)) ∧ ns.length ≤ 63
theorem Box.ne {H : Hp} {b l : Addr} (B : Box H b l) : b ≠ l := by
  obtain ⟨ns, z, h1, h2, _⟩ := B.ex
  refine ne_of h1 h2 fun e => ?_
  have e2 : [V.ref l, V.int z] = ns.map V.int := HO.lst.inj e
  cases ns with
  | nil => cases e2
  | cons n r =>
    injection e2 with e3 _
    cases e3
theorem Box.same {H H' : Hp} {b l : Addr} (B : Box H b l) (s : Same H H') : Box H' b l := by
  obtain ⟨ns, z, h1, h2, h3⟩ := B.ex
  exact ⟨ns, z, s _ _ h1, s _ _ h2, h3⟩
def spBegun (K : PySem.W.Frag) : Sp := fun vs H Q _ => ∃ (a : Addr) (ns : List Int), vs = [.ref a] ∧ SqL K H a (ns.map V.int) ∧ ns.length ≤ 63 ∧
  ∀ (b l : Addr) (H' : Hp), H b = none → H l = none → Same H H' → Box H' b l → Q (.ref b) H'
def spTake : Sp := fun vs H Q _ => ∃ (b l : Addr) (m : Int), vs = [.ref b, .int m] ∧ Box H b l ∧ 0 < m ∧ m ≤ 1000000 ∧
  ∀ (n : Int) (H' : Hp), 0 ≤ n → n < m → Box H' b l → Kp b l H H' → Q (.int n) H'
section
variable {P : Program} {w : World} {K : PySem.W.Frag} {mg : Str → Option Value} {base : Heap}
theorem fun_binds {x qual : Str} {st : Stmt} {f : Addr} {fd : FuncData} {ps : List Str} (F : FnP K x qual st f fd)
    (h : ∀ (kV doc pm : Value) (an : Option Addr) (cdv ct : Value) (us : List Value), us.length = ps.length → bindArgs (PySem.W.fnOf x qual (defArgs st) (defBody st) (defScope st) .none kV doc pm an cdv ct) ⟨us, []⟩ = pure (ps.zip us)) : Binds K fd ps [] := FunD.bindsN F h
end
end Om

namespace Om
open PySem PySem.Spec PyProof.Rows L2
/-! ### data -/
theorem lay_ints : ∀ ns : List Int, PyData.canLayAll0 (ns.map PyData.int) = true
  | [] => by simp [PyData.canLayAll0]
  | n :: r => by simp [PyData.canLayAll0, PyData.canLay0, lay_ints r]
theorem dep_ints : ∀ ns : List Int, PyData.depthAll (ns.map PyData.int) = 0
  | [] => by simp [PyData.depthAll]
  | n :: r => by simp [PyData.depthAll, PyData.depth, dep_ints r]
theorem shaped_of {d : PyData} (h1 : d.canLay0 = true) (h2 : d.depth ≤ 64) : SeqAt.shaped d = true := by
  show (d.canLay0 && decide (d.depth ≤ 64)) = true
  rw [h1, decide_eq_true h2]
  rfl
theorem shaped_ints (ns : List Int) : SeqAt.shaped (.list (ns.map PyData.int)) = true :=
  shaped_of (by simp only [PyData.canLay0]; exact lay_ints ns) (by simp only [PyData.depth, dep_ints]; omega)
theorem shaped_nil : SeqAt.shaped (.list []) = true := shaped_of (by simp [PyData.canLay0, PyData.canLayAll0]) (by simp [PyData.depth, PyData.depthAll])
theorem dpAll_ints {K : PySem.W.Frag} {H : Hp} : ∀ ns : List Int, DpAll K H (ns.map V.int) (ns.map PyData.int)
  | [] => .nil
  | n :: r => .cons (.int n) (dpAll_ints r)
theorem eqv_ints_nil (ns : List Int) : PyData.eqv (.list (ns.map PyData.int)) (.list []) = ns.isEmpty := by
  cases ns <;> simp [PyData.eqv, PyData.eqvAll]
theorem fmod_pos {a m : Int} (h : 0 < m) : 0 ≤ a.fmod m ∧ a.fmod m < m := by
  rw [Int.fmod_eq_emod_of_nonneg _ (Int.le_of_lt h)]
  exact ⟨Int.emod_nonneg _ (by omega), Int.emod_lt_of_pos _ h⟩
theorem at0 {x : V} {r : List V} : atI (x :: r) 0 = some x := by
  unfold atI ixN
  rw [if_pos (by omega), if_pos (by simp)]
  rfl
theorem ix0 {x : V} {r : List V} : ixN (x :: r).length 0 = some 0 := by
  unfold ixN
  rw [if_pos (by omega), if_pos (by simp)]
  rfl
/-! ### take -/
end Om

namespace Om
open PySem PySem.Spec PyProof.Rows L2
/-! ### texts as lists of codes -/
def tx (cs : List Nat) : Str := ⟨cs.toArray⟩
theorem tx_cps (cs : List Nat) : (tx cs).cps.toList = cs := by simp [tx]
theorem tx_len (cs : List Nat) : (tx cs).length = cs.length := by simp [tx, Str.length]
theorem tx_app (a b : List Nat) : tx a ++ tx b = tx (a ++ b) := by
  show Str.append (tx a) (tx b) = tx (a ++ b)
  simp [tx, Str.append]
theorem tx_inj {a b : List Nat} (h : tx a = tx b) : a = b := by
  have e : (tx a).cps.toList = (tx b).cps.toList := by rw [h]
  rw [tx_cps, tx_cps] at e
  exact e
theorem of_tx (s : Str) : tx s.cps.toList = s := by
  obtain ⟨c⟩ := s
  simp [tx]
theorem join_tx : ∀ cs : List Nat, Str.join ⟨#[]⟩ (cs.map fun c => tx [c]) = tx cs
  | [] => rfl
  | [c] => rfl
  | c :: d :: r => by
    have ih := join_tx (d :: r)
    show tx [c] ++ (⟨#[]⟩ : Str) ++ Str.join ⟨#[]⟩ ((d :: r).map fun c => tx [c]) = tx (c :: d :: r)
    rw [ih]
    have e0 : (⟨#[]⟩ : Str) = tx [] := rfl
    rw [e0, tx_app, tx_app]
    rfl
theorem empty_tx : Str.ofString "" = (⟨#[]⟩ : Str) := by decide +kernel
def okSign (c : Nat) : Prop := c = 46 ∨ c = 126 ∨ (65 ≤ c ∧ c ≤ 90)
/-- what a law draws as rows -/
structure RowsOk (m : Nat) (rows : List (List Nat)) : Prop where
  h1 : 1 ≤ rows.length
  hm : rows.length ≤ m
  w : ∃ wd, 1 ≤ wd ∧ wd ≤ m ∧ ∀ r ∈ rows, r.length = wd ∧ ∀ c ∈ r, okSign c
def vt (r : List Nat) : V := .str (tx r)
def spRows : Sp := fun vs H Q _ => ∃ (b l : Addr) (m : Nat), vs = [.ref b, .int m] ∧ Box H b l ∧ 1 ≤ m ∧ m ≤ 12 ∧
  ∀ (p : Addr) (rows : List (List Nat)) (H' : Hp), RowsOk m rows → H p = none → H' p = some (.tup (rows.map vt)) → Box H' b l → Kp b l H H' → Q (.ref p) H'
def rJoin (K : PySem.W.Frag) : V → List V → Hp → VK → Prop := fun x xs H Q => ∃ a p, ∃ ys : List Str, x = .str a ∧ xs = [.ref p] ∧ (SqL K H p (ys.map V.str) ∨ SqT K H p (ys.map V.str)) ∧
      (ys.map (·.length)).sum + ys.length * a.length ≤ 16777216 ∧ Q (.str (Txt.join a ys)) H
theorem pe_joinK {X : Cx} {o e : Expr} {to te : TE} {apos pos : Pos} (ho : PE X o to) (he : PE X e te) (hs : starEach [e] X.env = [(false, eval e X.env)] := by rfl) (hbase : attributeBase o "join" X.env (eval o X.env) = eval o X.env := by rfl) (hline : (apos.endLine == pos.line) = true := by rfl) :
    PE X (.Call (.Attribute o "join" apos) [e] [] pos) (tM1 (rJoin X.K) to te) := pe_join ho he hs hbase hline
/-- the scope of the i-th comprehension of a return's call -/
def retExpr (s : Stmt) : Expr := match s with
  | .Return (some e) _ => e
  | _ => .Constant .none 0 ⟨0, 0, 0, 0⟩
def arg0 (e : Expr) : Expr := match e with
  | .Call _ (a :: _) _ _ => a
  | _ => .Constant .none 0 ⟨0, 0, 0, 0⟩
def lcScope (e : Expr) : Scope := match e with
  | .ListComp _ _ sc _ => sc
  | _ => { kind := .function, names := [], isGenerator := false, isCoroutine := false }
def lcElt (e : Expr) : Expr := match e with
  | .ListComp e _ _ _ => e
  | _ => .Constant .none 0 ⟨0, 0, 0, 0⟩
def relab (sc : Scope) (out : Scope) : Scope := { sc with names := sc.names.map fun (n, k) => if (k == NameKind.free && out.kind == .function && out.names.lookup n == some .cell) then (n, NameKind.cell) else (n, k) }
theorem atI_of {α : Type} {xs : List α} {n : Int} (h0 : 0 ≤ n) (h1 : n < xs.length) : ∃ v, atI xs n = some v ∧ v ∈ xs := by
  have hj : n.toNat < xs.length := by omega
  refine ⟨xs[n.toNat], ?_, List.getElem_mem hj⟩
  have e : ((n.toNat : Nat) : Int) = n := by omega
  have z := atI_nat (xs := xs) (j := n.toNat) (v := xs[n.toNat]) (by simp [hj])
  rw [e] at z
  exact z
theorem tyes {σ : L2.St} {H : Hp} {f g : Hp → Prop} (h : f H) : tYes σ H fun b H3 => if b = true then f H3 else g H3 := by
  show (if true = true then f H else g H)
  rw [if_pos rfl]
  exact h
end Om

/-! enumerate(tuple) and enumerate(text) -/
namespace PySem
open Sem (wp)
open Builtin
set_option maxHeartbeats 2000000 in
theorem om_enum_new {u : Value} {ob : Obj} {Hh : Heap → Prop} (B : Begins u ob Hh) :
    Meets (Builtin.«enumerate.__new__» ⟨[.type "enumerate", u], []⟩) (fun _ R z => Hh z.heap ∧
      R (.ok (.ret (.ref (z.heap.push ob).objs.size))) { z with heap := (z.heap.push ob).push { cls := .type "enumerate", data := .fields #[.none, .bool false, .ref z.heap.objs.size, rawInt 0, .none, .none] } }) :=
  Meets.of_wp fun pr wo Ar Re st hq => by
    obtain ⟨hp0, gg, dd, tt, oo⟩ := st
    obtain ⟨hB, hq⟩ := hq
    have hs0 := sub_enumerate
    have step : ∀ {A' : Around} {E : Value → Shared → Prop} {Q : Value → Shared → Prop}, Q (.ref hp0.objs.size) ⟨hp0.push ob, gg, dd, tt, oo⟩ → wpAny (model pr wo) A' (pyIter u) Q E ⟨hp0, gg, dd, tt, oo⟩ :=
      fun q => B.iter pr wo _ _ ⟨hp0, gg, dd, tt, oo⟩ _ hB q
    wp_walk using step
    refine wpAny_stack_any fun zz => wpAny_pure ?_
    split
    · rename_i cc _ _ _ _ _
      cases (cc == Value.type "enumerate") <;> (wp_walk using step; exact ⟨_, rfl, hq⟩)
    · wp_walk using step
      exact ⟨_, rfl, hq⟩
theorem om_enum_call {prog : Program} {w : World} {A : Around} {E : Value → Shared → Prop} {s : Shared} {u : Value} {ob : Obj} {Hh : Heap → Prop} {Q : Value → Shared → Prop} (B : Begins u ob Hh) (hB : Hh s.heap)
    (hq : ∀ h', IsEnum h' (s.heap.objs.size + 1) s.heap.objs.size 0 .none → h'.get? s.heap.objs.size = some ob → (∀ b o, s.heap.get? b = some o → h'.get? b = some o) → Q (.ref (s.heap.objs.size + 1)) { s with heap := h' }) :
    wpAny (model prog w) A (call (.type "enumerate") [u]) Q E s := by
  refine callType_new F.called_enumerate (by decide) (F.typeCall_enumerate_1 _) (F.newCall_enumerate_1 _) (fun obj => F.args_object_init_2 obj _) F.entry_enumerate_new (om_enum_new B) ⟨hB, ?_⟩
  have z1 : (s.heap.push ob).objs.size = s.heap.objs.size + 1 := Heap.size_push ..
  show _ ∧ _
  rw [z1]
  have z2 : IsEnum ((s.heap.push ob).push { cls := .type "enumerate", data := .fields #[.none, .bool false, .ref s.heap.objs.size, rawInt 0, .none, .none] }) (s.heap.objs.size + 1) s.heap.objs.size 0 .none := by
    have z3 := Heap.get?_push_size (s.heap.push ob) (o := { cls := .type "enumerate", data := .fields #[.none, .bool false, .ref s.heap.objs.size, rawInt 0, .none, .none] }) rfl
    rw [z1] at z3
    exact z3
  exact ⟨⟨_, z2, rfl⟩, hq _ z2 (Heap.get?_push_of_some _ (Heap.get?_push_size _ B.free)) fun b o x => Heap.get?_push_of_some _ (Heap.get?_push_of_some _ x)⟩
end PySem
namespace Om
open PySem PySem.Spec PyProof.Rows L2
/-- the tuple's items in new pairs -/
def IteT (K : PySem.W.Frag) (a : Addr) (xs : List V) : It :=
  ⟨fun i H => SqT K H a xs ∧ i < xs.length, fun i H v H' => ∃ T x, v = .ref T ∧ H T = none ∧ H' = upd H T (.tup [.int (i : Nat), x]) ∧ xs[i]? = some x, fun i H => SqT K H a xs ∧ xs.length = i⟩
theorem turn_enumT {P : Program} {w : World} {K : PySem.W.Frag} {elts : List Expr} {kk : Nat} {tpos : Pos} {a e it : Addr} {xs : List V} (nae : a ≠ e) (nai : a ≠ it) (nei : e ≠ it) :
    Turn P w K (.Tuple elts kk tpos) (IteT K a xs) [e, it] e (fun i h => (∃ old, IsEnum h e it ((i : Nat) : Int) old) ∧ h.IsTupleIter it a i) where
  mem := by simp
  obj := fun i h ⟨⟨old, he⟩, o, ho, hc, hd⟩ b hb => by
    rcases (show b = e ∨ b = it by simpa using hb) with rfl | rfl
    · exact ⟨_, he, fun v q => nomatch q⟩
    · exact ⟨o, ho, fun v q => by rw [hd] at q; cases q⟩
  keep := fun i h h' ⟨⟨old, he⟩, hi⟩ k => ⟨⟨old, k e (by simp) _ he⟩, hi.at fun o q => k it (by simp) o q⟩
  item := by
    intro X eP ew eK hc i pins s σ H E I hf ⟨⟨old, he⟩, hit⟩ ⟨hq, hlt⟩
    subst eP ew eK
    obtain ⟨its, rv, tu, hz⟩ := I.tuple hq
    have hx : xs[i]? = some xs[i] := by simp [hlt]
    obtain ⟨u, hu, ru⟩ := rv.get hx
    have el : e < s.heap.objs.size := Heap.lt_size he
    have il : it < s.heap.objs.size := by obtain ⟨_, q, _⟩ := hit; exact Heap.lt_size q
    have hsz : i < its.toArray.size := by
      have := rv.length
      simp
      omega
    have hd0 : X.A.in1.handled = none := I.ok.hd hc
    refine wpAny_pyNext_enum_itemD (Draws.tuple hd0 it a nai its.toArray) he ⟨hit, tu⟩ hsz nei (by simp [nei, Ne.symm nae]) fun x h' tk hx2 ho hst hT hs2 hk => ?_
    obtain rfl : x = u := by
      have e1 : its.toArray[i]? = some x := hx2
      have e2 : its.toArray[i]? = some u := by simpa using hu
      rw [e1] at e2
      exact Option.some.inj e2
    refine ⟨_, rfl, wpAny_letOwnedTupleGo_enum (s := { s with heap := h', toks := tk + 1 }) ho fun h2 he2 sb => ?_⟩
    have hT2 := (sb.2 _ (Nat.ne_of_gt el)).trans hT
    have new : ObjOk X.prog X.w (upd H s.heap.objs.size (.tup [.int (i : Nat), xs[i]])) h2 s.heap.objs.size (.tup [.int (i : Nat), xs[i]]) :=
      ⟨(show 2 ≤ sizeLine by decide), [.int i tk, x], .cons ⟨_, rfl⟩ (.cons ru .nil), _, hT2, rfl, _, rfl⟩
    have I1 : Inv X pins σ (upd H s.heap.objs.size (.tup [.int (i : Nat), xs[i]])) { s with heap := h2, toks := tk + 1 } :=
      I.turnedNew (ch := [e, it]) (fun b ob hb q => (sb.2 b (by rintro rfl; simp at hb)).trans (hk b ob (by rintro rfl; simp at hb) (by rintro rfl; simp at hb) q)) hf (Nat.le_refl _) new
    have ei : ((i + 1 : Nat) : Int) = (i : Int) + 1 := by omega
    refine ⟨.ref s.heap.objs.size, _, I1, rfl, ⟨_, _, rfl, I.hok.fresh (Nat.le_refl _), rfl, hx⟩, ⟨⟨x, by rw [ei]; exact he2⟩, hst.1.at fun o q => (sb.2 it (Ne.symm nei)).trans q⟩, fun b hb => ?_⟩
    have hlt2 : b < s.heap.objs.size := by
      rcases (show b = e ∨ b = it by simpa using hb) with rfl | rfl
      · exact el
      · exact il
    rw [upd_ne (Nat.ne_of_lt hlt2)]
    exact (hf b hb).1
  done := by
    intro X eP ew eK hc i pins s σ H E I hf ⟨⟨old, he⟩, hit⟩ ⟨hq, hle⟩
    subst eP ew eK
    obtain ⟨its, rv, tu, hz⟩ := I.tuple hq
    obtain ⟨f0, f1, f2, f3, f4, f5⟩ := hf it (by simp)
    have hl := rv.length
    have hd0 : X.A.in1.handled = none := I.ok.hd hc
    obtain rfl : i = its.toArray.size := by simp; omega
    exact wpAny_pyNext_enum_endD (Draws.tuple hd0 it a nai its.toArray) he ⟨hit, tu⟩ fun h' eb => ⟨rfl, I.turned (t' := s.toks) (fun b o hb q => eb b o hb q) f0 f1 f3 f4 f5⟩
  self := fun A i s Q E ⟨⟨_, he⟩, _⟩ h => wpAny_pyIter_enum he h
def iEnumT (K : PySem.W.Frag) (ta : TA) : TI := fun σ H R => ta σ H fun vs H1 => ∃ a xs, vs = [.ref a] ∧ SqT K H1 a xs ∧ R (IteT K a xs) H1
theorem pi_enumT {X : Cx} {e : Expr} {ta : TA} {p pos tpos : Pos} {elts : List Expr} {kk : Nat} (hg : Gl X "enumerate") (hm : X.mg "enumerate" = none) (ha : PA X [e] ta) (hs : starEach [e] X.env = [(false, eval e X.env)] := by rfl) :
    PI X (.Tuple elts kk tpos) (.Call (.Name "enumerate" p) [e] [] pos) (iEnumT X.K ta) := by
  constructor
  intro pins s σ H R I h
  refine Call_ (ld_blt I hg hm boot_enumerate (PyProof.Rows.callWith_type1 (thn (ha.run pos pins s σ H _ I h) fun us s1 ⟨vs, H1, I1, r1, a, xs, ev, hq, q⟩ => ?_) hs rfl))
  subst ev
  cases r1 with
  | cons ra rr =>
    cases rr
    cases ra
    obtain ⟨its, rv, tu, hz⟩ := I1.tuple hq
    have la : a < s1.heap.objs.size := by obtain ⟨o, ho, _⟩ := tu; exact Heap.lt_size ho
    refine om_enum_call (begins_tuple a its.toArray) tu fun h' he hi hk => wpAny_pyIter_enum he ?_
    have I2 : Inv X pins σ H1 { s1 with heap := h' } := I1.kept (t' := s1.toks) hk
    refine ⟨s1.heap.objs.size + 1, [s1.heap.objs.size + 1, s1.heap.objs.size], _, _, H1, rfl, I2, turn_enumT (a := a) (xs := xs) (Nat.ne_of_lt (Nat.lt_succ_of_lt la)) (Nat.ne_of_lt la) (Nat.succ_ne_self _), ⟨⟨.none, he⟩, _, hi, rfl, rfl⟩, fun b hb => ?_, q⟩
    have hb2 : s1.heap.objs.size ≤ b := by
      rcases (show b = s1.heap.objs.size + 1 ∨ b = s1.heap.objs.size by simpa using hb) with rfl | rfl
      · omega
      · exact Nat.le_refl _
    exact I1.fpOk hb2 (I1.hok.fresh hb2)
/-- for i, x in enumerate(t): one turn from Pv i to Pv (i + 1) -/
theorem for_enumT {K : PySem.W.Frag} {a : Addr} {xs : List V} {g : TG} {tb : TS} {D : Ends} {σ : L2.St} {H : Hp} (Pv : Nat → L2.St → Hp → Prop) (h0 : Pv 0 σ H) (hl : ∀ i σ H, i ≤ xs.length → Pv i σ H → SqT K H a xs)
    (hs : ∀ i x T σ H, xs[i]? = some x → Pv i σ H → H T = none → g (.ref T) σ (upd H T (.tup [.int (i : Nat), x])) fun σ2 H2 => tb { D with nx := Pv (i + 1), ct := Pv (i + 1), bk := D.nx } σ2 H2) (hd : ∀ σ H, Pv xs.length σ H → D.nx σ H) :
    ∃ W : Nat → Nat → L2.St → Hp → Prop, (∃ m, W 0 m σ H) ∧ ∀ i m σ H, W i m σ H → ((IteT K a xs).stop i H ∧ D.nx σ H) ∨ ((IteT K a xs).go i H ∧ ∃ Nx : L2.St → Hp → Prop, (∀ σ' H', Nx σ' H' → ∃ m', m' < m ∧ W (i + 1) m' σ' H') ∧
      ∀ x H', (IteT K a xs).yld i H x H' → g x σ H' fun σ2 H2 => tb { D with nx := Nx, ct := Nx, bk := D.nx } σ2 H2) := by
  refine ⟨fun i m σ H => m = xs.length - i ∧ i ≤ xs.length ∧ Pv i σ H, ⟨xs.length, by omega, Nat.zero_le _, h0⟩, ?_⟩
  rintro i m σ H ⟨rfl, hi, p⟩
  have q := hl i σ H hi p
  by_cases hlt : i < xs.length
  · refine .inr ⟨⟨q, hlt⟩, Pv (i + 1), fun σ' H' p' => ⟨xs.length - (i + 1), by omega, rfl, hlt, p'⟩, fun x H' hy => ?_⟩
    obtain ⟨T, y, rfl, hT, rfl, hx⟩ := hy
    exact hs i y T σ H hx p hT
  · obtain rfl : i = xs.length := by omega
    exact .inl ⟨⟨q, rfl⟩, hd σ H p⟩
end Om


/-! the first wrong sign of rows: the program's way and the law's -/
namespace Om
def okB (c : Nat) : Bool := decide (c = 46 ∨ c = 126 ∨ (65 ≤ c ∧ c ≤ 90))
theorem okB_iff (c : Nat) : okB c = true ↔ okSign c := by unfold okB okSign; exact decide_eq_true_iff
/-- the first of n columns from i on that is missing or wrong -/
def fw (r : List Nat) : Nat → Nat → Option Nat
  | 0, _ => none
  | n + 1, i => if i = r.length ∨ okB (r.getD i 0) = false then some i else fw r n (i + 1)
def fwEnd (r : List Nat) (wd : Nat) : Option Nat := if wd < r.length then some wd else none
def orElse' (a b : Option Nat) : Option Nat := match a with
  | some c => some c
  | none => b
def fwc (r : List Nat) (wd : Nat) : Option Nat := orElse' (fw r wd 0) (fwEnd r wd)
def chkF (wd : Nat) : List (List Nat) → Nat → Option (Nat × Nat)
  | [], _ => none
  | r :: rs, i => if i = 12 then some (i, 0) else match fwc r wd with
    | some c => some (i, c)
    | none => chkF wd rs (i + 1)
def wdOf (r : List Nat) : Nat := max 1 (min r.length 12)
def chk : List (List Nat) → Option (Nat × Nat)
  | [] => some (0, 0)
  | r :: rs => chkF (wdOf r) (r :: rs) 0
def dc (w0 : Nat) (r : List Nat) : Nat → Nat → Option Nat
  | 0, _ => none
  | n + 1, i => if 12 ≤ i ∨ w0 ≤ i ∨ okB (r.getD i 0) = false then some i else dc w0 r n (i + 1)
def dcEnd (w0 : Nat) (r : List Nat) : Option Nat := if r.length < w0 then some r.length else none
def dcc (w0 : Nat) (r : List Nat) : Option Nat := orElse' (dc w0 r r.length 0) (dcEnd w0 r)
def dueF (w0 : Nat) : List (List Nat) → Nat → Option (Nat × Nat)
  | [], _ => none
  | r :: rs, i => if i = 12 then some (12, 0) else match dcc w0 r with
    | some c => some (i, c)
    | none => dueF w0 rs (i + 1)
def due : List (List Nat) → Option (Nat × Nat)
  | [] => some (0, 0)
  | [] :: _ => some (0, 0)
  | (c :: r) :: rs => dueF (r.length + 1) ((c :: r) :: rs) 0
theorem row_same {r : List Nat} {w0 wd : Nat} (hwd : wd = min w0 12) (hc : w0 ≤ 12 ∨ r.length = w0) :
    ∀ (m i n k : Nat), m = wd - i → i ≤ wd → i ≤ r.length → n = wd - i → k = r.length - i → orElse' (fw r n i) (fwEnd r wd) = orElse' (dc w0 r k i) (dcEnd w0 r) := by
  intro m
  induction m with
  | zero =>
    intro i n k hm hi hr hn hk
    obtain rfl : i = wd := by omega
    obtain rfl : n = 0 := by omega
    show fwEnd r i = _
    unfold fwEnd
    by_cases hl : i < r.length
    · rw [if_pos hl]
      obtain ⟨k', rfl⟩ : ∃ k', k = k' + 1 := ⟨k - 1, by omega⟩
      unfold dc
      rw [if_pos (by omega)]
      rfl
    · rw [if_neg hl]
      obtain rfl : k = 0 := by omega
      show none = dcEnd w0 r
      unfold dcEnd
      rw [if_neg (by omega)]
  | succ m ih =>
    intro i n k hm hi hr hn hk
    obtain ⟨n', rfl⟩ : ∃ n', n = n' + 1 := ⟨n - 1, by omega⟩
    by_cases he : i = r.length
    · obtain rfl : k = 0 := by omega
      unfold fw
      rw [if_pos (.inl he)]
      show some i = dcEnd w0 r
      unfold dcEnd
      rw [if_pos (by omega), he]
    · obtain ⟨k', rfl⟩ : ∃ k', k = k' + 1 := ⟨k - 1, by omega⟩
      unfold fw dc
      by_cases hb : okB (r.getD i 0) = false
      · rw [if_pos (.inr hb), if_pos (.inr (.inr hb))]
        rfl
      · rw [if_neg (by intro h; rcases h with h | h; exact he h; exact hb h), if_neg (by intro h; rcases h with h | h | h; omega; omega; exact hb h)]
        exact ih (i + 1) n' k' (by omega) (by omega) (by omega) (by omega) (by omega)
theorem fwc_dcc {r : List Nat} {w0 : Nat} (hc : w0 ≤ 12 ∨ r.length = w0) : fwc r (min w0 12) = dcc w0 r :=
  row_same (wd := min w0 12) rfl hc _ 0 _ _ rfl (Nat.zero_le _) (Nat.zero_le _) rfl rfl
theorem chkF_dueF {w0 : Nat} (h : w0 ≤ 12) : ∀ (rs : List (List Nat)) (i : Nat), chkF (min w0 12) rs i = dueF w0 rs i
  | [], _ => rfl
  | r :: rs, i => by
    unfold chkF dueF
    by_cases hi : i = 12
    · rw [if_pos hi, if_pos hi, hi]
    · rw [if_neg hi, if_neg hi, fwc_dcc (.inl h), chkF_dueF h rs (i + 1)]
theorem chk_due : ∀ rows : List (List Nat), chk rows = due rows
  | [] => rfl
  | [] :: rs => rfl
  | (c :: r) :: rs => by
    have hw : wdOf (c :: r) = min (r.length + 1) 12 := by unfold wdOf; simp only [List.length_cons]; omega
    show chkF (wdOf (c :: r)) ((c :: r) :: rs) 0 = dueF (r.length + 1) ((c :: r) :: rs) 0
    rw [hw]
    by_cases h : r.length + 1 ≤ 12
    · exact chkF_dueF h _ 0
    · unfold chkF dueF
      rw [if_neg (by decide), if_neg (by decide), fwc_dcc (r := c :: r) (w0 := r.length + 1) (.inr rfl)]
      have hs : ∃ x, dcc (r.length + 1) (c :: r) = some x := by
        rw [← fwc_dcc (r := c :: r) (w0 := r.length + 1) (.inr rfl)]
        unfold fwc fwEnd
        cases hf : fw (c :: r) (min (r.length + 1) 12) 0 with
        | some x => exact ⟨x, rfl⟩
        | none => exact ⟨_, if_pos (by simp only [List.length_cons]; omega)⟩
      obtain ⟨x, hx⟩ := hs
      rw [hx]
/-- rows that are good -/
theorem fw_none {r : List Nat} (h : ∀ c ∈ r, okSign c) : ∀ n i, i + n ≤ r.length → fw r n i = none
  | 0, _, _ => rfl
  | n + 1, i, hi => by
    unfold fw
    have h1 : okB (r.getD i 0) = true := by
      rw [okB_iff, List.getD_eq_getElem?_getD, List.getElem?_eq_getElem (by omega)]
      exact h _ (List.getElem_mem _)
    rw [if_neg (by rintro (h | h); · omega
                   · rw [h1] at h; cases h), fw_none h n (i + 1) (by omega)]
theorem chkF_none {wd : Nat} : ∀ (rs : List (List Nat)) (i : Nat), i + rs.length ≤ 12 → (∀ r ∈ rs, r.length = wd ∧ ∀ c ∈ r, okSign c) → chkF wd rs i = none
  | [], _, _, _ => rfl
  | r :: rs, i, hi, h => by
    obtain ⟨h1, h2⟩ := h r (List.mem_cons_self ..)
    unfold chkF
    have e : fwc r wd = none := by
      unfold fwc fwEnd
      rw [fw_none h2 wd 0 (by omega), if_neg (by omega)]
      rfl
    simp only [List.length_cons] at hi
    rw [if_neg (by omega), e]
    exact chkF_none rs (i + 1) (by omega) fun r hr => h r (List.mem_cons_of_mem _ hr)
theorem chk_rows {m : Nat} {rows : List (List Nat)} (h : RowsOk m rows) (hm : m ≤ 12) : chk rows = none := by
  obtain ⟨h1, h2, wd, w1, w2, hr⟩ := h
  cases rows with
  | nil => simp at h1
  | cons r rs =>
    have e := (hr r (List.mem_cons_self ..)).1
    have hw : wdOf r = wd := by unfold wdOf; omega
    show chkF (wdOf r) (r :: rs) 0 = none
    rw [hw]
    exact chkF_none _ 0 (by omega) hr
end Om


namespace Om
open PySem PySem.Spec PyProof.Rows L2
abbrev sFwc : Stmt := top 17
abbrev sChk : Stmt := top 16
abbrev sII : Stmt := inClass (top 7) 0
abbrev sIslI : Stmt := inClass (top 13) 0
def allSigns : Str := Str.ofString ".ABCDEFGHIJKLMNOPQRSTUVWXYZ~"
theorem allSigns_cps : allSigns.cps.toList = [46, 65, 66, 67, 68, 69, 70, 71, 72, 73, 74, 75, 76, 77, 78, 79, 80, 81, 82, 83, 84, 85, 86, 87, 88, 89, 90, 126] := by decide +kernel
theorem mem_allSigns (c : Nat) : decide (c ∈ allSigns.cps.toList) = okB c := by
  rw [allSigns_cps]
  unfold okB
  apply decide_eq_decide.mpr
  simp only [List.mem_cons, List.not_mem_nil, or_false]
  omega
def optV : Option Nat → V
  | some c => .int (c : Nat)
  | none => .non
def spFwc : Sp := fun vs H Q _ => ∃ (r : List Nat) (wd : Nat), vs = [.str (tx r), .int wd] ∧ r.length ≤ 1000 ∧ wd ≤ 12 ∧ Q (optV (fwc r wd)) H
theorem small_le {n : Nat} (h : n ≤ 1000) : n ≤ sizeLine := Nat.le_of_lt (small1000 h)
theorem fw_succ (r : List Nat) (n i : Nat) : fw r (n + 1) i = if i = r.length ∨ okB (r.getD i 0) = false then some i else fw r n (i + 1) := rfl
section
variable {P : Program} {w : World} {K : PySem.W.Frag} {mg : Str → Option Value} {base : Heap}
theorem scFwc : FnScope ["signs", "width", "column"] ["signs", "width"] (defScope sFwc) := ⟨rfl, rfl, rfl, by decide +kernel, rfl, by decide +kernel, by decide +kernel⟩
theorem ok_fwc {f : Addr} {fd : FuncData} (F : FnP K "_first_wrong_column" "_first_wrong_column" sFwc f fd) (grange : mg "range" = none) (glen : mg "len" = none) (gall : ∃ t, mg "ALL_SIGNS" = some (.str allSigns t)) :
    FnOk P w K mg base CX0 1 f fd ["signs", "width"] spFwc := by
  obtain ⟨t0, gall⟩ := gall
  refine F.ok scFwc (fun vs H Q E h => ?_) (fun cdv A outer s H vs Q E hr h => ?_)
  · obtain ⟨r, wd, rfl, _⟩ := h
    rfl
  · obtain ⟨r, wd, rfl, hl, hw, k⟩ := h
    have nd := scFwc.nd
    have hl2 : (tx r).length ≤ sizeLine := by rw [tx_len]; exact small_le hl
    refine ⟨_, PSs.nox (pss_cons (ps_for PassesOwn.never rfl (pi_range1 rfl grange (pa_cons (pv 1) pa_nil)) (pg_name (i := 2) nd rfl (.inl rfl))
        (pss_one (ps_if (PW.pt (pw_or (pt_cmpR op_eq (pv 2) (pe_callB call_len_str (by rfl) glen PySem.boot_len (pa_cons (pv 0) pa_nil)) (nomark _))
            (pw_or1 (pt_cmpR op_notIn_sign (pe_ix ix_str (pv 0) (pv 2) (fun _ _ => rfl)) (pe_glob (v := .str allSigns) rfl gall ⟨_, rfl⟩) rfl)))) (pss_one (ps_ret (pv 2))) pss_nil)))
      (pss_cons (ps_if (pt_cmpR op_gt (pe_callB call_len_str (by rfl) glen PySem.boot_len (pa_cons (pv 0) pa_nil)) (pv 1) (nomark _)) (pss_one (ps_ret (pv 1))) pss_nil)
      (pss_one (ps_ret pe_non)))), ?_⟩
    refine ⟨_, rfl, _, rfl, by omega, by omega, for_range (lo := 0) (n := (wd : Int).toNat) (fun i σ H' => H' = H ∧ (∃ v, σ = [some (.str (tx r)), some (.int wd), v]) ∧ fw r wd 0 = fw r (wd - i) i ∧ i ≤ r.length) ⟨rfl, ⟨none, rfl⟩, rfl, Nat.zero_le _⟩ ?_ ?_⟩
    · rintro i σ H' hi ⟨rfl, ⟨v, rfl⟩, hf, hir⟩
      have hi' : i < wd := by omega
      obtain ⟨n, hn⟩ : ∃ n, wd - i = n + 1 := ⟨wd - i - 1, by omega⟩
      have hn2 : n = wd - (i + 1) := by omega
      rw [hn, fw_succ] at hf
      refine ⟨_, rfl, _, rfl, _, rfl, hl2, rfl, _, rfl, ?_⟩
      have e1 : decide (V.int (0 + (i : Int)) = V.int ((tx r).length : Nat)) = decide (i = r.length) := by
        rw [tx_len]
        apply decide_eq_decide.mpr
        constructor
        · intro h; injection h with h; omega
        · intro h; subst h; rw [Int.zero_add]
      have ret : (i = r.length ∨ okB (r.getD i 0) = false) → Q (.int (0 + (i : Int))) H' := fun h => by
        rw [if_pos h] at hf
        have e2 : fwc r wd = some i := by
          unfold fwc
          rw [hf]
          rfl
        rw [e2] at k
        rw [Int.zero_add]
        exact k
      show (if decide (V.int (0 + (i : Int)) = V.int ((tx r).length : Nat)) = true then _ else _)
      rw [e1]
      refine ite2 (fun hz => ?_) (fun hz => ?_)
      · refine iteT ⟨_, rfl, ?_⟩
        exact ret (.inl (of_decide_eq_true hz))
      · have hne : i ≠ r.length := fun e => hz (decide_eq_true e)
        have hlt : i < r.length := by omega
        · refine ⟨_, rfl, _, rfl, _, _, r[i], rfl, rfl, hl2, ?_, _, _, rfl, rfl, _, rfl, ?_⟩
          · rw [tx_cps, Int.zero_add]
            exact atI_nat (by simp [hlt])
          · rw [mem_allSigns]
            have e3 : r.getD i 0 = r[i] := by rw [List.getD_eq_getElem?_getD, List.getElem?_eq_getElem hlt]; rfl
            rw [e3] at ret hf
            cases hb : okB r[i] with
            | false =>
              refine iteT ⟨_, rfl, ?_⟩
              exact ret (.inr hb)
            | true =>
              refine iteF ?_
              refine ⟨rfl, ⟨_, rfl⟩, ?_, hlt⟩
              rw [hf, if_neg (by rintro (h | h); · exact hne h
                                 · rw [hb] at h; cases h), hn2]
    · rintro σ H' ⟨rfl, ⟨v, rfl⟩, hf, hir⟩
      have e0 : (wd : Int).toNat = wd := by omega
      rw [e0, Nat.sub_self] at hf
      have hf : fw r wd 0 = none := hf
      refine ⟨_, rfl, _, rfl, hl2, _, rfl, _, _, rfl, rfl, _, rfl, ?_⟩
      have e2 : fwc r wd = fwEnd r wd := by
        unfold fwc
        rw [hf]
        rfl
      rw [e2] at k
      rw [tx_len]
      refine ite2 (fun hz => ?_) (fun hz => ?_)
      · have hz' : (wd : Int) < (r.length : Nat) := of_decide_eq_true hz
        refine ⟨_, rfl, ?_⟩
        unfold fwEnd at k
        rw [if_pos (by omega)] at k
        exact k
      · have hz' : ¬ (wd : Int) < (r.length : Nat) := fun h => hz (decide_eq_true h)
        unfold fwEnd at k
        rw [if_neg (by omega)] at k
        exact k
end
end Om


namespace Om
open PySem PySem.Spec PyProof.Rows L2
/-- what the top says of InvalidIsland, at C, its __init__ at fI -/
structure IsI (K : PySem.W.Frag) (mg : Str → Option Value) (C fI : Addr) : Prop where
  oex : OexC K C
  noR : PySem.W.findIn K (.ref C) "row" = some none
  noC : PySem.W.findIn K (.ref C) "column" = some none
  iC : PySem.W.findIn K (.ref C) "__init__" = some (some (.ref fI))
  tI : PySem.W.typeIn K (.ref fI) = some (.type "function")
  gC : mg "InvalidIsland" = some (.ref C)
def xdII (x y : V) : List (Str × V) := [(("column" : Str), y), (("row" : Str), x)]
def spII (C : Addr) : Sp := fun vs H Q _ => ∃ (a : Addr) (x y : V), vs = [.ref a, x, y] ∧ H a = some (exo a C none) ∧
  ∀ dx, H dx = none → dx ≠ a → Q .non (upd (upd (upd H dx (exd dx [(("row" : Str), x)])) a (exo a C (some dx))) dx (exd dx (xdII x y)))
theorem mkII {C : Addr} {H1 : Hp} {W : XK} {x y : V} (k : ∀ d H', H1 d = none → Same H1 H' → H' d = some (.xd (xdII x y)) → W (.ref C) (some d) H') :
    [x, y].length ≤ 1000 ∧ ∀ a, H1 a = none → spII C (.ref a :: ([x, y] ++ [])) (upd H1 a (exo a C none)) (fun v H2 => v = .non ∧ ∃ (d : Addr) (fs : List (Str × V)), H2 a = some (exo a C (some d)) ∧ H2 d = some (exd d fs) ∧ H1 d = none ∧ W (.ref C) (some d) (upd (del H2 a) d (.xd fs))) (fun _ _ _ => False) := by
  refine ⟨by simp, fun a ha => ⟨a, x, y, rfl, upd_same, fun dx h1 h2 => ⟨rfl, dx, _, ?_, upd_same, ?_, ?_⟩⟩⟩
  · rw [upd_ne (Ne.symm h2), upd_same]
  · rw [upd_ne h2] at h1; exact h1
  · rw [upd_ne h2] at h1
    refine k dx _ h1 (fun c o hc => ?_) upd_same
    have n1 : c ≠ dx := ne_of_none hc h1
    have n2 : c ≠ a := ne_of_none hc ha
    rw [upd_ne n1, del_ne n2, upd_ne n1, upd_ne n2, upd_ne n1, upd_ne n2]
    exact hc
theorem Same.tup {K : PySem.W.Frag} {H H' : Hp} {a : Addr} {xs : List V} (e : Same H H') (h : SqT K H a xs) : SqT K H' a xs := by
  rcases h with (h | ⟨o, h⟩) | h
  · exact .inl (.inl (e _ _ h))
  · exact .inl (.inr ⟨o, e _ _ h⟩)
  · exact .inr h
theorem chkF_cons (wd : Nat) (r : List Nat) (rs : List (List Nat)) (i : Nat) : chkF wd (r :: rs) i = if i = 12 then some (i, 0) else match fwc r wd with
    | some c => some (i, c)
    | none => chkF wd rs (i + 1) := rfl
def spChk (K : PySem.W.Frag) (C : Addr) : Sp := fun vs H Q E => ∃ (a : Addr) (rows : List (List Nat)), vs = [.ref a] ∧ SqT K H a (rows.map vt) ∧ rows.length ≤ 1000 ∧ (∀ r ∈ rows, r.length ≤ 1000) ∧
  (chk rows = none → ∀ H', Same H H' → Q .non H') ∧ ∀ r c, chk rows = some (r, c) → ∀ d H', H d = none → Same H H' → H' d = some (.xd (xdII (.int (r : Nat)) (.int (c : Nat)))) → E (.ref C) (some d) H'
section
variable {P : Program} {w : World} {K : PySem.W.Frag} {mg : Str → Option Value} {base : Heap} {C fI : Addr}
theorem scII : FnScope ["self", "row", "column"] ["self", "row", "column"] (defScope sII) := ⟨rfl, rfl, rfl, by decide +kernel, rfl, by decide +kernel, by decide +kernel⟩
theorem ok_II {fd : FuncData} (F : FnP K "__init__" "InvalidIsland.__init__" sII fI fd) (T : IsI K mg C fI) : FnOk P w K mg base CX0 1 fI fd ["self", "row", "column"] (spII C) := by
  refine F.ok scII (fun vs H Q E h => ?_) (fun cdv A outer s H vs Q E hr h => ?_)
  · obtain ⟨a, x, y, rfl, _⟩ := h
    rfl
  · obtain ⟨a, x, y, rfl, ha, k⟩ := h
    refine ⟨_, PSs.nox (pss_cons (ps_ost (pv 0) (pv 1)) (pss_one (ps_ost (pv 0) (pv 2)))), ?_⟩
    refine ⟨_, rfl, _, rfl, a, C, rfl, T.oex, T.noR, .inl ⟨ha, fun dx h1 h2 => ?_⟩⟩
    exact ⟨_, rfl, _, rfl, a, C, rfl, T.oex, T.noC, .inr ⟨dx, _, upd_same, (by rw [upd_ne h2]; exact upd_same), by simp, k dx h1 h2⟩⟩
abbrev nChk : List Str := ["rows", "width", "row", "signs", "column"]
theorem scChk : FnScope nChk ["rows"] (defScope sChk) := ⟨rfl, rfl, rfl, by decide +kernel, rfl, by decide +kernel, by decide +kernel⟩
theorem ok_chk {f : Addr} {fd fdI : FuncData} (F : FnP K "_check_rows" "_check_rows" sChk f fd) (T : IsI K mg C fI) (FI : FnOk P w K mg base CX0 1 fI fdI ["self", "row", "column"] (spII C)) (bI : Binds K fdI ["self", "row", "column"] [])
    (G : Cal P w K mg base CX0 1 "_first_wrong_column" ["signs", "width"] spFwc) (glen : mg "len" = none) (gmax : mg "max" = none) (gmin : mg "min" = none) (genum : mg "enumerate" = none) (glg : ∃ t, mg "LARGEST" = some (.int 12 t)) :
    FnOk P w K mg base (L2.CX P w) 3 f fd ["rows"] (spChk K C) := by
  obtain ⟨t0, glg⟩ := glg
  refine F.ok scChk (fun vs H Q E h => ?_) (fun cdv A outer s H vs Q E hr h => ?_)
  · obtain ⟨a, rows, rfl, _⟩ := h
    rfl
  · obtain ⟨a, rows, rfl, hS, hl, hrl, kN, kS⟩ := h
    have nd := scChk.nd
    have hr1 : Room 1 _ := hr.mono (by decide)
    refine ⟨_, pss_cons (ps_if (pt_cmpR op_eq (pe_callB call_len_seq (by rfl) glen PySem.boot_len (pa_cons (pv 0) pa_nil)) pe_int (nomark _))
          (pss_one (ps_raise rfl (takes_of rfl rfl rfl rfl) (pmk_oex T.oex T.iC T.tI FI hr bI .nil pass0 rfl T.gC (pa_cons pe_int (pa_cons pe_int pa_nil))))) pss_nil)
      (pss_cons (ps_set (i := 1) nd rfl (.inl rfl) (pe_callB (call_max2 rfl) (by rfl) gmax (by decide +kernel) (pa_cons pe_int (pa_cons
          (pe_callB (call_min2 rfl) (by rfl) gmin (by decide +kernel) (pa_cons (pe_callB call_len_str (by rfl) glen PySem.boot_len (pa_cons (pe_ix ix_tup (pv 0) pe_int (fun _ _ => rfl)) pa_nil)) (pa_cons (pe_glob (v := .int 12) rfl glg ⟨_, rfl⟩) pa_nil))) pa_nil))))
      (pss_one (ps_for (passes_of rfl) rfl (pi_enumT rfl genum (pa_cons (pv 0) pa_nil)) (pg_tup rfl (pgs_cons (pg_name (i := 2) nd rfl (.inl rfl)) (pgs_cons (pg_name (i := 3) nd rfl (.inl rfl)) pgs_nil)))
        (pss_cons (ps_if (pt_cmpR op_eq (pv 2) (pe_glob (v := .int 12) rfl glg ⟨_, rfl⟩) (nomark _))
            (pss_one (ps_raise rfl (takes_of rfl rfl rfl rfl) (pmk_oex T.oex T.iC T.tI FI hr bI .nil pass0 rfl T.gC (pa_cons (pv 2) (pa_cons pe_int pa_nil))))) pss_nil)
        (pss_cons (ps_set (i := 4) nd rfl (.inl rfl) (pe_cal G hr1 pass0 (pa_cons (pv 3) (pa_cons (pv 1) pa_nil))))
        (pss_one (ps_if (pt_cmpR op_notN (pv 4) pe_non (nomark _))
            (pss_one (ps_raise rfl (takes_of rfl rfl rfl rfl) (pmk_oex T.oex T.iC T.tI FI hr bI .nil pass0 rfl T.gC (pa_cons (pv 2) (pa_cons (pv 4) pa_nil))))) pss_nil))))))), ?_⟩
    refine ⟨_, rfl, a, _, rfl, .inr hS, rfl, _, rfl, ?_⟩
    cases rows with
    | nil =>
      refine iteT ?_
      exact mkII (W := E) fun d H' h1 h2 h3 => kS 0 0 rfl d H' h1 h2 h3
    | cons r0 rs =>
      have hne : ¬ decide (V.int (((r0 :: rs).map vt).length : Nat) = V.int 0) = true := fun h => by
        have h := of_decide_eq_true h
        injection h with h
        simp only [List.length_map, List.length_cons] at h
        omega
      rw [if_neg hne]
      have hr0 : (tx r0).length ≤ sizeLine := by rw [tx_len]; exact small_le (hrl r0 (List.mem_cons_self ..))
      refine ⟨_, rfl, a, _, 0, _, rfl, rfl, hS, at0, _, rfl, hr0, _, _, rfl, _, _, rfl, ?_⟩
      have ew : (if (if (12 : Int) < ((tx r0).length : Nat) then (12 : Int) else ((tx r0).length : Nat)) > 1 then (if (12 : Int) < ((tx r0).length : Nat) then (12 : Int) else ((tx r0).length : Nat)) else 1) = ((wdOf r0 : Nat) : Int) := by
        rw [tx_len]
        unfold wdOf
        split <;> split <;> omega
      rw [ew]
      have hwd : wdOf r0 ≤ 12 := by unfold wdOf; omega
      refine ⟨_, rfl, a, _, rfl, hS, for_enumT (K := K) (a := a) (xs := (r0 :: rs).map vt) (fun i σ H' => Same H H' ∧ (∃ v2 v3 v4, σ = [some (.ref a), some (.int (wdOf r0 : Nat)), v2, v3, v4]) ∧ chk (r0 :: rs) = chkF (wdOf r0) ((r0 :: rs).drop i) i)
        ⟨Same.refl H, ⟨_, _, _, rfl⟩, rfl⟩ (fun i σ H' _ p => Same.tup p.1 hS) ?_ ?_⟩
      · rintro i x T1 σ H1 hx ⟨sm, ⟨v2, v3, v4, rfl⟩, hc⟩ hT1
        rw [List.getElem?_map] at hx
        cases hri : (r0 :: rs)[i]? with
        | none => rw [hri] at hx; cases hx
        | some r =>
          rw [hri] at hx
          obtain rfl : vt r = x := Option.some.inj hx
          have hlt : i < (r0 :: rs).length := (List.getElem?_eq_some_iff.mp hri).1
          have hre : (r0 :: rs)[i] = r := (List.getElem?_eq_some_iff.mp hri).2
          have hmem : r ∈ r0 :: rs := hre ▸ List.getElem_mem hlt
          rw [List.drop_eq_getElem_cons hlt, hre, chkF_cons] at hc
          have sm1 : Same H (upd H1 T1 (.tup [.int (i : Nat), vt r])) := Same.new sm hT1
          refine ⟨T1, _, rfl, .inl (.inl upd_same), rfl, _, _, rfl, _, _, rfl, rfl, ?_⟩
          refine ⟨_, rfl, rfl, _, rfl, ?_⟩
          refine ite2 (fun hz => ?_) (fun hz => ?_)
          · have hz := of_decide_eq_true hz
            injection hz with hz
            have hi : i = 12 := by omega
            rw [if_pos hi] at hc
            refine ⟨_, rfl, ?_⟩
            exact mkII (W := E) fun d H' h1 h2 h3 => kS i 0 hc d H' (Same.free sm1 h1) (sm1.trans h2) h3
          · have hi : i ≠ 12 := fun h => hz (decide_eq_true (by rw [h]; rfl))
            rw [if_neg hi] at hc
            refine ⟨_, rfl, _, rfl, r, wdOf r0, rfl, hrl r hmem, hwd, ?_⟩
            refine ⟨_, rfl, rfl, _, rfl, ?_⟩
            cases hf : fwc r (wdOf r0) with
            | none =>
              rw [hf] at hc
              refine iteF ?_
              exact ⟨sm1, ⟨_, _, _, rfl⟩, hc⟩
            | some c =>
              rw [hf] at hc
              refine iteT ⟨_, rfl, _, rfl, ?_⟩
              exact mkII (W := E) fun d H' h1 h2 h3 => kS i c hc d H' (Same.free sm1 h1) (sm1.trans h2) h3
      · rintro σ H1 ⟨sm, ⟨v2, v3, v4, rfl⟩, hc⟩
        have e0 : (r0 :: rs).drop ((r0 :: rs).map vt).length = [] := by simp
        rw [e0] at hc
        exact kN hc H1 sm
end
end Om


namespace Om
open PySem PySem.Spec PyProof.Rows L2 LamX
theorem iteT' {b : Bool} {A B : Prop} (h : b = true) (a : A) : if b = true then A else B := by
  rw [h, if_pos rfl]
  exact a
theorem iteF' {b : Bool} {A B : Prop} (h : b = false) (a : B) : if b = true then A else B := by
  rw [h, if_neg Bool.false_ne_true]
  exact a
end Om

namespace Om
open PySem PySem.Spec PyProof.Rows L2 LamX
/-! ### a text of some signs, several times -/
theorem foldl_rep (cs : List Nat) : ∀ (n : Nat) (acc : List Nat), (List.replicate n cs.toArray).foldl (· ++ ·) acc.toArray = (acc ++ (List.replicate n cs).flatten).toArray
  | 0, acc => by simp
  | n + 1, acc => by
    rw [List.replicate_succ, List.foldl_cons]
    have e : acc.toArray ++ cs.toArray = (acc ++ cs).toArray := by simp
    rw [e, foldl_rep cs n (acc ++ cs), List.replicate_succ, List.flatten_cons, List.append_assoc]
def rMulS : R2 := fun x y H Q => ∃ (cs : List Nat) (k : Int), x = .str (tx cs) ∧ y = .int k ∧ cs ≠ [] ∧ cs.length ≤ 1000 ∧ 2 ≤ k ∧ k ≤ 1000 ∧ Q (.str (tx (List.replicate k.toNat cs).flatten)) H
theorem op_mulS {X : Cx} : OpR X (binaryOp .Mult) rMulS := by
  rintro pins s σ H x y v u Q I rx ry ⟨cs, k, rfl, rfl, hne, hl, h2, h3, q⟩
  obtain ⟨t, rfl⟩ := rx
  obtain ⟨t', rfl⟩ := ry
  have hk : (List.replicate k.toNat cs).flatten.length ≤ 1000000 := by
    rw [PyProof.Rows.lm_len_rep_flat]
    have a1 : k.toNat * cs.length ≤ 1000 * 1000 := Nat.mul_le_mul (by omega) hl
    omega
  have hm : (tx cs).length * k.toNat ≤ 1000000 := by
    rw [tx_len]
    have a1 : cs.length * k.toNat ≤ 1000 * 1000 := Nat.mul_le_mul hl (by omega)
    omega
  have n1 : ¬ k < 1 := by omega
  have n2 : (k == 1 || (tx cs).length == 0) = false := by
    rw [tx_len, Bool.or_eq_false_iff]
    refine ⟨by simpa using (show ¬ k = 1 by omega), ?_⟩
    cases cs with
    | nil => exact absurd rfl hne
    | cons a r => rfl
  refine PySem.P.mul_str ?_ (fun _ _ => ?_) (fun _ _ => ?_) ?_
  · rw [decide_eq_false (show ¬ k < -(2 ^ 63 : Int) by omega), decide_eq_false (show ¬ k ≥ 2 ^ 63 by omega)]
    rfl
  · have e1 : (1000 : Int) ≤ (2 ^ 63 - 1) / k := by
      rw [Int.le_ediv_iff_mul_le (by omega)]
      have : 1000 * k ≤ 1000 * 1000 := Int.mul_le_mul_of_nonneg_left h3 (by omega)
      omega
    rw [tx_len]
    omega
  · refine decide_eq_false (show ¬ (tx cs).length * k.toNat > sizeLine from Nat.not_lt.mpr (Nat.le_trans hm (by decide)))
  · rw [if_neg n1, if_neg (by rw [n2]; exact Bool.false_ne_true)]
    have e2 : (⟨(List.replicate k.toNat (tx cs).cps).foldl (· ++ ·) #[]⟩ : Str) = tx (List.replicate k.toNat cs).flatten := by
      have := foldl_rep cs k.toNat []
      unfold tx
      rw [← List.nil_append (List.replicate k.toNat cs).flatten, ← this]
    rw [e2]
    exact ⟨by rw [tx_len]; exact Nat.le_trans hk (by decide), .str (tx (List.replicate k.toNat cs).flatten), H, I.tok _, ⟨_, rfl⟩, q⟩
/-! ### the island is made -/
/-- what the top says of Island, at CI -/
structure IslF (K : PySem.W.Frag) (mg : Str → Option Value) (CI fN : Addr) : Prop where
  cl : Cls K CI
  nR : NoAttr K CI "_rows"
  made : Mk K CI fN
  gI : mg "Island" = some (.ref CI)
def islFs (a : Addr) : List (Str × V) := putF "_rows" (.ref a) []
def spIsl (K : PySem.W.Frag) (CI C0 : Addr) : Sp := fun vs H Q E => ∃ (p dx a : Addr) (rows : List (List Nat)), vs = [.ref p, .ref a] ∧ H p = some (.ins CI dx []) ∧ SqT K H a (rows.map vt) ∧ rows.length ≤ 1000 ∧ (∀ r ∈ rows, r.length ≤ 1000) ∧
  (chk rows = none → ∀ H', (∀ b o, H b = some o → b ≠ p → H' b = some o) → H' p = some (.ins CI dx (islFs a)) → Q .non H') ∧
  ∀ r c, chk rows = some (r, c) → ∀ d H', H d = none → Same H H' → H' d = some (.xd (xdII (.int (r : Nat)) (.int (c : Nat)))) → E (.ref C0) (some d) H'
section
variable {P : Program} {w : World} {K : PySem.W.Frag} {mg : Str → Option Value} {base : Heap} {CI C0 fN : Addr}
theorem scIsl : FnScope ["self", "rows"] ["self", "rows"] (defScope sIslI) := ⟨rfl, rfl, rfl, by decide +kernel, rfl, by decide +kernel, by decide +kernel⟩
theorem ok_isl {fd : FuncData} (F : FnP K "__init__" "Island.__init__" sIslI fN fd) (T : IslF K mg CI fN) (G : Cal P w K mg base (L2.CX P w) 3 "_check_rows" ["rows"] (spChk K C0)) (gtuple : mg "tuple" = none) :
    FnOk P w K mg base (L2.CX P w) 4 fN fd ["self", "rows"] (spIsl K CI C0) := by
  refine F.ok scIsl (fun vs H Q E h => ?_) (fun cdv A outer s H vs Q E hr h => ?_)
  · obtain ⟨p, dx, a, rows, rfl, _⟩ := h
    rfl
  · obtain ⟨p, dx, a, rows, rfl, hp, hS, hl, hrl, kN, kS⟩ := h
    refine ⟨_, pss_cons (ps_expr (pe_cal G hr (E := E) (passes_call (W := fun cls d _ H => E cls d H) (takes_of rfl rfl rfl rfl) fun _ _ _ _ h => h) (pa_cons (pv 1) pa_nil)))
      (pss_one (ps_fld (pv 0) (pe_callTy call_tuple_of (by rfl) gtuple (by decide +kernel) (pa_cons (pv 1) pa_nil)) rfl)), ?_⟩
    refine ⟨_, rfl, a, rows, rfl, hS, hl, hrl, fun e H1 s1 => ?_, fun r c e d H' h1 h2 h3 => kS r c e d H' h1 h2 h3⟩
    refine ⟨_, rfl, a, _, rfl, .inr ⟨Same.tup s1 hS, ?_⟩⟩
    refine ⟨_, rfl, p, CI, dx, [], rfl, s1 _ _ hp, T.cl, T.nR, by decide, ?_⟩
    exact kN e _ (fun b o hb n => by rw [upd_ne n]; exact s1 _ _ hb) upd_same
end
end Om


namespace Om
open PySem PySem.Spec PyProof.Rows L2 LamX
def ansII (r c : Nat) : List V := [.str "InvalidIsland", .int (r : Nat), .int (c : Nat)]
def Lo (rows : List (List Nat)) : Prop := ∀ r ∈ rows, ∀ c ∈ r, c < 1000
/-! ### what stays from step to step of a law -/
/-- all but tables and the box stay -/
def Lv (b l : Addr) (H H' : Hp) : Prop := ∀ c o, H c = some o → (∀ ps, o ≠ .tbl ps) → c ≠ b → c ≠ l → H' c = some o
theorem Lv.refl (b l : Addr) (H : Hp) : Lv b l H H := fun _ _ h _ _ _ => h
theorem Lv.trans {b l : Addr} {H H1 H2 : Hp} (u : Lv b l H H1) (v : Lv b l H1 H2) : Lv b l H H2 := fun c o h n n1 n2 => v c o (u c o h n n1 n2) n n1 n2
theorem Kp.lv {b l : Addr} {H H' : Hp} (k : Kp b l H H') : Lv b l H H' := fun c o h _ n1 n2 => k c o h n1 n2
theorem lv_ext {b l : Addr} {H H' : Hp} (k : ExtN H H') : Lv b l H H' := fun c o h n _ _ => k c o h n
theorem lv_same {b l : Addr} {H H' : Hp} (k : Same H H') : Lv b l H H' := fun c o h _ _ _ => k c o h
theorem Lv.tup {K : PySem.W.Frag} {b l a : Addr} {H H' : Hp} {xs : List V} (v : Lv b l H H') (B : Box H b l) (h : SqT K H a xs) : SqT K H' a xs := by
  obtain ⟨ns, z, h1, h2, _⟩ := B.ex
  rcases h with (h | ⟨o, h⟩) | h
  · exact .inl (.inl (v _ _ h (fun ps e => by cases e) (ne_of h h1 fun e => by cases e) (ne_of h h2 fun e => by cases e)))
  · exact .inl (.inr ⟨o, v _ _ h (fun ps e => by cases e) (ne_of h h1 fun e => by cases e) (ne_of h h2 fun e => by cases e)⟩)
  · exact .inr h
theorem Box.ext {b l : Addr} {H H' : Hp} (B : Box H b l) (k : ExtN H H') : Box H' b l := by
  obtain ⟨ns, z, h1, h2, h3⟩ := B.ex
  exact ⟨ns, z, k _ _ h1 (fun ps e => by cases e), k _ _ h2 (fun ps e => by cases e), h3⟩
theorem tabs_kp {T : List (Addr × Str)} {b l : Addr} {H H' : Hp} (t : Tabs T H) (B : Box H b l) (k : Kp b l H H') : Tabs T H' := fun p hp => by
  obtain ⟨ns, z, h1, h2, _⟩ := B.ex
  obtain ⟨ps, q1, q2, q3⟩ := t p hp
  refine ⟨ps, k _ _ q1 (ne_of q1 h1 fun e => by cases e) (ne_of q1 h2 fun e => by cases e), q2, fun pos cv hc => ?_⟩
  obtain ⟨c, e1, e2⟩ := q3 pos cv hc
  exact ⟨c, e1, k _ _ e2 (ne_of e2 h1 fun e => by unfold CodeO at e; cases e) (ne_of e2 h2 fun e => by unfold CodeO at e; cases e)⟩
/-! ### tuples cut and put together -/
theorem catA_read {K : PySem.W.Frag} {a b : Addr} {xs ys : List V} {H : Hp} {Q : VK} (hx : SqT K H a xs) (hy : SqT K H b ys) (hl : xs.length + ys.length ≤ sizeLine) (k : ∀ p H', Same H H' → SqT K H' p (xs ++ ys) → Q (.ref p) H') : rCatA K (.ref a) (.ref b) H Q :=
  ⟨a, b, xs, ys, rfl, rfl, hx, hy, hl, fun e => k b H (Same.refl H) (by rw [e]; exact hy), fun _ e => k a H (Same.refl H) (by rw [e, List.append_nil]; exact hx), fun _ _ p hp => k p _ (Same.new (Same.refl H) hp) (.inl (.inl upd_same))⟩
theorem slA_read {K : PySem.W.Frag} {a : Addr} {xs : List V} {lo hi : Option Int} {H : Hp} {Q : VK} (hx : SqT K H a xs) (k : ∀ p H', Same H H' → SqT K H' p (cutV xs lo hi) → Q (.ref p) H') : rSlA K (.ref a) lo hi H Q := by
  refine ⟨a, xs, rfl, hx, fun ⟨e1, e2⟩ => k a H (Same.refl H) ?_, fun _ p hp => k p _ (Same.new (Same.refl H) hp) (.inl (.inl upd_same))⟩
  unfold cutV
  rw [e1, e2, List.drop_zero, Nat.sub_zero, List.take_length]
  exact hx
/-! ### rows with some bound -/
structure Good (rows : List (List Nat)) : Prop where
  len : rows.length ≤ 900
  row : ∀ r ∈ rows, r.length ≤ 1000 ∧ ∀ c ∈ r, c < 1000
theorem Good.lens {rows : List (List Nat)} (g : Good rows) : ∀ r ∈ rows, r.length ≤ 1000 := fun r h => (g.row r h).1
theorem Good.lo {rows : List (List Nat)} (g : Good rows) : Lo rows := fun r h => (g.row r h).2
theorem Good.le {rows : List (List Nat)} (g : Good rows) : rows.length ≤ 1000 := Nat.le_trans g.len (by decide)
theorem RowsOk.good {m : Nat} {rows : List (List Nat)} (h : RowsOk m rows) (hm : m ≤ 12) : Good rows := by
  obtain ⟨h1, h2, wd, w1, w2, hr⟩ := h
  refine ⟨by omega, fun r hr' => ⟨by have := (hr r hr').1; omega, fun c hc => ?_⟩⟩
  rcases (hr r hr').2 c hc with e | e | e <;> omega
theorem cutV_rows (rows : List (List Nat)) (lo hi : Option Int) : ∃ rs : List (List Nat), cutV (rows.map vt) lo hi = rs.map vt ∧ rs.length ≤ rows.length ∧ ∀ r ∈ rs, r ∈ rows := by
  refine ⟨(rows.drop (HT.sIx (rows.map vt).length 0 lo)).take (HT.sIx (rows.map vt).length (rows.map vt).length hi - HT.sIx (rows.map vt).length 0 lo), ?_, ?_, fun r h => List.mem_of_mem_drop (List.mem_of_mem_take h)⟩
  · unfold cutV
    rw [List.map_take, List.map_drop]
  · rw [List.length_take, List.length_drop]
    omega
theorem cutS_tx (r : List Nat) (lo hi : Option Int) : ∃ q : List Nat, cutS (tx r) lo hi = tx q ∧ q.length ≤ r.length ∧ ∀ c ∈ q, c ∈ r := by
  refine ⟨_, rfl, ?_, fun c h => ?_⟩
  · rw [List.length_take, List.length_drop, tx_cps]
    omega
  · have := List.mem_of_mem_drop (List.mem_of_mem_take h)
    rwa [tx_cps] at this
/-! ### the answers of _law_error and of _law_due -/
end Om

namespace Om
open PySem PySem.Spec PyProof.Rows L2 LamX
/-! ### own __getitem__, __contains__, __len__, __eq__ -/
/-- the class at C finds the name as the def at f -/
structure OwnM (K : PySem.W.Frag) (C : Addr) (n : Str) (f : Addr) : Prop where
  at_ : PySem.W.findIn K (.ref C) n = some (some (.ref f))
  fn : PySem.W.isFn K (.ref f) = true
  isF : PySem.W.fnIn K f = true
section
variable {X : Cx} {CX : CXT} {k : Nat} {C f : Addr} {fd : FuncData} {ps : List Str} {sp : Sp} {E : XK}
theorem run_fnS {A : Around} {pins : List (Addr × Obj)} {σ : L2.St} {H : Hp} {s : Shared} {Q : VK} {us : List Value} {vs : List V} (F : FnOk X.prog X.w X.K X.mg X.base CX k f fd ps sp) (sb : Sub X k A) (hb : Binds X.K fd ps []) (hx : Passes CX X E) (I : Inv X pins σ H s)
    (r : Vals vs us) (h : sp vs H Q E) : wpAny (model X.prog X.w) A (call (.ref f) us) (EP X pins σ Q) X.xe s := by
  have e0 : Env0 X.prog X.w X.K X.mg X.base A X.stack s H := by
    have e := I.env0
    exact ⟨by rw [sb.fr]; exact e.frames, e.mod, e.bs, e.bsz, e.funs, e.frf, e.hok, e.bare⟩
  have hl : us.length = ps.length := by rw [← r.length]; exact F.len _ _ _ _ h
  refine wpAny_call (codeAny_mono (F.run A X.stack s H ⟨us, []⟩ us vs Q E sb.room e0 (by
    have := hb s us I.kIn (by simpa using hl)
    simpa using this) r h) fun r s' hq => ?_)
  cases r with
  | error e => exact hx pins σ H s e s' I hq
  | ok fl =>
    cases fl with
    | ret w =>
      obtain ⟨v, H', I', rz, q⟩ := I.after hq
      exact ⟨v, H', I', rz, q⟩
    | next => exact False.elim hq
    | brk => exact False.elim hq
    | cont => exact False.elim hq
def rIxOwn (C : Addr) (sp : Sp) (E : XK) : R2 := fun x y H Q => ∃ a dx fs, x = .ref a ∧ H a = some (.ins C dx fs) ∧ sp [x, y] H Q E
theorem pe_ixOwn {a b : Expr} {ta tb : TE} {pos : Pos} (M : OwnM X.K C "__getitem__" f) (F : FnOk X.prog X.w X.K X.mg X.base CX k f fd ps sp) (hr : Room (k + 1) X.A) (hb : Binds X.K fd ps []) (hx : Passes CX X E) (ha : PE X a ta) (hi : PE X b tb)
    (hsl : ∀ v u, subscripted b true v u = runValue (.builtin "lifetime.subscript" ⟨[v, u], []⟩) := by intro v u; rfl) : PE X (.Subscript a b pos) (tOp (rIxOwn C sp E) ta tb) := by
  refine ⟨fun pins s σ H Q I h => ?_⟩
  refine Subscript_ (binT ha hi I h fun v u s2 x y H2 I2 rx ry q => ?_)
  obtain ⟨p, dx, fs, rfl, hp, q⟩ := q
  cases rx
  obtain ⟨mA, J, _⟩ := ins_get I2.hok hp
  obtain ⟨od, J, _⟩ := J.look
  obtain ⟨m, hF⟩ := I2.fr
  exact PySem.W.sub_K hF I2.ok.mod.kin J M.at_ M.isF M.fn (run_fnS F ⟨hr.in1, rfl⟩ hb hx I2 (.cons (show RelV (V.ref p) (Value.ref p) from rfl) (.cons ry .nil)) q) (hsl _ _)
def rInOwn (C : Addr) (sp : Sp) (E : XK) : R2 := fun x y H Q => ∃ a dx fs, y = .ref a ∧ H a = some (.ins C dx fs) ∧ sp [y, x] H (fun v H' => ∃ b, v = .bl b ∧ Q (.bl b) H') E
theorem op_inOwn (M : OwnM X.K C "__contains__" f) (F : FnOk X.prog X.w X.K X.mg X.base CX k f fd ps sp) (hr : Room k X.A) (hb : Binds X.K fd ps []) (hx : Passes CX X E) : OpR X (compareOp .In) (rInOwn C sp E) := by
  intro pins s σ H x y v u Q I rx ry h
  obtain ⟨p, dx, fs, rfl, hp, q⟩ := h
  cases ry
  obtain ⟨mA, J, _⟩ := ins_get I.hok hp
  obtain ⟨od, J, _⟩ := J.look
  obtain ⟨m, hF⟩ := I.fr
  refine PySem.W.in_K hF I.ok.mod.kin J M.at_ M.fn (wpAny_mono (run_fnS F ⟨hr, rfl⟩ hb hx I (.cons (show RelV (V.ref p) (Value.ref p) from rfl) (.cons rx .nil)) q) (fun r s' z => ?_) fun _ _ z => z)
  obtain ⟨z, H', I', rz, b, ez, q⟩ := z
  subst ez
  cases rz
  exact wpAny_truthy_bool ⟨.bl b, H', I', rfl, q⟩
def rNotInOwn (C : Addr) (sp : Sp) (E : XK) : R2 := fun x y H Q => ∃ a dx fs, y = .ref a ∧ H a = some (.ins C dx fs) ∧ sp [y, x] H (fun v H' => ∃ b, v = .bl b ∧ Q (.bl (!b)) H') E
theorem op_notInOwn (M : OwnM X.K C "__contains__" f) (F : FnOk X.prog X.w X.K X.mg X.base CX k f fd ps sp) (hr : Room k X.A) (hb : Binds X.K fd ps []) (hx : Passes CX X E) : OpR X (compareOp .NotIn) (rNotInOwn C sp E) := by
  intro pins s σ H x y v u Q I rx ry h
  obtain ⟨p, dx, fs, rfl, hp, q⟩ := h
  cases ry
  obtain ⟨mA, J, _⟩ := ins_get I.hok hp
  obtain ⟨od, J, _⟩ := J.look
  obtain ⟨m, hF⟩ := I.fr
  refine PySem.W.notIn_K hF I.ok.mod.kin J M.at_ M.fn (wpAny_mono (run_fnS F ⟨hr, rfl⟩ hb hx I (.cons (show RelV (V.ref p) (Value.ref p) from rfl) (.cons rx .nil)) q) (fun r s' z => ?_) fun _ _ z => z)
  obtain ⟨z, H', I', rz, b, ez, q⟩ := z
  subst ez
  cases rz
  exact wpAny_truthy_bool ⟨.bl (!b), H', I', rfl, q⟩
/-- both sides instances of C -/
def rEqOwn (C : Addr) (sp : Sp) (E : XK) : R2 := fun x y H Q => ∃ a dx fs b dy gs, x = .ref a ∧ H a = some (.ins C dx fs) ∧ y = .ref b ∧ H b = some (.ins C dy gs) ∧ sp [x, y] H (fun v H' => ∃ b, v = .bl b ∧ Q (.bl b) H') E
theorem op_eqOwn (M : OwnM X.K C "__eq__" f) (F : FnOk X.prog X.w X.K X.mg X.base CX k f fd ps sp) (hr : Room k X.A) (hb : Binds X.K fd ps []) (hx : Passes CX X E) : OpR X (compareOp .Eq) (rEqOwn C sp E) := by
  intro pins s σ H x y v u Q I rx ry h
  obtain ⟨p, dx, fs, q', dy, gs, rfl, hp, rfl, hq, q⟩ := h
  cases rx
  cases ry
  obtain ⟨mA, J, _⟩ := ins_get I.hok hp
  obtain ⟨od, J, _⟩ := J.look
  obtain ⟨mB, J', _⟩ := ins_get I.hok hq
  obtain ⟨od', J', _⟩ := J'.look
  obtain ⟨m, hF⟩ := I.fr
  show wpAny (model X.prog X.w) X.A (richCompare .Eq _ _) _ _ _
  refine PySem.W.cmp_K (op := .Eq) (tb := .ref C) hr.units0 hF I.ok.mod.kin J J'.type (by simp [PySem.W.notFirst]) M.at_ M.fn (wpAny_mono (run_fnS F ⟨hr, rfl⟩ hb hx I (.cons (show RelV (V.ref p) (Value.ref p) from rfl) (.cons (show RelV (V.ref q') (Value.ref q') from rfl) .nil)) q) (fun r s' z => ?_) fun _ _ z => z)
  obtain ⟨z, H', I', rz, b, ez, q⟩ := z
  subst ez
  cases rz
  exact ⟨.bl b, H', I', rfl, q⟩
/-- len(o) -/
def rLenOwn (C : Addr) (sp : Sp) (E : XK) : List V → Hp → VK → Prop := fun xs H Q => ∃ a dx fs, xs = [.ref a] ∧ H a = some (.ins C dx fs) ∧ sp xs H (fun v H' => ∃ n : Int, v = .int n ∧ 0 ≤ n ∧ n < 2 ^ 63 ∧ Q (.int n) H') E
theorem call_lenOwn (M : OwnM X.K C "__len__" f) (F : FnOk X.prog X.w X.K X.mg X.base CX k f fd ps sp) (hr : Room (k + 1) X.A) (hb : Binds X.K fd ps []) (hx : Passes CX X E) : CallR X (.builtin "len") (rLenOwn C sp E) := by
  intro pins s σ H xs us Q I r h
  obtain ⟨p, dx, fs, rfl, hp, q⟩ := h
  cases r with
  | cons r1 r2 =>
    cases r2
    cases r1
    obtain ⟨mA, J, _⟩ := ins_get I.hok hp
    obtain ⟨od, J, _⟩ := J.look
    obtain ⟨m, hF⟩ := I.fr
    refine PySem.W.len_K hF I.ok.mod.kin J M.at_ M.fn (wpAny_mono (run_fnS F ⟨hr.in1, rfl⟩ hb hx I (.cons (show RelV (V.ref p) (Value.ref p) from rfl) .nil) q) (fun r s' z => ?_) fun _ _ z => z)
    obtain ⟨z, H', I', rz, n, ez, n0, n1, q⟩ := z
    subst ez
    obtain ⟨t, rfl⟩ := rz
    exact ⟨⟨n0, n1⟩, .int n, H', I'.tok (s'.toks + 1), ⟨_, rfl⟩, q⟩
end
end Om


namespace Om
open PySem PySem.Spec PyProof.Rows L2
/-! ### enumerate(text) -/
def IteS (x : Str) : It :=
  ⟨fun i _ => i < x.cps.size, fun i H v H' => ∃ T c, v = .ref T ∧ H T = none ∧ H' = upd H T (.tup [.int (i : Nat), .str ⟨#[c]⟩]) ∧ x.cps[i]? = some c, fun i _ => x.cps.size = i⟩
theorem turn_enumS {P : Program} {w : World} {K : PySem.W.Frag} {elts : List Expr} {kk : Nat} {tpos : Pos} {e it : Addr} {x : Str} {t : Tok} (nei : e ≠ it) :
    Turn P w K (.Tuple elts kk tpos) (IteS x) [e, it] e (fun i h => (∃ old, IsEnum h e it ((i : Nat) : Int) old) ∧ h.IsStrIter it (strIterType x) x t i) where
  mem := by simp
  obj := fun i h ⟨⟨old, he⟩, o, ho, hc, hd⟩ b hb => by
    rcases (show b = e ∨ b = it by simpa using hb) with rfl | rfl
    · exact ⟨_, he, fun v q => nomatch q⟩
    · exact ⟨o, ho, fun v q => by rw [hd] at q; cases q⟩
  keep := fun i h h' ⟨⟨old, he⟩, hi⟩ k => ⟨⟨old, k e (by simp) _ he⟩, let ⟨o, q, r⟩ := hi; ⟨o, k it (by simp) o q, r⟩⟩
  item := by
    intro X eP ew eK hc i pins s σ H E I hf ⟨⟨old, he⟩, hit⟩ hlt
    subst eP ew eK
    have el : e < s.heap.objs.size := Heap.lt_size he
    have il : it < s.heap.objs.size := by obtain ⟨_, q, _⟩ := hit; exact Heap.lt_size q
    have hd0 : X.A.in1.handled = none := I.ok.hd hc
    refine wpAny_pyNext_enum_itemD (Draws.text hd0 it x t) he hit hlt nei (by simp [nei]) fun v h' tk hx2 ho hst hT hs2 hk => ?_
    obtain ⟨c, u, hxc, rfl⟩ := hx2
    refine ⟨_, rfl, wpAny_letOwnedTupleGo_enum (s := { s with heap := h', toks := tk + 1 }) ho fun h2 he2 sb => ?_⟩
    have hT2 := (sb.2 _ (Nat.ne_of_gt el)).trans hT
    have new : ObjOk X.prog X.w (upd H s.heap.objs.size (.tup [.int (i : Nat), .str ⟨#[c]⟩])) h2 s.heap.objs.size (.tup [.int (i : Nat), .str ⟨#[c]⟩]) :=
      ⟨(show 2 ≤ sizeLine by decide), [.int i tk, .str ⟨#[c]⟩ u], .cons ⟨_, rfl⟩ (.cons ⟨_, rfl⟩ .nil), _, hT2, rfl, _, rfl⟩
    have I1 : Inv X pins σ (upd H s.heap.objs.size (.tup [.int (i : Nat), .str ⟨#[c]⟩])) { s with heap := h2, toks := tk + 1 } :=
      I.turnedNew (ch := [e, it]) (fun b ob hb q => (sb.2 b (by rintro rfl; simp at hb)).trans (hk b ob (by rintro rfl; simp at hb) (by rintro rfl; simp at hb) q)) hf (Nat.le_refl _) new
    have ei : ((i + 1 : Nat) : Int) = (i : Int) + 1 := by omega
    refine ⟨.ref s.heap.objs.size, _, I1, rfl, ⟨_, c, rfl, I.hok.fresh (Nat.le_refl _), rfl, hxc⟩, ⟨⟨.str ⟨#[c]⟩ u, by rw [ei]; exact he2⟩, let ⟨o, q, r⟩ := hst; ⟨o, (sb.2 it (Ne.symm nei)).trans q, r⟩⟩, fun b hb => ?_⟩
    have hlt2 : b < s.heap.objs.size := by
      rcases (show b = e ∨ b = it by simpa using hb) with rfl | rfl
      · exact el
      · exact il
    rw [upd_ne (Nat.ne_of_lt hlt2)]
    exact (hf b hb).1
  done := by
    intro X eP ew eK hc i pins s σ H E I hf ⟨⟨old, he⟩, hit⟩ hle
    subst eP ew eK
    obtain ⟨f0, f1, f2, f3, f4, f5⟩ := hf it (by simp)
    have hd0 : X.A.in1.handled = none := I.ok.hd hc
    obtain rfl : i = x.cps.size := Eq.symm hle
    exact wpAny_pyNext_enum_endD (Draws.text hd0 it x t) he hit fun h' eb => ⟨rfl, I.turned (t' := s.toks) (fun b o hb q => eb b o hb q) f0 f1 f3 f4 f5⟩
  self := fun A i s Q E ⟨⟨_, he⟩, _⟩ h => wpAny_pyIter_enum he h
def iEnumS (ta : TA) : TI := fun σ H R => ta σ H fun vs H1 => ∃ x, vs = [.str x] ∧ R (IteS x) H1
theorem pi_enumS {X : Cx} {e : Expr} {ta : TA} {p pos tpos : Pos} {elts : List Expr} {kk : Nat} (hg : Gl X "enumerate") (hm : X.mg "enumerate" = none) (ha : PA X [e] ta) (hs : starEach [e] X.env = [(false, eval e X.env)] := by rfl) :
    PI X (.Tuple elts kk tpos) (.Call (.Name "enumerate" p) [e] [] pos) (iEnumS ta) := by
  constructor
  intro pins s σ H R I h
  refine Call_ (ld_blt I hg hm boot_enumerate (PyProof.Rows.callWith_type1 (thn (ha.run pos pins s σ H _ I h) fun us s1 ⟨vs, H1, I1, r1, x, ev, q⟩ => ?_) hs rfl))
  subst ev
  cases r1 with
  | cons ra rr =>
    cases rr
    obtain ⟨t, rfl⟩ := ra
    refine om_enum_call (begins_text x t) trivial fun h' he hi hk => wpAny_pyIter_enum he ?_
    have I2 : Inv X pins σ H1 { s1 with heap := h' } := I1.kept (t' := s1.toks) hk
    refine ⟨s1.heap.objs.size + 1, [s1.heap.objs.size + 1, s1.heap.objs.size], _, _, H1, rfl, I2, turn_enumS (x := x) (t := t) (Nat.succ_ne_self _), ⟨⟨.none, he⟩, _, hi, rfl, rfl⟩, fun b hb => ?_, q⟩
    have hb2 : s1.heap.objs.size ≤ b := by
      rcases (show b = s1.heap.objs.size + 1 ∨ b = s1.heap.objs.size by simpa using hb) with rfl | rfl
      · omega
      · exact Nat.le_refl _
    exact I1.fpOk hb2 (I1.hok.fresh hb2)
end Om


namespace Om
open PySem PySem.Spec PyProof.Rows L2
/-! ### walks of enumerate; a comprehension of two for over walks -/
def YEnum (xs : Nat → Option V) : Nat → Hp → V → Hp → Prop := fun i H v H' => ∃ T x, v = .ref T ∧ H T = none ∧ H' = upd H T (.tup [.int (i : Nat), x]) ∧ xs i = some x
theorem walk_enumT {K : PySem.W.Frag} {a : Addr} {xs : List V} : Walk (IteT K a xs) xs.length (fun H => SqT K H a xs) (YEnum fun i => xs[i]?) :=
  ⟨fun i _ hi q => ⟨q, hi⟩, fun _ q => ⟨q, rfl⟩, fun _ _ _ _ _ _ y => y⟩
theorem walk_enumS {x : Str} : Walk (IteS x) x.cps.size (fun _ => True) (YEnum fun i => x.cps[i]?.map fun c => .str ⟨#[c]⟩) :=
  ⟨fun i _ hi _ => hi, fun _ _ => rfl, fun i H v H' _ _ y => by
    obtain ⟨T, c, e1, e2, e3, e4⟩ := y
    exact ⟨T, _, e1, e2, e3, by show (x.cps[i]?).map _ = _; rw [e4]; rfl⟩⟩
section
variable {J : It} {n : Nat} {G : Hp → Prop} {Y : Nat → Hp → V → Hp → Prop}
/-- the inner walk of a comprehension of two for: Pv by the inner turn -/
theorem in_it (w : Walk J n G Y) {g : TG} {tt : TT} {te : TE} {vs : List Nat} {σ : L2.St} {H : Hp} {D : Addr} {Nx : Hp → Prop} (Pv : Nat → Hp → Prop) (h0 : Pv 0 H) (hG : ∀ i H, i ≤ n → Pv i H → G H)
    (hs : ∀ i x H H', i < n → Pv i H → Y i H x H' → g x (wipe σ vs) H' fun σ2 H2 => wipe σ2 vs = wipe σ vs ∧ tt σ2 H2 fun b H3 =>
      if b = true then te σ2 H3 fun y H4 => ∃ acc, H4 D = some (.lst acc) ∧ acc.length < sizeLine ∧ Pv (i + 1) (upd H4 D (.lst (acc ++ [y]))) else Pv (i + 1) H3) (hd : ∀ H, Pv n H → Nx H) :
    ∃ W1 : Nat → Nat → Hp → Prop, (∃ m, W1 0 m H) ∧ ∀ j k H, W1 j k H →
      (J.stop j H ∧ Nx H) ∨ (J.go j H ∧ ∃ Nx1 : Hp → Prop, (∀ H', Nx1 H' → ∃ k', k' < k ∧ W1 (j + 1) k' H') ∧ ∀ x H', J.yld j H x H' → g x (wipe σ vs) H' fun σ3 H5 => wipe σ3 vs = wipe σ vs ∧ tt σ3 H5 fun b H6 =>
        if b = true then te σ3 H6 fun y H7 => ∃ acc, H7 D = some (.lst acc) ∧ acc.length < sizeLine ∧ Nx1 (upd H7 D (.lst (acc ++ [y]))) else Nx1 H6) := by
  refine ⟨fun i m H => m = n - i ∧ i ≤ n ∧ Pv i H, ⟨n, by simp, Nat.zero_le _, h0⟩, ?_⟩
  rintro i m H ⟨rfl, hi, p⟩
  have q := hG i H hi p
  by_cases hlt : i < n
  · exact .inr ⟨w.goes i H hlt q, Pv (i + 1), fun H' p' => ⟨n - (i + 1), by omega, rfl, hlt, p'⟩, fun x H' y => hs i x H H' hlt p (w.yields i H x H' hlt q y)⟩
  · have e : i = n := by omega
    subst e
    exact .inl ⟨w.stops H q, hd H p⟩
/-- the outer walk: what a turn's inner part does is told by B, from Pv i to Pv (i + 1) -/
theorem out_it (w : Walk J n G Y) {H1 : Hp} {D : Addr} {Qd : Hp → Prop} {B : (Hp → Prop) → V → Hp → Prop} (Pv : Nat → Hp → Prop) (h0 : Pv 0 (upd H1 D (.lst []))) (hG : ∀ i H, i ≤ n → Pv i H → G H)
    (hs : ∀ i x H H', i < n → Pv i H → Y i H x H' → B (Pv (i + 1)) x H') (hd : ∀ H, Pv n H → Qd H) :
    ∃ W : Nat → Nat → Hp → Prop, (∃ m, W 0 m (upd H1 D (.lst []))) ∧ ∀ i m H, W i m H →
      (J.stop i H ∧ Qd H) ∨ (J.go i H ∧ ∃ Nx : Hp → Prop, (∀ H', Nx H' → ∃ m', m' < m ∧ W (i + 1) m' H') ∧ ∀ x H', J.yld i H x H' → B Nx x H') := by
  refine ⟨fun i m H => m = n - i ∧ i ≤ n ∧ Pv i H, ⟨n, by simp, Nat.zero_le _, h0⟩, ?_⟩
  rintro i m H ⟨rfl, hi, p⟩
  have q := hG i H hi p
  by_cases hlt : i < n
  · exact .inr ⟨w.goes i H hlt q, Pv (i + 1), fun H' p' => ⟨n - (i + 1), by omega, rfl, hlt, p'⟩, fun x H' y => hs i x H H' hlt p (w.yields i H x H' hlt q y)⟩
  · have e : i = n := by omega
    subst e
    exact .inl ⟨w.stops H q, hd H p⟩
end
end Om


namespace Om
open PySem PySem.Spec PyProof.Rows L2
abbrev sInR : Stmt := top 4
abbrev sLies : Stmt := top 15
def inR (v lo hi : Int) : Bool := decide (lo ≤ v) && decide (v ≤ hi)
def insd (rows : List (List Nat)) (i j : Int) : Bool := inR i 0 ((rows.length : Int) - 1) && inR j 0 (((rows.headD []).length : Int) - 1)
def spInR : Sp := fun vs H Q _ => ∃ v lo hi : Int, vs = [.int v, .int lo, .int hi] ∧ Q (.bl (inR v lo hi)) H
/-- rows of an island as they are kept -/
structure Shp (rows : List (List Nat)) : Prop where
  len : rows.length ≤ 1000
  row : ∀ r ∈ rows, r.length ≤ 1000
  ne : rows ≠ []
def spLies (K : PySem.W.Frag) : Sp := fun vs H Q _ => ∃ (p c : Addr) (rows : List (List Nat)) (i j : Int), vs = [.ref p, .ref c] ∧ SqT K H p (rows.map vt) ∧ Shp rows ∧ SqT K H c [.int i, .int j] ∧ Q (.bl (insd rows i j)) H
section
variable {P : Program} {w : World} {K : PySem.W.Frag} {mg : Str → Option Value} {base : Heap}
abbrev nInR : List Str := ["value", "least", "most"]
theorem scInR : FnScope nInR nInR (defScope sInR) := ⟨rfl, rfl, rfl, by decide +kernel, rfl, by decide +kernel, by decide +kernel⟩
theorem ok_inR {f : Addr} {fd : FuncData} (F : FnP K "in_range" "in_range" sInR f fd) (gisi : mg "isinstance" = none) (gint : mg "int" = none) (gbool : mg "bool" = none) : FnOk P w K mg base CX0 1 f fd nInR spInR := by
  refine F.ok scInR (fun vs H Q E h => ?_) (fun cdv A outer s H vs Q E hr h => ?_)
  · obtain ⟨v, lo, hi, rfl, _⟩ := h
    rfl
  · obtain ⟨v, lo, hi, rfl, k⟩ := h
    refine ⟨_, PSs.nox (pss_one (ps_ret (pe_and (pe_callB call_isi (by rfl) gisi (by decide +kernel) (pa_cons (pv 0) (pa_cons (pe_bltn (v := .ty "int") (by rfl) gint boot_int rfl) pa_nil)))
      (pe_and (pe_not (pe_callB call_isi (by rfl) gisi (by decide +kernel) (pa_cons (pv 0) (pa_cons (pe_bltn (v := .ty "bool") (by rfl) gbool (by decide +kernel) rfl) pa_nil))))
        (pe_one (pe_chain op_le op_le (pv 1) (pv 0) (pv 2))))))), ?_⟩
    refine ⟨_, rfl, _, _, _, _, _, rfl, .ty "int", .base (.int _), kit_ty (a := "int") (b := "int") (r := true) (by decide +kernel), ?_⟩
    refine ⟨true, rfl, iteT ?_⟩
    refine ⟨_, rfl, _, _, _, _, _, rfl, .ty "bool", .base (.int _), kit_ty (a := "int") (b := "bool") (r := false) (by decide +kernel), false, rfl, true, rfl, iteT ?_⟩
    refine ⟨_, rfl, _, rfl, _, _, rfl, rfl, _, rfl, ?_⟩
    unfold inR at k
    cases e : decide (lo ≤ v) with
    | true =>
      rw [e, Bool.true_and] at k
      exact iteT ⟨_, rfl, _, _, rfl, rfl, k⟩
    | false =>
      rw [e, Bool.false_and] at k
      exact iteF k
theorem scLies : FnScope ["rows", "cell", "row", "column"] ["rows", "cell"] (defScope sLies) := ⟨rfl, rfl, rfl, by decide +kernel, rfl, by decide +kernel, by decide +kernel⟩
theorem ok_lies {f : Addr} {fd : FuncData} (F : FnP K "_lies_within" "_lies_within" sLies f fd) (G : Cal P w K mg base CX0 1 "in_range" nInR spInR) (glen : mg "len" = none) : FnOk P w K mg base CX0 2 f fd ["rows", "cell"] (spLies K) := by
  refine F.ok scLies (fun vs H Q E h => ?_) (fun cdv A outer s H vs Q E hr h => ?_)
  · obtain ⟨p, c, rows, i, j, rfl, _⟩ := h
    rfl
  · obtain ⟨p, c, rows, i, j, rfl, hS, sh, hC, k⟩ := h
    have nd := scLies.nd
    have hr1 : Room 1 _ := hr.mono (by decide)
    refine ⟨_, PSs.nox (pss_cons (ps_asg (pv 1) (pg_tup rfl (pgs_cons (pg_name (i := 2) nd rfl (.inl rfl)) (pgs_cons (pg_name (i := 3) nd rfl (.inl rfl)) pgs_nil))))
      (pss_one (ps_ret (pe_and (pe_cal G hr1 pass0 (pa_cons (pv 2) (pa_cons pe_int (pa_cons (pe_op op_sub (pe_callB call_len_seq (by rfl) glen PySem.boot_len (pa_cons (pv 0) pa_nil)) pe_int) pa_nil))))
        (pe_one (pe_cal G hr1 pass0 (pa_cons (pv 3) (pa_cons pe_int (pa_cons (pe_op op_sub (pe_callB call_len_str (by rfl) glen PySem.boot_len (pa_cons (pe_ix ix_tup (pv 0) pe_int (fun _ _ => rfl)) pa_nil)) pe_int) pa_nil))))))))), ?_⟩
    obtain ⟨r0, rs, rfl⟩ : ∃ r0 rs, rows = r0 :: rs := by
      cases rows with
      | nil => exact absurd rfl sh.ne
      | cons r0 rs => exact ⟨r0, rs, rfl⟩
    have hr0 : (tx r0).length ≤ sizeLine := by rw [tx_len]; exact small_le (sh.row r0 (List.mem_cons_self ..))
    refine ⟨_, rfl, c, _, rfl, hC, rfl, _, _, rfl, _, _, rfl, rfl, ?_⟩
    refine ⟨_, rfl, _, rfl, p, _, rfl, .inr hS, _, _, rfl, rfl, i, 0, _, rfl, ?_⟩
    refine ⟨_, rfl, ?_⟩
    have k2 : Q (.bl (inR i 0 ((((r0 :: rs).map vt).length : Nat) - 1) && inR j 0 (((tx r0).length : Nat) - 1))) H := by
      rw [tx_len, List.length_map]; exact k
    cases e : inR i 0 ((((r0 :: rs).map vt).length : Nat) - 1) with
    | false =>
      rw [e, Bool.false_and] at k2
      exact iteF k2
    | true =>
      rw [e, Bool.true_and] at k2
      refine iteT ?_
      exact ⟨_, rfl, _, rfl, p, _, 0, _, rfl, rfl, hS, at0, _, rfl, hr0, _, _, rfl, rfl, j, 0, _, rfl, k2⟩
end
end Om


namespace Om
open PySem PySem.Spec PyProof.Rows L2
/-! ### rows as data -/
def dt (r : List Nat) : PyData := .str (tx r)
theorem dpAll_rows {K : PySem.W.Frag} {H : Hp} : ∀ rows : List (List Nat), DpAll K H (rows.map vt) (rows.map dt)
  | [] => .nil
  | r :: rs => .cons (.str _) (dpAll_rows rs)
theorem strOk_tx {r : List Nat} (h : ∀ c ∈ r, c < 1000) : PyData.strOk (tx r) = true := by
  unfold PyData.strOk
  rw [Array.all_eq_true']
  intro c hc
  have hc' : c ∈ r := by
    have : c ∈ (tx r).cps.toList := by simpa using hc
    rwa [tx_cps] at this
  have := h c hc'
  exact decide_eq_true (by omega)
theorem lay_rows : ∀ {rows : List (List Nat)}, Lo rows → PyData.canLayAll0 (rows.map dt) = true
  | [], _ => by simp [PyData.canLayAll0]
  | r :: rs, h => by
    have h1 : PyData.strOk (tx r) = true := strOk_tx (h r (List.mem_cons_self ..))
    simp only [List.map_cons, PyData.canLayAll0, dt, PyData.canLay0, h1, lay_rows (rows := rs) fun r hr => h r (List.mem_cons_of_mem _ hr), Bool.and_self]
theorem dep_rows : ∀ rows : List (List Nat), PyData.depthAll (rows.map dt) = 0
  | [] => by simp [PyData.depthAll]
  | r :: rs => by simp [PyData.depthAll, PyData.depth, dt, dep_rows rs]
theorem shaped_rows {rows : List (List Nat)} (h : Lo rows) : SeqAt.shaped (.tuple (rows.map dt)) = true :=
  shaped_of (by simp only [PyData.canLay0]; exact lay_rows h) (by simp only [PyData.depth, dep_rows]; omega)
theorem eqv_str (a b : List Nat) : PyData.eqv (.str (tx a)) (.str (tx b)) = decide (a = b) := by
  rw [Bool.eq_iff_iff, decide_eq_true_iff]
  constructor
  · intro h
    have h2 : tx a = tx b := by simpa [PyData.eqv] using h
    exact tx_inj h2
  · rintro rfl
    simp [PyData.eqv]
theorem eqvAll_rows : ∀ a b : List (List Nat), PyData.eqvAll (a.map dt) (b.map dt) = decide (a = b)
  | [], [] => by simp [PyData.eqvAll]
  | [], _ :: _ => by simp [PyData.eqvAll]
  | _ :: _, [] => by simp [PyData.eqvAll]
  | r :: rs, q :: qs => by
    have e1 : PyData.eqvAll ((r :: rs).map dt) ((q :: qs).map dt) = (PyData.eqv (dt r) (dt q) && PyData.eqvAll (rs.map dt) (qs.map dt)) := by simp [PyData.eqvAll]
    rw [e1, eqvAll_rows rs qs, dt, dt, eqv_str, Bool.eq_iff_iff]
    simp
theorem eqv_rows (a b : List (List Nat)) : PyData.eqv (.tuple (a.map dt)) (.tuple (b.map dt)) = decide (a = b) := by
  have e1 : PyData.eqv (.tuple (a.map dt)) (.tuple (b.map dt)) = PyData.eqvAll (a.map dt) (b.map dt) := by simp [PyData.eqv]
  rw [e1, eqvAll_rows]
end Om


namespace Om
open PySem PySem.Spec PyProof.Rows L2
/-! ### an island's methods -/
abbrev sIslM (i : Nat) : Stmt := inClass (top 13) i
/-- an island at a: its rows -/
def Isl (K : PySem.W.Frag) (CI : Addr) (H : Hp) (a : Addr) (rows : List (List Nat)) : Prop := ∃ dx p, H a = some (.ins CI dx (islFs p)) ∧ SqT K H p (rows.map vt)
structure Good2 (rows : List (List Nat)) : Prop extends Shp rows where
  rect : ∀ r ∈ rows, r.length = (rows.headD []).length
  lo : Lo rows
def sgAt (rows : List (List Nat)) (i j : Int) : Nat := (rows.getD i.toNat []).getD j.toNat 0
theorem Isl.same {K : PySem.W.Frag} {CI a : Addr} {H H' : Hp} {rows : List (List Nat)} (h : Isl K CI H a rows) (s : Same H H') : Isl K CI H' a rows := by
  obtain ⟨dx, p, h1, h2⟩ := h
  exact ⟨dx, p, s _ _ h1, Same.tup s h2⟩
theorem islFs_at (p : Addr) : (islFs p).lookup ("_rows" : Str) = some (.ref p) := rfl
theorem insd_at {rows : List (List Nat)} {i j : Int} (g : Good2 rows) (h : insd rows i j = true) : ∃ r c, rows[i.toNat]? = some r ∧ r[j.toNat]? = some c ∧ sgAt rows i j = c ∧ r ∈ rows ∧ 0 ≤ i ∧ 0 ≤ j := by
  unfold insd inR at h
  simp only [Bool.and_eq_true, decide_eq_true_eq] at h
  obtain ⟨⟨h1, h2⟩, h3, h4⟩ := h
  have hi : i.toNat < rows.length := by omega
  have hm : rows[i.toNat] ∈ rows := List.getElem_mem hi
  have hl := g.rect _ hm
  have hj : j.toNat < (rows[i.toNat]).length := by omega
  refine ⟨rows[i.toNat], (rows[i.toNat])[j.toNat], by simp [hi], by simp [hj], ?_, hm, h1, h3⟩
  unfold sgAt
  have e1 : rows.getD i.toNat [] = rows[i.toNat] := by rw [List.getD_eq_getElem?_getD, List.getElem?_eq_getElem hi, Option.getD_some]
  rw [e1, List.getD_eq_getElem?_getD, List.getElem?_eq_getElem hj, Option.getD_some]
/-- an own error class made with a text -/
structure ErrU (K : PySem.W.Frag) (mg : Str → Option Value) (x : Str) (C : Addr) : Prop where
  q : PySem.W.excIn K C [.type "ValueError", .type "Exception", .type "BaseException", .type "object"] "ValueError.__new__" = true
  kp : PySem.W.keepIn K (.ref C) = true
  r1 : PySem.W.subIn K (.ref C) (.type "BaseException") = some true
  r2 : PySem.W.typeIn K (.ref C) = some (.type "type")
  g : mg x = some (.ref C)
def spGet (K : PySem.W.Frag) (CI CU : Addr) : Sp := fun vs H Q E => ∃ (a c : Addr) (rows : List (List Nat)) (i j : Int), vs = [.ref a, .ref c] ∧ Isl K CI H a rows ∧ Good2 rows ∧ SqT K H c [.int i, .int j] ∧
  (insd rows i j = true → Q (vt [sgAt rows i j]) H) ∧ (insd rows i j = false → E (.ref CU) none H)
def hasC (rows : List (List Nat)) (i j : Int) : Bool := insd rows i j && !decide (sgAt rows i j = 126)
def spHas (K : PySem.W.Frag) (CI : Addr) : Sp := fun vs H Q _ => ∃ (a c : Addr) (rows : List (List Nat)) (i j : Int), vs = [.ref a, .ref c] ∧ Isl K CI H a rows ∧ Good2 rows ∧ SqT K H c [.int i, .int j] ∧ Q (.bl (hasC rows i j)) H
def spIEq (K : PySem.W.Frag) (CI : Addr) : Sp := fun vs H Q _ => ∃ (a b : Addr) (r1 r2 : List (List Nat)), vs = [.ref a, .ref b] ∧ Isl K CI H a r1 ∧ Isl K CI H b r2 ∧ Lo r1 ∧ Lo r2 ∧ Q (.bl (decide (r1 = r2))) H
def spIRows (K : PySem.W.Frag) (CI : Addr) : Sp := fun vs H Q _ => ∃ (a dx p : Addr), vs = [.ref a] ∧ H a = some (.ins CI dx (islFs p)) ∧ Q (.ref p) H
def spIHgt (K : PySem.W.Frag) (CI : Addr) : Sp := fun vs H Q _ => ∃ (a : Addr) (rows : List (List Nat)), vs = [.ref a] ∧ Isl K CI H a rows ∧ Q (.int (rows.length : Nat)) H
def spIWid (K : PySem.W.Frag) (CI : Addr) : Sp := fun vs H Q _ => ∃ (a : Addr) (rows : List (List Nat)), vs = [.ref a] ∧ Isl K CI H a rows ∧ Shp rows ∧ Q (.int ((rows.headD []).length : Nat)) H
/-- what isinstance asks of the class -/
structure InsF (K : PySem.W.Frag) (C : Addr) : Prop where
  ha : PySem.W.findIn K (.ref C) "__class__" = some (some (.builtin "object.__class__"))
  hn : PySem.W.specialIn K (.builtin "object.__class__") "__get__" = some (some (.builtin "getset_descriptor.__get__"))
  ht : PySem.W.takesIn K (.builtin "object.__class__") = some true
  hm : PySem.W.mroIn K C (.type "object") = some true
theorem kit_self {K : PySem.W.Frag} {C : Addr} : PySem.W.kitOne K (.ref C) (.ref C) = some true := by
  unfold PySem.W.kitOne
  rw [if_pos (by simp)]
section
variable {P : Program} {w : World} {K : PySem.W.Frag} {mg : Str → Option Value} {base : Heap} {CI CU fN : Addr}
abbrev nGet : List Str := ["self", "cell", "row", "column"]
theorem scGet : FnScope nGet ["self", "cell"] (defScope (sIslM 7)) := ⟨rfl, rfl, rfl, by decide +kernel, rfl, by decide +kernel, by decide +kernel⟩
theorem ok_get {f : Addr} {fd : FuncData} (F : FnP K "__getitem__" "Island.__getitem__" (sIslM 7) f fd) (T : IslF K mg CI fN) (U : ErrU K mg "UnknownCell" CU) (G : Cal P w K mg base CX0 2 "_lies_within" ["rows", "cell"] (spLies K)) : FnOk P w K mg base (L2.CX P w) 3 f fd ["self", "cell"] (spGet K CI CU) := by
  refine F.ok scGet (fun vs H Q E h => ?_) (fun cdv A outer s H vs Q E hr h => ?_)
  · obtain ⟨a, c, rows, i, j, rfl, _⟩ := h
    rfl
  · obtain ⟨a, c, rows, i, j, rfl, hI, g, hC, k1, k2⟩ := h
    have nd := scGet.nd
    have hr2 : Room 2 _ := hr.mono (by decide)
    refine ⟨_, pss_cons (ps_if (pt_not (pt_val (pe_cal G hr2 pass0 (pa_cons (pe_fld (pv 0) rfl) (pa_cons (pv 1) pa_nil)))))
        (pss_one (ps_raise rfl (takes_of rfl rfl rfl rfl) (pmk_own PySem.F.excBase_ValueError U.q U.g U.kp (raises_own U.r1 U.r2) rfl))) pss_nil)
      (pss_cons (ps_asg (pv 1) (pg_tup rfl (pgs_cons (pg_name (i := 2) nd rfl (.inl rfl)) (pgs_cons (pg_name (i := 3) nd rfl (.inl rfl)) pgs_nil))))
      (pss_one (ps_ret (pe_ix ix_str (pe_ix ix_tup (pe_fld (pv 0) rfl) (pv 2) (fun _ _ => rfl)) (pv 3) (fun _ _ => rfl))))), ?_⟩
    obtain ⟨dx, p, hp, hS⟩ := hI
    refine ⟨_, rfl, a, CI, dx, _, .ref p, rfl, hp, T.cl, T.nR, rfl, ?_⟩
    refine ⟨_, rfl, p, c, rows, i, j, rfl, hS, g.toShp, hC, _, rfl, ?_⟩
    cases e : insd rows i j with
    | false => exact iteT (k2 e)
    | true =>
      refine iteF ?_
      obtain ⟨r, ch, h1, h2, h3, hm, hi, hj⟩ := insd_at g e
      refine ⟨_, rfl, c, _, rfl, hC, rfl, _, _, rfl, _, _, rfl, rfl, ?_⟩
      refine ⟨_, rfl, a, CI, dx, _, .ref p, rfl, hp, T.cl, T.nR, rfl, ?_⟩
      have ei : atI (rows.map vt) i = some (vt r) := by
        have z := atI_nat (xs := rows.map vt) (j := i.toNat) (v := vt r) (by rw [List.getElem?_map, h1]; rfl)
        rwa [Int.toNat_of_nonneg hi] at z
      have ej : atI (tx r).cps.toList j = some ch := by
        have z := atI_nat (xs := (tx r).cps.toList) (j := j.toNat) (v := ch) (by rw [tx_cps]; exact h2)
        rwa [Int.toNat_of_nonneg hj] at z
      refine ⟨_, rfl, p, _, i, _, rfl, rfl, hS, ei, _, rfl, _, j, ch, rfl, rfl, (by rw [tx_len]; exact small_le (g.row r hm)), ej, ?_⟩
      have k := k1 e
      rw [h3] at k
      exact k
theorem scHas : FnScope ["self", "cell"] ["self", "cell"] (defScope (sIslM 8)) := ⟨rfl, rfl, rfl, by decide +kernel, rfl, by decide +kernel, by decide +kernel⟩
theorem ok_has {f : Addr} {fd : FuncData} (F : FnP K "__contains__" "Island.__contains__" (sIslM 8) f fd) (T : IslF K mg CI fN) (G : Cal P w K mg base CX0 2 "_lies_within" ["rows", "cell"] (spLies K)) (gw : ∃ t, mg "WATER" = some (.str (Str.ofString "~") t)) :
    FnOk P w K mg base CX0 3 f fd ["self", "cell"] (spHas K CI) := by
  obtain ⟨t0, gw⟩ := gw
  refine F.ok scHas (fun vs H Q E h => ?_) (fun cdv A outer s H vs Q E hr h => ?_)
  · obtain ⟨a, c, rows, i, j, rfl, _⟩ := h
    rfl
  · obtain ⟨a, c, rows, i, j, rfl, hI, g, hC, k⟩ := h
    have nd := scHas.nd
    have hr2 : Room 2 _ := hr.mono (by decide)
    refine ⟨_, PSs.nox (pss_one (ps_ret (pe_and (pe_cal G hr2 pass0 (pa_cons (pe_fld (pv 0) rfl) (pa_cons (pv 1) pa_nil)))
      (pe_one (pe_cmpR op_ne (pe_ix ix_str (pe_ix ix_tup (pe_fld (pv 0) rfl) (pe_ix ix_tup (pv 1) pe_int (fun _ _ => rfl)) (fun _ _ => rfl)) (pe_ix ix_tup (pv 1) pe_int (fun _ _ => rfl)) (fun _ _ => rfl))
        (pe_glob (v := .str (Str.ofString "~")) rfl gw ⟨_, rfl⟩) (nomark _)))))), ?_⟩
    obtain ⟨dx, p, hp, hS⟩ := hI
    refine ⟨_, rfl, a, CI, dx, _, .ref p, rfl, hp, T.cl, T.nR, rfl, ?_⟩
    refine ⟨_, rfl, p, c, rows, i, j, rfl, hS, g.toShp, hC, _, rfl, ?_⟩
    unfold hasC at k
    cases e : insd rows i j with
    | false =>
      rw [e, Bool.false_and] at k
      exact iteF k
    | true =>
      rw [e, Bool.true_and] at k
      refine iteT ?_
      obtain ⟨r, ch, h1, h2, h3, hm, hi, hj⟩ := insd_at g e
      have ei : atI (rows.map vt) i = some (vt r) := by
        have z := atI_nat (xs := rows.map vt) (j := i.toNat) (v := vt r) (by rw [List.getElem?_map, h1]; rfl)
        rwa [Int.toNat_of_nonneg hi] at z
      have ej : atI (tx r).cps.toList j = some ch := by
        have z := atI_nat (xs := (tx r).cps.toList) (j := j.toNat) (v := ch) (by rw [tx_cps]; exact h2)
        rwa [Int.toNat_of_nonneg hj] at z
      refine ⟨_, rfl, a, CI, dx, _, .ref p, rfl, hp, T.cl, T.nR, rfl, ?_⟩
      refine ⟨_, rfl, c, _, 0, _, rfl, rfl, hC, rfl, p, _, i, _, rfl, rfl, hS, ei, ?_⟩
      refine ⟨_, rfl, c, _, 1, _, rfl, rfl, hC, rfl, _, j, ch, rfl, rfl, (by rw [tx_len]; exact small_le (g.row r hm)), ej, ?_⟩
      rw [h3] at k
      have e2 : (decide (V.str ⟨#[ch]⟩ = V.str (Str.ofString "~"))) = decide (ch = 126) := by
        have z : Str.ofString "~" = (⟨#[126]⟩ : Str) := by decide +kernel
        rw [z]
        apply decide_eq_decide.mpr
        simp
      refine ⟨rfl, ?_⟩
      show Q (.bl (!decide (V.str ⟨#[ch]⟩ = V.str (Str.ofString "~")))) H
      rw [e2]
      exact k
theorem scIEq : FnScope ["self", "other"] ["self", "other"] (defScope (sIslM 10)) := ⟨rfl, rfl, rfl, by decide +kernel, rfl, by decide +kernel, by decide +kernel⟩
theorem ok_ieq {f : Addr} {fd : FuncData} (F : FnP K "__eq__" "Island.__eq__" (sIslM 10) f fd) (T : IslF K mg CI fN) (N : InsF K CI) (gisi : mg "isinstance" = none) : FnOk P w K mg base CX0 1 f fd ["self", "other"] (spIEq K CI) := by
  refine F.ok scIEq (fun vs H Q E h => ?_) (fun cdv A outer s H vs Q E hr h => ?_)
  · obtain ⟨a, b, r1, r2, rfl, _⟩ := h
    rfl
  · obtain ⟨a, b, r1, r2, rfl, ⟨dx, p, hp, hS⟩, ⟨dy, q, hq, hS2⟩, l1, l2, k⟩ := h
    refine ⟨_, PSs.nox (pss_one (ps_ret (pe_and (pe_callB call_isi (by rfl) gisi (by decide +kernel) (pa_cons (pv 1) (pa_cons (pe_glob (v := .ref CI) rfl T.gI rfl) pa_nil)))
      (pe_one (pe_cmpR (op_eqD hr.units) (pe_fld (pv 0) rfl) (pe_fld (pv 1) rfl) (nomark _)))))), ?_⟩
    refine ⟨_, rfl, _, _, _, _, _, rfl, .own CI, .base (.ins hq T.cl N.ha N.hn N.ht N.hm), kit_self, true, rfl, iteT ?_⟩
    refine ⟨_, rfl, a, CI, dx, _, .ref p, rfl, hp, T.cl, T.nR, rfl, ?_⟩
    refine ⟨_, rfl, b, CI, dy, _, .ref q, rfl, hq, T.cl, T.nR, rfl, ?_⟩
    refine ⟨_, _, .tup hS (dpAll_rows r1), .tup hS2 (dpAll_rows r2), shaped_rows l1, shaped_rows l2, ?_⟩
    rw [eqv_rows]
    exact k
theorem scI1 (i : Nat) (h : i = 1 ∨ i = 2 ∨ i = 3) : FnScope ["self"] ["self"] (defScope (sIslM i)) := by
  rcases h with rfl | rfl | rfl <;> exact ⟨rfl, rfl, rfl, by decide +kernel, rfl, by decide +kernel, by decide +kernel⟩
theorem ok_irows {f : Addr} {fd : FuncData} (F : FnP K "rows" "Island.rows" (sIslM 1) f fd) (T : IslF K mg CI fN) : FnOk P w K mg base CX0 1 f fd ["self"] (spIRows K CI) := by
  refine F.ok (scI1 1 (.inl rfl)) (fun vs H Q E h => ?_) (fun cdv A outer s H vs Q E hr h => ?_)
  · obtain ⟨a, dx, p, rfl, _⟩ := h
    rfl
  · obtain ⟨a, dx, p, rfl, hp, k⟩ := h
    exact ⟨_, PSs.nox (pss_one (ps_ret (pe_fld (pv 0) rfl))), _, rfl, a, CI, dx, _, .ref p, rfl, hp, T.cl, T.nR, rfl, k⟩
theorem ok_iwid {f : Addr} {fd : FuncData} (F : FnP K "width" "Island.width" (sIslM 3) f fd) (T : IslF K mg CI fN) (glen : mg "len" = none) : FnOk P w K mg base CX0 1 f fd ["self"] (spIWid K CI) := by
  refine F.ok (scI1 3 (.inr (.inr rfl))) (fun vs H Q E h => ?_) (fun cdv A outer s H vs Q E hr h => ?_)
  · obtain ⟨a, rows, rfl, _⟩ := h
    rfl
  · obtain ⟨a, rows, rfl, ⟨dx, p, hp, hS⟩, sh, k⟩ := h
    obtain ⟨r0, rs, rfl⟩ : ∃ r0 rs, rows = r0 :: rs := by
      cases rows with
      | nil => exact absurd rfl sh.ne
      | cons r0 rs => exact ⟨r0, rs, rfl⟩
    have hr0 : (tx r0).length ≤ sizeLine := by rw [tx_len]; exact small_le (sh.row r0 (List.mem_cons_self ..))
    refine ⟨_, PSs.nox (pss_one (ps_ret (pe_callB call_len_str (by rfl) glen PySem.boot_len (pa_cons (pe_ix ix_tup (pe_fld (pv 0) rfl) pe_int (fun _ _ => rfl)) pa_nil)))), ?_⟩
    refine ⟨_, rfl, a, CI, dx, _, .ref p, rfl, hp, T.cl, T.nR, rfl, p, _, 0, _, rfl, rfl, hS, at0, _, rfl, hr0, ?_⟩
    rw [tx_len]
    exact k
end
end Om


namespace Om
open PySem PySem.Spec PyProof.Rows L2
/-! ### Dp stays -/
theorem Same.lst {K : PySem.W.Frag} {H H' : Hp} {a : Addr} {xs : List V} (e : Same H H') (h : SqL K H a xs) : SqL K H' a xs := by
  rcases h with (h | ⟨o, h⟩) | h
  · exact .inl (.inl (e _ _ h))
  · exact .inl (.inr ⟨o, e _ _ h⟩)
  · exact .inr h
theorem dp_mono {K : PySem.W.Frag} {H H' : Hp} (hS : ∀ a xs, SqT K H a xs → SqT K H' a xs) (hL : ∀ a xs, SqL K H a xs → SqL K H' a xs) {v : V} {d : PyData} (h : Dp K H v d) : Dp K H' v d :=
  Dp.rec (motive_1 := fun v d _ => Dp K H' v d) (motive_2 := fun vs ds _ => DpAll K H' vs ds) .non .bl .int .str (fun s _ ih => .lst (hL _ _ s) ih) (fun s _ ih => .tup (hS _ _ s) ih) .nil (fun _ _ i1 i2 => .cons i1 i2) h
theorem dpAll_mono {K : PySem.W.Frag} {H H' : Hp} (hS : ∀ a xs, SqT K H a xs → SqT K H' a xs) (hL : ∀ a xs, SqL K H a xs → SqL K H' a xs) {vs : List V} {ds : List PyData} (h : DpAll K H vs ds) : DpAll K H' vs ds :=
  DpAll.rec (motive_1 := fun v d _ => Dp K H' v d) (motive_2 := fun vs ds _ => DpAll K H' vs ds) .non .bl .int .str (fun s _ ih => .lst (hL _ _ s) ih) (fun s _ ih => .tup (hS _ _ s) ih) .nil (fun _ _ i1 i2 => .cons i1 i2) h
theorem Same.dp {K : PySem.W.Frag} {H H' : Hp} {v : V} {d : PyData} (e : Same H H') (h : Dp K H v d) : Dp K H' v d := dp_mono (fun _ _ => Same.tup e) (fun _ _ => Same.lst e) h
theorem Same.dpAll {K : PySem.W.Frag} {H H' : Hp} {v : List V} {d : List PyData} (e : Same H H') (h : DpAll K H v d) : DpAll K H' v d := dpAll_mono (fun _ _ => Same.tup e) (fun _ _ => Same.lst e) h
theorem dpAll_app {K : PySem.W.Frag} {H : Hp} : ∀ {a : List V} {da : List PyData} {b : List V} {db : List PyData}, DpAll K H a da → DpAll K H b db → DpAll K H (a ++ b) (da ++ db)
  | [], [], _, _, .nil, h => h
  | _ :: _, _ :: _, _, _, .cons x y, h => .cons x (dpAll_app y h)
theorem dpAll_len {K : PySem.W.Frag} {H : Hp} : ∀ {a : List V} {da : List PyData}, DpAll K H a da → a.length = da.length
  | [], [], .nil => rfl
  | _ :: _, _ :: _, .cons _ y => by rw [List.length_cons, List.length_cons, dpAll_len y]
/-! ### pairs of numbers in a list that grows at D -/
def cdp (c : Nat × Nat) : PyData := .tuple [.int (c.1 : Nat), .int (c.2 : Nat)]
theorem SqT.other {K : PySem.W.Frag} {H : Hp} {a D : Addr} {xs acc : List V} {o : HO} (h : SqT K H a xs) (hD : H D = some (.lst acc)) : SqT K (upd H D o) a xs := by
  rcases h with (h | ⟨ob, h⟩) | h
  · have n : a ≠ D := fun e => by rw [e, hD] at h; cases h
    exact .inl (.inl (by rw [upd_ne n]; exact h))
  · have n : a ≠ D := fun e => by rw [e, hD] at h; cases h
    exact .inl (.inr ⟨ob, by rw [upd_ne n]; exact h⟩)
  · exact .inr h
theorem pairs_other {K : PySem.W.Frag} {H : Hp} {D : Addr} {acc : List V} {o : HO} (hD : H D = some (.lst acc)) : ∀ {xs : List V} {cs : List (Nat × Nat)}, DpAll K H xs (cs.map cdp) → DpAll K (upd H D o) xs (cs.map cdp)
  | [], [], .nil => .nil
  | _ :: _, _ :: _, .cons h t => by
    refine .cons ?_ (pairs_other hD t)
    unfold cdp at h ⊢
    cases h with
    | tup s al =>
      refine .tup (SqT.other s hD) ?_
      cases al with
      | cons h1 t1 =>
        cases h1
        cases t1 with
        | cons h2 t2 =>
          cases h2
          cases t2
          exact .cons (.int _) (.cons (.int _) .nil)
/-! ### the cells of land -/
def rowCells (r : List Nat) (i n : Nat) : List (Nat × Nat) := ((List.range n).filter fun j => !decide (r.getD j 0 = 126)).map fun j => (i, j)
def cellsTo (rows : List (List Nat)) (n : Nat) : List (Nat × Nat) := (List.range n).flatMap fun i => rowCells (rows.getD i []) i (rows.getD i []).length
def cellsOf (rows : List (List Nat)) : List (Nat × Nat) := cellsTo rows rows.length
theorem rowCells_succ (r : List Nat) (i n : Nat) : rowCells r i (n + 1) = if r.getD n 0 = 126 then rowCells r i n else rowCells r i n ++ [(i, n)] := by
  unfold rowCells
  rw [List.range_succ, List.filter_append, List.map_append]
  by_cases h : r.getD n 0 = 126
  · rw [if_pos h]
    simp only [List.filter_cons, h, decide_true, Bool.not_true, Bool.false_eq_true, if_false, List.filter_nil, List.map_nil, List.append_nil]
  · rw [if_neg h]
    have e : (!decide (r.getD n 0 = 126)) = true := by rw [decide_eq_false h]; rfl
    simp only [List.filter_cons, e, if_true, List.filter_nil, List.map_cons, List.map_nil]
theorem cellsTo_succ (rows : List (List Nat)) (n : Nat) : cellsTo rows (n + 1) = cellsTo rows n ++ rowCells (rows.getD n []) n (rows.getD n []).length := by
  unfold cellsTo
  rw [List.range_succ, List.flatMap_append]
  simp
theorem rowCells_len (r : List Nat) (i n : Nat) : (rowCells r i n).length ≤ n := by
  unfold rowCells
  rw [List.length_map]
  exact Nat.le_trans (List.length_filter_le ..) (by rw [List.length_range]; exact Nat.le_refl _)
theorem cellsTo_len {rows : List (List Nat)} {w : Nat} (hw : ∀ r ∈ rows, r.length ≤ w) : ∀ n, n ≤ rows.length → (cellsTo rows n).length ≤ n * w
  | 0, _ => by simp [cellsTo]
  | n + 1, h => by
    rw [cellsTo_succ, List.length_append]
    have h1 := cellsTo_len hw n (by omega)
    have hm : rows.getD n [] ∈ rows := by
      rw [List.getD_eq_getElem?_getD, List.getElem?_eq_getElem (by omega), Option.getD_some]
      exact List.getElem_mem _
    have h2 := rowCells_len (rows.getD n []) n (rows.getD n []).length
    have h3 := hw _ hm
    rw [Nat.succ_mul]
    omega
theorem getD_at {rows : List (List Nat)} {i : Nat} {r : List Nat} (h : rows[i]? = some r) : rows.getD i [] = r := by
  rw [List.getD_eq_getElem?_getD, h, Option.getD_some]
/-- an island as it may be -/
structure Vd (rows : List (List Nat)) : Prop extends Good2 rows where
  hgt : rows.length ≤ 12
  wid : ∀ r ∈ rows, 1 ≤ r.length ∧ r.length ≤ 12
theorem RowsOk.vd {m : Nat} {rows : List (List Nat)} (h : RowsOk m rows) (hm : m ≤ 12) : Vd rows := by
  obtain ⟨h1, h2, wd, w1, w2, hr⟩ := h
  have g := RowsOk.good ⟨h1, h2, wd, w1, w2, hr⟩ hm
  refine ⟨⟨⟨g.le, g.lens, fun e => by rw [e] at h1; simp at h1⟩, fun r hr' => ?_, g.lo⟩, by omega, fun r hr' => by have := (hr r hr').1; omega⟩
  cases rows with
  | nil => cases hr'
  | cons r0 rs =>
    have e1 := (hr r hr').1
    have e2 := (hr r0 (List.mem_cons_self ..)).1
    show r.length = r0.length
    omega
def spICells (K : PySem.W.Frag) (CI : Addr) : Sp := fun vs H Q _ => ∃ (a : Addr) (rows : List (List Nat)), vs = [.ref a] ∧ Isl K CI H a rows ∧ Vd rows ∧ ∀ v H', Same H H' → Dp K H' v (.list ((cellsOf rows).map cdp)) → Q v H'
end Om


namespace Om
open PySem PySem.Spec PyProof.Rows L2
/-! ### _law_alike of two readings of the same data -/
/-- none, bools, ints, texts, tuples and lists of such, some deep -/
def okD : Nat → PyData → Bool
  | 0, _ => false
  | _ + 1, .none => true
  | _ + 1, .bool _ => true
  | _ + 1, .int _ => true
  | _ + 1, .str x => PyData.strOk x
  | n + 1, .list ds => decide (ds.length ≤ 10000) && ds.all (okD n)
  | n + 1, .tuple ds => decide (ds.length ≤ 10000) && ds.all (okD n)
  | _ + 1, .dict _ => false
theorem dpAll_at {K : PySem.W.Frag} {H : Hp} : ∀ {xs : List V} {ds : List PyData}, DpAll K H xs ds → ∀ {i : Nat} {e : PyData}, ds[i]? = some e → ∃ v, xs[i]? = some v ∧ Dp K H v e
  | [], [], .nil, i, e, h => by simp at h
  | v :: _, d :: _, .cons h1 t, 0, e, h => by
    have h : some d = some e := h
    cases h
    exact ⟨v, rfl, h1⟩
  | v :: _, d :: _, .cons h1 t, i + 1, e, h => by
    obtain ⟨u, h2, h3⟩ := dpAll_at t (i := i) (e := e) h
    exact ⟨u, h2, h3⟩
def tyD : PyData → String
  | .none => "NoneType"
  | .bool _ => "bool"
  | .int _ => "int"
  | .str _ => "str"
  | .list _ => "list"
  | .tuple _ => "tuple"
  | .dict _ => "dict"
theorem sqL_ty {K : PySem.W.Frag} {H : Hp} {a : Addr} {xs : List V} (h : SqL K H a xs) : TyX K H (.ref a) (.type "list") := by
  rcases h with (h | ⟨o, h⟩) | h
  · exact .base (.lst h)
  · exact .base (.frz h)
  · obtain ⟨o, its, n, e1, e2, _⟩ := h
    exact .kList e1 e2
theorem sqT_ty {K : PySem.W.Frag} {H : Hp} {a : Addr} {xs : List V} (h : SqT K H a xs) : TyX K H (.ref a) (.type "tuple") := by
  rcases h with (h | ⟨o, h⟩) | h
  · exact .base (.tup h)
  · exact .fTuple h
  · obtain ⟨o, its, n, e1, e2, _⟩ := h
    exact .kTuple e1 e2
theorem dp_ty {K : PySem.W.Frag} {H : Hp} {v : V} {d : PyData} (h : Dp K H v d) : TyX K H v (.type (tyD d)) := by
  cases h with
  | non => exact .base .non
  | bl b => exact .base (.bl b)
  | int i => exact .base (.int i)
  | str x => exact .base (.str x)
  | lst s _ => exact sqL_ty s
  | tup s _ => exact sqT_ty s
end Om


namespace Om
open PySem PySem.Spec PyProof.Rows L2
section
variable {P : Program} {w : World} {K : PySem.W.Frag} {mg : Str → Option Value} {base : Heap} {CI CU fN : Addr}
def cellsLc : Expr := retExpr ((defBody (sIslM 4)).getD 0 (.Pass ⟨0, 0, 0, 0⟩))
abbrev nCells : List Str := ["self", "row", "signs", "column", "sign"]
theorem scCells : FnScope nCells ["self"] (defScope (sIslM 4)) := ⟨rfl, rfl, rfl, by decide +kernel, rfl, by decide +kernel, by decide +kernel⟩
theorem blkCells : BlkOk nCells (defScope (sIslM 4)) (lcScope cellsLc) [("row", 1), ("signs", 2), ("column", 3), ("sign", 4)] := blkOk_by (by decide +kernel)
theorem ok_icells {f : Addr} {fd : FuncData} (F : FnP K "cells" "Island.cells" (sIslM 4) f fd) (T : IslF K mg CI fN) (genum : mg "enumerate" = none) (gw : ∃ t, mg "WATER" = some (.str (Str.ofString "~") t)) : FnOk P w K mg base CX0 1 f fd ["self"] (spICells K CI) := by
  obtain ⟨t0, gw⟩ := gw
  refine F.ok scCells (fun vs H Q E h => ?_) (fun cdv A outer s H vs Q E hr h => ?_)
  · obtain ⟨a, rows, rfl, _⟩ := h
    rfl
  · obtain ⟨a, rows, rfl, ⟨dx, p, hp, hS⟩, vd, k⟩ := h
    have nd := scCells.nd
    refine ⟨_, PSs.nox (pss_one (ps_ret (pe_lc2 (own := [("row", 1), ("signs", 2), ("column", 3), ("sign", 4)]) (vs1 := [3, 4]) (g := gTup K 2 (gCons (gName 1) (gCons (gName 2) gNil))) (g1 := gTup K 2 (gCons (gName 3) (gCons (gName 4) gNil))) rfl nd (pi_enumT rfl genum (pa_cons (pe_fld (pv 0) rfl) pa_nil)) blkCells (by decide)
      (fun _ _ _ _ _ => pg_tup rfl (pgs_cons (pg_name (i := 1) nd rfl (.inl rfl)) (pgs_cons (pg_name (i := 2) nd rfl (.inl rfl)) pgs_nil))) (fun _ _ _ _ _ => pts_nil)
      (fun _ _ _ _ _ => pi_enumS rfl genum (pa_cons (pv 2) pa_nil))
      (fun _ _ _ _ _ => pg_tup rfl (pgs_cons (pg_name (i := 3) nd rfl (.inl rfl)) (pgs_cons (pg_name (i := 4) nd rfl (.inl rfl)) pgs_nil)))
      (fun _ _ _ _ _ => pts_one (pt_cmpR op_ne (pv 4) (pe_glob (v := .str (Str.ofString "~")) rfl gw ⟨_, rfl⟩) (nomark _)))
      (fun _ _ _ _ _ => pe_tup (pa_cons (pv 1) (pa_cons (pv 3) pa_nil)))))), ?_⟩
    refine ⟨_, rfl, a, CI, dx, _, .ref p, rfl, hp, T.cl, T.nR, rfl, p, _, rfl, hS, fun D hD => ?_⟩
    have ez : Str.ofString "~" = (⟨#[126]⟩ : Str) := by decide +kernel
    refine out_it (walk_enumT (K := K) (a := p) (xs := rows.map vt)) (fun i H' => ∃ acc, H' D = some (.lst acc) ∧ DpAll K H' acc ((cellsTo rows i).map cdp) ∧ Same H H') ⟨[], upd_same, .nil, Same.new (Same.refl H) hD⟩
      (fun i H' _ q => by obtain ⟨_, _, _, q⟩ := q; exact Same.tup q hS) ?_ ?_
    · rintro i x H1 H2 hi ⟨acc, h1, h2, h3⟩ ⟨T1, y, rfl, hT, rfl, hy⟩
      rw [List.length_map] at hi
      obtain ⟨r, hr1⟩ : ∃ r, rows[i]? = some r := ⟨rows[i], by simp [hi]⟩
      have hy2 : y = vt r := by
        have hy : (rows.map vt)[i]? = some y := hy
        rw [List.getElem?_map, hr1] at hy
        exact (Option.some.inj hy).symm
      subst hy2
      have hm : r ∈ rows := List.mem_of_getElem? hr1
      have hDT : D ≠ T1 := fun e => by rw [← e, h1] at hT; cases hT
      have s1 : Same H1 (upd H1 T1 (.tup [.int (i : Nat), vt r])) := Same.new (Same.refl H1) hT
      refine ⟨T1, _, rfl, .inl (.inl upd_same), rfl, _, _, rfl, _, _, rfl, rfl, rfl, tyes ?_⟩
      refine ⟨_, rfl, tx r, rfl, in_it (walk_enumS (x := tx r)) (fun j H' => ∃ acc, H' D = some (.lst acc) ∧ DpAll K H' acc ((cellsTo rows i ++ rowCells r i j).map cdp) ∧ Same H H')
        ⟨acc, s1 _ _ h1, by simp only [rowCells, List.range_zero, List.filter_nil, List.map_nil, List.append_nil]; exact Same.dpAll s1 h2, h3.trans s1⟩ (fun _ _ _ _ => trivial) ?_ ?_⟩
      · rintro j x H3 H4 hj ⟨acc2, g1, g2, g3⟩ ⟨T2, y2, rfl, hT2, rfl, hy2⟩
        have hj' : j < r.length := by
          have e : (tx r).cps.size = r.length := by rw [← Array.length_toList, tx_cps]
          rwa [e] at hj
        obtain ⟨c, hc⟩ : ∃ c, r[j]? = some c := ⟨r[j], by simp [hj']⟩
        have hy3 : y2 = .str ⟨#[c]⟩ := by
          have hy2 : ((tx r).cps[j]?).map (fun c => V.str ⟨#[c]⟩) = some y2 := hy2
          have e : (tx r).cps[j]? = some c := by
            rw [← Array.getElem?_toList, tx_cps]
            exact hc
          rw [e] at hy2
          exact (Option.some.inj hy2).symm
        subst hy3
        have s2 : Same H3 (upd H3 T2 (.tup [.int (j : Nat), .str ⟨#[c]⟩])) := Same.new (Same.refl H3) hT2
        have hcd : r.getD j 0 = c := by rw [List.getD_eq_getElem?_getD, hc, Option.getD_some]
        refine ⟨T2, _, rfl, .inl (.inl upd_same), rfl, _, _, rfl, _, _, rfl, rfl, rfl, ?_⟩
        refine ⟨_, rfl, rfl, _, rfl, ?_⟩
        have e2 : (decide (V.str ⟨#[c]⟩ = V.str (Str.ofString "~"))) = decide (c = 126) := by
          rw [ez]
          apply decide_eq_decide.mpr
          simp
        show if (!decide (V.str ⟨#[c]⟩ = V.str (Str.ofString "~"))) = true then _ else _
        rw [e2, rowCells_succ, hcd]
        have w1 : (cellsTo rows i).length ≤ i * 12 := cellsTo_len (fun r hr => (vd.wid r hr).2) i (by omega)
        have w2 := rowCells_len r i j
        have w3 := (vd.wid r hm).2
        have w4 := vd.hgt
        have hlen := dpAll_len g2
        rw [List.length_map, List.length_append] at hlen
        by_cases h126 : c = 126
        · rw [if_pos h126]
          refine iteF' (by rw [decide_eq_true h126]; rfl) ?_
          exact ⟨acc2, s2 _ _ g1, Same.dpAll s2 g2, g3.trans s2⟩
        · rw [if_neg h126]
          refine iteT' (by rw [decide_eq_false h126]; rfl) ?_
          refine ⟨_, rfl, _, rfl, (by show 2 ≤ sizeLine; decide), fun q hq => ?_⟩
          have s3 : Same H3 (upd (upd H3 T2 (.tup [.int (j : Nat), .str ⟨#[c]⟩])) q (.tup [.int (i : Nat), .int (j : Nat)])) := s2.trans (Same.new (Same.refl _) hq)
          have g4 := s3 _ _ g1
          have hqD : D ≠ q := fun e => by rw [← e, s2 _ _ g1] at hq; cases hq
          refine ⟨acc2, g4, Nat.lt_of_lt_of_le (show acc2.length < 1000 by omega) (by decide), acc2 ++ [.ref q], upd_same, ?_, ?_⟩
          · rw [← List.append_assoc, List.map_append]
            refine dpAll_app (pairs_other g4 (Same.dpAll s3 g2)) (.cons ?_ .nil)
            exact .tup (.inl (.inl (by rw [upd_ne (Ne.symm hqD)]; exact upd_same))) (.cons (.int _) (.cons (.int _) .nil))
          · intro b o hb
            have hne : b ≠ D := ne_of_none hb hD
            rw [upd_ne hne]
            exact s3 _ _ (g3 b o hb)
      · rintro H3 ⟨acc2, g1, g2, g3⟩
        have e : (tx r).cps.size = r.length := by rw [← Array.length_toList, tx_cps]
        rw [e] at g2
        refine ⟨acc2, g1, ?_, g3⟩
        rw [cellsTo_succ, getD_at hr1]
        exact g2
    · rintro H1 ⟨acc, h1, h2, h3⟩
      rw [List.length_map] at h2
      exact k _ H1 h3 (.lst (.inl (.inl h1)) h2)
end
end Om

namespace Om
open PySem PySem.Spec PyProof.Rows L2 LamX
theorem nilArgs {σ : L2.St} {H : Hp} {Q : List V → Hp → Prop} (h : Q [] H) : tNil σ H Q := h
theorem noPart {σ : L2.St} {H : Hp} {Q : Option Int → Hp → Prop} (h : Q none H) : tNoPart σ H Q := h
theorem Same.updN {H H' : Hp} {D : Addr} {o : HO} (s : Same H H') (h : H D = none) : Same H (upd H' D o) := by
  intro b q hb
  rw [upd_ne (ne_of_none hb h)]
  exact s _ _ hb
theorem Same.none {H H' : Hp} {a : Addr} (s : Same H H') (h : H' a = none) : H a = none := by
  cases e : H a with
  | none => rfl
  | some o => rw [s _ _ e] at h; cases h
theorem cutV_tail (xs : List V) (h : 1 ≤ xs.length) : cutV xs (some 1) none = xs.drop 1 := by
  unfold cutV
  have e1 : HT.sIx xs.length 0 (some 1) = 1 := by
    have := HT.sIx_nat xs.length 0 1
    rw [Nat.min_eq_left h] at this
    exact this
  have e2 : HT.sIx xs.length xs.length none = xs.length := rfl
  rw [e1, e2]
  exact List.take_of_length_le (by rw [List.length_drop]; omega)
theorem neS {a b : Str} (h : a ≠ b) : decide (V.str a = V.str b) = false := decide_eq_false fun e => h (V.str.inj e)
theorem ixlK {X : Cx} {K : PySem.W.Frag} (hK : X.K = K) : IxR X (rIxL K) := by
  subst hK
  exact ix_list
end Om

namespace Om
open PySem PySem.Spec PyProof.Rows L2 LamX
/-! ### the heap of numbers that a law draws from -/
structure Bx (H : Hp) (b l : Addr) : Prop where
  ex : ∃ (ns : List Int) (z k : Int), H b = some (.lst [.int z, .ref l, .int k]) ∧ H l = some (.lst (ns.map V.int)) ∧ ns.length ≤ 63
theorem Bx.ne {H : Hp} {b l : Addr} (B : Bx H b l) : b ≠ l := by
  obtain ⟨ns, z, k, h1, h2, _⟩ := B.ex
  refine ne_of h1 h2 fun e => ?_
  have e2 : [V.int z, V.ref l, V.int k] = ns.map V.int := HO.lst.inj e
  cases ns with
  | nil => cases e2
  | cons n r =>
    cases r with
    | nil => cases e2
    | cons m q =>
      injection e2 with _ e3
      injection e3 with e4 _
      cases e4
theorem Bx.same {H H' : Hp} {b l : Addr} (B : Bx H b l) (s : Same H H') : Bx H' b l := by
  obtain ⟨ns, z, k, h1, h2, h3⟩ := B.ex
  exact ⟨ns, z, k, s _ _ h1, s _ _ h2, h3⟩
theorem Bx.new {H : Hp} {b l D : Addr} (B : Bx H b l) (hD : H D = none) : D ≠ b ∧ D ≠ l := by
  obtain ⟨_, _, _, x1, x2, _⟩ := B.ex
  exact ⟨(fun e => by rw [← e, hD] at x1; cases x1), (fun e => by rw [← e, hD] at x2; cases x2)⟩
def spMix (K : PySem.W.Frag) : Sp := fun vs H Q _ => ∃ (a : Addr) (ns : List Int) (sd : Int), vs = [.ref a, .int sd] ∧ SqL K H a (ns.map V.int) ∧ ns.length ≤ 63 ∧
  ∀ (b l : Addr) (H' : Hp), H b = none → H l = none → Same H H' → Bx H' b l → Q (.ref b) H'
def spNext : Sp := fun vs H Q _ => ∃ (b l : Addr) (m : Int), vs = [.ref b, .int m] ∧ Bx H b l ∧ 0 < m ∧ m ≤ 1000000 ∧
  ∀ (n : Int) (H' : Hp), 0 ≤ n → n < m → Bx H' b l → Kp b l H H' → Q (.int n) H'
abbrev sMix : Stmt := top 33
abbrev sNext : Stmt := top 34
section
variable {P : Program} {w : World} {K : PySem.W.Frag} {mg : Str → Option Value} {base : Heap}
abbrev nMix : List Str := ["_law_script", "_law_seed", "_law_state", "_law_cell"]
theorem scMix : FnScope nMix ["_law_script", "_law_seed"] (defScope sMix) := ⟨rfl, rfl, rfl, by decide +kernel, rfl, by decide +kernel, by decide +kernel⟩
theorem ok_mix {f : Addr} {fd : FuncData} (F : FnP K "_law_mix" "_law_mix" sMix f fd) (gint : mg "int" = none) (glist : mg "list" = none) : FnOk P w K mg base CX0 1 f fd ["_law_script", "_law_seed"] (spMix K) := by
  refine F.ok scMix (fun vs H Q E h => ?_) (fun cdv A outer s H vs Q E hr h => ?_)
  · obtain ⟨a, ns, sd, rfl, _⟩ := h
    rfl
  · obtain ⟨a, ns, sd, rfl, hS, hlen, k⟩ := h
    have nd := scMix.nd
    refine ⟨_, PSs.nox (pss_cons (ps_set (i := 2) nd rfl (.inl rfl) (pv 1))
      (pss_cons (ps_for PassesOwn.never rfl (pi_list (pv 0)) (pg_name (i := 3) nd rfl (.inl rfl))
        (pss_one (ps_set (i := 2) nd rfl (.inl rfl) (pe_op op_modN (pe_callTy call_int1 (by rfl) gint boot_int (pa_cons (pe_op op_add (pe_op op_add (pe_op op_mul (pv 2) pe_int) (pe_op op_modN (pe_callTy call_int1 (by rfl) gint boot_int (pa_cons (pv 3) pa_nil)) pe_int)) pe_int) pa_nil)) pe_int))))
      (pss_one (ps_ret (pe_lst (pa_cons (pv 2) (pa_cons (pe_callTy call_list_of (by rfl) glist (by decide +kernel) (pa_cons (pv 0) pa_nil)) (pa_cons pe_int pa_nil)))))))), ?_⟩
    refine ⟨_, rfl, _, rfl, a, rfl, ⟨_, hS⟩, for_list (K := K) (a := a) (xs := ns.map V.int) (fun i σ H2 => ∃ (z : Int) (v : Option V), σ = [some (.ref a), some (.int sd), some (.int z), v] ∧ H2 = H)
      ⟨sd, none, rfl, rfl⟩ (fun i σ H2 _ ⟨_, _, _, e⟩ => by rw [e]; exact hS) ?_ ?_⟩
    · rintro i y σ H2 hi ⟨z, v, rfl, rfl⟩
      obtain ⟨n, rfl⟩ : ∃ n, y = V.int n := by
        rw [List.getElem?_map] at hi
        cases e : ns[i]? with
        | none => rw [e] at hi; cases hi
        | some n => rw [e] at hi; exact ⟨n, (Option.some.inj hi).symm⟩
      refine ⟨_, rfl, _, _, rfl, rfl, .inr ⟨by decide, by decide⟩, _, rfl, .inl ⟨_, rfl, _, _, rfl, rfl, (by show (2147483629 : Int) ≠ 0; decide), _, _, rfl, rfl, _, _, rfl, rfl, .inl ⟨_, rfl, _, _, rfl, rfl, (by show (2147483647 : Int) ≠ 0; decide), ?_⟩⟩⟩
      exact ⟨_, _, rfl, rfl⟩
    · rintro σ H2 ⟨z, v, rfl, rfl⟩
      refine ⟨_, rfl, _, rfl, a, _, rfl, .inl hS, fun l hl => ?_⟩
      refine ⟨by show 3 ≤ sizeLine; decide, fun p hp => ?_⟩
      have npl : p ≠ l := fun e => by rw [e, upd_same] at hp; cases hp
      have hp0 : H2 p = none := by rw [upd_ne npl] at hp; exact hp
      refine k p l _ hp0 hl (Same.new (Same.new (Same.refl _) hl) hp) ⟨ns, _, _, upd_same, ?_, hlen⟩
      rw [upd_ne npl.symm, upd_same]
abbrev nNext : List Str := ["_law_h", "_law_limit", "_law_cell"]
theorem scNext : FnScope nNext ["_law_h", "_law_limit"] (defScope sNext) := ⟨rfl, rfl, rfl, by decide +kernel, rfl, by decide +kernel, by decide +kernel⟩
theorem ok_next {f : Addr} {fd : FuncData} (F : FnP K "_law_next" "_law_next" sNext f fd) (gint : mg "int" = none) (gmax : mg "max" = none) (glen : mg "len" = none) : FnOk P w K mg base CX0 1 f fd ["_law_h", "_law_limit"] spNext := by
  refine F.ok scNext (fun vs H Q E h => ?_) (fun cdv A outer s H vs Q E hr h => ?_)
  · obtain ⟨b, l, m, rfl, _⟩ := h
    rfl
  · obtain ⟨b, l, m, rfl, B, hm0, hm1, k⟩ := h
    have nd := scNext.nd
    have nbl := B.ne
    obtain ⟨ns, z, kc, hb, hl, hlen⟩ := id B.ex
    refine ⟨_, PSs.nox (pss_cons (ps_set (i := 2) nd rfl (.inl rfl) (pe_ix ix_list (pe_op op_cat (pe_ix ix_list (pv 0) pe_int (fun _ _ => rfl)) (pe_lst (pa_cons pe_int pa_nil))) (pe_op op_mod (pe_callTy call_int1 (by rfl) gint boot_int (pa_cons (pe_ix ix_list (pv 0) pe_int (fun _ _ => rfl)) pa_nil)) (pe_callB (call_max2 rfl) (by rfl) gmax (by decide +kernel) (pa_cons pe_int (pa_cons (pe_callB call_len_seq (by rfl) glen PySem.boot_len (pa_cons (pe_ix ix_list (pv 0) pe_int (fun _ _ => rfl)) pa_nil)) pa_nil)))) (fun _ _ => rfl)))
      (pss_cons (ps_if (pt_cmpR op_ge (pv 2) (pe_op op_pow pe_int pe_int) (nomark _))
          (pss_cons (ps_asg (pe_op op_fdivN (pv 2) (pv 1)) (pg_sub (pe_ix ix_list (pv 0) pe_int (fun _ _ => rfl)) (pe_op op_mod (pe_callTy call_int1 (by rfl) gint boot_int (pa_cons (pe_ix ix_list (pv 0) pe_int (fun _ _ => rfl)) pa_nil)) (pe_callB call_len_seq (by rfl) glen PySem.boot_len (pa_cons (pe_ix ix_list (pv 0) pe_int (fun _ _ => rfl)) pa_nil))) set_list))
          (pss_one (ps_ret (pe_op op_modN (pe_callTy call_int1 (by rfl) gint boot_int (pa_cons (pv 2) pa_nil)) (pv 1))))) pss_nil)
      (pss_cons (ps_asg (pe_op op_modN (pe_callTy call_int1 (by rfl) gint boot_int (pa_cons (pe_op op_add (pe_op op_add (pe_op op_mul (pe_ix ix_list (pv 0) pe_int (fun _ _ => rfl)) pe_int) (pe_op op_mul (pv 2) pe_int)) pe_int) pa_nil)) pe_int) (pg_sub (pv 0) pe_int set_list))
      (pss_cons (ps_asg (pe_op op_add (pe_ix ix_list (pv 0) pe_int (fun _ _ => rfl)) pe_int) (pg_sub (pv 0) pe_int set_list))
      (pss_one (ps_ret (pe_op op_modN (pe_callTy call_int1 (by rfl) gint boot_int (pa_cons (pe_op op_fdivN (pe_ix ix_list (pv 0) pe_int (fun _ _ => rfl)) pe_int) pa_nil)) (pv 1)))))))), ?_⟩
    refine ⟨_, rfl, b, _, 1, _, rfl, rfl, .inl (.inl hb), rfl, by show 1 ≤ sizeLine; decide, fun e1 he1 => ?_⟩
    have s1 := Same.new (Same.refl H) he1 (o := .lst [.int 0])
    refine ⟨l, e1, _, _, rfl, rfl, s1 _ _ hl, upd_same, Nat.le_trans (show _ ≤ 64 by rw [List.length_map]; exact Nat.succ_le_succ hlen) (by decide), fun e2 he2 => ?_⟩
    have s2 := Same.new (Same.refl _) he2 (o := .lst (ns.map V.int ++ [.int 0]))
    have s12 := s1.trans s2
    have hb2 := s12 _ _ hb
    have hl2 := s12 _ _ hl
    have hc2 : (upd (upd H e1 (.lst [.int 0])) e2 (.lst (ns.map V.int ++ [.int 0]))) e2 = some (.lst ((ns ++ [0]).map V.int)) := by
      rw [upd_same, List.map_append]
      rfl
    have K2 : Kp b l H _ := Kp.of s12
    generalize upd (upd H e1 (.lst [.int 0])) e2 (.lst (ns.map V.int ++ [.int 0])) = H2 at hb2 hl2 hc2 K2 ⊢
    clear s1 s2 s12
    have hD : ∃ D : Int, (if ((ns.map V.int).length : Int) > 1 then ((ns.map V.int).length : Int) else 1) = D ∧ 0 < D ∧ D ≤ (ns.length : Int) + 1 ∧ (ns ≠ [] → D = (ns.length : Int)) := by
      rw [List.length_map]
      refine ⟨_, rfl, ?_, ?_, ?_⟩
      · split <;> omega
      · split <;> omega
      · intro hne
        have : 1 ≤ ns.length := List.length_pos_iff.mpr hne
        split <;> omega
    obtain ⟨D, eD, D0, D1, D2⟩ := hD
    obtain ⟨v, hv1, hv2⟩ := atI_of (xs := (ns ++ [0]).map V.int) (n := kc % D) (Int.emod_nonneg _ (by omega)) (by
      have := Int.emod_lt_of_pos kc D0
      rw [List.length_map, List.length_append, List.length_singleton]
      omega)
    obtain ⟨cv, hcv, rfl⟩ := List.mem_map.mp hv2
    refine ⟨_, rfl, b, _, 2, _, rfl, rfl, .inl (.inl hb2), rfl, .inl ⟨_, rfl, _, rfl, b, _, 1, _, rfl, rfl, .inl (.inl hb2), rfl, l, _, rfl, .inl (.inl (.inl hl2)), _, _, rfl, ?_⟩⟩
    rw [eD]
    refine ⟨_, _, rfl, rfl, D0, e2, _, _, _, rfl, rfl, .inl (.inl hc2), hv1, ?_⟩
    refine ⟨_, rfl, _, _, rfl, rfl, ?_, _, _, rfl, rfl, _, rfl, ?_⟩
    · exact ⟨by decide, by decide⟩
    refine ite2 (fun hz => ?_) (fun hz => ?_)
    · have hge : (10 ^ 18 : Int) ≤ cv := of_decide_eq_true hz
      have hne : ns ≠ [] := fun e => by
        subst e
        simp at hcv
        omega
      have eD2 := D2 hne
      have l1 : 1 ≤ ns.length := List.length_pos_iff.mpr hne
      have i0 := Int.emod_nonneg kc (b := (ns.length : Int)) (by omega)
      have i1 := Int.emod_lt_of_pos kc (b := (ns.length : Int)) (by omega)
      have hix : ixN (ns.map V.int).length (kc % (ns.length : Int)) = some (kc % (ns.length : Int)).toNat := by
        unfold ixN
        rw [if_pos i0, if_pos (by rw [List.length_map]; exact i1)]
      refine ⟨_, rfl, _, rfl, _, _, rfl, rfl, ⟨(by show m ≠ 0; omega), (by show m.natAbs < 1073741824; omega)⟩, ?_⟩
      refine ⟨_, rfl, b, _, 1, _, rfl, rfl, .inl (.inl hb2), rfl, _, rfl, b, _, 2, _, rfl, rfl, .inl (.inl hb2), rfl, .inl ⟨_, rfl, _, rfl, b, _, 1, _, rfl, rfl, .inl (.inl hb2), rfl, l, _, rfl, .inl (.inl (.inl hl2)), ?_⟩⟩
      rw [List.length_map]
      refine ⟨_, _, rfl, rfl, (by show (0 : Int) < (ns.length : Int); omega), l, _, _, _, rfl, rfl, hl2, hix, ?_⟩
      refine ⟨_, rfl, .inl ⟨_, rfl, _, rfl, _, _, rfl, rfl, (by show m ≠ 0; omega), ?_⟩⟩
      refine k _ _ (fmod_pos hm0).1 (fmod_pos hm0).2 ⟨⟨ns.set (kc % (ns.length : Int)).toNat (cv.fdiv m), z, kc, ?_, ?_, ?_⟩⟩ (Kp.upd2 K2)
      · rw [upd_ne nbl]
        exact hb2
      · rw [upd_same, List.map_set]
      · rw [List.length_set]
        exact hlen
    · refine ⟨_, rfl, b, _, 0, _, rfl, rfl, .inl (.inl hb2), rfl, _, _, rfl, rfl, .inr ⟨by decide, by decide⟩, _, rfl, _, _, rfl, rfl, .inr ⟨by decide, by decide⟩, _, _, rfl, rfl, _, _, rfl, rfl, .inl ⟨_, rfl, _, _, rfl, rfl, (by show (2147483647 : Int) ≠ 0; decide), ?_⟩⟩
      refine ⟨_, rfl, b, _, 0, 0, rfl, rfl, hb2, rfl, ?_⟩
      refine ⟨_, rfl, b, _, 2, _, rfl, rfl, .inl (.inl upd_same), rfl, _, _, rfl, rfl, _, rfl, b, _, 2, 2, rfl, rfl, upd_same, rfl, ?_⟩
      refine ⟨_, rfl, b, _, 0, _, rfl, rfl, .inl (.inl upd_same), rfl, _, _, rfl, rfl, ⟨by decide, by decide⟩, .inl ⟨_, rfl, _, rfl, _, _, rfl, rfl, (by show m ≠ 0; omega), ?_⟩⟩
      refine k _ _ (fmod_pos hm0).1 (fmod_pos hm0).2 ⟨⟨ns, _, _, upd_same, ?_, hlen⟩⟩ (Kp.upd1 (Kp.upd1 K2))
      rw [upd_ne nbl.symm, upd_ne nbl.symm]
      exact hl2
end
end Om

namespace Om
open PySem PySem.Spec PyProof.Rows L2 LamX
/-! ### data without lists stay when the numbers are drawn -/
mutual
def noL : PyData → Bool
  | .list _ => false
  | .tuple ds => noLs ds
  | .dict _ => false
  | .none => true
  | .bool _ => true
  | .int _ => true
  | .str _ => true
def noLs : List PyData → Bool
  | [] => true
  | d :: r => noL d && noLs r
end
theorem SqT.kp {K : PySem.W.Frag} {H H' : Hp} {b l a : Addr} {xs : List V} (B : Bx H b l) (k : Kp b l H H') (h : SqT K H a xs) : SqT K H' a xs := by
  obtain ⟨ns, z, _, h1, h2, _⟩ := B.ex
  rcases h with (h | ⟨o, h⟩) | h
  · exact .inl (.inl (k _ _ h (ne_of h h1 fun e => by cases e) (ne_of h h2 fun e => by cases e)))
  · exact .inl (.inr ⟨o, k _ _ h (ne_of h h1 fun e => by cases e) (ne_of h h2 fun e => by cases e)⟩)
  · exact .inr h
theorem dp_noL {K : PySem.W.Frag} {H H' : Hp} {v : V} {d : PyData} (hS : ∀ a xs, SqT K H a xs → SqT K H' a xs) (hn : noL d = true) (h : Dp K H v d) : Dp K H' v d :=
  Dp.rec (motive_1 := fun v d _ => noL d = true → Dp K H' v d) (motive_2 := fun vs ds _ => noLs ds = true → DpAll K H' vs ds) (fun _ => .non) (fun b _ => .bl b) (fun i _ => .int i) (fun x _ => .str x)
    (fun _ _ _ hn => by simp [noL] at hn) (fun s _ ih hn => .tup (hS _ _ s) (ih (by simpa [noL] using hn))) (fun _ => .nil) (fun _ _ i1 i2 hn => by
      rw [noLs, Bool.and_eq_true] at hn
      exact .cons (i1 hn.1) (i2 hn.2)) h hn
theorem dpAll_noL {K : PySem.W.Frag} {H H' : Hp} : ∀ {vs : List V} {ds : List PyData} (hS : ∀ a xs, SqT K H a xs → SqT K H' a xs) (hn : noLs ds = true) (h : DpAll K H vs ds), DpAll K H' vs ds
  | [], [], _, _, .nil => .nil
  | _ :: _, _ :: _, hS, hn, .cons h t => by
    rw [noLs, Bool.and_eq_true] at hn
    exact .cons (dp_noL hS hn.1 h) (dpAll_noL hS hn.2 t)
theorem SqT.updL {K : PySem.W.Frag} {H : Hp} {D a : Addr} {xs ys zs : List V} (hD : H D = some (.lst ys)) (h : SqT K H a xs) : SqT K (upd H D (.lst zs)) a xs := by
  rcases h with (h | ⟨o, h⟩) | h
  · exact .inl (.inl (by rw [upd_ne (ne_of h hD fun e => by cases e)]; exact h))
  · exact .inl (.inr ⟨o, by rw [upd_ne (ne_of h hD fun e => by cases e)]; exact h⟩)
  · exact .inr h
theorem Bx.updL {H : Hp} {b l D : Addr} {ys : List V} (B : Bx H b l) (nb : D ≠ b) (nl : D ≠ l) : Bx (upd H D (.lst ys)) b l := by
  obtain ⟨u1, u2, u3, u4, u5, u6⟩ := B.ex
  exact ⟨u1, u2, u3, by rw [upd_ne nb.symm]; exact u4, by rw [upd_ne nl.symm]; exact u5, u6⟩
theorem Kp.updL {H H0 : Hp} {b l D : Addr} {ys : List V} (k : Kp b l H0 H) (hD : H0 D = none) : Kp b l H0 (upd H D (.lst ys)) := by
  intro x o hx n1 n2
  rw [upd_ne (ne_of_none hx hD)]
  exact k x o hx n1 n2
theorem Kp.ins {b l a C dx : Addr} {H H' : Hp} {fs : List (Str × V)} (k : Kp b l H H') (B : Bx H b l) (h : H a = some (.ins C dx fs)) : H' a = some (.ins C dx fs) := by
  obtain ⟨ns, z, _, h1, h2, _⟩ := id B.ex
  exact k _ _ h (ne_of h h1 fun e => by cases e) (ne_of h h2 fun e => by cases e)
theorem Isl.kp {K : PySem.W.Frag} {H H' : Hp} {CI a b l : Addr} {rows : List (List Nat)} (B : Bx H b l) (k : Kp b l H H') (h : Isl K CI H a rows) : Isl K CI H' a rows := by
  obtain ⟨dx, p, hp, hS⟩ := h
  exact ⟨dx, p, k.ins B hp, SqT.kp B k hS⟩
theorem noL_cells : ∀ cs : List (Nat × Nat), noLs (cs.map cdp) = true
  | [] => rfl
  | c :: r => by
    have ih := noL_cells r
    simp only [List.map_cons, noLs, cdp, noL, ih, Bool.and_self]
/-! ### _law_alike of two readings of the same data -/
theorem ixsK {X : Cx} {K : PySem.W.Frag} (hK : X.K = K) : IxR X (rIx K) := by
  subst hK
  exact ix_seq
theorem pss_no {X : Cx} {st : List Stmt} : PSs X st (fun _ _ _ => False) := ⟨fun _ _ _ _ _ _ h => False.elim h⟩
abbrev sAlike : Stmt := top 35
def spAlike (K : PySem.W.Frag) (n : Nat) : Sp := fun vs H Q _ => ∃ (x y : V) (d : PyData), vs = [x, y] ∧ Dp K H x d ∧ Dp K H y d ∧ okD n d = true ∧ ∀ H', Same H H' → Q (.bl true) H'
abbrev nAlike : List Str := ["_law_found", "_law_due", "_law_k"]
theorem scAlike : FnScope nAlike ["_law_found", "_law_due"] (defScope sAlike) := ⟨rfl, rfl, rfl, by decide +kernel, rfl, by decide +kernel, by decide +kernel⟩
def asgExpr (s : Stmt) : Expr := match s with
  | .Assign _ e _ => e
  | _ => .Constant .none 0 ⟨0, 0, 0, 0⟩
def noS : Stmt := .Pass ⟨0, 0, 0, 0⟩
def inIf (s : Stmt) (i : Nat) : Stmt := match s with
  | .If _ b _ _ => b.getD i noS
  | _ => noS
def inFor (s : Stmt) (i : Nat) : Stmt := match s with
  | .For _ _ b _ _ => b.getD i noS
  | _ => noS
def cmpL (e : Expr) : Expr := match e with
  | .Compare a _ _ _ => a
  | _ => .Constant .none 0 ⟨0, 0, 0, 0⟩
def alLc : Expr := cmpL (retExpr (inIf ((defBody sAlike).getD 1 noS) 2))
theorem blkAl : BlkOk nAlike (defScope sAlike) (lcScope alLc) [("_law_k", 2)] := blkOk_by (by decide +kernel)
theorem kit2 {K : PySem.W.Frag} {a : String} {r1 r2 : Bool} (h1 : kitB a "tuple" = some r1) (h2 : kitB a "list" = some r2) : PySem.W.kitAny K (.type a) [.type "tuple", .type "list"] = some (r1 || r2) := by
  have k1 : PySem.W.kitOne K (.type a) (.type "tuple") = some r1 := kit_ty h1
  have k2 : PySem.W.kitOne K (.type a) (.type "list") = some r2 := kit_ty h2
  refine kitAny_cons k1 (fun e => ?_) (fun e => by rw [e]; rfl)
  subst e
  refine kitAny_cons k2 (fun e => by rw [e]; exact kitAny_nil) (fun e => by rw [e]; rfl)
section
variable {P : Program} {w : World} {K : PySem.W.Frag} {mg : Str → Option Value} {base : Heap}
theorem ok_alike {f : Addr} {fd : FuncData} (F : FnP K "_law_alike" "_law_alike" sAlike f fd) (hg : mg "_law_alike" = some (.ref f)) (hk : PySem.W.keepIn K (.ref f) = true) (hb : Binds K fd ["_law_found", "_law_due"] [])
    (gisi : mg "isinstance" = none) (gint : mg "int" = none) (gbool : mg "bool" = none) (gstr : mg "str" = none) (gtuple : mg "tuple" = none) (glist : mg "list" = none) (gdict : mg "dict" = none) (glen : mg "len" = none) (grange : mg "range" = none) :
    ∀ n, FnOk P w K mg base CX0 (n + 1) f fd ["_law_found", "_law_due"] (spAlike K n) := by
  intro n
  induction n with
  | zero =>
    refine F.ok scAlike (fun vs H Q E h => ?_) (fun cdv A outer s H vs Q E hr h => ?_)
    · obtain ⟨x, y, d, _, _, _, h, _⟩ := h
      cases h
    · obtain ⟨x, y, d, _, _, _, h, _⟩ := h
      cases h
  | succ n ih =>
    have G : Cal P w K mg base CX0 (n + 1) "_law_alike" ["_law_found", "_law_due"] (spAlike K n) := ⟨_, _, ih, hg, hk, hb⟩
    refine F.ok scAlike (fun vs H Q E h => ?_) (fun cdv A outer s H vs Q E hr h => ?_)
    · obtain ⟨x, y, d, rfl, _⟩ := h
      rfl
    · obtain ⟨x, y, d, rfl, hx, hy, ok, k⟩ := h
      have nd := scAlike.nd
      refine ⟨_, PSs.nox (pss_cons (ps_if (pt_val (pe_callB call_isi (by rfl) gisi (by decide +kernel) (pa_cons (pv 1) (pa_cons (pe_bltn (v := .ty "dict") (by rfl) gdict (by decide +kernel) rfl) pa_nil)))) pss_no pss_nil)
        (pss_cons (ps_if (pt_val (pe_callB call_isiT (by rfl) gisi (by decide +kernel) (pa_cons (pv 1) (pa_cons (pe_tup (pa_cons (pe_bltn (v := .ty "tuple") (by rfl) gtuple (by decide +kernel) rfl) (pa_cons (pe_bltn (v := .ty "list") (by rfl) glist (by decide +kernel) rfl) pa_nil))) pa_nil))))
            (pss_cons (ps_if (PW.pt (pw_or (pt_not (pt_val (pe_callB call_isiT (by rfl) gisi (by decide +kernel) (pa_cons (pv 0) (pa_cons (pe_tup (pa_cons (pe_bltn (v := .ty "tuple") (by rfl) gtuple (by decide +kernel) rfl) (pa_cons (pe_bltn (v := .ty "list") (by rfl) glist (by decide +kernel) rfl) pa_nil))) pa_nil)))))
                  (pw_or1 (pt_cmpR op_ne (pe_callB call_isi (by rfl) gisi (by decide +kernel) (pa_cons (pv 0) (pa_cons (pe_bltn (v := .ty "list") (by rfl) glist (by decide +kernel) rfl) pa_nil))) (pe_callB call_isi (by rfl) gisi (by decide +kernel) (pa_cons (pv 1) (pa_cons (pe_bltn (v := .ty "list") (by rfl) glist (by decide +kernel) rfl) pa_nil))) (nomark _))))) (pss_one (ps_ret pe_bl)) pss_nil)
            (pss_cons (ps_if (pt_cmpR op_ne (pe_callB call_len_seq (by rfl) glen PySem.boot_len (pa_cons (pv 0) pa_nil)) (pe_callB call_len_seq (by rfl) glen PySem.boot_len (pa_cons (pv 1) pa_nil)) (nomark _)) (pss_one (ps_ret pe_bl)) pss_nil)
            (pss_one (ps_ret (pe_cmpR (op_eqD hr.units) (pe_lc (own := [("_law_k", 2)]) (g := gName 2) rfl nd (pi_range1 rfl grange (pa_cons (pe_callB call_len_seq (by rfl) glen PySem.boot_len (pa_cons (pv 1) pa_nil)) pa_nil)) blkAl (fun _ _ _ _ _ => pg_name (i := 2) nd rfl (.inl rfl))
                (fun _ _ _ _ _ => pts_one (pt_not (pt_val (pe_cal G hr pass0 (pa_cons (pe_ix (ixsK (K := K) rfl) (pv 0) (pv 2) (fun _ _ => rfl)) (pa_cons (pe_ix (ixsK (K := K) rfl) (pv 1) (pv 2) (fun _ _ => rfl)) pa_nil)))))) (fun _ _ _ _ _ => pv 2)) (pe_lst pa_nil) (nomark _)))))) pss_nil)
        (pss_cons (ps_if (PW.pt (pw_or (pt_cmpR op_isN (pv 1) pe_non (nomark _)) (pw_or1 (pt_val (pe_callB call_isi (by rfl) gisi (by decide +kernel) (pa_cons (pv 1) (pa_cons (pe_bltn (v := .ty "str") (by rfl) gstr (by decide +kernel) rfl) pa_nil)))))))
            (pss_one (ps_ret (pe_and (pe_cmpR (op_eqD hr.units) (pv 0) (pv 1) (nomark _)) (pe_one (pe_cmpR op_eq (pe_callB call_isi (by rfl) gisi (by decide +kernel) (pa_cons (pv 0) (pa_cons (pe_bltn (v := .ty "str") (by rfl) gstr (by decide +kernel) rfl) pa_nil)))
              (pe_callB call_isi (by rfl) gisi (by decide +kernel) (pa_cons (pv 1) (pa_cons (pe_bltn (v := .ty "str") (by rfl) gstr (by decide +kernel) rfl) pa_nil))) (nomark _)))))) pss_nil)
        (pss_one (ps_ret (pe_and (pe_callB call_isi (by rfl) gisi (by decide +kernel) (pa_cons (pv 0) (pa_cons (pe_bltn (v := .ty "int") (by rfl) gint boot_int rfl) pa_nil)))
          (pe_and (pe_cmpR op_eq (pe_callB call_isi (by rfl) gisi (by decide +kernel) (pa_cons (pv 0) (pa_cons (pe_bltn (v := .ty "bool") (by rfl) gbool (by decide +kernel) rfl) pa_nil))) (pe_callB call_isi (by rfl) gisi (by decide +kernel) (pa_cons (pv 1) (pa_cons (pe_bltn (v := .ty "bool") (by rfl) gbool (by decide +kernel) rfl) pa_nil))) (nomark _))
            (pe_one (pe_cmpR (op_eqD hr.units) (pv 0) (pv 1) (nomark _)))))))))), ?_⟩
      have kt : ∀ {a b : String} {r : Bool}, kitB a b = some r → PySem.W.kitOne K (.type a) (.type b) = some r := fun h => kit_ty h
      have pr : Paired ClsV [V.ty "tuple", V.ty "list"] [.type "tuple", .type "list"] := .cons (.ty _) (.cons (.ty _) .nil)
      have tup_new : ∀ {H : Hp} {T : Addr}, H T = none → Same H (upd H T (.tup [.ty "tuple", .ty "list"])) := fun h => Same.new (Same.refl _) h
      -- the items one by one
      have items : ∀ (xs ys : List V) (ds : List PyData), DpAll K H xs ds → DpAll K H ys ds → ds.all (okD n) = true →
          ∀ i, i < ys.length → ∃ v u, xs[i]? = some v ∧ ys[i]? = some u ∧ ∃ e, Dp K H v e ∧ Dp K H u e ∧ okD n e = true := fun xs ys ds h1 h2 h3 i hi => by
        have hl := dpAll_len h2
        have hi2 : i < ds.length := by omega
        have he : ds[i]? = some ds[i] := by simp [hi2]
        obtain ⟨v, a1, a2⟩ := dpAll_at h1 he
        obtain ⟨u, b1, b2⟩ := dpAll_at h2 he
        exact ⟨v, u, a1, b1, _, a2, b2, List.all_eq_true.mp h3 _ (List.getElem_mem hi2)⟩
      cases d with
      | none =>
        cases hx
        cases hy
        refine ⟨_, rfl, _, _, _, _, _, rfl, .ty "dict", dp_ty .non, kt (a := "NoneType") (r := false) (by decide +kernel), false, rfl, iteF ?_⟩
        refine ⟨_, rfl, by show 2 ≤ sizeLine; decide, fun T hT => ⟨_, T, _, _, _, _, rfl, upd_same, pr, dp_ty .non, kit2 (a := "NoneType") (r1 := false) (r2 := false) (by decide +kernel) (by decide +kernel), false, rfl, iteF ?_⟩⟩
        have s1 := tup_new hT
        refine ⟨_, rfl, rfl, _, rfl, iteT' (decide_eq_true rfl) (iteT' rfl ?_)⟩
        refine ⟨_, rfl, _, rfl, .none, .none, .non, .non, rfl, rfl, true, rfl, iteT ?_⟩
        refine ⟨_, rfl, _, _, _, _, _, rfl, .ty "str", dp_ty .non, kt (a := "NoneType") (r := false) (by decide +kernel), _, rfl, _, _, _, _, _, rfl, .ty "str", dp_ty .non, kt (a := "NoneType") (r := false) (by decide +kernel), rfl, ?_⟩
        rw [decide_eq_true (rfl : V.bl false = V.bl false)]
        exact k _ s1
      | dict kvs => cases ok
      | bool b =>
        cases hx
        cases hy
        refine ⟨_, rfl, _, _, _, _, _, rfl, .ty "dict", dp_ty (.bl b), kt (a := "bool") (r := false) (by decide +kernel), false, rfl, iteF ?_⟩
        refine ⟨_, rfl, by show 2 ≤ sizeLine; decide, fun T hT => ⟨_, T, _, _, _, _, rfl, upd_same, pr, dp_ty (.bl b), kit2 (a := "bool") (r1 := false) (r2 := false) (by decide +kernel) (by decide +kernel), false, rfl, iteF ?_⟩⟩
        have s1 := tup_new hT
        refine ⟨_, rfl, rfl, _, rfl, iteF' (decide_eq_false (fun e => by cases e)) ?_⟩
        refine ⟨_, rfl, _, _, _, _, _, rfl, .ty "str", dp_ty (.bl b), kt (a := "bool") (r := false) (by decide +kernel), false, rfl, iteF' rfl ?_⟩
        refine ⟨_, rfl, _, _, _, _, _, rfl, .ty "int", dp_ty (.bl b), kt (a := "bool") (r := true) (by decide +kernel), true, rfl, iteT ?_⟩
        refine ⟨_, rfl, _, _, _, _, _, rfl, .ty "bool", dp_ty (.bl b), kt (a := "bool") (r := true) (by decide +kernel), _, rfl, _, _, _, _, _, rfl, .ty "bool", dp_ty (.bl b), kt (a := "bool") (r := true) (by decide +kernel), rfl, _, rfl, iteT' (decide_eq_true rfl) ?_⟩
        refine ⟨_, rfl, _, rfl, _, _, .bl b, .bl b, rfl, rfl, ?_⟩
        rw [PySem.SeqAt.eqv_refl (.bool b) rfl]
        exact k _ s1
      | int i =>
        cases hx
        cases hy
        refine ⟨_, rfl, _, _, _, _, _, rfl, .ty "dict", dp_ty (.int i), kt (a := "int") (r := false) (by decide +kernel), false, rfl, iteF ?_⟩
        refine ⟨_, rfl, by show 2 ≤ sizeLine; decide, fun T hT => ⟨_, T, _, _, _, _, rfl, upd_same, pr, dp_ty (.int i), kit2 (a := "int") (r1 := false) (r2 := false) (by decide +kernel) (by decide +kernel), false, rfl, iteF ?_⟩⟩
        have s1 := tup_new hT
        refine ⟨_, rfl, rfl, _, rfl, iteF' (decide_eq_false (fun e => by cases e)) ?_⟩
        refine ⟨_, rfl, _, _, _, _, _, rfl, .ty "str", dp_ty (.int i), kt (a := "int") (r := false) (by decide +kernel), false, rfl, iteF' rfl ?_⟩
        refine ⟨_, rfl, _, _, _, _, _, rfl, .ty "int", dp_ty (.int i), kt (a := "int") (r := true) (by decide +kernel), true, rfl, iteT ?_⟩
        refine ⟨_, rfl, _, _, _, _, _, rfl, .ty "bool", dp_ty (.int i), kt (a := "int") (r := false) (by decide +kernel), _, rfl, _, _, _, _, _, rfl, .ty "bool", dp_ty (.int i), kt (a := "int") (r := false) (by decide +kernel), rfl, _, rfl, iteT' (decide_eq_true rfl) ?_⟩
        refine ⟨_, rfl, _, rfl, _, _, .int i, .int i, rfl, rfl, ?_⟩
        rw [PySem.SeqAt.eqv_refl (.int i) rfl]
        exact k _ s1
      | str z =>
        cases hx
        cases hy
        have hz : PyData.strOk z = true := ok
        have lay : PyData.canLay0 (.str z) = true := by simp only [PyData.canLay0]; exact hz
        have sh : SeqAt.shaped (.str z) = true := shaped_of lay (by simp [PyData.depth])
        refine ⟨_, rfl, _, _, _, _, _, rfl, .ty "dict", dp_ty (.str z), kt (a := "str") (r := false) (by decide +kernel), false, rfl, iteF ?_⟩
        refine ⟨_, rfl, by show 2 ≤ sizeLine; decide, fun T hT => ⟨_, T, _, _, _, _, rfl, upd_same, pr, dp_ty (.str z), kit2 (a := "str") (r1 := false) (r2 := false) (by decide +kernel) (by decide +kernel), false, rfl, iteF ?_⟩⟩
        have s1 := tup_new hT
        refine ⟨_, rfl, rfl, _, rfl, iteF' (decide_eq_false (fun e => by cases e)) ?_⟩
        refine ⟨_, rfl, _, _, _, _, _, rfl, .ty "str", dp_ty (.str z), kt (a := "str") (r := true) (by decide +kernel), true, rfl, iteT' rfl ?_⟩
        refine ⟨_, rfl, _, rfl, _, _, .str z, .str z, sh, sh, ?_⟩
        rw [PySem.SeqAt.eqv_refl (.str z) lay]
        refine ⟨true, rfl, iteT ?_⟩
        refine ⟨_, rfl, _, _, _, _, _, rfl, .ty "str", dp_ty (.str z), kt (a := "str") (r := true) (by decide +kernel), _, rfl, _, _, _, _, _, rfl, .ty "str", dp_ty (.str z), kt (a := "str") (r := true) (by decide +kernel), rfl, ?_⟩
        rw [decide_eq_true (rfl : V.bl true = V.bl true)]
        exact k _ s1
      | list ds =>
        cases hx with
        | lst sx ax =>
          rename_i a xs
          cases hy with
          | lst sy ay =>
            rename_i b ys
            have ok2 : (decide (ds.length ≤ 10000) && ds.all (okD n)) = true := ok
            obtain ⟨o1, o2⟩ := Bool.and_eq_true_iff.mp ok2
            have it := items xs ys ds ax ay o2
            have lx : xs.length = ys.length := by rw [dpAll_len ax, dpAll_len ay]
            have lb1 : ys.length ≤ 10000 := by
              rw [dpAll_len ay]
              exact of_decide_eq_true o1
            refine ⟨_, rfl, _, _, _, _, _, rfl, .ty "dict", sqL_ty sy, kt (a := "list") (r := false) (by decide +kernel), false, rfl, iteF ?_⟩
            refine ⟨_, rfl, by show 2 ≤ sizeLine; decide, fun T hT => ?_⟩
            have s1 := tup_new hT
            refine ⟨_, T, _, _, _, _, rfl, upd_same, pr, sqL_ty (Same.lst s1 sy), kit2 (a := "list") (r1 := false) (r2 := true) (by decide +kernel) (by decide +kernel), true, rfl, iteT ?_⟩
            generalize upd H T (.tup [.ty "tuple", .ty "list"]) = H1 at s1 ⊢
            refine ⟨_, rfl, by show 2 ≤ sizeLine; decide, fun T2 hT2 => ?_⟩
            have s2 := tup_new hT2
            have s12 := s1.trans s2
            refine ⟨_, T2, _, _, _, _, rfl, upd_same, pr, sqL_ty (Same.lst s12 sx), kit2 (a := "list") (r1 := false) (r2 := true) (by decide +kernel) (by decide +kernel), true, rfl, iteF' rfl ?_⟩
            generalize upd H1 T2 (.tup [.ty "tuple", .ty "list"]) = H2 at s12 ⊢
            have ll := kt (a := "list") (b := "list") (r := true) (by decide +kernel)
            refine ⟨_, rfl, _, _, _, _, _, rfl, .ty "list", sqL_ty (Same.lst s12 sx), ll, _, rfl, _, _, _, _, _, rfl, .ty "list", sqL_ty (Same.lst s12 sy), ll, rfl, _, rfl, iteF' (by rw [decide_eq_true rfl]; rfl) ?_⟩
            refine ⟨_, rfl, a, xs, rfl, .inl (Same.lst s12 sx), _, rfl, b, ys, rfl, .inl (Same.lst s12 sy), rfl, _, rfl, iteF' (by rw [lx, decide_eq_true rfl]; rfl) ?_⟩
            refine ⟨_, rfl, b, ys, rfl, .inl (Same.lst s12 sy), _, rfl, by omega, by omega, fun D hD => ?_⟩
            refine lc_range (lo := 0) (n := ((ys.length : Nat) : Int).toNat) (fun i H' => H' D = some (.lst []) ∧ Same H2 H') ⟨upd_same, Same.new (Same.refl _) hD⟩ ?_ ?_
            · rintro i H3 hi ⟨g1, g2⟩
              have s3 := s12.trans g2
              obtain ⟨v, u, h1, h2, e, d1, d2, d3⟩ := it i (by omega)
              have e1 : atI xs (0 + ((i : Nat) : Int)) = some v := by rw [Int.zero_add]; exact atI_nat h1
              have e2 : atI ys (0 + ((i : Nat) : Int)) = some u := by rw [Int.zero_add]; exact atI_nat h2
              refine ⟨rfl, ?_⟩
              refine ⟨_, rfl, _, rfl, .inl ⟨a, xs, _, v, rfl, rfl, Same.lst s3 sx, e1, _, rfl, _, rfl, .inl ⟨b, ys, _, u, rfl, rfl, Same.lst s3 sy, e2, ?_⟩⟩⟩
              exact ⟨v, u, e, rfl, Same.dp s3 d1, Same.dp s3 d2, d3, fun H4 s4 => ⟨true, rfl, iteF' rfl ⟨s4 _ _ g1, g2.trans s4⟩⟩⟩
            · rintro H3 ⟨g1, g2⟩
              refine ⟨by show 0 ≤ sizeLine; decide, fun e0 he0 => ?_⟩
              have s4 := Same.new (Same.refl H3) he0 (o := .lst [])
              refine ⟨.list [], .list [], .lst (.inl (.inl (s4 _ _ g1))) .nil, .lst (.inl (.inl upd_same)) .nil, shaped_nil, shaped_nil, ?_⟩
              rw [PySem.SeqAt.eqv_refl (.list []) (by simp [PyData.canLay0, PyData.canLayAll0])]
              exact k _ ((s12.trans g2).trans s4)
      | tuple ds =>
        cases hx with
        | tup sx ax =>
          rename_i a xs
          cases hy with
          | tup sy ay =>
            rename_i b ys
            have ok2 : (decide (ds.length ≤ 10000) && ds.all (okD n)) = true := ok
            obtain ⟨o1, o2⟩ := Bool.and_eq_true_iff.mp ok2
            have it := items xs ys ds ax ay o2
            have lx : xs.length = ys.length := by rw [dpAll_len ax, dpAll_len ay]
            have lb1 : ys.length ≤ 10000 := by
              rw [dpAll_len ay]
              exact of_decide_eq_true o1
            refine ⟨_, rfl, _, _, _, _, _, rfl, .ty "dict", sqT_ty sy, kt (a := "tuple") (r := false) (by decide +kernel), false, rfl, iteF ?_⟩
            refine ⟨_, rfl, by show 2 ≤ sizeLine; decide, fun T hT => ?_⟩
            have s1 := tup_new hT
            refine ⟨_, T, _, _, _, _, rfl, upd_same, pr, sqT_ty (Same.tup s1 sy), kit2 (a := "tuple") (r1 := true) (r2 := false) (by decide +kernel) (by decide +kernel), true, rfl, iteT ?_⟩
            generalize upd H T (.tup [.ty "tuple", .ty "list"]) = H1 at s1 ⊢
            refine ⟨_, rfl, by show 2 ≤ sizeLine; decide, fun T2 hT2 => ?_⟩
            have s2 := tup_new hT2
            have s12 := s1.trans s2
            refine ⟨_, T2, _, _, _, _, rfl, upd_same, pr, sqT_ty (Same.tup s12 sx), kit2 (a := "tuple") (r1 := true) (r2 := false) (by decide +kernel) (by decide +kernel), true, rfl, iteF' rfl ?_⟩
            generalize upd H1 T2 (.tup [.ty "tuple", .ty "list"]) = H2 at s12 ⊢
            have ll := kt (a := "tuple") (b := "list") (r := false) (by decide +kernel)
            refine ⟨_, rfl, _, _, _, _, _, rfl, .ty "list", sqT_ty (Same.tup s12 sx), ll, _, rfl, _, _, _, _, _, rfl, .ty "list", sqT_ty (Same.tup s12 sy), ll, rfl, _, rfl, iteF' (by rw [decide_eq_true rfl]; rfl) ?_⟩
            refine ⟨_, rfl, a, xs, rfl, .inr (Same.tup s12 sx), _, rfl, b, ys, rfl, .inr (Same.tup s12 sy), rfl, _, rfl, iteF' (by rw [lx, decide_eq_true rfl]; rfl) ?_⟩
            refine ⟨_, rfl, b, ys, rfl, .inr (Same.tup s12 sy), _, rfl, by omega, by omega, fun D hD => ?_⟩
            refine lc_range (lo := 0) (n := ((ys.length : Nat) : Int).toNat) (fun i H' => H' D = some (.lst []) ∧ Same H2 H') ⟨upd_same, Same.new (Same.refl _) hD⟩ ?_ ?_
            · rintro i H3 hi ⟨g1, g2⟩
              have s3 := s12.trans g2
              obtain ⟨v, u, h1, h2, e, d1, d2, d3⟩ := it i (by omega)
              have e1 : atI xs (0 + ((i : Nat) : Int)) = some v := by rw [Int.zero_add]; exact atI_nat h1
              have e2 : atI ys (0 + ((i : Nat) : Int)) = some u := by rw [Int.zero_add]; exact atI_nat h2
              refine ⟨rfl, ?_⟩
              refine ⟨_, rfl, _, rfl, .inr (.inl ⟨a, xs, _, v, rfl, rfl, Same.tup s3 sx, e1, _, rfl, _, rfl, .inr (.inl ⟨b, ys, _, u, rfl, rfl, Same.tup s3 sy, e2, ?_⟩)⟩)⟩
              exact ⟨v, u, e, rfl, Same.dp s3 d1, Same.dp s3 d2, d3, fun H4 s4 => ⟨true, rfl, iteF' rfl ⟨s4 _ _ g1, g2.trans s4⟩⟩⟩
            · rintro H3 ⟨g1, g2⟩
              refine ⟨by show 0 ≤ sizeLine; decide, fun e0 he0 => ?_⟩
              have s4 := Same.new (Same.refl H3) he0 (o := .lst [])
              refine ⟨.list [], .list [], .lst (.inl (.inl (s4 _ _ g1))) .nil, .lst (.inl (.inl upd_same)) .nil, shaped_nil, shaped_nil, ?_⟩
              rw [PySem.SeqAt.eqv_refl (.list []) (by simp [PyData.canLay0, PyData.canLayAll0])]
              exact k _ ((s12.trans g2).trans s4)
end
end Om

namespace Om
open PySem PySem.Spec PyProof.Rows L2 LamX
/-! ### signs at places -/
def sg2 (rows : List (List Nat)) (i j : Nat) : Nat := (rows.getD i []).getD j 0
structure Rect (rows : List (List Nat)) (h w : Nat) : Prop where
  len : rows.length = h
  row : ∀ r ∈ rows, r.length = w
theorem rect_getD {rows : List (List Nat)} {h w : Nat} (R : Rect rows h w) {i : Nat} (hi : i < h) : rows.getD i [] ∈ rows ∧ (rows.getD i []).length = w := by
  have hi2 : i < rows.length := by rw [R.len]; exact hi
  have e : rows.getD i [] = rows[i] := by rw [List.getD_eq_getElem?_getD, List.getElem?_eq_getElem hi2, Option.getD_some]
  rw [e]
  exact ⟨List.getElem_mem hi2, R.row _ (List.getElem_mem hi2)⟩
/-! ### cells -/
theorem cells_mem (rows : List (List Nat)) (a b : Nat) : (a, b) ∈ cellsOf rows ↔ a < rows.length ∧ b < (rows.getD a []).length ∧ sg2 rows a b ≠ 126 := by
  unfold cellsOf cellsTo rowCells sg2
  simp only [List.mem_flatMap, List.mem_range, List.mem_map, List.mem_filter, Bool.not_eq_true', decide_eq_false_iff_not, Prod.mk.injEq]
  constructor
  · rintro ⟨i, hi, j, ⟨hj1, hj2⟩, rfl, rfl⟩
    exact ⟨hi, hj1, hj2⟩
  · rintro ⟨h1, h2, h3⟩
    exact ⟨a, h1, b, ⟨h2, h3⟩, rfl, rfl⟩
theorem eqv_cell (c : Nat × Nat) (i j : Int) : PyData.eqv (cdp c) (.tuple [.int i, .int j]) = (decide (((c.1 : Nat) : Int) = i) && decide (((c.2 : Nat) : Int) = j)) := by
  simp only [cdp, PyData.eqv, PyData.eqvAll, Bool.and_true]
  rfl
theorem cells_any {rows : List (List Nat)} (g : Good2 rows) (i j : Int) : (((cellsOf rows).map cdp).any fun z => PyData.eqv z (.tuple [.int i, .int j])) = hasC rows i j := by
  rw [Bool.eq_iff_iff, List.any_map, List.any_eq_true]
  constructor
  · rintro ⟨⟨a, b⟩, hm, h⟩
    have h : PyData.eqv (cdp (a, b)) (.tuple [.int i, .int j]) = true := h
    rw [eqv_cell, Bool.and_eq_true, decide_eq_true_eq, decide_eq_true_eq] at h
    obtain ⟨rfl, rfl⟩ := h
    obtain ⟨h1, h2, h3⟩ := (cells_mem rows a b).mp hm
    have hl := g.rect _ (rect_getD (h := rows.length) (w := (rows.headD []).length) ⟨rfl, g.rect⟩ h1).1
    unfold hasC insd inR sgAt
    simp only [Int.toNat_natCast, Bool.and_eq_true, decide_eq_true_eq, Bool.not_eq_true', decide_eq_false_iff_not]
    exact ⟨by omega, h3⟩
  · intro h
    unfold hasC insd inR sgAt at h
    simp only [Bool.and_eq_true, decide_eq_true_eq, Bool.not_eq_true', decide_eq_false_iff_not] at h
    obtain ⟨⟨⟨h1, h2⟩, h3, h4⟩, h5⟩ := h
    have hl := g.rect _ (rect_getD (h := rows.length) (w := (rows.headD []).length) ⟨rfl, g.rect⟩ (i := i.toNat) (by omega)).1
    refine ⟨(i.toNat, j.toNat), (cells_mem rows _ _).mpr ⟨by omega, by omega, h5⟩, ?_⟩
    show PyData.eqv (cdp (i.toNat, j.toNat)) (.tuple [.int i, .int j]) = true
    rw [eqv_cell, Bool.and_eq_true, decide_eq_true_eq, decide_eq_true_eq]
    exact ⟨by show ((i.toNat : Nat) : Int) = i; omega, by show ((j.toNat : Nat) : Int) = j; omega⟩
theorem lay_cells (cs : List (Nat × Nat)) : PyData.canLayAll0 (cs.map cdp) = true := by
  induction cs with
  | nil => simp [PyData.canLayAll0]
  | cons c r ih => simp only [List.map_cons, PyData.canLayAll0, cdp, PyData.canLay0, ih, Bool.and_self]
theorem dep_cells (cs : List (Nat × Nat)) : PyData.depthAll (cs.map cdp) ≤ 1 := by
  induction cs with
  | nil => simp [PyData.depthAll]
  | cons c r ih => simp [PyData.depthAll, cdp, PyData.depth]; omega
theorem sh_cells (cs : List (Nat × Nat)) : SeqAt.shaped (.list (cs.map cdp)) = true := shaped_of (by simp only [PyData.canLay0]; exact lay_cells cs) (by have := dep_cells cs; simp only [PyData.depth]; omega)
theorem sh_pair (i j : Int) : SeqAt.shaped (.tuple [.int i, .int j]) = true := shaped_of (by simp [PyData.canLay0, PyData.canLayAll0]) (by simp [PyData.depth, PyData.depthAll])
theorem eqv_pair (i j : Int) : PyData.eqv (.tuple [.int i, .int j]) (.tuple [.int i, .int j]) = true := PySem.SeqAt.eqv_refl _ (by simp [PyData.canLay0, PyData.canLayAll0])
/-! ### rules, what digs tell -/
inductive Rl where
  | plain
  | rows
  | near (m : Nat)
def Rl.vs : Rl → List V
  | .plain => [.str "plain"]
  | .rows => [.str "rows"]
  | .near m => [.str "near", .int (m : Nat)]
def Rl.ds : Rl → List PyData
  | .plain => [.str "plain"]
  | .rows => [.str "rows"]
  | .near m => [.str "near", .int (m : Nat)]
def Rl.d (r : Rl) : PyData := .tuple r.ds
def iabs (i : Int) : Int := if i < 0 then -i else i
abbrev Cell := Nat × Nat
def cvs (c : Cell) : List V := [.int (c.1 : Nat), .int (c.2 : Nat)]
def away (c p : Cell) : Int := iabs ((c.1 : Int) - (p.1 : Int)) + iabs ((c.2 : Int) - (p.2 : Int))
def toldR (a b : Nat) : Str := if b = a then "level" else if b < a then "north" else "south"
def told (r : Rl) (c p : Cell) : Str := if c = p then "found" else match r with
  | .plain => "empty"
  | .rows => toldR c.1 p.1
  | .near m => if away c p ≤ (m : Int) then "near" else "far"
theorem cell_dp {K : PySem.W.Frag} {H : Hp} {a : Addr} {c : Cell} (h : SqT K H a (cvs c)) : Dp K H (.ref a) (cdp c) := .tup h (.cons (.int _) (.cons (.int _) .nil))
theorem cell_at {K : PySem.W.Frag} {H : Hp} {v : V} {c : Cell} (h : Dp K H v (cdp c)) : ∃ a, v = .ref a ∧ SqT K H a (cvs c) := by
  unfold cdp at h
  cases h with
  | tup s t =>
    cases t with
    | cons h1 t =>
      cases h1
      cases t with
      | cons h2 t =>
        cases h2
        cases t
        exact ⟨_, rfl, s⟩
theorem eqv_cells (c p : Cell) : PyData.eqv (cdp c) (cdp p) = decide (c = p) := by
  have z := eqv_cell c (p.1 : Nat) (p.2 : Nat)
  show PyData.eqv (cdp c) (.tuple [.int (p.1 : Nat), .int (p.2 : Nat)]) = _
  rw [z, Bool.eq_iff_iff]
  simp only [Bool.and_eq_true, decide_eq_true_eq, Int.natCast_inj]
  constructor
  · rintro ⟨h1, h2⟩
    exact Prod.ext h1 h2
  · rintro rfl
    exact ⟨rfl, rfl⟩
theorem sh_cell (c : Cell) : SeqAt.shaped (cdp c) = true := sh_pair _ _
/-- which words a rule knows -/
def words : Rl → List Str
  | .plain => ["found", "empty"]
  | .rows => ["found", "north", "south", "level"]
  | .near _ => ["found", "near", "far"]
theorem told_mem (r : Rl) (c p : Cell) : told r c p ∈ words r := by
  unfold told
  split
  · cases r <;> simp [words]
  · cases r with
    | plain => simp [words]
    | rows =>
      show toldR _ _ ∈ _
      unfold toldR
      split
      · simp [words]
      · split <;> simp [words]
    | near m =>
      show (if _ then _ else _ : Str) ∈ _
      split <;> simp [words]
/-! ### x in (a written tuple of data) -/
def rInT (K : PySem.W.Frag) : R2 := fun x y H Q => ∃ d ds, Dp K H x d ∧ Dp K H y (.tuple ds) ∧ SeqAt.shaped d = true ∧ SeqAt.shaped (.tuple ds) = true ∧ Q (.bl (ds.any fun z => PyData.eqv z d)) H
theorem op_inT {X : Cx} (hu : X.A.units + 65 < cLine) : OpR X (compareOp .In) (rInT X.K) := by
  intro pins s σ H x y v u Q I rx ry h
  obtain ⟨d, ds, hd, he, sd, se, q⟩ := h
  obtain ⟨as, r1⟩ := Dp.reads I d x v hd rx
  obtain ⟨bs, r2⟩ := Dp.reads I (.tuple ds) y u he ry
  exact SeqAt.in_tuple_reads r2 r1 (SeqAt.canLay_of_shaped se) (SeqAt.canLay_of_shaped sd) (room_in_shaped sd hu) ⟨.bl _, H, I, rfl, q⟩
end Om

namespace Om
open PySem PySem.Spec PyProof.Rows L2 LamX
/-! ### ''.join(..).replace(y, z) -/
section
variable {X : Cx} {e : Expr} {te : TE} {a y z : Str} {i j k : Nat} {cp c0 c1 apos pos apos1 pos1 : Pos}
theorem pe_joinRepl (he : PE X e te) (hyz : (y == z) = false) (hs1 : starEach [e] X.env = [(false, eval e X.env)] := by rfl)
    (hst : starEach [.Constant (.str y) j c0, .Constant (.str z) k c1] X.env = [(false, eval (.Constant (.str y) j c0) X.env), (false, eval (.Constant (.str z) k c1) X.env)] := by rfl)
    (hb1 : attributeBase (.Constant (.str a) i cp) "join" X.env (eval (.Constant (.str a) i cp) X.env) = eval (.Constant (.str a) i cp) X.env := by rfl) (hl1 : (apos1.endLine == pos1.line) = true := by rfl)
    (hb2 : attributeBase (.Call (.Attribute (.Constant (.str a) i cp) "join" apos1) [e] [] pos1) "replace" X.env (eval (.Call (.Attribute (.Constant (.str a) i cp) "join" apos1) [e] [] pos1) X.env) = eval (.Call (.Attribute (.Constant (.str a) i cp) "join" apos1) [e] [] pos1) X.env := by rfl) (hl2 : (apos.endLine == pos.line) = true := by rfl) :
    PE X (.Call (.Attribute (.Call (.Attribute (.Constant (.str a) i cp) "join" apos1) [e] [] pos1) "replace" apos) [.Constant (.str y) j c0, .Constant (.str z) k c1] [] pos)
      (fun σ H Q => te σ H fun v H1 => rJoin X.K (.str a) [v] H1 fun v2 H2 => ∃ x, v2 = .str x ∧ x.length + (x.length + 1) * z.length ≤ 16777216 ∧ Q (.str (Txt.replace x y z)) H2) := by
  refine ⟨fun pins s σ H Q I h => ?_⟩
  refine PySem.Call_method2 hb2 hst hl2 (wpAny_mono (Q := fun v s1 => 1 ≤ s1.toks ∧ EP X pins σ (fun v2 H2 => ∃ x, v2 = .str x ∧ x.length + (x.length + 1) * z.length ≤ 16777216 ∧ Q (.str (Txt.replace x y z)) H2) v s1) ?_ (fun v s1 q => ?_) fun _ _ z => z)
  · refine PySem.Call_method1 hb1 hs1 hl1 (Calls.Constant_str ?_)
    refine ⟨"str", _, F.plainAttrs_str, F.slot_str_join, F.type_str_join, typeIs_str _ _ _, (fun _ e => nomatch e), ?_⟩
    refine wpAny_mono (wpAny_toks_of (n := 1) (Q := EP X pins σ (fun v2 H2 => ∃ x, v2 = .str x ∧ x.length + (x.length + 1) * z.length ≤ 16777216 ∧ Q (.str (Txt.replace x y z)) H2)) (E := X.xe) (Nat.le_add_left 1 s.toks) ?_) (fun _ _ z => z) (fun _ _ z => z.2)
    refine Calls.callWith_builtin rfl (Calls.evalArgs_plain (Calls.spliced_cons ?_))
    exact thn (he.run pins _ σ H _ (I.tok _) h) fun u s2 ⟨yv, H2, I2, r2, q2⟩ => Calls.spliced_nil (mt_join pins s2 σ H2 (.str a) [yv] _ [u] _ I2 ⟨_, rfl⟩ (.cons r2 .nil) q2)
  · obtain ⟨hk, v', H1, I1, r1, x, e1, hb, q⟩ := q
    subst e1
    obtain ⟨tk, e2⟩ := r1
    subst e2
    refine ⟨"str", _, F.plainAttrs_str, F.slot_str_replace, F.type_str_replace, typeIs_str _ _ _, (fun _ e => nomatch e), Calls.callWith_builtin rfl (Calls.evalArgs_plain (Calls.spliced_cons ?_))⟩
    refine Calls.Constant_str (Calls.spliced_cons (Calls.Constant_str (Calls.spliced_nil ?_)))
    exact PySem.SC.replace (by show s1.toks ≠ 0; omega) (by show s1.toks + 1 ≠ 0; omega) (by show s1.toks ≠ s1.toks + 1; omega) hyz hb fun t' k => ⟨.str (Txt.replace x y z), H1, I1.tok k, ⟨t', rfl⟩, q⟩
end
theorem replL_drop1 (l : List Nat) : PySem.StrLaws.replL [126] [] l = l.filter fun c => !decide (c = 126) := by
  induction l with
  | nil => exact PySem.StrLaws.replL_nil
  | cons c r ih =>
    by_cases h : c = 126
    · subst h
      rw [PySem.StrLaws.replL_hit (by simp) (by simp)]
      simp only [List.nil_append, List.length_cons, List.length_nil, List.drop_succ_cons, List.drop_zero, ih]
      simp
    · rw [PySem.StrLaws.replL_miss (by simp; exact h), ih]
      simp [h]
theorem join_rows : ∀ rows : List (List Nat), Str.join ⟨#[]⟩ (rows.map tx) = tx rows.flatten
  | [] => rfl
  | [r] => by show tx r = tx ([r].flatten); simp
  | r :: d :: q => by
    have ih := join_rows (d :: q)
    show tx r ++ (⟨#[]⟩ : Str) ++ Str.join ⟨#[]⟩ ((d :: q).map tx) = tx (r :: d :: q).flatten
    rw [ih]
    have e0 : (⟨#[]⟩ : Str) = tx [] := rfl
    rw [e0, tx_app, tx_app, List.append_nil]
    rfl
theorem sum_tx (rows : List (List Nat)) : ((rows.map tx).map (·.length)).sum = rows.flatten.length := by
  induction rows with
  | nil => rfl
  | cons a r ih => simp only [List.map_cons, List.sum_cons, ih, tx_len, List.flatten_cons, List.length_append]
theorem wavy : Str.ofString "~" = tx [126] := by decide +kernel
theorem repl_rows (cs : List Nat) : Txt.replace (tx cs) (Str.ofString "~") (⟨#[]⟩ : Str) = tx (cs.filter fun c => !decide (c = 126)) := by
  have e := PySem.StrLaws.replace_list (x := tx cs) (y := Str.ofString "~") (z := (⟨#[]⟩ : Str)) (by decide +kernel)
  rw [tx_cps, wavy, tx_cps, show (⟨#[]⟩ : Str).cps.toList = [] from rfl, replL_drop1] at e
  rw [wavy, ← of_tx (Txt.replace _ _ _), e]
/-! ### a text of some signs, some times -/
def rMulS1 : R2 := fun x y H Q => ∃ (cs : List Nat) (k : Int), x = .str (tx cs) ∧ y = .int k ∧ cs ≠ [] ∧ cs.length ≤ 1000 ∧ 1 ≤ k ∧ k ≤ 1000 ∧ Q (.str (tx (List.replicate k.toNat cs).flatten)) H
theorem op_mulS1 {X : Cx} : OpR X (binaryOp .Mult) rMulS1 := by
  rintro pins s σ H x y v u Q I rx ry ⟨cs, k, rfl, rfl, hne, hl, h2, h3, q⟩
  by_cases hk2 : 2 ≤ k
  · exact op_mulS pins s σ H _ _ v u Q I rx ry ⟨cs, k, rfl, rfl, hne, hl, hk2, h3, q⟩
  · obtain rfl : k = 1 := by omega
    have eq1 : (List.replicate (1 : Int).toNat cs).flatten = cs := by
      show (List.replicate 1 cs).flatten = cs
      simp
    rw [eq1] at q
    obtain ⟨t, rfl⟩ := rx
    obtain ⟨t', rfl⟩ := ry
    have hm : (tx cs).length * (1 : Int).toNat ≤ 1000000 := by
      rw [tx_len]
      show cs.length * 1 ≤ _
      omega
    refine PySem.P.mul_str ?_ (fun _ _ => ?_) (fun _ _ => ?_) ?_
    · rfl
    · rw [tx_len]
      omega
    · refine decide_eq_false (show ¬ (tx cs).length * (1 : Int).toNat > sizeLine from Nat.not_lt.mpr (Nat.le_trans hm (by decide)))
    · rw [if_neg (by omega), if_pos (by rfl)]
      exact ⟨.str (tx cs), H, I, ⟨_, rfl⟩, q⟩
end Om

namespace Om
open PySem PySem.Spec PyProof.Rows L2 LamX
def spLRows (K : PySem.W.Frag) : Sp := fun vs H Q _ => ∃ (b l : Addr) (m : Nat), vs = [.ref b, .int (m : Nat)] ∧ Bx H b l ∧ 1 ≤ m ∧ m ≤ 12 ∧
  ∀ (p : Addr) (rows : List (List Nat)) (H' : Hp), RowsOk m rows → cellsOf rows ≠ [] → SqT K H' p (rows.map vt) → Bx H' b l → Kp b l H H' → Q (.ref p) H'
def eightC : List Nat := [46, 46, 46, 126, 46, 65, 66, 84]
theorem eight_eq : [V.str (Str.ofString "."), V.str (Str.ofString "."), V.str (Str.ofString "."), V.str (Str.ofString "~"), V.str (Str.ofString "."), V.str (Str.ofString "A"), V.str (Str.ofString "B"), V.str (Str.ofString "T")] = eightC.map fun c => vt [c] := by
  rw [show Str.ofString "." = tx [46] from by decide +kernel, show Str.ofString "~" = tx [126] from by decide +kernel, show Str.ofString "A" = tx [65] from by decide +kernel, show Str.ofString "B" = tx [66] from by decide +kernel, show Str.ofString "T" = tx [84] from by decide +kernel]
  rfl
theorem eight_ok : ∀ c ∈ eightC, okSign c := by
  intro c hc
  unfold eightC at hc
  simp only [List.mem_cons, List.not_mem_nil, or_false] at hc
  unfold okSign
  omega
theorem cells_ne {rows : List (List Nat)} {r : List Nat} {c : Nat} (h1 : r ∈ rows) (h2 : c ∈ r) (h3 : c ≠ 126) : cellsOf rows ≠ [] := by
  obtain ⟨i, hi, rfl⟩ := List.mem_iff_getElem.mp h1
  obtain ⟨j, hj, rfl⟩ := List.mem_iff_getElem.mp h2
  have e : rows.getD i [] = rows[i] := by rw [List.getD_eq_getElem?_getD, List.getElem?_eq_getElem hi, Option.getD_some]
  have e2 : rows[i].getD j 0 = rows[i][j] := by rw [List.getD_eq_getElem?_getD, List.getElem?_eq_getElem hj, Option.getD_some]
  have : (i, j) ∈ cellsOf rows := (cells_mem rows i j).mpr ⟨hi, by rw [e]; exact hj, by unfold sg2; rw [e, e2]; exact h3⟩
  exact List.ne_nil_of_mem this
section
variable {P : Program} {w : World} {K : PySem.W.Frag} {mg : Str → Option Value} {base : Heap}
abbrev nLR : List Str := ["_law_h", "_law_most", "_law_high", "_law_wide", "_law_found", "_law_row", "_law_column"]
def callArg (s : Stmt) : Expr := match s with
  | .Expr (.Call _ [e] _ _) _ => e
  | _ => .Constant .none 0 ⟨0, 0, 0, 0⟩
def callArg0 (e : Expr) : Expr := match e with
  | .Call _ [e] _ _ => e
  | _ => .Constant .none 0 ⟨0, 0, 0, 0⟩
end
end Om

namespace Om
open PySem PySem.Spec PyProof.Rows L2 LamX
theorem ixtK {X : Cx} {K : PySem.W.Frag} (hK : X.K = K) : IxR X (rIxT K) := by
  subst hK
  exact ix_tup
/-! ### cells that stand in the heap -/
abbrev TC := List (Addr × Cell)
def CA (H : Hp) (t : TC) : Prop := ∀ p ∈ t, H p.1 = some (.tup (cvs p.2))
def vz (t : TC) : List V := t.map fun p => V.ref p.1
def cz (t : TC) : List Cell := t.map fun p => p.2
theorem CA.nil {H : Hp} : CA H [] := fun p hp => by cases hp
theorem CA.same {H H' : Hp} {t : TC} (h : CA H t) (s : Same H H') : CA H' t := fun p hp => s _ _ (h p hp)
theorem CA.updL {H : Hp} {D : Addr} {ys zs : List V} {t : TC} (h : CA H t) (hD : H D = some (.lst ys)) : CA (upd H D (.lst zs)) t := fun p hp => by
  rw [upd_ne (ne_of (h p hp) hD fun e => by cases e)]
  exact h p hp
theorem CA.kp {H H' : Hp} {b l : Addr} {t : TC} (h : CA H t) (B : Bx H b l) (k : Kp b l H H') : CA H' t := fun p hp => by
  obtain ⟨ns, z, _, h1, h2, _⟩ := B.ex
  exact k _ _ (h p hp) (ne_of (h p hp) h1 fun e => by cases e) (ne_of (h p hp) h2 fun e => by cases e)
theorem CA.app {H : Hp} {t u : TC} (h1 : CA H t) (h2 : CA H u) : CA H (t ++ u) := fun p hp => (List.mem_append.mp hp).elim (h1 p) (h2 p)
theorem CA.one {H : Hp} {a : Addr} {c : Cell} (h : H a = some (.tup (cvs c))) : CA H [(a, c)] := fun p hp => by
  rw [List.mem_singleton] at hp
  subst hp
  exact h
theorem CA.dp {K : PySem.W.Frag} {H : Hp} : ∀ {t : TC}, CA H t → DpAll K H (vz t) ((cz t).map cdp)
  | [], _ => .nil
  | p :: t, h => .cons (cell_dp (.inl (.inl (h p (List.mem_cons_self ..))))) (CA.dp fun q hq => h q (List.mem_cons_of_mem _ hq))
theorem vz_len (t : TC) : (vz t).length = t.length := List.length_map ..
theorem cz_len (t : TC) : (cz t).length = t.length := List.length_map ..
theorem vz_app (t u : TC) : vz (t ++ u) = vz t ++ vz u := List.map_append
theorem cz_app (t u : TC) : cz (t ++ u) = cz t ++ cz u := List.map_append
theorem vz_of {xs : List V} {t : TC} (h : ∀ x ∈ xs, x ∈ vz t) : ∃ u : TC, xs = vz u ∧ ∀ p ∈ u, p ∈ t := by
  induction xs with
  | nil => exact ⟨[], rfl, fun p hp => by cases hp⟩
  | cons x r ih =>
    obtain ⟨u, e, hu⟩ := ih fun y hy => h y (List.mem_cons_of_mem _ hy)
    obtain ⟨p, hp, rfl⟩ := List.mem_map.mp (h x (List.mem_cons_self ..))
    refine ⟨p :: u, by rw [e]; rfl, fun q hq => ?_⟩
    rcases List.mem_cons.mp hq with rfl | hq
    · exact hp
    · exact hu q hq
def spLCells (K : PySem.W.Frag) : Sp := fun vs H Q _ => ∃ (a : Addr) (rows : List (List Nat)), vs = [.ref a] ∧ SqT K H a (rows.map vt) ∧ Vd rows ∧ ∀ v t H', Same H H' → H' v = some (.lst (vz t)) → CA H' t → cz t = cellsOf rows → Q (.ref v) H'
def spLSome : Sp := fun vs H Q _ => ∃ (b l ca : Addr) (t : TC) (m : Nat), vs = [.ref b, .ref ca, .int (m : Nat)] ∧ Bx H b l ∧ H ca = some (.lst (vz t)) ∧ CA H t ∧ t.length ≤ 1000 ∧ m ≤ 100 ∧
  ∀ (p : Addr) (u : TC) (H' : Hp), H' p = some (.tup (vz u)) → CA H' u → (∀ q ∈ u, q.2 ∈ cz t) → u.length ≤ m → Bx H' b l → Kp b l H H' → Q (.ref p) H'
section
variable {P : Program} {w : World} {K : PySem.W.Frag} {mg : Str → Option Value} {base : Heap}
abbrev nLC : List Str := ["_law_rows_here", "_law_found", "_law_row", "_law_column"]
def binR (e : Expr) : Expr := match e with
  | .BinOp _ _ e _ => e
  | _ => .Constant .none 0 ⟨0, 0, 0, 0⟩
end
end Om

namespace Om
open PySem PySem.Spec PyProof.Rows L2 LamX
theorem vz_erase : ∀ (t : TC) (k : Nat), (vz t).eraseIdx k = vz (t.eraseIdx k)
  | [], _ => rfl
  | _ :: _, 0 => rfl
  | a :: r, k + 1 => by
    show V.ref a.1 :: (vz r).eraseIdx k = V.ref a.1 :: vz (r.eraseIdx k)
    rw [vz_erase r k]
theorem eqv_cells_nil (cs : List Cell) : PyData.eqv (.list (cs.map cdp)) (.list []) = cs.isEmpty := by
  cases cs <;> simp [PyData.eqv, PyData.eqvAll]
section
variable {P : Program} {w : World} {K : PySem.W.Frag} {mg : Str → Option Value} {base : Heap}
abbrev nLS : List Str := ["_law_h", "_law_cells_here", "_law_most", "_law_left", "_law_found", "_law_k"]
end
end Om

namespace Om
open PySem PySem.Spec PyProof.Rows L2 LamX
theorem perm_map {α β : Type} {f : α → β} {ys zs : List β} (h : ys.Perm zs) : ∀ l : List α, zs = l.map f → ∃ u : List α, u.Perm l ∧ ys = u.map f := by
  induction h with
  | nil =>
    intro l e
    cases l with
    | nil => exact ⟨[], List.Perm.refl _, rfl⟩
    | cons a l => cases e
  | cons x _ ih =>
    intro l e
    cases l with
    | nil => cases e
    | cons a l =>
      injection e with e1 e2
      obtain ⟨u, h1, h2⟩ := ih l e2
      exact ⟨a :: u, h1.cons a, by rw [e1, h2]; rfl⟩
  | swap x y _ =>
    intro l e
    cases l with
    | nil => cases e
    | cons a l =>
      cases l with
      | nil => cases e
      | cons b l =>
        injection e with e1 e2
        injection e2 with e2 e3
        exact ⟨b :: a :: l, List.Perm.swap a b l, by rw [e1, e2, e3]; rfl⟩
  | trans _ _ ih1 ih2 =>
    intro l e
    obtain ⟨u, h1, h2⟩ := ih2 l e
    obtain ⟨u2, h3, h4⟩ := ih1 u h2
    exact ⟨u2, h3.trans h1, h4⟩
theorem erase_perm {α : Type} : ∀ {l : List α} {j : Nat} (h : j < l.length), ([l[j]] ++ l.eraseIdx j).Perm l
  | a :: l, 0, _ => List.Perm.refl _
  | a :: l, j + 1, h => by
    have ih := erase_perm (l := l) (j := j) (Nat.lt_of_succ_lt_succ h)
    show ([l[j]'(Nat.lt_of_succ_lt_succ h)] ++ a :: l.eraseIdx j).Perm (a :: l)
    exact List.Perm.trans (List.Perm.swap a _ _) (ih.cons a)
/-! ### no cell twice -/
def spLSomeP : Sp := fun vs H Q _ => ∃ (b l ca : Addr) (t : TC) (m : Nat), vs = [.ref b, .ref ca, .int (m : Nat)] ∧ Bx H b l ∧ H ca = some (.lst (vz t)) ∧ CA H t ∧ t.length ≤ 1000 ∧ m ≤ 100 ∧
  ∀ (p : Addr) (u z : TC) (H' : Hp), H' p = some (.tup (vz u)) → CA H' u → (u ++ z).Perm t → u.length ≤ m → Bx H' b l → Kp b l H H' → Q (.ref p) H'
section
variable {P : Program} {w : World} {K : PySem.W.Frag} {mg : Str → Option Value} {base : Heap}
end
end Om

/-! sets of tuples of ints made by a comprehension: one clause, two clauses -/
namespace Om
open PySem PySem.Spec PyProof.Rows L2
/-! ### one tuple put in -/
section
variable {P : Program} {w : World} {A : Around} {E : Value → Shared → Prop} {s : Shared} {a : Addr} {L : List (Addr × List Int)} {es : Array (Int × Value)} {ep : Nat} {t : SetTable}
theorem setT_add {x : Addr} {k : List Int} {Q : Value → Shared → Prop} (R : SetTR P w s.heap a L es ep t) (hx : IsT P w s.heap k x) (hu : A.units + 3 < cLine) (hfew : L.length + 1 < 64)
    (hQ : ∀ h' tk L', Heap.SameBut a s.heap h' → SetT0 P w h' a L' → (k ∈ L.map (·.2) → L' = L) → (k ∉ L.map (·.2) → L'.Perm ((x, k) :: L)) → Q .none { s with heap := h', toks := tk }) :
    wpAny (model P w) A (call (.builtin "set.add") [.ref a, .ref x]) Q E s := by
  obtain ⟨o, ho, hex, hd⟩ := R.ob
  refine wpAny_call_entry F.slot_set_add ⟨o, ho, hex.1⟩ F.entry_set_add ?_ (F.args_set_add_2 _ _)
  unfold Builtin.«set.add» Builtin.Frozenset.oneOther
  simp only [List.isEmpty_nil, bind_assoc]
  unfold Builtin.Frozenset.addrOf setAdd
  refine wpAny_bind (wpAny_pure ?_)
  try dsimp only
  refine wpAny_bind (wpAny_pure ?_)
  try dsimp only
  refine wpAny_bind (wpAny_holding (wpAny_bind (wpAny_pyHash_tuple (by first | (show A.units + _ < _; omega) | omega) hx ?_)))
  refine add_at (s := { s with toks := s.toks + (k.length + 1) }) R hx (by first | (show A.units + _ < _; omega) | omega) hfew fun b h' L' es' ep' t' sb R' c1 c2 => ?_
  exact wpAny_pure ⟨_, rfl, hQ h' _ L' sb R'.t0 c1 c2⟩
end

/-! ### over the layer: what is put in -/
section
variable {X : Cx}
theorem addT_ok {pins : List (Addr × Obj)} {σ : L2.St} {H : Hp} {s : Shared} {E : Value → Shared → Prop} {D b : Addr} {k : List Int} {L : List (Addr × List Int)} {Q : Value → Shared → Prop} (I : Inv X pins σ H s) (hu : X.A.units + 3 < cLine)
    (hD : H D = some (SetTO X.prog X.w D L)) (hL : ∀ p ∈ L, SqT X.K H p.1 (p.2.map V.int)) (hb : SqT X.K H b (k.map V.int)) (hfew : L.length + 1 < 64)
    (h : ∀ s' L', (k ∈ L.map (·.2) → L' = L) → (k ∉ L.map (·.2) → L'.Perm ((b, k) :: L)) → Inv X pins σ (upd H D (SetTO X.prog X.w D L')) s' → Q .none s') :
    wpAny (model X.prog X.w) X.A (call (.builtin "set.add") [.ref D, .ref b]) Q E s := by
  have R0 : SetT0 X.prog X.w s.heap D L := (I.hok D _ hD).1
  obtain ⟨es, ep, t, R⟩ := R0.full fun p hp => I.isT (hL p hp)
  refine setT_add R (I.isT hb) hu hfew fun h' tk L' sb R' c1 c2 => ?_
  have he : ∃ u, h'.get? D = some u := by
    have ⟨_, _, _, ⟨o, ho, _⟩, _⟩ := R'.ex
    exact ⟨o, ho⟩
  exact h _ L' c1 c2 (I.write (e := D) (t' := tk) (by rw [hD]; trivial) (.inl rfl) (fun c u hc hu => (sb.2 c hc).trans hu) he (setTO_new R'))
end

/-! ### a clause's loop, whatever it does with an item -/
def clauseTurn (node : Expr) (k : Nat) (tg iter : Expr) (ifs : List Expr) (it acc : Value) (env : Env) (act : Sem PySem.Fin → Sem PySem.Fin) : Sem PySem.Fin := do
  standAt iter.pos
  match ← pyNext it with
  | none => pure (.done .next)
  | some v =>
    letOwnedTupleGo tg it v
    assign tg env v
    let mut ok := true
    for c in ifs do
      if ok then ok ← isTrue c env (eval c env)
    if ok then act (again (.compLoop node k it acc env)) else again (.compLoop node k it acc env)
/-- slots that know at least as much -/
def Knows (σ0 σ' : L2.St) : Prop := σ0.length = σ'.length ∧ ∀ (j : Nat) v, σ0[j]? = some (some v) → σ'[j]? = some (some v)
theorem thnE {α : Type} {t : Sem α} {Q Q' : α → Shared → Prop} {M : Model} {A : Around} {E E' : Value → Shared → Prop} {s : Shared} (hE : ∀ e s, ¬ E e s) (h : wpAny M A t Q E s) (hQ : ∀ a s, Q a s → Q' a s) : wpAny M A t Q' E' s := wpAny_mono h hQ fun e s z => (hE e s z).elim
theorem clause_loop {X : Cx} (hc : X.calm = true) (hxe : ∀ e s, ¬ X.xe e s) {elt : Expr} {cs : List Comprehension} {scope : Scope} {pos : Pos} {node : Expr} (en : node = .SetComp elt cs scope pos) {k : Nat} {tg iter : Expr} {ifs : List Expr} {it : Addr} {acc : Value} {act : Sem PySem.Fin → Sem PySem.Fin} {R : PySem.Result → Shared → Prop}
    (hturn : compTurn node k (.ref it) acc X.env = clauseTurn node k tg iter ifs (.ref it) acc X.env act)
    {pins : List (Addr × Obj)} {σ0 : L2.St} {fp : List Addr} {tn : Nat → Heap → Prop} {J : It} (T : Turn X.prog X.w X.K tg J fp it tn) {g : TG} {tt : TT} (pg : PG X tg g) (pt : PTs X ifs tt)
    (stat : ∀ {H' : Hp}, (∀ b ∈ fp, H' b = none) → ∀ b ∈ fp, FpOk X pins H' b)
    {Fin : Hp → Prop} {ok : L2.St → Prop} {Body : L2.St → Hp → (Hp → Prop) → Prop}
    (body : ∀ {σ2 : L2.St} {Hx : Heap} {s : Shared} {H : Hp} {Nx : Hp → Prop}, ok σ2 → Inv X (pins ++ pinsAt fp Hx) σ2 H s → Body σ2 H Nx → ∀ (kont : Sem PySem.Fin) (P : PySem.Fin → Shared → Prop) (E : Value → Shared → Prop), (∀ s', (∃ σ' H', Inv X (pins ++ pinsAt fp Hx) σ' H' s' ∧ Knows σ0 σ' ∧ Nx H') → wpAny (model X.prog X.w) X.A kont P E s') → wpAny (model X.prog X.w) X.A (act kont) P E s)
    (hok : ∀ {σ2 : L2.St}, ok σ2 → Knows σ0 σ2) {W : Nat → Nat → Hp → Prop}
    (turn : ∀ i m H, W i m H → (J.stop i H ∧ Fin H) ∨ (J.go i H ∧ ∃ Nx : Hp → Prop, (∀ H', Nx H' → ∃ m', m' < m ∧ W (i + 1) m' H') ∧ ∀ x H', J.yld i H x H' → g x σ0 H' fun σ2 H2 => ok σ2 ∧ tt σ2 H2 fun b H3 => if b = true then Body σ2 H3 Nx else Nx H3))
    (hend : ∀ H' s', Inv X pins σ0 H' s' → Fin H' → R (.ok .next) s')
    {s : Shared} {H : Hp} {m0 : Nat} (I : Inv X pins σ0 H s) (st : tn 0 s.heap) (nfp : ∀ b ∈ fp, H b = none) (w0 : W 0 m0 H) :
    codeAny (model X.prog X.w) X.A (.compLoop node k (.ref it) acc X.env) R s := by
  subst en
  refine codeAny_loop rfl (fun n s' => ∃ i H', Inv X pins σ0 H' s' ∧ tn i s'.heap ∧ (∀ b ∈ fp, H' b = none) ∧ W i n H') ?_ m0 ⟨0, H, I, st, nfp, w0⟩
  rintro n s5 ⟨i, H5, I5, st5, n5, w5⟩
  show wpAny _ X.A ((compTurn (.SetComp elt cs scope pos) k (.ref it) acc X.env).onRaise (fun x => do noteFrame x X.env; theTreesLotGoes x)) _ _ s5
  refine wpAny_noted ?_
  rw [hturn]
  unfold clauseTurn
  refine wpAny_bind (wpAny_standAt (wpAny_bind ?_))
  rcases turn i n H5 w5 with ⟨stop, qq⟩ | ⟨go, Nx, hNx, step⟩
  · refine thnF (T.done X rfl rfl rfl hc i pins s5 σ0 H5 (fun _ _ => False) I5 (stat n5) st5 stop) fun r s6 ⟨hr, I6⟩ => ?_
    subst hr
    exact wpAny_pure (hend H5 s6 I6 qq)
  · refine thnF (T.item X rfl rfl rfl hc i pins s5 σ0 H5 (fun _ _ => False) I5 (stat n5) st5 go) fun r s6 ⟨u, hr, h6⟩ => ?_
    subst hr
    dsimp only
    refine wpAny_bind (thnF h6 fun _ s7 ⟨x, H7, I7, r7, y7, st7, n7⟩ => ?_)
    have I7' := I7.pinned (stat n7) (T.obj _ _ st7)
    have fin : ∀ {σ' : L2.St} {s' : Shared} {H' : Hp}, Inv X (pins ++ pinsAt fp s7.heap) σ' H' s' → Knows σ0 σ' → Nx H' → ∃ m, m < n ∧ ∃ i H', Inv X pins σ0 H' s' ∧ tn i s'.heap ∧ (∀ b ∈ fp, H' b = none) ∧ W i m H' := fun {σ' s' H'} I' kn nx => by
      obtain ⟨m', hm, w'⟩ := hNx H' nx
      have held : ∀ b ∈ fp, ∀ o, s7.heap.get? b = some o → s'.heap.get? b = some o ∧ H' b = none := fun b hb o e =>
        ⟨(I'.pin (b, o) (List.mem_append_right _ (List.mem_append_right _ (mem_pinsAt hb e)))).1, (I'.pin (b, o) (List.mem_append_right _ (List.mem_append_right _ (mem_pinsAt hb e)))).2.1⟩
      refine ⟨m', hm, i + 1, H', I'.unpinned.weak kn.1 kn.2, T.keep _ _ _ st7 fun b hb o e => (held b hb o e).1, fun b hb => ?_, w'⟩
      obtain ⟨o, e, _⟩ := T.obj _ _ st7 b hb
      exact (held b hb o e).2
    refine wpAny_bind (thnE hxe (pg.run _ s7 σ0 H7 x u _ I7' r7 (step x H7 y7)) fun _ s8 ⟨σ8, H8, I8, k8, q8⟩ => ?_)
    refine wpAny_bind (thnE hxe (pt.run _ s8 σ8 H8 _ I8 q8) fun b s9 ⟨H9, I9, q9⟩ => ?_)
    cases b with
    | false => exact wpAny_pure ⟨rfl, fin I9 (hok k8) q9⟩
    | true => exact body k8 I9 q9 _ _ _ fun s' ⟨σ', H', I', kn, nx⟩ => wpAny_pure ⟨rfl, fin I' kn nx⟩
end Om

namespace Om
open PySem PySem.Spec PyProof.Rows L2
section
variable {X : Cx}
abbrev newSetObj (w : World) : Obj := { cls := .type "set", dict := none, data := .set #[] 0 (.fresh 0 0 (!w.params.followText "set-order")) }
/-- the block of a set comprehension is entered: D the new set, Rd what is known of it -/
theorem sc_enter {pins : List (Addr × Obj)} {s : Shared} {σ : L2.St} {H : Hp} {Q : VK} {elt tg iter : Expr} {ifs : List Expr} {rest : List Comprehension} {scope : Scope} {own : List (Str × Nat)} {pos pos' : Pos} {wi : TI} {use : Option (Value → Sem Unit)} {Qf : Value → Shared → Prop} {Rd : It → Addr → Hp → Prop}
    (hc : X.calm = true) (hN : X.N.Nodup) (I : Inv X pins σ H s) (hi : PI X tg iter wi) (ok : BlkOk X.N X.env.scope scope own) (hs : ∀ x, foldedSetIterable iter X.env x = pure x) (h : wi σ H fun J H1 => ∀ D, H1 D = none → Rd J D (upd H1 D (SetTO X.prog X.w D [])))
    (hRR : ∀ D C s' m H', Inv X pins σ H' s' → Q (.ref D) H' → s'.heap.Ns C m → FpOk X pins H' C → compPost (model X.prog X.w) X.A X.xe use Qf (.ref D) C (.ok .next) s')
    (loop : ∀ (it : Addr) (fp : List Addr) (tn : Nat → Heap → Prop) (J : It) (D C : Addr) (cl : List (Str × Addr)) (s3 s4 : Shared) (H3 : Hp), Rd J D H3 → Inv (X.blk s3 H3 scope (compEnvC scope cl C X.env) fp) [] (wipe σ (own.map (·.2))) H3 s4 → Turn X.prog X.w X.K tg J fp it tn → tn 0 s4.heap → (∀ b ∈ fp, H3 b = none) →
      (∀ {H' : Hp}, (∀ b ∈ fp, H' b = none) → ∀ b ∈ fp, FpOk (X.blk s3 H3 scope (compEnvC scope cl C X.env) fp) [] H' b) →
      (∀ H5 s6, Inv (X.blk s3 H3 scope (compEnvC scope cl C X.env) fp) [] (wipe σ (own.map (·.2))) H5 s6 → Q (.ref D) H5 → compPost (model X.prog X.w) X.A X.xe use Qf (.ref D) C (.ok .next) s6) →
      codeAny (model X.prog X.w) X.A (.compLoop (.SetComp elt (⟨tg, iter, ifs, 0⟩ :: rest) scope pos) 0 (.ref it) (.ref D) (compEnvC scope cl C X.env)) (compPost (model X.prog X.w) X.A X.xe use Qf (.ref D) C) s4) :
    wpAny (model X.prog X.w) X.A (comprehension (.SetComp elt (⟨tg, iter, ifs, 0⟩ :: rest) scope pos) scope X.env pos' (newSet (.type "set")) false (eval iter X.env) use) Qf X.xe s := by
  have cells : ∀ y ∈ scope.names, y.2 = .free → ∃ c, X.env.cells.lookup y.1 = some c := fun y hy e => (ok.free y hy e).elim (fun k => I.ok.has _ (.inl k)) fun k => I.ok.has _ (.inr k)
  refine wpAny_comprehension_free (use := use) rfl hs (closure_ok cells) ok.kind (fun y hy e => by rw [ok.uniq y hy, e])
    (thn (hi.run pins s σ H _ I h) fun xv s1 hx => thn hx fun itv s2 h2 => ?_)
  obtain ⟨it, fp, tn, J, H2, rfl, I2, T, st2, f2, q⟩ := h2
  refine PpSet.newSet_ok (newEnv_comp ?_)
  have hn2 : H2 s2.heap.objs.size = none := I2.hok.fresh (Nat.le_refl _)
  have rd := q _ hn2
  have I3 : Inv X pins σ (upd H2 s2.heap.objs.size (SetTO X.prog X.w s2.heap.objs.size [])) { s2 with heap := s2.heap.push (newSetObj X.w) } :=
    I2.laid (t' := s2.toks) (fun b o e => Heap.get?_push_of_some _ e) (Nat.le_refl _) (setTO_new (setTR_fresh (Heap.get?_push_size _ rfl)).t0)
  have below : ∀ b ∈ fp, b < s2.heap.objs.size := fun b hb => by
    obtain ⟨o, e, _⟩ := T.obj _ _ st2 b hb
    exact Heap.lt_size e
  have st3 : tn 0 (s2.heap.push (newSetObj X.w)) := T.keep _ _ _ st2 fun b _ o e => Heap.get?_push_of_some _ e
  have f3 : ∀ b ∈ fp, FpOk X pins (upd H2 s2.heap.objs.size (SetTO X.prog X.w s2.heap.objs.size [])) b ∧ b < (s2.heap.push (newSetObj X.w)).objs.size := fun b hb =>
    ⟨⟨by rw [upd_ne (Nat.ne_of_lt (below b hb))]; exact (f2 b hb).1, (f2 b hb).2⟩, by rw [Heap.size_push]; exact Nat.lt_succ_of_lt (below b hb)⟩
  generalize hS3 : ({ s2 with heap := s2.heap.push (newSetObj X.w) } : Shared) = s3 at I3
  have hh3 : s2.heap.push (newSetObj X.w) = s3.heap := by rw [← hS3]
  rw [hh3] at st3 f3
  generalize s2.heap.objs.size = D at I3 f3 rd hn2 ⊢
  generalize hH3 : upd H2 D (SetTO X.prog X.w D []) = H3 at I3 f3 rd
  have I4 := block_start I3 ok hN f3
  have st4 : tn 0 (pushCells (s3.heap.push { cls := .type "dict", data := .dict #[] }) scope.names) := T.keep _ _ _ st3 fun b _ o e => pushCells_keeps _ _ _ _ (Heap.get?_push_of_some _ e)
  have nfp : ∀ b ∈ fp, H3 b = none := fun b hb => (f3 b hb).1.1
  show codeAny _ _ (.compStart (.SetComp elt (⟨tg, iter, ifs, 0⟩ :: rest) scope pos) 0 (.ref it) (.ref D) (compEnvC scope (cellsFrom (s3.heap.objs.size + 1) scope.names (cloFrom X.env.cells scope.names [])) s3.heap.objs.size X.env)) (compPost (model X.prog X.w) X.A X.xe use Qf (.ref D) s3.heap.objs.size) { s3 with heap := pushCells (s3.heap.push { cls := .type "dict", data := .dict #[] }) scope.names }
  have L := loop it fp tn J D s3.heap.objs.size (cellsFrom (s3.heap.objs.size + 1) scope.names (cloFrom X.env.cells scope.names [])) s3 _ H3 rd I4 T st4 nfp
    (fun hn b hb => ⟨hn b hb, (I4.ok.exf b hb).1, I4.ok.exfs b hb, .inl hb, fun x c e => (I4.ok.exf b hb).2 x c e, fun p hp => absurd (show p ∈ ([] : List (Addr × Obj)) ++ [] from hp) (by simp)⟩)
    (fun H5 s6 I6 qq => by
      have I7 : Inv X pins σ H5 s6 := I3.call' (ch := fp) I6.os I6.base I6.hok I6.bare fun b hb => ⟨(f3 b hb).1.2.2.2.1, (f3 b hb).1.2.1, (f3 b hb).1.2.2.2.2.1, (f3 b hb).1.2.2.2.2.2⟩
      have nC : H5 s3.heap.objs.size = none := I6.free
      obtain ⟨m, hn, _⟩ := I6.loc
      exact hRR D s3.heap.objs.size s6 m H5 I7 qq hn (I3.fpOk (Nat.le_refl _) nC))
  exact PpSet.codeAny_compStart_set L (T.self X.A 0 _ _ _ st4 L)
end
section
variable {prog : Program} {w : World} {A : Around} {R : PySem.Result → Shared → Prop} {s : Shared} {env : Env}
/-- the second clause begins -/
theorem sc_start1 {elt : Expr} {c0 : Comprehension} {target iter : Expr} {ifs : List Expr} {scope : Scope} {pos : Pos} {it acc : Value}
    (h0 : codeAny (model prog w) A (.compLoop (.SetComp elt [c0, ⟨target, iter, ifs, 0⟩] scope pos) 1 it acc env) R s)
    (h : wpAny (model prog w) A (pyIter it) (fun it' s' => codeAny (model prog w) A (.compLoop (.SetComp elt [c0, ⟨target, iter, ifs, 0⟩] scope pos) 1 it' acc env) R s') (notedBy (model prog w) A env fun x s' => R (.error x) s') s) :
    codeAny (model prog w) A (.compStart (.SetComp elt [c0, ⟨target, iter, ifs, 0⟩] scope pos) 1 it acc env) R s := by
  refine codeAny_of_tree ?_
  show wpAny _ _ ((compStart (.SetComp elt [c0, ⟨target, iter, ifs, 0⟩] scope pos) 1 it acc env).onRaise (fun x => do noteFrame x env; standAt theWindowsPlace)) _ _ s
  refine wpAny_notedAt ?_
  unfold compStart
  refine wpAny_bind (wpAny_askSetting (wpAny_ite ?_))
  split
  · first
      | exact wpAny_bind (wpAny_pure (wpAny_pure (And.intro rfl h0)))
      | exact wpAny_pure (And.intro rfl h0)
  · refine wpAny_bind (wpAny_rule ?_)
    refine wpAny_bind (wpAny_standAt (wpAny_bind (wpAny_mono h (fun it' s' h' => wpAny_pure (And.intro rfl h')) fun _ _ x => x)))
end
section
variable {X : Cx}
/-! ### what is read -/
abbrev ownS (own : List (Str × Nat)) : List Nat := own.map fun p => p.2
/-- an item comes into the set at D -/
def tPut (K : PySem.W.Frag) (P : Program) (w : World) (D : Addr) (te : TE) : L2.St → Hp → (Hp → Prop) → Prop := fun σ H Nx => te σ H fun y H4 => ∃ (b : Addr) (k : List Int) (L : List (Addr × List Int)), y = .ref b ∧ SqT K H4 b (k.map V.int) ∧ H4 D = some (SetTO P w D L) ∧ (∀ p ∈ L, SqT K H4 p.1 (p.2.map V.int)) ∧ L.length + 1 < 64 ∧
  ∀ L', (k ∈ L.map (·.2) → L' = L) → (k ∉ L.map (·.2) → L'.Perm ((b, k) :: L)) → Nx (upd H4 D (SetTO P w D L'))
/-- a walk by turns: W holds, Fin at the end, Act of an item -/
def Wlk (J : It) (W : Nat → Nat → Hp → Prop) (Fin : Hp → Prop) (Act : V → Hp → (Hp → Prop) → Prop) : Prop := ∀ i m H, W i m H → (J.stop i H ∧ Fin H) ∨ (J.go i H ∧ ∃ Nx : Hp → Prop, (∀ H', Nx H' → ∃ m', m' < m ∧ W (i + 1) m' H') ∧ ∀ x H', J.yld i H x H' → Act x H' Nx)
/-- {elt for target in iter if ..} -/
def tSc1 (K : PySem.W.Frag) (P : Program) (w : World) (wi : TI) (g : TG) (tt : TT) (te : TE) (vs : List Nat) : TE := fun σ H Q => wi σ H fun J H1 => ∀ D, H1 D = none → ∃ W : Nat → Nat → Hp → Prop, (∃ m, W 0 m (upd H1 D (SetTO P w D []))) ∧
  Wlk J W (fun H => Q (.ref D) H) fun x H' Nx => g x (wipe σ vs) H' fun σ2 H2 => wipe σ2 vs = wipe σ vs ∧ tt σ2 H2 fun b H3 => if b = true then tPut K P w D te σ2 H3 Nx else Nx H3
/-- {elt for target in iter if .. for target1 in iter1 if ..} -/
def tSc2 (K : PySem.W.Frag) (P : Program) (w : World) (wi : TI) (g : TG) (tt : TT) (wi1 : TI) (g1 : TG) (tt1 : TT) (te : TE) (vs vs1 : List Nat) : TE := fun σ H Q => wi σ H fun J H1 => ∀ D, H1 D = none → ∃ W : Nat → Nat → Hp → Prop, (∃ m, W 0 m (upd H1 D (SetTO P w D []))) ∧
  Wlk J W (fun H => Q (.ref D) H) fun x H' Nx => g x (wipe σ vs) H' fun σ2 H2 => wipe σ2 vs = wipe σ vs ∧ tt σ2 H2 fun b H3 => if b = true then wi1 σ2 H3 fun J1 H4 => ∃ W1 : Nat → Nat → Hp → Prop, (∃ m, W1 0 m H4) ∧
      Wlk J1 W1 Nx fun x1 H5 Nx1 => g1 x1 (wipe σ2 vs1) H5 fun σ3 H6 => wipe σ3 vs1 = wipe σ2 vs1 ∧ tt1 σ3 H6 fun b1 H7 => if b1 = true then tPut K P w D te σ3 H7 Nx1 else Nx1 H7
    else Nx H3
theorem knows_wipe {σ0 σ2 : L2.St} {vs : List Nat} (h : wipe σ2 vs = σ0) : Knows σ0 σ2 := ⟨by rw [← h, wipe_length], fun j v e => by rw [← h] at e; exact (wipe_some e).1⟩
/-- the act of the innermost clause -/
theorem put_act {X : Cx} {pins : List (Addr × Obj)} {elt : Expr} {te : TE} {D : Addr} {σ : L2.St} {s : Shared} {H : Hp} {Nx : Hp → Prop} (hu : X.A.units + 3 < cLine) (hxe : ∀ e s, ¬ X.xe e s) (pe : PE X elt te) (I : Inv X pins σ H s) (h : tPut X.K X.prog X.w D te σ H Nx) :
    wpAny (model X.prog X.w) X.A (do let v ← eval elt X.env; standAt elt.pos; let _ ← call (.builtin "set.add") [.ref D, v]) (fun _ s' => ∃ H', Inv X pins σ H' s' ∧ Nx H') (fun _ _ => False) s := by
  refine wpAny_bind (thnE hxe (pe.run pins s σ H _ I h) fun z s1 ⟨y, H1, I1, r1, b, k, L, ey, hb, hD, hL, hf, nx⟩ => ?_)
  subst ey
  cases r1
  refine wpAny_bind (wpAny_standAt (wpAny_bind ?_))
  exact addT_ok I1 hu hD hL hb hf fun s' L' c1 c2 I' => wpAny_pure ⟨_, I', nx L' c1 c2⟩
abbrev BlkX (X : Cx) (scope : Scope) (J : Cx → Prop) : Prop := ∀ (s : Shared) (H : Hp) (C : Addr) (cl : List (Str × Addr)) (fp : List Addr), J (X.blk s H scope (compEnvC scope cl C X.env) fp)
theorem pe_sc1 {elt tg iter : Expr} {ifs : List Expr} {scope : Scope} {own : List (Str × Nat)} {pos : Pos} {wi : TI} {g : TG} {tt : TT} {te : TE} (hc : X.calm = true) (hu : X.A.units + 3 < cLine) (hN : X.N.Nodup) (hi : PI X tg iter wi) (ok : BlkOk X.N X.env.scope scope own)
    (hg : BlkX X scope fun Y => PG Y tg g) (ht : BlkX X scope fun Y => PTs Y ifs tt) (he : BlkX X scope fun Y => PE Y elt te) (hs : ∀ x, foldedSetIterable iter X.env x = pure x := by intro _; rfl) :
    PE X (.SetComp elt [⟨tg, iter, ifs, 0⟩] scope pos) (tSc1 X.K X.prog X.w wi g tt te (ownS own)) := by
  refine ⟨fun pins s σ H Q I h => ?_⟩
  rw [PpSet.eval_SetComp]
  refine sc_enter (Q := Q) (Rd := fun J D H0 => ∃ W : Nat → Nat → Hp → Prop, (∃ m, W 0 m H0) ∧ Wlk J W (fun H => Q (.ref D) H) fun x H' Nx => g x (wipe σ (ownS own)) H' fun σ2 H2 => wipe σ2 (ownS own) = wipe σ (ownS own) ∧ tt σ2 H2 fun b H3 => if b = true then tPut X.K X.prog X.w D te σ2 H3 Nx else Nx H3)
    hc hN I hi ok hs h (fun D C s' m H' I' q hn f => ⟨m, hn, fun h'' sb => ?_⟩) fun it fp tn J D C cl s3 s4 H3 rd I4 T st4 nfp stat back => ?_
  · obtain ⟨f0, f1, f2, f3, f4, f5⟩ := f
    exact ⟨.ref D, H', I'.turned (t' := s'.toks) (fun b o hb e => (sb.2 b hb).trans e) f0 f1 f3 f4 f5, rfl, q⟩
  · obtain ⟨W, ⟨m0, w0⟩, wlk⟩ := rd
    exact clause_loop (X := X.blk s3 H3 scope (compEnvC scope cl C X.env) fp) hc (fun _ _ h => h) rfl (iter := iter) (act := fun kont => (do let v ← eval elt (compEnvC scope cl C X.env); standAt elt.pos; let _ ← call (.builtin "set.add") [.ref D, v]) >>= fun _ => kont) rfl T (hg s3 H3 C cl fp) (ht s3 H3 C cl fp) stat (ok := fun σ2 => wipe σ2 (ownS own) = wipe σ (ownS own))
      (body := fun {σ2 Hx s H Nx} o I2 b kont P E hk => wpAny_bind (thnF (put_act (X := X.blk s3 H3 scope (compEnvC scope cl C X.env) fp) hu (fun _ _ h => h) (he s3 H3 C cl fp) I2 b) fun _ s' ⟨H', I', nx⟩ => hk s' ⟨σ2, H', I', knows_wipe o, nx⟩))
      knows_wipe wlk back I4 st4 nfp w0
theorem pe_sc2 {elt tg iter tg1 iter1 : Expr} {ifs ifs1 : List Expr} {scope : Scope} {own : List (Str × Nat)} {vs1 : List Nat} {pos : Pos} {wi wi1 : TI} {g g1 : TG} {tt tt1 : TT} {te : TE} (hc : X.calm = true) (hu : X.A.units + 3 < cLine) (hN : X.N.Nodup) (hi : PI X tg iter wi) (ok : BlkOk X.N X.env.scope scope own) (hv : ∀ i ∈ vs1, i ∈ ownS own)
    (hg : BlkX X scope fun Y => PG Y tg g) (ht : BlkX X scope fun Y => PTs Y ifs tt) (hi1 : BlkX X scope fun Y => PI Y tg1 iter1 wi1) (hg1 : BlkX X scope fun Y => PG Y tg1 g1) (ht1 : BlkX X scope fun Y => PTs Y ifs1 tt1) (he : BlkX X scope fun Y => PE Y elt te)
    (hs : ∀ x, foldedSetIterable iter X.env x = pure x := by intro _; rfl) (hs1 : ∀ env x, foldedSetIterable iter1 env x = pure x := by intro _ _; rfl) :
    PE X (.SetComp elt [⟨tg, iter, ifs, 0⟩, ⟨tg1, iter1, ifs1, 0⟩] scope pos) (tSc2 X.K X.prog X.w wi g tt wi1 g1 tt1 te (ownS own) vs1) := by
  refine ⟨fun pins s σ H Q I h => ?_⟩
  rw [PpSet.eval_SetComp]
  refine sc_enter (Q := Q) (Rd := fun J D H0 => ∃ W : Nat → Nat → Hp → Prop, (∃ m, W 0 m H0) ∧ Wlk J W (fun H => Q (.ref D) H) fun x H' Nx => g x (wipe σ (ownS own)) H' fun σ2 H2 => wipe σ2 (ownS own) = wipe σ (ownS own) ∧ tt σ2 H2 fun b H3 => if b = true then wi1 σ2 H3 fun J1 H4 => ∃ W1 : Nat → Nat → Hp → Prop, (∃ m, W1 0 m H4) ∧
      Wlk J1 W1 Nx fun x1 H5 Nx1 => g1 x1 (wipe σ2 vs1) H5 fun σ3 H6 => wipe σ3 vs1 = wipe σ2 vs1 ∧ tt1 σ3 H6 fun b1 H7 => if b1 = true then tPut X.K X.prog X.w D te σ3 H7 Nx1 else Nx1 H7
    else Nx H3)
    hc hN I hi ok hs h (fun D C s' m H' I' q hn f => ⟨m, hn, fun h'' sb => ?_⟩) fun it fp tn J D C cl s3 s4 H3 rd I4 T st4 nfp stat back => ?_
  · obtain ⟨f0, f1, f2, f3, f4, f5⟩ := f
    exact ⟨.ref D, H', I'.turned (t' := s'.toks) (fun b o hb e => (sb.2 b hb).trans e) f0 f1 f3 f4 f5, rfl, q⟩
  · obtain ⟨W, ⟨m0, w0⟩, wlk⟩ := rd
    refine clause_loop (X := X.blk s3 H3 scope (compEnvC scope cl C X.env) fp) hc (fun _ _ h => h) rfl (iter := iter)
      (act := fun kont => do
        let x ← eval iter1 (compEnvC scope cl C X.env)
        standAt iter1.pos
        let x ← foldedSetIterable iter1 (compEnvC scope cl C X.env) x
        let _ ← runOwn (.compStart (.SetComp elt [⟨tg, iter, ifs, 0⟩, ⟨tg1, iter1, ifs1, 0⟩] scope pos) 1 (← holding [x] (pyIter x)) (.ref D) (compEnvC scope cl C X.env)) (compEnvC scope cl C X.env)
        kont)
      rfl T (hg s3 H3 C cl fp) (ht s3 H3 C cl fp) stat (ok := fun σ2 => wipe σ2 (ownS own) = wipe σ (ownS own)) (body := fun {σ2 Hx s5 H5 Nx} o I2 b kont P E hk => ?_)
      knows_wipe wlk back I4 st4 nfp w0
    refine wpAny_bind (thnF ((hi1 s3 H3 C cl fp).run _ s5 σ2 H5 _ I2 b) fun xv s6 h6 => ?_)
    refine wpAny_bind (wpAny_standAt (wpAny_bind (wpAny_of_eq (hs1 _ xv) (wpAny_bind (wpAny_holding (thnF h6 fun itv s7 h7 => ?_))))))
    obtain ⟨it1, fp1, tn1, J1, H7, rfl, I7, T1, st7, f7, W1, ⟨m1, w1⟩, wlk1⟩ := h7
    refine wpAny_bind (wpAny_runOwn ?_)
    rw [Around.mark_none]
    have L : codeAny (model X.prog X.w) X.A (.compLoop (.SetComp elt [⟨tg, iter, ifs, 0⟩, ⟨tg1, iter1, ifs1, 0⟩] scope pos) 1 (.ref it1) (.ref D) (compEnvC scope cl C X.env)) (fun r s' => match r with
        | .ok _ => ∃ H', L2.Inv (X.blk s3 H3 scope (compEnvC scope cl C X.env) fp) ([] ++ pinsAt fp Hx) (wipe σ2 vs1) H' s' ∧ Nx H'
        | .error _ => False) s7 :=
      clause_loop (X := X.blk s3 H3 scope (compEnvC scope cl C X.env) fp) hc (fun _ _ h => h) rfl (iter := iter1) (act := fun kont => (do let v ← eval elt (compEnvC scope cl C X.env); standAt elt.pos; let _ ← call (.builtin "set.add") [.ref D, v]) >>= fun _ => kont) rfl T1 (hg1 s3 H3 C cl fp) (ht1 s3 H3 C cl fp) (fun hn b hb => ⟨hn b hb, (f7 b hb).2⟩) (ok := fun σ3 => wipe σ3 vs1 = wipe σ2 vs1)
        (body := fun {σ3 Hy s8 H8 Ny} o3 I8 b8 kont P E hk => wpAny_bind (thnF (put_act (X := X.blk s3 H3 scope (compEnvC scope cl C X.env) fp) hu (fun _ _ h => h) (he s3 H3 C cl fp) I8 b8) fun _ s' ⟨H', I', nx⟩ => hk s' ⟨σ3, H', I', knows_wipe o3, nx⟩))
        knows_wipe wlk1 (fun H' s' I' nx => ⟨H', I', nx⟩) (I7.weak (wipe_length _ _) fun j v e => (wipe_some e).1) st7 (fun b hb => (f7 b hb).1) w1
    have kw : Knows (wipe σ (ownS own)) (wipe σ2 vs1) := by
      refine ⟨by rw [← o, wipe_length, wipe_length], fun j v e => ?_⟩
      rw [← o] at e
      obtain ⟨e1, e2⟩ := wipe_some e
      rw [wipe_out fun z => e2 (hv j z)]
      exact e1
    refine codeAny_mono (sc_start1 L (T1.self X.A 0 _ _ _ st7 L)) fun r s' hr => ?_
    cases r with
    | error e => exact hr.elim
    | ok f =>
      obtain ⟨H', I', nx⟩ := hr
      exact hk s' ⟨wipe σ2 vs1, H', I', kw, nx⟩
end
end Om

/-! sorted of a set of tuples of ints of any lengths -/
namespace Om
open PySem PySem.Spec PyProof.Rows L2 PySem.W PySem.SeqAt
theorem perm_of_map {α β : Type} (f : α → β) : ∀ {vs ws : List β}, vs.Perm ws → ∀ L : List α, ws = L.map f → ∃ L1 : List α, L1.Perm L ∧ vs = L1.map f := by
  intro vs ws p
  induction p with
  | nil => exact fun L e => ⟨L, .refl _, e⟩
  | cons x _ ih =>
    intro L e
    cases L with
    | nil => cases e
    | cons y L =>
      injection e with e1 e2
      obtain ⟨L1, h1, h2⟩ := ih L e2
      exact ⟨y :: L1, h1.cons y, by rw [List.map_cons, ← h2, e1]⟩
  | swap x y l =>
    intro L e
    cases L with
    | nil => cases e
    | cons a L =>
      cases L with
      | nil => cases e
      | cons b L =>
        injection e with e1 e2
        injection e2 with e2 e3
        exact ⟨b :: a :: L, .swap a b L, by rw [List.map_cons, List.map_cons, ← e1, ← e2, ← e3]⟩
  | trans _ _ ih1 ih2 =>
    intro L e
    obtain ⟨L2, h3, h4⟩ := ih2 L e
    obtain ⟨L1, h1, h2⟩ := ih1 L2 h4
    exact ⟨L1, h1.trans h3, h2⟩
/-- a tuple of ints, as data -/
def itup (ns : List Int) : PyData := .tuple (ns.map .int)
theorem itup_alike (a b : List Int) : alike (itup a) (itup b) = true := by
  show alike (.tuple (a.map .int)) (.tuple (b.map .int)) = true
  rw [alike]
  exact PySem.W.alike_ints a b
theorem itup_depth (a : List Int) : (itup a).depth = 1 := by
  show (PyData.tuple (a.map .int)).depth = 1
  simp [PyData.depth, PySem.W.depth_ints]
section
variable {prog : Program} {w : World} {A : Around} {E : Value → Shared → Prop} {s : Shared}
theorem mapM_each {α β : Type} {M : Model} {f : α → Sem β} {g : α → β} : ∀ (l : List α) {Q : List β → Shared → Prop}, (∀ v ∈ l, ∀ (Q' : β → Shared → Prop), Q' (g v) s → wpAny M A (f v) Q' E s) → Q (l.map g) s → wpAny M A (l.mapM f) Q E s
  | [], _, _, h => by rw [List.mapM_nil]; exact wpAny_pure h
  | x :: l, Q, hf, h => by
    rw [List.mapM_cons]
    exact wpAny_bind (hf x (.head _) _ (wpAny_bind (mapM_each l (Q := fun bs s' => wpAny M A (pure (g x :: bs)) Q E s') (fun v hv => hf v (.tail _ hv)) (wpAny_pure h))))
/-- one tuple of ints against another, as sorting compares -/
theorem oneLt_itup {f : Bool} {x y : List Int} {a b : Value} {as bs : List Addr} {Q : Bool → Shared → Prop} (ra : Reads s.heap a (itup x) as) (rb : Reads s.heap b (itup y) bs) (hu : A.units + 1 < cLine) (hq : Q (dataLt (itup x) (itup y)) s) : wpAny (model prog w) A (oneLt' f a b) Q E s := by
  have hroom : A.units + min (itup x).depth (itup y).depth < cLine := by rw [itup_depth, itup_depth]; exact hu
  cases f with
  | false => exact oneLt_alike (fun h => nomatch h) ra rb (itup_alike x y) (fun h => nomatch h) hroom hq
  | true =>
    have hal : alikeAll (x.map PyData.int) (y.map PyData.int) = true := PySem.W.alike_ints x y
    have hq' : Q (dataLt (.tuple (x.map .int)) (.tuple (y.map .int))) s := hq
    cases ra with
    | @tuple l o vs n _ as₁ h1 h2 h3 h4 =>
      cases rb with
      | @tuple l' o' vs' n' _ bs₁ k1 k2 k3 k4 =>
        have n1 : vs.size = (x.map PyData.int).length := by simpa using ReadsAll.length _ _ _ h4
        have n2 : vs'.size = (y.map PyData.int).length := by simpa using ReadsAll.length _ _ _ k4
        rw [dataLt_tuple, ← firstLt_toks _ _ hal, ← n1, ← n2] at hq'
        obtain ⟨cls, dd, data, sl⟩ := o
        obtain ⟨cls2, dd2, data2, sl2⟩ := o'
        simp only at h2 h3 k2 k3
        subst h2 h3 k2 k3
        rw [oneLt'_eq]
        simp only [if_true]
        refine wpAny_bind (wpAny_cRoomFor (by omega) ?_)
        refine wpAny_bind (wpAny_callSpecialIfBound?_slot (T := "tuple") ⟨_, h1, rfl⟩ PySem.F.slot_tuple_lt (call_meets PySem.F.slot_tuple_lt ⟨_, h1, rfl⟩ PySem.F.entry_tuple_lt (PySem.F.args_tuple_lt_2 _ _) (tuple_ltAt l l' vs vs' n n' dd dd2 sl sl2 (pairEq (x.map .int) (y.map .int)) fun j => dataLt ((x.map PyData.int).getD j .none) ((y.map PyData.int).getD j .none)) ⟨h1, k1, fun j j1 j2 => ?_, fun j j1 j2 hj => ?_, ?_⟩))
        · have hr : A.units + min (PyData.tuple (x.map .int)).depth (PyData.tuple (y.map .int)).depth < cLine := hroom
          have := eqAt_alikeAll (x.map .int) (y.map .int) A.in1 s vs.toList vs'.toList _ _ h4 k4 hal (room_in hr) j (by simpa using j1) (by simpa using j2)
          simpa using this
        · have hr : A.units + min (PyData.tuple (x.map .int)).depth (PyData.tuple (y.map .int)).depth < cLine := hroom
          have := rcLt_alikeAll (x.map .int) (y.map .int) A.in1 s vs.toList vs'.toList _ _ h4 k4 hal (room_in hr) j (by simpa using j1) (by simpa using j2) hj
          simpa using this
        · exact wpAny_truthy_bool hq'
/-- the first item of a tuple of ints, if there is one -/
def fstI (h : Heap) (v : Value) : Option Value := match v with
  | .ref a => match h.get? a with
    | some o => match o.data with
      | .seq items _ => items[0]?
      | _ => none
    | none => none
  | _ => none
theorem first_itup {x : List Int} {a : Value} {as : List Addr} {Q : Option Value → Shared → Prop} (ra : Reads s.heap a (itup x) as) (h : Q (fstI s.heap a) s) : wpAny (model prog w) A (firstOfTuple' a) Q E s := by
  cases ra with
  | @tuple l o vs n _ as₁ h1 h2 h3 h4 =>
    have e : fstI s.heap (.ref l) = vs[0]? := by
      unfold fstI
      simp only [h1, h3]
    rw [e] at h
    rw [kas_first_eq]
    refine wpAny_bind (Looks.here (show Looks (model prog w) s.heap (typeOf (.ref l)) o.cls from (Looks.ld h1).andThen .now) ?_)
    rw [h2, if_neg (by first | decide | simp)]
    exact wpAny_bind (listItems_at h1 h3 (wpAny_pure h))
theorem fst_some {h : Heap} {x : List Int} {a : Value} {as : List Addr} (ra : Reads h a (itup x) as) : (fstI h a).isSome = !x.isEmpty := by
  cases ra with
  | @tuple l o vs n _ as₁ h1 h2 h3 h4 =>
    have e : fstI h (.ref l) = vs[0]? := by
      unfold fstI
      simp only [h1, h3]
    have n1 : vs.size = x.length := by
      have := ReadsAll.length _ _ _ h4
      simpa using this
    rw [e]
    cases x with
    | nil => rw [show vs[0]? = none from Array.getElem?_eq_none (by rw [n1]; exact Nat.zero_le _)]; rfl
    | cons y ys =>
      have hp : 0 < vs.size := by rw [n1]; exact Nat.succ_pos _
      rw [Array.getElem?_eq_getElem hp]; rfl
theorem type_itup {M : Model} {h : Heap} {x : List Int} {a : Value} {as : List Addr} (ra : Reads h a (itup x) as) : Looks M h (typeOf a) (.type "tuple") := looks_reads ra
/-- tuples of ints can be sorted, whatever their lengths are -/
theorem sorts_itups {vs : List Value} {bs : List (List Int)} (e : EachIs (fun v d => ∃ as, Reads s.heap v d as) vs (bs.map itup)) (hu : A.units + 1 < cLine) : SortsAt prog w A s (dataKind s.heap (bs.map itup)) vs := by
  have hal : AllAlike (bs.map itup) := AllAlike.of itup_alike
  by_cases hne : ∀ b ∈ bs, b ≠ []
  · refine SortsAt.data e hal (.inl fun d hd => ?_) fun d hd => ?_
    · obtain ⟨b, hb, rfl⟩ := List.mem_map.mp hd
      cases b with
      | nil => exact absurd rfl (hne _ hb)
      | cons y ys => exact ⟨_, _, rfl⟩
    · obtain ⟨b, _, rfl⟩ := List.mem_map.mp hd
      rw [itup_depth]
      exact hu
  have rd : ∀ v ∈ vs, ∃ x ∈ bs, ∃ as, Reads s.heap v (itup x) as := fun v hv => by
    obtain ⟨d, hd, as, r⟩ := e.left v hv
    obtain ⟨x, hx, rfl⟩ := List.mem_map.mp hd
    exact ⟨x, hx, as, r⟩
  have lt : ∀ f : Bool, ∀ (E : Value → Shared → Prop) (x y : Value) (a b : List (Int ⊕ List Nat)) {Q : Bool → Shared → Prop}, (dataKind s.heap (bs.map itup)).keyOf x = some a → (dataKind s.heap (bs.map itup)).keyOf y = some b → Q ((dataKind s.heap (bs.map itup)).blt a b) s → wpAny (model prog w) A (oneLt' f x y) Q E s := by
    intro f E x y a b Q ha hb hq
    obtain ⟨d, as, hd, ra, rfl⟩ := dataKind_inv ha
    obtain ⟨d', as', hd', rb, rfl⟩ := dataKind_inv hb
    obtain ⟨p, _, rfl⟩ := List.mem_map.mp hd
    obtain ⟨q, _, rfl⟩ := List.mem_map.mp hd'
    exact oneLt_itup ra rb hu hq
  have keys : ∀ v, v ∈ vs → ∃ a, (dataKind s.heap (bs.map itup)).keyOf v = some a := fun v hv => by
    obtain ⟨d, hd, as, r⟩ := e.left v hv
    exact ⟨_, dataKind_some hal hd r⟩
  have some_nil : ∃ v ∈ vs, (fstI s.heap v).isSome = false := by
    refine Classical.byContradiction fun hn => hne fun b hb e2 => hn ?_
    subst e2
    have : ∀ {vs : List Value} {bs : List (List Int)}, EachIs (fun v d => ∃ as, Reads s.heap v d as) vs (bs.map itup) → [] ∈ bs → ∃ v ∈ vs, (fstI s.heap v).isSome = false := by
      intro vs bs
      induction bs generalizing vs with
      | nil => exact fun _ hb => absurd hb (by simp)
      | cons b bs ih =>
        intro e hb
        cases e with
        | @cons v _ vs' _ h t =>
          rcases List.mem_cons.mp hb with z | z
          · subst z
            obtain ⟨as, r⟩ := h
            exact ⟨v, List.mem_cons_self, by rw [fst_some r]; rfl⟩
          · obtain ⟨u, hu, k⟩ := ih t z
            exact ⟨u, List.mem_cons_of_mem _ hu, k⟩
    exact this e hb
  obtain ⟨v0, hv0, k0⟩ := some_nil
  have hall : ¬ (((vs.map (fstI s.heap)).toArray.all fun x => x.isSome) = true) := by
    simp only [List.all_toArray, List.all_map, List.all_eq_true]
    intro h
    have := h v0 hv0
    simp only [Function.comp] at this
    rw [k0] at this
    cases this
  have first : ∀ (E : Value → Shared → Prop) {Q : List (Option Value) → Shared → Prop}, Q (vs.map (fstI s.heap)) s → wpAny (model prog w) A (vs.mapM firstOfTuple') Q E s := fun E Q h => mapM_each vs (fun v hv Q' q => by
    obtain ⟨x, _, as, r⟩ := rd v hv
    exact first_itup r q) h
  by_cases h0 : (((vs.map (fstI s.heap)).toArray[0]?).bind id).isSome = true
  · refine ⟨keys, general', fun E x y a b Q ha hb hq => lt false E x y a b ha hb hq, fun h2 E Q hq => ?_⟩
    rw [keyKind'_eq, List.mapM_toArray, map_eq_pure_bind]
    refine wpAny_bind (wpAny_bind (first E (wpAny_pure ?_)))
    rw [if_neg hall, if_pos h0]
    exact wpAny_pure hq
  · refine ⟨keys, oneType', fun E x y a b Q ha hb hq => by rw [keyLt'_oneType]; exact lt true E x y a b ha hb hq, fun h2 E Q hq => ?_⟩
    rw [keyKind'_eq, List.mapM_toArray, map_eq_pure_bind]
    refine wpAny_bind (wpAny_bind (first E (wpAny_pure ?_)))
    rw [if_neg hall, if_neg h0]
    rw [oneTypeOnly'_eq, List.mapM_toArray, map_eq_pure_bind]
    refine wpAny_bind (wpAny_bind (wpAny_bind (kas_mapM (r := Value.type "tuple") _ (fun v hv Q' q => by
      obtain ⟨x, _, as, r⟩ := rd v hv
      exact (type_itup r).here q) (wpAny_pure ?_))))
    obtain ⟨v₁, rest, e1⟩ : ∃ v₁ rest, vs = v₁ :: rest := by
      cases vs with
      | nil => simp at h2
      | cons v r => exact ⟨v, r, rfl⟩
    subst e1
    have hall2 : ((List.map (fun _ => Value.type "tuple") (v₁ :: rest)).toArray.all fun x => x == Value.type "tuple") = true := by
      simp only [List.all_toArray, List.all_map, List.all_eq_true]
      intro _ _
      exact beq_self_eq_true _
    have h0 : (List.map (fun _ => Value.type "tuple") (v₁ :: rest)).toArray[0]? = some (Value.type "tuple") := by simp
    rw [h0]
    simp only [hall2, if_true]
    exact wpAny_pure (wpAny_pure hq)
/-- sorted(a set of tuples of ints): a list of its members -/
theorem sorted_setG {P : Program} {w : World} {A : Around} {E : Value → Shared → Prop} {s : Shared} {a : Addr} {L : List (Addr × List Int)} {es : Array (Int × Value)} {ep : Nat} {t : SetTable} {Q : Value → Shared → Prop} (R : SetTR P w s.heap a L es ep t) (hh : A.handled = none) (hu : A.units + 64 < cLine)
    (hQ : ∀ s' p (out : Array Value) (c : Nat) (L' : List (Addr × List Int)), (∀ b o, s.heap.get? b = some o → s'.heap.get? b = some o) → s'.gens = s.gens → s'.os = s.os → s.heap.objs.size ≤ p →
      s'.heap.get? p = some (seqObj "list" out c) → out.toList = L'.map (fun q => Value.ref q.1) → L'.Perm L → Q (.ref p) s') :
    wpAny (model P w) A (call (.builtin "sorted") [.ref a]) Q E s := by
  obtain ⟨o, ho, hex, hd⟩ := R.ob
  have hsz := R.size
  have hfew := R.few
  refine Calls.call_function_entry kind_sorted plain_sorted entry_sorted (args_sorted1 _) ?_
  unfold Builtin.«sorted»
  refine wpAny_bind (m := checkCount "sorted" 1 1 _) (wpAny_pure ?_)
  refine wpAny_bind (collect_set (A := A.in1) hh ⟨o, ho, hex.1, hd⟩ R.fits (by unfold scanBound; omega) R.tab.ris R.led fun s1 vs k1 hz g1 o1 pm => ?_)
  have hes : es.toList.map (·.2) = L.map fun q => Value.ref q.1 := by
    rw [R.rows]
    unfold L2.rowsOf
    rw [List.map_map]
    rfl
  rw [hes] at pm
  obtain ⟨L1, p1, e1⟩ := perm_of_map (fun q : Addr × List Int => Value.ref q.1) pm L rfl
  have hvl : vs.length ≤ sizeLine := by rw [e1, List.length_map, p1.length_eq, sizeLine_eq]; omega
  refine wpAny_bind (wpAny_newList ?_ hvl)
  have hoL : (s1.heap.push (seqObj "list" vs.toArray 0)).get? s1.heap.objs.size = some (seqObj "list" vs.toArray 0) := Heap.get?_push_size _ rfl
  have old : ∀ b u, s.heap.get? b = some u → (s1.heap.push (seqObj "list" vs.toArray 0)).get? b = some u := fun b u e => Heap.get?_push_of_some _ (k1 b u e)
  have rdAll : ∀ (h' : Heap), (∀ b u, s.heap.get? b = some u → b ≠ s1.heap.objs.size → h'.get? b = some u) → ∀ q ∈ L, ∃ as, Reads h' (.ref q.1) (itup q.2) as := by
    intro h' hk q hq
    obtain ⟨b, items, n, hb⟩ := id (R.tup q hq)
    obtain ⟨hbo, hbc, hbd, hbi⟩ := hb
    have hne : q.1 ≠ s1.heap.objs.size := fun z => by
      have := Heap.lt_size (k1 _ _ hbo)
      rw [z] at this
      exact absurd this (Nat.lt_irrefl _)
    have rdI : ∀ (ks : List Int) (us : List Value), ItemsAre (intKind P w) ks us → ∃ as, ReadsAll h' us (ks.map PyData.int) as := by
      intro ks us it
      induction it with
      | nil => exact ⟨_, .nil⟩
      | @cons k u ks us h1 _ ih =>
        obtain ⟨as, r⟩ := ih
        have hi : Value.isInt k u = true := h1
        obtain ⟨tk, rfl⟩ := Value.isInt_shape hi
        exact ⟨_, .cons (.int _ _) r⟩
    obtain ⟨as, r⟩ := rdI _ _ hbi
    exact ⟨_, .tuple (hk _ _ hbo hne) hbc hbd r⟩
  have eachR : ∀ (h' : Heap), (∀ b u, s.heap.get? b = some u → b ≠ s1.heap.objs.size → h'.get? b = some u) → ∀ L2 : List (Addr × List Int), (∀ q ∈ L2, q ∈ L) → EachIs (fun v d => ∃ as, Reads h' v d as) (L2.map fun q => Value.ref q.1) ((L2.map (·.2)).map itup) := by
    intro h' hk L2
    induction L2 with
    | nil => exact fun _ => .nil
    | cons q L2 ih => exact fun hs => .cons (rdAll h' hk q (hs q List.mem_cons_self)) (ih fun r hr => hs r (List.mem_cons_of_mem _ hr))
  have hk2 : ∀ b u, s.heap.get? b = some u → b ≠ s1.heap.objs.size → (sortingHeap (s1.heap.push (seqObj "list" vs.toArray 0)) s1.heap.objs.size vs).get? b = some u := fun b u e hb => sortingHeap_old hb (old b u e)
  have e2 := eachR _ hk2 L1 fun q hq => p1.mem_iff.mp hq
  rw [← e1] at e2
  have units1 : A.in1.in1.units + 1 < cLine := by show A.units + 1 + 1 + 1 < cLine; omega
  have R' : EachIs (fun (v : Value) (q : Addr × List Int) => v = Value.ref q.1) vs L1 := by
    rw [e1]
    clear e1 e2 hvl p1
    induction L1 with
    | nil => exact .nil
    | cons q L1 ih => exact .cons rfl ih
  have eb : (L1.map (·.2)).map itup = L1.map fun q => itup q.2 := by rw [List.map_map]; rfl
  have er : EachIs (fun (v : Value) (q : Addr × List Int) => ∃ as, Reads (sortingHeap (s1.heap.push (seqObj "list" vs.toArray 0)) s1.heap.objs.size vs) v (itup q.2) as) vs L1 := by
    have : ∀ {vs : List Value} {L1 : List (Addr × List Int)} {h' : Heap}, EachIs (fun v d => ∃ as, Reads h' v d as) vs ((L1.map (·.2)).map itup) → EachIs (fun (v : Value) (q : Addr × List Int) => ∃ as, Reads h' v (itup q.2) as) vs L1 := by
      intro vs L1 h'
      induction L1 generalizing vs with
      | nil => intro e; cases e; exact .nil
      | cons q L1 ih => intro e; cases e with | cons h t => exact .cons h (ih t)
    exact this e2
  have S := sorts_itups (prog := P) (w := w) (A := A.in1.in1) (s := { s1 with heap := sortingHeap (s1.heap.push (seqObj "list" vs.toArray 0)) s1.heap.objs.size vs }) e2 units1
  refine wpAny_bind (wpAny_holding (wpAny_call_entry (s := { s1 with heap := s1.heap.push (seqObj "list" vs.toArray 0) }) slot_list_sort ⟨_, hoL, rfl⟩ entry_list_sort (list_sort_vals hoL S hvl ⟨.none, rfl, ?_⟩) (args_list_sort _)))
  have out := sortVals_data (enc := fun q : Addr × List Int => itup q.2) false R' er (by rw [← eb]; exact AllAlike.of itup_alike)
  rw [eb]
  generalize hov : sortVals (dataKind (sortingHeap (s1.heap.push (seqObj "list" vs.toArray 0)) s1.heap.objs.size vs) (L1.map fun q => itup q.2)) false vs vs = ov at out ⊢
  obtain ⟨c, hc⟩ := sortedHeap_at (vs := vs) (out := ov.toArray) hoL
  have eo : ∀ {ov : List Value} {L2 : List (Addr × List Int)}, EachIs (fun (v : Value) (q : Addr × List Int) => v = Value.ref q.1) ov L2 → ov = L2.map fun q => Value.ref q.1 := by
    intro ov L2 e
    induction e with
    | nil => rfl
    | cons h _ ih => rw [h, ih]; rfl
  refine wpAny_pure ⟨_, rfl, hQ _ s1.heap.objs.size ov.toArray c (L1.mergeSort (dataLe false fun q => itup q.2)) (fun b u e => ?_) g1 o1 hz hc (by simpa using eo out) ((List.mergeSort_perm _ _).trans p1)⟩
  have q := k1 b u e
  have hlt := Heap.lt_size q
  show (sortedHeap (s1.heap.push (seqObj "list" vs.toArray 0)) s1.heap.objs.size vs ov.toArray).get? b = some u
  rw [sortedHeap_old (Nat.ne_of_lt hlt) (by rw [size_push']; exact Nat.lt_succ_of_lt hlt)]
  exact Heap.get?_push_of_some _ q
end
/-! ### over the layer -/
/-- sorted(a set of tuples of ints): a new list of its members, in some order -/
def rSortSet (K : PySem.W.Frag) (P : Program) (w : World) : List V → Hp → VK → Prop := fun vs H Q => ∃ (a : Addr) (L : List (Addr × List Int)), vs = [V.ref a] ∧ H a = some (SetTO P w a L) ∧ (∀ p ∈ L, SqT K H p.1 (p.2.map V.int)) ∧
  ∀ (L' : List (Addr × List Int)) (p : Addr), L'.Perm L → (L'.map (·.2)).Nodup → H p = none → Q (.ref p) (upd H p (.lst (L'.map fun q => V.ref q.1)))
theorem cr_sortSet {X : Cx} (hc : X.calm = true) (hu : X.A.units + 64 < cLine) : CallR X (.builtin "sorted") (rSortSet X.K X.prog X.w) := by
  intro pins s σ H vs us Q I r h
  obtain ⟨a, L, rfl, ha, hk, q⟩ := h
  have R0 : SetT0 X.prog X.w s.heap a L := (I.hok a _ ha).1
  obtain ⟨es, ep, t, R⟩ := R0.full fun p hp => I.isT (hk p hp)
  rw [Vals.ref1 r]
  refine sorted_setG R (I.ok.hd hc) hu fun s' p out c L' k g o hp hg hout pm => ?_
  have hlen : (L'.map fun q => V.ref q.1).length ≤ sizeLine := by rw [List.length_map, pm.length_eq, sizeLine_eq]; have := R.few; omega
  have hn : H p = none := I.hok.fresh hp
  have hv : Vals (L'.map fun q => V.ref q.1) out.toList := by rw [hout]; exact vals_of_refs L'
  have J : Inv X pins σ (upd H p (.lst (L'.map fun q => V.ref q.1))) { s with heap := s'.heap, gens := s'.gens, drawn := s'.drawn, toks := s'.toks } :=
    I.call (ch := []) (Un.laid k hp hn) (I.hok.laid k hp ⟨hlen, out.toList, c, hv, hg⟩) (by rw [g]; exact I.bare) (fun _ z => nomatch z)
  have e : s' = { s with heap := s'.heap, gens := s'.gens, drawn := s'.drawn, toks := s'.toks } := by
    cases s'
    cases s
    cases o
    rfl
  rw [e]
  exact ⟨.ref p, _, J, rfl, q L' p pm ((pm.map (·.2)).nodup_iff.mpr R.nd) hn⟩
end Om

/-! list(d.values()) -/
namespace Om
open PySem PySem.Spec PyProof.Rows L2
def rValuesL : V → Hp → VK → Prop := fun x H Q => ∃ (d : Addr) (kvs : List (Key × V)), x = .ref d ∧ H d = some (.dK kvs) ∧ ∀ p, H p = none → Q (.ref p) (upd H p (.lst (kvs.map Prod.snd)))
def tListValues (te : TE) : TE := fun σ H Q => te σ H fun x H1 => rValuesL x H1 Q
theorem vals_of_kv {P : Program} {w : World} : ∀ {kvs : List (Key × V)} {vs : List (Key × Value)}, KV kvs vs → ∀ {us : List Value}, us.length = vs.length → (∀ (j : Nat) u, us[j]? = some u → ∃ k, vs[j]? = some (k, u)) → Vals (kvs.map Prod.snd) us := by
  intro kvs vs h
  unfold KV at h
  induction h with
  | nil =>
    intro us hl _
    rw [List.length_eq_zero_iff.mp hl]
    exact .nil
  | @cons p q ps qs hpq t ih =>
    intro us hl hu
    cases us with
    | nil => cases hl
    | cons u us =>
      obtain ⟨k, e⟩ := hu 0 u rfl
      have e : q = (k, u) := Option.some.inj e
      refine .cons ?_ (ih (Nat.succ.inj hl) fun j v hv => hu (j + 1) v hv)
      have := hpq.2
      rw [e] at this
      exact this
section
variable {X : Cx} {e : Expr} {te : TE} {p apos cpos pos : Pos}
theorem pe_listValues (hc : X.calm = true) (he : PE X e te) (hg : Gl X "list") (hm : X.mg "list" = none) (hv : bootBuiltins "list" = some (.type "list")) (hbase : attributeBase e "values" X.env (eval e X.env) = eval e X.env := by rfl) (hline : (apos.endLine == cpos.line) = true := by rfl)
    (hs : starEach [.Call (.Attribute e "values" apos) [] [] cpos] X.env = (false, eval (.Call (.Attribute e "values" apos) [] [] cpos) X.env) :: starEach [] X.env := by rfl) :
    PE X (.Call (.Name "list" p) [.Call (.Attribute e "values" apos) [] [] cpos] [] pos) (tListValues te) := by
  refine ⟨fun pins s σ H Q I hq => ?_⟩
  refine wpAny_Call_Name_kw (ld_blt I hg hm hv ?_)
  refine PyProof.Rows.callWith_type1 ?_ hs rfl
  rw [hs]
  show wpAny _ _ (spliced ((false, eval (.Call (.Attribute e "values" apos) [] [] cpos) X.env) :: backTo pos (starEach [] X.env))) _ _ s
  refine Calls.spliced_cons ?_
  refine wpAny_Call_method (T := "dict") (id := "dict.values") hbase rfl hline F.plainAttrs_dict F.slot_dict_values F.type_dict_values (thn (he.run pins s σ H _ I hq) fun u s1 ⟨x, H1, I1, rx, d, kvs, ex, hd, q⟩ => ?_)
  subst ex
  obtain rfl : u = Value.ref d := rx
  obtain ⟨hz, hs0, vs, kv, hdo⟩ := I1.hok d _ hd
  have lk : kvs.length = vs.length := Paired.length kv
  obtain ⟨es, ep, raw, hsz, hent⟩ := hdo.raw
  refine ⟨hdo.typeIs, hdo.mapOf.noDict, ?_⟩
  show wpAny _ _ (callWith cpos (.builtin "dict.values") [.ref d] [] []) _ X.xe s1
  refine method_meetsIn F.slot_dict_values F.entry_dict_values rfl (PySem.evalArgs_none ⟨rfl, hdo.typeIs, F.args_dict_values_1 _, _, meets_dict_values (mixKind X.prog X.w) d hs0, ⟨vs, hdo⟩, ?_⟩)
  refine Calls.spliced_nil ?_
  have hle : es.size ≤ sizeLine := by rw [hsz, ← lk]; exact hz
  have gone : ∀ b o, s1.heap.get? b = some o → (s1.heap.push { cls := .type "dict_values", data := .fields #[.ref d] }).get? b = some o := fun b o q => Heap.get?_push_of_some _ q
  refine PySem.W.kdl_call (s := { s1 with heap := s1.heap.push { cls := .type "dict_values", data := .fields #[.ref d] } }) (KdlSrc.rawValues (prog := X.prog) (w := X.w) (r := s1.heap.objs.size) (d := d) (es := es) (ep := ep)) (I1.ok.hd hc) ⟨⟨_, Heap.get?_push_size _ rfl, rfl, rfl⟩, raw.at fun o q => gone _ _ q⟩ hle fun h' tk acc c hk hS hacc => ?_
  have hp : s1.heap.objs.size ≤ (s1.heap.push { cls := .type "dict_values", data := .fields #[.ref d] }).objs.size := by rw [Heap.size_push]; exact Nat.le_succ _
  have hsa : acc.toList.length = vs.length := by rw [Array.length_toList, hacc.1, hsz]
  have hv2 : Vals (kvs.map Prod.snd) acc.toList := vals_of_kv (P := X.prog) (w := X.w) kv hsa fun j u hj => by
    rw [Array.getElem?_toList] at hj
    obtain ⟨hi, hu⟩ := hacc.2 j u hj
    have hjv : j < vs.length := by rw [← hsz]; exact hi
    obtain ⟨_, e2⟩ := hent j hi vs[j].1 vs[j].2 (by rw [List.getElem?_eq_getElem hjv])
    exact ⟨vs[j].1, by rw [List.getElem?_eq_getElem hjv, hu, e2]⟩
  have hn := I1.hok.fresh hp
  exact ⟨.ref _, upd H1 _ (.lst (kvs.map Prod.snd)), I1.laid (t' := tk) (fun b o q => hk b o (gone b o q)) hp ⟨by rw [List.length_map]; exact hz, acc.toList, c, hv2, by rw [Array.toArray_toList]; exact hS⟩, rfl, q _ hn⟩
end
end Om

/-! {k: v for target in iter if ..}, the keys tuples of ints and texts -/
namespace Om
open PySem PySem.Spec PyProof.Rows L2
section
variable {X : Cx}
theorem d_setT {pins : List (Addr × Obj)} {σ : L2.St} {H : Hp} {s : Shared} {E : Value → Shared → Prop} {D b : Addr} {kvs : List (List L2.Key × V)} {k : List L2.Key} {v : V} {r : Value} {Q : Unit → Shared → Prop} (I : Inv X pins σ H s) (hu : X.A.units + 1 < cLine) (hD : H D = some (.dT kvs)) (hb : H b = some (.tup (k.map kV))) (hl : kvs.length < sizeLine)
    (rv : RelV v r) (h : ∀ s', Inv X pins σ (upd H D (.dT (putK kvs k v))) s' → Q () s') : wpAny (model X.prog X.w) X.A (dictSet D (.ref b) r) Q E s := by
  obtain ⟨z, hd, xs, rel, dd⟩ := dt_of I.hok hD
  have hz : xs.length ≤ sizeLine := by rw [← Paired.length rel]; exact z
  have hl2 : (putK kvs k v).length ≤ sizeLine := by have := length_putK kvs k v; omega
  refine wpAny_dictSet_heap (hsz := hz) (show _ < cLine from by omega) (key_of I.hok hb) dd fun h' dd' hs => h _ ?_
  obtain ⟨q, es, ep, hq, h2, h3, h4, _, h5⟩ := dd'
  refine d_write I (by rw [hD]; exact True.intro) hs ⟨q, hq⟩ ⟨hl2, hd, _, (rel.put k hb rv).keeps fun c ys ec => ?_, q, es, ep, hq, h2, h3, h4, h5⟩
  rw [upd_ne (ne_of ec hD (fun z => nomatch z))]
  exact ec
end
theorem clauseD_loop {X : Cx} (hc : X.calm = true) (hxe : ∀ e s, ¬ X.xe e s) {kx vx : Expr} {cs : List Comprehension} {scope : Scope} {pos : Pos} {node : Expr} (en : node = .DictComp kx vx cs scope pos) {k : Nat} {tg iter : Expr} {ifs : List Expr} {it : Addr} {acc : Value} {act : Sem PySem.Fin → Sem PySem.Fin} {R : PySem.Result → Shared → Prop}
    (hturn : compTurn node k (.ref it) acc X.env = clauseTurn node k tg iter ifs (.ref it) acc X.env act)
    {pins : List (Addr × Obj)} {σ0 : L2.St} {fp : List Addr} {tn : Nat → Heap → Prop} {J : It} (T : Turn X.prog X.w X.K tg J fp it tn) {g : TG} {tt : TT} (pg : PG X tg g) (pt : PTs X ifs tt)
    (stat : ∀ {H' : Hp}, (∀ b ∈ fp, H' b = none) → ∀ b ∈ fp, FpOk X pins H' b)
    {Fin : Hp → Prop} {ok : L2.St → Prop} {Body : L2.St → Hp → (Hp → Prop) → Prop}
    (body : ∀ {σ2 : L2.St} {Hx : Heap} {s : Shared} {H : Hp} {Nx : Hp → Prop}, ok σ2 → Inv X (pins ++ pinsAt fp Hx) σ2 H s → Body σ2 H Nx → ∀ (kont : Sem PySem.Fin) (P : PySem.Fin → Shared → Prop) (E : Value → Shared → Prop), (∀ s', (∃ σ' H', Inv X (pins ++ pinsAt fp Hx) σ' H' s' ∧ Knows σ0 σ' ∧ Nx H') → wpAny (model X.prog X.w) X.A kont P E s') → wpAny (model X.prog X.w) X.A (act kont) P E s)
    (hok : ∀ {σ2 : L2.St}, ok σ2 → Knows σ0 σ2) {W : Nat → Nat → Hp → Prop}
    (turn : ∀ i m H, W i m H → (J.stop i H ∧ Fin H) ∨ (J.go i H ∧ ∃ Nx : Hp → Prop, (∀ H', Nx H' → ∃ m', m' < m ∧ W (i + 1) m' H') ∧ ∀ x H', J.yld i H x H' → g x σ0 H' fun σ2 H2 => ok σ2 ∧ tt σ2 H2 fun b H3 => if b = true then Body σ2 H3 Nx else Nx H3))
    (hend : ∀ H' s', Inv X pins σ0 H' s' → Fin H' → R (.ok .next) s')
    {s : Shared} {H : Hp} {m0 : Nat} (I : Inv X pins σ0 H s) (st : tn 0 s.heap) (nfp : ∀ b ∈ fp, H b = none) (w0 : W 0 m0 H) :
    codeAny (model X.prog X.w) X.A (.compLoop node k (.ref it) acc X.env) R s := by
  subst en
  refine codeAny_loop rfl (fun n s' => ∃ i H', Inv X pins σ0 H' s' ∧ tn i s'.heap ∧ (∀ b ∈ fp, H' b = none) ∧ W i n H') ?_ m0 ⟨0, H, I, st, nfp, w0⟩
  rintro n s5 ⟨i, H5, I5, st5, n5, w5⟩
  show wpAny _ X.A ((compTurn (.DictComp kx vx cs scope pos) k (.ref it) acc X.env).onRaise (fun x => do noteFrame x X.env; theTreesLotGoes x)) _ _ s5
  refine wpAny_noted ?_
  rw [hturn]
  unfold clauseTurn
  refine wpAny_bind (wpAny_standAt (wpAny_bind ?_))
  rcases turn i n H5 w5 with ⟨stop, qq⟩ | ⟨go, Nx, hNx, step⟩
  · refine thnF (T.done X rfl rfl rfl hc i pins s5 σ0 H5 (fun _ _ => False) I5 (stat n5) st5 stop) fun r s6 ⟨hr, I6⟩ => ?_
    subst hr
    exact wpAny_pure (hend H5 s6 I6 qq)
  · refine thnF (T.item X rfl rfl rfl hc i pins s5 σ0 H5 (fun _ _ => False) I5 (stat n5) st5 go) fun r s6 ⟨u, hr, h6⟩ => ?_
    subst hr
    dsimp only
    refine wpAny_bind (thnF h6 fun _ s7 ⟨x, H7, I7, r7, y7, st7, n7⟩ => ?_)
    have I7' := I7.pinned (stat n7) (T.obj _ _ st7)
    have fin : ∀ {σ' : L2.St} {s' : Shared} {H' : Hp}, Inv X (pins ++ pinsAt fp s7.heap) σ' H' s' → Knows σ0 σ' → Nx H' → ∃ m, m < n ∧ ∃ i H', Inv X pins σ0 H' s' ∧ tn i s'.heap ∧ (∀ b ∈ fp, H' b = none) ∧ W i m H' := fun {σ' s' H'} I' kn nx => by
      obtain ⟨m', hm, w'⟩ := hNx H' nx
      have held : ∀ b ∈ fp, ∀ o, s7.heap.get? b = some o → s'.heap.get? b = some o ∧ H' b = none := fun b hb o e =>
        ⟨(I'.pin (b, o) (List.mem_append_right _ (List.mem_append_right _ (mem_pinsAt hb e)))).1, (I'.pin (b, o) (List.mem_append_right _ (List.mem_append_right _ (mem_pinsAt hb e)))).2.1⟩
      refine ⟨m', hm, i + 1, H', I'.unpinned.weak kn.1 kn.2, T.keep _ _ _ st7 fun b hb o e => (held b hb o e).1, fun b hb => ?_, w'⟩
      obtain ⟨o, e, _⟩ := T.obj _ _ st7 b hb
      exact (held b hb o e).2
    refine wpAny_bind (thnE hxe (pg.run _ s7 σ0 H7 x u _ I7' r7 (step x H7 y7)) fun _ s8 ⟨σ8, H8, I8, k8, q8⟩ => ?_)
    refine wpAny_bind (thnE hxe (pt.run _ s8 σ8 H8 _ I8 q8) fun b s9 ⟨H9, I9, q9⟩ => ?_)
    cases b with
    | false => exact wpAny_pure ⟨rfl, fin I9 (hok k8) q9⟩
    | true => exact body k8 I9 q9 _ _ _ fun s' ⟨σ', H', I', kn, nx⟩ => wpAny_pure ⟨rfl, fin I' kn nx⟩
section
variable {X : Cx}
/-- a pair comes into the dict at D -/
def tPutT (D : Addr) (tk tv : TE) : L2.St → Hp → (Hp → Prop) → Prop := fun σ H Nx => tk σ H fun y H4 => tv σ H4 fun z H5 => ∃ (b : Addr) (kvs : List (List L2.Key × V)) (k : List L2.Key), y = .ref b ∧ H5 b = some (.tup (k.map kV)) ∧ H5 D = some (.dT kvs) ∧ kvs.length < sizeLine ∧ Nx (upd H5 D (.dT (putK kvs k z)))
def tDcT (wi : TI) (g : TG) (tt : TT) (tk tv : TE) (vs : List Nat) : TE := fun σ H Q => wi σ H fun J H1 => ∀ D, H1 D = none → ∃ W : Nat → Nat → Hp → Prop, (∃ m, W 0 m (upd H1 D (.dT []))) ∧
  Wlk J W (fun H => Q (.ref D) H) fun x H' Nx => g x (wipe σ vs) H' fun σ2 H2 => wipe σ2 vs = wipe σ vs ∧ tt σ2 H2 fun b H3 => if b = true then tPutT D tk tv σ2 H3 Nx else Nx H3
theorem pe_dcT {kx vx tg iter : Expr} {ifs : List Expr} {scope : Scope} {own : List (Str × Nat)} {pos : Pos} {wi : TI} {g : TG} {tt : TT} {tk tv : TE} (hc : X.calm = true) (hu : X.A.units + 3 < cLine) (hN : X.N.Nodup) (hi : PI X tg iter wi) (ok : BlkOk X.N X.env.scope scope own)
    (hg : BlkX X scope fun Y => PG Y tg g) (ht : BlkX X scope fun Y => PTs Y ifs tt) (hk : BlkX X scope fun Y => PE Y kx tk) (he : BlkX X scope fun Y => PE Y vx tv) (hs : ∀ x, foldedSetIterable iter X.env x = pure x := by intro _; rfl) :
    PE X (.DictComp kx vx [⟨tg, iter, ifs, 0⟩] scope pos) (tDcT wi g tt tk tv (ownS own)) := by
  refine ⟨fun pins s σ H Q I h => ?_⟩
  rw [arm_eval_DictComp]
  have cells : ∀ y ∈ scope.names, y.2 = .free → ∃ c, X.env.cells.lookup y.1 = some c := fun y hy e => (ok.free y hy e).elim (fun k => I.ok.has _ (.inl k)) fun k => I.ok.has _ (.inr k)
  refine wpAny_comprehension_free rfl hs (closure_ok cells) ok.kind (fun y hy e => by rw [ok.uniq y hy, e])
    (thn (hi.run pins s σ H _ I h) fun xv s1 hx => thn hx fun itv s2 h2 => ?_)
  obtain ⟨it, fp, tn, J, H2, rfl, I2, T, st2, f2, q⟩ := h2
  refine wpAny_newObj_type (newEnv_comp ?_)
  have hn2 : H2 s2.heap.objs.size = none := I2.hok.fresh (Nat.le_refl _)
  obtain ⟨W, ⟨m0, w0⟩, wlk⟩ := q _ hn2
  have I3 : Inv X pins σ (upd H2 s2.heap.objs.size (.dT [])) { s2 with heap := s2.heap.push { cls := .type "dict", data := .dict #[] } } :=
    I2.laid (t' := s2.toks) (fun b o e => Heap.get?_push_of_some _ e) (Nat.le_refl _) (dt_empty s2.heap I2.big)
  have below : ∀ b ∈ fp, b < s2.heap.objs.size := fun b hb => by
    obtain ⟨o, e, _⟩ := T.obj _ _ st2 b hb
    exact Heap.lt_size e
  have st3 : tn 0 (s2.heap.push { cls := .type "dict", data := .dict #[] }) := T.keep _ _ _ st2 fun b _ o e => Heap.get?_push_of_some _ e
  have f3 : ∀ b ∈ fp, FpOk X pins (upd H2 s2.heap.objs.size (.dT [])) b ∧ b < (s2.heap.push { cls := .type "dict", data := .dict #[] }).objs.size := fun b hb =>
    ⟨⟨by rw [upd_ne (Nat.ne_of_lt (below b hb))]; exact (f2 b hb).1, (f2 b hb).2⟩, by rw [Heap.size_push]; exact Nat.lt_succ_of_lt (below b hb)⟩
  generalize hS3 : ({ s2 with heap := s2.heap.push { cls := .type "dict", data := .dict #[] } } : Shared) = s3 at I3
  have hh3 : s2.heap.push { cls := .type "dict", data := .dict #[] } = s3.heap := by rw [← hS3]
  rw [hh3] at st3 f3
  generalize s2.heap.objs.size = D at I3 f3 w0 wlk hn2 ⊢
  generalize hH3 : upd H2 D (.dT []) = H3 at I3 f3 w0
  have I4 := block_start I3 ok hN f3
  have st4 : tn 0 (pushCells (s3.heap.push { cls := .type "dict", data := .dict #[] }) scope.names) := T.keep _ _ _ st3 fun b _ o e => pushCells_keeps _ _ _ _ (Heap.get?_push_of_some _ e)
  have nfp : ∀ b ∈ fp, H3 b = none := fun b hb => (f3 b hb).1.1
  have back : ∀ H5 s6, Inv (X.blk s3 H3 scope (compEnvC scope (cellsFrom (s3.heap.objs.size + 1) scope.names (cloFrom X.env.cells scope.names [])) s3.heap.objs.size X.env) fp) [] (wipe σ (ownS own)) H5 s6 → Q (.ref D) H5 →
      compPost (model X.prog X.w) X.A X.xe none (EP X pins σ Q) (.ref D) s3.heap.objs.size (.ok .next) s6 := fun H5 s6 I6 qq => by
    have I7 : Inv X pins σ H5 s6 := I3.call' (ch := fp) I6.os I6.base I6.hok I6.bare fun b hb => ⟨(f3 b hb).1.2.2.2.1, (f3 b hb).1.2.1, (f3 b hb).1.2.2.2.2.1, (f3 b hb).1.2.2.2.2.2⟩
    have nC : H5 s3.heap.objs.size = none := I6.free
    obtain ⟨m, hn, _⟩ := I6.loc
    obtain ⟨f0, f1, f2, f3', f4, f5⟩ := I3.fpOk (Nat.le_refl _) nC
    exact ⟨m, hn, fun h'' sb => ⟨.ref D, H5, I7.turned (t' := s6.toks) (fun b o hb e => (sb.2 b hb).trans e) f0 f1 f3' f4 f5, rfl, qq⟩⟩
  show codeAny _ _ (.compStart (.DictComp kx vx [⟨tg, iter, ifs, 0⟩] scope pos) 0 (.ref it) (.ref D) (compEnvC scope (cellsFrom (s3.heap.objs.size + 1) scope.names (cloFrom X.env.cells scope.names [])) s3.heap.objs.size X.env)) (compPost (model X.prog X.w) X.A X.xe none (EP X pins σ Q) (.ref D) s3.heap.objs.size) { s3 with heap := pushCells (s3.heap.push { cls := .type "dict", data := .dict #[] }) scope.names }
  have L : codeAny (model X.prog X.w) X.A (.compLoop (.DictComp kx vx [⟨tg, iter, ifs, 0⟩] scope pos) 0 (.ref it) (.ref D) (compEnvC scope (cellsFrom (s3.heap.objs.size + 1) scope.names (cloFrom X.env.cells scope.names [])) s3.heap.objs.size X.env)) (compPost (model X.prog X.w) X.A X.xe none (EP X pins σ Q) (.ref D) s3.heap.objs.size) { s3 with heap := pushCells (s3.heap.push { cls := .type "dict", data := .dict #[] }) scope.names } := by
    generalize cellsFrom (s3.heap.objs.size + 1) scope.names (cloFrom X.env.cells scope.names []) = cl at I4 back ⊢
    generalize s3.heap.objs.size = C at I4 back ⊢
    exact clauseD_loop (X := X.blk s3 H3 scope (compEnvC scope cl C X.env) fp) hc (fun _ _ h => h) rfl (iter := iter)
      (act := fun kont => (do
        let kv ← eval kx (compEnvC scope cl C X.env)
        let vv ← holding [kv] (eval vx (compEnvC scope cl C X.env))
        standAt { kx.pos with endLine := vx.pos.endLine, endCol := vx.pos.endCol }
        holding [kv, vv] (dictSet D kv vv)) >>= fun _ => kont)
      (compTurn_dict ..) T (hg s3 H3 C cl fp) (ht s3 H3 C cl fp)
      (fun hn b hb => ⟨hn b hb, (I4.ok.exf b hb).1, I4.ok.exfs b hb, .inl hb, fun x c e => (I4.ok.exf b hb).2 x c e, fun p hp => absurd (show p ∈ ([] : List (Addr × Obj)) ++ [] from hp) (by simp)⟩)
      (ok := fun σ2 => wipe σ2 (ownS own) = wipe σ (ownS own))
      (Body := fun σ2 H3 Nx => tPutT D tk tv σ2 H3 Nx)
      (body := fun {σ2 Hx s H Nx} o I2 b kont P E hk' => by
        refine wpAny_bind (wpAny_bind (thnE (fun _ _ h => h) ((hk s3 H3 C cl fp).run _ s σ2 H _ I2 b) fun z s1 ⟨y, H1, I1, r1, q1⟩ => wpAny_bind (wpAny_holding (thnE (fun _ _ h => h) ((he s3 H3 C cl fp).run _ s1 σ2 H1 _ I1 q1) fun z2 s5 ⟨y2, H5, I5, r2, bb, kvs, kk, ey, hb, hD, hl, nx⟩ => ?_))))
        subst ey
        cases r1
        refine wpAny_bind (wpAny_standAt (wpAny_holding ?_))
        exact d_setT (X := X.blk s3 H3 scope (compEnvC scope cl C X.env) fp) I5 (show _ < cLine from Nat.lt_of_le_of_lt (Nat.add_le_add_left (by decide) _) hu) hD hb hl r2 fun s' I' => hk' s' ⟨σ2, _, I', knows_wipe o, nx⟩)
      knows_wipe wlk back I4 st4 nfp w0
  exact codeAny_compStart_dict L (T.self X.A 0 _ _ _ st4 L)
end
end Om

/-! {k: v}, k a tuple of ints and texts -/
namespace Om
open PySem PySem.Spec PyProof.Rows L2
section
variable {X : Cx}
def tDisp1T (tk tv : TE) : TE := fun σ H Q => ∀ p, H p = none → tk σ (upd H p (.dT [])) fun y H1 => tv σ H1 fun z H2 => ∃ (b : Addr) (k : List L2.Key), y = .ref b ∧ H2 b = some (.tup (k.map kV)) ∧ H2 p = some (.dT []) ∧ Q (.ref p) (upd H2 p (.dT [(k, z)]))
theorem pe_disp1T {pos : Pos} {k v : Expr} {tk tv : TE} (hu : X.A.units + 1 < cLine) (hk : PE X k tk) (hv : PE X v tv) : PE X (.Dict [some k] [v] pos) (tDisp1T tk tv) := by
  refine ⟨fun pins s σ H Q I h => ?_⟩
  have hn := I.hok.fresh (Nat.le_refl s.heap.objs.size)
  have I1 := I.laid (a := s.heap.objs.size) (o := .dT []) (h' := s.heap.push { cls := .type "dict", data := .dict #[] }) (t' := s.toks) (fun _ _ q => Heap.get?_push_of_some _ q) (Nat.le_refl _) (dt_empty s.heap I.big)
  refine wpAny_Dict_any rfl rfl (by simp) (show 1 ≤ 15 by decide) ?_
  refine pairTrees_cons_walk (thn (hk.run pins _ σ _ _ I1 (h _ hn)) fun u s1 ⟨y, H1, I2, r1, q1⟩ => thn (hv.run pins s1 σ H1 _ I2 q1) fun u2 s2 ⟨z, H2, I3, r2, b, kk, ey, hb, hD, q⟩ => ?_)
  subst ey
  cases r1
  refine pairTrees_nil_walk ?_
  show wpAny _ _ (storeAll s.heap.objs.size [(Value.ref b, u2)]) _ _ _
  unfold storeAll
  refine wpAny_bind (wpAny_bind (d_setT I3 hu hD hb (by decide) r2 fun s' I' => wpAny_pure ?_))
  exact wpAny_pure ⟨.ref s.heap.objs.size, _, I', rfl, q⟩
end
end Om

/-! list(d) and sorted(d), the keys of d tuples of ints -/
namespace Om
open PySem PySem.Spec PyProof.Rows L2
def KeyI (H : Hp) (L : List (Addr × List Int)) : Prop := ∀ q ∈ L, H q.1 = some (.tup (q.2.map V.int))
theorem keys_of {H : Hp} : ∀ {kvs : List (List L2.Key × V)} {xs : List (List L2.Key × Addr × Value)} {ks : List (List Int)}, KT H kvs xs → kvs.map (·.1) = ks.map (fun l => l.map Sum.inl) → ∃ L : List (Addr × List Int), L.map (·.2) = ks ∧ L.map (·.1) = xs.map (·.2.1) ∧ KeyI H L := by
  intro kvs xs ks h
  unfold KT at h
  induction h generalizing ks with
  | nil =>
    intro e
    cases ks with
    | nil => exact ⟨[], rfl, rfl, fun q hq => by cases hq⟩
    | cons k r => cases e
  | @cons p q ps qs hpq t ih =>
    intro e
    cases ks with
    | nil => cases e
    | cons k r =>
      rw [List.map_cons, List.map_cons] at e
      injection e with e1 e2
      obtain ⟨L, h1, h2, h3⟩ := ih e2
      obtain ⟨g1, g2, _⟩ := hpq
      refine ⟨(q.2.1, k) :: L, by rw [List.map_cons, h1], by rw [List.map_cons, List.map_cons, h2], fun x hx => ?_⟩
      rcases List.mem_cons.mp hx with rfl | hx
      · show H q.2.1 = some (.tup (k.map V.int))
        rw [g2, e1, List.map_map]
        rfl
      · exact h3 x hx
section
variable {X : Cx}
/-- what the keys of a dict are, collected -/
theorem keys_acc {P : Program} {w : World} {H : Hp} {h : Heap} {d : Addr} {kvs : List (List L2.Key × V)} {xs : List (List L2.Key × Addr × Value)} {ks : List (List Int)} {es : Array DictEntry} {acc : Array Value} (rel : KT H kvs xs) (e : kvs.map (·.1) = ks.map (fun l => l.map Sum.inl)) (hsz : es.size = xs.length)
    (hent : ∀ i (hi : i < es.size), ∃ y, xs[i]? = some y ∧ es[i].key = .ref y.2.1) (hacc : acc.size = es.size ∧ ∀ (j : Nat) (v : Value), acc[j]? = some v → ∃ hi : j < es.size, v = es[j].key) :
    ∃ L : List (Addr × List Int), L.map (·.2) = ks ∧ KeyI H L ∧ acc.toList = L.map (fun q => Value.ref q.1) := by
  obtain ⟨L, h1, h2, h3⟩ := keys_of rel e
  refine ⟨L, h1, h3, List.ext_getElem? fun j => ?_⟩
  have hl : L.length = xs.length := by
    have := congrArg List.length h2
    rw [List.length_map, List.length_map] at this
    exact this
  by_cases hj : j < es.size
  · obtain ⟨y, hy, hk⟩ := hent j hj
    have hja : j < acc.size := by rw [hacc.1]; exact hj
    obtain ⟨hi, hv⟩ := hacc.2 j acc[j] (Array.getElem?_eq_getElem hja)
    have hL : (L.map (·.1))[j]? = some y.2.1 := by rw [h2, List.getElem?_map, hy]; rfl
    rw [List.getElem?_map] at hL
    obtain ⟨q, hq, eq⟩ := Option.map_eq_some_iff.mp hL
    rw [Array.getElem?_toList, Array.getElem?_eq_getElem hja, hv, hk, List.getElem?_map, hq, ← eq]
    rfl
  · rw [Array.getElem?_toList, Array.getElem?_eq_none (by rw [hacc.1]; omega), List.getElem?_map, List.getElem?_eq_none (by omega)]
    rfl
def rListT : List V → Hp → VK → Prop := fun vs H Q => ∃ (a : Addr) (kvs : List (List L2.Key × V)) (ks : List (List Int)), vs = [V.ref a] ∧ H a = some (.dT kvs) ∧ kvs.map (·.1) = ks.map (fun l => l.map Sum.inl) ∧
  ∀ (L : List (Addr × List Int)) (p : Addr), L.map (·.2) = ks → KeyI H L → H p = none → Q (.ref p) (upd H p (.lst (L.map fun q => V.ref q.1)))
theorem cr_listT (hc : X.calm = true) : CallR X (.type "list") rListT := by
  intro pins s σ H vs us Q I r h
  obtain ⟨a, kvs, ks, rfl, ha, hks, q⟩ := h
  rw [Vals.ref1 r]
  obtain ⟨z, hd, xs, rel, dd⟩ := dt_of I.hok ha
  obtain ⟨es, ep, raw, hsz, hent⟩ := dd.raw
  have hz : es.size ≤ sizeLine := by rw [hsz, ← Paired.length rel]; exact z
  refine PySem.W.kdl_call (KdlSrc.rawDict (prog := X.prog) (w := X.w) (d := a) (es := es) (ep := ep) hd) (I.ok.hd hc) raw hz fun h' tk acc c hk hS hacc => ?_
  obtain ⟨L, h1, h3, e⟩ := keys_acc (P := X.prog) (w := X.w) (h := s.heap) (d := a) rel hks hsz (fun i hi => let ⟨y, h1, h2, _⟩ := hent i hi; ⟨y, h1, h2⟩) hacc
  have hn : H s.heap.objs.size = none := I.hok.fresh (Nat.le_refl _)
  have hll : L.length ≤ sizeLine := by
    have := congrArg List.length e
    rw [Array.length_toList, List.length_map, hacc.1] at this
    omega
  exact ⟨.ref s.heap.objs.size, upd H s.heap.objs.size (.lst (L.map fun q => V.ref q.1)), I.laid (t' := tk) (fun b o q => hk b o q) (Nat.le_refl _) ⟨by rw [List.length_map]; exact hll, acc.toList, c, by rw [e]; exact vals_of_refs L, by rw [Array.toArray_toList]; exact hS⟩, rfl, q L _ h1 h3 hn⟩
/-- sorted(d), the keys of n ints in [0, B) -/
def rSortDT (n : Nat) (B : Int) : List V → Hp → VK → Prop := fun vs H Q => ∃ (a : Addr) (kvs : List (List L2.Key × V)) (ks : List (List Int)), vs = [V.ref a] ∧ H a = some (.dT kvs) ∧ kvs.map (·.1) = ks.map (fun l => l.map Sum.inl) ∧ ks.length < 64 ∧ (∀ l ∈ ks, l.length = n ∧ TS.Bd B l) ∧
  ∀ (L : List (Addr × List Int)) (p : Addr), (L.map (·.2)).Perm ks → KeyI H L → L.Pairwise (fun q r => TS.code B q.2 ≤ TS.code B r.2) → H p = none → Q (.ref p) (upd H p (.lst (L.map fun q => V.ref q.1)))
theorem cr_sortDT {n : Nat} {B : Int} (hc : X.calm = true) (hn1 : 1 ≤ n) : CallR X (.builtin "sorted") (rSortDT n B) := by
  intro pins s σ H vs us Q I r h
  obtain ⟨a, kvs, ks, rfl, ha, hks, hfew, hB, q⟩ := h
  rw [Vals.ref1 r]
  obtain ⟨z, hd, xs, rel, dd⟩ := dt_of I.hok ha
  obtain ⟨es, ep, raw, hsz, hent⟩ := dd.raw
  have hz : es.size ≤ sizeLine := by rw [hsz, ← Paired.length rel]; exact z
  refine Calls.call_function_entry kind_sorted plain_sorted entry_sorted (args_sorted1 _) ?_
  unfold Builtin.«sorted»
  refine wpAny_bind (m := checkCount "sorted" 1 1 _) (wpAny_pure ?_)
  refine wpAny_bind (PySem.W.kdu_collect (A := X.A.in1) (KdlSrc.rawDict (prog := X.prog) (w := X.w) (d := a) (es := es) (ep := ep) hd) (I.ok.hd hc) raw hz fun h' tk acc hk hacc => ?_)
  obtain ⟨L, h1, h3, e⟩ := keys_acc (P := X.prog) (w := X.w) (h := s.heap) (d := a) rel hks hsz (fun i hi => let ⟨y, h1, h2, _⟩ := hent i hi; ⟨y, h1, h2⟩) hacc
  have hLl : L.length = ks.length := by rw [← h1, List.length_map]
  have hvl : acc.toList.length < 64 := by rw [e, List.length_map, hLl]; exact hfew
  refine wpAny_bind (wpAny_newList ?_ (by rw [sizeLine_eq]; omega))
  have hoL : (h'.push (seqObj "list" acc.toList.toArray 0)).get? h'.objs.size = some (seqObj "list" acc.toList.toArray 0) := Heap.get?_push_size _ rfl
  have tk1 : ∀ p ∈ L, TS.TupInts (h'.push (seqObj "list" acc.toList.toArray 0)) (.ref p.1) p.2 := fun p hp => (tupI_raw I (.inl (.inl (h3 p hp)))).keeps fun b u eb _ => Heap.get?_push_of_some _ (hk b u eb)
  have x : TS.TupsOk (h'.push (seqObj "list" acc.toList.toArray 0)) n B acc.toList := fun v hv => by
    rw [e] at hv
    obtain ⟨p, hp, rfl⟩ := List.mem_map.mp hv
    obtain ⟨b1, b2⟩ := hB p.2 (by rw [← h1]; exact List.mem_map.mpr ⟨p, hp, rfl⟩)
    exact ⟨p.2, tk1 p hp, b1, b2⟩
  refine wpAny_bind (wpAny_holding (TS.call_sort_tups (s := { s with heap := h'.push (seqObj "list" acc.toList.toArray 0), toks := tk }) hoL hvl hn1 x fun out a1 a2 => ?_))
  obtain ⟨c, hcp⟩ := sortedHeap_at (vs := acc.toList) (out := out) hoL
  obtain ⟨L', p', e'⟩ := perm_of_map (fun q : Addr × List Int => Value.ref q.1) (e ▸ a1) L rfl
  have pw : L'.Pairwise (fun q r => TS.code B q.2 ≤ TS.code B r.2) := by
    rw [e'] at a2
    refine List.Pairwise.imp_of_mem (fun {q r} hq hr hle => ?_) (List.pairwise_map.mp a2)
    have f1 := (tk1 q (p'.mem_iff.mp hq)).ints
    have f2 := (tk1 r (p'.mem_iff.mp hr)).ints
    rw [← f1, ← f2]
    exact hle
  have hgone : s.heap.get? h'.objs.size = none := by
    cases eg : s.heap.get? h'.objs.size with
    | none => rfl
    | some u => exact absurd (Heap.lt_size (hk _ _ eg)) (Nat.lt_irrefl _)
  have hn2 : H h'.objs.size = none := I.hok.gone hgone
  have hlen : (L'.map fun q => V.ref q.1).length ≤ sizeLine := by rw [List.length_map, p'.length_eq, hLl, sizeLine_eq]; omega
  refine wpAny_pure ⟨_, rfl, .ref h'.objs.size, upd H h'.objs.size (.lst (L'.map fun q => V.ref q.1)), ?_, rfl, q L' _ (by rw [← h1]; exact p'.map _) (fun y hy => h3 y (p'.mem_iff.mp hy)) pw hn2⟩
  have kp : ∀ b u, s.heap.get? b = some u → (sortedHeap (h'.push (seqObj "list" acc.toList.toArray 0)) h'.objs.size acc.toList out).get? b = some u := fun b u eb => by
    have q1 := hk b u eb
    have hlt := Heap.lt_size q1
    rw [sortedHeap_old (Nat.ne_of_lt hlt) (by rw [size_push']; exact Nat.lt_succ_of_lt hlt)]
    exact Heap.get?_push_of_some _ q1
  exact I.laidN (t' := tk) kp hgone hn2 ⟨hlen, out.toList, c, by rw [e']; exact vals_of_refs L', by rw [Array.toArray_toList]; exact hcp⟩
end
end Om

namespace Om
open PySem PySem.Spec PyProof.Rows L2 LamX PySem PySem.W
/-! ### min(a list of tuples of ints, not empty): one of its items, as it stands -/
def rMinT (K : PySem.W.Frag) : List V → Hp → VK → Prop := fun vs H Q => ∃ (a : Addr) (L : List (Addr × List Int)), vs = [V.ref a] ∧ SqL K H a (L.map fun q => V.ref q.1) ∧ L ≠ [] ∧ (∀ q ∈ L, H q.1 = some (.tup (q.2.map V.int))) ∧ ∀ q ∈ L, Q (.ref q.1) H
theorem dpTs {K : PySem.W.Frag} {H : Hp} : ∀ {L : List (Addr × List Int)}, (∀ q ∈ L, H q.1 = some (.tup (q.2.map V.int))) → DpAll K H (L.map fun q => V.ref q.1) (L.map fun q => itup q.2)
  | [], _ => .nil
  | q :: L, h => .cons (.tup (.inl (.inl (h q List.mem_cons_self))) (dpAll_ints _)) (dpTs fun x hx => h x (List.mem_cons_of_mem _ hx))
theorem dep_ts : ∀ L : List (Addr × List Int), PyData.depthAll (L.map fun q => itup q.2) ≤ 1
  | [] => by simp [PyData.depthAll]
  | q :: L => by
    have h2 := dep_ts L
    rw [List.map_cons]
    show max (itup q.2).depth (PyData.depthAll (L.map fun q => itup q.2)) ≤ 1
    rw [itup_depth]
    omega
theorem alikeTs (L : List (Addr × List Int)) : AlikeAll (L.map fun q => itup q.2) := by
  refine ⟨fun x hx y hy => ?_, fun x hx => ?_⟩
  · obtain ⟨p, _, rfl⟩ := List.mem_map.mp hx
    obtain ⟨q, _, rfl⟩ := List.mem_map.mp hy
    exact itup_alike _ _
  · obtain ⟨p, _, rfl⟩ := List.mem_map.mp hx
    exact fun e => by cases e
theorem vals_at {vs : List V} {us : List Value} (r : Vals vs us) {i : Nat} {u : Value} (h : us[i]? = some u) : ∃ v, vs[i]? = some v ∧ RelV v u := by
  induction r generalizing i with
  | nil => simp at h
  | cons h1 _ ih =>
    cases i with
    | zero => exact ⟨_, rfl, by rw [← Option.some.inj h]; exact h1⟩
    | succ i => exact ih h
theorem cr_minT {X : Cx} (hc : X.calm = true) (hu : X.A.units + 64 < cLine) : CallR X (.builtin "min") (rMinT X.K) := by
  intro pins s σ H xs us Q I rx h
  obtain ⟨a, L, rfl, hs, hne, hT, q⟩ := h
  obtain ⟨its, rv, hl, _⟩ := I.list hs
  rw [Vals.ref1 rx]
  obtain ⟨as, hr⟩ := Dp.readsAll I _ _ its (dpTs hT) rv
  have hd := dep_ts L
  have hal := alikeTs L
  obtain ⟨p, L', rfl⟩ := List.exists_cons_of_ne_nil hne
  rw [List.map_cons] at hd hr hal
  refine min_list_data (I.ok.hd hc) hl.isList hr hal (by omega) fun i v h' tk bs hv _ hk => ?_
  obtain ⟨z, hz, rz⟩ := vals_at rv (show its[i]? = some v by simpa using hv)
  rw [List.getElem?_map] at hz
  cases hq : (p :: L')[i]? with
  | none => rw [hq] at hz; cases hz
  | some y =>
    rw [hq] at hz
    obtain rfl : V.ref y.1 = z := Option.some.inj hz
    exact ⟨_, H, I.kept hk, rz, q y (List.mem_of_getElem? hq)⟩
end Om

namespace Om
open PySem PySem.Spec PyProof.Rows L2 LamX
/-! ### cells of ints, land or not -/
abbrev IC := Int × Int
def icv (c : IC) : List V := [.int c.1, .int c.2]
def ick (c : IC) : List L2.Key := [.inl c.1, .inl c.2]
theorem ick_v (c : IC) : (ick c).map kV = icv c := rfl
theorem ick_inj {c d : IC} (h : ick c = ick d) : c = d := by
  unfold ick at h
  injection h with h1 h2
  injection h2 with h2 _
  exact Prod.ext (Sum.inl.inj h1) (Sum.inl.inj h2)
abbrev TI := List (Addr × IC)
def CI2 (H : Hp) (t : TI) : Prop := ∀ p ∈ t, H p.1 = some (.tup (icv p.2))
def vzI (t : TI) : List V := t.map fun p => V.ref p.1
def czI (t : TI) : List IC := t.map fun p => p.2
theorem CI2.same {H H' : Hp} {t : TI} (h : CI2 H t) (s : Same H H') : CI2 H' t := fun p hp => s _ _ (h p hp)
theorem vzI_len (t : TI) : (vzI t).length = t.length := List.length_map ..
theorem czI_len (t : TI) : (czI t).length = t.length := List.length_map ..
theorem vzI_app (t u : TI) : vzI (t ++ u) = vzI t ++ vzI u := List.map_append
theorem czI_app (t u : TI) : czI (t ++ u) = czI t ++ czI u := List.map_append
def rsL : List Int := [-1, 0, 1, 0]
def csL : List Int := [0, 1, 0, -1]
def adjI (c : IC) (f : Nat) : IC := (c.1 + rsL.getD f 0, c.2 + csL.getD f 0)
def adjL (c : IC) : List IC := (List.range 4).map (adjI c)
/-- a global name of a tuple of ints -/
structure TupF (K : PySem.W.Frag) (mg : Str → Option Value) (x : Str) (xs : List Int) : Prop where
  ex : ∃ p, mg x = some (.ref p) ∧ ∀ H, SqT K H p (xs.map V.int)
abbrev sNextC : Stmt := top 21
abbrev sBes : Stmt := top 22
def spNextC (K : PySem.W.Frag) : Sp := fun vs H Q _ => ∃ (a : Addr) (c : IC) (f : Nat), vs = [.ref a] ∧ SqT K H a [.int c.1, .int c.2, .int (f : Nat)] ∧ f < 4 ∧ ∀ p, H p = none → Q (.ref p) (upd H p (.tup (icv (adjI c f))))
def spBes (K : PySem.W.Frag) : Sp := fun vs H Q _ => ∃ (a : Addr) (c : IC), vs = [.ref a] ∧ SqT K H a (icv c) ∧ ∀ (D : Addr) (t : TI) (H' : Hp), Same H H' → H' D = some (.lst (vzI t)) → CI2 H' t → czI t = adjL c → Q (.ref D) H'
section
variable {P : Program} {w : World} {K : PySem.W.Frag} {mg : Str → Option Value} {base : Heap}
abbrev nNC : List Str := ["state", "row", "column", "facing"]
theorem scNC : FnScope nNC ["state"] (defScope sNextC) := ⟨rfl, rfl, rfl, by decide +kernel, rfl, by decide +kernel, by decide +kernel⟩
theorem ok_nextC {f : Addr} {fd : FuncData} (F : FnP K "next_cell" "next_cell" sNextC f fd) (gr : TupF K mg "ROW_STEPS" rsL) (gc : TupF K mg "COLUMN_STEPS" csL) : FnOk P w K mg base CX0 1 f fd ["state"] (spNextC K) := by
  obtain ⟨pr, gr, hrs⟩ := gr.ex
  obtain ⟨pc, gc, hcs⟩ := gc.ex
  refine F.ok scNC (fun vs H Q E h => ?_) (fun cdv A outer s H vs Q E hr h => ?_)
  · obtain ⟨a, c, f, rfl, _⟩ := h
    rfl
  · obtain ⟨a, c, f, rfl, hS, hf, k⟩ := h
    have nd := scNC.nd
    refine ⟨_, PSs.nox (pss_cons (ps_asg (pv 0) (pg_tup rfl (pgs_cons (pg_name (i := 1) nd rfl (.inl rfl)) (pgs_cons (pg_name (i := 2) nd rfl (.inl rfl)) (pgs_cons (pg_name (i := 3) nd rfl (.inl rfl)) pgs_nil)))))
      (pss_one (ps_ret (pe_tup (pa_cons (pe_op op_add (pv 1) (pe_ix ix_tup (pe_glob (v := .ref pr) rfl gr rfl) (pv 3) (fun _ _ => rfl))) (pa_cons (pe_op op_add (pv 2) (pe_ix ix_tup (pe_glob (v := .ref pc) rfl gc rfl) (pv 3) (fun _ _ => rfl))) pa_nil)))))), ?_⟩
    refine ⟨_, rfl, a, _, rfl, hS, rfl, _, _, rfl, _, _, rfl, _, _, rfl, rfl, ?_⟩
    have ar : atI (rsL.map V.int) ((f : Nat) : Int) = some (.int (rsL.getD f 0)) := by
      refine atI_nat ?_
      rw [List.getElem?_map, List.getD_eq_getElem?_getD, List.getElem?_eq_getElem (show f < rsL.length from hf)]
      rfl
    have ac : atI (csL.map V.int) ((f : Nat) : Int) = some (.int (csL.getD f 0)) := by
      refine atI_nat ?_
      rw [List.getElem?_map, List.getD_eq_getElem?_getD, List.getElem?_eq_getElem (show f < csL.length from hf)]
      rfl
    refine ⟨_, rfl, _, rfl, pr, _, _, _, rfl, rfl, hrs H, ar, _, _, rfl, rfl, ?_⟩
    refine ⟨_, rfl, _, rfl, pc, _, _, _, rfl, rfl, hcs H, ac, _, _, rfl, rfl, ?_⟩
    exact ⟨by show 2 ≤ sizeLine; decide, fun p hp => k p hp⟩
abbrev nBe : List Str := ["cell", "row", "column", "facing"]
theorem scBe : FnScope nBe ["cell"] (defScope sBes) := ⟨rfl, rfl, rfl, by decide +kernel, rfl, by decide +kernel, by decide +kernel⟩
def beLc : Expr := retExpr ((defBody sBes).getD 1 noS)
theorem blkBe : BlkOk nBe (defScope sBes) (lcScope beLc) [("facing", 3)] := blkOk_by (by decide +kernel)
theorem ok_bes {f : Addr} {fd : FuncData} (F : FnP K "cells_beside" "cells_beside" sBes f fd) (NC : Cal P w K mg base CX0 1 "next_cell" ["state"] (spNextC K)) (gr : TupF K mg "ROW_STEPS" rsL) (grange : mg "range" = none) (glen : mg "len" = none) : FnOk P w K mg base CX0 2 f fd ["cell"] (spBes K) := by
  obtain ⟨pr, gr, hrs⟩ := gr.ex
  refine F.ok scBe (fun vs H Q E h => ?_) (fun cdv A outer s H vs Q E hr h => ?_)
  · obtain ⟨a, c, rfl, _⟩ := h
    rfl
  · obtain ⟨a, c, rfl, hS, k⟩ := h
    have nd := scBe.nd
    refine ⟨_, PSs.nox (pss_cons (ps_asg (pv 0) (pg_tup rfl (pgs_cons (pg_name (i := 1) nd rfl (.inr rfl)) (pgs_cons (pg_name (i := 2) nd rfl (.inr rfl)) pgs_nil))))
      (pss_one (ps_ret (pe_lc (own := [("facing", 3)]) (g := gName 3) rfl nd (pi_range1 rfl grange (pa_cons (pe_callB call_len_seq (by rfl) glen PySem.boot_len (pa_cons (pe_glob (v := .ref pr) rfl gr rfl) pa_nil)) pa_nil)) blkBe (fun _ _ _ _ _ => pg_name (i := 3) nd rfl (.inl rfl)) (fun _ _ _ _ _ => pts_nil)
        (fun _ _ _ _ _ => pe_cal NC hr pass0 (pa_cons (pe_tup (pa_cons (pv 1) (pa_cons (pv 2) (pa_cons (pv 3) pa_nil)))) pa_nil)))))), ?_⟩
    refine ⟨_, rfl, a, _, rfl, hS, rfl, _, _, rfl, _, _, rfl, rfl, ?_⟩
    refine ⟨pr, _, rfl, .inr (hrs H), 4, rfl, by decide, by decide, fun D hD => ?_⟩
    refine lc_range (lo := 0) (n := (4 : Int).toNat) (fun i H1 => ∃ t : TI, H1 D = some (.lst (vzI t)) ∧ CI2 H1 t ∧ czI t = (adjL c).take i ∧ Same H H1) ⟨[], upd_same, (fun p hp => by cases hp), by rw [List.take_zero]; rfl, Same.new (Same.refl H) hD⟩ ?_ ?_
    · rintro i H1 hi ⟨t, t1, t2, t3, s1⟩
      have hi4 : i < 4 := hi
      refine ⟨rfl, tyes ?_⟩
      refine ⟨_, rfl, _, rfl, _, rfl, by show 3 ≤ sizeLine; decide, fun q hq => nilArgs ?_⟩
      have s2 := Same.new (Same.refl H1) hq (o := .tup [.int c.1, .int c.2, .int (0 + (i : Int))])
      have hq2 : (upd H1 q (.tup [.int c.1, .int c.2, .int (0 + (i : Int))])) q = some (.tup [.int c.1, .int c.2, .int ((i : Nat) : Int)]) := by rw [upd_same, Int.zero_add]
      refine ⟨q, c, i, rfl, .inl (.inl hq2), hi4, fun p hp => ?_⟩
      have s3 := Same.new (Same.refl _) hp (o := .tup (icv (adjI c i)))
      have s13 := s2.trans s3
      have t1' := s13 _ _ t1
      have lt : t.length ≤ 4 := by
        have := congrArg List.length t3
        rw [czI_len, List.length_take] at this
        omega
      have nDp : D ≠ p := fun e => by
        have := s2 _ _ t1
        rw [e, hp] at this
        cases this
      refine ⟨vzI t, t1', Nat.lt_of_le_of_lt (show _ ≤ 100 by rw [vzI_len]; omega) (by decide), t ++ [(p, adjI c i)], by rw [upd_same, vzI_app]; rfl, fun x hx => ?_, ?_, Same.updN (s1.trans s13) hD⟩
      · have hx2 : (upd (upd H1 q (.tup [.int c.1, .int c.2, .int (0 + (i : Int))])) p (.tup (icv (adjI c i)))) x.1 = some (.tup (icv x.2)) := by
          rcases List.mem_append.mp hx with h | h
          · exact s13 _ _ (t2 x h)
          · rw [List.mem_singleton.mp h]
            exact upd_same
        rw [upd_ne (ne_of hx2 t1' fun e => by cases e)]
        exact hx2
      · have ea : (adjL c)[i]? = some (adjI c i) := by
          unfold adjL
          rw [List.getElem?_map, List.getElem?_range hi4]
          rfl
        rw [czI_app, t3, List.take_succ, ea]
        rfl
    · rintro H1 ⟨t, t1, t2, t3, s1⟩
      have e4 : (adjL c).take (4 : Int).toNat = adjL c := List.take_of_length_le (by unfold adjL; rw [List.length_map, List.length_range]; decide)
      rw [e4] at t3
      exact k D t H1 s1 t1 t2 t3
end
end Om

namespace Om
open PySem PySem.Spec PyProof.Rows L2 LamX
/-! ### dicts by cells -/
def dkv (kvs : List (IC × Nat)) : List (List L2.Key × V) := kvs.map fun x => (ick x.1, V.int ((x.2 : Nat) : Int))
def lkv (ls : List IC) : List (List L2.Key × V) := ls.map fun c => (ick c, V.bl true)
theorem dkv_len (kvs : List (IC × Nat)) : (dkv kvs).length = kvs.length := List.length_map ..
theorem lkv_len (ls : List IC) : (lkv ls).length = ls.length := List.length_map ..
theorem dkv_some {kvs : List (IC × Nat)} (nd : (kvs.map (·.1)).Nodup) {c : IC} {n : Nat} (h : (c, n) ∈ kvs) : valV (dkv kvs) (ick c) = some (V.int ((n : Nat) : Int)) := by
  unfold valV dkv
  induction kvs with
  | nil => exact absurd h (by simp)
  | cons x r ih =>
    obtain ⟨n1, n2⟩ := List.nodup_cons.mp nd
    rw [List.map_cons, List.find?_cons]
    by_cases e : x.1 = c
    · have : decide (ick x.1 = ick c) = true := decide_eq_true (by rw [e])
      rw [this]
      rcases List.mem_cons.mp h with h | h
      · rw [← h]; rfl
      · exact absurd (List.mem_map.mpr ⟨_, h, e.symm⟩) n1
    · have : decide (ick x.1 = ick c) = false := decide_eq_false fun z => e (ick_inj z)
      rw [this]
      rcases List.mem_cons.mp h with h | h
      · exact absurd (by rw [← h]) e
      · exact ih n2 h
theorem dkv_none {kvs : List (IC × Nat)} {c : IC} (h : c ∉ kvs.map (·.1)) : valV (dkv kvs) (ick c) = none := by
  unfold valV dkv
  rw [List.find?_eq_none.mpr fun x hx => ?_]
  · rfl
  · obtain ⟨y, hy, rfl⟩ := List.mem_map.mp hx
    have : y.1 ≠ c := fun e => h (List.mem_map.mpr ⟨y, hy, e⟩)
    simpa using fun z => this (ick_inj z)
theorem dkv_put {kvs : List (IC × Nat)} {c : IC} {n : Nat} (h : c ∉ kvs.map (·.1)) : putK (dkv kvs) (ick c) (V.int ((n : Nat) : Int)) = dkv (kvs ++ [(c, n)]) := by
  unfold putK dkv
  rw [if_neg, List.map_append]
  · rfl
  · rw [List.any_eq_true]
    rintro ⟨x, hx, e⟩
    obtain ⟨y, hy, rfl⟩ := List.mem_map.mp hx
    exact h (List.mem_map.mpr ⟨y, hy, ick_inj (of_decide_eq_true e)⟩)
theorem lkv_val (ls : List IC) (c : IC) : valV (lkv ls) (ick c) = if c ∈ ls then some (V.bl true) else none := by
  unfold valV lkv
  induction ls with
  | nil => rfl
  | cons x r ih =>
    rw [List.map_cons, List.find?_cons]
    by_cases e : x = c
    · have : decide (ick x = ick c) = true := decide_eq_true (by rw [e])
      rw [this, if_pos (by rw [e]; exact List.mem_cons_self)]
      rfl
    · have : decide (ick x = ick c) = false := decide_eq_false fun z => e (ick_inj z)
      rw [this]
      show Option.map _ (List.find? _ (r.map fun c => (ick c, V.bl true))) = _
      rw [ih]
      by_cases h : c ∈ r
      · rw [if_pos h, if_pos (List.mem_cons_of_mem _ h)]
      · rw [if_neg h, if_neg fun z => (List.mem_cons.mp z).elim (fun z => e z.symm) h]
theorem lkv_put (ls : List IC) (c : IC) : putK (lkv ls) (ick c) (V.bl true) = lkv (if c ∈ ls then ls else ls ++ [c]) := by
  unfold putK lkv
  by_cases h : c ∈ ls
  · rw [if_pos, if_pos h, List.map_map]
    · refine List.map_congr_left fun x _ => ?_
      show (if ick x = ick c then (ick x, V.bl true) else (ick x, V.bl true)) = _
      split <;> rfl
    · rw [List.any_eq_true]
      exact ⟨_, List.mem_map.mpr ⟨c, h, rfl⟩, decide_eq_true rfl⟩
  · rw [if_neg, if_neg h, List.map_append]
    · rfl
    · rw [List.any_eq_true]
      rintro ⟨x, hx, e⟩
      obtain ⟨y, hy, rfl⟩ := List.mem_map.mp hx
      rw [ick_inj (of_decide_eq_true e)] at hy
      exact h hy
/-! ### the fewest paces, level by level -/
structure Bfs (L : List IC) (b : IC) (kvs : List (IC × Nat)) (E : List IC) (n : Nat) : Prop where
  nd : (kvs.map (·.1)).Nodup
  b0 : (b, 0) ∈ kvs
  zero : ∀ c, (c, 0) ∈ kvs → c = b
  lnd : ∀ c m, (c, m) ∈ kvs → c = b ∨ c ∈ L
  prev : ∀ c m, (c, m + 1) ∈ kvs → ∃ c', (c', m) ∈ kvs ∧ c ∈ adjL c'
  edge : ∀ c, c ∈ E ↔ (c, n) ∈ kvs
  top : ∀ c m, (c, m) ∈ kvs → m ≤ n
  clo : ∀ c m, (c, m) ∈ kvs → m < n → ∀ d ∈ adjL c, d ∈ L → ∃ m', (d, m') ∈ kvs ∧ m' ≤ m + 1
/-- what paces_from returns -/
structure Pc (L : List IC) (b : IC) (kvs : List (IC × Nat)) : Prop where
  nd : (kvs.map (·.1)).Nodup
  b0 : (b, 0) ∈ kvs
  zero : ∀ c, (c, 0) ∈ kvs → c = b
  lnd : ∀ c m, (c, m) ∈ kvs → c = b ∨ c ∈ L
  prev : ∀ c m, (c, m + 1) ∈ kvs → ∃ c', (c', m) ∈ kvs ∧ c ∈ adjL c'
  clo : ∀ c m, (c, m) ∈ kvs → ∀ d ∈ adjL c, d ∈ L → ∃ m', (d, m') ∈ kvs ∧ m' ≤ m + 1
theorem Bfs.start (L : List IC) (b : IC) : Bfs L b [(b, 0)] [b] 0 where
  nd := by simp
  b0 := List.mem_cons_self
  zero := fun c h => by simpa using h
  lnd := fun c m h => by
    have : (c, m) = (b, 0) := List.mem_singleton.mp h
    exact .inl (Prod.mk.inj this).1
  prev := fun c m h => by
    have : (c, m + 1) = (b, 0) := List.mem_singleton.mp h
    exact absurd (Prod.mk.inj this).2 (by omega)
  edge := fun c => by simp
  top := fun c m h => by
    have : (c, m) = (b, 0) := List.mem_singleton.mp h
    rw [(Prod.mk.inj this).2]
    exact Nat.le_refl _
  clo := fun c m _ h => absurd h (Nat.not_lt_zero _)
theorem Bfs.next {L : List IC} {b : IC} {kvs : List (IC × Nat)} {E E' : List IC} {n : Nat} (B : Bfs L b kvs E n) (nd : E'.Nodup) (hE : ∀ d, d ∈ E' ↔ (∃ c ∈ E, d ∈ adjL c) ∧ d ∈ L ∧ d ∉ kvs.map (·.1)) : Bfs L b (kvs ++ E'.map fun d => (d, n + 1)) E' (n + 1) := by
  have mem : ∀ c m, (c, m) ∈ kvs ++ E'.map (fun d => (d, n + 1)) ↔ (c, m) ∈ kvs ∨ (c ∈ E' ∧ m = n + 1) := fun c m => by
    rw [List.mem_append]
    refine or_congr Iff.rfl ⟨fun h => ?_, fun ⟨h, e⟩ => List.mem_map.mpr ⟨c, h, by rw [e]⟩⟩
    obtain ⟨d, hd, e⟩ := List.mem_map.mp h
    obtain ⟨e1, e2⟩ := Prod.mk.inj e
    exact ⟨e1 ▸ hd, e2.symm⟩
  refine ⟨?_, (mem _ _).mpr (.inl B.b0), fun c h => ?_, fun c m h => ?_, fun c m h => ?_, fun c => ?_, fun c m h => ?_, fun c m h hm d hd hL => ?_⟩
  · rw [List.map_append, List.map_map, List.nodup_append]
    refine ⟨B.nd, ?_, fun x hx y hy e => ?_⟩
    · have : (E'.map ((fun x : IC × Nat => x.1) ∘ fun d => (d, n + 1))) = E' := by
        rw [show ((fun x : IC × Nat => x.1) ∘ fun d => (d, n + 1)) = id from rfl, List.map_id]
      rw [this]
      exact nd
    · obtain ⟨d, hd, rfl⟩ := List.mem_map.mp hy
      exact ((hE d).mp hd).2.2 (by rw [← (show x = d from e)]; exact hx)
  · rcases (mem _ _).mp h with h | ⟨_, h⟩
    · exact B.zero c h
    · omega
  · rcases (mem _ _).mp h with h | ⟨h, _⟩
    · exact B.lnd c m h
    · exact .inr ((hE c).mp h).2.1
  · rcases (mem _ _).mp h with h | ⟨h, e⟩
    · obtain ⟨c', h1, h2⟩ := B.prev c m h
      exact ⟨c', (mem _ _).mpr (.inl h1), h2⟩
    · obtain ⟨⟨c', h1, h2⟩, _⟩ := (hE c).mp h
      have : m = n := by omega
      exact ⟨c', (mem _ _).mpr (.inl (by rw [this]; exact (B.edge c').mp h1)), h2⟩
  · constructor
    · exact fun h => (mem _ _).mpr (.inr ⟨h, rfl⟩)
    · intro h
      rcases (mem _ _).mp h with h | ⟨h, _⟩
      · exact absurd (B.top c _ h) (by omega)
      · exact h
  · rcases (mem _ _).mp h with h | ⟨_, e⟩
    · exact Nat.le_succ_of_le (B.top c m h)
    · omega
  · rcases (mem _ _).mp h with h | ⟨_, e⟩
    · by_cases h2 : m < n
      · obtain ⟨m', h3, h4⟩ := B.clo c m h h2 d hd hL
        exact ⟨m', (mem _ _).mpr (.inl h3), h4⟩
      · have e : m = n := by omega
        rw [e] at h
        by_cases hk : d ∈ kvs.map (·.1)
        · obtain ⟨⟨d', m'⟩, h3, e3⟩ := List.mem_map.mp hk
          have e3 : d' = d := e3
          subst e3
          exact ⟨m', (mem _ _).mpr (.inl h3), by have := B.top d' m' h3; omega⟩
        · exact ⟨n + 1, (mem _ _).mpr (.inr ⟨(hE d).mpr ⟨⟨c, (B.edge c).mpr h, hd⟩, hL, hk⟩, rfl⟩), by omega⟩
    · omega
theorem Bfs.done {L : List IC} {b : IC} {kvs : List (IC × Nat)} {n : Nat} (B : Bfs L b kvs [] n) : Pc L b kvs :=
  ⟨B.nd, B.b0, B.zero, B.lnd, B.prev, fun c m h => B.clo c m h (by
    have h1 := B.top c m h
    have h2 : m ≠ n := fun e => absurd ((B.edge c).mpr (by rw [← e]; exact h)) (by simp)
    omega)⟩
theorem nodup_le {α : Type} [DecidableEq α] : ∀ (l D : List α), l.Nodup → (∀ x ∈ l, x ∈ D) → l.length ≤ D.length
  | [], _, _, _ => Nat.zero_le _
  | x :: l, D, hn, hs => by
    obtain ⟨h1, h2⟩ := List.nodup_cons.mp hn
    have hx : x ∈ D := hs x List.mem_cons_self
    have h3 := nodup_le l (D.erase x) h2 fun y hy => (List.mem_erase_of_ne fun e => h1 (by rw [← e]; exact hy)).mpr (hs y (List.mem_cons_of_mem _ hy))
    rw [List.length_erase_of_mem hx] at h3
    have := List.length_pos_of_mem hx
    rw [List.length_cons]
    omega
theorem Bfs.len {L : List IC} {b : IC} {kvs : List (IC × Nat)} {E : List IC} {n : Nat} (B : Bfs L b kvs E n) : kvs.length ≤ L.length + 1 := by
  have h := nodup_le (kvs.map (·.1)) (b :: L) B.nd fun x hx => by
    obtain ⟨⟨c, m⟩, h1, rfl⟩ := List.mem_map.mp hx
    rcases B.lnd c m h1 with h | h
    · exact List.mem_cons.mpr (.inl h)
    · exact List.mem_cons_of_mem _ h
  rw [List.length_map, List.length_cons] at h
  exact h
end Om

namespace Om
open PySem PySem.Spec PyProof.Rows L2 LamX
theorem wlk_it {J : It} {n : Nat} {G : Hp → Prop} {Y : Nat → Hp → V → Hp → Prop} (wk : Walk J n G Y) {Fin : Hp → Prop} {Act : V → Hp → (Hp → Prop) → Prop} {H0 : Hp} (Pv : Nat → Hp → Prop) (h0 : Pv 0 H0) (hG : ∀ i H, i ≤ n → Pv i H → G H)
    (hs : ∀ i x H H', i < n → Pv i H → Y i H x H' → Act x H' (Pv (i + 1))) (hd : ∀ H, Pv n H → Fin H) : ∃ W : Nat → Nat → Hp → Prop, (∃ m, W 0 m H0) ∧ Wlk J W Fin Act := by
  refine ⟨fun i m H => m = n - i ∧ i ≤ n ∧ Pv i H, ⟨n, by simp, Nat.zero_le _, h0⟩, ?_⟩
  rintro i m H ⟨rfl, hi, p⟩
  have q := hG i H hi p
  by_cases hlt : i < n
  · exact .inr ⟨wk.goes i H hlt q, Pv (i + 1), fun H' p' => ⟨n - (i + 1), by omega, rfl, hlt, p'⟩, fun x H' y => hs i x H H' hlt p (wk.yields i H x H' hlt q y)⟩
  · have e : i = n := by omega
    subst e
    exact .inl ⟨wk.stops H q, hd H p⟩
theorem pi_listK {X : Cx} {K : PySem.W.Frag} {tg l : Expr} {tl : TE} (hK : X.K = K) (h : PE X l tl) : PI X tg l (iList K tl) := by
  subst hK
  exact pi_list h
def icl (c : IC) : List Int := [c.1, c.2]
theorem icl_v (c : IC) : (icl c).map V.int = icv c := rfl
theorem icl_inj {c d : IC} (h : icl c = icl d) : c = d := by
  unfold icl at h
  injection h with h1 h2
  injection h2 with h2 _
  exact Prod.ext h1 h2
/-! ### a set of cells at D -/
structure SI (P : Program) (w : World) (H : Hp) (D : Addr) (L : List (Addr × List Int)) (acc : List IC) : Prop where
  at_ : H D = some (SetTO P w D L)
  nd : (L.map (·.2)).Nodup
  tup : ∀ q ∈ L, H q.1 = some (.tup (q.2.map V.int))
  mem : ∀ k, k ∈ L.map (·.2) ↔ k ∈ acc.map icl
theorem SI.same {P : Program} {w : World} {H H' : Hp} {D : Addr} {L : List (Addr × List Int)} {acc : List IC} (S : SI P w H D L acc) (s : Same H H') : SI P w H' D L acc := ⟨s _ _ S.at_, S.nd, fun q hq => s _ _ (S.tup q hq), S.mem⟩
theorem SI.put {P : Program} {w : World} {H : Hp} {D b : Addr} {L L' : List (Addr × List Int)} {acc : List IC} {c : IC} (S : SI P w H D L acc) (hb : H b = some (.tup (icv c))) (c1 : icl c ∈ L.map (·.2) → L' = L) (c2 : icl c ∉ L.map (·.2) → L'.Perm ((b, icl c) :: L)) :
    SI P w (upd H D (SetTO P w D L')) D L' (acc ++ [c]) := by
  have ne : ∀ {a : Addr} {xs : List V}, H a = some (.tup xs) → a ≠ D := fun h e => by rw [e, S.at_] at h; cases h
  have memA : ∀ k, k ∈ (acc ++ [c]).map icl ↔ k ∈ acc.map icl ∨ k = icl c := fun k => by
    rw [List.map_append, List.mem_append]
    exact or_congr Iff.rfl (by simp)
  by_cases h : icl c ∈ L.map (·.2)
  · rw [c1 h]
    refine ⟨upd_same, S.nd, fun q hq => by rw [upd_ne (ne (S.tup q hq))]; exact S.tup q hq, fun k => ?_⟩
    rw [memA, S.mem]
    exact ⟨.inl, fun z => z.elim id fun e => by rw [e]; exact (S.mem _).mp h⟩
  · have p := c2 h
    refine ⟨upd_same, ((p.map (·.2)).nodup_iff).mpr (List.nodup_cons.mpr ⟨h, S.nd⟩), fun q hq => ?_, fun k => ?_⟩
    · have hq2 : H q.1 = some (.tup (q.2.map V.int)) := by
        rcases List.mem_cons.mp (p.mem_iff.mp hq) with e | e
        · rw [e]; exact hb
        · exact S.tup q e
      rw [upd_ne (ne hq2)]
      exact hq2
    · rw [memA, (p.map (·.2)).mem_iff, List.map_cons, List.mem_cons, S.mem]
      exact or_comm
theorem ti_of {H : Hp} : ∀ {L : List (Addr × List Int)}, (∀ q ∈ L, ∃ c, q.2 = icl c ∧ H q.1 = some (.tup (icv c))) → ∃ t : TI, L = t.map (fun p => (p.1, icl p.2)) ∧ CI2 H t
  | [], _ => ⟨[], rfl, fun p hp => by cases hp⟩
  | q :: L, h => by
    obtain ⟨t, e, ht⟩ := ti_of fun x hx => h x (List.mem_cons_of_mem _ hx)
    obtain ⟨c, e1, e2⟩ := h q List.mem_cons_self
    refine ⟨(q.1, c) :: t, by rw [e, List.map_cons, ← e1], fun p hp => ?_⟩
    rcases List.mem_cons.mp hp with rfl | hp
    · exact e2
    · exact ht p hp
def But2 (d : Addr) (H H' : Hp) : Prop := ∀ c o, H c = some o → c ≠ d → H' c = some o
abbrev sPF : Stmt := top 25
def spPF (K : PySem.W.Frag) : Sp := fun vs H Q _ => ∃ (la ba : Addr) (tl : TI) (b : IC), vs = [.ref la, .ref ba] ∧ SqL K H la (vzI tl) ∧ CI2 H tl ∧ tl.length ≤ 62 ∧ H ba = some (.tup (icv b)) ∧
  ∀ (D : Addr) (kvs : List (IC × Nat)) (H' : Hp), H D = none → Same H H' → H' D = some (.dT (dkv kvs)) → Pc (czI tl) b kvs → Q (.ref D) H'
section
variable {P : Program} {w : World} {K : PySem.W.Frag} {mg : Str → Option Value} {base : Heap}
abbrev nPF : List Str := ["cells", "begin", "cell", "land", "paces", "edge", "number", "one"]
theorem scPF : FnScope nPF ["cells", "begin"] (defScope sPF) := ⟨rfl, rfl, rfl, by decide +kernel, rfl, by decide +kernel, by decide +kernel⟩
def dcS (e : Expr) : Scope := match e with
  | .DictComp _ _ _ s _ => s
  | .SetComp _ _ s _ => s
  | _ => defScope sPF
def whB (s : Stmt) : List Stmt := match s with
  | .While _ b _ _ => b
  | _ => []
def pfD : Expr := asgExpr ((defBody sPF).getD 0 noS)
def pfS : Expr := arg0 (asgExpr ((whB ((defBody sPF).getD 3 noS)).getD 1 noS))
theorem blkPF1 : BlkOk nPF (defScope sPF) (dcS pfD) [("cell", 2)] := blkOk_by (by decide +kernel)
theorem blkPF2 : BlkOk nPF (defScope sPF) (dcS pfS) [("one", 7), ("cell", 2)] := blkOk_by (by decide +kernel)
theorem ok_pf {f : Addr} {fd : FuncData} (F : FnP K "paces_from" "paces_from" sPF f fd) (BS : Cal P w K mg base CX0 2 "cells_beside" ["cell"] (spBes K)) (glen : mg "len" = none) (gsorted : mg "sorted" = none) : FnOk P w K mg base CX0 3 f fd ["cells", "begin"] (spPF K) := by
  refine F.ok scPF (fun vs H Q E h => ?_) (fun cdv A outer s H vs Q E hr h => ?_)
  · obtain ⟨la, ba, tl, b, rfl, _⟩ := h
    rfl
  · obtain ⟨la, ba, tl, b, rfl, hL, hC, hl, hb, k⟩ := h
    have nd := scPF.nd
    have hu := hr.units
    have hu3 : _ + 3 < cLine := Nat.lt_of_le_of_lt (Nat.add_le_add_left (show 3 ≤ 64 by decide) _) hu
    have hu1 : _ + 1 < cLine := Nat.lt_of_le_of_lt (Nat.add_le_add_left (show 1 ≤ 64 by decide) _) hu
    refine ⟨_, PSs.nox (pss_cons (ps_set (i := 3) nd rfl (.inr rfl) (pe_dcT (own := [("cell", 2)]) (g := gName 2) rfl hu3 nd (pi_list (pv 0)) blkPF1 (fun _ _ _ _ _ => pg_name (i := 2) nd rfl (.inl rfl)) (fun _ _ _ _ _ => pts_nil) (fun _ _ _ _ _ => pv 2) (fun _ _ _ _ _ => pe_bl)))
      (pss_cons (ps_set (i := 4) nd rfl (.inr rfl) (pe_disp1T hu1 (pv 1) pe_int))
      (pss_cons (ps_set (i := 5) nd rfl (.inl rfl) (pe_lst (pa_cons (pv 1) pa_nil)))
      (pss_cons (ps_while PassesOwn.never (pt_cmpR op_gt (pe_callB call_len_seq (by rfl) glen PySem.boot_len (pa_cons (pv 5) pa_nil)) pe_int (nomark _))
        (pss_cons (ps_set (i := 6) nd rfl (.inl rfl) (pe_op op_add (pe_dget hu1 (pv 4) (pe_ix ix_list (pv 5) pe_int (fun _ _ => rfl)) (fun _ _ => rfl)) pe_int))
        (pss_cons (ps_set (i := 5) nd rfl (.inl rfl) (pe_callB (cr_sortSet rfl hu) (by rfl) gsorted (by decide +kernel) (pa_cons (pe_sc2 (own := [("one", 7), ("cell", 2)]) (vs1 := [2]) (g := gName 7) (g1 := gName 2) rfl hu3 nd (pi_list (pv 5)) blkPF2 (by decide)
            (fun _ _ _ _ _ => pg_name (i := 7) nd rfl (.inl rfl)) (fun _ _ _ _ _ => pts_nil) (fun _ _ _ _ _ => pi_listK (K := K) rfl (pe_cal BS hr pass0 (pa_cons (pv 7) pa_nil))) (fun _ _ _ _ _ => pg_name (i := 2) nd rfl (.inl rfl))
            (fun _ _ _ _ _ => pts_one (PW.pt (pw_and (pt_cmp (pc_din hu1 (pv 2) (pv 3)) (by with_unfolding_all rfl)) (pw_and1 (pt_cmp (pc_dnotin hu1 (pv 2) (pv 4)) (by with_unfolding_all rfl)))))) (fun _ _ _ _ _ => pv 2)) pa_nil)))
        (pss_one (ps_for PassesOwn.never rfl (pi_list (pv 5)) (pg_name (i := 2) nd rfl (.inl rfl)) (pss_one (ps_dput hu1 (pv 4) (pv 2) (pv 6) rfl)))))))
      (pss_one (ps_ret (pv 4))))))), ?_⟩
    -- the land
    refine ⟨_, rfl, la, rfl, ⟨_, hL⟩, fun dl hdl => ?_⟩
    refine wlk_it (walk_list (K := K) (a := la) (xs := vzI tl)) (fun i H1 => Same H H1 ∧ ∃ ls : List IC, H1 dl = some (.dT (lkv ls)) ∧ ls.length ≤ i ∧ ∀ c, c ∈ ls ↔ c ∈ (czI tl).take i) ⟨Same.new (Same.refl H) hdl, [], upd_same, Nat.le_refl _, fun c => by rw [List.take_zero]⟩ (fun i H1 _ q => Same.lst q.1 hL) ?_ ?_
    · rintro i x H1 H1' hi ⟨s1, ls, h1, hln, hm⟩ ⟨rfl, hx⟩
      rw [vzI_len] at hi
      have hxe : x = .ref tl[i].1 := by
        unfold vzI at hx
        rw [List.getElem?_map, List.getElem?_eq_getElem hi] at hx
        exact (Option.some.inj hx).symm
      subst hxe
      have hmem : tl[i] ∈ tl := List.getElem_mem hi
      have et : (czI tl).take (i + 1) = (czI tl).take i ++ [tl[i].2] := by
        rw [List.take_succ]
        unfold czI
        rw [List.getElem?_map, List.getElem?_eq_getElem hi]
        rfl
      refine ⟨rfl, tyes ?_⟩
      refine ⟨_, rfl, tl[i].1, lkv ls, ick tl[i].2, rfl, s1 _ _ (hC _ hmem), h1, Nat.lt_of_le_of_lt (show _ ≤ 100 by rw [lkv_len]; omega) (by decide), Same.updN s1 hdl, _, by rw [upd_same, lkv_put], ?_, fun c => ?_⟩
      · split
        · omega
        · rw [List.length_append, List.length_singleton]; omega
      · rw [et, List.mem_append, ← hm]
        by_cases h : tl[i].2 ∈ ls
        · rw [if_pos h]
          exact ⟨.inl, fun z => z.elim id fun z => by rw [List.mem_singleton.mp z]; exact h⟩
        · rw [if_neg h, List.mem_append]
    · rintro H1 ⟨s1, ls, h1, hln, hm⟩
      rw [vzI_len, ← czI_len, List.take_length] at hm
      -- the paces, the edge
      refine fun dp hdp => ?_
      have sp := Same.new (Same.refl H1) hdp (o := .dT [])
      refine ⟨_, rfl, ba, ick b, rfl, sp _ _ (s1 _ _ hb), upd_same, ?_⟩
      refine ⟨_, rfl, by show 1 ≤ sizeLine; decide, fun ea hea => ?_⟩
      have eq2 : upd (upd H1 dp (.dT [])) dp (.dT [(ick b, .int 0)]) = upd H1 dp (.dT (dkv [(b, 0)])) := by
        funext x
        by_cases e : x = dp
        · rw [e, upd_same, upd_same]; rfl
        · rw [upd_ne e, upd_ne e, upd_ne e]
      rw [eq2] at hea ⊢
      have s2 : Same H (upd H1 dp (.dT (dkv [(b, 0)]))) := s1.trans (Same.new (Same.refl H1) hdp)
      have hdp2 : (upd H1 dp (.dT (dkv [(b, 0)]))) dp = some (.dT (dkv [(b, 0)])) := upd_same
      have hdl2 : (upd H1 dp (.dT (dkv [(b, 0)]))) dl = some (.dT (lkv ls)) := (Same.new (Same.refl H1) hdp) _ _ h1
      have pdp : H dp = none := Same.none s1 hdp
      have ndl : dl ≠ dp := fun e => by rw [e, hdp] at h1; cases h1
      generalize upd H1 dp (.dT (dkv [(b, 0)])) = H2 at hea s2 hdp2 hdl2 ⊢
      have s3 := Same.new (Same.refl H2) hea (o := .lst [.ref ba])
      refine ⟨fun m σ H3 => ∃ (ea : Addr) (te : TI) (kvs : List (IC × Nat)) (n : Nat) (v2 v6 : Option V), σ = [some (.ref la), some (.ref ba), v2, some (.ref dl), some (.ref dp), some (.ref ea), v6, none] ∧ Same H H3 ∧ H3 dl = some (.dT (lkv ls)) ∧ H3 dp = some (.dT (dkv kvs)) ∧ H3 ea = some (.lst (vzI te)) ∧ CI2 H3 te ∧
          Bfs (czI tl) b kvs (czI te) n ∧ (czI te).Nodup ∧ ((te ≠ [] ∧ m = tl.length + 2 - kvs.length) ∨ (te = [] ∧ m = 0)),
        ⟨_, ea, [(ba, b)], [(b, 0)], 0, _, _, rfl, s2.trans s3, s3 _ _ hdl2, s3 _ _ hdp2, upd_same, (fun p hp => by
          rw [List.mem_singleton.mp hp]
          exact (s2.trans s3) _ _ hb), Bfs.start _ _, by simp [czI], .inl ⟨by simp, rfl⟩⟩, ?_⟩
      clear s3 hea hdp2 hdl2 s2 sp eq2 h1 s1 hdp
      rintro m σ H3 ⟨ea, te, kvs, n, v2, v6, rfl, s3, hdl3, hdp3, hea3, hte3, B, hEn, hmm⟩
      have hkl := B.len
      rw [czI_len] at hkl
      have hnd := B.nd
      refine ⟨_, rfl, ea, _, rfl, .inl (.inl (.inl hea3)), _, _, rfl, rfl, _, rfl, ?_⟩
      rcases hmm with ⟨hne, hm2⟩ | ⟨hnil, hm2⟩
      · obtain ⟨e0, er, hte⟩ := List.exists_cons_of_ne_nil hne
        have htel : te.length ≤ 63 := by
          have h := nodup_le (czI te) (kvs.map (·.1)) hEn fun c hc => List.mem_map.mpr ⟨_, (B.edge c).mp hc, rfl⟩
          rw [czI_len, List.length_map] at h
          omega
        refine iteT' (decide_eq_true (by rw [vzI_len, hte, List.length_cons]; omega)) ?_
        refine ⟨_, fun σ' H' h => h, ?_⟩
        have he0 : e0 ∈ te := by rw [hte]; exact List.mem_cons_self
        have hn0 : (e0.2, n) ∈ kvs := (B.edge _).mp (by rw [hte]; exact List.mem_cons_self)
        refine ⟨_, rfl, _, rfl, ea, _, 0, _, rfl, rfl, .inl (.inl hea3), (by rw [hte]; exact at0), dp, _, rfl, (by
          have := DGet.t hdp3 (hte3 _ he0) (k := ick e0.2)
          rw [dkv_some hnd hn0] at this
          exact this), _, _, rfl, rfl, ?_⟩
        -- the next edge
        let Fp (l : List IC) : List IC := l.filter fun c => decide (c ∈ ls) && !decide (c ∈ kvs.map (·.1))
        have hls62 : ls.length ≤ 62 := by rw [vzI_len] at hln; omega
        refine ⟨_, rfl, ea, rfl, ⟨_, .inl (.inl hea3)⟩, fun D hD => ?_⟩
        refine wlk_it (walk_list (K := K) (a := ea) (xs := vzI te)) (fun i H4 => ∃ L, SI P w H4 D L (Fp (((czI te).take i).flatMap adjL)) ∧ Same H3 H4) ⟨[], ⟨upd_same, List.nodup_nil, (fun q hq => absurd hq (by simp)), fun k => by rw [List.take_zero]; exact Iff.rfl⟩, Same.new (Same.refl H3) hD⟩ (fun i H4 _ q => by
          obtain ⟨_, _, q⟩ := q
          exact .inl (.inl (q _ _ hea3))) ?_ ?_
        · rintro i x H4 H4' hi ⟨L, S, s4⟩ ⟨rfl, hx⟩
          rw [vzI_len] at hi
          have hxe : x = .ref te[i].1 := by
            unfold vzI at hx
            rw [List.getElem?_map, List.getElem?_eq_getElem hi] at hx
            exact (Option.some.inj hx).symm
          subst hxe
          have et : (czI te).take (i + 1) = (czI te).take i ++ [te[i].2] := by
            rw [List.take_succ]
            unfold czI
            rw [List.getElem?_map, List.getElem?_eq_getElem hi]
            rfl
          refine ⟨rfl, tyes ?_⟩
          refine ⟨_, rfl, te[i].1, te[i].2, rfl, .inl (.inl (s4 _ _ (hte3 _ (List.getElem_mem hi)))), fun DL t5 H5 s5 hL5 hC5 hcz5 => ⟨DL, rfl, ⟨_, .inl (.inl hL5)⟩, ?_⟩⟩
          have lt5 : t5.length = 4 := by
            rw [← czI_len, hcz5]
            unfold adjL
            rw [List.length_map, List.length_range]
          have hD5 := (S.same s5).at_
          have nDL : DL ≠ D := fun e => by rw [e, hD5] at hL5; cases hL5
          refine wlk_it (walk_list (K := K) (a := DL) (xs := vzI t5)) (fun j H6 => ∃ L, SI P w H6 D L (Fp (((czI te).take i).flatMap adjL ++ (adjL te[i].2).take j)) ∧ But2 D H5 H6 ∧ Same H3 H6) ⟨L, by rw [List.take_zero, List.append_nil]; exact S.same s5, (fun _ _ h _ => h), s4.trans s5⟩ (fun j H6 _ q => by
            obtain ⟨_, _, q, _⟩ := q
            exact .inl (.inl (q _ _ hL5 nDL))) ?_ ?_
          · rintro j x H6 H6' hj ⟨L6, S6, b6, s36⟩ ⟨rfl, hx6⟩
            rw [vzI_len] at hj
            have hxe : x = .ref t5[j].1 := by
              unfold vzI at hx6
              rw [List.getElem?_map, List.getElem?_eq_getElem hj] at hx6
              exact (Option.some.inj hx6).symm
            subst hxe
            have hd : (adjL te[i].2)[j]? = some t5[j].2 := by
              rw [← hcz5]
              unfold czI
              rw [List.getElem?_map, List.getElem?_eq_getElem hj]
              rfl
            have ej : (adjL te[i].2).take (j + 1) = (adjL te[i].2).take j ++ [t5[j].2] := by
              rw [List.take_succ, hd]
              rfl
            have eF : Fp (((czI te).take i).flatMap adjL ++ (adjL te[i].2).take (j + 1)) = Fp (((czI te).take i).flatMap adjL ++ (adjL te[i].2).take j) ++ (if (decide (t5[j].2 ∈ ls) && !decide (t5[j].2 ∈ kvs.map (·.1))) = true then [t5[j].2] else []) := by
              rw [ej, ← List.append_assoc]
              show List.filter _ _ = _
              rw [List.filter_append, List.filter_cons]
              rfl
            have hb5 := hC5 _ (List.getElem_mem hj)
            have hb6 : H6' t5[j].1 = some (.tup (icv t5[j].2)) := b6 _ _ hb5 fun e => by rw [e, hD5] at hb5; cases hb5
            have d1 := DGet.t (s36 _ _ hdl3) hb6 (k := ick t5[j].2)
            have d2 := DGet.t (s36 _ _ hdp3) hb6 (k := ick t5[j].2)
            rw [lkv_val] at d1
            refine ⟨rfl, ?_⟩
            refine ⟨_, rfl, _, rfl, dl, _, rfl, d1, _, rfl, ?_⟩
            by_cases hin : t5[j].2 ∈ ls
            · refine iteT' (by rw [if_pos hin]; rfl) ?_
              refine ⟨_, rfl, _, rfl, dp, _, rfl, d2, _, rfl, ?_⟩
              by_cases hk : t5[j].2 ∈ kvs.map (·.1)
              · obtain ⟨⟨c', m'⟩, h3, e3⟩ := List.mem_map.mp hk
                have e3 : c' = t5[j].2 := e3
                rw [e3] at h3
                refine iteF' (by rw [dkv_some hnd h3]; rfl) ⟨L6, ?_, b6, s36⟩
                rw [eF, if_neg (by rw [decide_eq_true hk]; simp), List.append_nil]
                exact S6
              · refine iteT' (by rw [dkv_none hk]; rfl) ?_
                refine ⟨_, rfl, t5[j].1, icl t5[j].2, L6, rfl, .inl (.inl hb6), S6.at_, (fun q hq => .inl (.inl (S6.tup q hq))), ?_, fun L' c1 c2 => ⟨L', ?_, (fun a o ha ne => by rw [upd_ne ne]; exact b6 a o ha ne), Same.updN s36 hD⟩⟩
                · have h := nodup_le (L6.map (·.2)) (ls.map icl) S6.nd fun k hk => by
                    obtain ⟨c, hc, rfl⟩ := List.mem_map.mp ((S6.mem k).mp hk)
                    have := (List.mem_filter.mp hc).2
                    rw [Bool.and_eq_true, decide_eq_true_eq] at this
                    exact List.mem_map.mpr ⟨c, this.1, rfl⟩
                  rw [List.length_map, List.length_map] at h
                  omega
                · rw [eF, if_pos (by rw [decide_eq_true hin, decide_eq_false hk]; rfl)]
                  exact S6.put hb6 c1 c2
            · refine iteF' (by rw [if_neg hin]; rfl) ?_
              refine iteF' rfl ⟨L6, ?_, b6, s36⟩
              rw [eF, if_neg (by rw [decide_eq_false hin]; simp), List.append_nil]
              exact S6
          · rintro H6 ⟨L6, S6, b6, s36⟩
            refine ⟨L6, ?_, s36⟩
            have e4 : (adjL te[i].2).take (vzI t5).length = adjL te[i].2 := List.take_of_length_le (by rw [vzI_len, ← hcz5, czI_len]; exact Nat.le_refl _)
            rw [e4] at S6
            rw [et, List.flatMap_append]
            have : [te[i].2].flatMap adjL = adjL te[i].2 := by simp
            rw [this]
            exact S6
        · rintro H4 ⟨L, S, s4⟩
          rw [vzI_len, ← czI_len, List.take_length] at S
          refine ⟨D, L, rfl, S.at_, (fun q hq => .inl (.inl (S.tup q hq))), fun L' so hperm hnd2 hso => ?_⟩
          have hmemL : ∀ q ∈ L', ∃ c, q.2 = icl c ∧ (upd H4 so (.lst (L'.map fun q => V.ref q.1))) q.1 = some (.tup (icv c)) := fun q hq => by
            have hqL := hperm.mem_iff.mp hq
            obtain ⟨c, hc, e⟩ := List.mem_map.mp ((S.mem q.2).mp (List.mem_map.mpr ⟨q, hqL, rfl⟩))
            refine ⟨c, e.symm, ?_⟩
            have h4 := S.tup q hqL
            rw [upd_ne (ne_of_none h4 hso), h4, ← e]
            rfl
          obtain ⟨tn, eL, hCn⟩ := ti_of hmemL
          have eV : (L'.map fun q => V.ref q.1) = vzI tn := by
            rw [eL, List.map_map]
            rfl
          have eS : L'.map (·.2) = (czI tn).map icl := by
            rw [eL]
            unfold czI
            rw [List.map_map, List.map_map]
            rfl
          have hnn : (czI tn).Nodup := by
            rw [eS] at hnd2
            exact nodup_of_map hnd2
          have hEn' : ∀ d, d ∈ czI tn ↔ (∃ c ∈ czI te, d ∈ adjL c) ∧ d ∈ czI tl ∧ d ∉ kvs.map (·.1) := fun d => by
            have h1 : d ∈ czI tn ↔ icl d ∈ L'.map (·.2) := by
              rw [eS, List.mem_map]
              exact ⟨fun h => ⟨d, h, rfl⟩, fun ⟨c, hc, e⟩ => by rw [← icl_inj e]; exact hc⟩
            have h2 : icl d ∈ (Fp ((czI te).flatMap adjL)).map icl ↔ d ∈ Fp ((czI te).flatMap adjL) := by
              rw [List.mem_map]
              exact ⟨fun ⟨c, hc, e⟩ => by rw [← icl_inj e]; exact hc, fun h => ⟨d, h, rfl⟩⟩
            rw [h1, (hperm.map (·.2)).mem_iff, S.mem, h2]
            show d ∈ List.filter _ _ ↔ _
            rw [List.mem_filter, Bool.and_eq_true, decide_eq_true_eq, Bool.not_eq_true', decide_eq_false_iff_not, List.mem_flatMap, hm]
          have Bn := B.next hnn hEn'
          have s35 : Same H3 (upd H4 so (.lst (L'.map fun q => V.ref q.1))) := Same.new s4 hso
          have hso5 : (upd H4 so (.lst (L'.map fun q => V.ref q.1))) so = some (.lst (vzI tn)) := by rw [upd_same, eV]
          generalize upd H4 so (.lst (L'.map fun q => V.ref q.1)) = H5 at hCn s35 hso5 ⊢
          clear hmemL
          have hdp5 := s35 _ _ hdp3
          have nsd : so ≠ dp := fun e => by rw [e, hdp5] at hso5; cases hso5
          have hkn : kvs.length + tn.length ≤ tl.length + 1 := by
            have := Bn.len
            rw [List.length_append, List.length_map, czI_len, czI_len] at this
            exact this
          refine ⟨_, rfl, so, rfl, ⟨_, .inl (.inl hso5)⟩, ?_⟩
          refine for_list (K := K) (a := so) (xs := vzI tn) (fun i σ H6 => (∃ v2, σ = [some (.ref la), some (.ref ba), v2, some (.ref dl), some (.ref dp), some (.ref so), some (.int (((n + 1 : Nat) : Nat) : Int)), none]) ∧ But2 dp H5 H6 ∧ Same H H6 ∧ H6 dp = some (.dT (dkv (kvs ++ ((czI tn).take i).map fun d => (d, n + 1)))))
            ⟨⟨_, rfl⟩, (fun _ _ h _ => h), s3.trans s35, by rw [List.take_zero, List.map_nil, List.append_nil]; exact hdp5⟩ (fun i σ H6 _ q => .inl (.inl (q.2.1 _ _ hso5 nsd))) ?_ ?_
          · rintro i x σ H6 hx6 ⟨⟨v2, rfl⟩, b6, s6, h6⟩
            have hi : i < tn.length := by
              have := (List.getElem?_eq_some_iff.mp hx6).1
              rwa [vzI_len] at this
            have hxe : x = .ref tn[i].1 := by
              unfold vzI at hx6
              rw [List.getElem?_map, List.getElem?_eq_getElem hi] at hx6
              exact (Option.some.inj hx6).symm
            subst hxe
            have hiE : (czI tn)[i]? = some tn[i].2 := by
              unfold czI
              rw [List.getElem?_map, List.getElem?_eq_getElem hi]
              rfl
            have et : (czI tn).take (i + 1) = (czI tn).take i ++ [tn[i].2] := by
              rw [List.take_succ, hiE]
              rfl
            have hb5 := hCn _ (List.getElem_mem hi)
            have hb6 : H6 tn[i].1 = some (.tup (icv tn[i].2)) := b6 _ _ hb5 fun e => by rw [e, hdp5] at hb5; cases hb5
            have hnot : tn[i].2 ∉ (kvs ++ ((czI tn).take i).map fun d => (d, n + 1)).map (·.1) := fun h => by
              rw [List.map_append, List.mem_append] at h
              rcases h with h | h
              · exact ((hEn' _).mp (List.mem_of_getElem? hiE)).2.2 h
              · rw [List.map_map] at h
                obtain ⟨d, hd, e⟩ := List.mem_map.mp h
                have e : d = tn[i].2 := e
                rw [e] at hd
                obtain ⟨j, hj, ej⟩ := List.mem_iff_getElem.mp hd
                have hj2 : j < i := by rw [List.length_take] at hj; omega
                rw [List.getElem_take] at ej
                have hj3 : j < (czI tn).length := by rw [czI_len]; omega
                have hi3 : i < (czI tn).length := by rw [czI_len]; exact hi
                have e3 : (czI tn)[i] = tn[i].2 := by
                  rw [List.getElem?_eq_getElem hi3] at hiE
                  exact Option.some.inj hiE
                have := (List.getElem_inj hnn).mp (ej.trans e3.symm)
                omega
            have hlk : (dkv (kvs ++ ((czI tn).take i).map fun d => (d, n + 1))).length ≤ 100 := by
              rw [dkv_len, List.length_append, List.length_map, List.length_take, czI_len]
              omega
            refine ⟨_, rfl, _, rfl, _, rfl, dp, _, rfl, DPut.t h6 hb6 (k := ick tn[i].2) (Nat.lt_of_le_of_lt hlk (by decide)), ?_⟩
            refine ⟨⟨_, rfl⟩, (fun a o ha ne => by rw [upd_ne ne]; exact b6 a o ha ne), Same.updN s6 pdp, ?_⟩
            rw [upd_same, et, List.map_append, ← List.append_assoc]
            exact congrArg (fun z => some (HO.dT z)) (dkv_put hnot)
          · rintro σ H6 ⟨⟨v2, rfl⟩, b6, s6, h6⟩
            rw [vzI_len, ← czI_len, List.take_length] at h6
            have nl5 : so ≠ dp := nsd
            by_cases hz : tn = []
            · refine ⟨0, by omega, so, tn, _, n + 1, _, _, rfl, s6, b6 _ _ (s35 _ _ hdl3) ndl, h6, b6 _ _ hso5 nsd, (fun p hp => by rw [hz] at hp; cases hp), Bn, hnn, .inr ⟨hz, rfl⟩⟩
            · have hpos := List.length_pos_iff.mpr hz
              refine ⟨tl.length + 2 - (kvs ++ (czI tn).map fun d => (d, n + 1)).length, ?_, so, tn, _, n + 1, _, _, rfl, s6, b6 _ _ (s35 _ _ hdl3) ndl, h6, b6 _ _ hso5 nsd, (fun p hp => ?_), Bn, hnn, .inl ⟨hz, rfl⟩⟩
              · rw [List.length_append, List.length_map, czI_len]
                omega
              · have h5 := hCn p hp
                exact b6 _ _ h5 fun e => by rw [e, hdp5] at h5; cases h5
      · refine iteF' (decide_eq_false (by rw [vzI_len, hnil]; simp)) ?_
        refine ⟨_, rfl, ?_⟩
        rw [hnil] at B
        exact k dp kvs H3 pdp s3 hdp3 B.done
end
end Om

namespace Om
open PySem PySem.Spec PyProof.Rows L2 LamX
def spICellsT (K : PySem.W.Frag) (CI : Addr) : Sp := fun vs H Q _ => ∃ (a : Addr) (rows : List (List Nat)), vs = [.ref a] ∧ Isl K CI H a rows ∧ Vd rows ∧ ∀ (D : Addr) (t : TC) (H' : Hp), Same H H' → H D = none → H' D = some (.lst (vz t)) → CA H' t → cz t = cellsOf rows → Q (.ref D) H'
section
variable {P : Program} {w : World} {K : PySem.W.Frag} {mg : Str → Option Value} {base : Heap} {CI CU fN : Addr}
theorem ok_icellsT {f : Addr} {fd : FuncData} (F : FnP K "cells" "Island.cells" (sIslM 4) f fd) (T : IslF K mg CI fN) (genum : mg "enumerate" = none) (gw : ∃ t, mg "WATER" = some (.str (Str.ofString "~") t)) : FnOk P w K mg base CX0 1 f fd ["self"] (spICellsT K CI) := by
  obtain ⟨t0, gw⟩ := gw
  refine F.ok scCells (fun vs H Q E h => ?_) (fun cdv A outer s H vs Q E hr h => ?_)
  · obtain ⟨a, rows, rfl, _⟩ := h
    rfl
  · obtain ⟨a, rows, rfl, ⟨dx, p, hp, hS⟩, vd, k⟩ := h
    have nd := scCells.nd
    refine ⟨_, PSs.nox (pss_one (ps_ret (pe_lc2 (own := [("row", 1), ("signs", 2), ("column", 3), ("sign", 4)]) (vs1 := [3, 4]) (g := gTup K 2 (gCons (gName 1) (gCons (gName 2) gNil))) (g1 := gTup K 2 (gCons (gName 3) (gCons (gName 4) gNil))) rfl nd (pi_enumT rfl genum (pa_cons (pe_fld (pv 0) rfl) pa_nil)) blkCells (by decide)
      (fun _ _ _ _ _ => pg_tup rfl (pgs_cons (pg_name (i := 1) nd rfl (.inl rfl)) (pgs_cons (pg_name (i := 2) nd rfl (.inl rfl)) pgs_nil))) (fun _ _ _ _ _ => pts_nil)
      (fun _ _ _ _ _ => pi_enumS rfl genum (pa_cons (pv 2) pa_nil))
      (fun _ _ _ _ _ => pg_tup rfl (pgs_cons (pg_name (i := 3) nd rfl (.inl rfl)) (pgs_cons (pg_name (i := 4) nd rfl (.inl rfl)) pgs_nil)))
      (fun _ _ _ _ _ => pts_one (pt_cmpR op_ne (pv 4) (pe_glob (v := .str (Str.ofString "~")) rfl gw ⟨_, rfl⟩) (nomark _)))
      (fun _ _ _ _ _ => pe_tup (pa_cons (pv 1) (pa_cons (pv 3) pa_nil)))))), ?_⟩
    refine ⟨_, rfl, a, CI, dx, _, .ref p, rfl, hp, T.cl, T.nR, rfl, p, _, rfl, hS, fun D hD => ?_⟩
    have ez : Str.ofString "~" = (⟨#[126]⟩ : Str) := by decide +kernel
    refine out_it (walk_enumT (K := K) (a := p) (xs := rows.map vt)) (fun i H' => ∃ acc : TC, H' D = some (.lst (vz acc)) ∧ CA H' acc ∧ cz acc = cellsTo rows i ∧ Same H H') ⟨[], upd_same, CA.nil, rfl, Same.new (Same.refl H) hD⟩
      (fun i H' _ q => by obtain ⟨_, _, _, _, q⟩ := q; exact Same.tup q hS) ?_ ?_
    · rintro i x H1 H2 hi ⟨acc, h1, h2, hz, h3⟩ ⟨T1, y, rfl, hT, rfl, hy⟩
      rw [List.length_map] at hi
      obtain ⟨r, hr1⟩ : ∃ r, rows[i]? = some r := ⟨rows[i], by simp [hi]⟩
      have hy2 : y = vt r := by
        have hy : (rows.map vt)[i]? = some y := hy
        rw [List.getElem?_map, hr1] at hy
        exact (Option.some.inj hy).symm
      subst hy2
      have hm : r ∈ rows := List.mem_of_getElem? hr1
      have hDT : D ≠ T1 := fun e => by rw [← e, h1] at hT; cases hT
      have s1 : Same H1 (upd H1 T1 (.tup [.int (i : Nat), vt r])) := Same.new (Same.refl H1) hT
      refine ⟨T1, _, rfl, .inl (.inl upd_same), rfl, _, _, rfl, _, _, rfl, rfl, rfl, tyes ?_⟩
      refine ⟨_, rfl, tx r, rfl, in_it (walk_enumS (x := tx r)) (fun j H' => ∃ acc : TC, H' D = some (.lst (vz acc)) ∧ CA H' acc ∧ cz acc = cellsTo rows i ++ rowCells r i j ∧ Same H H')
        ⟨acc, s1 _ _ h1, h2.same s1, by simp only [rowCells, List.range_zero, List.filter_nil, List.map_nil, List.append_nil]; exact hz, h3.trans s1⟩ (fun _ _ _ _ => trivial) ?_ ?_⟩
      · rintro j x H3 H4 hj ⟨acc2, g1, g2, gz, g3⟩ ⟨T2, y2, rfl, hT2, rfl, hy2⟩
        have hj' : j < r.length := by
          have e : (tx r).cps.size = r.length := by rw [← Array.length_toList, tx_cps]
          rwa [e] at hj
        obtain ⟨c, hc⟩ : ∃ c, r[j]? = some c := ⟨r[j], by simp [hj']⟩
        have hy3 : y2 = .str ⟨#[c]⟩ := by
          have hy2 : ((tx r).cps[j]?).map (fun c => V.str ⟨#[c]⟩) = some y2 := hy2
          have e : (tx r).cps[j]? = some c := by
            rw [← Array.getElem?_toList, tx_cps]
            exact hc
          rw [e] at hy2
          exact (Option.some.inj hy2).symm
        subst hy3
        have s2 : Same H3 (upd H3 T2 (.tup [.int (j : Nat), .str ⟨#[c]⟩])) := Same.new (Same.refl H3) hT2
        have hcd : r.getD j 0 = c := by rw [List.getD_eq_getElem?_getD, hc, Option.getD_some]
        refine ⟨T2, _, rfl, .inl (.inl upd_same), rfl, _, _, rfl, _, _, rfl, rfl, rfl, ?_⟩
        refine ⟨_, rfl, rfl, _, rfl, ?_⟩
        have e2 : (decide (V.str ⟨#[c]⟩ = V.str (Str.ofString "~"))) = decide (c = 126) := by
          rw [ez]
          apply decide_eq_decide.mpr
          simp
        show if (!decide (V.str ⟨#[c]⟩ = V.str (Str.ofString "~"))) = true then _ else _
        rw [e2, rowCells_succ, hcd]
        have w1 : (cellsTo rows i).length ≤ i * 12 := cellsTo_len (fun r hr => (vd.wid r hr).2) i (by omega)
        have w2 := rowCells_len r i j
        have w3 := (vd.wid r hm).2
        have w4 := vd.hgt
        have hlen := congrArg List.length gz
        rw [cz_len, List.length_append] at hlen
        by_cases h126 : c = 126
        · rw [if_pos h126]
          refine iteF' (by rw [decide_eq_true h126]; rfl) ?_
          exact ⟨acc2, s2 _ _ g1, g2.same s2, gz, g3.trans s2⟩
        · rw [if_neg h126]
          refine iteT' (by rw [decide_eq_false h126]; rfl) ?_
          refine ⟨_, rfl, _, rfl, (by show 2 ≤ sizeLine; decide), fun q hq => ?_⟩
          have s3 : Same H3 (upd (upd H3 T2 (.tup [.int (j : Nat), .str ⟨#[c]⟩])) q (.tup [.int (i : Nat), .int (j : Nat)])) := s2.trans (Same.new (Same.refl _) hq)
          have g4 := s3 _ _ g1
          have hqD : D ≠ q := fun e => by rw [← e, s2 _ _ g1] at hq; cases hq
          refine ⟨vz acc2, g4, Nat.lt_of_lt_of_le (show (vz acc2).length < 1000 by rw [vz_len]; omega) (by decide), acc2 ++ [(q, (i, j))], by rw [upd_same, vz_app]; rfl, ?_, ?_, ?_⟩
          · refine CA.updL (CA.app (g2.same s3) (CA.one ?_)) g4
            exact upd_same
          · rw [← List.append_assoc, cz_app, gz]
            rfl
          · intro b o hb
            have hne : b ≠ D := ne_of_none hb hD
            rw [upd_ne hne]
            exact s3 _ _ (g3 b o hb)
      · rintro H3 ⟨acc2, g1, g2, gz, g3⟩
        have e : (tx r).cps.size = r.length := by rw [← Array.length_toList, tx_cps]
        rw [e] at gz
        refine ⟨acc2, g1, g2, ?_, g3⟩
        rw [cellsTo_succ, getD_at hr1]
        exact gz
    · rintro H1 ⟨acc, h1, h2, hz, h3⟩
      rw [List.length_map] at hz
      exact k D acc H1 h3 hD h1 h2 hz
end
end Om

namespace Om
open PySem PySem.Spec PyProof.Rows L2 LamX
/-! ### paths, and what paces_from tells of them -/
inductive Pth (L : List IC) (b : IC) : Nat → IC → Prop
  | nil : Pth L b 0 b
  | cons {n c d} : Pth L b n c → d ∈ adjL c → d ∈ L → Pth L b (n + 1) d
def Rch (L : List IC) (b c : IC) : Prop := ∃ n, Pth L b n c
theorem adj_mem {c d : IC} : d ∈ adjL c ↔ d = (c.1 - 1, c.2) ∨ d = (c.1, c.2 + 1) ∨ d = (c.1 + 1, c.2) ∨ d = (c.1, c.2 - 1) := by
  have e : adjL c = [(c.1 + -1, c.2 + 0), (c.1 + 0, c.2 + 1), (c.1 + 1, c.2 + 0), (c.1 + 0, c.2 + -1)] := rfl
  rw [e]
  simp only [List.mem_cons, List.not_mem_nil, or_false, Int.add_zero]
  exact Iff.rfl
theorem adj_symm {c d : IC} (h : d ∈ adjL c) : c ∈ adjL d := by
  obtain ⟨c1, c2⟩ := c
  rw [adj_mem] at h ⊢
  rcases h with rfl | rfl | rfl | rfl
  · exact .inr (.inr (.inl (by ext <;> simp)))
  · exact .inr (.inr (.inr (by ext <;> simp)))
  · exact .inl (by ext <;> simp)
  · exact .inr (.inl (by ext <;> simp))
theorem Pc.pth {L : List IC} {b : IC} {kvs : List (IC × Nat)} (p : Pc L b kvs) : ∀ m c, (c, m) ∈ kvs → Pth L b m c
  | 0, c, h => by rw [p.zero c h]; exact .nil
  | m + 1, c, h => by
    obtain ⟨c', h1, h2⟩ := p.prev c m h
    rcases p.lnd c (m + 1) h with e | e
    · subst e
      have := p.b0
      obtain ⟨i, hi, ei⟩ := List.mem_iff_getElem.mp h
      obtain ⟨j, hj, ej⟩ := List.mem_iff_getElem.mp this
      have : i = j := by
        refine (List.getElem_inj (xs := kvs.map (·.1)) p.nd (h₀ := by rw [List.length_map]; exact hi) (h₁ := by rw [List.length_map]; exact hj)).mp ?_
        rw [List.getElem_map, List.getElem_map, ei, ej]
      subst this
      rw [ei] at ej
      exact absurd (Prod.mk.inj ej).2 (by omega)
    · exact .cons (p.pth m c' h1) h2 e
theorem Pc.min {L : List IC} {b : IC} {kvs : List (IC × Nat)} (p : Pc L b kvs) {n : Nat} {c : IC} (h : Pth L b n c) : ∃ m, m ≤ n ∧ (c, m) ∈ kvs := by
  induction h with
  | nil => exact ⟨0, Nat.le_refl _, p.b0⟩
  | cons _ hd hL ih =>
    obtain ⟨m, h1, h2⟩ := ih
    obtain ⟨m', h3, h4⟩ := p.clo _ _ h2 _ hd hL
    exact ⟨m', by omega, h3⟩
theorem Pc.keys {L : List IC} {b : IC} {kvs : List (IC × Nat)} (p : Pc L b kvs) {c : IC} : c ∈ kvs.map (·.1) ↔ Rch L b c := by
  constructor
  · intro h
    obtain ⟨⟨c', m⟩, h1, e⟩ := List.mem_map.mp h
    have e : c' = c := e
    subst e
    exact ⟨m, p.pth m c' h1⟩
  · rintro ⟨n, h⟩
    obtain ⟨m, _, h1⟩ := p.min h
    exact List.mem_map.mpr ⟨_, h1, rfl⟩
theorem Rch.refl (L : List IC) (b : IC) : Rch L b b := ⟨0, .nil⟩
theorem Rch.step {L : List IC} {b c d : IC} (h : Rch L b c) (hd : d ∈ adjL c) (hL : d ∈ L) : Rch L b d := by
  obtain ⟨n, h⟩ := h
  exact ⟨n + 1, .cons h hd hL⟩
theorem Rch.trans {L : List IC} {a b c : IC} (h1 : Rch L a b) (h2 : Rch L b c) : Rch L a c := by
  obtain ⟨n, h2⟩ := h2
  induction h2 with
  | nil => exact h1
  | cons _ hd hL ih => exact ih.step hd hL
theorem Rch.mem {L : List IC} {b c : IC} (hb : b ∈ L) (h : Rch L b c) : c ∈ L := by
  obtain ⟨n, h⟩ := h
  cases h with
  | nil => exact hb
  | cons _ _ hL => exact hL
theorem Rch.symm {L : List IC} {b c : IC} (hb : b ∈ L) (h : Rch L b c) : Rch L c b := by
  obtain ⟨n, h⟩ := h
  induction h with
  | nil => exact Rch.refl _ _
  | cons hp hd hL ih =>
    have hc := Rch.mem hb ⟨_, hp⟩
    exact ((Rch.refl L _).step (adj_symm hd) hc).trans ih
/-- a path among fewer cells -/
theorem Rch.mono {L M : List IC} {b c : IC} (h : Rch L b c) (s : ∀ x ∈ L, x ∈ M) : Rch M b c := by
  obtain ⟨n, h⟩ := h
  induction h with
  | nil => exact Rch.refl _ _
  | cons _ hd hL ih => exact ih.step hd (s _ hL)
/-- cells that are closed under paces may be left out, or kept alone -/
theorem Rch.within {L M : List IC} {b c : IC} (hb : b ∈ M) (cl : ∀ x ∈ M, ∀ d ∈ adjL x, d ∈ L → d ∈ M) (h : Rch L b c) : Rch M b c ∧ c ∈ M := by
  obtain ⟨n, h⟩ := h
  induction h with
  | nil => exact ⟨Rch.refl _ _, hb⟩
  | cons _ hd hL ih => exact ⟨ih.1.step hd (cl _ ih.2 _ hd hL), cl _ ih.2 _ hd hL⟩
end Om

namespace Om
open PySem PySem.Spec PyProof.Rows L2 LamX
def icc (c : Cell) : IC := (((c.1 : Nat) : Int), ((c.2 : Nat) : Int))
def toTI (t : TC) : TI := t.map fun p => (p.1, icc p.2)
theorem toTI_vz (t : TC) : vzI (toTI t) = vz t := by
  unfold vzI toTI vz
  rw [List.map_map]
  rfl
theorem toTI_cz (t : TC) : czI (toTI t) = (cz t).map icc := by
  unfold czI toTI cz
  rw [List.map_map, List.map_map]
  rfl
theorem toTI_ca {H : Hp} {t : TC} (h : CA H t) : CI2 H (toTI t) := fun p hp => by
  obtain ⟨q, hq, rfl⟩ := List.mem_map.mp hp
  exact h q hq
/-! ### the order of cells -/
def ltI (c d : IC) : Prop := c.1 < d.1 ∨ (c.1 = d.1 ∧ c.2 < d.2)
theorem ltI_irrefl (c : IC) : ¬ ltI c c := fun h => by unfold ltI at h; omega
theorem ltI_trans {a b c : IC} (h1 : ltI a b) (h2 : ltI b c) : ltI a c := by unfold ltI at *; omega
theorem sorted_eq : ∀ {l m : List IC}, l.Perm m → l.Pairwise ltI → m.Pairwise ltI → l = m
  | [], m, p, _, _ => by rw [List.nil_perm.mp p]
  | a :: l, [], p, _, _ => by cases List.perm_nil.mp p
  | a :: l, b :: m, p, h1, h2 => by
    obtain ⟨h1a, h1b⟩ := List.pairwise_cons.mp h1
    obtain ⟨h2a, h2b⟩ := List.pairwise_cons.mp h2
    have e : a = b := by
      rcases List.mem_cons.mp (p.mem_iff.mp List.mem_cons_self) with e | e
      · exact e
      · rcases List.mem_cons.mp (p.mem_iff.mpr List.mem_cons_self) with f | f
        · exact f.symm
        · exact absurd (ltI_trans (h1a _ f) (h2a _ e)) (ltI_irrefl _)
    subst e
    rw [sorted_eq ((List.perm_cons a).mp p) h1b h2b]
def lowI (c : IC) : Prop := 0 ≤ c.1 ∧ c.1 < 64 ∧ 0 ≤ c.2 ∧ c.2 < 64
theorem code_lt {c d : IC} (hc : lowI c) (hd : lowI d) (h : TS.code 64 (icl c) ≤ TS.code 64 (icl d)) (ne : c ≠ d) : ltI c d := by
  obtain ⟨c1, c2⟩ := c
  obtain ⟨d1, d2⟩ := d
  unfold icl at h
  rw [code_pair, code_pair] at h
  unfold lowI at hc hd
  unfold ltI
  have : ¬ (c1 = d1 ∧ c2 = d2) := fun e => ne (by rw [e.1, e.2])
  simp only at *
  omega
theorem asc_of {l : List IC} (h : l.Pairwise (fun c d => TS.code 64 (icl c) ≤ TS.code 64 (icl d))) (nd : l.Nodup) (lo : ∀ c ∈ l, lowI c) : l.Pairwise ltI :=
  List.Pairwise.imp_of_mem (fun {c d} hc hd z => code_lt (lo c hc) (lo d hd) z.1 z.2) (List.Pairwise.and h nd)
theorem rowCells_asc (r : List Nat) (i n : Nat) : ((rowCells r i n).map icc).Pairwise ltI := by
  unfold rowCells
  rw [List.map_map]
  refine List.Pairwise.map (R := (· < ·)) _ (fun a b h => ?_) (List.Pairwise.filter _ List.pairwise_lt_range)
  exact .inr ⟨rfl, by show ((a : Nat) : Int) < ((b : Nat) : Int); omega⟩
theorem rowCells_row {r : List Nat} {i n : Nat} {c : Cell} (h : c ∈ rowCells r i n) : c.1 = i := by
  obtain ⟨j, _, rfl⟩ := List.mem_map.mp h
  rfl
theorem cellsTo_row {rows : List (List Nat)} {n : Nat} {c : Cell} (h : c ∈ cellsTo rows n) : c.1 < n := by
  obtain ⟨i, hi, hc⟩ := List.mem_flatMap.mp h
  rw [rowCells_row hc]
  exact List.mem_range.mp hi
theorem cells_asc (rows : List (List Nat)) : ∀ n, ((cellsTo rows n).map icc).Pairwise ltI
  | 0 => List.Pairwise.nil
  | n + 1 => by
    have e : cellsTo rows (n + 1) = cellsTo rows n ++ rowCells (rows.getD n []) n (rows.getD n []).length := by
      unfold cellsTo
      rw [List.range_succ, List.flatMap_append]
      simp
    rw [e, List.map_append, List.pairwise_append]
    refine ⟨cells_asc rows n, rowCells_asc _ _ _, fun a ha b hb => ?_⟩
    obtain ⟨c, hc, rfl⟩ := List.mem_map.mp ha
    obtain ⟨d, hd, rfl⟩ := List.mem_map.mp hb
    have h1 := cellsTo_row hc
    have h2 := rowCells_row hd
    exact .inl (by show ((c.1 : Nat) : Int) < ((d.1 : Nat) : Int); omega)
theorem asc_nd {l : List IC} (h : l.Pairwise ltI) : l.Nodup := by
  refine List.Pairwise.imp (R := ltI) ?_ h
  intro a b z e
  subst e
  exact ltI_irrefl a z
/-! ### regions -/
noncomputable def rchB (L : List IC) (b c : IC) : Bool := @decide (Rch L b c) (Classical.propDecidable _)
theorem rchB_iff {L : List IC} {b c : IC} : rchB L b c = true ↔ Rch L b c := @decide_eq_true_iff _ (Classical.propDecidable _)
noncomputable def regsOf : Nat → List IC → List (List IC)
  | 0, _ => []
  | _ + 1, [] => []
  | n + 1, c :: r => (c :: r).filter (rchB (c :: r) c) :: regsOf n ((c :: r).filter fun d => !rchB (c :: r) c d)
end Om

namespace Om
open PySem PySem.Spec PyProof.Rows L2 LamX
def cdI (c : IC) : PyData := .tuple [.int c.1, .int c.2]
def regD (l : List IC) : PyData := .list (l.map cdI)
theorem ci_dp {K : PySem.W.Frag} {H : Hp} : ∀ {t : TI}, CI2 H t → DpAll K H (vzI t) ((czI t).map cdI)
  | [], _ => .nil
  | p :: t, h => .cons (.tup (.inl (.inl (h p (List.mem_cons_self ..)))) (.cons (.int _) (.cons (.int _) .nil))) (ci_dp fun q hq => h q (List.mem_cons_of_mem _ hq))
end Om

namespace Om
open PySem PySem.Spec PyProof.Rows L2 LamX
abbrev sLand : Stmt := top 14
theorem has_of {rows : List (List Nat)} (g : Good2 rows) {c : Cell} (h : c ∈ cellsOf rows) : hasC rows (c.1 : Nat) (c.2 : Nat) = true := by
  rw [← cells_any g, List.any_eq_true]
  refine ⟨cdp c, List.mem_map_of_mem h, ?_⟩
  have z := eqv_cells c c
  rw [decide_eq_true rfl] at z
  exact z
def spLandX (K : PySem.W.Frag) (CI CU : Addr) : Sp := fun vs H Q E => ∃ (a ca : Addr) (rows : List (List Nat)) (c : IC), vs = [.ref a, .ref ca] ∧ Isl K CI H a rows ∧ Good2 rows ∧ SqT K H ca (icv c) ∧ (hasC rows c.1 c.2 = true → Q .non H) ∧ (hasC rows c.1 c.2 = false → E (.ref CU) none H)
section
variable {P : Program} {w : World} {K : PySem.W.Frag} {mg : Str → Option Value} {base : Heap} {CI CU fN pm gt : Addr}
theorem scLand : FnScope ["island", "cell"] ["island", "cell"] (defScope sLand) := ⟨rfl, rfl, rfl, by decide +kernel, rfl, by decide +kernel, by decide +kernel⟩
theorem ok_land {f gC : Addr} {fd fdC : FuncData} (F : FnP K "require_land" "require_land" sLand f fd) (U : ErrU K mg "UnknownCell" CU) (mC : OwnM K CI "__contains__" gC) (GC : FnOk P w K mg base CX0 3 gC fdC ["self", "cell"] (spHas K CI)) (bC : Binds K fdC ["self", "cell"] []) : FnOk P w K mg base (L2.CX P w) 4 f fd ["island", "cell"] (spLandX K CI CU) := by
  refine F.ok scLand (fun vs H Q E h => ?_) (fun cdv A outer s H vs Q E hr h => ?_)
  · obtain ⟨a, ca, rows, c, rfl, _⟩ := h
    rfl
  · obtain ⟨a, ca, rows, c, rfl, hI, g, hC, k1, k2⟩ := h
    refine ⟨_, pss_one (ps_if (pt_cmpR (op_notInOwn mC GC hr bC pass0) (pv 1) (pv 0) (by with_unfolding_all rfl))
      (pss_one (ps_raise rfl (takes_of rfl rfl rfl rfl) (pmk_own PySem.F.excBase_ValueError U.q U.g U.kp (raises_own U.r1 U.r2) rfl))) pss_nil), ?_⟩
    obtain ⟨dx, p, hp, _⟩ := id hI
    refine ⟨_, rfl, _, rfl, a, dx, _, rfl, hp, a, ca, rows, _, _, rfl, hI, g, hC, _, rfl, _, rfl, ?_⟩
    cases e : hasC rows c.1 c.2 with
    | false => exact iteT' rfl (k2 e)
    | true => exact iteF' rfl (k1 e)
end
end Om

namespace Om
open PySem PySem.Spec PyProof.Rows L2 LamX
theorem eqv_ic (c d : IC) : PyData.eqv (cdI c) (cdI d) = decide (c = d) := by
  unfold cdI
  obtain ⟨c1, c2⟩ := c
  obtain ⟨d1, d2⟩ := d
  simp only [PyData.eqv, PyData.eqvAll, Bool.and_true]
  rw [Bool.eq_iff_iff, Bool.and_eq_true, decide_eq_true_eq, Prod.mk.injEq]
  exact and_congr decide_eq_true_iff decide_eq_true_iff
theorem Pc.one {L : List IC} {b : IC} {kvs : List (IC × Nat)} (p : Pc L b kvs) {c : IC} {m n : Nat} (h1 : (c, m) ∈ kvs) (h2 : (c, n) ∈ kvs) : m = n := by
  have e1 := dkv_some p.nd h1
  rw [dkv_some p.nd h2] at e1
  have e2 := V.int.inj (Option.some.inj e1)
  omega
theorem Pc.len {L : List IC} {b : IC} {kvs : List (IC × Nat)} (p : Pc L b kvs) : kvs.length ≤ L.length + 1 := by
  have h := nodup_le (kvs.map (·.1)) (b :: L) p.nd fun c hc => by
    obtain ⟨⟨c', m⟩, h1, e⟩ := List.mem_map.mp hc
    have e : c' = c := e
    subst e
    rcases p.lnd _ _ h1 with h | h
    · rw [h]; exact List.mem_cons_self
    · exact List.mem_cons_of_mem _ h
  rw [List.length_map, List.length_cons] at h
  exact h
section
variable {P : Program} {w : World} {K : PySem.W.Frag} {mg : Str → Option Value} {base : Heap} {CI CU fN pm gt : Addr}
theorem cdI_dp {H : Hp} {a : Addr} {c : IC} (h : H a = some (.tup (icv c))) : Dp K H (.ref a) (cdI c) := .tup (.inl (.inl h)) (.cons (.int _) (.cons (.int _) .nil))
end
end Om

namespace Om
open PySem PySem.Spec PyProof.Rows L2 LamX
def landL (rows : List (List Nat)) : List IC := (cellsOf rows).map icc
theorem land_has {rows : List (List Nat)} (g : Good2 rows) (x : IC) : hasC rows x.1 x.2 = true ↔ x ∈ landL rows := by
  rw [← cells_any g, List.any_map, List.any_eq_true]
  unfold landL
  rw [List.mem_map]
  constructor
  · rintro ⟨c, hc, h⟩
    have h : PyData.eqv (cdp c) (.tuple [.int x.1, .int x.2]) = true := h
    rw [eqv_cell, Bool.and_eq_true, decide_eq_true_eq, decide_eq_true_eq] at h
    exact ⟨c, hc, Prod.ext h.1 h.2⟩
  · rintro ⟨c, hc, rfl⟩
    refine ⟨c, hc, ?_⟩
    show PyData.eqv (cdp c) (.tuple [.int ((c.1 : Nat) : Int), .int ((c.2 : Nat) : Int)]) = true
    rw [eqv_cell, decide_eq_true rfl, decide_eq_true rfl]
    rfl
theorem sh_ics (l : List IC) : SeqAt.shaped (.list (l.map cdI)) = true := by
  refine shaped_of ?_ ?_
  · simp only [PyData.canLay0]
    induction l with
    | nil => simp [PyData.canLayAll0]
    | cons c l ih => simp only [List.map_cons, PyData.canLayAll0, cdI, PyData.canLay0, Bool.and_true, Bool.true_and]; exact ih
  · have h : PyData.depthAll (l.map cdI) ≤ 1 := by
      induction l with
      | nil => simp [PyData.depthAll]
      | cons c l ih => simp only [List.map_cons, PyData.depthAll, cdI, PyData.depth]; omega
    simp only [PyData.depth]
    omega
theorem eqv_ics_nil (l : List IC) : PyData.eqv (.list (l.map cdI)) (.list []) = l.isEmpty := by
  cases l <;> simp [PyData.eqv, PyData.eqvAll]
end Om

namespace Om
open PySem PySem.Spec PyProof.Rows L2 LamX
theorem passE0 {P : Program} {w : World} {X : Cx} : Passes (L2.CX P w) X E0 := fun pins σ H s e s' I h => by
  obtain ⟨a, B, H', cls, d, _, _, _, _, _, _, _, z⟩ := h
  exact z.elim
theorem room65 {k : Nat} {A : Around} (r : Room k A) : A.units + 65 < cLine := by have := r.un; omega
/-! ### rules with an own K -/
def rNotInT (K : PySem.W.Frag) : R2 := fun x y H Q => ∃ d ds, Dp K H x d ∧ Dp K H y (.tuple ds) ∧ SeqAt.shaped d = true ∧ SeqAt.shaped (.tuple ds) = true ∧ Q (.bl (!ds.any fun z => PyData.eqv z d)) H
theorem notInTK {X : Cx} {K : PySem.W.Frag} (hK : X.K = K) (hu : X.A.units + 65 < cLine) : OpR X (compareOp .NotIn) (rNotInT K) := by
  subst hK
  intro pins s σ H x y v u Q I rx ry h
  obtain ⟨d, ds, hd, he, sd, se, q⟩ := h
  obtain ⟨as, r1⟩ := Dp.reads I d x v hd rx
  obtain ⟨bs, r2⟩ := Dp.reads I (.tuple ds) y u he ry
  exact SeqAt.notIn_tuple_reads r2 r1 (SeqAt.canLay_of_shaped se) (SeqAt.canLay_of_shaped sd) (room_in_shaped sd hu) ⟨.bl _, H, I, rfl, q⟩
theorem inDK {X : Cx} {K : PySem.W.Frag} (hK : X.K = K) (hu : X.A.units + 65 < cLine) : OpR X (compareOp .In) (rInD K) := by
  subst hK
  exact op_inD hu
theorem notInDK {X : Cx} {K : PySem.W.Frag} (hK : X.K = K) (hu : X.A.units + 65 < cLine) : OpR X (compareOp .NotIn) (rNotInD K) := by
  subst hK
  exact op_notInD hu
/-! ### cells as data -/
theorem any_ics (l : List IC) (d : IC) : ((l.map cdI).any fun z => PyData.eqv z (cdI d)) = decide (d ∈ l) := by
  rw [List.any_map, Bool.eq_iff_iff, List.any_eq_true, decide_eq_true_eq]
  constructor
  · rintro ⟨x, hx, h⟩
    have h : PyData.eqv (cdI x) (cdI d) = true := h
    rw [eqv_ic, decide_eq_true_eq] at h
    exact h ▸ hx
  · intro h
    exact ⟨d, h, by show PyData.eqv (cdI d) (cdI d) = true; rw [eqv_ic, decide_eq_true rfl]⟩
theorem sh_ic (c : IC) : SeqAt.shaped (cdI c) = true := sh_pair _ _
theorem sh_ic2 (c d : IC) : SeqAt.shaped (.tuple [cdI c, cdI d]) = true := shaped_of (by simp [PyData.canLay0, PyData.canLayAll0, cdI]) (by simp [PyData.depth, PyData.depthAll, cdI])
theorem okD_ics {l : List IC} (h : l.length ≤ 10000) (n : Nat) : okD (n + 3) (.list (l.map cdI)) = true := by
  show (decide ((l.map cdI).length ≤ 10000) && (l.map cdI).all (okD (n + 2))) = true
  rw [Bool.and_eq_true, decide_eq_true_eq, List.length_map, List.all_eq_true]
  refine ⟨h, fun d hd => ?_⟩
  obtain ⟨c, _, rfl⟩ := List.mem_map.mp hd
  rfl
theorem ltl_dp {K : PySem.W.Frag} {H : Hp} {D : Addr} {t : TI} (h : H D = some (.lst (vzI t))) (hc : CI2 H t) : Dp K H (.ref D) (.list ((czI t).map cdI)) := .lst (.inl (.inl h)) (ci_dp hc)
def lsc (l : List (Str × NameKind)) : Scope := { kind := .function, names := l, isGenerator := false, isCoroutine := false, more := [] }
def forBody (s : Stmt) : List Stmt := match s with
  | .For _ _ b _ _ => b
  | _ => []
structure CalM (P : Program) (w : World) (K : PySem.W.Frag) (mg : Str → Option Value) (base : Heap) (CX : CXT) (k : Nat) (f : Addr) (ps : List Str) (sp : Sp) : Prop where
  ex : ∃ fd : FuncData, FnOk P w K mg base CX k f fd ps sp ∧ Binds K fd ps []
theorem far_out (rows : List (List Nat)) : hasC rows 0 (-1) = false := by
  have h : insd rows 0 (-1) = false := by
    unfold insd inR
    rw [decide_eq_false (show ¬ (0 : Int) ≤ -1 by decide), Bool.false_and, Bool.and_false]
  unfold hasC
  rw [h, Bool.false_and]
end Om

namespace Om
open PySem PySem.Spec PyProof.Rows L2 LamX
/-! ### what a filtering comprehension holds -/
structure FI (H1 H : Hp) (D : Addr) (tl u : TI) (F : IC → Bool) (j : Nat) : Prop where
  at_ : H D = some (.lst (vzI u))
  sub : ∀ y ∈ u, y ∈ tl
  eq : czI u = ((czI tl).take j).filter F
  same : Same H1 H
theorem FI.start {H1 : Hp} {D : Addr} {tl : TI} {F : IC → Bool} (h : H1 D = none) : FI H1 (upd H1 D (.lst [])) D tl [] F 0 := ⟨upd_same, fun y hy => (by cases hy), by rw [List.take_zero]; rfl, Same.new (Same.refl H1) h⟩
theorem FI.succ {tl : TI} {F : IC → Bool} {j : Nat} {q : Addr × IC} (h : tl[j]? = some q) : ((czI tl).take (j + 1)).filter F = ((czI tl).take j).filter F ++ (if F q.2 = true then [q.2] else []) := by
  have hjc : (czI tl)[j]? = some q.2 := by
    unfold czI
    rw [List.getElem?_map, h]
    rfl
  rw [List.take_succ, hjc, List.filter_append]
  show _ ++ List.filter F [q.2] = _
  rw [List.filter_cons]
  rfl
theorem FI.put {H1 H : Hp} {D : Addr} {tl u : TI} {F : IC → Bool} {j : Nat} {q : Addr × IC} (f : FI H1 H D tl u F j) (h : tl[j]? = some q) (hF : F q.2 = true) (hD : H1 D = none) : FI H1 (upd H D (.lst (vzI u ++ [.ref q.1]))) D tl (u ++ [q]) F (j + 1) :=
  ⟨by rw [upd_same, vzI_app]; rfl, fun y hy => (List.mem_append.mp hy).elim (f.sub y) fun h2 => by rw [List.mem_singleton.mp h2]; exact List.mem_of_getElem? h, by rw [FI.succ h, if_pos hF, czI_app, f.eq]; rfl, Same.updN f.same hD⟩
theorem FI.skip {H1 H : Hp} {D : Addr} {tl u : TI} {F : IC → Bool} {j : Nat} {q : Addr × IC} (f : FI H1 H D tl u F j) (h : tl[j]? = some q) (hF : F q.2 = false) : FI H1 H D tl u F (j + 1) :=
  ⟨f.at_, f.sub, by rw [FI.succ h, hF, f.eq]; simp, f.same⟩
theorem FI.move {H1 H H' : Hp} {D : Addr} {tl u : TI} {F : IC → Bool} {j : Nat} (f : FI H1 H D tl u F j) (s : Same H H') : FI H1 H' D tl u F j := ⟨s _ _ f.at_, f.sub, f.eq, f.same.trans s⟩
theorem FI.len {H1 H : Hp} {D : Addr} {tl u : TI} {F : IC → Bool} {j : Nat} (f : FI H1 H D tl u F j) : u.length ≤ tl.length := by
  rw [← czI_len, f.eq, ← czI_len tl]
  exact Nat.le_trans (List.length_filter_le ..) (by rw [List.length_take]; exact Nat.min_le_right ..)
theorem FI.done {H1 H : Hp} {D : Addr} {tl u : TI} {F : IC → Bool} (f : FI H1 H D tl u F (vzI tl).length) : czI u = (czI tl).filter F := by
  rw [f.eq, vzI_len, ← czI_len, List.take_length]
theorem FI.at {tl : TI} {j : Nat} {x : V} (h : (vzI tl)[j]? = some x) : ∃ q, tl[j]? = some q ∧ x = .ref q.1 ∧ q ∈ tl := by
  unfold vzI at h
  rw [List.getElem?_map] at h
  cases e : tl[j]? with
  | none => rw [e] at h; cases h
  | some q =>
    rw [e] at h
    exact ⟨q, rfl, (Option.some.inj h).symm, List.mem_of_getElem? e⟩
theorem pickC {t : TC} {n : Int} (h0 : 0 ≤ n) (h1 : n < t.length) : ∃ q ∈ t, atI (vz t) n = some (.ref q.1) := by
  obtain ⟨v, hv, hm⟩ := atI_of (xs := vz t) h0 (by rw [vz_len]; exact h1)
  obtain ⟨q, hq, rfl⟩ := List.mem_map.mp hm
  exact ⟨q, hq, hv⟩
end Om

namespace Om
open PySem PySem.Spec PyProof.Rows L2 LamX
/-- Island(rows), the rows told -/
theorem mk_read {K : PySem.W.Frag} {CI C0 a x dx : Addr} {H : Hp} {W : Hp → Prop} {E : XK} {rows : List (List Nat)} (ok : RowsOk 12 rows) (hS : SqT K H a (rows.map vt)) (hx : H x = none) (hdx : H dx = none) (k : ∀ H', Same H H' → Isl K CI H' x rows → W H') :
    spIsl K CI C0 (.ref x :: ([.ref a] ++ [])) (upd (upd H dx (.own x)) x (.ins CI dx [])) (fun v H2 => v = .non ∧ W H2) E := by
  have g := ok.good (Nat.le_refl _)
  have s2 : Same H (upd (upd H dx (.own x)) x (.ins CI dx [])) := fun c o hc => by
    rw [upd_ne (ne_of_none hc hx), upd_ne (ne_of_none hc hdx)]
    exact hc
  refine ⟨x, dx, a, rows, rfl, upd_same, Same.tup s2 hS, g.le, g.lens, fun e H2 k1 k2 => ⟨rfl, ?_⟩, fun r c e => by rw [chk_rows ok (Nat.le_refl _)] at e; cases e⟩
  have s3 : Same H H2 := fun c o hc => k1 c o (s2 c o hc) (ne_of_none hc hx)
  exact k H2 s3 ⟨dx, a, k2, Same.tup s3 hS⟩
theorem RowsOk.to12 {m : Nat} {rows : List (List Nat)} (h : RowsOk m rows) (hm : m ≤ 12) : RowsOk 12 rows := by
  obtain ⟨h1, h2, wd, w1, w2, hr⟩ := h
  exact ⟨h1, Nat.le_trans h2 hm, wd, w1, Nat.le_trans w2 hm, hr⟩
theorem RowsOk.few {rows : List (List Nat)} (h : RowsOk 7 rows) : (cellsOf rows).length ≤ 62 := by
  obtain ⟨h1, h2, wd, w1, w2, hr⟩ := h
  have h3 := cellsTo_len (rows := rows) (w := 7) (fun r hr' => by rw [(hr r hr').1]; exact w2) rows.length (Nat.le_refl _)
  show (cellsTo rows rows.length).length ≤ 62
  omega
theorem lay_ics (l : List IC) : PyData.canLayAll0 (l.map cdI) = true := by
  induction l with
  | nil => simp [PyData.canLayAll0]
  | cons c l ih => simp only [List.map_cons, PyData.canLayAll0, cdI, PyData.canLay0, Bool.and_true, Bool.true_and]; exact ih
theorem dep_ics (l : List IC) : PyData.depthAll (l.map cdI) ≤ 1 := by
  induction l with
  | nil => simp [PyData.depthAll]
  | cons c l ih => simp only [List.map_cons, PyData.depthAll, cdI, PyData.depth]; omega
end Om

namespace Om
open PySem PySem.Spec PyProof.Rows L2 LamX
/-! ### how far it is -/
structure DistN (L : List IC) (b c : IC) (n : Nat) : Prop where
  p : Pth L b n c
  le : ∀ m, Pth L b m c → n ≤ m
theorem DistN.uniq {L : List IC} {b c : IC} {n m : Nat} (h : DistN L b c n) (k : DistN L b c m) : n = m := Nat.le_antisymm (h.le _ k.p) (k.le _ h.p)
theorem Pc.dist {L : List IC} {b c : IC} {n : Nat} {kvs : List (IC × Nat)} (p : Pc L b kvs) (h : (c, n) ∈ kvs) : DistN L b c n := ⟨p.pth n c h, fun m hm => by
  obtain ⟨m', h1, h2⟩ := p.min hm
  rw [p.one h h2]
  exact h1⟩
theorem DistN.rch {L : List IC} {b c : IC} {n : Nat} (h : DistN L b c n) : Rch L b c := ⟨n, h.p⟩
theorem Pth.trans {L : List IC} {a b c : IC} {n m : Nat} (h : Pth L a n b) (k : Pth L b m c) : Pth L a (n + m) c := by
  induction k with
  | nil => exact h
  | cons _ hd hL ih => exact .cons ih hd hL
theorem Pth.mem {L : List IC} {b c : IC} {n : Nat} (hb : b ∈ L) (h : Pth L b n c) : c ∈ L := Rch.mem hb ⟨n, h⟩
theorem Pth.symm {L : List IC} {b c : IC} {n : Nat} (hb : b ∈ L) (h : Pth L b n c) : Pth L c n b := by
  induction h with
  | nil => exact .nil
  | @cons n c d hp hd hL ih =>
    have h1 : Pth L d 1 c := .cons .nil (adj_symm hd) (hp.mem hb)
    have h2 := h1.trans ih
    rw [Nat.add_comm] at h2
    exact h2
theorem DistN.symm {L : List IC} {b c : IC} {n : Nat} (hb : b ∈ L) (h : DistN L b c n) : DistN L c b n := ⟨h.p.symm hb, fun m k => h.le m (k.symm (h.p.mem hb))⟩
theorem DistN.tri {L : List IC} {a b c : IC} {n m k : Nat} (h1 : DistN L a b n) (h2 : DistN L b c m) (h : DistN L a c k) : k ≤ n + m := h.le _ (h1.p.trans h2.p)
end Om

/-! a lambda's function object, made: the parts of K1G that GFun needs -/
namespace Om
open PySem PySem.Spec PyProof.Rows L2 LamX
/-- the function object: as the library's, its defaults dV -/
abbrev lamFd (qual : Str) (params : Arguments) (body : Expr) (scope : Scope) (cl : List (Str × Addr)) (pm : Value) (c' : Addr) (ctv dV : Value) : FuncData :=
  { PySem.W.kla_fn "<lambda>" qual params body scope cl pm (.ref c') ctv with defaults := dV }
abbrev lamOb (qual : Str) (params : Arguments) (body : Expr) (scope : Scope) (cl : List (Str × Addr)) (pm : Value) (c' : Addr) (ctv dV : Value) : Obj :=
  { cls := .type "function", data := .func (lamFd qual params body scope cl pm c' ctv dV) }
section
variable {M : Model} {A : Around} {E : Value → Shared → Prop} {s : Shared} {qual : Str} {params : Arguments} {body : Expr} {scope : Scope} {env : Env} {c P : Addr} {ps : Array Value} {pos : Pos} {fl : Nat} {mg : Str → Option Value}
  {clos : List (Str × Addr)} {Q : Value → Shared → Prop} {dV : Value}
/-- its code object is new -/
theorem tail_new (e1 : closureFor scope env = pure clos) (e2 : env.globals = mainGlobals) (e3 : s.heap.Ns mainGlobals mg) (e4 : env.code = .ref c) (e5 : PySem.W.CodeHd s.heap c P) (e6 : s.heap.get? P = some { cls := .none, data := .fields ps })
    (e7 : TriplesOk ps.toList) (e8 : codeAmong pos ps.toList = none) (e9 : mainGlobals ≠ P) (e10 : s.heap.BuiltinsAt mg P)
    (k : ∀ c' ctv h' tk, Heap.ExtBut P s.heap h' → s.heap.objs.size ≤ c' → c' < h'.objs.size → h'.CodeRec (.ref c') qual → h'.get? P = some { cls := .none, data := .fields (ps ++ #[rawInt pos.line, rawInt pos.col, .ref c']) } →
      Q (.ref h'.objs.size) { s with heap := h'.push (lamOb qual params body scope clos ((mg "__name__").getD .none) c' ctv dV), toks := tk }) :
    wpAny M A (makeTail "<lambda>" qual params (.expr body) scope env dV .none none pos fl) Q E s := by
  obtain ⟨b1, o1, g1, g2, _, g3, g4, g5, g6, g7⟩ := e10
  unfold makeTail
  rw [e1, e2]
  refine wpAny_bind (wpAny_pure ?_)
  cases clos with
  | nil =>
    simp only [List.isEmpty_nil, if_true]
    refine wpAny_bind (wpAny_pure (wpAny_bind (wpAny_functionCodeX e4 (e5.code e6 e7) (e5.tab e6) e8 fun c' h' tk x1 x2 x3 _ x4 x5 _ => ?_)))
    have G2 := e3.extBut x1 e9
    exact wpAny_bind (wpAny_builtinsFor G2 g1 g2 (x1 _ _ g3 g4) g5 g6 g7 (wpAny_bind (wpAny_nsGet G2 (wpAny_bind (wpAny_pure (wpAny_newObj_type (k c' .none h' tk x1 x2 x3 x4 x5.2) (by size_fits)))))))
  | cons q r =>
    simp only [List.isEmpty_cons, Bool.false_eq_true, if_false]
    refine wpAny_bind (wpAny_newTextTuple ?_)
    have kp : ∀ (oT : Obj) (b : Addr) (o : Obj), s.heap.get? b = some o → (s.heap.push oT).get? b = some o := fun oT b o e => Heap.get?_push_of_some _ e
    refine wpAny_bind (wpAny_functionCodeX e4 ((e5.keeps (kp _)).code (kp _ _ _ e6) e7) ((e5.keeps (kp _)).tab (kp _ _ _ e6)) e8 fun c' h' tk x1 x2 x3 _ x4 x5 _ => ?_)
    have ex : Heap.ExtBut P s.heap h' := fun b o hb e => x1 b o hb (kp _ b o e)
    have G2 := (e3.push _).extBut x1 e9
    have sz : s.heap.objs.size ≤ c' := Nat.le_trans (by rw [Heap.size_push]; omega) x2
    exact wpAny_bind (wpAny_builtinsFor G2 g1 g2 (ex _ _ g3 g4) g5 g6 g7 (wpAny_bind (wpAny_nsGet G2 (wpAny_bind (wpAny_pure (wpAny_newObj_type (k c' _ h' tk ex sz x3 x4 x5.2) (by size_fits)))))))
/-- its code object stands in the table -/
theorem tail_hit {cv : Value} (e1 : closureFor scope env = pure clos) (e2 : env.globals = mainGlobals) (e3 : s.heap.Ns mainGlobals mg) (e4 : env.code = .ref c) (e5 : PySem.W.CodeHd s.heap c P) (e6 : s.heap.get? P = some { cls := .none, data := .fields ps })
    (e7 : TriplesOk ps.toList) (e8 : codeAmong pos ps.toList = some cv) (e10 : s.heap.BuiltinsAt mg P)
    (k : ∀ (ctv : Value) (h' : Heap) (tk : Tok), (∀ b o, s.heap.get? b = some o → h'.get? b = some o) → s.heap.objs.size ≤ h'.objs.size →
      Q (.ref h'.objs.size) { s with heap := h'.push { cls := .type "function", data := .func { PySem.W.kla_fn "<lambda>" qual params body scope clos ((mg "__name__").getD .none) cv ctv with defaults := dV } }, toks := tk }) :
    wpAny M A (makeTail "<lambda>" qual params (.expr body) scope env dV .none none pos fl) Q E s := by
  obtain ⟨b1, o1, g1, g2, _, g3, g4, g5, g6, g7⟩ := e10
  unfold makeTail
  rw [e1, e2]
  refine wpAny_bind (wpAny_pure ?_)
  cases clos with
  | nil =>
    simp only [List.isEmpty_nil, if_true]
    exact wpAny_bind (wpAny_pure (wpAny_bind (wpAny_functionCode_hit e4 (e5.code e6 e7) e8 (wpAny_bind (wpAny_builtinsFor e3 g1 g2 g4 g5 g6 g7 (wpAny_bind (wpAny_nsGet e3 (wpAny_bind (wpAny_pure (wpAny_newObj_type (k .none s.heap s.toks (fun _ _ e => e) (Nat.le_refl _)) (by size_fits)))))))))))
  | cons q r =>
    simp only [List.isEmpty_cons, Bool.false_eq_true, if_false]
    have kp : ∀ (oT : Obj) (b : Addr) (o : Obj), s.heap.get? b = some o → (s.heap.push oT).get? b = some o := fun oT b o e => Heap.get?_push_of_some _ e
    exact wpAny_bind (wpAny_newTextTuple (wpAny_bind (wpAny_functionCode_hit e4 ((e5.keeps (kp _)).code (kp _ _ _ e6) e7) e8 (wpAny_bind (wpAny_builtinsFor (e3.push _) g1 g2 (kp _ _ _ g4) g5 g6 g7
      (wpAny_bind (wpAny_nsGet (e3.push _) (wpAny_bind (wpAny_pure (wpAny_newObj_type (k _ _ s.toks (kp _) (by rw [Heap.size_push]; omega)) (by size_fits)))))))))))
end
end Om

/-! a lambda as a value: made, kept, handed on, called by whoever holds it -/
namespace Om
open PySem PySem.Spec PyProof.Rows L2 LamX NdefX
/-- its words -/
structure LE where
  params : Arguments
  body : Expr
  scope : Scope
  qual : Str
  cl : List (Str × Addr)
  c : Addr
def LE.nf (F : LE) : NF := ⟨"<lambda>", F.qual, F.params, [], F.scope, F.cl, F.c⟩
/-- the function object at f -/
def FnE (f : Addr) (F : LE) : HO := .ext fun h => ∃ pm ctv, h.get? f = some (lamOb F.qual F.params F.body F.scope F.cl pm F.c ctv .none)
theorem fnE_tbl {f : Addr} {F : LE} (ps : Array Value) : FnE f F ≠ .tbl ps := fun z => by
  unfold FnE at z
  cases z
section
variable {X : Cx} {pins : List (Addr × Obj)} {σ : L2.St} {H : Hp} {s : Shared}
theorem fnE_at {f : Addr} {F : LE} (I : Inv X pins σ H s) (h : H f = some (FnE f F)) : ∃ pm ctv, s.heap.get? f = some (lamOb F.qual F.params F.body F.scope F.cl pm F.c ctv .none) := (I.hok f _ h).1
/-- the function object just made is known from now on -/
theorem inv_fnE {F : LE} {o : Obj} {t' : Nat} {pm ctv : Value} (I : Inv X pins σ H s) (ho : o = lamOb F.qual F.params F.body F.scope F.cl pm F.c ctv .none) :
    Inv X pins σ (upd H s.heap.objs.size (FnE s.heap.objs.size F)) { s with heap := s.heap.push o, toks := t' } := by
  subst ho
  refine I.laid (a := s.heap.objs.size) (fun b u e => Heap.get?_push_of_some _ e) (Nat.le_refl _) ?_
  have e : (s.heap.push (lamOb F.qual F.params F.body F.scope F.cl pm F.c ctv .none)).get? s.heap.objs.size = some (lamOb F.qual F.params F.body F.scope F.cl pm F.c ctv .none) := Heap.get?_push_size _ rfl
  exact ⟨⟨pm, ctv, e⟩, ⟨_, e⟩, fun h1 h2 ⟨p, t, z⟩ st => ⟨p, t, st _ z⟩⟩
/-- a lambda without parameters that have a default is made -/
theorem lamE_make {T : List (Addr × Str)} {c P : Addr} {params : Arguments} {body : Expr} {scope : Scope} {pos : Pos} {Q : Value → Shared → Prop} (I : Inv X pins σ H s) (TB : TabB X.base X.mg c P) (hcode : X.env.code = .ref c)
    (hm : (P, X.env.qual ++ "<lambda>") ∈ T) (hu : ∀ p ∈ T, p.1 = P → p.2 = X.env.qual ++ "<lambda>") (hT : Tabs T H) (hdef : defaultsOf params X.env = ([], [])) (hfree : ∀ y ∈ scope.names, y.2 = .free → ∃ c, X.env.cells.lookup y.1 = some c)
    (k : ∀ (f c' : Addr) (H1 : Hp) (s' : Shared), Inv X pins σ H1 s' → ExtN H H1 → Tabs T H1 → H f = none → H1 f = some (FnE f ⟨params, body, scope, X.env.qual ++ "<lambda>", cloFrom X.env.cells scope.names [], c'⟩) → H1 c' = some (CodeO c' (X.env.qual ++ "<lambda>")) → Q (.ref f) s') :
    wpAny (model X.prog X.w) X.A (eval (.Lambda params body scope pos) X.env) Q X.xe s := by
  rw [arm_eval_Lambda, hdef]
  show wpAny _ _ (do let dv ← evalAll []; let kdv ← holding dv (evalAllOpt []); makeFunction "<lambda>" (X.env.qual ++ "<lambda>") params (.expr body) scope X.env dv kdv [] pos pos.line) Q X.xe s
  refine wpAny_bind (wpAny_pure (wpAny_bind (wpAny_holding (wpAny_pure ?_))))
  rw [makeFunction_eq]
  simp only [List.zip_nil_right, List.filterMap_nil, List.isEmpty_nil, if_true, pure_bind]
  obtain ⟨ps, tP, tt, ta⟩ := hT _ hm
  have bP : s.heap.BuiltinsAt X.mg P := TB.bm.keeps I.bk
  have oP : s.heap.get? P = some { cls := .none, data := .fields ps } := I.hok P _ tP
  cases hc : codeAmong pos ps.toList with
  | none =>
    refine tail_new (mg := X.mg) (closure_ok hfree) I.ok.glob (I.mod.glob.keeps I.bk) hcode (TB.code.keeps I.bk) oP tt hc TB.gP bP fun c' ctv h' tk x1 x2 x3 x4 x5 => ?_
    obtain ⟨c2, oc, vs, t, y1, y2, y3, y4⟩ := x4
    cases y1
    have nC : H c' = none := I.hok.fresh x2
    have I1 := inv_table (t' := tk) (more := #[rawInt pos.line, rawInt pos.col, .ref c']) (h' := h') I tP (fun b o hb e => x1 b o hb e) x5 x2 ⟨oc, vs, t, y2, y3, y4⟩
    have nPC : P ≠ c' := ne_of_none tP nC
    have eN : ExtN H (upd (upd H P (.tbl (ps ++ #[rawInt pos.line, rawInt pos.col, .ref c']))) c' (CodeO c' (X.env.qual ++ "<lambda>"))) := fun b o e n => by
      have n1 : b ≠ P := fun z => by
        rw [z, tP] at e
        exact n ps (Option.some.inj e).symm
      rw [upd_ne (ne_of_none e nC), upd_ne n1]
      exact e
    have eL : (ps ++ #[rawInt pos.line, rawInt pos.col, .ref c']).toList = ps.toList ++ [rawInt pos.line, rawInt pos.col, .ref c'] := by simp
    have T1 : Tabs T (upd (upd H P (.tbl (ps ++ #[rawInt pos.line, rawInt pos.col, .ref c']))) c' (CodeO c' (X.env.qual ++ "<lambda>"))) := fun p hp => by
      by_cases hb : p.1 = P
      · rw [hu p hp hb, hb]
        refine ⟨_, by rw [upd_ne nPC, upd_same], by rw [eL]; exact PySem.TriplesOk_snoc _ _ _ _ tt, fun p' cv hcv => ?_⟩
        rw [eL] at hcv
        rcases among_app _ tt hcv with z | z
        · obtain ⟨c0, w1, w2⟩ := ta p' cv z
          exact ⟨c0, w1, eN _ _ w2 codeO_ne⟩
        · exact ⟨c', z, upd_same⟩
      · obtain ⟨ps2, a1, a2, a3⟩ := hT p hp
        refine ⟨ps2, by rw [upd_ne (ne_of_none a1 nC), upd_ne hb]; exact a1, a2, fun p' cv hcv => ?_⟩
        obtain ⟨c0, w1, w2⟩ := a3 p' cv hcv
        exact ⟨c0, w1, eN _ _ w2 codeO_ne⟩
    have nF := I1.hok.fresh (Nat.le_refl _)
    have I2 := inv_fnE (F := ⟨params, body, scope, X.env.qual ++ "<lambda>", cloFrom X.env.cells scope.names [], c'⟩) (t' := tk) (pm := (X.mg "__name__").getD .none) (ctv := ctv) I1 rfl
    refine k h'.objs.size c' _ _ I2 (fun b o e n => ?_) (T1.ext fun b o e => ?_) (I.hok.fresh (Nat.le_trans x2 (Nat.le_of_lt x3))) upd_same ?_
    · have e1 := eN b o e n
      exact (upd_ne (ne_of_none e1 nF)).trans e1
    · exact (upd_ne (ne_of_none e nF)).trans e
    · exact (upd_ne (Nat.ne_of_lt x3)).trans upd_same
  | some cv =>
    obtain ⟨c', y1, y2⟩ := ta pos cv hc
    subst y1
    refine tail_hit (mg := X.mg) (closure_ok hfree) I.ok.glob (I.mod.glob.keeps I.bk) hcode (TB.code.keeps I.bk) oP tt hc bP fun ctv h' tk x1 x2 => ?_
    have I1 : Inv X pins σ H { s with heap := h', toks := tk } := I.kept x1
    have nF : H h'.objs.size = none := I1.hok.fresh (Nat.le_refl _)
    have I2 := inv_fnE (F := ⟨params, body, scope, X.env.qual ++ "<lambda>", cloFrom X.env.cells scope.names [], c'⟩) (t' := tk) (pm := (X.mg "__name__").getD .none) (ctv := ctv) I1 rfl
    refine k h'.objs.size c' _ _ I2 (fun b o e n => ?_) (hT.ext fun b o e => ?_) nF upd_same ?_
    · exact (upd_ne (ne_of_none e nF)).trans e
    · exact (upd_ne (ne_of_none e nF)).trans e
    · exact (upd_ne (ne_of_none y2 nF)).trans y2
end
/-- lambda ..: body, as a value -/
def tLamE (T : List (Addr × Str)) (mk : Addr → LE) : TE := fun σ H Q => Tabs T H ∧ ∀ (f c' : Addr) (H1 : Hp), ExtN H H1 → Tabs T H1 → H f = none → H1 f = some (FnE f (mk c')) → H1 c' = some (CodeO c' (mk c').qual) → Q (.ref f) H1
theorem pe_lamE {X : Cx} {T : List (Addr × Str)} {c P : Addr} {params : Arguments} {body : Expr} {scope : Scope} {pos : Pos} {mk : Addr → LE} (TB : TabB X.base X.mg c P) (hcode : X.env.code = .ref c)
    (hm : (P, X.env.qual ++ "<lambda>") ∈ T) (hu : ∀ p ∈ T, p.1 = P → p.2 = X.env.qual ++ "<lambda>") (hdef : defaultsOf params X.env = ([], [])) (hfree : ∀ y ∈ scope.names, y.2 = .free → X.env.scope.names.lookup y.1 = some .cell ∨ X.env.scope.names.lookup y.1 = some .free)
    (hmk : ∀ c', (⟨params, body, scope, X.env.qual ++ "<lambda>", cloFrom X.env.cells scope.names [], c'⟩ : LE) = mk c') : PE X (.Lambda params body scope pos) (tLamE T mk) := by
  constructor
  rintro pins s σ H Q I ⟨hT, h⟩
  have hfr : ∀ y ∈ scope.names, y.2 = .free → ∃ c, X.env.cells.lookup y.1 = some c := fun y hy e => (hfree y hy e).elim (fun z => I.ok.has _ (.inl z)) fun z => I.ok.has _ (.inr z)
  refine lamE_make I TB hcode hm hu hT hdef hfr fun f c' H1 s' I1 eN T1 f0 f1 c1 => ?_
  rw [hmk c'] at f1
  have eq : X.env.qual ++ "<lambda>" = (mk c').qual := by rw [← hmk c']
  rw [eq] at c1
  exact ⟨.ref f, H1, I1, rfl, h f c' H1 eN T1 f0 f1 c1⟩
/-! ### what it promises -/
structure EOk (P : Program) (w : World) (K : PySem.W.Frag) (mg : Str → Option Value) (base : Heap) (CX : CXT) (k : Nat) (f : Addr) (F : LE) (ps fr : List Str) (sp : List (Option V) → Sp) : Prop where
  len : ∀ ws vs H Q E, sp ws vs H Q E → vs.length = ps.length
  run : ∀ (A : Around) (outer : List Env) (s : Shared) (H : Hp) (us : List Value) (vs : List V) (ws : List (Option V)) (Q : VK) (E : XK), Room k A → Env0 P w K mg base A outer s H → H f = some (FnE f F) → H F.c = some (CodeO F.c F.qual) →
    CellsAt F.cl fr ws s.heap H → Vals vs us → sp ws vs H Q E → codeAny (model P w) A (.call (.ref f) ⟨us, []⟩) (CR CX outer P w H s Q E) s
section
variable {CX : CXT} {P : Program} {w : World} {K : PySem.W.Frag} {mg : Str → Option Value} {base : Heap} {N ps fr : List Str} {F : LE} {f : Addr} {k : Nat} {sp : List (Option V) → Sp}
/-- by its body -/
theorem eok_of (S : NScope N ps fr F.scope) (hb : ∀ (pm ctv : Value) (us : List Value), us.length = ps.length → bindArgs (lamFd F.qual F.params F.body F.scope F.cl pm F.c ctv .none) ⟨us, []⟩ = pure (ps.zip us)) (len : ∀ ws vs H Q E, sp ws vs H Q E → vs.length = ps.length)
    (hbody : ∀ (A : Around) (outer : List Env) (s : Shared) (H : Hp) (vs : List V) (ws : List (Option V)) (Q : VK) (E : XK), Room k (A.deeper (envF F.nf f s.heap.objs.size)) → ws.length = fr.length → sp ws vs H Q E →
      ∃ t, PE (ncx (L2.CX P w) P w K mg base N F.nf f A outer s H E) F.body t ∧ t (startF N vs ws) H Q) :
    EOk P w K mg base (L2.CX P w) (k + 1) f F ps fr sp := by
  refine ⟨len, fun A outer s H us vs ws Q E hr e0 hf hc C r hsp => ?_⟩
  have hl := len _ _ _ _ _ hsp
  have lim : s.heap.NoLimit := e0.mod.nolimit.keeps fun b o e => (e0.bs b o e).1
  obtain ⟨pm, ctv, ho⟩ := (e0.hok f _ hf).1
  obtain ⟨⟨oc, vs', t0, y1, y2, y3⟩, _, _⟩ := e0.hok F.c _ hc
  refine PySem.W.kla_callFunE hr.depth ho rfl S.co S.gen rfl ⟨F.c, oc, vs', t0, rfl, y1, y2, y3⟩ ?_
  have hb' := hb pm ctv us (by rw [← r.length]; exact hl)
  rw [hb']
  refine wpAny_pure (wpAny_newFunctionEnv S.nocell (fun ⟨n, _⟩ hy => S.par n (List.of_mem_zip hy).1) (fun h₁ hns hsb => ⟨lim.fresh _ hsb, ?_⟩) S.kind)
  have kp : ∀ b o, s.heap.get? b = some o → h₁.get? b = some o := fun b o e => hsb.extBut b o (Nat.ne_of_lt (Heap.lt_size e)) (Heap.get?_push_of_some _ e)
  obtain ⟨t, ht, hq⟩ := hbody A outer s H vs ws Q E (hr.deeper _) C.len hsp
  have I : Inv (ncx (L2.CX P w) P w K mg base N F.nf f A outer s H E) [] (startF N vs ws) H { s with heap := h₁, toks := s.toks + (ps.zip us).length } := inv_startN S hr.hd e0 hl r C hns kp
  refine PySem.W.kla_codeExpr (wpAny_mono (ht.run [] _ (startF N vs ws) H Q I hq) (fun v s' ⟨w', H', J, rv, q⟩ => ⟨w', H', J.os, J.bare, J.base, J.hok, rv, q⟩) fun e s' hq => hq)
end
/-! ### calls of a name that holds it -/
def tCallE (mk : Addr → LE) (i : Nat) (sp : List (Option V) → Sp) (E : XK) (t : TA) : TE := fun σ H Q => ∃ f c', σ[i]? = some (some (.ref f)) ∧ H f = some (FnE f (mk c')) ∧
  t σ H fun vs H1 => H1 f = some (FnE f (mk c')) ∧ H1 (mk c').c = some (CodeO (mk c').c (mk c').qual) ∧ sp [] vs H1 Q E
theorem fnAtE {X : Cx} {pins : List (Addr × Obj)} {σ : L2.St} {H : Hp} {s : Shared} {f : Addr} {F : LE} (I : Inv X pins σ H s) (e : H f = some (FnE f F)) : PySem.W.FnAt f s.heap := by
  obtain ⟨pm, ctv, ho⟩ := fnE_at I e
  exact ⟨_, _, _, _, ho⟩
section
variable {X : Cx} {CX : CXT} {mk : Addr → LE} {ps : List Str} {i j k : Nat} {x : Str} {sp : List (Option V) → Sp} {E : XK} {t : TA} {e : Expr} {es : List Expr} {p pos : Pos}
/-- .. a lambda that captures nothing -/
theorem pe_calle (Fn : ∀ f c', EOk X.prog X.w X.K X.mg X.base CX k f (mk c') ps [] sp) (hcl : ∀ c', (mk c').cl = []) (hr : Room j X.A) (hk : k ≤ j) (hx : Passes CX X E) (hN : X.N[i]? = some x) (hv : Vis X.env.scope x) (ha : PA X (e :: es) t)
    (hd : (x == ("__debug__" : Str)) = false := by decide) (hcd : (x == ("__classdict__" : Str)) = false := by decide)
    (he : starEach (e :: es) X.env = (false, eval e X.env) :: starEach es X.env := by rfl) (hpl : (backTo pos (starEach es X.env)).any (·.1) = false := by rfl) :
    PE X (.Call (.Name x p) (e :: es) [] pos) (tCallE mk i sp E t) := by
  refine ⟨fun pins s σ H Q I h => ?_⟩
  obtain ⟨f, c', hs, hf, ht⟩ := h
  refine wpAny_Call_Name_kw (thn ((pe_var (pos := p) hN hv hd hcd).run pins s σ H (fun v H1 => v = .ref f ∧ H1 = H) I ⟨.ref f, hs, rfl, rfl⟩) fun u s1 ⟨v, H1, I1, r1, q1⟩ => ?_)
  obtain ⟨ev, eH⟩ := q1
  subst ev
  rw [eH] at I1
  obtain rfl : u = Value.ref f := r1
  refine PySem.W.callWith_F (first := []) (fnAtE I1 hf) (thn (ha.run pos pins s1 σ H _ I1 ht) fun us s2 ⟨vs, H2, I2, r, h1, h2, q⟩ => ⟨fnAtE I2 h1, ?_⟩) he hpl
  show wpAny _ _ (call (.ref f) us) _ _ _
  have C : CellsAt (mk c').cl [] [] s2.heap H2 := by
    rw [hcl c']
    exact ⟨rfl, (fun y a z => by cases z), (fun y z a b => by cases b), (fun i y z => by cases z)⟩
  refine wpAny_call (codeAny_mono ((Fn f c').run X.A X.stack s2 H2 us vs _ Q E (hr.mono hk) I2.env0 h1 h2 C r q) fun r s' hq => ?_)
  cases r with
  | error e => exact hx pins σ H2 s2 e s' I2 hq
  | ok fl =>
    cases fl with
    | ret u => exact I2.after hq
    | next => exact False.elim hq
    | brk => exact False.elim hq
    | cont => exact False.elim hq
end
end Om

/-! a lambda that captures one variable: its maker lends the variable's cell to the def that it calls; whoever calls the lambda gives the cell back for that while -/
namespace Om
open PySem PySem.Spec PyProof.Rows L2 LamX NdefX
/-- the cell's object -/
def CelO (c : Addr) (o : Obj) : HO := .ext fun h => h.get? c = some o
def del (H : Hp) (c : Addr) : Hp := fun b => if b = c then none else H b
theorem del_same {H : Hp} {c : Addr} : del H c c = none := if_pos rfl
theorem del_ne {H : Hp} {b c : Addr} (n : b ≠ c) : del H c b = H b := if_neg n
theorem celO_ok {P : Program} {w : World} {H : Hp} {h : Heap} {c : Addr} {o : Obj} (e : h.get? c = some o) : ObjOk P w H h c (CelO c o) := ⟨e, ⟨o, e⟩, fun h1 h2 p k => k o p⟩
theorem hok_del {P : Program} {w : World} {H : Hp} {h : Heap} {c : Addr} {o : Obj} (x : HOk P w H h) (hc : H c = some (CelO c o)) : HOk P w (del H c) h := fun a u e => by
  have n : a ≠ c := fun z => by rw [z, del_same] at e; cases e
  rw [del_ne n] at e
  refine (x a u e).stay (fun b u _ q => q) (fun b q => ?_) fun b xs q => ?_
  · rw [del_ne fun z => by rw [z, hc] at q; unfold CelO at q; cases q]; exact q
  · rw [del_ne fun z => by rw [z, hc] at q; unfold CelO at q; cases q]; exact q
theorem hok_add {P : Program} {w : World} {H : Hp} {h : Heap} {c : Addr} {o : Obj} (x : HOk P w H h) (hn : H c = none) (e : h.get? c = some o) : HOk P w (upd H c (CelO c o)) h := fun a u q => by
  by_cases n : a = c
  · subst n
    rw [upd_same] at q
    cases q
    exact celO_ok e
  · rw [upd_ne n] at q
    exact (x a u q).stay (fun b u _ q => q) (fun b q => by rw [upd_ne (ne_of_none q hn)]; exact q) fun b xs q => by rw [upd_ne (ne_of_none q hn)]; exact q
theorem un_lend {P : Program} {w : World} {fs : List Addr} {H H' : Hp} {h h' : Heap} {c : Addr} {o : Obj} (u : Un fs [] (upd H c (CelO c o)) H' h h') (hn : H c = none) (e : h.get? c = some o) (e' : H' c = some (CelO c o)) (ok : HOk P w H' h') : Un fs [] H (del H' c) h h' := by
  have k' : h'.get? c = some o := (ok c _ e').1
  refine ⟨fun b ob q n hb hx => ?_, fun b ob q n hb hx => ?_, fun b ob q n hx => ?_, u.there, fun b xs q => ?_, fun b ob xs q => ?_, fun b ps q => ?_⟩
  · by_cases z : b = c
    · subst z
      rw [e] at q
      cases q
      exact k'
    · exact u.keep b ob q (by rw [upd_ne z]; exact n) hb hx
  · by_cases z : b = c
    · subst z
      rw [e] at q
      cases q
      exact ⟨o.slots, k'⟩
    · exact u.slot b ob q (by rw [upd_ne z]; exact n) hb hx
  · by_cases z : b = c
    · subst z
      exact del_same
    · rw [del_ne z]
      exact u.free b ob q (by rw [upd_ne z]; exact n) hx
  · have z : b ≠ c := ne_of_none q hn
    rw [del_ne z]
    exact u.tups b xs (by rw [upd_ne z]; exact q)
  · have z : b ≠ c := ne_of_none q hn
    rw [del_ne z]
    exact u.frzs b ob xs (by rw [upd_ne z]; exact q)
  · have z : b ≠ c := ne_of_none q hn
    obtain ⟨more, h1⟩ := u.tbls b ps (by rw [upd_ne z]; exact q)
    exact ⟨more, by rw [del_ne z]; exact h1⟩
theorem un_back {fs : List Addr} {H H' : Hp} {h h' : Heap} {c : Addr} {o : Obj} (u : Un fs [] (del H c) H' h h') (e : H c = some (CelO c o)) : Un fs [] H (upd H' c (CelO c o)) h h' := by
  have ne : ∀ {b : Addr} {x : HO}, H b = some x → x ≠ CelO c o → b ≠ c := fun q hx z => by
    rw [z, e] at q
    exact hx (Option.some.inj q).symm
  refine ⟨fun b ob q n hb hx => ?_, fun b ob q n hb hx => ?_, fun b ob q n hx => ?_, u.there, fun b xs q => ?_, fun b ob xs q => ?_, fun b ps q => ?_⟩
  · have z : b ≠ c := fun z => by rw [z, e] at n; cases n
    exact u.keep b ob q (by rw [del_ne z]; exact n) hb hx
  · have z : b ≠ c := fun z => by rw [z, e] at n; cases n
    exact u.slot b ob q (by rw [del_ne z]; exact n) hb hx
  · have z : b ≠ c := fun z => by rw [z, e] at n; cases n
    rw [upd_ne z]
    exact u.free b ob q (by rw [del_ne z]; exact n) hx
  · have z : b ≠ c := ne q fun z => by unfold CelO at z; cases z
    rw [upd_ne z]
    exact u.tups b xs (by rw [del_ne z]; exact q)
  · have z : b ≠ c := ne q fun z => by unfold CelO at z; cases z
    rw [upd_ne z]
    exact u.frzs b ob xs (by rw [del_ne z]; exact q)
  · have z : b ≠ c := ne q fun z => by unfold CelO at z; cases z
    obtain ⟨more, h1⟩ := u.tbls b ps (by rw [del_ne z]; exact q)
    exact ⟨more, by rw [upd_ne z]; exact h1⟩
theorem ce_lend {outer : List Env} {P : Program} {w : World} {H : Hp} {s s' : Shared} {Q : VK} {u : Value} {c : Addr} {o : Obj} (h : CE outer P w (upd H c (CelO c o)) s (fun v H2 => H2 c = some (CelO c o) ∧ Q v (del H2 c)) u s') (hn : H c = none) (e : s.heap.get? c = some o) : CE outer P w H s Q u s' := by
  obtain ⟨v, H', os, bare, un, hok, r, e', q⟩ := h
  exact ⟨v, del H' c, os, bare, un_lend un hn e e' hok, hok_del hok e', r, q⟩
theorem ce_back {outer : List Env} {P : Program} {w : World} {H : Hp} {s s' : Shared} {Q : VK} {u : Value} {c : Addr} {o : Obj} (h : CE outer P w (del H c) s (fun v H2 => Q v (upd H2 c (CelO c o))) u s') (hc : H c = some (CelO c o)) (e : s.heap.get? c = some o) (hf : c ∉ frs outer) : CE outer P w H s Q u s' := by
  obtain ⟨v, H', os, bare, un, hok, r, q⟩ := h
  have h1 : H' c = none := un.free c o e del_same (by simp)
  have h2 := un.keep c o e del_same hf (by simp)
  exact ⟨v, _, os, bare, un_back un hc, hok_add hok h1 h2, r, q⟩
section
variable {P : Program} {w : World} {K : PySem.W.Frag} {mg : Str → Option Value} {base : Heap} {A : Around} {outer : List Env} {s : Shared} {H : Hp} {c : Addr} {o : Obj}
theorem env0_del (e0 : Env0 P w K mg base A outer s H) (hc : H c = some (CelO c o)) : Env0 P w K mg base A outer s (del H c) := by
  have no : ∀ {b : Addr}, H b = none → del H c b = none := fun {b} h => by
    by_cases z : b = c
    · rw [z]; exact del_same
    · rw [del_ne z]; exact h
  exact ⟨e0.frames, e0.mod, fun b ob q => ⟨(e0.bs b ob q).1, no (e0.bs b ob q).2⟩, e0.bsz, e0.funs, fun b hb => no (e0.frf b hb), hok_del e0.hok hc, e0.bare⟩
theorem env0_add (e0 : Env0 P w K mg base A outer s H) (hn : H c = none) (e : s.heap.get? c = some o) (hf : c ∉ frs outer) (hb : base.objs.size ≤ c) : Env0 P w K mg base A outer s (upd H c (CelO c o)) := by
  refine ⟨e0.frames, e0.mod, fun b ob q => ⟨(e0.bs b ob q).1, ?_⟩, e0.bsz, e0.funs, fun b hb' => ?_, hok_add e0.hok hn e, e0.bare⟩
  · rw [upd_ne (show b ≠ c from fun z => absurd (z ▸ Heap.lt_size q : c < base.objs.size) (Nat.not_lt.mpr hb))]
    exact (e0.bs b ob q).2
  · rw [upd_ne (show b ≠ c from fun z => hf (z ▸ hb'))]
    exact e0.frf b hb'
end
section
variable {X : Cx} {pins : List (Addr × Obj)} {σ : L2.St} {H : Hp} {s : Shared} {y : Str} {cc : Addr}
theorem cell_out (I : Inv X pins σ H s) (hfn : X.fn y = true) (hc : X.env.cells.lookup y = some cc) : cc ∉ frs X.stack := fun hb => by
  rcases List.mem_cons.mp (I.stkSub cc hb) with e | hb
  · obtain ⟨m, ⟨o, es, ep, ho, hd, _⟩, _⟩ := I.loc
    obtain ⟨v, o', ho', hd'⟩ := I.cell y cc hc
    rw [e, ho] at ho'
    cases ho'
    rw [hd] at hd'
    cases hd'
  · obtain ⟨_, o, ho, _⟩ := I.ok.funs.mem hb
    have h1 := Heap.lt_size ho
    exact absurd h1 (Nat.not_lt.mpr (I.ok.cab y cc hfn hc))
end
/-! ### the maker's call -/
def tCallL (i : Nat) (cc : Addr) (sp : Sp) (t : TA) : TE := fun σ H Q => ∃ v, σ[i]? = some (some v) ∧ t σ H fun vs H1 => ∀ (o : Obj) (u : Value), H1 cc = none → o.data = .cell (some u) → RelV v u → sp vs (upd H1 cc (CelO cc o)) (fun r H2 => H2 cc = some (CelO cc o) ∧ Q r (del H2 cc)) E0
theorem pe_callL {X : Cx} {k i : Nat} {x y : Str} {ps : List Str} {sp : Sp} {e : Expr} {es : List Expr} {t : TA} {p pos : Pos} {cc : Addr} (C : Cal X.prog X.w X.K X.mg X.base CX0 k x ps sp) (hr : Room k X.A) (ha : PA X (e :: es) t)
    (hN : X.N[i]? = some y) (hy : X.env.scope.names.lookup y = some .cell) (hc : X.env.cells.lookup y = some cc) (hfn : X.fn y = true) (hg : Gl X x := by rfl)
    (hdb : (x == ("__debug__" : Str)) = false := by decide) (he : starEach (e :: es) X.env = (false, eval e X.env) :: starEach es X.env := by rfl) (hpl : (backTo pos (starEach es X.env)).any (·.1) = false := by rfl) :
    PE X (.Call (.Name x p) (e :: es) [] pos) (tCallL i cc sp t) := by
  obtain ⟨f, fd, F, hm, hk, hb⟩ := C.ex
  refine ⟨fun pins s σ H Q I h => ?_⟩
  obtain ⟨v, hv, ht⟩ := h
  refine wpAny_Call_Name_kw (ld_glob I hg hm ?_ hdb)
  refine PySem.W.callWith_K (h₀ := X.base) I.ok.mod.kin hk (thn (ha.run pos pins s σ H _ I ht) fun us s1 ⟨vs, H1, I1, r, q⟩ => ⟨I1.kIn, ?_⟩) he hpl
  have hn : H1 cc = none := I1.freeC y cc hc
  obtain ⟨m, hL, hl⟩ := I1.loc
  obtain ⟨u, ru, look⟩ := hl i y v hN hv (.inr (.inl hy))
  have hko : X.env.kindOf y = some .cell := hy
  rcases look with ⟨z, _⟩ | ⟨_, c2, hc2, o, ho, hd⟩
  · rw [hko] at z; cases z
  rw [hc] at hc2
  cases hc2
  have q := q o u hn hd ru
  have hl : us.length = ps.length := by rw [← r.length]; exact F.len _ _ _ _ q
  have hout := cell_out I1 hfn hc
  have hsz : X.base.objs.size ≤ cc := Nat.le_trans I1.ok.bsz (I1.ok.cab y cc hfn hc)
  refine wpAny_call (codeAny_mono (F.run X.A X.stack s1 (upd H1 cc (CelO cc o)) ⟨us, []⟩ us vs _ E0 hr (env0_add I1.env0 hn ho hout hsz) (by have := hb s1 us I1.kIn (by rw [List.append_nil]; exact hl); rw [List.append_nil] at this; exact this) r q) fun r s' hq => ?_)
  cases r with
  | error e => exact False.elim hq
  | ok fl =>
    cases fl with
    | ret u => exact I1.after (ce_lend hq hn ho)
    | next => exact False.elim hq
    | brk => exact False.elim hq
    | cont => exact False.elim hq
/-! ### calls of a name that holds the lambda -/
def tCallC (i : Nat) (mk : Addr → Addr → LE) (sp : List (Option V) → Sp) (t : TA) : TE := fun σ H Q => ∃ f cc c', σ[i]? = some (some (.ref f)) ∧ H f = some (FnE f (mk cc c')) ∧
  t σ H fun vs H1 => H1 f = some (FnE f (mk cc c')) ∧ H1 (mk cc c').c = some (CodeO (mk cc c').c (mk cc c').qual) ∧ ∃ (o : Obj) (u : Value) (v : V), H1 cc = some (CelO cc o) ∧ o.data = .cell (some u) ∧ RelV v u ∧ sp [some v] vs (del H1 cc) (fun r H2 => Q r (upd H2 cc (CelO cc o))) E0
section
variable {X : Cx} {mk : Addr → Addr → LE} {ps : List Str} {i j k : Nat} {x y : Str} {sp : List (Option V) → Sp} {t : TA} {e : Expr} {es : List Expr} {p pos : Pos}
theorem codeO_at {P : Program} {w : World} {H : Hp} {h : Heap} {c : Addr} {q : Str} (x : HOk P w H h) (e : H c = some (CodeO c q)) : ∃ o vs, h.get? c = some o ∧ o.data = .fields vs := by
  obtain ⟨⟨oc, vs, t, h1, h2, _⟩, _⟩ := x c _ e
  exact ⟨oc, vs, h1, h2⟩
theorem pe_callC (Fn : ∀ f cc c', EOk X.prog X.w X.K X.mg X.base (L2.CX X.prog X.w) k f (mk cc c') ps [y] sp) (hcl : ∀ cc c', (mk cc c').cl = [(y, cc)]) (hr : Room j X.A) (hk : k ≤ j) (hN : X.N[i]? = some x) (hv : Vis X.env.scope x) (ha : PA X (e :: es) t)
    (hd : (x == ("__debug__" : Str)) = false := by decide) (hcd : (x == ("__classdict__" : Str)) = false := by decide)
    (he : starEach (e :: es) X.env = (false, eval e X.env) :: starEach es X.env := by rfl) (hpl : (backTo pos (starEach es X.env)).any (·.1) = false := by rfl) :
    PE X (.Call (.Name x p) (e :: es) [] pos) (tCallC i mk sp t) := by
  refine ⟨fun pins s σ H Q I h => ?_⟩
  obtain ⟨f, cc, c', hs, hf, ht⟩ := h
  refine wpAny_Call_Name_kw (thn ((pe_var (pos := p) hN hv hd hcd).run pins s σ H (fun v H1 => v = .ref f ∧ H1 = H) I ⟨.ref f, hs, rfl, rfl⟩) fun u s1 ⟨v, H1, I1, r1, q1⟩ => ?_)
  obtain ⟨ev, eH⟩ := q1
  subst ev
  rw [eH] at I1
  obtain rfl : u = Value.ref f := r1
  refine PySem.W.callWith_F (first := []) (fnAtE I1 hf) (thn (ha.run pos pins s1 σ H _ I1 ht) fun us s2 ⟨vs, H2, I2, r, h1, h2, o, uc, v, hcc, hod, rv, q⟩ => ⟨fnAtE I2 h1, ?_⟩) he hpl
  show wpAny _ _ (call (.ref f) us) _ _ _
  have ho : s2.heap.get? cc = some o := (I2.hok cc _ hcc).1
  obtain ⟨pm, ctv, hfo⟩ := fnE_at I2 h1
  have nf : f ≠ cc := fun z => by
    rw [z, ho] at hfo
    cases hfo
    cases hod
  have nc : (mk cc c').c ≠ cc := fun z => by
    obtain ⟨o2, vs2, k1, k2⟩ := codeO_at I2.hok h2
    rw [z, ho] at k1
    cases k1
    rw [hod] at k2
    cases k2
  have hout : cc ∉ frs X.stack := fun hb => by
    have := I2.stkFree cc hb
    rw [hcc] at this
    cases this
  have C : CellsAt (mk cc c').cl [y] [some v] s2.heap (del H2 cc) := by
    rw [hcl cc c']
    have lk : ∀ {z : Str} {a : Addr}, List.lookup z [(y, cc)] = some a → z = y ∧ a = cc := fun {z a} e => by
      by_cases hz : (z == y) = true
      · simp only [List.lookup, hz] at e
        exact ⟨eq_of_beq hz, (Option.some.inj e).symm⟩
      · have hz : (z == y) = false := by simpa using hz
        simp only [List.lookup, hz] at e
        cases e
    refine ⟨rfl, fun z a e => ?_, fun z z' a e e' => (lk e).1.trans (lk e').1.symm, fun i z e => ?_⟩
    · rw [(lk e).2]
      exact ⟨del_same, some uc, o, ho, hod⟩
    · cases i with
      | zero =>
        have e : y = z := Option.some.inj e
        subst e
        refine ⟨cc, by simp [List.lookup], fun v' hv' => ?_⟩
        have e2 : v = v' := Option.some.inj (Option.some.inj hv')
        subst e2
        exact ⟨uc, rv, o, ho, hod⟩
      | succ i => cases e
  refine wpAny_call (codeAny_mono ((Fn f cc c').run X.A X.stack s2 (del H2 cc) us vs _ _ E0 (hr.mono hk) (env0_del I2.env0 hcc) (by rw [del_ne nf]; exact h1) (by rw [del_ne nc]; exact h2) C r q) fun r s' hq => ?_)
  cases r with
  | error e =>
    obtain ⟨a, B, H', cls, d, _, _, _, _, _, _, _, z⟩ := hq
    exact z.elim
  | ok fl =>
    cases fl with
    | ret u => exact I2.after (ce_back hq hcc ho hout)
    | next => exact False.elim hq
    | brk => exact False.elim hq
    | cont => exact False.elim hq
end
end Om

namespace Om
open PySem PySem.Spec PyProof.Rows L2 LamX PySem.W
/-! ### orders of cells, the lesser one -/
def ltLI : List IC → List IC → Prop
  | c :: l, d :: m => ltI c d ∨ (c = d ∧ ltLI l m)
  | _, _ => False
theorem ltI_tri (c d : IC) : ltI c d ∨ c = d ∨ ltI d c := by
  obtain ⟨a, b⟩ := c
  obtain ⟨x, y⟩ := d
  unfold ltI
  simp only [Prod.mk.injEq]
  omega
theorem ltLI_irrefl : ∀ l : List IC, ¬ ltLI l l
  | [], h => h
  | c :: l, h => by
    rcases h with h | ⟨_, h⟩
    · exact ltI_irrefl c h
    · exact ltLI_irrefl l h
theorem ltLI_trans : ∀ {l m k : List IC}, ltLI l m → ltLI m k → ltLI l k
  | [], _, _, h, _ => h.elim
  | _ :: _, [], _, h, _ => h.elim
  | _ :: _, _ :: _, [], _, h => h.elim
  | c :: l, d :: m, e :: k, h1, h2 => by
    rcases h1 with h1 | ⟨rfl, h1⟩
    · rcases h2 with h2 | ⟨rfl, h2⟩
      · exact .inl (ltI_trans h1 h2)
      · exact .inl h1
    · rcases h2 with h2 | ⟨rfl, h2⟩
      · exact .inl h2
      · exact .inr ⟨rfl, ltLI_trans h1 h2⟩
theorem ltLI_tri : ∀ {l m : List IC}, l.length = m.length → ltLI l m ∨ l = m ∨ ltLI m l
  | [], [], _ => .inr (.inl rfl)
  | c :: l, d :: m, h => by
    rcases ltI_tri c d with h1 | rfl | h1
    · exact .inl (.inl h1)
    · rcases ltLI_tri (Nat.succ.inj h) with h2 | rfl | h2
      · exact .inl (.inr ⟨rfl, h2⟩)
      · exact .inr (.inl rfl)
      · exact .inr (.inr (.inr ⟨rfl, h2⟩))
    · exact .inr (.inr (.inl h1))
abbrev PO := Int × List IC
def ltPO (p q : PO) : Prop := p.1 < q.1 ∨ (p.1 = q.1 ∧ ltLI p.2 q.2)
theorem ltPO_irrefl (p : PO) : ¬ ltPO p p := fun h => h.elim (fun h => by omega) fun h => ltLI_irrefl _ h.2
theorem ltPO_trans {p q r : PO} (h : ltPO p q) (k : ltPO q r) : ltPO p r := by
  rcases h with h | ⟨h1, h2⟩ <;> rcases k with k | ⟨k1, k2⟩
  · exact .inl (by omega)
  · exact .inl (by omega)
  · exact .inl (by omega)
  · exact .inr ⟨by omega, ltLI_trans h2 k2⟩
theorem ltPO_tri {p q : PO} (h : p.2.length = q.2.length) : ltPO p q ∨ p = q ∨ ltPO q p := by
  rcases Int.lt_trichotomy p.1 q.1 with h1 | h1 | h1
  · exact .inl (.inl h1)
  · rcases ltLI_tri h with h2 | h2 | h2
    · exact .inl (.inr ⟨h1, h2⟩)
    · exact .inr (.inl (Prod.ext h1 h2))
    · exact .inr (.inr (.inr ⟨h1.symm, h2⟩))
  · exact .inr (.inr (.inl h1))
/-- not above, over another -/
theorem le_le {p q r : PO} (hpq : p.2.length = q.2.length) (hqr : q.2.length = r.2.length) (h1 : ¬ ltPO q p) (h2 : ¬ ltPO r q) : ¬ ltPO r p := fun h => by
  rcases ltPO_tri hqr with k | rfl | k
  · exact h1 (ltPO_trans k h)
  · exact h1 h
  · exact h2 k
/-! ### as data -/
def pD (p : PO) : PyData := .tuple [.int p.1, .list (p.2.map cdI)]
theorem alike_cdI (c d : IC) : alike (cdI c) (cdI d) = true := itup_alike [c.1, c.2] [d.1, d.2]
theorem lt_cdI (c d : IC) : dataLt (cdI c) (cdI d) = true ↔ ltI c d := by
  show dataLt (.tuple [.int c.1, .int c.2]) (.tuple [.int d.1, .int d.2]) = true ↔ _
  rw [dataLt_ii, decide_eq_true_eq]
  exact Iff.rfl
theorem lt_ics : ∀ {l m : List IC}, l.length = m.length → (PyProof.Rows.lexLt itemOrd (keyToksAll (l.map cdI)) (keyToksAll (m.map cdI)) = true ↔ ltLI l m)
  | [], [], _ => by
    have h : PyProof.Rows.lexLt itemOrd (keyToksAll (([] : List IC).map cdI)) (keyToksAll (([] : List IC).map cdI)) = false := by
      rw [List.map_nil, keyToksAll]
      exact lex_pre [.inl 0] [] []
    rw [h]
    exact ⟨(fun h => by cases h), fun h => h.elim⟩
  | c :: l, d :: m, h => by
    rw [List.map_cons, List.map_cons, dataLt_cons (alike_cdI c d), eqv_ic]
    by_cases e : c = d
    · subst e
      rw [if_pos (decide_eq_true rfl), lt_ics (Nat.succ.inj h)]
      exact ⟨fun h => .inr ⟨rfl, h⟩, fun h => h.elim (fun h => absurd h (ltI_irrefl c)) fun h => h.2⟩
    · rw [if_neg (by simpa using e), lt_cdI]
      exact ⟨.inl, fun h => h.elim id fun h => absurd h.1 e⟩
theorem alike_icsA : ∀ (l m : List IC), alikeAll (l.map cdI) (m.map cdI) = true
  | [], _ => by rw [List.map_nil, alikeAll]
  | _ :: _, [] => by rw [List.map_cons, List.map_nil, alikeAll]
  | c :: l, d :: m => by rw [List.map_cons, List.map_cons, alikeAll, alike_cdI, alike_icsA l m]; rfl
theorem alike_ics (l m : List IC) : alike (.list (l.map cdI)) (.list (m.map cdI)) = true := by
  rw [alike]
  exact alike_icsA l m
theorem alike_icsT (l m : List IC) : alike (.tuple (l.map cdI)) (.tuple (m.map cdI)) = true := by
  rw [alike]
  exact alike_icsA l m
theorem eqv_icsA : ∀ (l m : List IC), PyData.eqvAll (l.map cdI) (m.map cdI) = decide (l = m)
  | [], [] => by simp [PyData.eqvAll]
  | [], _ :: _ => by simp [PyData.eqvAll]
  | _ :: _, [] => by simp [PyData.eqvAll]
  | c :: l, d :: m => by
    rw [List.map_cons, List.map_cons, PyData.eqvAll, eqv_ic, eqv_icsA l m, Bool.eq_iff_iff, Bool.and_eq_true, decide_eq_true_eq, decide_eq_true_eq, decide_eq_true_eq, List.cons.injEq]
theorem eqv_icsL (l m : List IC) : PyData.eqv (.list (l.map cdI)) (.list (m.map cdI)) = decide (l = m) := by
  rw [PyData.eqv, eqv_icsA]
theorem alike_pD (p q : PO) : alike (pD p) (pD q) = true := by
  show alike (.tuple [.int p.1, .list (p.2.map cdI)]) (.tuple [.int q.1, .list (q.2.map cdI)]) = true
  rw [alike, alikeAll, alikeAll, alikeAll, alike_ics, alike]
  rfl
theorem lt_pD {p q : PO} (h : p.2.length = q.2.length) : dataLt (pD p) (pD q) = true ↔ ltPO p q := by
  show dataLt (.tuple [.int p.1, .list (p.2.map cdI)]) (.tuple [.int q.1, .list (q.2.map cdI)]) = true ↔ _
  rw [dataLt_pair (by rw [alike]) (alike_ics _ _), eqv_icsL, dataLt_list, dataLt_int, PyData.eqv]
  unfold ltPO
  by_cases e : p.1 = q.1
  · rw [if_pos (by simpa using e)]
    by_cases e2 : p.2 = q.2
    · rw [if_pos (decide_eq_true e2), e2]
      exact ⟨(fun h => by cases h), fun h => h.elim (fun h => by omega) fun h => absurd h.2 (ltLI_irrefl _)⟩
    · rw [if_neg (by simpa using e2), lt_ics h]
      exact ⟨fun h => .inr ⟨e, h⟩, fun h => h.elim (fun h => by omega) fun h => h.2⟩
  · rw [if_neg (by simpa using e), decide_eq_true_eq]
    exact ⟨.inl, fun h => h.elim id fun h => absurd h.1 e⟩
/-! ### min of data that a strict order follows -/
theorem minD_least {α : Type} (f : α → PyData) (lt : α → α → Prop) (R : α → Prop) (hlt : ∀ a b, R a → R b → (dataLt (f a) (f b) = true ↔ lt a b)) (irr : ∀ a, ¬ lt a a) (asy : ∀ a b, lt a b → ¬ lt b a) (le3 : ∀ a b c, R a → R b → R c → ¬ lt b a → ¬ lt c b → ¬ lt c a) :
    ∀ (xs : List α) (x : α), R x → (∀ y ∈ xs, R y) → ∃ m ∈ x :: xs, minD (f x) (xs.map f) = f m ∧ ∀ y ∈ x :: xs, ¬ lt y m
  | [], x, _, _ => ⟨x, List.mem_cons_self, rfl, fun y hy => by rw [List.mem_singleton.mp hy]; exact irr x⟩
  | y :: xs, x, hx, hxs => by
    have hy := hxs y List.mem_cons_self
    have hr : ∀ z ∈ xs, R z := fun z hz => hxs z (List.mem_cons_of_mem _ hz)
    have e : minD (f x) ((y :: xs).map f) = minD (if dataLt (f y) (f x) then f y else f x) (xs.map f) := rfl
    rw [e]
    cases h : dataLt (f y) (f x) with
    | true =>
      have h2 := (hlt y x hy hx).mp h
      obtain ⟨m, hm, e2, h3⟩ := minD_least f lt R hlt irr asy le3 xs y hy hr
      have hmR : R m := (List.mem_cons.mp hm).elim (fun e => e ▸ hy) fun h => hr m h
      refine ⟨m, List.mem_cons_of_mem _ hm, e2, fun z hz => ?_⟩
      rcases List.mem_cons.mp hz with rfl | hz
      · exact le3 m y z hmR hy hx (h3 y List.mem_cons_self) (asy y z h2)
      · exact h3 z hz
    | false =>
      have h2 : ¬ lt y x := fun k => by rw [(hlt y x hy hx).mpr k] at h; cases h
      obtain ⟨m, hm, e2, h3⟩ := minD_least f lt R hlt irr asy le3 xs x hx hr
      have hmR : R m := (List.mem_cons.mp hm).elim (fun e => e ▸ hx) fun h => hr m h
      refine ⟨m, ?_, e2, fun z hz => ?_⟩
      · rcases List.mem_cons.mp hm with rfl | hm
        · exact List.mem_cons_self
        · exact List.mem_cons_of_mem _ (List.mem_cons_of_mem _ hm)
      · rcases List.mem_cons.mp hz with rfl | hz
        · exact h3 z List.mem_cons_self
        rcases List.mem_cons.mp hz with rfl | hz
        · exact le3 m x z hmR hx hy (h3 x List.mem_cons_self) h2
        · exact h3 z (List.mem_cons_of_mem _ hz)
end Om

namespace Om
open PySem PySem.Spec PyProof.Rows L2 LamX PySem.W
theorem dpAll_at' {K : PySem.W.Frag} {H : Hp} : ∀ {xs : List V} {ds : List PyData}, DpAll K H xs ds → ∀ {i : Nat} {x : V}, xs[i]? = some x → ∃ d, ds[i]? = some d ∧ Dp K H x d
  | _, _, .nil, _, _, hx => by cases hx
  | _, _, .cons h1 _, 0, _, hx => by cases hx; exact ⟨_, rfl, h1⟩
  | _, _, .cons _ h2, _ + 1, _, hx => dpAll_at' h2 hx
theorem minD_mem : ∀ (dr : List PyData) (d0 : PyData), minD d0 dr ∈ d0 :: dr
  | [], _ => List.mem_cons_self
  | y :: dr, d0 => by
    have e : minD d0 (y :: dr) = minD (if dataLt y d0 then y else d0) dr := rfl
    rw [e]
    rcases List.mem_cons.mp (minD_mem dr (if dataLt y d0 then y else d0)) with h | h
    · rw [h]
      split
      · exact List.mem_cons_of_mem _ List.mem_cons_self
      · exact List.mem_cons_self
    · exact List.mem_cons_of_mem _ (List.mem_cons_of_mem _ h)
/-! ### min(a list of data): the item that is the least -/
def rMinD (K : PySem.W.Frag) : List V → Hp → VK → Prop := fun vs H Q => ∃ (a : Addr) (xs : List V) (d0 : PyData) (dr : List PyData), vs = [V.ref a] ∧ SqL K H a xs ∧ DpAll K H xs (d0 :: dr) ∧ AlikeAll (d0 :: dr) ∧ PyData.depthAll (d0 :: dr) ≤ 8 ∧
  ∀ (i : Nat) (x : V), xs[i]? = some x → (d0 :: dr)[i]? = some (minD d0 dr) → Q x H
theorem cr_minD {X : Cx} {K : PySem.W.Frag} (hK : X.K = K) (hc : X.calm = true) (hu : X.A.units + 64 < cLine) : CallR X (.builtin "min") (rMinD K) := by
  subst hK
  intro pins s σ H xs us Q I rx h
  obtain ⟨a, xs, d0, dr, rfl, hs, hall, hal, hdp, q⟩ := h
  obtain ⟨its, rv, hl, _⟩ := I.list hs
  rw [Vals.ref1 rx]
  obtain ⟨as, hr⟩ := Dp.readsAll I _ _ its hall rv
  refine min_list_data (I.ok.hd hc) hl.isList hr hal (by omega) fun i v h' tk bs hv hrd hk => ?_
  obtain ⟨z, hz, rz⟩ := vals_at rv (show its[i]? = some v by simpa using hv)
  obtain ⟨d, hd, hzd⟩ := dpAll_at' hall hz
  obtain ⟨as2, r2⟩ := Dp.reads I d z v hzd rz
  have e : d = minD d0 dr := alike_unique d _ v _ _ (hal.1 d (List.mem_of_getElem? hd) _ (minD_mem dr d0)) (PyProof.Rows.Reads.keeps hk r2) hrd
  rw [e] at hd
  exact ⟨z, H, I.kept hk, rz, q i z hz hd⟩
theorem neDK {X : Cx} {K : PySem.W.Frag} (hK : X.K = K) (hu : X.A.units + 64 < cLine) : OpR X (compareOp .NotEq) (rNeD K) := by
  subst hK
  exact op_neD hu
/-! ### the least order -/
def costF (d : IC → IC → Nat) (g : List IC → Int) : IC → List IC → Int
  | _, [] => 0
  | a, c :: r => costF d g c r + (d a c : Int) * g (c :: r)
structure Lst (d : IC → IC → Nat) (g : List IC → Int) (a : IC) (l : List IC) (p : PO) : Prop where
  perm : p.2.Perm l
  cost : p.1 = costF d g a p.2
  least : ∀ π : List IC, π.Perm l → ¬ ltPO (costF d g a π, π) p
theorem Lst.nil (d : IC → IC → Nat) (g : List IC → Int) (a : IC) : Lst d g a [] (0, []) := ⟨List.Perm.refl _, rfl, fun π h => by
  have e : π = [] := List.perm_nil.mp h
  subst e
  exact ltPO_irrefl _⟩
def outL (l : List IC) (c : IC) : List IC := l.filter fun x => !decide (x = c)
theorem perm_out {c : IC} {ρ l : List IC} (nd : l.Nodup) (h : (c :: ρ).Perm l) : ρ.Perm (outL l c) := by
  have h2 := h.filter fun x => !decide (x = c)
  have n2 : (c :: ρ).Nodup := h.nodup_iff.mpr nd
  obtain ⟨n3, _⟩ := List.nodup_cons.mp n2
  have e : (c :: ρ).filter (fun x => !decide (x = c)) = ρ := by
    rw [List.filter_cons, if_neg (by simp)]
    exact List.filter_eq_self.mpr fun x hx => by
      have : x ≠ c := fun z => n3 (z ▸ hx)
      simpa using this
  rw [e] at h2
  exact h2
theorem out_perm {c : IC} {l ρ : List IC} (nd : l.Nodup) (hc : c ∈ l) (h : ρ.Perm (outL l c)) : (c :: ρ).Perm l := by
  refine (List.Perm.cons c h).trans ?_
  refine (List.perm_ext_iff_of_nodup ?_ nd).mpr fun x => ?_
  · exact List.nodup_cons.mpr ⟨fun z => by
      have := (List.mem_filter.mp z).2
      simp at this, nd.filter _⟩
  · rw [List.mem_cons]
    unfold outL
    rw [List.mem_filter]
    constructor
    · rintro (rfl | h)
      · exact hc
      · exact h.1
    · intro h
      by_cases e : x = c
      · exact .inl e
      · exact .inr ⟨h, by simpa using e⟩
theorem out_len {l : List IC} (nd : l.Nodup) {c : IC} (hc : c ∈ l) : (outL l c).length + 1 = l.length := by
  have h := (out_perm nd hc (List.Perm.refl (outL l c))).length_eq
  rw [List.length_cons] at h
  exact h
/-- the next candidate -/
def candP (d : IC → IC → Nat) (g : List IC → Int) (a : IC) (l : List IC) (c : IC) (p : PO) : PO := (p.1 + (d a c : Int) * g l, c :: p.2)
theorem Lst.step {d : IC → IC → Nat} {g : List IC → Int} (hg : ∀ l m : List IC, l.Perm m → g l = g m) {a : IC} {l : List IC} (nd : l.Nodup) {ps : List PO} (hlen : ps.length = l.length)
    (hps : ∀ (i : Nat) (q : PO) (c : IC), ps[i]? = some q → l[i]? = some c → ∃ p, Lst d g c (outL l c) p ∧ q = candP d g a l c p) {m : PO} (hm : m ∈ ps) (hle : ∀ q ∈ ps, ¬ ltPO q m) : Lst d g a l m := by
  have len : ∀ {c : IC} {p : PO}, c ∈ l → Lst d g c (outL l c) p → (c :: p.2).Perm l := fun hc hp => out_perm nd hc hp.perm
  obtain ⟨i, hi⟩ := List.mem_iff_getElem?.mp hm
  have hil : i < l.length := by rw [← hlen]; exact (List.getElem?_eq_some_iff.mp hi).1
  obtain ⟨p, hp, rfl⟩ := hps i m l[i] hi (List.getElem?_eq_getElem hil)
  have hpm := len (List.getElem_mem hil) hp
  refine ⟨hpm, ?_, fun π hπ => ?_⟩
  · show p.1 + (d a l[i] : Int) * g l = costF d g l[i] p.2 + (d a l[i] : Int) * g (l[i] :: p.2)
    rw [hp.cost, hg _ _ hpm]
  · cases π with
    | nil =>
      have := hπ.length_eq
      rw [List.length_nil] at this
      omega
    | cons c ρ =>
      have hc : c ∈ l := hπ.mem_iff.mp List.mem_cons_self
      obtain ⟨j, hj⟩ := List.mem_iff_getElem?.mp hc
      have hjl : j < ps.length := by rw [hlen]; exact (List.getElem?_eq_some_iff.mp hj).1
      obtain ⟨p2, hp2, e2⟩ := hps j ps[j] c (List.getElem?_eq_getElem hjl) hj
      have h1 := hle ps[j] (List.getElem_mem hjl)
      rw [e2] at h1
      have hρ := perm_out nd hπ
      have h2 : ¬ ltPO (costF d g a (c :: ρ), c :: ρ) (candP d g a l c p2) := fun k => by
        refine hp2.least ρ hρ ?_
        have e3 : costF d g a (c :: ρ) = costF d g c ρ + (d a c : Int) * g l := by
          show costF d g c ρ + (d a c : Int) * g (c :: ρ) = _
          rw [hg _ _ hπ]
        rw [e3] at k
        unfold candP ltPO at k
        unfold ltPO
        rcases k with k | ⟨k1, k2⟩
        · exact .inl (by simp only at k ⊢; omega)
        · refine .inr ⟨by simp only at k1 ⊢; omega, ?_⟩
          rcases k2 with k2 | ⟨_, k2⟩
          · exact absurd k2 (ltI_irrefl c)
          · exact k2
      refine le_le ?_ ?_ h1 h2
      · have e4 := hpm.length_eq
        have e5 := (len hc hp2).length_eq
        show (l[i] :: p.2).length = (c :: p2.2).length
        omega
      · have e5 := (len hc hp2).length_eq
        have e6 := hπ.length_eq
        show (c :: p2.2).length = (c :: ρ).length
        omega
end Om

namespace Om
open PySem PySem.Spec PyProof.Rows L2 LamX PySem.W NdefX
theorem cdI_inj {c d : IC} (h : cdI c = cdI d) : c = d := by
  have h2 := eqv_ic c d
  rw [h, eqv_ic, decide_eq_true rfl] at h2
  exact of_decide_eq_true h2.symm
theorem ics_inj : ∀ {l m : List IC}, l.map cdI = m.map cdI → l = m
  | [], [], _ => rfl
  | [], _ :: _, h => by cases h
  | _ :: _, [], h => by cases h
  | c :: l, d :: m, h => by
    rw [List.map_cons, List.map_cons] at h
    injection h with h1 h2
    rw [cdI_inj h1, ics_inj h2]
theorem pD_inj {p q : PO} (h : pD p = pD q) : p = q := by
  unfold pD at h
  injection h with h
  injection h with h1 h2
  injection h2 with h2 _
  injection h1 with h1
  injection h2 with h2
  exact Prod.ext h1 (ics_inj h2)
theorem pD_depth (p : PO) : (pD p).depth ≤ 3 := by
  have h := dep_ics p.2
  simp only [pD, PyData.depth, PyData.depthAll]
  omega
/-- the candidates so far: (where it stands, the pair, where the order stands, its cells) -/
abbrev FOL := List (Addr × PO × Addr × TI)
structure FO (H : Hp) (fo : Addr) (fs : FOL) : Prop where
  at_ : H fo = some (.lst (fs.map fun x => V.ref x.1))
  each : ∀ x ∈ fs, H x.1 = some (.tup [.int x.2.1.1, .ref x.2.2.1]) ∧ H x.2.2.1 = some (.lst (vzI x.2.2.2)) ∧ CI2 H x.2.2.2 ∧ czI x.2.2.2 = x.2.1.2 ∧ x.2.2.1 ≠ fo
theorem FO.same {H H' : Hp} {fo : Addr} {fs : FOL} (f : FO H fo fs) (s : Same H H') : FO H' fo fs := ⟨s _ _ f.at_, fun x hx => by
  obtain ⟨h1, h2, h3, h4, h5⟩ := f.each x hx
  exact ⟨s _ _ h1, s _ _ h2, h3.same s, h4, h5⟩⟩
theorem FO.put {H : Hp} {fo t oa : Addr} {fs : FOL} {p : PO} {to : TI} (f : FO H fo fs) (h1 : H t = some (.tup [.int p.1, .ref oa])) (h2 : H oa = some (.lst (vzI to))) (h3 : CI2 H to) (h4 : czI to = p.2) (h5 : oa ≠ fo) :
    FO (upd H fo (.lst ((fs.map fun x => V.ref x.1) ++ [.ref t]))) fo (fs ++ [(t, p, oa, to)]) := by
  have tup : ∀ {a : Addr} {xs : List V}, H a = some (.tup xs) → (upd H fo (.lst ((fs.map fun x => V.ref x.1) ++ [.ref t]))) a = some (.tup xs) := fun h => by
    rw [upd_ne (ne_of h f.at_ fun e => by cases e)]
    exact h
  refine ⟨by rw [upd_same, List.map_append]; rfl, fun x hx => ?_⟩
  rcases List.mem_append.mp hx with hx | hx
  · obtain ⟨g1, g2, g3, g4, g5⟩ := f.each x hx
    exact ⟨tup g1, by rw [upd_ne g5]; exact g2, fun y hy => tup (g3 y hy), g4, g5⟩
  · rw [List.mem_singleton.mp hx]
    exact ⟨tup h1, by rw [upd_ne h5]; exact h2, fun y hy => tup (h3 y hy), h4, h5⟩
theorem fo_dp {K : PySem.W.Frag} {H : Hp} : ∀ {fs : FOL}, (∀ x ∈ fs, H x.1 = some (.tup [.int x.2.1.1, .ref x.2.2.1]) ∧ H x.2.2.1 = some (.lst (vzI x.2.2.2)) ∧ CI2 H x.2.2.2 ∧ czI x.2.2.2 = x.2.1.2) → DpAll K H (fs.map fun x => V.ref x.1) (fs.map fun x => pD x.2.1)
  | [], _ => .nil
  | x :: fs, h => by
    obtain ⟨h1, h2, h3, h4⟩ := h x List.mem_cons_self
    refine .cons (.tup (.inl (.inl h1)) (.cons (.int _) (.cons ?_ .nil))) (fo_dp fun y hy => h y (List.mem_cons_of_mem _ hy))
    rw [← h4]
    exact ltl_dp h2 h3
/-- the dict of the dicts of paces -/
structure PT (H : Hp) (pd : Addr) (S : List IC) (d : IC → IC → Nat) : Prop where
  ex : ∃ pkv, H pd = some (.dT pkv) ∧ ∀ a ∈ S, ∃ (Da : Addr) (kvs : List (IC × Nat)), valV pkv (ick a) = some (.ref Da) ∧ H Da = some (.dT (dkv kvs)) ∧ (kvs.map (·.1)).Nodup ∧ ∀ c ∈ S, (c, d a c) ∈ kvs
  le : ∀ a ∈ S, ∀ c ∈ S, d a c ≤ 100
theorem PT.same {H H' : Hp} {pd : Addr} {S : List IC} {d : IC → IC → Nat} (h : PT H pd S d) (s : Same H H') : PT H' pd S d := by
  obtain ⟨⟨pkv, h1, h2⟩, h3⟩ := h
  refine ⟨⟨pkv, s _ _ h1, fun a ha => ?_⟩, h3⟩
  obtain ⟨Da, kvs, k1, k2, k3⟩ := h2 a ha
  exact ⟨Da, kvs, k1, s _ _ k2, k3⟩
/-! ### the factor: the weights of what is left -/
def arg3 (e : Expr) : Expr := match e with
  | .Call _ (_ :: _ :: _ :: d :: _) _ _ => d
  | _ => .Constant .none 0 ⟨0, 0, 0, 0⟩
abbrev sWW : Stmt := top 31
def wwLam : Expr := arg3 (asgExpr ((defBody sWW).getD 4 noS))
def lamP (e : Expr) : Arguments := match e with
  | .Lambda p _ _ _ => p
  | _ => defArgs sWW
def lamB (e : Expr) : Expr := match e with
  | .Lambda _ b _ _ => b
  | e => e
def lamSc (e : Expr) : Scope := match e with
  | .Lambda _ _ s _ => s
  | _ => defScope sWW
def qS : Str := (envOfC "weighed_walk" (defScope sWW) 0 0 .none).qual ++ "<lambda>"
def mkS (cc c' : Addr) : LE := ⟨lamP wwLam, lamB wwLam, lamSc wwLam, qS, [("weights", cc)], c'⟩
def sumW (wt : IC → Int) (l : List IC) : Int := (l.map wt).sum
theorem sumW_perm (wt : IC → Int) {l m : List IC} (h : l.Perm m) : sumW wt l = sumW wt m := by
  unfold sumW
  induction h with
  | nil => rfl
  | cons x _ ih => rw [List.map_cons, List.map_cons, List.sum_cons, List.sum_cons, ih]
  | swap x y l =>
    simp only [List.map_cons, List.sum_cons]
    omega
  | trans _ _ h1 h2 => exact h1.trans h2
def spS : List (Option V) → Sp := fun ws vs H Q _ => ∃ (la wd : Addr) (tl : TI) (wkv : List (List L2.Key × V)) (wt : IC → Int), ws = [some (.ref wd)] ∧ vs = [.ref la] ∧ H la = some (.lst (vzI tl)) ∧ CI2 H tl ∧ H wd = some (.dT wkv) ∧ (∀ c ∈ czI tl, valV wkv (ick c) = some (.int (wt c))) ∧ tl.length ≤ 100 ∧
  ∀ H', Same H H' → Q (.int (sumW wt (czI tl))) H'
abbrev nS : List Str := ["left", "weights", "other"]
theorem nscS : NScope nS ["left"] ["weights"] (lamSc wwLam) := nscope_by (by decide +kernel)
def suLc : Expr := arg0 (lamB wwLam)
theorem blkSu : BlkOk nS (lamSc wwLam) (lcScope suLc) [("other", 2)] := blkOk_by (by decide +kernel)
theorem sum_ok {P : Program} {w : World} {K : PySem.W.Frag} {mg : Str → Option Value} {base : Heap} (gsum : mg "sum" = none) (f cc c' : Addr) : EOk P w K mg base (L2.CX P w) 1 f (mkS cc c') ["left"] ["weights"] spS :=
  eok_of (N := nS) nscS (fun pm ctv us hl => match us, hl with | [_], _ => rfl) (fun ws vs H Q E h => by obtain ⟨la, wd, tl, wkv, wt, rfl, rfl, _⟩ := h; rfl) fun A outer s H vs ws Q E hr hl h => by
    obtain ⟨la, wd, tl, wkv, wt, rfl, rfl, h1, hCI, h2, h3, h4, q⟩ := h
    have hu := hr.units
    have hu1 : _ + 1 < cLine := Nat.lt_of_le_of_lt (Nat.add_le_add_left (show 1 ≤ 64 by decide) _) hu
    have nd : nS.Nodup := by decide +kernel
    refine ⟨_, pe_callB (cr_sum rfl) (by rfl) gsum (by decide +kernel) (pa_cons (pe_lc (own := [("other", 2)]) (g := gName 2) rfl nd (pi_list (pv 0)) blkSu (fun _ _ _ _ _ => pg_name (i := 2) nd rfl (.inl rfl)) (fun _ _ _ _ _ => pts_nil) (fun _ _ _ _ _ => pe_dget hu1 (pv 1) (pv 2) (fun _ _ => rfl))) pa_nil), ?_⟩
    refine ⟨_, rfl, la, rfl, ⟨_, .inl (.inl h1)⟩, fun D hD => ?_⟩
    refine lc_list (K := K) (a := la) (xs := vzI tl) (fun j H8 => H8 D = some (.lst ((((czI tl).take j).map wt).map V.int)) ∧ Same H H8) ⟨by rw [List.take_zero]; exact upd_same, Same.new (Same.refl H) hD⟩ (fun j H8 _ z => .inl (.inl (z.2 _ _ h1))) ?_ ?_
    · rintro j z H8 hz8 ⟨u1, s8⟩
      obtain ⟨q8, hq, rfl, mq⟩ := FI.at hz8
      have hqc : (czI tl)[j]? = some q8.2 := by
        unfold czI
        rw [List.getElem?_map, hq]
        rfl
      have dg := DGet.t (k := ick q8.2) (s8 _ _ h2) ((hCI.same s8) q8 mq)
      rw [h3 q8.2 (List.mem_of_getElem? hqc)] at dg
      refine ⟨rfl, tyes ?_⟩
      refine ⟨_, rfl, _, rfl, wd, _, rfl, dg, ?_⟩
      refine ⟨_, u1, Nat.lt_of_le_of_lt (show _ ≤ 100 by rw [List.length_map, List.length_map, List.length_take, czI_len]; omega) (by decide), ?_, Same.updN s8 hD⟩
      rw [upd_same, List.take_succ, hqc, List.map_append, List.map_append]
      rfl
    · rintro H8 ⟨u1, s8⟩
      rw [vzI_len, ← czI_len, List.take_length] at u1
      exact ⟨D, _, rfl, .inl (.inl u1), q H8 s8⟩
structure FC (H : Hp) (fa : Addr) (wt : IC → Int) (S : List IC) : Prop where
  ex : ∃ (cc c' : Addr) (o : Obj) (u : Value) (wd : Addr) (wkv : List (List L2.Key × V)), H fa = some (FnE fa (mkS cc c')) ∧ H c' = some (CodeO c' qS) ∧ H cc = some (CelO cc o) ∧ o.data = .cell (some u) ∧ RelV (.ref wd) u ∧ H wd = some (.dT wkv) ∧ ∀ c ∈ S, valV wkv (ick c) = some (.int (wt c))
theorem FC.same {H H' : Hp} {fa : Addr} {wt : IC → Int} {S : List IC} (f : FC H fa wt S) (s : Same H H') : FC H' fa wt S := by
  obtain ⟨cc, c', o, u, wd, wkv, h1, h2, h3, h4, h5, h6, h7⟩ := f.ex
  exact ⟨cc, c', o, u, wd, wkv, s _ _ h1, s _ _ h2, s _ _ h3, h4, h5, s _ _ h6, h7⟩
theorem FC.sub {H : Hp} {fa : Addr} {wt : IC → Int} {S S' : List IC} (f : FC H fa wt S) (s : ∀ c ∈ S', c ∈ S) : FC H fa wt S' := by
  obtain ⟨cc, c', o, u, wd, wkv, h1, h2, h3, h4, h5, h6, h7⟩ := f.ex
  exact ⟨cc, c', o, u, wd, wkv, h1, h2, h3, h4, h5, h6, fun c hc => h7 c (s c hc)⟩
theorem del_keep {H : Hp} {cc a : Addr} {o : Obj} {x : HO} (hc : H cc = some (CelO cc o)) (h : H a = some x) (n : x ≠ CelO cc o) : del H cc a = some x := by
  rw [del_ne fun z => by rw [z, hc] at h; exact n (Option.some.inj h).symm]
  exact h
theorem same_back {H H2 : Hp} {cc : Addr} {o : Obj} (hc : H cc = some (CelO cc o)) (s : Same (del H cc) H2) : Same H (upd H2 cc (CelO cc o)) := fun b x h => by
  by_cases z : b = cc
  · subst z
    rw [upd_same]
    exact hc.symm.trans h
  · rw [upd_ne z]
    exact s _ _ (by rw [del_ne z]; exact h)
abbrev sLO : Stmt := top 27
abbrev pLO : List Str := ["paces", "at", "left", "factor"]
abbrev nLO : List Str := ["paces", "at", "left", "factor", "found", "cell", "total", "order", "other"]
def spLO (n : Nat) : Sp := fun vs H Q _ => ∃ (pd aa la fa : Addr) (tl : TI) (a : IC) (S : List IC) (d : IC → IC → Nat) (wt : IC → Int), vs = [.ref pd, .ref aa, .ref la, .ref fa] ∧ PT H pd S d ∧ H aa = some (.tup (icv a)) ∧ a ∈ S ∧
  H la = some (.lst (vzI tl)) ∧ CI2 H tl ∧ (czI tl).Nodup ∧ (∀ c ∈ czI tl, c ∈ S) ∧ tl.length < n ∧ n ≤ 9 ∧ FC H fa wt (czI tl) ∧
  ∀ (rr oa : Addr) (p : PO) (to : TI) (H' : Hp), Same H H' → H' rr = some (.tup [.int p.1, .ref oa]) → H' oa = some (.lst (vzI to)) → CI2 H' to → czI to = p.2 → Lst d (sumW wt) a (czI tl) p → Q (.ref rr) H'
section
variable {P : Program} {w : World} {K : PySem.W.Frag} {mg : Str → Option Value} {base : Heap}
theorem scLO : FnScope nLO pLO (defScope sLO) := ⟨rfl, rfl, rfl, by decide +kernel, rfl, by decide +kernel, by decide +kernel⟩
def arg2 (e : Expr) : Expr := match e with
  | .Call _ (_ :: _ :: c :: _) _ _ => c
  | _ => .Constant .none 0 ⟨0, 0, 0, 0⟩
def loLc : Expr := arg2 (asgExpr (inFor ((defBody sLO).getD 2 noS) 0))
theorem blkLO : BlkOk nLO (defScope sLO) (lcScope loLc) [("other", 8)] := blkOk_by (by decide +kernel)
theorem ok_lo {f : Addr} {fd : FuncData} (F : FnP K "_least_order" "_least_order" sLO f fd) (hg : mg "_least_order" = some (.ref f)) (hk : PySem.W.keepIn K (.ref f) = true) (hb : Binds K fd pLO [])
    (gsum : mg "sum" = none) (glen : mg "len" = none) (gmin : mg "min" = none) :
    ∀ n, FnOk P w K mg base CX0 (n + 2) f fd pLO (spLO n) := by
  intro n
  induction n with
  | zero =>
    refine F.ok scLO (fun vs H Q E h => ?_) (fun cdv A outer s H vs Q E hr h => ?_)
    · obtain ⟨pd, aa, la, fa, tl, a, S, d, wt, rfl, _⟩ := h
      rfl
    · obtain ⟨pd, aa, la, fa, tl, a, S, d, wt, _, _, _, _, _, _, _, _, h, _⟩ := h
      exact absurd h (Nat.not_lt_zero _)
  | succ n ih =>
    have G : Cal P w K mg base CX0 (n + 2) "_least_order" pLO (spLO n) := ⟨_, _, ih, hg, hk, hb⟩
    refine F.ok scLO (fun vs H Q E h => ?_) (fun cdv A outer s H vs Q E hr h => ?_)
    · obtain ⟨pd, aa, la, fa, tl, a, S, d, wt, rfl, _⟩ := h
      rfl
    · obtain ⟨pd, aa, la, fa, tl, a, S, d, wt, rfl, pt, ha, haS, hla, hCI, hnd, hsub, hln, hn9, hF, k⟩ := h
      have nd := scLO.nd
      have hu := hr.units
      have hu1 : _ + 1 < cLine := Nat.lt_of_le_of_lt (Nat.add_le_add_left (show 1 ≤ 64 by decide) _) hu
      refine ⟨_, PSs.nox (pss_cons (ps_if (pt_cmpR op_eq (pe_callB call_len_seq (by rfl) glen PySem.boot_len (pa_cons (pv 2) pa_nil)) pe_int (nomark _)) (pss_one (ps_ret (pe_tup (pa_cons pe_int (pa_cons (pe_lst pa_nil) pa_nil))))) pss_nil)
        (pss_cons (ps_set (i := 4) nd rfl (.inl rfl) (pe_lst pa_nil))
        (pss_cons (ps_for PassesOwn.never rfl (pi_list (pv 2)) (pg_name (i := 5) nd rfl (.inr rfl))
          (pss_cons (ps_asg (pe_cal G hr pass0 (pa_cons (pv 0) (pa_cons (pv 5) (pa_cons (pe_lc (own := [("other", 8)]) (g := gName 8) rfl nd (pi_list (pv 2)) blkLO (fun _ _ _ _ _ => pg_name (i := 8) nd rfl (.inl rfl)) (fun _ _ _ _ _ => pts_one (pt_cmpR (neDK (K := K) rfl hu) (pv 8) (pv 5) (by with_unfolding_all rfl))) (fun _ _ _ _ _ => pv 8)) (pa_cons (pv 3) pa_nil)))))
              (pg_tup rfl (pgs_cons (pg_name (i := 6) nd rfl (.inl rfl)) (pgs_cons (pg_name (i := 7) nd rfl (.inl rfl)) pgs_nil))))
          (pss_one (ps_expr (pe_bm PySem.F.plainAttrs_list PySem.F.slot_list_append PySem.F.type_list_append mt_append (pv 4) (pa_cons (pe_tup (pa_cons (pe_op op_add (pv 6) (pe_op op_mul (pe_dget hu1 (pe_dget hu1 (pv 0) (pv 1) (fun _ _ => rfl)) (pv 5) (fun _ _ => rfl)) (pe_callC (i := 3) (mk := mkS) (fun f cc c' => sum_ok gsum f cc c') (fun _ _ => rfl) hr (by omega) rfl (.inl rfl) (pa_cons (pv 2) pa_nil))))
              (pa_cons (pe_op op_cat (pe_lst (pa_cons (pv 5) pa_nil)) (pv 7)) pa_nil))) pa_nil))))))
        (pss_one (ps_ret (pe_callB (cr_minD (K := K) rfl rfl hu) (by rfl) gmin (by decide +kernel) (pa_cons (pv 4) pa_nil))))))), ?_⟩
      refine ⟨_, rfl, la, _, rfl, .inl (.inl (.inl hla)), rfl, _, rfl, ?_⟩
      cases hz : tl with
      | nil =>
        subst hz
        refine iteT' (decide_eq_true rfl) ⟨by show 0 ≤ sizeLine; decide, fun oa hoa => ⟨by show 2 ≤ sizeLine; decide, fun rr hrr => ?_⟩⟩
        have s1 := Same.new (Same.refl H) hoa (o := .lst [])
        have s2 := Same.new (Same.refl _) hrr (o := .tup [.int 0, .ref oa])
        exact k rr oa (0, []) [] _ (s1.trans s2) upd_same (s2 _ _ upd_same) (fun y hy => by cases hy) rfl (Lst.nil d (sumW wt) a)
      | cons x0 tr =>
      rw [← hz]
      have hl0 : 0 < tl.length := by rw [hz]; exact Nat.succ_pos _
      refine iteF' (decide_eq_false fun e => ?_) ?_
      · injection e with e
        rw [vzI_len] at e
        omega
      refine ⟨by show 0 ≤ sizeLine; decide, fun fo hfo => ?_⟩
      have s0 := Same.new (Same.refl H) hfo (o := .lst [])
      refine ⟨_, rfl, la, rfl, ⟨_, .inl (.inl (s0 _ _ hla))⟩, ?_⟩
      refine for_list (K := K) (a := la) (xs := vzI tl) (fun i σ H' => (∃ fs : FOL, FO H' fo fs ∧ fs.length = i ∧ ∀ (j : Nat) (x : Addr × PO × Addr × TI) (c : IC), fs[j]? = some x → (czI tl)[j]? = some c → ∃ p, Lst d (sumW wt) c (outL (czI tl) c) p ∧ x.2.1 = candP d (sumW wt) a (czI tl) c p) ∧ Same H H' ∧
          ∃ v5 v6 v7 v8, σ = [some (.ref pd), some (.ref aa), some (.ref la), some (.ref fa), some (.ref fo), v5, v6, v7, v8])
        ⟨⟨[], ⟨upd_same, fun x hx => (by cases hx)⟩, rfl, fun j x c hx => (by cases hx)⟩, s0, _, _, _, _, rfl⟩ (fun i σ H' _ z => .inl (.inl (z.2.1 _ _ hla))) ?_ ?_
      · rintro i x σ H1 hx ⟨⟨fs, fk, fl, fc⟩, s1, v5, v6, v7, v8, rfl⟩
        obtain ⟨q, hq, rfl, mq⟩ := FI.at hx
        have hqc : (czI tl)[i]? = some q.2 := by
          unfold czI
          rw [List.getElem?_map, hq]
          rfl
        have mc : q.2 ∈ czI tl := List.mem_of_getElem? hqc
        have hq1 := (hCI.same s1) q mq
        -- the others
        refine ⟨_, rfl, _, rfl, _, rfl, la, rfl, ⟨_, .inl (.inl (s1 _ _ hla))⟩, fun D hD => ?_⟩
        refine lc_list (K := K) (a := la) (xs := vzI tl) (fun j H2 => ∃ u, FI H1 H2 D tl u (fun x => !decide (x = q.2)) j) ⟨[], FI.start hD⟩ (fun j H2 _ ⟨u, z⟩ => .inl (.inl (z.same _ _ (s1 _ _ hla)))) ?_ ?_
        · rintro j y H2 hy ⟨u, fi⟩
          obtain ⟨r, hr2, rfl, mr⟩ := FI.at hy
          refine ⟨rfl, ?_⟩
          refine ⟨_, rfl, _, rfl, cdI r.2, cdI q.2, cdI_dp (((hCI.same s1).same fi.same) r mr), cdI_dp (fi.same _ _ hq1), sh_ic _, sh_ic _, _, rfl, ?_⟩
          rw [eqv_ic]
          cases ek : (!decide (r.2 = q.2)) with
          | false => exact iteF' rfl ⟨u, fi.skip hr2 ek⟩
          | true =>
            refine iteT' rfl ⟨_, rfl, vzI u, fi.at_, Nat.lt_of_le_of_lt (show _ ≤ 100 by rw [vzI_len]; have := fi.len; omega) (by decide), u ++ [r], ?_⟩
            exact fi.put hr2 ek hD
        · rintro H2 ⟨u, fi⟩
          have eu : czI u = outL (czI tl) q.2 := fi.done
          have s2 := s1.trans fi.same
          have hlu : u.length + 1 = tl.length := by
            have h1 := out_len hnd mc
            rw [← eu, czI_len, czI_len] at h1
            exact h1
          -- the rest
          refine ⟨_, rfl, pd, q.1, D, fa, u, q.2, S, d, wt, rfl, pt.same s2, fi.same _ _ hq1, hsub _ mc, fi.at_, fun y hy => (hCI.same s2) y (fi.sub y hy), by rw [eu]; exact hnd.filter _, fun c hc => ?_, by omega, by omega, (hF.same s2).sub (fun c hc => by rw [eu] at hc; exact (List.mem_filter.mp hc).1), fun rr oa p to H3 s3 h1 h2 h3 h4 hL => ?_⟩
          · rw [eu] at hc
            exact hsub c (List.mem_filter.mp hc).1
          rw [eu] at hL
          refine ⟨rr, _, rfl, .inl (.inl h1), rfl, _, _, rfl, _, _, rfl, rfl, ?_⟩
          have s03 := s2.trans s3
          have fk3 := (fk.same fi.same).same s3
          obtain ⟨⟨pkv, p1, p2⟩, p3⟩ := pt.same s03
          obtain ⟨Da, kvs, k1, k2, k3, k4⟩ := p2 a haS
          have dg1 := DGet.t (k := ick a) p1 (s03 _ _ ha)
          rw [k1] at dg1
          have hq3 := (fi.same.trans s3) _ _ hq1
          have dg2 := DGet.t (k := ick q.2) k2 hq3
          rw [dkv_some k3 (k4 q.2 (hsub _ mc))] at dg2
          have hd := p3 a haS q.2 (hsub _ mc)
          obtain ⟨cc, c', o, uc, wd, wkv, f1, f2, f3, f4, f5, f6, f7⟩ := (hF.same s03).ex
          refine ⟨_, rfl, .inl ⟨rfl, _, .inl (.inl fk3.at_)⟩, _, rfl, _, rfl, _, rfl, pd, _, rfl, dg1, _, rfl, Da, _, rfl, dg2, fa, cc, c', rfl, f1, _, rfl, ?_⟩
          have kl : ∀ {a : Addr} {x : HO}, H3 a = some x → x ≠ CelO cc o → del H3 cc a = some x := fun h n => del_keep f3 h n
          refine ⟨f1, f2, o, uc, .ref wd, f3, f4, f5, la, wd, tl, wkv, wt, rfl, rfl, kl (s03 _ _ hla) (fun z => by unfold CelO at z; cases z), fun y hy => kl ((hCI.same s03) y hy) (fun z => by unfold CelO at z; cases z), kl f6 (fun z => by unfold CelO at z; cases z), f7, by omega, fun HL sL => ?_⟩
          have sB := same_back f3 sL
          have h2 := sB _ _ h2
          have h3 := h3.same sB
          have fk3 := fk3.same sB
          have hq3 := sB _ _ hq3
          have s03 := s03.trans sB
          clear f1 f2 f3 f6 dg1 dg2 p1 p2 k2 k3 k4 k1 sL kl h1
          have s3 := s3.trans sB
          refine ⟨_, _, rfl, rfl, .inl ⟨by omega, by omega⟩, _, _, rfl, rfl, ?_⟩
          generalize upd HL cc (CelO cc o) = HB at sB h2 h3 fk3 hq3 s03 s3 ⊢
          refine ⟨_, rfl, by show 1 ≤ sizeLine; decide, fun l1 hl1 => ⟨_, rfl, ?_⟩⟩
          have s4 := Same.new (Same.refl HB) hl1 (o := .lst [.ref q.1])
          have e4 : (upd HB l1 (.lst [.ref q.1])) l1 = some (.lst (vzI [q])) := upd_same
          generalize upd HB l1 (.lst [.ref q.1]) = H4 at s4 e4 ⊢
          have lto : to.length ≤ 9 := by
            have h5 := hL.perm.length_eq
            rw [← h4, czI_len, ← eu, czI_len] at h5
            omega
          refine ⟨l1, oa, _, _, rfl, rfl, e4, s4 _ _ h2, Nat.le_trans (show _ ≤ 100 by rw [vzI_len, vzI_len, List.length_singleton]; omega) (by decide), fun l2 hl2 => ?_⟩
          rw [← vzI_app]
          have s5 := Same.new (Same.refl H4) hl2 (o := .lst (vzI ([q] ++ to)))
          have e5 : (upd H4 l2 (.lst (vzI ([q] ++ to)))) l2 = some (.lst (vzI ([q] ++ to))) := upd_same
          have n5 : l2 ≠ fo := fun e => by
            have h6 := s4 _ _ fk3.at_
            rw [← e, hl2] at h6
            cases h6
          generalize upd H4 l2 (.lst (vzI ([q] ++ to))) = H5 at s5 e5 ⊢
          refine ⟨by show 2 ≤ sizeLine; decide, fun t ht => ?_⟩
          have s6 := Same.new (Same.refl H5) ht (o := .tup [.int (p.1 + (d a q.2 : Int) * (sumW wt) (czI tl)), .ref l2])
          have e6 : (upd H5 t (.tup [.int (p.1 + (d a q.2 : Int) * (sumW wt) (czI tl)), .ref l2])) t = some (.tup [.int (p.1 + (d a q.2 : Int) * (sumW wt) (czI tl)), .ref l2]) := upd_same
          have s36 := (s4.trans s5).trans s6
          show tNil _ _ _
          generalize upd H5 t (.tup [.int (p.1 + (d a q.2 : Int) * (sumW wt) (czI tl)), .ref l2]) = H6 at s6 e6 s36 ⊢
          have fk6 := fk3.same s36
          refine nilArgs ⟨fo, _, _, rfl, rfl, fk6.at_, Nat.lt_of_le_of_lt (show _ ≤ 100 by rw [List.length_map]; have := (List.getElem?_eq_some_iff.mp hqc).1; rw [czI_len] at this; omega) (by decide), ?_⟩
          have c6 : CI2 H6 ([q] ++ to) := fun y hy => by
            rcases List.mem_append.mp hy with h | h
            · rw [List.mem_singleton.mp h]; exact s36 _ _ hq3
            · exact (h3.same s36) y h
          refine ⟨⟨fs ++ [(t, candP d (sumW wt) a (czI tl) q.2 p, l2, [q] ++ to)], fk6.put (p := candP d (sumW wt) a (czI tl) q.2 p) e6 (s6 _ _ e5) c6 ?_ n5, ?_, fun j y c hy hc => ?_⟩, Same.updN (s03.trans s36) hfo, _, _, _, _, rfl⟩
          · show q.2 :: czI to = q.2 :: p.2
            rw [h4]
          · rw [List.length_append, fl]; rfl
          · by_cases hj : j < fs.length
            · rw [List.getElem?_append_left hj] at hy
              exact fc j y c hy hc
            · rw [List.getElem?_append_right (by omega)] at hy
              have hj0 : j - fs.length = 0 := by
                have := (List.getElem?_eq_some_iff.mp hy).1
                rw [List.length_singleton] at this
                omega
              rw [hj0] at hy
              have ej : j = i := by omega
              subst ej
              rw [hqc] at hc
              cases hc
              cases hy
              exact ⟨p, hL, rfl⟩
      · rintro σ H1 ⟨⟨fs, fk, fl, fc⟩, s1, v5, v6, v7, v8, rfl⟩
        rw [vzI_len] at fl
        have hne : fs ≠ [] := fun e => by rw [e] at fl; simp at fl; omega
        obtain ⟨f0, fr, hfs⟩ := List.exists_cons_of_ne_nil hne
        have len : ∀ x ∈ fs, x.2.1.2.length = tl.length := fun x hx => by
          obtain ⟨j, hj⟩ := List.mem_iff_getElem?.mp hx
          have hjl : j < (czI tl).length := by rw [czI_len, ← fl]; exact (List.getElem?_eq_some_iff.mp hj).1
          obtain ⟨p, hp, e⟩ := fc j x (czI tl)[j] hj (List.getElem?_eq_getElem hjl)
          have h5 := (out_perm hnd (List.getElem_mem hjl) hp.perm).length_eq
          rw [e, ← czI_len tl]
          exact h5
        obtain ⟨m, hm, em, hml⟩ := minD_least pD ltPO (fun p => p.2.length = tl.length) (fun p q hp hq => lt_pD (hp.trans hq.symm)) ltPO_irrefl (fun p q h1 h2 => ltPO_irrefl p (ltPO_trans h1 h2))
          (fun p q r hp hq hr h1 h2 => le_le (hp.trans hq.symm) (hq.trans hr.symm) h1 h2) (fr.map fun x => x.2.1) f0.2.1 (len f0 (by rw [hfs]; exact List.mem_cons_self)) (fun y hy => by
            obtain ⟨x, hx, rfl⟩ := List.mem_map.mp hy
            exact len x (by rw [hfs]; exact List.mem_cons_of_mem _ hx))
        have edr : (fr.map fun x => pD x.2.1) = (fr.map fun x => x.2.1).map pD := by rw [List.map_map]; rfl
        have hdp : DpAll K H1 (fs.map fun x => V.ref x.1) (pD f0.2.1 :: fr.map fun x => pD x.2.1) := by
          have h5 := fo_dp (K := K) (H := H1) (fs := fs) fun x hx => by
            obtain ⟨g1, g2, g3, g4, _⟩ := fk.each x hx
            exact ⟨g1, g2, g3, g4⟩
          rw [hfs] at h5 ⊢
          exact h5
        refine ⟨_, rfl, nilArgs ⟨fo, _, pD f0.2.1, fr.map fun x => pD x.2.1, rfl, .inl (.inl fk.at_), hdp, ⟨fun x hx y hy => ?_, fun x hx => ?_⟩, ?_, fun i x hx hd => ?_⟩⟩
        · have mem : ∀ z ∈ pD f0.2.1 :: fr.map (fun x => pD x.2.1), ∃ p, z = pD p := fun z hz => by
            rcases List.mem_cons.mp hz with rfl | hz
            · exact ⟨_, rfl⟩
            · obtain ⟨w', _, rfl⟩ := List.mem_map.mp hz
              exact ⟨_, rfl⟩
          obtain ⟨p, rfl⟩ := mem x hx
          obtain ⟨q, rfl⟩ := mem y hy
          exact alike_pD p q
        · rcases List.mem_cons.mp hx with rfl | hx
          · exact fun e => by cases e
          · obtain ⟨w', _, rfl⟩ := List.mem_map.mp hx
            exact fun e => by cases e
        · have dep : ∀ l : FOL, PyData.depthAll (l.map fun x => pD x.2.1) ≤ 3 := fun l => by
            induction l with
            | nil => simp [PyData.depthAll]
            | cons x l ih =>
              rw [List.map_cons]
              show max (pD x.2.1).depth (PyData.depthAll (l.map fun x => pD x.2.1)) ≤ 3
              have := pD_depth x.2.1
              omega
          have h5 := dep (f0 :: fr)
          rw [List.map_cons] at h5
          omega
        · obtain ⟨z, hz, rfl, mz⟩ : ∃ z, fs[i]? = some z ∧ x = V.ref z.1 ∧ z ∈ fs := by
            rw [List.getElem?_map] at hx
            cases e : fs[i]? with
            | none => rw [e] at hx; cases hx
            | some z => rw [e] at hx; exact ⟨z, rfl, (Option.some.inj hx).symm, List.mem_of_getElem? e⟩
          have hd2 : (fs.map fun x => pD x.2.1)[i]? = some (minD (pD f0.2.1) (fr.map fun x => pD x.2.1)) := by
            rw [hfs]
            exact hd
          rw [List.getElem?_map, hz, edr, em] at hd2
          have ezm : z.2.1 = m := pD_inj (Option.some.inj hd2)
          obtain ⟨g1, g2, g3, g4, _⟩ := fk.each z mz
          have mfs : ∀ y ∈ fs.map (fun x => x.2.1), ¬ ltPO y m := fun y hy => by
            rw [hfs] at hy
            exact hml y hy
          refine k z.1 z.2.2.1 z.2.1 z.2.2.2 H1 s1 g1 g2 g3 g4 ?_
          rw [ezm]
          refine Lst.step (fun _ _ e => sumW_perm wt e) hnd (ps := fs.map fun x => x.2.1) (by rw [List.length_map, fl, czI_len]) (fun j q c hj hc => ?_) (by rw [← ezm]; exact List.mem_map_of_mem mz) mfs
          rw [List.getElem?_map] at hj
          cases e : fs[j]? with
          | none => rw [e] at hj; cases hj
          | some y =>
            rw [e] at hj
            obtain rfl : y.2.1 = q := Option.some.inj hj
            exact fc j y c e hc
end
end Om

namespace Om
open PySem PySem.Spec PyProof.Rows L2 LamX PySem.W NdefX
theorem valV_put {κ : Type} [DecidableEq κ] (kvs : List (κ × V)) (k : κ) (v : V) (k' : κ) : valV (putK kvs k v) k' = if k' = k then some v else valV kvs k' := by
  unfold putK
  split
  · rename_i h
    rw [List.any_eq_true] at h
    unfold valV
    induction kvs with
    | nil => obtain ⟨x, hx, _⟩ := h; cases hx
    | cons x r ih =>
      rw [List.map_cons]
      by_cases e : x.1 = k
      · rw [if_pos e]
        by_cases e2 : k' = k
        · rw [if_pos e2, List.find?_cons_of_pos (by simpa using e.trans e2.symm)]
          rfl
        · rw [if_neg e2, List.find?_cons_of_neg (by simpa using fun z => e2 (z.symm.trans e)), List.find?_cons_of_neg (by simpa using fun z => e2 (z.symm.trans e))]
          by_cases h2 : ∃ x ∈ r, decide (x.1 = k) = true
          · have := ih h2
            rw [if_neg e2] at this
            exact this
          · have em : r.map (fun kv => if kv.1 = k then (kv.1, v) else kv) = r := by
              have h3 : ∀ y ∈ r, (if y.1 = k then (y.1, v) else y) = id y := fun y hy => if_neg fun z => h2 ⟨y, hy, decide_eq_true z⟩
              rw [List.map_congr_left h3, List.map_id]
            rw [em]
      · rw [if_neg e]
        have h2 : ∃ x ∈ r, decide (x.1 = k) = true := by
          obtain ⟨y, hy, hk⟩ := h
          rcases List.mem_cons.mp hy with rfl | hy
          · exact absurd (of_decide_eq_true hk) e
          · exact ⟨y, hy, hk⟩
        by_cases e3 : x.1 = k'
        · rw [List.find?_cons_of_pos (by simpa using e3), List.find?_cons_of_pos (by simpa using e3), if_neg fun z => e (e3.trans z)]
        · rw [List.find?_cons_of_neg (by simpa using e3), List.find?_cons_of_neg (by simpa using e3)]
          exact ih h2
  · rename_i h
    have hn : ∀ x ∈ kvs, x.1 ≠ k := fun x hx e => h (List.any_eq_true.mpr ⟨x, hx, decide_eq_true e⟩)
    unfold valV
    rw [List.find?_append]
    by_cases e : k' = k
    · rw [if_pos e, List.find?_eq_none.mpr fun x hx => by simpa using fun z => hn x hx (z.trans e)]
      rw [e]
      simp
    · rw [if_neg e]
      have : List.find? (fun kv : κ × V => decide (kv.1 = k')) [(k, v)] = none := by
        rw [List.find?_cons_of_neg (by simpa using fun z => e z.symm)]
        rfl
      rw [this, Option.or_none]
theorem putK_len {κ : Type} [DecidableEq κ] (kvs : List (κ × V)) (k : κ) (v : V) : (putK kvs k v).length ≤ kvs.length + 1 := by
  unfold putK
  split
  · rw [List.length_map]; omega
  · rw [List.length_append, List.length_singleton]; exact Nat.le_refl _
/-! ### the distance as a number -/
open Classical in
noncomputable def dN (L : List IC) (a c : IC) : Nat := if h : ∃ n, DistN L a c n then h.choose else 0
theorem dN_eq {L : List IC} {a c : IC} {n : Nat} (h : DistN L a c n) : dN L a c = n := by
  unfold dN
  have hx : ∃ n, DistN L a c n := ⟨n, h⟩
  rw [dif_pos hx]
  exact hx.choose_spec.uniq h
theorem Pc.dN {L : List IC} {a c : IC} {kvs : List (IC × Nat)} (p : Pc L a kvs) (h : Rch L a c) : (c, Om.dN L a c) ∈ kvs := by
  obtain ⟨⟨c', m⟩, hm, e⟩ := List.mem_map.mp (p.keys.mpr h)
  have e : c' = c := e
  rw [e] at hm
  rw [dN_eq (p.dist hm)]
  exact hm
theorem Pc.down {L : List IC} {a : IC} {kvs : List (IC × Nat)} (p : Pc L a kvs) : ∀ n c, (c, n) ∈ kvs → ∀ m, m ≤ n → m ∈ kvs.map (·.2)
  | 0, c, h, m, hm => by
    have e : m = 0 := by omega
    rw [e]
    exact List.mem_map.mpr ⟨_, h, rfl⟩
  | n + 1, c, h, m, hm => by
    by_cases e : m = n + 1
    · rw [e]
      exact List.mem_map.mpr ⟨_, h, rfl⟩
    · obtain ⟨c', h1, _⟩ := p.prev c n h
      exact p.down n c' h1 m (by omega)
theorem Pc.small {L : List IC} {a c : IC} {kvs : List (IC × Nat)} {n : Nat} (p : Pc L a kvs) (h : (c, n) ∈ kvs) : n ≤ L.length := by
  have h1 := nodup_le (List.range (n + 1)) (kvs.map (·.2)) List.nodup_range fun m hm => p.down n c h m (by have := List.mem_range.mp hm; omega)
  rw [List.length_range, List.length_map] at h1
  have h2 := p.len
  omega
abbrev sOrd : Stmt := top 26
abbrev nOrd : List Str := ["island", "begin", "cells", "factor", "paces", "cell"]
def spOrd (K : PySem.W.Frag) (CI : Addr) : Sp := fun vs H Q _ => ∃ (xi ba ca fa : Addr) (rows : List (List Nat)) (b : IC) (tl : TI) (wt : IC → Int), vs = [.ref xi, .ref ba, .ref ca, .ref fa] ∧ Isl K CI H xi rows ∧ Vd rows ∧ (cellsOf rows).length ≤ 62 ∧
  H ba = some (.tup (icv b)) ∧ b ∈ landL rows ∧ H ca = some (.lst (vzI tl)) ∧ CI2 H tl ∧ (czI tl).Nodup ∧ (∀ c ∈ czI tl, c ∈ landL rows) ∧ tl.length ≤ 7 ∧ FC H fa wt (czI tl) ∧
  ((∃ c ∈ czI tl, rchB (landL rows) b c = false) → ∀ H', Same H H' → Q .non H') ∧
  ((∀ c ∈ czI tl, rchB (landL rows) b c = true) → ∀ (rr oa : Addr) (p : PO) (to : TI) (H' : Hp), Same H H' → H' rr = some (.tup [.int p.1, .ref oa]) → H' oa = some (.lst (vzI to)) → CI2 H' to → czI to = p.2 → Lst (dN (landL rows)) (sumW wt) b (czI tl) p → Q (.ref rr) H')
section
variable {P : Program} {w : World} {K : PySem.W.Frag} {mg : Str → Option Value} {base : Heap} {CI CU fN pm gt : Addr}
theorem scOrd : FnScope nOrd ["island", "begin", "cells", "factor"] (defScope sOrd) := ⟨rfl, rfl, rfl, by decide +kernel, rfl, by decide +kernel, by decide +kernel⟩
def ordD : Expr := asgExpr ((defBody sOrd).getD 0 noS)
def ordA : Expr := match (defBody sOrd).getD 1 noS with
  | .If (.UnaryOp _ x _) _ _ _ => arg0 x
  | _ => .Constant .none 0 ⟨0, 0, 0, 0⟩
theorem blkOr1 : BlkOk nOrd (defScope sOrd) (dcS ordD) [("cell", 5)] := blkOk_by (by decide +kernel)
theorem blkOr2 : BlkOk nOrd (defScope sOrd) (lcScope ordA) [("cell", 5)] := blkOk_by (by decide +kernel)
theorem crAllK {X : Cx} {K : PySem.W.Frag} (hK : X.K = K) (hc : X.calm = true) : CallR X (.builtin "all") (rAll K) := by
  subst hK
  exact cr_all hc
theorem ok_ord {f : Addr} {fd h3 : FuncData} (F : FnP K "least_order" "least_order" sOrd f fd) (PF : Cal P w K mg base CX0 3 "paces_from" ["cells", "begin"] (spPF K)) (TI' : IslF K mg CI fN) (pC : PropOf K CI "cells" pm gt) (G3 : FnOk P w K mg base CX0 1 gt h3 ["self"] (spICellsT K CI)) (b3 : Binds K h3 ["self"] [])
    (LO : Cal P w K mg base CX0 11 "_least_order" pLO (spLO 9)) (gall : mg "all" = none) : FnOk P w K mg base CX0 12 f fd ["island", "begin", "cells", "factor"] (spOrd K CI) := by
  refine F.ok scOrd (fun vs H Q E h => ?_) (fun cdv A outer s H vs Q E hr h => ?_)
  · obtain ⟨xi, ba, ca, fa, rows, b, tl, wt, rfl, _⟩ := h
    rfl
  · obtain ⟨xi, ba, ca, fa, rows, b, tl, wt, rfl, hI, vd, few, hb, hbL, hca, hCI, hnd, hsub, hl7, hF, k1, k2⟩ := h
    have nd := scOrd.nd
    have hu := hr.units
    have hu3 : _ + 3 < cLine := Nat.lt_of_le_of_lt (Nat.add_le_add_left (show 3 ≤ 64 by decide) _) hu
    have hu1 : _ + 1 < cLine := Nat.lt_of_le_of_lt (Nat.add_le_add_left (show 1 ≤ 64 by decide) _) hu
    have hr2 : Room 2 _ := hr.mono (by decide)
    have hr3 : Room 3 _ := hr.mono (by decide)
    refine ⟨_, PSs.nox (pss_cons (ps_set (i := 4) nd rfl (.inr rfl) (pe_dcT (own := [("cell", 5)]) (g := gName 5) rfl hu3 nd (pi_list (pe_op op_cat (pe_lst (pa_cons (pv 1) pa_nil)) (pv 2))) blkOr1 (fun _ _ _ _ _ => pg_name (i := 5) nd rfl (.inl rfl)) (fun _ _ _ _ _ => pts_nil) (fun _ _ _ _ _ => pv 5)
          (fun _ _ _ _ _ => pe_cal PF hr3 pass0 (pa_cons (pe_prop (pv 0) TI'.cl pC G3 hr2 b3 .nil pass0 rfl) (pa_cons (pv 5) pa_nil)))))
      (pss_cons (ps_if (pt_not (pt_val (pe_callB (crAllK (K := K) rfl rfl) (by rfl) gall (by decide +kernel) (pa_cons
          (pe_lc (own := [("cell", 5)]) (g := gName 5) rfl nd (pi_list (pv 2)) blkOr2 (fun _ _ _ _ _ => pg_name (i := 5) nd rfl (.inl rfl)) (fun _ _ _ _ _ => pts_nil) (fun _ _ _ _ _ => pe_cmp (pc_din hu1 (pv 5) (pe_dget hu1 (pv 4) (pv 1) (fun _ _ => rfl))) (by with_unfolding_all rfl))) pa_nil)))) (pss_one (ps_ret pe_non)) pss_nil)
      (pss_one (ps_ret (pe_cal LO hr pass0 (pa_cons (pv 4) (pa_cons (pv 1) (pa_cons (pv 2) (pa_cons (pv 3) pa_nil)))))))))  , ?_⟩
    -- the cells and the beginning
    refine ⟨_, rfl, by show 1 ≤ sizeLine; decide, fun l1 hl1 => ⟨_, rfl, ?_⟩⟩
    have s1 := Same.new (Same.refl H) hl1 (o := .lst [.ref ba])
    have e1 : (upd H l1 (.lst [.ref ba])) l1 = some (.lst (vzI [(ba, b)])) := upd_same
    generalize upd H l1 (.lst [.ref ba]) = H1 at s1 e1 ⊢
    refine ⟨l1, ca, _, _, rfl, rfl, e1, s1 _ _ hca, Nat.le_trans (show _ ≤ 100 by rw [vzI_len, vzI_len, List.length_singleton]; omega) (by decide), fun l2 hl2 => ?_⟩
    rw [← vzI_app]
    generalize htb : [(ba, b)] ++ tl = tb
    have cb : czI tb = b :: czI tl := by rw [← htb]; rfl
    have s2 := s1.trans (Same.new (Same.refl H1) hl2 (o := .lst (vzI tb)))
    have e2 : (upd H1 l2 (.lst (vzI tb))) l2 = some (.lst (vzI tb)) := upd_same
    generalize upd H1 l2 (.lst (vzI tb)) = H2 at s2 e2 ⊢
    have C2 : CI2 H2 tb := fun y hy => by
      rw [← htb] at hy
      rcases List.mem_append.mp hy with h | h
      · rw [List.mem_singleton.mp h]; exact s2 _ _ hb
      · exact (hCI.same s2) y h
    have ltb : tb.length ≤ 8 := by rw [← htb, List.length_append, List.length_singleton]; omega
    -- the paces
    refine ⟨l2, rfl, ⟨_, .inl (.inl e2)⟩, fun dp hdp => ?_⟩
    refine wlk_it (walk_list (K := K) (a := l2) (xs := vzI tb)) (fun i H3 => Same H2 H3 ∧ ∃ pkv, H3 dp = some (.dT pkv) ∧ pkv.length ≤ i ∧ ∀ c ∈ (czI tb).take i, ∃ (Da : Addr) (kvs : List (IC × Nat)), valV pkv (ick c) = some (.ref Da) ∧ H3 Da = some (.dT (dkv kvs)) ∧ Da ≠ dp ∧ Pc (landL rows) c kvs)
      ⟨Same.new (Same.refl H2) hdp, [], upd_same, Nat.le_refl _, fun c hc => by rw [List.take_zero] at hc; cases hc⟩ (fun i H3 _ q => .inl (.inl (q.1 _ _ e2))) ?_ ?_
    · rintro i x H3 H3' hi ⟨s3, pkv, h3, hln, hm⟩ ⟨rfl, hx⟩
      rw [vzI_len] at hi
      have hxe : x = .ref tb[i].1 := by
        unfold vzI at hx
        rw [List.getElem?_map, List.getElem?_eq_getElem hi] at hx
        exact (Option.some.inj hx).symm
      subst hxe
      have hmem : tb[i] ∈ tb := List.getElem_mem hi
      have et : (czI tb).take (i + 1) = (czI tb).take i ++ [tb[i].2] := by
        rw [List.take_succ]
        unfold czI
        rw [List.getElem?_map, List.getElem?_eq_getElem hi]
        rfl
      have s23 := s2.trans s3
      obtain ⟨dx, p, hp, _⟩ := id (hI.same s23)
      refine ⟨rfl, tyes ?_⟩
      refine ⟨_, rfl, _, rfl, xi, dx, _, rfl, hp, xi, rows, rfl, hI.same s23, vd, fun D tc H4 s4 hD0 hL hCA hcz => ?_⟩
      refine ⟨_, rfl, D, tb[i].1, toTI tc, tb[i].2, rfl, by rw [toTI_vz]; exact .inl (.inl hL), toTI_ca hCA, ?_, s4 _ _ ((C2.same s3) _ hmem), fun D5 kvs H5 hD5 s5 h5 pc => ?_⟩
      · have e1 := congrArg List.length hcz
        rw [show (toTI tc).length = tc.length from List.length_map .., show tc.length = (cz tc).length from (List.length_map ..).symm, e1]
        exact few
      rw [toTI_cz, hcz] at pc
      have s35 := s4.trans s5
      have nD5 : D5 ≠ dp := fun e => by
        have := s4 _ _ h3
        rw [← e, hD5] at this
        cases this
      refine ⟨tb[i].1, pkv, ick tb[i].2, rfl, s35 _ _ ((C2.same s3) _ hmem), s35 _ _ h3, Nat.lt_of_le_of_lt (show _ ≤ 100 by omega) (by decide), Same.updN (s3.trans s35) hdp, _, upd_same, Nat.le_trans (putK_len ..) (by omega), fun c hc => ?_⟩
      rw [valV_put]
      by_cases ec : ick c = ick tb[i].2
      · rw [if_pos ec, ick_inj ec]
        exact ⟨D5, kvs, rfl, by rw [upd_ne nD5]; exact h5, nD5, pc⟩
      · rw [if_neg ec]
        rw [et] at hc
        rcases List.mem_append.mp hc with hc | hc
        · obtain ⟨Da, kv2, g1, g2, g3, g4⟩ := hm c hc
          exact ⟨Da, kv2, g1, by rw [upd_ne g3]; exact s35 _ _ g2, g3, g4⟩
        · exact absurd (by rw [List.mem_singleton.mp hc]) ec
    · rintro H3 ⟨s3, pkv, h3, hln, hm⟩
      rw [vzI_len, ← czI_len, List.take_length] at hm
      have s03 := s2.trans s3
      obtain ⟨Db, kvb, v1, v2, v3, pcb⟩ := hm b (by rw [cb]; exact List.mem_cons_self)
      -- all of them are reached
      refine ⟨_, rfl, ca, rfl, ⟨_, .inl (.inl (s03 _ _ hca))⟩, fun D9 hD9 => ?_⟩
      refine lc_list (K := K) (a := ca) (xs := vzI tl) (fun j H8 => H8 D9 = some (.lst (((czI tl).take j).map fun c => V.bl (rchB (landL rows) b c))) ∧ Same H3 H8) ⟨by rw [List.take_zero]; exact upd_same, Same.new (Same.refl H3) hD9⟩ (fun j H8 _ z => .inl (.inl (z.2 _ _ (s03 _ _ hca)))) ?_ ?_
      · rintro j z H8 hz8 ⟨u1, s8⟩
        obtain ⟨q, hq, rfl, mq⟩ := FI.at hz8
        have hqc : (czI tl)[j]? = some q.2 := by
          unfold czI
          rw [List.getElem?_map, hq]
          rfl
        have s08 := s03.trans s8
        have dg1 := DGet.t (k := ick b) (s8 _ _ h3) (s08 _ _ hb)
        rw [v1] at dg1
        have dg2 := DGet.t (k := ick q.2) (s8 _ _ v2) ((hCI.same s08) q mq)
        have ev : (valV (dkv kvb) (ick q.2)).isSome = rchB (landL rows) b q.2 := by
          cases er : rchB (landL rows) b q.2 with
          | true =>
            have := pcb.dN (rchB_iff.mp er)
            rw [dkv_some pcb.nd this]
            rfl
          | false =>
            rw [dkv_none fun h => by rw [rchB_iff.mpr (pcb.keys.mp h)] at er; cases er]
            rfl
        refine ⟨rfl, tyes ?_⟩
        refine ⟨_, rfl, _, rfl, _, rfl, dp, _, rfl, dg1, Db, _, rfl, dg2, ?_⟩
        rw [ev]
        refine ⟨_, u1, Nat.lt_of_le_of_lt (show _ ≤ 100 by rw [List.length_map, List.length_take, czI_len]; omega) (by decide), ?_, Same.updN s8 hD9⟩
        rw [upd_same, List.take_succ, hqc, List.map_append]
        rfl
      · rintro H8 ⟨u1, s8⟩
        rw [vzI_len, ← czI_len, List.take_length] at u1
        have s08 := s03.trans s8
        refine ⟨D9, (czI tl).map fun c => rchB (landL rows) b c, rfl, .inl (.inl (by rw [u1, List.map_map]; rfl)), ?_⟩
        have ea : ((czI tl).map fun c => rchB (landL rows) b c).all id = (czI tl).all fun c => rchB (landL rows) b c := by rw [List.all_map]; rfl
        rw [ea]
        cases ec : (czI tl).all fun c => rchB (landL rows) b c with
        | false =>
          refine ⟨_, rfl, iteT' rfl (k1 ?_ H8 s08)⟩
          rw [List.all_eq_false] at ec
          obtain ⟨c, hc, h⟩ := ec
          exact ⟨c, hc, by simpa using h⟩
        | true =>
          rw [List.all_eq_true] at ec
          refine ⟨_, rfl, iteF' rfl ?_⟩
          have lnd : ∀ c ∈ b :: czI tl, c ∈ landL rows ∧ Rch (landL rows) b c := fun c hc => by
            rcases List.mem_cons.mp hc with rfl | hc
            · exact ⟨hbL, Rch.refl _ _⟩
            · exact ⟨hsub c hc, rchB_iff.mp (ec c hc)⟩
          have lL : (landL rows).length ≤ 62 := by unfold landL; rw [List.length_map]; exact few
          have hmall : ∀ a ∈ b :: czI tl, ∃ (Da : Addr) (kvs : List (IC × Nat)), valV pkv (ick a) = some (.ref Da) ∧ H3 Da = some (.dT (dkv kvs)) ∧ Pc (landL rows) a kvs := fun a ha => by
            obtain ⟨Da, kvs, g1, g2, _, g4⟩ := hm a (by rw [cb]; exact ha)
            exact ⟨Da, kvs, g1, g2, g4⟩
          have pt : PT H8 dp (b :: czI tl) (dN (landL rows)) := ⟨⟨pkv, s8 _ _ h3, fun a ha => by
            obtain ⟨Da, kvs, g1, g2, g4⟩ := hmall a ha
            refine ⟨Da, kvs, g1, s8 _ _ g2, g4.nd, fun c hc => ?_⟩
            exact g4.dN (((lnd a ha).2.symm hbL).trans (lnd c hc).2)⟩, fun a ha c hc => by
            obtain ⟨Da, kvs, g1, g2, g4⟩ := hmall a ha
            have := g4.small (g4.dN (((lnd a ha).2.symm hbL).trans (lnd c hc).2))
            omega⟩
          refine ⟨_, rfl, _, rfl, _, rfl, _, rfl, dp, ba, ca, fa, tl, b, b :: czI tl, dN (landL rows), wt, rfl, pt, s08 _ _ hb, List.mem_cons_self, s08 _ _ hca, hCI.same s08, hnd, fun c hc => List.mem_cons_of_mem _ hc, by omega, Nat.le_refl _, hF.same s08, fun rr oa p to H9 s9 h1 h2 h3 h4 hL => ?_⟩
          exact k2 (fun c hc => ec c hc) rr oa p to H9 (s08.trans s9) h1 h2 h3 h4 hL
end
end Om

/-! the values of a dict whose keys are tuples: walked (the dict locked), and list(d.values()) -/
namespace Om
open PySem PySem.Spec PyProof.Rows L2
theorem objT_raw {P : Program} {w : World} {H : Hp} {h : Heap} {d : Addr} {kvs : List (List L2.Key × V)} (x : ObjOk P w H h d (.dT kvs)) : kvs.length ≤ sizeLine ∧ (d == sysModules) = false ∧ ∃ (o : Obj) (es : Array DictEntry) (ep : Nat), h.get? d = some o ∧ o.ExactDict ∧ o.data = .dict es ep ∧ es.size = kvs.length ∧
    ∀ (i : Nat) x, kvs[i]? = some x → ∃ en, es[i]? = some en ∧ RelV x.2 en.val := by
  obtain ⟨hz, hs, xs, pr, o, es, ep, ho, hx, hdt, he, _⟩ := x
  refine ⟨hz, hs, o, es, ep, ho, hx, hdt, ?_, fun i x e => ?_⟩
  · have l1 : es.size = xs.length := size_of_entries he
    have l2 : kvs.length = xs.length := Paired.length pr
    omega
  · obtain ⟨b, hb, e1, e2, e3⟩ := paired_get pr e
    have q := entry_at he i
    rw [hb] at q
    exact ⟨_, q, e3⟩
def Itvt (d : Addr) (o : Obj) (kvs : List (List L2.Key × V)) : It :=
  ⟨fun i H => H d = some (.frz o (.dT kvs)) ∧ i < kvs.length, fun i H x H' => H' = H ∧ ∃ k, kvs[i]? = some (k, x), fun i H => H d = some (.frz o (.dT kvs)) ∧ kvs.length ≤ i⟩
theorem walk_valsT {d : Addr} {o : Obj} {kvs : List (List L2.Key × V)} : L2.Walk (Itvt d o kvs) kvs.length (fun H => H d = some (.frz o (.dT kvs))) fun i H x H' => H' = H ∧ ∃ k, kvs[i]? = some (k, x) :=
  ⟨fun i H hi h => ⟨h, hi⟩, fun H h => ⟨h, Nat.le_refl _⟩, fun i H x H' _ _ h => h⟩
section
variable {X : Cx} {pins : List (Addr × Obj)} {σ : L2.St} {H : Hp} {s : Shared} {d : Addr} {o : Obj} {kvs : List (List L2.Key × V)}
theorem frzTv (I : Inv X pins σ H s) (h : H d = some (.frz o (.dT kvs))) :
    (d == sysModules) = false ∧ s.heap.get? d = some o ∧ o.ExactDict ∧ ∃ (es : Array DictEntry) (ep : Nat), o.data = .dict es ep ∧ es.size = kvs.length ∧ ∀ (i : Nat) x, kvs[i]? = some x → ∃ en, es[i]? = some en ∧ RelV x.2 en.val := by
  obtain ⟨hd, z⟩ := I.hok d _ h
  obtain ⟨_, h0, o', es, ep, ho, hx, hdt, hsz, ent⟩ := objT_raw z
  rw [hd] at ho
  cases ho
  exact ⟨h0, hd, hx, es, ep, hdt, hsz, ent⟩
end
section
variable {P : Program} {w : World} {K : PySem.W.Frag} {tg : Expr} {d : Addr} {o : Obj} {es : Array DictEntry} {ep : Nat}
theorem turn_valsT {kvs : List (List L2.Key × V)} (it : Addr) (hod : o.data = .dict es ep) : Turn P w K tg (Itvt d o kvs) [it] it (fun i h => h.IsValIter it d i kvs.length ep) where
  mem := by simp
  obj := fun i h st b hb => by
    have e : b = it := by simpa using hb
    subst e
    obtain ⟨oi, e, c, dd⟩ := st
    exact ⟨oi, e, fun v z => by rw [dd] at z; cases z⟩
  keep := fun i h h' st k => st.at fun oi e => k it (by simp) oi e
  item := by
    intro X hP hw hK hc i pins s σ H E I hf st hg
    subst hP hw hK
    obtain ⟨hd, hi⟩ := hg
    obtain ⟨f0, f1, f2, f3, f4, f5⟩ := hf it (by simp)
    obtain ⟨hs, hgd, hx, es', ep', hdt, hsz, ent⟩ := frzTv I hd
    obtain ⟨rfl, rfl⟩ := dict_ep hod hdt
    obtain ⟨en, hen, hr⟩ := ent i kvs[i] (List.getElem?_eq_getElem hi)
    have hi' : i < es'.size := by rw [hsz]; exact hi
    rw [Array.getElem?_eq_getElem hi'] at hen
    have hen := Option.some.inj hen
    rw [← hsz] at st
    refine wpAny_pyNext_values_item_raw st ⟨o, hgd, hx, hdt⟩ hi' fun h' st' sb => ?_
    have I1 : Inv X pins σ H { s with heap := h' } := I.turned (t' := s.toks) (fun b ob hb e => (sb.2 b hb).trans e) f0 f1 f3 f4 f5
    obtain ⟨oi, e, c, dd⟩ := id st'
    refine ⟨es'[i].val, rfl, go_of (s := { s with heap := h' }) e c dd (by decide) ⟨kvs[i].2, H, I1, by rw [hen]; exact hr, ⟨rfl, kvs[i].1, List.getElem?_eq_getElem hi⟩, ?_, fun b hb => (hf b hb).1⟩⟩
    show h'.IsValIter it d (i + 1) kvs.length _
    rw [← hsz]
    exact st'
  done := by
    intro X hP hw hK hc i pins s σ H E I hf st hg
    subst hP hw hK
    obtain ⟨hd, hi⟩ := hg
    obtain ⟨f0, f1, f2, f3, f4, f5⟩ := hf it (by simp)
    obtain ⟨hs, hgd, hx, es', ep', hdt, hsz, ent⟩ := frzTv I hd
    obtain ⟨rfl, rfl⟩ := dict_ep hod hdt
    rw [← hsz] at st
    exact wpAny_pyNext_values_end_raw (I.ok.hd hc) st ⟨o, hgd, hx, hdt⟩ (by omega) fun h' eb => ⟨rfl, I.turned (t' := s.toks) (fun b ob hb e => eb b ob hb e) f0 f1 f3 f4 f5⟩
  self := fun A i s Q E st h => wpAny_pyIter_valiter st h
end
def iValsT (td : TE) : L2.TI := fun σ H R => td σ H fun x H1 => ∃ d o kvs, x = .ref d ∧ H1 d = some (.frz o (.dT kvs)) ∧ R (Itvt d o kvs) H1
def rValuesT : V → Hp → VK → Prop := fun x H Q => ∃ (d : Addr) (kvs : List (List L2.Key × V)), x = .ref d ∧ H d = some (.dT kvs) ∧ ∀ p, H p = none → Q (.ref p) (upd H p (.lst (kvs.map (·.2))))
def tListValuesT (te : TE) : TE := fun σ H Q => te σ H fun x H1 => rValuesT x H1 Q
theorem vals_of_eachT : ∀ {kvs : List (List L2.Key × V)} {us : List Value}, us.length = kvs.length → (∀ (j : Nat) u, us[j]? = some u → ∃ x, kvs[j]? = some x ∧ RelV x.2 u) → Vals (kvs.map (·.2)) us
  | [], us, hl, _ => by
    rw [List.length_eq_zero_iff.mp hl]
    exact .nil
  | x :: xs, [], hl, _ => by cases hl
  | x :: xs, u :: us, hl, hu => by
    obtain ⟨y, e, r⟩ := hu 0 u rfl
    obtain rfl : x = y := Option.some.inj e
    exact .cons r (vals_of_eachT (Nat.succ.inj hl) fun j v hv => hu (j + 1) v hv)
section
variable {X : Cx} {tg e : Expr} {td te : TE} {p apos cpos pos : Pos}
theorem pi_valuesT (he : PE X e td) (hbase : attributeBase e "values" X.env (eval e X.env) = eval e X.env := by rfl) (hline : (apos.endLine == cpos.line) = true := by rfl) : PI X tg (.Call (.Attribute e "values" apos) [] [] cpos) (iValsT td) := by
  refine ⟨fun pins s σ H R I h => ?_⟩
  refine wpAny_Call_method (T := "dict") (id := "dict.values") hbase rfl hline F.plainAttrs_dict F.slot_dict_values F.type_dict_values (thn (he.run pins s σ H _ I h) fun u s1 ⟨x, H1, I1, rx, d, o, kvs, ex, hd, q⟩ => ?_)
  subst ex
  obtain rfl : u = Value.ref d := rx
  obtain ⟨hs, hgd, hx, es, ep, hdt, hsz, ent⟩ := frzTv I1 hd
  have raw : s1.heap.DictRaw d es ep := ⟨o, hgd, hx, hdt⟩
  refine ⟨raw.typeIs, (fun b e => by cases e; exact ⟨o, hgd, hx.2.1⟩), ?_⟩
  have I2 : Inv X pins σ H1 { s1 with heap := s1.heap.push { cls := .type "dict_values", data := .fields #[.ref d] } } := I1.kept (t' := s1.toks) fun b ob q => Heap.get?_push_of_some _ q
  have fin : wpAny (model X.prog X.w) X.A (pyIter (.ref s1.heap.objs.size)) (PIE X pins σ tg R) X.xe { s1 with heap := s1.heap.push { cls := .type "dict_values", data := .fields #[.ref d] } } := by
    refine wpAny_pyIter_values_raw (d := d) ⟨_, Heap.get?_push_size _ rfl, rfl, rfl⟩ (raw.at fun o q => Heap.get?_push_of_some _ q) (pi_one (tk := s1.toks) I2 _ (turn_valsT _ hdt) ⟨_, Heap.get?_push_size _ rfl, rfl, ?_⟩ q)
    rw [hsz]
    rfl
  show wpAny _ _ (callWith cpos (.builtin "dict.values") [.ref d] [] []) _ X.xe s1
  exact method_meetsIn F.slot_dict_values F.entry_dict_values rfl (PySem.evalArgs_none ⟨rfl, raw.typeIs, F.args_dict_values_1 _, _, meets_dict_values_raw d hs, ⟨es, ep, raw⟩, fin⟩)
theorem pe_listValuesT (hc : X.calm = true) (he : PE X e te) (hg : Gl X "list") (hm : X.mg "list" = none) (hv : bootBuiltins "list" = some (.type "list")) (hbase : attributeBase e "values" X.env (eval e X.env) = eval e X.env := by rfl) (hline : (apos.endLine == cpos.line) = true := by rfl)
    (hs : starEach [.Call (.Attribute e "values" apos) [] [] cpos] X.env = (false, eval (.Call (.Attribute e "values" apos) [] [] cpos) X.env) :: starEach [] X.env := by rfl) :
    PE X (.Call (.Name "list" p) [.Call (.Attribute e "values" apos) [] [] cpos] [] pos) (tListValuesT te) := by
  refine ⟨fun pins s σ H Q I hq => ?_⟩
  refine wpAny_Call_Name_kw (ld_blt I hg hm hv ?_)
  refine PyProof.Rows.callWith_type1 ?_ hs rfl
  rw [hs]
  show wpAny _ _ (spliced ((false, eval (.Call (.Attribute e "values" apos) [] [] cpos) X.env) :: backTo pos (starEach [] X.env))) _ _ s
  refine Calls.spliced_cons ?_
  refine wpAny_Call_method (T := "dict") (id := "dict.values") hbase rfl hline F.plainAttrs_dict F.slot_dict_values F.type_dict_values (thn (he.run pins s σ H _ I hq) fun u s1 ⟨x, H1, I1, rx, d, kvs, ex, hd, q⟩ => ?_)
  subst ex
  obtain rfl : u = Value.ref d := rx
  obtain ⟨hz, hs0, o, es, ep, ho, hx, hdt, hsz, ent⟩ := objT_raw (I1.hok d _ hd)
  have raw : s1.heap.DictRaw d es ep := ⟨o, ho, hx, hdt⟩
  refine ⟨raw.typeIs, (fun b e => by cases e; exact ⟨o, ho, hx.2.1⟩), ?_⟩
  show wpAny _ _ (callWith cpos (.builtin "dict.values") [.ref d] [] []) _ X.xe s1
  refine method_meetsIn F.slot_dict_values F.entry_dict_values rfl (PySem.evalArgs_none ⟨rfl, raw.typeIs, F.args_dict_values_1 _, _, meets_dict_values_raw d hs0, ⟨es, ep, raw⟩, ?_⟩)
  refine Calls.spliced_nil ?_
  have hle : es.size ≤ sizeLine := by rw [hsz]; exact hz
  have gone : ∀ b o, s1.heap.get? b = some o → (s1.heap.push { cls := .type "dict_values", data := .fields #[.ref d] }).get? b = some o := fun b o q => Heap.get?_push_of_some _ q
  refine PySem.W.kdl_call (s := { s1 with heap := s1.heap.push { cls := .type "dict_values", data := .fields #[.ref d] } }) (KdlSrc.rawValues (prog := X.prog) (w := X.w) (r := s1.heap.objs.size) (d := d) (es := es) (ep := ep)) (I1.ok.hd hc) ⟨⟨_, Heap.get?_push_size _ rfl, rfl, rfl⟩, raw.at fun o q => gone _ _ q⟩ hle fun h' tk acc c hk hS hacc => ?_
  have hp : s1.heap.objs.size ≤ (s1.heap.push { cls := .type "dict_values", data := .fields #[.ref d] }).objs.size := by rw [Heap.size_push]; exact Nat.le_succ _
  have hsa : acc.toList.length = kvs.length := by rw [Array.length_toList, hacc.1, hsz]
  have hv2 : Vals (kvs.map (·.2)) acc.toList := vals_of_eachT hsa fun j u hj => by
    rw [Array.getElem?_toList] at hj
    obtain ⟨hi, hu⟩ := hacc.2 j u hj
    have hjv : j < kvs.length := by rw [← hsz]; exact hi
    obtain ⟨en, q1, q3⟩ := ent j kvs[j] (List.getElem?_eq_getElem hjv)
    refine ⟨kvs[j], List.getElem?_eq_getElem hjv, ?_⟩
    rw [Array.getElem?_eq_getElem hi] at q1
    rw [hu, Option.some.inj q1]
    exact q3
  have hn := I1.hok.fresh hp
  exact ⟨.ref _, upd H1 _ (.lst (kvs.map (·.2))), I1.laid (t' := tk) (fun b o q => hk b o (gone b o q)) hp ⟨by rw [List.length_map]; exact hz, acc.toList, c, hv2, by rw [Array.toArray_toList]; exact hS⟩, rfl, q _ hn⟩
end
end Om

namespace Om
open PySem PySem.Spec PyProof.Rows L2 LamX PySem.W NdefX
theorem SqT.ext {K : PySem.W.Frag} {H H' : Hp} {a : Addr} {xs : List V} (k : ExtN H H') (h : SqT K H a xs) : SqT K H' a xs := by
  rcases h with (h | ⟨o, h⟩) | h
  · exact .inl (.inl (k _ _ h fun ps e => by cases e))
  · exact .inl (.inr ⟨o, k _ _ h fun ps e => by cases e⟩)
  · exact .inr h
theorem Isl.ext {K : PySem.W.Frag} {CI : Addr} {H H' : Hp} {a : Addr} {rows : List (List Nat)} (h : Isl K CI H a rows) (k : ExtN H H') : Isl K CI H' a rows := by
  obtain ⟨dx, p, hp, hS⟩ := h
  exact ⟨dx, p, k _ _ hp (fun ps e => by cases e), SqT.ext k hS⟩
theorem CI2.ext {H H' : Hp} {t : TI} (h : CI2 H t) (k : ExtN H H') : CI2 H' t := fun p hp => k _ _ (h p hp) fun ps e => by cases e
theorem Same.extN {H H' : Hp} (s : Same H H') : ExtN H H' := fun b o h _ => s _ _ h
theorem same_del {H H' : Hp} {c : Addr} {o : HO} (hn : H c = none) (s : Same (upd H c o) H') : Same H (del H' c) := fun b x h => by
  have z : b ≠ c := ne_of_none h hn
  rw [del_ne z]
  exact s _ _ (by rw [upd_ne z]; exact h)
theorem icl_map_inj : ∀ {l m : List IC}, l.map icl = m.map icl → l = m
  | [], [], _ => rfl
  | [], _ :: _, h => by cases h
  | _ :: _, [], h => by cases h
  | c :: l, d :: m, h => by
    rw [List.map_cons, List.map_cons] at h
    injection h with h1 h2
    rw [icl_inj h1, icl_map_inj h2]
theorem same_unlock {H H5 : Hp} {d : Addr} {u x : HO} (h : H d = some u) (s : Same (upd H d x) H5) : Same H (upd H5 d u) := fun b o hb => by
  by_cases e : b = d
  · subst e
    rw [upd_same, ← h, hb]
  · rw [upd_ne e]
    exact s _ _ (by rw [upd_ne e]; exact hb)
/-! ### weights -/
abbrev WL := List (IC × Int)
def wkvOf (ws : WL) : List (List L2.Key × V) := ws.map fun x => (ick x.1, V.int x.2)
def wtOf (ws : WL) (c : IC) : Int := ((ws.find? fun x => decide (x.1 = c)).map (·.2)).getD 0
theorem wkv_some {ws : WL} {c : IC} (h : c ∈ ws.map (·.1)) : valV (wkvOf ws) (ick c) = some (.int (wtOf ws c)) := by
  unfold valV wkvOf wtOf
  induction ws with
  | nil => cases h
  | cons x r ih =>
    rw [List.map_cons, List.find?_cons, List.find?_cons]
    by_cases e : x.1 = c
    · rw [decide_eq_true (show ick x.1 = ick c by rw [e]), decide_eq_true e]
      rfl
    · rw [decide_eq_false (fun z => e (ick_inj z)), decide_eq_false e]
      rcases List.mem_cons.mp h with h | h
      · exact absurd h.symm e
      · exact ih h
theorem wkv_isSome (ws : WL) (c : IC) : (valV (wkvOf ws) (ick c)).isSome = decide (c ∈ ws.map (·.1)) := by
  by_cases h : c ∈ ws.map (·.1)
  · rw [wkv_some h, decide_eq_true h]; rfl
  · rw [decide_eq_false h]
    unfold valV wkvOf
    rw [List.find?_eq_none.mpr fun x hx => ?_]
    · rfl
    · obtain ⟨y, hy, rfl⟩ := List.mem_map.mp hx
      have : y.1 ≠ c := fun e => h (List.mem_map.mpr ⟨y, hy, e⟩)
      simpa using fun z => this (ick_inj z)
theorem Lst.permL {d : IC → IC → Nat} {g : List IC → Int} {a : IC} {l l' : List IC} {p : PO} (h : Lst d g a l p) (e : l.Perm l') : Lst d g a l' p := ⟨h.perm.trans e, h.cost, fun π hπ => h.least π (hπ.trans e.symm)⟩
theorem out_le (l : List IC) (c : IC) : (outL l c).length ≤ l.length := List.length_filter_le ..
def WRes (L : List IC) (b : IC) (ws : WL) (p : PO) : Prop := ∃ p0, Lst (dN L) (sumW (wtOf ws)) b (outL (ws.map (·.1)) b) p0 ∧ p = (p0.1, (if b ∈ ws.map (·.1) then [b] else []) ++ p0.2)
abbrev nWW : List Str := ["island", "begin", "weights", "cell", "walked_to", "found", "total", "order", "weight"]
abbrev pWW : List Str := ["island", "begin", "weights"]
def spWW (K : PySem.W.Frag) (CI : Addr) (T : List (Addr × Str)) : Sp := fun vs H Q E => ∃ (xi ba wd : Addr) (rows : List (List Nat)) (b : IC) (ws : WL), vs = [.ref xi, .ref ba, .ref wd] ∧ Isl K CI H xi rows ∧ Vd rows ∧ (cellsOf rows).length ≤ 62 ∧
  H ba = some (.tup (icv b)) ∧ b ∈ landL rows ∧ H wd = some (.dT (wkvOf ws)) ∧ (ws.map (·.1)).Nodup ∧ (∀ x ∈ ws, x.1 ∈ landL rows ∧ 1 ≤ x.2 ∧ x.2 ≤ 1000000000) ∧ ws.length ≤ 7 ∧ Tabs T H ∧
  ((∃ c ∈ ws.map (·.1), rchB (landL rows) b c = false) → ∀ H', ExtN H H' → Tabs T H' → Q .non H') ∧
  ((∀ c ∈ ws.map (·.1), rchB (landL rows) b c = true) → ∀ (rr oa : Addr) (p : PO) (to : TI) (H' : Hp), ExtN H H' → Tabs T H' → H' rr = some (.tup [.int p.1, .ref oa]) → H' oa = some (.lst (vzI to)) → CI2 H' to → czI to = p.2 → WRes (landL rows) b ws p → Q (.ref rr) H')
section
variable {P : Program} {w : World} {K : PySem.W.Frag} {mg : Str → Option Value} {base : Heap} {CI CU fN pm gt c Pw : Addr}
theorem scWW : FnScope nWW pWW (defScope sWW) := ⟨rfl, rfl, rfl, by decide +kernel, rfl, by decide +kernel, by decide +kernel⟩
def testE (s : Stmt) : Expr := match s with
  | .If t _ _ _ => t
  | _ => .Constant .none 0 ⟨0, 0, 0, 0⟩
def notE (e : Expr) : Expr := match e with
  | .UnaryOp _ x _ => x
  | e => e
def wwL1 : Expr := arg0 (notE (testE ((defBody sWW).getD 1 noS)))
def wwL2 : Expr := arg0 (asgExpr ((defBody sWW).getD 3 noS))
theorem blkW1 : BlkOk nWW (defScope sWW) (lcScope wwL1) [("weight", 8)] := blkOk_by (by decide +kernel)
theorem blkW2 : BlkOk nWW (defScope sWW) (lcScope wwL2) [("cell", 3)] := blkOk_by (by decide +kernel)
theorem ok_ww {f : Addr} {fd : FuncData} {T : List (Addr × Str)} (hmT : (Pw, qS) ∈ T) (huT : ∀ p ∈ T, p.1 = Pw → p.2 = qS) (F : FnP K "weighed_walk" "weighed_walk" sWW f fd) (hcd : ∀ cd, fd.code = cd → cd = .ref c) (TB : TabB base mg c Pw) (LD : Cal P w K mg base (L2.CX P w) 4 "require_land" ["island", "cell"] (spLandX K CI CU))
    (IR : Cal P w K mg base CX0 1 "in_range" nInR spInR) (ORD : Cal P w K mg base CX0 12 "least_order" ["island", "begin", "cells", "factor"] (spOrd K CI)) (glist : mg "list" = none) (gall : mg "all" = none) (gsorted : mg "sorted" = none) (glen : mg "len" = none) (gmost : ∃ t, mg "MOST_CELLS" = some (.int 7 t)) (gwt : ∃ t, mg "MOST_WEIGHT" = some (.int 1000000000 t)) :
    FnOk P w K mg base (L2.CX P w) 13 f fd pWW (spWW K CI T) := by
  obtain ⟨oc, od, dV, kV, doc, pm', an, cdv, ct, osl, rfl, lk, hcdv, _, _⟩ := F.ex
  obtain rfl : cdv = .ref c := hcd _ rfl
  obtain ⟨tm, gmost⟩ := gmost
  obtain ⟨tw, gwt⟩ := gwt
  refine fn_of (k := 12) lk hcdv scWW (fun vs H Q E h => ?_) (fun A outer s H vs Q E hr h => ?_)
  · obtain ⟨xi, ba, wd, rows, b, ws, rfl, _⟩ := h
    rfl
  · obtain ⟨xi, ba, wd, rows, b, ws, rfl, hI, vd, few, hb, hbL, hwd, hnd, hws, hl7, hT, kN, kR⟩ := h
    have nd := scWW.nd
    have hu := hr.units
    have hu1 : _ + 1 < cLine := Nat.lt_of_le_of_lt (Nat.add_le_add_left (show 1 ≤ 64 by decide) _) hu
    have hr1 : Room 1 _ := hr.mono (by decide)
    have hr4 : Room 4 _ := hr.mono (by decide)
    refine ⟨_, pss_cons (ps_for (passes_of rfl) rfl (pi_list (pe_op op_cat (pe_lst (pa_cons (pv 1) pa_nil)) (pe_callTy (cr_listT rfl) (by rfl) glist (by decide +kernel) (pa_cons (pv 2) pa_nil)))) (pg_name (i := 3) nd rfl (.inl rfl))
        (pss_one (ps_expr (pe_cal LD hr4 (passes_call (W := fun cls d _ H => E cls d H) (takes_of rfl rfl rfl rfl) fun _ _ _ _ h => h) (pa_cons (pv 0) (pa_cons (pv 3) pa_nil))))))
      (pss_cons (ps_if (pt_not (pt_val (pe_callB (crAllK (K := K) rfl rfl) (by rfl) gall (by decide +kernel) (pa_cons (pe_lock (pe_lc (own := [("weight", 8)]) (g := gName 8) rfl nd (pi_valuesT (pv 2)) blkW1 (fun _ _ _ _ _ => pg_name (i := 8) nd rfl (.inl rfl)) (fun _ _ _ _ _ => pts_nil)
          (fun _ _ _ _ _ => pe_cal IR hr1 pass0 (pa_cons (pv 8) (pa_cons pe_int (pa_cons (pe_glob (v := .int 1000000000) rfl gwt ⟨_, rfl⟩) pa_nil)))))) pa_nil)))) pss_no pss_nil)
      (pss_cons (ps_if (pt_cmpR op_gt (pe_callB call_len_dT (by rfl) glen PySem.boot_len (pa_cons (pv 2) pa_nil)) (pe_glob (v := .int 7) rfl gmost ⟨_, rfl⟩) (nomark _)) pss_no pss_nil)
      (pss_cons (ps_set (i := 4) nd rfl (.inl rfl) (pe_callB cr_sortedP (by rfl) gsorted (by decide +kernel) (pa_cons (pe_lock (pe_lc (own := [("cell", 3)]) (g := gName 3) rfl nd (pi_keys (pv 2)) blkW2 (fun _ _ _ _ _ => pg_name (i := 3) nd rfl (.inl rfl))
          (fun _ _ _ _ _ => pts_one (pt_cmpR (neDK (K := K) rfl hu) (pv 3) (pv 1) (by with_unfolding_all rfl))) (fun _ _ _ _ _ => pv 3))) pa_nil)))
      (pss_cons (ps_set (i := 5) nd rfl (.inl rfl) (pe_callL (i := 2) (y := "weights") ORD hr (pa_cons (pv 0) (pa_cons (pv 1) (pa_cons (pv 4) (pa_cons (pe_lamE (T := T) (mk := fun c' => mkS _ c') TB rfl hmT huT rfl (fun y hy e => by
          rcases List.mem_cons.mp hy with rfl | hy
          · cases e
          · rcases List.mem_cons.mp hy with rfl | hy
            · exact .inl rfl
            · first
              | (rw [List.mem_singleton.mp hy] at e; cases e)
              | cases hy) (fun _ => rfl)) pa_nil)))) rfl rfl rfl rfl))
      (pss_cons (ps_if (pt_cmpR op_isN (pv 5) pe_non (nomark _)) (pss_one (ps_ret pe_non)) pss_nil)
      (pss_cons (ps_asg (pv 5) (pg_tup rfl (pgs_cons (pg_name (i := 6) nd rfl (.inl rfl)) (pgs_cons (pg_name (i := 7) nd rfl (.inl rfl)) pgs_nil))))
      (pss_cons (ps_if (pt_cmp (pc_din hu1 (pv 1) (pv 2)) (by with_unfolding_all rfl)) (pss_one (ps_set (i := 7) nd rfl (.inl rfl) (pe_op op_cat (pe_lst (pa_cons (pv 1) pa_nil)) (pv 7)))) pss_nil)
      (pss_one (ps_ret (pe_tup (pa_cons (pv 6) (pa_cons (pv 7) pa_nil)))))))))))), ?_⟩
    -- the beginning and the cells
    have hks : (wkvOf ws).map (·.1) = ((ws.map (·.1)).map icl).map (fun l => l.map Sum.inl) := by
      unfold wkvOf
      rw [List.map_map, List.map_map, List.map_map]
      rfl
    refine ⟨_, rfl, by show 1 ≤ sizeLine; decide, fun l1 hl1 => ⟨_, rfl, wd, wkvOf ws, (ws.map (·.1)).map icl, rfl, (by rw [upd_ne (ne_of_none hwd hl1)]; exact hwd), hks, fun L l0 hLk hLI hl0 => ?_⟩⟩
    have s1 := Same.new (Same.refl H) hl1 (o := .lst [.ref ba])
    have e1 : (upd H l1 (.lst [.ref ba])) l1 = some (.lst (vzI [(ba, b)])) := upd_same
    generalize upd H l1 (.lst [.ref ba]) = H1 at s1 e1 hl0 hLI ⊢
    obtain ⟨tl, eL, hC1⟩ := ti_of (H := H1) (L := L) fun q hq => by
      have h1 := hLI q hq
      have h2 : q.2 ∈ (ws.map (·.1)).map icl := by rw [← hLk]; exact List.mem_map_of_mem hq
      obtain ⟨c0, _, e⟩ := List.mem_map.mp h2
      exact ⟨c0, e.symm, by rw [h1, ← e]; rfl⟩
    have ecz : czI tl = ws.map (·.1) := by
      apply icl_map_inj
      rw [← hLk, eL]
      unfold czI
      rw [List.map_map, List.map_map]
      rfl
    have eV : (L.map fun q => V.ref q.1) = vzI tl := by
      rw [eL, List.map_map]
      rfl
    rw [eV]
    have ltl : tl.length ≤ 7 := by
      have := congrArg List.length ecz
      rw [czI_len, List.length_map] at this
      omega
    have s0 := Same.new (Same.refl H1) hl0 (o := .lst (vzI tl))
    have e0 : (upd H1 l0 (.lst (vzI tl))) l0 = some (.lst (vzI tl)) := upd_same
    generalize upd H1 l0 (.lst (vzI tl)) = H0 at s0 e0 ⊢
    refine ⟨l1, l0, _, _, rfl, rfl, s0 _ _ e1, e0, Nat.le_trans (show _ ≤ 100 by rw [vzI_len, vzI_len, List.length_singleton]; omega) (by decide), fun l2 hl2 => ?_⟩
    rw [← vzI_app]
    generalize htb : [(ba, b)] ++ tl = tb
    have cb : czI tb = b :: ws.map (·.1) := by rw [← htb, ← ecz]; rfl
    have s2 := (s1.trans s0).trans (Same.new (Same.refl H0) hl2 (o := .lst (vzI tb)))
    have hC2 : CI2 (upd H0 l2 (.lst (vzI tb))) tl := (hC1.same s0).same (Same.new (Same.refl H0) hl2)
    have e2 : (upd H0 l2 (.lst (vzI tb))) l2 = some (.lst (vzI tb)) := upd_same
    generalize upd H0 l2 (.lst (vzI tb)) = H2 at s2 e2 hC2 ⊢
    have C2 : CI2 H2 tb := fun y hy => by
      rw [← htb] at hy
      rcases List.mem_append.mp hy with h | h
      · rw [List.mem_singleton.mp h]; exact s2 _ _ hb
      · exact hC2 y h
    have hland : ∀ c ∈ czI tb, c ∈ landL rows := fun c hc => by
      rw [cb] at hc
      rcases List.mem_cons.mp hc with rfl | hc
      · exact hbL
      · obtain ⟨x, hx, rfl⟩ := List.mem_map.mp hc
        exact (hws x hx).1
    refine ⟨l2, rfl, ⟨_, .inl (.inl e2)⟩, ?_⟩
    refine for_list (K := K) (a := l2) (xs := vzI tb) (fun i σ H3 => H3 = H2 ∧ ∃ v3, σ = [some (.ref xi), some (.ref ba), some (.ref wd), v3, none, none, none, none, none])
      ⟨rfl, _, rfl⟩ (fun i σ H3 _ z => by rw [z.1]; exact .inl (.inl e2)) ?_ ?_
    · rintro i x σ H3 hx ⟨rfl, v3, rfl⟩
      obtain ⟨q, hq, rfl, mq⟩ := FI.at hx
      have mc : q.2 ∈ czI tb := List.mem_map_of_mem mq
      have hh := (land_has vd.toGood2 q.2).mpr (hland q.2 mc)
      exact ⟨_, rfl, _, rfl, xi, q.1, rows, q.2, rfl, hI.same s2, vd.toGood2, .inl (.inl (C2 q mq)), fun e => ⟨rfl, _, rfl⟩, fun e => (by rw [hh] at e; cases e)⟩
    · rintro σ H3 ⟨rfl, v3, rfl⟩
      -- the weights
      have hwd2 := s2 _ _ hwd
      refine ⟨wd, _, hwd2, trivial, fun od => ?_⟩
      have dF : (upd H3 wd (.frz od (.dT (wkvOf ws)))) wd = some (.frz od (.dT (wkvOf ws))) := upd_same
      have kF : ∀ H', Same (upd H3 wd (.frz od (.dT (wkvOf ws)))) H' → Same H3 (upd H' wd (.dT (wkvOf ws))) := fun H' s => same_unlock hwd2 s
      generalize upd H3 wd (.frz od (.dT (wkvOf ws))) = HF at dF kF ⊢
      refine ⟨_, rfl, wd, od, wkvOf ws, rfl, dF, fun D hD => ?_⟩
      have nDd : D ≠ wd := fun e => by rw [e, dF] at hD; cases hD
      refine lc_it (walk_valsT (d := wd) (o := od) (kvs := wkvOf ws)) (fun i H5 => Same HF H5 ∧ H5 D = some (.lst ((List.replicate i true).map V.bl))) ⟨Same.new (Same.refl HF) hD, upd_same⟩ (fun i H5 _ z => z.1 _ _ dF) ?_ ?_
      · rintro i y H5 H5' hi ⟨s5, l5⟩ ⟨rfl, key, he⟩
        unfold wkvOf at he hi
        rw [List.getElem?_map] at he
        rw [List.length_map] at hi
        rw [List.getElem?_eq_getElem hi] at he
        have he := Option.some.inj he
        have ey : y = .int (ws[i]).2 := (congrArg Prod.snd he).symm
        subst ey
        obtain ⟨_, w1, w2⟩ := hws ws[i] (List.getElem_mem hi)
        refine ⟨rfl, tyes ?_⟩
        refine ⟨_, rfl, (ws[i]).2, 1, 1000000000, rfl, ?_⟩
        have ein : inR (ws[i]).2 1 1000000000 = true := by
          unfold inR
          rw [decide_eq_true w1, decide_eq_true w2]
          rfl
        rw [ein]
        refine ⟨_, l5, Nat.lt_of_le_of_lt (show _ ≤ 100 by rw [List.length_map, List.length_replicate]; omega) (by decide), Same.updN s5 hD, ?_⟩
        rw [upd_same, List.replicate_succ', List.map_append]
        rfl
      · rintro H5 ⟨s5, l5⟩
        refine ⟨s5 _ _ dF, nilArgs ?_⟩
        have sU := kF H5 s5
        have lU : (upd H5 wd (.dT (wkvOf ws))) D = some (.lst ((List.replicate (wkvOf ws).length true).map V.bl)) := by rw [upd_ne nDd]; exact l5
        generalize upd H5 wd (.dT (wkvOf ws)) = H4 at sU lU ⊢
        have eall : (List.replicate (wkvOf ws).length true).all id = true := by rw [List.all_eq_true]; intro x hx; exact (List.mem_replicate.mp hx).2
        refine ⟨D, _, rfl, .inl (.inl lU), ?_⟩
        rw [eall]
        refine ⟨_, rfl, iteF' rfl ?_⟩
        clear l5 nDd kF dF hD s5 eall
        have s4 := s2.trans sU
        have hwd4 := s4 _ _ hwd
        -- few enough
        refine ⟨_, rfl, wd, wkvOf ws, rfl, hwd4, _, _, rfl, rfl, _, rfl, iteF' (decide_eq_false ?_) ?_⟩
        · unfold wkvOf
          rw [List.length_map]
          omega
        refine ⟨wd, _, hwd4, trivial, fun od2 => ?_⟩
        have dF : (upd H4 wd (.frz od2 (.dT (wkvOf ws)))) wd = some (.frz od2 (.dT (wkvOf ws))) := upd_same
        have bF : (upd H4 wd (.frz od2 (.dT (wkvOf ws)))) ba = some (.tup (icv b)) := by
          rw [upd_ne (ne_of (s4 _ _ hb) hwd4 fun e => by cases e)]
          exact s4 _ _ hb
        have kF : ∀ H', Same (upd H4 wd (.frz od2 (.dT (wkvOf ws)))) H' → Same H4 (upd H' wd (.dT (wkvOf ws))) := fun H' s => same_unlock hwd4 s
        generalize upd H4 wd (.frz od2 (.dT (wkvOf ws))) = HF2 at dF kF bF ⊢
        refine ⟨_, rfl, wd, od2, rfl, .inr ⟨wkvOf ws, dF, fun D2 hD2 => ?_⟩⟩
        have nDd : D2 ≠ wd := fun e => by rw [e, dF] at hD2; cases hD2
        refine lc_it (walk_keysT (d := wd) (o := od2) (kvs := wkvOf ws)) (fun i H5 => Same HF2 H5 ∧ ∃ u : TI, H5 D2 = some (.lst (vzI u)) ∧ CI2 H5 u ∧ czI u = ((ws.map (·.1)).take i).filter (fun x => !decide (x = b)) ∧ u.length ≤ i)
          ⟨Same.new (Same.refl HF2) hD2, [], upd_same, fun y hy => (by cases hy), by rw [List.take_zero]; rfl, Nat.le_refl _⟩ (fun i H5 _ z => z.1 _ _ dF) ?_ ?_
        · rintro i y H5 H5' hi ⟨s5, u, l5, c5, z5, n5⟩ ⟨rfl, key, v, qa, he, rfl, hq⟩
          unfold wkvOf at he hi
          rw [List.getElem?_map] at he
          rw [List.length_map] at hi
          rw [List.getElem?_eq_getElem hi] at he
          have he := Option.some.inj he
          have ek1 : key = ick (ws[i]).1 := (congrArg Prod.fst he).symm
          subst ek1
          have hq : H5' qa = some (.tup (icv (ws[i]).1)) := hq
          have etk : (ws.map (·.1)).take (i + 1) = (ws.map (·.1)).take i ++ [(ws[i]).1] := by
            rw [List.take_succ, List.getElem?_map, List.getElem?_eq_getElem hi]
            rfl
          refine ⟨rfl, ?_⟩
          refine ⟨_, rfl, _, rfl, cdI (ws[i]).1, cdI b, cdI_dp hq, cdI_dp (s5 _ _ bF), sh_ic _, sh_ic _, _, rfl, ?_⟩
          rw [eqv_ic]
          cases ek : (!decide ((ws[i]).1 = b)) with
          | false =>
            refine iteF' rfl ⟨s5, u, l5, c5, ?_, by omega⟩
            rw [etk, List.filter_append, z5]
            simp [ek]
          | true =>
            have tu : ∀ {a : Addr} {vs : List V}, H5' a = some (.tup vs) → (upd H5' D2 (.lst (vzI u ++ [.ref qa]))) a = some (.tup vs) := fun {a vs} h => by
              rw [upd_ne (ne_of h l5 fun e => by cases e)]
              exact h
            refine iteT' rfl ⟨_, rfl, vzI u, l5, Nat.lt_of_le_of_lt (show _ ≤ 100 by rw [vzI_len]; omega) (by decide), Same.updN s5 hD2, u ++ [(qa, (ws[i]).1)], ?_, fun y hy => ?_, ?_, by rw [List.length_append, List.length_singleton]; omega⟩
            · rw [upd_same, vzI_app]
              rfl
            · rcases List.mem_append.mp hy with h | h
              · exact tu (c5 y h)
              · rw [List.mem_singleton.mp h]
                exact tu hq
            · rw [etk, List.filter_append, czI_app, z5]
              simp only [List.filter_cons, ek, if_true, List.filter_nil]
              rfl
        · rintro H5 ⟨s5, u, l5, c5, z5, n5⟩
          have z5 : czI u = outL (ws.map (·.1)) b := by
            rw [z5, List.take_of_length_le (by unfold wkvOf; rw [List.length_map, List.length_map]; exact Nat.le_refl _)]
            rfl
          refine ⟨s5 _ _ dF, nilArgs ?_⟩
          have sU := kF H5 s5
          have lU : (upd H5 wd (.dT (wkvOf ws))) D2 = some (.lst (vzI u)) := by rw [upd_ne nDd]; exact l5
          have cU : CI2 (upd H5 wd (.dT (wkvOf ws))) u := fun y hy => by
            rw [upd_ne (ne_of (c5 y hy) (s5 _ _ dF) fun e => by cases e)]
            exact c5 y hy
          generalize upd H5 wd (.dT (wkvOf ws)) = H6 at sU lU cU ⊢
          clear l5 nDd kF dF hD2 s5 bF c5
          have s6 := s4.trans sU
          refine ⟨D2, vzI u, rfl, .inl (.inl lU), fun x hx => ?_, fun ys so hperm hso => ?_⟩
          · obtain ⟨y, hy, rfl⟩ := List.mem_map.mp hx
            exact ⟨y.1, y.2.1, y.2.2, rfl, cU y hy⟩
          obtain ⟨tw, hpt, rfl⟩ := perm_map (f := fun p : Addr × IC => V.ref p.1) hperm u rfl
          have hpc : (czI tw).Perm (outL (ws.map (·.1)) b) := by rw [← z5]; exact hpt.map _
          have s7 := s6.trans (Same.new (Same.refl H6) hso (o := .lst (vzI tw)))
          have c7 : CI2 (upd H6 so (.lst (vzI tw))) tw := fun y hy => (cU.same (Same.new (Same.refl H6) hso)) y (hpt.mem_iff.mp hy)
          have e7 : (upd H6 so (.lst (vzI tw))) so = some (.lst (vzI tw)) := upd_same
          have ev : (tw.map fun p : Addr × IC => V.ref p.1) = vzI tw := rfl
          rw [ev]
          generalize upd H6 so (.lst (vzI tw)) = H7 at s7 c7 e7 ⊢
          have ltw : tw.length ≤ 7 := by
            have h1 := hpc.length_eq
            have h2 := out_le (ws.map (·.1)) b
            rw [czI_len] at h1
            rw [List.length_map] at h2
            omega
          refine ⟨.ref wd, rfl, _, rfl, _, rfl, _, rfl, hT.ext s7, fun fa c' H8 x8 T8 f0 f1 c1 => nilArgs ?_⟩
          intro o uc hn hod hrv
          generalize hcc : s.heap.objs.size + 1 + 1 = cc at hn ⊢
          have f1' : H8 fa = some (FnE fa (mkS cc c')) := by rw [← hcc]; exact f1
          have c1' : H8 c' = some (CodeO c' qS) := c1
          have xA : ExtN H H8 := (Same.extN s7).trans x8
          have sL := Same.new (Same.refl H8) hn (o := CelO cc o)
          have eL2 : (upd H8 cc (CelO cc o)) cc = some (CelO cc o) := upd_same
          have hbk : ∀ {H'}, Same (upd H8 cc (CelO cc o)) H' → Same H8 (del H' cc) := fun s => same_del hn s
          have w8 := x8 _ _ (s7 _ _ hwd) (fun ps e => by cases e)
          have b8 := x8 _ _ (s7 _ _ hb) (fun ps e => by cases e)
          have ndw : (czI tw).Nodup := hpc.nodup_iff.mpr (hnd.filter _)
          have hsubw : ∀ c ∈ czI tw, c ∈ ws.map (·.1) := fun c hc => (List.mem_filter.mp (hpc.mem_iff.mp hc)).1
          have hreach : (∀ c ∈ ws.map (·.1), rchB (landL rows) b c = true) ↔ ∀ c ∈ czI tw, rchB (landL rows) b c = true := by
            refine ⟨fun h c hc => h c (hsubw c hc), fun h c hc => ?_⟩
            by_cases e : c = b
            · rw [e]
              exact rchB_iff.mpr (Rch.refl _ _)
            · exact h c (hpc.mem_iff.mpr (List.mem_filter.mpr ⟨hc, by simpa using e⟩))
          refine ⟨xi, ba, so, fa, rows, b, tw, wtOf ws, rfl, ((hI.same s7).ext x8).same sL, vd, few, sL _ _ b8, hbL, sL _ _ (x8 _ _ e7 fun ps e => by cases e), (c7.ext x8).same sL, ndw, fun c hc => hland c (by rw [cb]; exact List.mem_cons_of_mem _ (hsubw c hc)), ltw,
            ⟨cc, c', o, uc, wd, wkvOf ws, sL _ _ f1', sL _ _ c1', eL2, hod, hrv, sL _ _ w8, fun c hc => wkv_some (hsubw c hc)⟩, fun hu H' s' => ⟨s' _ _ eL2, ?_⟩, fun hu rr oa p to H' s' h1 h2 h3 h4 h5 => ⟨s' _ _ eL2, ?_⟩⟩
          · -- some are not reached
            have sD := hbk s'
            obtain ⟨c0, hc0, hc1⟩ := hu
            refine ⟨_, rfl, rfl, _, rfl, iteT' rfl (kN ⟨c0, hsubw c0 hc0, hc1⟩ _ (xA.trans (Same.extN sD)) (T8.ext sD))⟩
          · have sD := hbk s'
            have eC : H' cc = some (CelO cc o) := s' _ _ eL2
            have dk : ∀ {a : Addr} {x : HO}, H' a = some x → x ≠ CelO cc o → del H' cc a = some x := fun h n => del_keep eC h n
            have d1 := dk h1 (fun z => by unfold CelO at z; cases z)
            have d2 := dk h2 (fun z => by unfold CelO at z; cases z)
            have d3 : CI2 (del H' cc) to := fun y hy => dk (h3 y hy) (fun z => by unfold CelO at z; cases z)
            have w9 := sD _ _ w8
            have b9 := sD _ _ b8
            have xD := xA.trans (Same.extN sD)
            have TD := T8.ext sD
            clear h1 h2 h3 dk eC
            generalize del H' cc = H9 at d1 d2 d3 w9 b9 xD TD ⊢
            have hall : ∀ c ∈ ws.map (·.1), rchB (landL rows) b c = true := hreach.mpr hu
            have h5 := h5.permL hpc
            have lto : to.length ≤ 7 := by
              have e1 := h5.perm.length_eq
              have e2 := hpc.length_eq
              rw [← h4, czI_len] at e1
              rw [czI_len] at e2
              omega
            refine ⟨_, rfl, rfl, _, rfl, iteF' rfl ?_⟩
            refine ⟨_, rfl, rr, _, rfl, .inl (.inl d1), rfl, _, _, rfl, _, _, rfl, rfl, ?_⟩
            refine ⟨_, rfl, _, rfl, wd, _, rfl, DGet.t (k := ick b) w9 b9, ?_⟩
            rw [wkv_isSome]
            by_cases hbk2 : b ∈ ws.map (·.1)
            · refine ⟨_, rfl, iteT' (decide_eq_true hbk2) ?_⟩
              refine ⟨_, rfl, by show 1 ≤ sizeLine; decide, fun m1 hm1 => ⟨_, rfl, ?_⟩⟩
              have s10 := Same.new (Same.refl H9) hm1 (o := .lst [.ref ba])
              have e10 : (upd H9 m1 (.lst [.ref ba])) m1 = some (.lst (vzI [(ba, b)])) := upd_same
              generalize upd H9 m1 (.lst [.ref ba]) = H10 at s10 e10 ⊢
              refine ⟨m1, oa, _, _, rfl, rfl, e10, s10 _ _ d2, Nat.le_trans (show _ ≤ 100 by rw [vzI_len, vzI_len, List.length_singleton]; omega) (by decide), fun m2 hm2 => ?_⟩
              rw [← vzI_app]
              have s11 := s10.trans (Same.new (Same.refl H10) hm2 (o := .lst (vzI ([(ba, b)] ++ to))))
              have e11 : (upd H10 m2 (.lst (vzI ([(ba, b)] ++ to)))) m2 = some (.lst (vzI ([(ba, b)] ++ to))) := upd_same
              generalize upd H10 m2 (.lst (vzI ([(ba, b)] ++ to))) = H11 at s11 e11 ⊢
              refine ⟨_, rfl, _, rfl, by show 2 ≤ sizeLine; decide, fun t ht => ?_⟩
              have s12 := Same.new (Same.refl H11) ht (o := .tup [.int p.1, .ref m2])
              have s13 := s11.trans s12
              refine kR hall t m2 (p.1, b :: p.2) ([(ba, b)] ++ to) _ (xD.trans (Same.extN s13)) (TD.ext s13) upd_same (s12 _ _ e11) (fun y hy => ?_) ?_ ⟨p, h5, by rw [if_pos hbk2]; rfl⟩
              · rcases List.mem_append.mp hy with h | h
                · rw [List.mem_singleton.mp h]; exact s13 _ _ b9
                · exact (d3.same s13) y h
              · rw [czI_app, h4]
                rfl
            · refine ⟨_, rfl, iteF' (decide_eq_false hbk2) ?_⟩
              refine ⟨_, rfl, _, rfl, by show 2 ≤ sizeLine; decide, fun t ht => ?_⟩
              have s12 := Same.new (Same.refl H9) ht (o := .tup [.int p.1, .ref oa])
              exact kR hall t oa p to _ (xD.trans (Same.extN s12)) (TD.ext s12) upd_same (s12 _ _ d2) (d3.same s12) h4 ⟨p, h5, by rw [if_neg hbk2]; rfl⟩
end
end Om

namespace Om
open PySem PySem.Spec PyProof.Rows L2 LamX PySem.W NdefX
theorem wkv_put {ws : WL} {c : IC} {n : Int} (h : c ∉ ws.map (·.1)) : putK (wkvOf ws) (ick c) (V.int n) = wkvOf (ws ++ [(c, n)]) := by
  unfold putK wkvOf
  rw [if_neg, List.map_append]
  · rfl
  · rw [List.any_eq_true]
    rintro ⟨x, hx, e⟩
    obtain ⟨y, hy, rfl⟩ := List.mem_map.mp hx
    exact h (List.mem_map.mpr ⟨y, hy, ick_inj (of_decide_eq_true e)⟩)
theorem wkv_len (ws : WL) : (wkvOf ws).length = ws.length := List.length_map ..
def onesW (l : List IC) : WL := l.map fun c => (c, 1)
theorem onesW_keys (l : List IC) : (onesW l).map (·.1) = l := by
  unfold onesW
  rw [List.map_map]
  exact List.map_id l
abbrev sDW : Stmt := top 30
abbrev nDW : List Str := ["island", "begin", "cells", "cell"]
def spDW (K : PySem.W.Frag) (CI : Addr) (T : List (Addr × Str)) : Sp := fun vs H Q E => ∃ (xi ba ga : Addr) (rows : List (List Nat)) (b : IC) (tg : TI), vs = [.ref xi, .ref ba, .ref ga] ∧ Isl K CI H xi rows ∧ Vd rows ∧ (cellsOf rows).length ≤ 62 ∧
  H ba = some (.tup (icv b)) ∧ b ∈ landL rows ∧ H ga = some (.tup (vzI tg)) ∧ CI2 H tg ∧ (czI tg).Nodup ∧ (∀ c ∈ czI tg, c ∈ landL rows) ∧ tg.length ≤ 7 ∧ Tabs T H ∧
  ((∃ c ∈ czI tg, rchB (landL rows) b c = false) → ∀ H', ExtN H H' → Tabs T H' → Q .non H') ∧
  ((∀ c ∈ czI tg, rchB (landL rows) b c = true) → ∀ (rr oa : Addr) (p : PO) (to : TI) (H' : Hp), ExtN H H' → Tabs T H' → H' rr = some (.tup [.int p.1, .ref oa]) → H' oa = some (.lst (vzI to)) → CI2 H' to → czI to = p.2 → WRes (landL rows) b (onesW (czI tg)) p → Q (.ref rr) H')
section
variable {P : Program} {w : World} {K : PySem.W.Frag} {mg : Str → Option Value} {base : Heap} {CI : Addr}
theorem scDW : FnScope nDW ["island", "begin", "cells"] (defScope sDW) := ⟨rfl, rfl, rfl, by decide +kernel, rfl, by decide +kernel, by decide +kernel⟩
def dwD : Expr := arg2 (retExpr ((defBody sDW).getD 0 noS))
theorem blkDW : BlkOk nDW (defScope sDW) (dcS dwD) [("cell", 3)] := blkOk_by (by decide +kernel)
theorem ok_dw {f : Addr} {fd : FuncData} {T : List (Addr × Str)} (F : FnP K "dig_walk" "dig_walk" sDW f fd) (WW : Cal P w K mg base (L2.CX P w) 13 "weighed_walk" pWW (spWW K CI T)) : FnOk P w K mg base (L2.CX P w) 14 f fd ["island", "begin", "cells"] (spDW K CI T) := by
  refine F.ok scDW (fun vs H Q E h => ?_) (fun cdv A outer s H vs Q E hr h => ?_)
  · obtain ⟨xi, ba, ga, rows, b, tg, rfl, _⟩ := h
    rfl
  · obtain ⟨xi, ba, ga, rows, b, tg, rfl, hI, vd, few, hb, hbL, hg, hCI, hnd, hsub, hl7, hT, kN, kR⟩ := h
    have nd := scDW.nd
    have hu := hr.units
    have hu3 : _ + 3 < cLine := Nat.lt_of_le_of_lt (Nat.add_le_add_left (show 3 ≤ 64 by decide) _) hu
    refine ⟨_, pss_one (ps_ret (pe_cal WW hr (passes_call (W := fun cls d _ H => E cls d H) (takes_of rfl rfl rfl rfl) fun _ _ _ _ h => h) (pa_cons (pv 0) (pa_cons (pv 1) (pa_cons
      (pe_dcT (own := [("cell", 3)]) (g := gName 3) rfl hu3 nd (pi_tup (pv 2)) blkDW (fun _ _ _ _ _ => pg_name (i := 3) nd rfl (.inl rfl)) (fun _ _ _ _ _ => pts_nil) (fun _ _ _ _ _ => pv 3) (fun _ _ _ _ _ => pe_int)) pa_nil))))), ?_⟩
    refine ⟨_, rfl, _, rfl, _, rfl, ga, rfl, ⟨_, .inl (.inl hg)⟩, fun D hD => ?_⟩
    refine wlk_it (walk_tup (K := K) (a := ga) (xs := vzI tg)) (fun i H1 => Same H H1 ∧ H1 D = some (.dT (wkvOf (onesW ((czI tg).take i))))) ⟨Same.new (Same.refl H) hD, by rw [List.take_zero]; exact upd_same⟩ (fun i H1 _ z => .inl (.inl (z.1 _ _ hg))) ?_ ?_
    · rintro i x H1 H1' hi ⟨s1, h1⟩ ⟨rfl, hx⟩
      obtain ⟨q, hq, rfl, mq⟩ := FI.at hx
      have hqc : (czI tg)[i]? = some q.2 := by
        unfold czI
        rw [List.getElem?_map, hq]
        rfl
      have hik := (List.getElem?_eq_some_iff.mp hqc).1
      have hnew : q.2 ∉ (onesW ((czI tg).take i)).map (·.1) := by
        rw [onesW_keys]
        intro hm
        obtain ⟨j, hj⟩ := List.mem_iff_getElem?.mp hm
        rw [List.getElem?_take] at hj
        split at hj
        · rename_i hji
          have hjl : j < (czI tg).length := by omega
          have e1 : (czI tg)[j] = (czI tg)[i] := by
            rw [List.getElem?_eq_getElem hjl] at hj
            rw [List.getElem?_eq_getElem hik] at hqc
            rw [Option.some.inj hj, Option.some.inj hqc]
          exact (List.pairwise_iff_getElem.mp hnd) j i hjl hik hji e1
        · cases hj
      refine ⟨rfl, tyes ?_⟩
      refine ⟨_, rfl, q.1, wkvOf (onesW ((czI tg).take i)), ick q.2, rfl, (hCI.same s1) q mq, h1, ?_, Same.updN s1 hD, ?_⟩
      · refine Nat.lt_of_le_of_lt (show _ ≤ 100 from ?_) (by decide)
        rw [wkv_len]
        unfold onesW
        rw [List.length_map, List.length_take, czI_len]
        omega
      · rw [upd_same, wkv_put hnew, List.take_succ, hqc]
        unfold onesW
        rw [List.map_append]
        rfl
    · rintro H1 ⟨s1, h1⟩
      rw [vzI_len, ← czI_len, List.take_length] at h1
      refine ⟨xi, ba, D, rows, b, onesW (czI tg), rfl, hI.same s1, vd, few, s1 _ _ hb, hbL, h1, by rw [onesW_keys]; exact hnd, fun x hx => ?_, by unfold onesW; rw [List.length_map, czI_len]; exact hl7, hT.ext s1, fun hu H' x' T' => ?_, fun hu rr oa p to H' x' T' g1 g2 g3 g4 g5 => ?_⟩
      · unfold onesW at hx
        obtain ⟨c0, hc0, rfl⟩ := List.mem_map.mp hx
        exact ⟨hsub c0 hc0, show (1 : Int) ≤ 1 by decide, show (1 : Int) ≤ 1000000000 by decide⟩
      · rw [onesW_keys] at hu
        exact kN hu H' ((Same.extN s1).trans x') T'
      · rw [onesW_keys] at hu
        exact kR hu rr oa p to H' ((Same.extN s1).trans x') T' g1 g2 g3 g4 g5
end
end Om

namespace Om
open PySem PySem.Spec PyProof.Rows L2 LamX PySem.W NdefX
/-- the paces summed, each weighed -/
def cumF (d : IC → IC → Nat) (wt : IC → Int) : Int → IC → List IC → Int
  | _, _, [] => 0
  | p, a, c :: r => (p + (d a c : Int)) * wt c + cumF d wt (p + (d a c : Int)) c r
abbrev nSum : List Str := ["_law_tables", "_law_begin", "_law_order", "_law_heavy", "_law_paces", "_law_here", "_law_total", "_law_cell"]
abbrev pSum : List Str := ["_law_tables", "_law_begin", "_law_order", "_law_heavy"]
def spSum : Sp := fun vs H Q _ => ∃ (pd ba oa wd : Addr) (b : IC) (tl : TI) (S : List IC) (d : IC → IC → Nat) (wkv : List (List L2.Key × V)) (wt : IC → Int), vs = [.ref pd, .ref ba, .ref oa, .ref wd] ∧ PT H pd S d ∧ H ba = some (.tup (icv b)) ∧ b ∈ S ∧ H oa = some (.lst (vzI tl)) ∧ CI2 H tl ∧ (∀ c ∈ czI tl, c ∈ S) ∧
  H wd = some (.dT wkv) ∧ (∀ c ∈ czI tl, valV wkv (ick c) = some (.int (wt c)) ∧ 0 ≤ wt c ∧ wt c ≤ 1000000000) ∧ Q (.int (cumF d wt 0 b (czI tl))) H
section
variable {P : Program} {w : World} {K : PySem.W.Frag} {mg : Str → Option Value} {base : Heap}
end
end Om

/-! dict(a list of pairs), the keys tuples -/
namespace Om
open PySem PySem.Spec PyProof.Rows L2
/-- the pairs: where the pair stands, where its key stands, the key, the value -/
abbrev DPs := List (Addr × Addr × List L2.Key × V)
def putAll (kvs : List (List L2.Key × V)) (L : DPs) : List (List L2.Key × V) := L.foldl (fun acc x => putK acc x.2.2.1 x.2.2.2) kvs
theorem putK_len' {κ : Type} [DecidableEq κ] (kvs : List (κ × V)) (k : κ) (v : V) : (putK kvs k v).length ≤ kvs.length + 1 := by
  unfold putK
  split
  · rw [List.length_map]; omega
  · rw [List.length_append, List.length_singleton]; exact Nat.le_refl _
theorem putAll_len : ∀ (L : DPs) (kvs : List (List L2.Key × V)), (putAll kvs L).length ≤ kvs.length + L.length
  | [], kvs => Nat.le_refl _
  | x :: L, kvs => by
    have h1 := putAll_len L (putK kvs x.2.2.1 x.2.2.2)
    have h2 := putK_len' kvs x.2.2.1 x.2.2.2
    show (putAll (putK kvs x.2.2.1 x.2.2.2) L).length ≤ _
    rw [List.length_cons]
    omega
def rDictP (K : PySem.W.Frag) : List V → Hp → VK → Prop := fun vs H Q => ∃ (a : Addr) (L : DPs), vs = [V.ref a] ∧ SqL K H a (L.map fun x => V.ref x.1) ∧ (∀ x ∈ L, H x.1 = some (.tup [.ref x.2.1, x.2.2.2]) ∧ H x.2.1 = some (.tup (x.2.2.1.map kV))) ∧ L.length ≤ 1000 ∧
  ∀ D, H D = none → Q (.ref D) (upd H D (.dT (putAll [] L)))
section
variable {X : Cx} {pins : List (Addr × Obj)} {σ : L2.St} {H : Hp} {s : Shared}
abbrev PrR (h : Heap) (x : Addr × Addr × List L2.Key × V) (p : List L2.Key × Addr × Value) : Prop := p.1 = x.2.2.1 ∧ p.2.1 = x.2.1 ∧ RelV x.2.2.2 p.2.2 ∧ h.IsTuple x.1 #[.ref p.2.1, p.2.2]
theorem pairsT_of (I : Inv X pins σ H s) : ∀ {L : DPs}, (∀ x ∈ L, H x.1 = some (.tup [.ref x.2.1, x.2.2.2])) → ∃ ps : List (List L2.Key × Addr × Value), Paired (PrR s.heap) L ps
  | [], _ => ⟨[], .nil⟩
  | x :: L, h => by
    obtain ⟨ps, hp⟩ := pairsT_of I fun y hy => h y (List.mem_cons_of_mem _ hy)
    obtain ⟨_, its, r, o, h1, h2, n, h3⟩ := (show ObjOk X.prog X.w H s.heap x.1 (.tup [.ref x.2.1, x.2.2.2]) from I.hok _ _ (h x List.mem_cons_self))
    obtain ⟨u, y, ei, ru, ry⟩ := vals2 r
    subst ei
    cases ru
    exact ⟨(x.2.2.1, x.2.1, y) :: ps, .cons ⟨rfl, rfl, ry, o, h1, h2, n, h3⟩ hp⟩
theorem KT.all {H : Hp} {h : Heap} : ∀ {L : DPs} {ps : List (List L2.Key × Addr × Value)} {kvs : List (List L2.Key × V)} {xs : List (List L2.Key × Addr × Value)}, Paired (PrR h) L ps → (∀ x ∈ L, H x.2.1 = some (.tup (x.2.2.1.map kV))) → KT H kvs xs → KT H (putAll kvs L) (storedAllH xs ps)
  | _, _, _, _, .nil, _, r => r
  | _, _, _, _, @Paired.cons _ _ _ x p L ps hx t, hk, r => by
    obtain ⟨e1, e2, e3, _⟩ := hx
    have h1 := KT.put r x.2.2.1 (hk x List.mem_cons_self) e3
    have h2 := KT.all t (fun y hy => hk y (List.mem_cons_of_mem _ hy)) h1
    show KT H (putAll (putK _ x.2.2.1 x.2.2.2) L) (storedAllH (storedH _ p.1 p.2.1 p.2.2) ps)
    rw [e1, e2]
    exact h2
theorem cr_dictP (hc : X.calm = true) (hu : X.A.units + 16 < cLine) : CallR X (.type "dict") (rDictP X.K) := by
  intro pins s σ H vs us Q I r h
  obtain ⟨a, L, rfl, ha, hL, hlen, q⟩ := h
  rw [Vals.ref1 r]
  obtain ⟨its, rv, pl, hz⟩ := I.list ha
  have ei : its = L.map fun x => Value.ref x.1 := by
    have : (L.map fun x => V.ref x.1) = (L.map fun x => x.1).map V.ref := by rw [List.map_map]; rfl
    rw [this] at rv
    rw [refs_at rv, List.map_map]
    rfl
  subst ei
  obtain ⟨ps, hp⟩ := pairsT_of I fun x hx => (hL x hx).1
  have hlp : L.length = ps.length := Paired.length hp
  obtain ⟨o, n, ho, hcl, hd, hdat⟩ := pl
  have tsd : ∀ (j : Nat) (p : List L2.Key × Addr × Value), ps[j]? = some p → ∃ x, L[j]? = some x ∧ PrR s.heap x p := fun j p e => by
    have hj := (List.getElem?_eq_some_iff.mp e).1
    obtain ⟨p', e', hx⟩ := paired_get hp (List.getElem?_eq_getElem (by omega : j < L.length))
    rw [e] at e'
    cases e'
    exact ⟨_, List.getElem?_eq_getElem _, hx⟩
  have his : ∀ h' : Heap, (∀ b o, s.heap.get? b = some o → h'.get? b = some o) → ∀ p ∈ ps, (tupleKind (mixKind X.prog X.w)).is h' p.1 p.2.1 := fun h' hk p hp' => by
    obtain ⟨j, hj⟩ := List.mem_iff_getElem?.mp hp'
    obtain ⟨x, hx, e1, e2, _⟩ := tsd j p hj
    have k1 := key_of I.hok (hL x (List.mem_of_getElem? hx)).2
    rw [← e1, ← e2] at k1
    obtain ⟨o1, i1, n1, g1, g2, g3, g4⟩ := k1
    exact ⟨o1, i1, n1, hk _ _ g1, g2, g3, g4⟩
  refine call_dict_pairsH (knd := tupleKind (mixKind X.prog X.w)) (ps := ps) (PairArg.list a (L.map fun x => Value.ref x.1).toArray (fun j => ((L[j]?).map (·.1)).getD 0) (ps.map fun p => (Value.ref p.2.1, p.2.2))) (I.ok.hd hc) (by show X.A.units + 2 < cLine; omega)
    ⟨⟨o, n, ho, hcl, hd, hdat⟩, by simp [hlp], fun j k v e => ?_⟩ ⟨by rw [List.length_map], fun i key v e => ?_⟩ (fun h' hk x hx => his h' (fun b o e => hk b o (Nat.ne_of_lt (Heap.lt_size e)) (by simp) e) x hx) (by rw [List.length_map, ← hlp, sizeLine_eq]; omega) fun h' tk hd' hk => ?_
  · rw [List.getElem?_map] at e
    obtain ⟨p, hp2, e⟩ := Option.map_eq_some_iff.mp e
    obtain ⟨x, hx, e1, e2, e3, e4⟩ := tsd j p hp2
    cases e
    have et : ((L[j]?).map (·.1)).getD 0 = x.1 := by rw [hx]; rfl
    refine ⟨?_, .inl ?_⟩
    · show _ = some (Value.ref (((L[j]?).map (·.1)).getD 0))
      rw [et]
      simp [hx]
    · show s.heap.IsTuple (((L[j]?).map (·.1)).getD 0) _
      rw [et]
      exact e4
  · have e : (ps.map fun p => (Value.ref p.2.1, p.2.2))[i]? = some (key, v) := e
    rw [List.getElem?_map] at e
    obtain ⟨p, hp2, e⟩ := Option.map_eq_some_iff.mp e
    cases e
    exact ⟨p.1, p.2.1, hp2, rfl⟩
  · have hm : (s.heap.objs.size == sysModules) = false := beq_eq_false_iff_ne.mpr (Nat.ne_of_gt I.big)
    have hn := I.hok.fresh (Nat.le_refl s.heap.objs.size)
    have hlen2 : (putAll [] L).length ≤ sizeLine := by
      have h1 := putAll_len L []
      rw [List.length_nil] at h1
      rw [sizeLine_eq]
      omega
    have kt : KT (upd H s.heap.objs.size (.dT (putAll [] L))) (putAll [] L) (storedAllH [] ps) := (KT.all hp (fun x hx => (hL x hx).2) .nil).keeps fun b ys hb => by rw [upd_ne (ne_of_none hb hn)]; exact hb
    obtain ⟨o', es, ep, d1, d2, d3, d4, d5, d6⟩ := hd'
    exact ⟨.ref s.heap.objs.size, upd H s.heap.objs.size (.dT (putAll [] L)), I.laid (t' := tk) (fun b o e => hk b o (by simp) e) (Nat.le_refl _) (show ObjOk X.prog X.w _ _ _ (.dT (putAll [] L)) from ⟨hlen2, hm, storedAllH [] ps, kt, o', es, ep, d1, d2, d3, d4, d6⟩), rfl, q _ hn⟩
end
end Om

namespace Om
open PySem PySem.Spec PyProof.Rows L2 LamX PySem.W NdefX
theorem Rch.distN {L : List IC} {a c : IC} (h : Rch L a c) : DistN L a c (dN L a c) := by
  have key : ∀ n, Pth L a n c → ∃ m, DistN L a c m := by
    intro n
    induction n using Nat.strongRecOn with
    | ind n ih =>
      intro hp
      by_cases e : ∃ m, m < n ∧ Pth L a m c
      · obtain ⟨m, h1, h2⟩ := e
        exact ih m h1 h2
      · exact ⟨n, hp, fun m hm => Nat.not_lt.mp fun z => e ⟨m, z, hm⟩⟩
  obtain ⟨n, hp⟩ := h
  obtain ⟨m, hm⟩ := key n hp
  rw [dN_eq hm]
  exact hm
theorem pth0 {L : List IC} {a c : IC} (h : Pth L a 0 c) : c = a := by cases h; rfl
/-- what a measure of ways keeps -/
structure Mtr (S : List IC) (d : IC → IC → Nat) : Prop where
  tri : ∀ a ∈ S, ∀ b ∈ S, ∀ c ∈ S, d a c ≤ d a b + d b c
  pos : ∀ a ∈ S, ∀ c ∈ S, a ≠ c → 1 ≤ d a c
  self : ∀ a ∈ S, d a a = 0
theorem mtr_of {L : List IC} {b : IC} {S : List IC} (hb : b ∈ L) (h : ∀ c ∈ S, c ∈ L ∧ Rch L b c) : Mtr S (dN L) := by
  have r : ∀ a ∈ S, ∀ c ∈ S, DistN L a c (dN L a c) := fun a ha c hc => ((((h a ha).2).symm hb).trans (h c hc).2).distN
  refine ⟨fun a ha b' hb' c hc => (r a ha b' hb').tri (r b' hb' c hc) (r a ha c hc), fun a ha c hc n => ?_, fun a ha => ?_⟩
  · cases e : dN L a c with
    | zero =>
      have := (r a ha c hc).p
      rw [e] at this
      exact absurd (pth0 this).symm n
    | succ n => omega
  · have := (r a ha a ha).le 0 .nil
    omega
theorem sumW_cons (wt : IC → Int) (c : IC) (r : List IC) : sumW wt (c :: r) = wt c + sumW wt r := by
  unfold sumW
  rw [List.map_cons, List.sum_cons]
theorem cumF_eq (d : IC → IC → Nat) (wt : IC → Int) : ∀ (π : List IC) (p : Int) (a : IC), cumF d wt p a π = p * sumW wt π + costF d (sumW wt) a π
  | [], p, a => by
    show (0 : Int) = p * 0 + 0
    simp
  | c :: r, p, a => by
    show (p + (d a c : Int)) * wt c + cumF d wt (p + (d a c : Int)) c r = p * sumW wt (c :: r) + (costF d (sumW wt) c r + (d a c : Int) * sumW wt (c :: r))
    rw [cumF_eq d wt r, sumW_cons, Int.add_mul, Int.add_mul, Int.mul_add, Int.mul_add]
    omega
theorem cumF_cost (d : IC → IC → Nat) (wt : IC → Int) (b : IC) (π : List IC) : cumF d wt 0 b π = costF d (sumW wt) b π := by
  rw [cumF_eq, Int.zero_mul, Int.zero_add]
theorem cumF_mono {S : List IC} {d : IC → IC → Nat} {wt : IC → Int} (hw : ∀ c ∈ S, 0 ≤ wt c) : ∀ (π : List IC) (p q : Int) (a a' : IC), (∀ c ∈ π, c ∈ S) → (∀ c ∈ S, q + (d a' c : Int) ≤ p + (d a c : Int)) → q ≤ p ∨ True → cumF d wt q a' π ≤ cumF d wt p a π
  | [], p, q, a, a', _, _, _ => Int.le_refl _
  | c :: r, p, q, a, a', hs, h, _ => by
    have hc := hs c List.mem_cons_self
    have h1 := h c hc
    have ih := cumF_mono (d := d) hw r (p + (d a c : Int)) (q + (d a' c : Int)) c c (fun x hx => hs x (List.mem_cons_of_mem _ hx)) (fun x hx => by omega) (.inr trivial)
    have h2 := Int.mul_le_mul_of_nonneg_right h1 (hw c hc)
    show (q + (d a' c : Int)) * wt c + _ ≤ (p + (d a c : Int)) * wt c + _
    omega
theorem cumF_out {S : List IC} {d : IC → IC → Nat} {wt : IC → Int} (M : Mtr S d) (hw : ∀ c ∈ S, 1 ≤ wt c) {b : IC} (hb : b ∈ S) : ∀ (π : List IC) (p : Int) (a : IC), a ∈ S → (∀ c ∈ π, c ∈ S) → π.Nodup → b ∈ π → 0 < p → cumF d wt p a (outL π b) < cumF d wt p a π
  | [], p, a, _, _, _, h, _ => by cases h
  | c :: r, p, a, ha, hs, nd, hbm, hp => by
    obtain ⟨n1, n2⟩ := List.nodup_cons.mp nd
    have hc := hs c List.mem_cons_self
    have hr : ∀ x ∈ r, x ∈ S := fun x hx => hs x (List.mem_cons_of_mem _ hx)
    by_cases e : c = b
    · subst e
      have eo : outL (c :: r) c = r := by
        unfold outL
        rw [List.filter_cons, if_neg (by simp)]
        exact List.filter_eq_self.mpr fun x hx => by
          have : x ≠ c := fun z => n1 (z ▸ hx)
          simpa using this
      rw [eo]
      have h1 := cumF_mono (S := S) (d := d) (wt := wt) (fun x hx => by have := hw x hx; omega) r (p + (d a c : Int)) p c a hr (fun x hx => by have := M.tri a ha c hc x hx; omega) (.inr trivial)
      have h2 : 1 ≤ (p + (d a c : Int)) * wt c := by
        have h3 : (1 : Int) ≤ p + (d a c : Int) := by omega
        have h4 := Int.mul_le_mul h3 (hw c hc) (by decide) (by omega)
        simpa using h4
      show cumF d wt p a r < (p + (d a c : Int)) * wt c + cumF d wt (p + (d a c : Int)) c r
      omega
    · have eo : outL (c :: r) b = c :: outL r b := by
        unfold outL
        rw [List.filter_cons, if_pos (by simpa using e)]
      rw [eo]
      have hbr : b ∈ r := (List.mem_cons.mp hbm).elim (fun h => absurd h.symm e) id
      have ih := cumF_out M hw hb r (p + (d a c : Int)) c hc hr n2 hbr (by omega)
      show (p + (d a c : Int)) * wt c + _ < (p + (d a c : Int)) * wt c + _
      omega
/-- weighed_walk's answer is the least of all orders, the beginning among them where it is asked -/
theorem WRes.lst {L : List IC} {b : IC} {ws : WL} {p : PO} (h : WRes L b ws p) (hb : b ∈ L) (nd : (ws.map (·.1)).Nodup) (hk : ∀ c ∈ ws.map (·.1), c ∈ L ∧ Rch L b c) (hw : ∀ c ∈ ws.map (·.1), 1 ≤ wtOf ws c) : Lst (dN L) (sumW (wtOf ws)) b (ws.map (·.1)) p := by
  obtain ⟨p0, h0, rfl⟩ := h
  generalize ws.map (·.1) = l at *
  generalize wtOf ws = wt at *
  by_cases hbl : b ∈ l
  · rw [if_pos hbl]
    have M : Mtr l (dN L) := mtr_of hb hk
    have e0 : dN L b b = 0 := M.self b hbl
    refine ⟨out_perm nd hbl h0.perm, ?_, fun π hπ hlt => ?_⟩
    · show p0.1 = costF (dN L) (sumW wt) b p0.2 + (dN L b b : Int) * sumW wt (b :: p0.2)
      rw [e0, h0.cost]
      simp
    · cases π with
      | nil =>
        have := hπ.mem_iff.mpr hbl
        cases this
      | cons c ρ =>
        by_cases e : c = b
        · subst e
          have hρ := perm_out nd hπ
          refine h0.least ρ hρ ?_
          have e1 : costF (dN L) (sumW wt) c (c :: ρ) = costF (dN L) (sumW wt) c ρ := by
            show costF (dN L) (sumW wt) c ρ + (dN L c c : Int) * sumW wt (c :: ρ) = _
            rw [e0]
            simp
          rw [e1] at hlt
          rcases hlt with h | ⟨h1, h2⟩
          · exact .inl h
          · refine .inr ⟨h1, ?_⟩
            rcases h2 with h2 | ⟨_, h2⟩
            · exact absurd h2 (ltI_irrefl c)
            · exact h2
        · have hcl : c ∈ l := hπ.mem_iff.mp List.mem_cons_self
          have ndπ := hπ.nodup_iff.mpr nd
          obtain ⟨n1, n2⟩ := List.nodup_cons.mp ndπ
          have hbρ : b ∈ ρ := (List.mem_cons.mp (hπ.mem_iff.mpr hbl)).elim (fun h => absurd h.symm e) id
          have hs : ∀ x ∈ ρ, x ∈ l := fun x hx => hπ.mem_iff.mp (List.mem_cons_of_mem _ hx)
          have hd := M.pos b hbl c hcl (fun z => e z.symm)
          have h1 := cumF_out M hw hbl ρ ((0 : Int) + (dN L b c : Int)) c hcl hs n2 hbρ (by omega)
          have eo : outL (c :: ρ) b = c :: outL ρ b := by
            unfold outL
            rw [List.filter_cons, if_pos (by simpa using e)]
          have h2 : cumF (dN L) wt 0 b (outL (c :: ρ) b) < cumF (dN L) wt 0 b (c :: ρ) := by
            rw [eo]
            show (0 + (dN L b c : Int)) * wt c + cumF (dN L) wt (0 + (dN L b c : Int)) c (outL ρ b) < (0 + (dN L b c : Int)) * wt c + cumF (dN L) wt (0 + (dN L b c : Int)) c ρ
            omega
          rw [cumF_cost, cumF_cost] at h2
          have hperm : (outL (c :: ρ) b).Perm (outL l b) := hπ.filter _
          have h3 := h0.least _ hperm
          have h4 : ¬ costF (dN L) (sumW wt) b (outL (c :: ρ) b) < p0.1 := fun z => h3 (.inl z)
          have h5 : costF (dN L) (sumW wt) b (c :: ρ) ≤ p0.1 := by
            rcases hlt with h | ⟨h, _⟩
            · exact Int.le_of_lt h
            · exact Int.le_of_eq h
          omega
  · rw [if_neg hbl]
    have eo : outL l b = l := List.filter_eq_self.mpr fun x hx => by
      have : x ≠ b := fun z => hbl (z ▸ hx)
      simpa using this
    rw [eo] at h0
    exact h0
theorem Lst.uniq {d : IC → IC → Nat} {g : List IC → Int} {a : IC} {l l' : List IC} {p p' : PO} (h : Lst d g a l p) (h' : Lst d g a l' p') (e : l.Perm l') : p = p' := by
  have h1 : ¬ ltPO p' p := fun z => h.least p'.2 (h'.perm.trans e.symm) (by rw [← h'.cost]; exact z)
  have h2 : ¬ ltPO p p' := fun z => h'.least p.2 (h.perm.trans e) (by rw [← h.cost]; exact z)
  rcases ltPO_tri (p := p) (q := p') (by rw [h.perm.length_eq, h'.perm.length_eq, e.length_eq]) with z | z | z
  · exact absurd z h2
  · exact z
  · exact absurd z h1
end Om

namespace Om
open PySem PySem.Spec PyProof.Rows L2 LamX PySem.W NdefX
/-! ### dicts made of pairs -/
theorem putAll_cons (kvs : List (List L2.Key × V)) (x : Addr × Addr × List L2.Key × V) (L : DPs) : putAll kvs (x :: L) = putAll (putK kvs x.2.2.1 x.2.2.2) L := rfl
theorem putAll_app (kvs : List (List L2.Key × V)) (L M : DPs) : putAll kvs (L ++ M) = putAll (putAll kvs L) M := List.foldl_append
/-- keys all new -/
theorem putAll_new : ∀ (L : DPs) (ws0 ws : WL), L.map (fun x => (x.2.2.1, x.2.2.2)) = wkvOf ws → ((ws0 ++ ws).map (·.1)).Nodup → putAll (wkvOf ws0) L = wkvOf (ws0 ++ ws)
  | [], ws0, ws, h, _ => by
    cases ws with
    | nil => rw [List.append_nil]; rfl
    | cons x ws => cases h
  | y :: L, ws0, ws, h, nd => by
    cases ws with
    | nil => cases h
    | cons x ws =>
      unfold wkvOf at h
      rw [List.map_cons, List.map_cons] at h
      injection h with h1 h2
      injection h1 with h3 h4
      have hn : x.1 ∉ ws0.map (·.1) := fun hm => by
        rw [List.map_append, List.map_cons, List.nodup_append] at nd
        exact nd.2.2 _ hm _ List.mem_cons_self rfl
      rw [putAll_cons, h3, h4, wkv_put hn, putAll_new L (ws0 ++ [(x.1, x.2)]) ws h2 (by rw [List.append_assoc]; exact nd), List.append_assoc]
      rfl
/-- whatever comes last for a key has what all have -/
theorem putAll_has {φ : List L2.Key → V → Prop} : ∀ (L : DPs) (kvs : List (List L2.Key × V)), (∀ x ∈ L, φ x.2.2.1 x.2.2.2) → ∀ k, ((∃ v, valV kvs k = some v ∧ φ k v) ∨ ∃ x ∈ L, x.2.2.1 = k) → ∃ v, valV (putAll kvs L) k = some v ∧ φ k v
  | [], kvs, _, k, h => by
    rcases h with h | ⟨x, hx, _⟩
    · exact h
    · cases hx
  | y :: L, kvs, hL, k, h => by
    rw [putAll_cons]
    refine putAll_has L _ (fun x hx => hL x (List.mem_cons_of_mem _ hx)) k ?_
    by_cases e : k = y.2.2.1
    · exact .inl ⟨y.2.2.2, by rw [valV_put, if_pos e], by rw [e]; exact hL y List.mem_cons_self⟩
    · rcases h with ⟨v, h1, h2⟩ | ⟨x, hx, e2⟩
      · exact .inl ⟨v, by rw [valV_put, if_neg e]; exact h1, h2⟩
      · rcases List.mem_cons.mp hx with rfl | hx
        · exact absurd e2.symm e
        · exact .inr ⟨x, hx, e2⟩
/-! ### min of pairs (number, order) -/
theorem minPO_read {K : PySem.W.Frag} {H : Hp} {fo : Addr} {fs : FOL} {n : Nat} {vs : List V} {Q : VK} (hvs : vs = [.ref fo]) (hne : fs ≠ []) (fk : FO H fo fs) (hlen : ∀ x ∈ fs, x.2.1.2.length = n)
    (k : ∀ z ∈ fs, (∀ y ∈ fs, ¬ ltPO y.2.1 z.2.1) → Q (.ref z.1) H) : rMinD K vs H Q := by
  cases hfs : fs with
  | nil => exact absurd hfs hne
  | cons f0 fr =>
    obtain ⟨m, hm, em, hml⟩ := minD_least pD ltPO (fun p => p.2.length = n) (fun p q hp hq => lt_pD (hp.trans hq.symm)) ltPO_irrefl (fun p q h1 h2 => ltPO_irrefl p (ltPO_trans h1 h2))
      (fun p q r hp hq hr h1 h2 => le_le (hp.trans hq.symm) (hq.trans hr.symm) h1 h2) (fr.map fun x => x.2.1) f0.2.1 (hlen f0 (by rw [hfs]; exact List.mem_cons_self)) (fun y hy => by
        obtain ⟨x, hx, rfl⟩ := List.mem_map.mp hy
        exact hlen x (by rw [hfs]; exact List.mem_cons_of_mem _ hx))
    have edr : (fr.map fun x => pD x.2.1) = (fr.map fun x => x.2.1).map pD := by rw [List.map_map]; rfl
    have hdp : DpAll K H (fs.map fun x => V.ref x.1) (pD f0.2.1 :: fr.map fun x => pD x.2.1) := by
      have h5 := fo_dp (K := K) (H := H) (fs := fs) fun x hx => by
        obtain ⟨g1, g2, g3, g4, _⟩ := fk.each x hx
        exact ⟨g1, g2, g3, g4⟩
      rw [hfs] at h5 ⊢
      exact h5
    refine ⟨fo, _, pD f0.2.1, fr.map fun x => pD x.2.1, hvs, .inl (.inl fk.at_), hdp, ⟨fun x hx y hy => ?_, fun x hx => ?_⟩, ?_, fun i x hx hd => ?_⟩
    · have mem : ∀ z ∈ pD f0.2.1 :: fr.map (fun x => pD x.2.1), ∃ p, z = pD p := fun z hz => by
        rcases List.mem_cons.mp hz with rfl | hz
        · exact ⟨_, rfl⟩
        · obtain ⟨w', _, rfl⟩ := List.mem_map.mp hz
          exact ⟨_, rfl⟩
      obtain ⟨p, rfl⟩ := mem x hx
      obtain ⟨q, rfl⟩ := mem y hy
      exact alike_pD p q
    · rcases List.mem_cons.mp hx with rfl | hx
      · exact fun e => by cases e
      · obtain ⟨w', _, rfl⟩ := List.mem_map.mp hx
        exact fun e => by cases e
    · have dep : ∀ l : FOL, PyData.depthAll (l.map fun x => pD x.2.1) ≤ 3 := fun l => by
        induction l with
        | nil => simp [PyData.depthAll]
        | cons x l ih =>
          rw [List.map_cons]
          show max (pD x.2.1).depth (PyData.depthAll (l.map fun x => pD x.2.1)) ≤ 3
          have := pD_depth x.2.1
          omega
      have h5 := dep (f0 :: fr)
      rw [List.map_cons] at h5
      omega
    · obtain ⟨z, hz, rfl, mz⟩ : ∃ z, fs[i]? = some z ∧ x = V.ref z.1 ∧ z ∈ fs := by
        rw [List.getElem?_map] at hx
        cases e : fs[i]? with
        | none => rw [e] at hx; cases hx
        | some z => rw [e] at hx; exact ⟨z, rfl, (Option.some.inj hx).symm, List.mem_of_getElem? e⟩
      have hd2 : (fs.map fun x => pD x.2.1)[i]? = some (minD (pD f0.2.1) (fr.map fun x => pD x.2.1)) := by
        rw [hfs]
        exact hd
      rw [List.getElem?_map, hz, edr, em] at hd2
      have ezm : z.2.1 = m := pD_inj (Option.some.inj hd2)
      refine k z mz fun y hy => ?_
      rw [ezm]
      exact hml y.2.1 (by rw [hfs] at hy; exact List.mem_map_of_mem (f := fun x : Addr × PO × Addr × TI => x.2.1) hy)
theorem eqv_intsA : ∀ (l m : List Int), PyData.eqvAll (l.map PyData.int) (m.map PyData.int) = decide (l = m)
  | [], [] => by simp [PyData.eqvAll]
  | [], _ :: _ => by simp [PyData.eqvAll]
  | _ :: _, [] => by simp [PyData.eqvAll]
  | c :: l, d :: m => by
    have e : PyData.eqv (.int c) (.int d) = decide (c = d) := by
      rw [PyData.eqv, Bool.eq_iff_iff, beq_iff_eq, decide_eq_true_eq]
    rw [List.map_cons, List.map_cons, PyData.eqvAll, e, eqv_intsA l m, Bool.eq_iff_iff, Bool.and_eq_true, decide_eq_true_eq, decide_eq_true_eq, decide_eq_true_eq, List.cons.injEq]
theorem eqv_intsL (l m : List Int) : PyData.eqv (.list (l.map PyData.int)) (.list (m.map PyData.int)) = decide (l = m) := by
  rw [PyData.eqv, eqv_intsA]
/-! ### what is due -/
def DueW (H : Hp) (L : List IC) (b : IC) (l : List IC) (wt : IC → Int) (dv : V) : Prop :=
  ((∃ c ∈ l, rchB L b c = false) ∧ dv = .non) ∨ ((∀ c ∈ l, rchB L b c = true) ∧ ∃ (da la : Addr) (p : PO) (tp : TI), dv = .ref da ∧ H da = some (.tup [.int p.1, .ref la]) ∧ H la = some (.lst (vzI tp)) ∧ CI2 H tp ∧ czI tp = p.2 ∧ Lst (dN L) (sumW wt) b l p)
theorem DueW.ext {H H' : Hp} {L : List IC} {b : IC} {l : List IC} {wt : IC → Int} {dv : V} (h : DueW H L b l wt dv) (k : ExtN H H') : DueW H' L b l wt dv := by
  rcases h with h | ⟨h, da, la, p, tp, e, h1, h2, h3, h4⟩
  · exact .inl h
  · exact .inr ⟨h, da, la, p, tp, e, k _ _ h1 (fun ps e => by cases e), k _ _ h2 (fun ps e => by cases e), h3.ext k, h4⟩
theorem po_dp {K : PySem.W.Frag} {H : Hp} {da la : Addr} {p : PO} {tp : TI} (h1 : H da = some (.tup [.int p.1, .ref la])) (h2 : H la = some (.lst (vzI tp))) (h3 : CI2 H tp) (h4 : czI tp = p.2) : Dp K H (.ref da) (pD p) := by
  refine .tup (.inl (.inl h1)) (.cons (.int _) (.cons ?_ .nil))
  rw [← h4]
  exact ltl_dp h2 h3
theorem po_ok {p : PO} (h : p.2.length ≤ 100) : okD 4 (pD p) = true := by
  have h3 := okD_ics (l := p.2) (by omega) 0
  show (decide (2 ≤ 10000) && ([PyData.int p.1, .list (p.2.map cdI)].all (okD 3))) = true
  simp only [List.all_cons, List.all_nil, h3]
  rfl
end Om

/-! a lambda handed to a def, its parameters all with a written default; what it raises is wished for at the slots of the def that calls it -/
namespace Om
open PySem PySem.Spec PyProof.Rows L2 LamX
section
variable {M : Model} {A : Around} {E : Value → Shared → Prop} {s : Shared} {qual : Str} {params : Arguments} {body : Expr} {scope : Scope} {env : Env} {c P : Addr} {ps : Array Value} {pos : Pos} {fl : Nat} {mg : Str → Option Value}
  {clos : List (Str × Addr)} {Q : Value → Shared → Prop} {dV : Value}
end
section
variable {X : Cx} {pins : List (Addr × Obj)} {σ : L2.St} {H : Hp} {s : Shared}
/-- a lambda with one parameter whose default is a written int is made -/
theorem lam_mk1 {T : List (Addr × Str)} {c P : Addr} {params : Arguments} {body : Expr} {scope : Scope} {pos p0 : Pos} {i0 : Int} {j0 : Nat} {E : Value → Shared → Prop} {Q : Value → Shared → Prop} (I : Inv X pins σ H s) (TB : TabB X.base X.mg c P) (hcode : X.env.code = .ref c)
    (hm : (P, X.env.qual ++ "<lambda>") ∈ T) (hu : ∀ p ∈ T, p.1 = P → p.2 = X.env.qual ++ "<lambda>") (hT : Tabs T H) (hdef : defaultsOf params X.env = ([eval (.Constant (.int i0) j0 p0) X.env], [])) (hfree : ∀ y ∈ scope.names, y.2 = .free → ∃ c, X.env.cells.lookup y.1 = some c)
    (k : ∀ (f c' D : Addr) (t0 : Tok) (pm ctv : Value) (H1 : Hp) (s' : Shared), Inv X pins σ H1 s' → ExtN H H1 → Tabs T H1 → s'.heap.get? f = some (lamOb (X.env.qual ++ "<lambda>") params body scope (cloFrom X.env.cells scope.names []) pm c' ctv (.ref D)) →
      s'.heap.get? D = some { cls := .type "tuple", data := .seq #[.int i0 t0] } → H1 f = none → H1 D = none → f ∉ frs X.stack → D ∉ frs X.stack → H1 c' = some (CodeO c' (X.env.qual ++ "<lambda>")) → Q (.ref f) s') (hxe : E = X.xe) :
    wpAny (model X.prog X.w) X.A (eval (.Lambda params body scope pos) X.env) Q E s := by
  subst hxe
  rw [arm_eval_Lambda, hdef]
  show wpAny _ _ (do let dv ← evalAll [eval (.Constant (.int i0) j0 p0) X.env]; let kdv ← holding dv (evalAllOpt []); makeFunction "<lambda>" (X.env.qual ++ "<lambda>") params (.expr body) scope X.env dv kdv [] pos pos.line) Q X.xe s
  refine wpAny_bind (wpAny_bind (thn ((pe_int (X := X) (i := i0) (j := j0) (pos := p0)).run pins s σ H (fun v H' => v = .int i0 ∧ H' = H) I ⟨rfl, rfl⟩) fun u s1 ⟨v, H1, I1, r1, ev, eH⟩ => ?_))
  subst ev
  rw [eH] at I1
  obtain ⟨t0, rfl⟩ := r1
  refine wpAny_bind (wpAny_holding (wpAny_pure (wpAny_pure (wpAny_bind (wpAny_holding (wpAny_pure ?_))))))
  rw [makeFunction_eq]
  simp only [List.zip_nil_right, List.filterMap_nil, List.isEmpty_nil, List.isEmpty_cons, Bool.false_eq_true, if_false, if_true, pure_bind]
  refine wpAny_bind (wpAny_newTextTuple ?_)
  have eD : (s1.heap.push { cls := .type "tuple", data := .seq [Value.int i0 t0].toArray }).get? s1.heap.objs.size = some { cls := .type "tuple", data := .seq #[.int i0 t0] } := Heap.get?_push_size _ rfl
  have I2 : Inv X pins σ H { s1 with heap := s1.heap.push { cls := .type "tuple", data := .seq [Value.int i0 t0].toArray } } := I1.kept (t' := s1.toks) fun b o e => Heap.get?_push_of_some _ e
  have nD : H s1.heap.objs.size = none := I1.hok.fresh (Nat.le_refl _)
  have frN : ∀ f, s1.heap.objs.size ≤ f → f ∉ frs X.stack := fun f hf z => by
    rcases List.mem_cons.mp (I1.stkSub _ z) with e | e
    · have q1 := I1.lt
      rw [← e] at q1
      exact Nat.lt_irrefl _ (Nat.lt_of_lt_of_le q1 hf)
    · exact I1.nofs hf e
  have frD := frN s1.heap.objs.size (Nat.le_refl _)
  have szD : s1.heap.objs.size ≤ (s1.heap.push { cls := .type "tuple", data := .seq [Value.int i0 t0].toArray }).objs.size := by rw [Heap.size_push]; omega
  generalize s1.heap.objs.size = D at eD nD frN frD szD
  generalize hs2 : ({ s1 with heap := s1.heap.push { cls := .type "tuple", data := .seq [Value.int i0 t0].toArray } } : Shared) = s2 at I2
  have eh : s2.heap = s1.heap.push { cls := .type "tuple", data := .seq [Value.int i0 t0].toArray } := by rw [← hs2]
  rw [← eh] at eD szD
  obtain ⟨ps, tP, tt, ta⟩ := hT _ hm
  have bP : s2.heap.BuiltinsAt X.mg P := TB.bm.keeps I2.bk
  have oP : s2.heap.get? P = some { cls := .none, data := .fields ps } := I2.hok P _ tP
  cases hc : codeAmong pos ps.toList with
  | none =>
    refine tail_new (mg := X.mg) (closure_ok hfree) I2.ok.glob (I2.mod.glob.keeps I2.bk) hcode (TB.code.keeps I2.bk) oP tt hc TB.gP bP fun c' ctv h' tk x1 x2 x3 x4 x5 => ?_
    obtain ⟨c2, oc, vs, t, y1, y2, y3, y4⟩ := x4
    cases y1
    have nC : H c' = none := I2.hok.fresh x2
    have sz2 : s2.heap.objs.size ≤ h'.objs.size := Nat.le_trans x2 (Nat.le_of_lt x3)
    have J := inv_table (t' := tk) (more := #[rawInt pos.line, rawInt pos.col, .ref c']) (h' := h'.push (lamOb (X.env.qual ++ "<lambda>") params body scope (cloFrom X.env.cells scope.names []) ((X.mg "__name__").getD .none) c' ctv (.ref D))) I2 tP
      (fun b o hb e => Heap.get?_push_of_some _ (x1 b o hb e)) (Heap.get?_push_of_some _ x5) x2 ⟨oc, vs, t, Heap.get?_push_of_some _ y2, y3, y4⟩
    have nPC : P ≠ c' := ne_of_none tP nC
    have eN : ExtN H (upd (upd H P (.tbl (ps ++ #[rawInt pos.line, rawInt pos.col, .ref c']))) c' (CodeO c' (X.env.qual ++ "<lambda>"))) := fun b o e n => by
      have n1 : b ≠ P := fun z => by
        rw [z, tP] at e
        exact n ps (Option.some.inj e).symm
      rw [upd_ne (ne_of_none e nC), upd_ne n1]
      exact e
    have eL : (ps ++ #[rawInt pos.line, rawInt pos.col, .ref c']).toList = ps.toList ++ [rawInt pos.line, rawInt pos.col, .ref c'] := by simp
    have eD2 : (h'.push (lamOb (X.env.qual ++ "<lambda>") params body scope (cloFrom X.env.cells scope.names []) ((X.mg "__name__").getD .none) c' ctv (.ref D))).get? D = some { cls := .type "tuple", data := .seq #[.int i0 t0] } := by
      refine Heap.get?_push_of_some _ (x1 D _ (fun z => ?_) eD)
      rw [z, tP] at nD
      cases nD
    have lD : D < s2.heap.objs.size := Heap.lt_size eD
    have nDc : D ≠ c' := Nat.ne_of_lt (Nat.lt_of_lt_of_le lD x2)
    have nDP : D ≠ P := fun z => by rw [z, tP] at nD; cases nD
    refine k h'.objs.size c' D t0 ((X.mg "__name__").getD .none) ctv _ _ J eN (fun p hp => ?_) (Heap.get?_push_size _ rfl) eD2 ?_ ?_ (frN _ (Nat.le_trans szD sz2)) frD upd_same
    · by_cases hb : p.1 = P
      · rw [hu p hp hb, hb]
        refine ⟨_, by rw [upd_ne nPC, upd_same], by rw [eL]; exact PySem.TriplesOk_snoc _ _ _ _ tt, fun p' cv hcv => ?_⟩
        rw [eL] at hcv
        rcases among_app _ tt hcv with z | z
        · obtain ⟨c0, w1, w2⟩ := ta p' cv z
          exact ⟨c0, w1, eN _ _ w2 codeO_ne⟩
        · exact ⟨c', z, upd_same⟩
      · obtain ⟨ps2, a1, a2, a3⟩ := hT p hp
        refine ⟨ps2, by rw [upd_ne (ne_of_none a1 nC), upd_ne hb]; exact a1, a2, fun p' cv hcv => ?_⟩
        obtain ⟨c0, w1, w2⟩ := a3 p' cv hcv
        exact ⟨c0, w1, eN _ _ w2 codeO_ne⟩
    · rw [upd_ne (Nat.ne_of_gt x3), upd_ne (Nat.ne_of_gt (Nat.lt_of_lt_of_le (Heap.lt_size oP) sz2))]
      exact I2.hok.fresh sz2
    · rw [upd_ne nDc, upd_ne nDP]
      exact nD
  | some cv =>
    obtain ⟨c', y1, y2⟩ := ta pos cv hc
    subst y1
    refine tail_hit (mg := X.mg) (closure_ok hfree) I2.ok.glob (I2.mod.glob.keeps I2.bk) hcode (TB.code.keeps I2.bk) oP tt hc bP fun ctv h' tk x1 x2 => ?_
    have J : Inv X pins σ H { s2 with heap := h'.push (lamOb (X.env.qual ++ "<lambda>") params body scope (cloFrom X.env.cells scope.names []) ((X.mg "__name__").getD .none) c' ctv (.ref D)), toks := tk } := I2.kept fun b o e => Heap.get?_push_of_some _ (x1 b o e)
    exact k h'.objs.size c' D t0 ((X.mg "__name__").getD .none) ctv H _ J (ExtN.refl H) hT (Heap.get?_push_size _ rfl) (Heap.get?_push_of_some _ (x1 _ _ eD)) (I2.hok.fresh x2) nD (frN _ (Nat.le_trans szD x2)) frD y2
end
end Om

namespace Om
open PySem PySem.Spec PyProof.Rows L2 LamX
/-- the lambda's names: parameters (none of the maker's names), captured ones, globals -/
structure LamG (N : List Str) (sc scope : Scope) (xs : List Str) : Prop where
  kind : scope.kind = .function
  co : scope.isCoroutine = false
  gen : scope.isGenerator = false
  own : ∀ y ∈ scope.names, y.2 ≠ .cell ∧ (y.2 = .local → y.1 ∉ N)
  free : ∀ y ∈ scope.names, y.2 = .free → sc.names.lookup y.1 = some .cell ∨ sc.names.lookup y.1 = some .free
  par : ∀ x ∈ xs, scope.names.lookup x = some .local
def lamGB (N : List Str) (sc scope : Scope) (xs : List Str) : Bool :=
  decide (scope.kind = .function) && (!scope.isCoroutine && (!scope.isGenerator && ((scope.names.all fun y => !decide (y.2 = .cell) && (!decide (y.2 = .local) || !decide (y.1 ∈ N))) &&
    ((scope.names.all fun y => !decide (y.2 = .free) || (decide (sc.names.lookup y.1 = some .cell) || decide (sc.names.lookup y.1 = some .free))) && xs.all fun x => decide (scope.names.lookup x = some .local)))))
theorem lamG_by {N : List Str} {sc scope : Scope} {xs : List Str} (h : lamGB N sc scope xs = true) : LamG N sc scope xs := by
  unfold lamGB at h
  simp only [Bool.and_eq_true, Bool.or_eq_true, Bool.not_eq_true', decide_eq_true_eq, decide_eq_false_iff_not, List.all_eq_true] at h
  obtain ⟨h1, h2, h3, h4, h5, h6⟩ := h
  refine ⟨h1, h2, h3, fun y hy => ⟨(h4 y hy).1, fun e => ?_⟩, fun y hy e => ?_, h6⟩
  · rcases (h4 y hy).2 with z | z
    · exact absurd e z
    · exact z
  · rcases h5 y hy with z | z
    · exact absurd e z
    · exact z
theorem LamG.has {X : Cx} {N : List Str} {scope : Scope} {xs : List Str} (L : LamG N X.env.scope scope xs) (ok : X.Ok) : ∀ y ∈ scope.names, y.2 = .free → ∃ c, X.env.cells.lookup y.1 = some c := fun y hy e => (L.free y hy e).elim (fun k => ok.has _ (.inl k)) fun k => ok.has _ (.inr k)
section
variable {X : Cx} {pins : List (Addr × Obj)} {σ : L2.St} {H HZ : Hp} {s s1 : Shared}
theorem lam_startG {A : Around} {outer : List Env} {E : XK} {scope : Scope} {xs : List Str} {binds : List (Str × Value)} {f c' : Addr} {h1 : Heap} {tk : Nat} (I : Inv X pins σ H s) (L : LamG X.N X.env.scope scope xs) (e0 : Env0 X.prog X.w X.K X.mg X.base A outer s1 HZ)
    (hd : A.handled = none) (un : Un (frs X.stack) [] H HZ s.heap s1.heap) (hns : h1.Ns s1.heap.objs.size fun y => binds.reverse.lookup y) (kp : ∀ b o, s1.heap.get? b = some o → h1.get? b = some o) :
    Inv (lamCx X A outer s1 HZ E scope f c') [] σ HZ { s1 with heap := h1, toks := tk } := by
  have frees := L.has I.ok
  have cm : ∀ {y c}, (cloFrom X.env.cells scope.names []).lookup y = some c → X.env.cells.lookup y = some c := fun {y c} e => by
    rcases cloFrom_mem (PySem.mem_of_lookup e) with m | ⟨z1, z2⟩
    · cases m
    · obtain ⟨c1, z3⟩ := frees _ z1 rfl
      have z3 : X.env.cells.lookup y = some c1 := z3
      obtain rfl : c = c1 := by rw [z2, z3]; rfl
      exact z3
  have lk : ∀ {y}, scope.names.lookup y = some .free → ∃ c, (cloFrom X.env.cells scope.names []).lookup y = some c := fun {y} e =>
    mem_lookup (cloFrom_has (cells := X.env.cells) (acc := []) (show (y, NameKind.free) ∈ scope.names from PySem.mem_of_lookup e))
  have cellK : ∀ {c : Addr} {v : Option Value}, H c = none → s.heap.IsCell c v → h1.IsCell c v := fun {c v} n ⟨o, z1, z2⟩ => by
    obtain ⟨sl, q⟩ := un.any z1 n (by simp)
    exact ⟨_, kp _ _ q, z2⟩
  have nx : ∀ b : Addr, b ∉ (lamCx X A outer s1 HZ E scope f c').ex := fun b z => by cases z
  have visN : ∀ (i : Nat) (y : Str), X.N[i]? = some y → Vis scope y → scope.names.lookup y = some .free := fun i y e v => by
    rcases v with z | z | z
    · exact absurd (List.mem_of_getElem? e) ((L.own _ (PySem.mem_of_lookup z)).2 rfl)
    · exact absurd rfl (L.own _ (PySem.mem_of_lookup z)).1
    · exact z
  have okC : (lamCx X A outer s1 HZ E scope f c').Ok := {
    mod := e0.mod, kind := L.kind, glob := rfl, blt := rfl, above := Nat.le_refl _
    inj := fun y z c z1 z2 => I.ok.inj y z c (cm z1) (cm z2)
    has := fun y hy => by
      rcases (show scope.names.lookup y = some .cell ∨ scope.names.lookup y = some .free from hy) with z | z
      · exact absurd rfl (L.own _ (PySem.mem_of_lookup z)).1
      · exact lk z
    cab := fun y c z _ => by cases (show false = true from z)
    hd := fun _ => hd, frames := Around.frames_deeper e0.frames, stk := .inr ⟨rfl, rfl⟩, exf := fun b z => absurd z (nx b), bs := e0.bs, bsz := e0.bsz, noex := fun b _ _ => nx b, exfs := fun b z => absurd z (nx b), funs := e0.funs, frf := e0.frf }
  exact {
    ok := okC, os := rfl, bare := e0.bare, base := Un.kept kp
    loc := ⟨_, hns, fun i y v z1 z2 z3 => by
      have fr := visN i y z1 z3
      obtain ⟨m, mn, ml⟩ := I.loc
      obtain ⟨u, r, q⟩ := ml i y v z1 z2 ((L.free _ (PySem.mem_of_lookup fr) rfl).elim (fun k => .inr (.inl k)) fun k => .inr (.inr k))
      obtain ⟨c2, y2⟩ := lk fr
      refine ⟨u, r, .inr ⟨.inr fr, c2, y2, ?_⟩⟩
      rcases q with ⟨q1, _⟩ | ⟨_, c3, q2, q3⟩
      · have q1 : X.env.scope.names.lookup y = some .local := q1
        rcases L.free _ (PySem.mem_of_lookup fr) rfl with w | w
        · rw [show X.env.scope.names.lookup y = _ from w] at q1; cases q1
        · rw [show X.env.scope.names.lookup y = _ from w] at q1; cases q1
      · rw [cm y2] at q2
        cases q2
        exact cellK (I.freeC y _ (cm y2)) q3⟩
    cell := fun y c z => let ⟨v, q⟩ := I.cell y c (cm z); ⟨v, cellK (I.freeC y c (cm z)) q⟩
    free := e0.hok.fresh (Nat.le_refl _)
    freeC := fun y c z => let ⟨v, o, q, _⟩ := I.cell y c (cm z); un.free c o q (I.freeC y c (cm z)) (by simp)
    pin := fun q hq => by cases (show q ∈ ([] : List (Addr × Obj)) ++ [] from hq)
    hok := e0.hok.kept kp
    len := I.len }
/-- x(), in the def that got the lambda (in slot 0) -/
theorem pe_actG {CXg : CXT} {Eg : XK} {Ng : List Str} {qg : Str} {sg : Scope} {g f c' : Addr} {cdg pm ctv dV : Value} {params : Arguments} {body : Expr} {scope : Scope} {xs : List Str} {binds : List (Str × Value)} {hold : List (Addr × Obj)} {k : Nat} {a : Str} {pn : List (Addr × Obj)} {xe : Value → Shared → Prop} {W : WX} {tb : XK → TE} {p1 p2 : Pos}
    (I : Inv X pins σ H s) (L : LamG X.N X.env.scope scope xs) (hf : s.heap.get? f = some (lamOb (X.env.qual ++ "<lambda>") params body scope (cloFrom X.env.cells scope.names []) pm c' ctv dV)) (hfn : H f = none) (hfr : f ∉ frs X.stack)
    (hh : ∀ p ∈ hold, s.heap.get? p.1 = some p.2 ∧ H p.1 = none ∧ p.1 ∉ frs X.stack) (hbn : ∀ s' : Shared, (∀ p ∈ hold, s'.heap.get? p.1 = some p.2) → BindsTo s' (lamFd (X.env.qual ++ "<lambda>") params body scope (cloFrom X.env.cells scope.names []) pm c' ctv dV) ⟨[], []⟩ binds)
    (hbx : ∀ y ∈ binds, y.1 ∈ xs)
    (tk : Takes ((cxOf CXg X.prog X.w X.K X.mg X.base Ng qg sg g cdg X.A X.stack s H Eg).tr pn xe) W) (hr : Room (k + 1) (X.A.deeper (envOfC qg sg s.heap.objs.size g cdg)))
    (hbody : ∀ (A : Around) (outer : List Env) (s : Shared) (H : Hp) (E : XK), Room k (A.deeper (lamEnv X scope s.heap.objs.size f c')) → PE (lamCx X A outer s H E scope f c') body (tb E))
    (hN : Ng[0]? = some a) (hv : Vis sg a) (hd : (a == ("__debug__" : Str)) = false := by decide) (hcd : (a == ("__classdict__" : Str)) = false := by decide) :
    PE ((cxOf CXg X.prog X.w X.K X.mg X.base Ng qg sg g cdg X.A X.stack s H Eg).tr pn xe) (.Call (.Name a p1) [] [] p2)
      (fun σZ HZ Q => σZ[0]? = some (some (.ref f)) ∧ HZ c' = some (CodeO c' (X.env.qual ++ "<lambda>")) ∧ ∃ E : XK, (∀ cls d H', E cls d H' → W cls d σZ H') ∧ tb E σ HZ Q) := by
  constructor
  rintro pinsZ sZ σZ HZ Q IZ ⟨hs, hc, E, hW, ht⟩
  refine wpAny_Call_Name_kw (thn ((pe_var (pos := p1) (i := 0) hN hv hd hcd).run pinsZ sZ σZ HZ (fun v H1 => v = .ref f ∧ H1 = HZ) IZ ⟨.ref f, hs, rfl, rfl⟩) fun u s1 ⟨v, H1, I1, r1, ev, eH⟩ => ?_)
  subst ev
  rw [eH] at I1
  obtain rfl : u = Value.ref f := r1
  have of1 := I1.base.keep f _ hf hfn hfr (by intro z; cases z)
  have hold1 : ∀ p ∈ hold, s1.heap.get? p.1 = some p.2 := fun p hp => let ⟨z1, z2, z3⟩ := hh p hp; I1.base.keep p.1 _ z1 z2 z3 (by intro z; cases z)
  have un : Un (frs X.stack) [] H HZ s.heap s1.heap := I1.base
  obtain ⟨⟨oc, vs, t, y1, y2, y3⟩, _, _⟩ := I1.hok c' _ hc
  have called : codeAny (model X.prog X.w) (X.A.deeper (envOfC qg sg s.heap.objs.size g cdg)) (.call (.ref f) ⟨[], []⟩) (CR (L2.CX X.prog X.w) (envOfC qg sg s.heap.objs.size g cdg :: X.stack) X.prog X.w HZ s1 Q E) s1 := by
    refine PySem.W.kla_callFunE hr.depth of1 rfl L.co L.gen rfl ⟨c', oc, vs, t, rfl, y1, y2, y3⟩ (hbn s1 hold1 _ _ _ _ (wpAny_newFunctionEnv (fun y hy => (L.own y hy).1) (fun y hy => L.par _ (hbx y hy)) (fun h1 hns hsb => ⟨I1.nolimit.fresh _ hsb, ?_⟩) L.kind))
    have kp : ∀ b o, s1.heap.get? b = some o → h1.get? b = some o := fun b o e => hsb.extBut b o (Nat.ne_of_lt (Heap.lt_size e)) (Heap.get?_push_of_some _ e)
    have J : Inv (lamCx X (X.A.deeper (envOfC qg sg s.heap.objs.size g cdg)) (envOfC qg sg s.heap.objs.size g cdg :: X.stack) s1 HZ E scope f c') [] σ HZ { s1 with heap := h1, toks := s1.toks + binds.length } := lam_startG I L I1.env0 hr.hd un hns kp
    refine PySem.W.kla_codeExpr (wpAny_mono ((hbody _ _ s1 HZ E (hr.deeper _)).run [] _ _ HZ Q J ht) (fun v s' ⟨w', H', J', rv, q⟩ => ⟨w', H', J'.os, J'.bare, J'.base, J'.hok, rv, q⟩) fun e s' hq => hq)
  refine PySem.W.callWith_F0 ⟨_, _, _, _, of1⟩ (wpAny_call (codeAny_mono called fun r s' hq => ?_))
  match r, hq with
  | .error e, hq => exact tk _ _ (XE.of_call I1 hW hq)
  | .ok (.ret u), hq => exact I1.after hq
  | .ok .next, hq => exact False.elim hq
  | .ok .brk, hq => exact False.elim hq
  | .ok .cont, hq => exact False.elim hq
end
end Om

namespace Om
open PySem PySem.Spec PyProof.Rows L2 LamX
/-- the def at g calls what it got (in slot 0, its name a); TT: what it makes of the lambda's reading -/
def GivesG (X : Cx) (Ng : List Str) (x : Str) (sg : Scope) (g : Addr) (cdg : Value) (bg : List Stmt) (a : Str) (q : Str) (TT : (XK → Hp → VK → Prop) → Hp → VK → Prop) : Prop :=
  ∀ (f c' : Addr) (s : Shared) (H : Hp) (Q : VK) (tl : XK → Hp → VK → Prop),
    (∀ (W : WX) (pn : List (Addr × Obj)) (xe : Value → Shared → Prop) (p1 p2 : Pos), Takes ((cxOf L2.CX0 X.prog X.w X.K X.mg X.base Ng x sg g cdg X.A X.stack s H L2.E0).tr pn xe) W →
      PE ((cxOf L2.CX0 X.prog X.w X.K X.mg X.base Ng x sg g cdg X.A X.stack s H L2.E0).tr pn xe) (.Call (.Name a p1) [] [] p2) (fun σZ HZ Q => σZ[0]? = some (some (.ref f)) ∧ HZ c' = some (CodeO c' q) ∧ ∃ E : XK, (∀ cls d H', E cls d H' → W cls d σZ H') ∧ tl E HZ Q)) →
    H c' = some (CodeO c' q) → Room 2 (X.A.deeper (envOfC x sg s.heap.objs.size g cdg)) → TT tl H Q →
    ∃ t, PSs (cxOf L2.CX0 X.prog X.w X.K X.mg X.base Ng x sg g cdg X.A X.stack s H L2.E0).nox bg t ∧ t { nx := fun _ H' => Q .non H', rt := Q } (L2.start Ng [.ref f]) H
section
variable {X : Cx}
/-- behind the making: the def is called with the lambda -/
theorem lam_given {T : List (Addr × Str)} {TT : (XK → Hp → VK → Prop) → Hp → VK → Prop} {x a : Str} {g f c' : Addr} {k : Nat} {pg : Arguments} {bg : List Stmt} {sg : Scope} {dG kG doc pmg cdg ctg oc pm ctv dV : Value} {an od : Option Addr} {osl : Array (Option Value)} {Ng : List Str}
    {params : Arguments} {body : Expr} {scope : Scope} {t : XK → TE} {xs : List Str} {binds : List (Str × Value)} {hold : List (Addr × Obj)} {pins : List (Addr × Obj)} {σ : L2.St} {H1 : Hp} {s' : Shared} {Q : VK} {E' : Value → Shared → Prop}
    (lk : X.K.lookup g = some ⟨oc, od, .func (PySem.W.fnOf x x pg bg sg dG kG doc pmg an cdg ctg), osl⟩) (hcg : PySem.W.codeIn X.K cdg x = true) (hb : L2.Binds X.K (PySem.W.fnOf x x pg bg sg dG kG doc pmg an cdg ctg) [a] []) (Sg : FnScope Ng [a] sg) (hNg : Ng[0]? = some a) (hva : Vis sg a)
    (hG : GivesG X Ng x sg g cdg bg a (X.env.qual ++ "<lambda>") TT) (hr : Room (k + 2) X.A) (hr3 : Room 3 X.A) (L : LamG X.N X.env.scope scope xs) (I1 : Inv X pins σ H1 s')
    (hf : s'.heap.get? f = some (lamOb (X.env.qual ++ "<lambda>") params body scope (cloFrom X.env.cells scope.names []) pm c' ctv dV)) (hfn : H1 f = none) (hfr : f ∉ frs X.stack)
    (hh : ∀ p ∈ hold, s'.heap.get? p.1 = some p.2 ∧ H1 p.1 = none ∧ p.1 ∉ frs X.stack) (hbn : ∀ s' : Shared, (∀ p ∈ hold, s'.heap.get? p.1 = some p.2) → BindsTo s' (lamFd (X.env.qual ++ "<lambda>") params body scope (cloFrom X.env.cells scope.names []) pm c' ctv dV) ⟨[], []⟩ binds)
    (hbx : ∀ y ∈ binds, y.1 ∈ xs) (hco : H1 c' = some (CodeO c' (X.env.qual ++ "<lambda>"))) (hT : TT (fun E H' Q' => t E σ H' Q') H1 Q)
    (hbody : ∀ (A : Around) (outer : List Env) (s : Shared) (H : Hp) (E : XK), Room k (A.deeper (lamEnv X scope s.heap.objs.size f c')) → PE (lamCx X A outer s H E scope f c') body (t E))
    (hd : (a == ("__debug__" : Str)) = false := by decide) (hcd : (a == ("__classdict__" : Str)) = false := by decide) :
    wpAny (model X.prog X.w) X.A (call (.ref g) [.ref f]) (EP X pins σ Q) E' s' := by
  have called : codeAny (model X.prog X.w) X.A (.call (.ref g) ⟨[.ref f], []⟩) (CR L2.CX0 X.stack X.prog X.w H1 s' Q L2.E0) s' := by
    refine run_ofS (k := k + 1) (N := Ng) (ps := [a]) (us := [.ref f]) (vs := [.ref f]) lk hcg Sg hr I1.env0 (hb s' [.ref f] I1.kIn rfl) (.cons rfl .nil) rfl fun hr' => ?_
    obtain ⟨t', z1, z2⟩ := hG f c' s' H1 Q (fun E H' Q' => t E σ H' Q') (fun W pn xe p1 p2 tk => pe_actG I1 L hf hfn hfr hh hbn hbx tk hr' hbody hNg hva hd hcd) hco (hr3.deeper _) hT
    exact ⟨t', z1.nox, z2⟩
  refine wpAny_call (codeAny_mono called fun r s2 hq => ?_)
  match r, hq with
  | .error e, hq => exact (show False from hq).elim
  | .ok (.ret u), hq => exact I1.after hq
  | .ok .next, hq => exact False.elim hq
  | .ok .brk, hq => exact False.elim hq
  | .ok .cont, hq => exact False.elim hq
/-- x(lambda: body) -/
theorem pe_lamG0 {T : List (Addr × Str)} {TT : (XK → Hp → VK → Prop) → Hp → VK → Prop} {x a : Str} {g c P : Addr} {k : Nat} {pg : Arguments} {bg : List Stmt} {sg : Scope} {dG kG doc pmg cdg ctg oc : Value} {an od : Option Addr} {osl : Array (Option Value)} {Ng : List Str}
    {params : Arguments} {body : Expr} {scope : Scope} {t : XK → TE} {p lpos pos : Pos} (hg : Gl X x) (hm : X.mg x = some (.ref g)) (hk : PySem.W.keepIn X.K (.ref g) = true)
    (lk : X.K.lookup g = some ⟨oc, od, .func (PySem.W.fnOf x x pg bg sg dG kG doc pmg an cdg ctg), osl⟩) (hcg : PySem.W.codeIn X.K cdg x = true) (hb : L2.Binds X.K (PySem.W.fnOf x x pg bg sg dG kG doc pmg an cdg ctg) [a] []) (Sg : FnScope Ng [a] sg) (hNg : Ng[0]? = some a) (hva : Vis sg a)
    (hG : GivesG X Ng x sg g cdg bg a (X.env.qual ++ "<lambda>") TT)
    (TB : TabB X.base X.mg c P) (hcode : X.env.code = .ref c) (hmT : (P, X.env.qual ++ "<lambda>") ∈ T) (hu : ∀ p ∈ T, p.1 = P → p.2 = X.env.qual ++ "<lambda>") (hr : Room (k + 2) X.A) (hr3 : Room 3 X.A) (L : LamG X.N X.env.scope scope []) (hdef : defaultsOf params X.env = ([], []))
    (hbind : ∀ (q : Str) (cl : List (Str × Addr)) (pm : Value) (c' : Addr) (ctv : Value), bindArgs (lamFd q params body scope cl pm c' ctv .none) ⟨[], []⟩ = pure [])
    (hbody : ∀ (A : Around) (outer : List Env) (s : Shared) (H : Hp) (E : XK) (f c' : Addr), Room k (A.deeper (lamEnv X scope s.heap.objs.size f c')) → PE (lamCx X A outer s H E scope f c') body (t E))
    (hdb : (x == ("__debug__" : Str)) = false := by decide) (hd : (a == ("__debug__" : Str)) = false := by decide) (hcd : (a == ("__classdict__" : Str)) = false := by decide) :
    PE X (.Call (.Name x p) [.Lambda params body scope lpos] [] pos) (tLam T TT t) := by
  constructor
  rintro pins s σ H Q I ⟨hT, h⟩
  refine wpAny_Call_Name_kw (ld_glob I hg hm (PySem.W.callWith_K (h₀ := X.base) I.ok.mod.kin hk ?_ (by rfl) (by rfl)) hdb)
  show wpAny _ _ (spliced ((false, eval (.Lambda params body scope lpos) X.env) :: backTo pos (starEach [] X.env))) _ _ s
  refine Calls.spliced_cons (lam_make2 I TB hcode hmT hu hT hdef (L.has I.ok) fun f c' pm' ctv H1 s' I1 eN T1 hf hfn hfr hco => Calls.spliced_nil ⟨I1.kIn, ?_⟩)
  exact lam_given (T := T) (dV := .none) (xs := []) (binds := []) (hold := []) lk hcg hb Sg hNg hva hG hr hr3 L I1 hf hfn hfr (fun p hp => by cases hp) (fun s' _ => BindsTo.of_eq (hbind _ _ _ _ _)) (fun y hy => by cases hy) hco (h H1 eN T1) (fun A outer s H E hr2 => hbody A outer s H E f c' hr2) hd hcd
/-- x(lambda y=i: body) -/
theorem pe_lamG1 {T : List (Addr × Str)} {TT : (XK → Hp → VK → Prop) → Hp → VK → Prop} {x a y : Str} {g c P : Addr} {k : Nat} {pg : Arguments} {bg : List Stmt} {sg : Scope} {dG kG doc pmg cdg ctg oc : Value} {an od : Option Addr} {osl : Array (Option Value)} {Ng : List Str}
    {params : Arguments} {body : Expr} {scope : Scope} {t : XK → TE} {p lpos pos p0 : Pos} {i0 : Int} {j0 : Nat} (hg : Gl X x) (hm : X.mg x = some (.ref g)) (hk : PySem.W.keepIn X.K (.ref g) = true)
    (lk : X.K.lookup g = some ⟨oc, od, .func (PySem.W.fnOf x x pg bg sg dG kG doc pmg an cdg ctg), osl⟩) (hcg : PySem.W.codeIn X.K cdg x = true) (hb : L2.Binds X.K (PySem.W.fnOf x x pg bg sg dG kG doc pmg an cdg ctg) [a] []) (Sg : FnScope Ng [a] sg) (hNg : Ng[0]? = some a) (hva : Vis sg a)
    (hG : GivesG X Ng x sg g cdg bg a (X.env.qual ++ "<lambda>") TT)
    (TB : TabB X.base X.mg c P) (hcode : X.env.code = .ref c) (hmT : (P, X.env.qual ++ "<lambda>") ∈ T) (hu : ∀ p ∈ T, p.1 = P → p.2 = X.env.qual ++ "<lambda>") (hr : Room (k + 2) X.A) (hr3 : Room 3 X.A) (L : LamG X.N X.env.scope scope [y]) (hdef : defaultsOf params X.env = ([eval (.Constant (.int i0) j0 p0) X.env], []))
    (hbind : ∀ (q : Str) (cl : List (Str × Addr)) (pm : Value) (c' : Addr) (ctv : Value) (D : Addr) (v : Value), ∃ kk : Option (Array Value) → Sem (List (Str × Value)), bindArgs (lamFd q params body scope cl pm c' ctv (.ref D)) ⟨[], []⟩ = seqItems? (.ref D) >>= kk ∧ kk (some #[v]) = pure [(y, v)])
    (hbody : ∀ (A : Around) (outer : List Env) (s : Shared) (H : Hp) (E : XK) (f c' : Addr), Room k (A.deeper (lamEnv X scope s.heap.objs.size f c')) → PE (lamCx X A outer s H E scope f c') body (t E))
    (hdb : (x == ("__debug__" : Str)) = false := by decide) (hd : (a == ("__debug__" : Str)) = false := by decide) (hcd : (a == ("__classdict__" : Str)) = false := by decide) :
    PE X (.Call (.Name x p) [.Lambda params body scope lpos] [] pos) (tLam T TT t) := by
  constructor
  rintro pins s σ H Q I ⟨hT, h⟩
  refine wpAny_Call_Name_kw (ld_glob I hg hm (PySem.W.callWith_K (h₀ := X.base) I.ok.mod.kin hk ?_ (by rfl) (by rfl)) hdb)
  show wpAny _ _ (spliced ((false, eval (.Lambda params body scope lpos) X.env) :: backTo pos (starEach [] X.env))) _ _ s
  refine Calls.spliced_cons (lam_mk1 I TB hcode hmT hu hT hdef (L.has I.ok) (fun f c' D t0 pm' ctv H1 s' I1 eN T1 hf hD hfn hDn hfr hDr hco => Calls.spliced_nil ⟨I1.kIn, ?_⟩) rfl)
  refine lam_given (T := T) (dV := .ref D) (xs := [y]) (binds := [(y, .int i0 t0)]) (hold := [(D, { cls := .type "tuple", data := .seq #[.int i0 t0] })]) lk hcg hb Sg hNg hva hG hr hr3 L I1 hf hfn hfr (fun p hp => ?_) (fun s2 hs2 => ?_) (fun z hz => ?_) hco (h H1 eN T1) (fun A outer s H E hr2 => hbody A outer s H E f c' hr2) hd hcd
  · rw [List.mem_singleton.mp hp]
    exact ⟨hD, hDn, hDr⟩
  · obtain ⟨kk, z1, z2⟩ := hbind (X.env.qual ++ "<lambda>") (cloFrom X.env.cells scope.names []) pm' c' ctv D (.int i0 t0)
    intro M A' E2 Q2 hq
    rw [z1]
    refine wpAny_bind (wpAny_seqItems (hs2 _ (List.mem_singleton.mpr rfl)) rfl ?_)
    rw [z2]
    exact wpAny_pure hq
  · rw [List.mem_singleton.mp hz]
    exact List.mem_singleton.mpr rfl
end
end Om

namespace Om
open PySem PySem.Spec PyProof.Rows L2 LamX
/-! ### xs.count(y), the items flat -/
def rCntF (K : PySem.W.Frag) : V → List V → Hp → VK → Prop := fun x vs H Q => ∃ (p : Addr) (ys : List V) (y : V), x = .ref p ∧ vs = [y] ∧ SqL K H p ys ∧ flatV y = true ∧ ys.all flatV = true ∧ Q (.int ((ys.countP fun z => eqV z y) : Nat)) H
theorem cnt_flat {y : V} {uy : Value} : ∀ {ys : List V} {us : List Value}, Vals ys us → ys.all flatV = true → us.countP (eqU y) = ys.countP fun z => eqV z y
  | _, _, .nil, _ => rfl
  | v :: vs, u :: us, .cons r rr, hf => by
    simp only [List.all_cons, Bool.and_eq_true] at hf
    rw [List.countP_cons, List.countP_cons, cnt_flat (uy := uy) rr hf.2, eqU_of r hf.1]
theorem mt_countF {X : Cx} : MtR X "list.count" (rCntF X.K) := by
  rintro pins s σ H x xs v us Q I rx rxs ⟨p, ys, y, rfl, rfl, hs, fy, fys, q⟩
  cases rx
  cases rxs with
  | @cons _ uy _ ut ry rt =>
    cases rt
    obtain ⟨its, rv, ⟨⟨cls, dd, data, sl⟩, n, ho, hc, hdn, hd⟩, hlen⟩ := I.list hs
    simp only at hc hd
    subst hc hd
    refine call_meets PySem.F.slot_list_count ⟨_, ho, rfl⟩ PySem.F.entry_list_count (PySem.F.args_list_count_2 _ _) (SeqAt.list_countAt p its.toArray n dd sl uy (eqU y)) ⟨ho, fun u' hu' => mem_eqAt ry fy rv fys u' (by simpa using hu'), ?_⟩
    have ec : its.toArray.toList.countP (eqU y) = ys.countP fun z => eqV z y := cnt_flat (uy := uy) rv fys
    refine ⟨.int ((ys.countP fun z => eqV z y) : Nat), H, I.tok _, ⟨s.toks, ?_⟩, q⟩
    show Value.int ((its.toArray.toList.countP (eqU y) : Nat) : Int) s.toks = _
    rw [ec]
/-! ### isinstance(e, C), e the exception that the suite holds, of an own class -/
def rIsX (K : PySem.W.Frag) (a : Addr) (cls : Value) (d : Option Addr) : List V → Hp → VK → Prop := fun xs H Q => ∃ (D : Addr) (c : V) (cv : Value) (b : Bool), cls = .ref D ∧ ExcC K D ∧ xs = [.ref a, c] ∧ (∀ u, RelV c u → u = cv) ∧ PySem.W.kitOne K (.ref D) cv = some b ∧
  (∀ dd, d = some dd → ∃ fs, H dd = some (.xd fs)) ∧ Q (.bl b) H
theorem call_isX {X : Cx} {a : Addr} {cls : Value} {d : Option Addr} {oe : Obj} {pn : List (Addr × Obj)} (hz : Zc cls d oe) (hf : ∃ vs, oe.data = .fields vs) : CallR (X.suite a ((a, oe) :: pn)) (.builtin "isinstance") (rIsX X.K a cls d) := by
  rintro pins s σ H xs us Q I r ⟨D, c, cv, b, rfl, C, rfl, hcv, e, hd, q⟩
  cases r with
  | cons rx rr =>
    cases rr with
    | cons rt rr =>
      cases rr
      cases rx
      obtain rfl := hcv _ rt
      obtain ⟨hget, _⟩ := I.pin (a, oe) (List.mem_append.mpr (.inl List.mem_cons_self))
      obtain ⟨vs, hv⟩ := hf
      have no : PySem.W.notCls oe = true := by unfold PySem.W.notCls; rw [hv]
      have J : ∃ od, PySem.W.InstAt s.heap a oe D od := by
        cases d with
        | none => exact ⟨none, hget, hz.1, no, by rw [hz.2]; trivial⟩
        | some dd =>
          obtain ⟨fs, hx⟩ := hd dd rfl
          obtain ⟨mA, ⟨o, es, ep, ho, _⟩, _⟩ := I.hok dd _ hx
          exact ⟨some o, hget, hz.1, no, by rw [hz.2]; exact ho⟩
      obtain ⟨od, J⟩ := J
      have hcl : (PySem.W.clsIn X.K D).isSome = true := by
        obtain ⟨cd, hc, _⟩ := PySem.W.any_some C.hd
        rw [hc]
        rfl
      exact PySem.W.kia_one (PySem.W.kitx_exc (ox := oe) (od := od) hcl C.hg C.hk C.hs C.ha C.hn C.ht C.hm) I.kIn J e (fun z => nomatch z) fun tk => ⟨.bl b, H, I.kept (t' := tk) fun _ _ z => z, rfl, q⟩
end Om

namespace Om
open PySem PySem.Spec PyProof.Rows L2 LamX
def nmE : Nat → Str
  | 0 => "InvalidIsland"
  | 1 => "InvalidMap"
  | 2 => "InvalidNumber"
  | 3 => "NoBeginning"
  | 4 => "NoWay"
  | 5 => "TooMany"
  | _ => "UnknownCell"
/-- what the top says of the errors' classes -/
structure ErrF (K : PySem.W.Frag) (mg : Str → Option Value) (C : Nat → Addr) (CM : Addr) : Prop where
  gM : mg "MapError" = some (.ref CM)
  g : ∀ i, i < 7 → mg (nmE i) = some (.ref (C i))
  exm : ∀ i, i < 7 → PySem.W.exmOne K (.ref (C i)) (.ref CM) = some true
  exc : ∀ i, i < 7 → ExcC K (C i)
  kit : ∀ i j, i < 7 → j < 7 → PySem.W.kitOne K (.ref (C i)) (.ref (C j)) = some (decide (j = i))
  kitV : ∀ i, i < 7 → PySem.W.kitOne K (.ref (C i)) (.type "ValueError") = some true
  xf0 : XfC K (C 0)
  noR : PySem.W.findIn K (.ref (C 0)) "row" = some none
  noC : PySem.W.findIn K (.ref (C 0)) "column" = some none
  xf1 : XfC K (C 1)
  noI : PySem.W.findIn K (.ref (C 1)) "index" = some none
  gi : mg "isinstance" = none
  gv : mg "ValueError" = none
inductive ErrOut (C : Nat → Addr) (Q : VK) : Value → Option Addr → Hp → Prop
/-- what _law_error makes of an error -/
  | isl {d : Addr} {x y : V} {H' : Hp} : H' d = some (.xd (xdII x y)) → (∀ p H2, H' p = none → Same H' H2 → H2 p = some (.tup [.str "InvalidIsland", x, y]) → Q (.ref p) H2) → ErrOut C Q (.ref (C 0)) (some d) H'
  | chart {d : Addr} {x : V} {H' : Hp} : H' d = some (.xd [(("index" : Str), x)]) → (∀ p H2, H' p = none → Same H' H2 → H2 p = some (.tup [.str "InvalidMap", x]) → Q (.ref p) H2) → ErrOut C Q (.ref (C 1)) (some d) H'
  | other {j : Nat} {H' : Hp} : 2 ≤ j → j < 7 → (∀ H2, Same H' H2 → Q (.str (nmE j)) H2) → ErrOut C Q (.ref (C j)) none H'
def TErr (C : Nat → Addr) : (XK → Hp → VK → Prop) → Hp → VK → Prop := fun tl H Q => tl (ErrOut C Q) H fun _ H' => Q (.str "") H'
/-! rules whose reading names the written part apart from the context -/
theorem isX_K {X : Cx} {K : PySem.W.Frag} {a : Addr} {cls : Value} {d : Option Addr} {oe : Obj} {pn : List (Addr × Obj)} (hK : X.K = K) (hz : Zc cls d oe) (hf : ∃ vs, oe.data = .fields vs) : CallR (X.suite a ((a, oe) :: pn)) (.builtin "isinstance") (rIsX K a cls d) := by
  subst hK
  exact call_isX hz hf
theorem bm_K {X : Cx} {K : PySem.W.Frag} {T id : String} {name : Str} {r : V → List V → Hp → VK → Prop} {o e : Expr} {es : List Expr} {to : TE} {t : TA} {apos cpos : Pos} (hK : X.K = K) (pa : PlainAttrs T) (slot : Slot T name id) (hty : typeOf (.builtin id) = pure (.type "method_descriptor")) (hm : MtR X id r) (ho : PE X o to) (ha : PA X (e :: es) t)
    (hbase : attributeBase o name X.env (eval o X.env) = eval o X.env := by rfl)
    (hfew : ((backTo cpos (starEach (e :: es) X.env)).all (fun x => !x.1) && (backToKw cpos (keywordEach [] X.env)).all (fun x => x.1.isSome) && decide ((e :: es).length + ([] : List Keyword).length + (if ([] : List Keyword).isEmpty then 0 else 1) < 30)) = true := by rfl)
    (hline : (apos.endLine == cpos.line) = true := by rfl) (hs : starEach (e :: es) X.env = (false, eval e X.env) :: starEach es X.env := by rfl) (hplain : (backTo cpos (starEach es X.env)).any (·.1) = false := by rfl) :
    PE X (.Call (.Attribute o name apos) (e :: es) [] cpos) (tBM K T r to t) := by
  subst hK
  exact pe_bm pa slot hty hm ho ha hbase hfew hline hs hplain
theorem cnt_K {X : Cx} {K : PySem.W.Frag} (hK : X.K = K) : MtR X "list.count" (rCntF K) := by
  subst hK
  exact mt_countF
theorem index_K {X : Cx} {K : PySem.W.Frag} (hK : X.K = K) : MtR X "list.index" (rIndex K) := by
  subst hK
  exact mt_index
theorem ixl_K {X : Cx} {K : PySem.W.Frag} (hK : X.K = K) : IxR X (rIxL K) := by
  subst hK
  exact ix_list
def ksV (j : Nat) : List V := [.bl (decide (0 = j)), .bl (decide (1 = j)), .bl (decide (2 = j)), .bl (decide (3 = j)), .bl (decide (4 = j)), .bl (decide (5 = j)), .bl (decide (6 = j))]
def nmsV : List V := [.str (nmE 0), .str (nmE 1), .str (nmE 2), .str (nmE 3), .str (nmE 4), .str (nmE 5), .str (nmE 6)]
theorem ksV_flat (j : Nat) : (ksV j).all flatV = true := rfl
theorem ksV_count {j : Nat} (h : j < 7) : ((ksV j).countP fun z => eqV z (.bl true)) = 1 := by
  have e : ∀ j : Fin 7, ((ksV j).countP fun z => eqV z (.bl true)) = 1 := by decide
  exact e ⟨j, h⟩
theorem ksV_at {j : Nat} (h : j < 7) : (ksV j)[j]? = some (.bl true) := by
  have e : ∀ j : Fin 7, (ksV j)[j.val]? = some (.bl true) := by decide
  exact e ⟨j, h⟩
theorem ksV_ahead {j : Nat} (h : j < 7) {m : Nat} {z : V} (hm : m < j) (hz : (ksV j)[m]? = some z) : eqV z (.bl true) = false := by
  have e : ∀ j m : Fin 7, m.val < j.val → ((ksV j)[m.val]?.map fun z => eqV z (.bl true)) = some false := by decide
  have e2 := e ⟨j, h⟩ ⟨m, by omega⟩ hm
  rw [hz] at e2
  exact Option.some.inj e2
theorem nmsV_at {j : Nat} (h : j < 7) : atI nmsV ((j : Nat) : Int) = some (.str (nmE j)) := by
  refine atI_nat ?_
  have e : j = 0 ∨ j = 1 ∨ j = 2 ∨ j = 3 ∨ j = 4 ∨ j = 5 ∨ j = 6 := by omega
  rcases e with rfl | rfl | rfl | rfl | rfl | rfl | rfl <;> rfl
theorem nmE_inj {j : Nat} (h : j < 7) : (nmE j = nmE 0 ↔ j = 0) ∧ (nmE j = nmE 1 ↔ j = 1) := by
  have e : j = 0 ∨ j = 1 ∨ j = 2 ∨ j = 3 ∨ j = 4 ∨ j = 5 ∨ j = 6 := by omega
  rcases e with rfl | rfl | rfl | rfl | rfl | rfl | rfl <;> decide +kernel
section
variable {X : Cx} {C : Nat → Addr} {CM g : Addr} {cdg : Value} {q : Str}
end
end Om

/-! lambdas kept in a list: made as values (without a default, or one parameter with a written int), each called later, in a list comprehension of their maker, by a def that gets it -/
namespace Om
open PySem PySem.Spec PyProof.Rows L2 LamX NdefX
/-- a function object whose defaults are the tuple at D -/
def FnE1 (f : Addr) (F : LE) (D : Addr) : HO := .ext fun h => ∃ pm ctv, h.get? f = some (lamOb F.qual F.params F.body F.scope F.cl pm F.c ctv (.ref D))
def TupI (D : Addr) (i : Int) : HO := .ext fun h => ∃ t, h.get? D = some { cls := .type "tuple", data := .seq #[.int i t] }
/-- the lambda at f, its default (an int) or none -/
def LamAt (H : Hp) (f : Addr) (F : LE) : Option Int → Prop
  | none => H f = some (FnE f F)
  | some i => ∃ D, H f = some (FnE1 f F D) ∧ H D = some (TupI D i)
def LamK (H : Hp) (f : Addr) (F : Addr → LE) (d : Option Int) : Prop := ∃ c', LamAt H f (F c') d ∧ H (F c').c = some (CodeO (F c').c (F c').qual)
theorem LamAt.ext {H H' : Hp} {f : Addr} {F : LE} {d : Option Int} (h : LamAt H f F d) (k : ExtN H H') : LamAt H' f F d := by
  cases d with
  | none => exact k _ _ h fnE_tbl
  | some i =>
    obtain ⟨D, h1, h2⟩ := h
    exact ⟨D, k _ _ h1 (fun ps z => by unfold FnE1 at z; cases z), k _ _ h2 fun ps z => by unfold TupI at z; cases z⟩
theorem LamK.ext {H H' : Hp} {f : Addr} {F : Addr → LE} {d : Option Int} (h : LamK H f F d) (k : ExtN H H') : LamK H' f F d := by
  obtain ⟨c', h1, h2⟩ := h
  exact ⟨c', h1.ext k, k _ _ h2 codeO_ne⟩
/-- the words of a lambda written in the text -/
def leOf (cells : List (Str × Addr)) (q : Str) (params : Arguments) (body : Expr) (scope : Scope) (c' : Addr) : LE := ⟨params, body, scope, q ++ "<lambda>", cloFrom cells scope.names [], c'⟩
section
variable {X : Cx} {pins : List (Addr × Obj)} {σ : L2.St} {H : Hp} {s : Shared}
theorem inv_fnE1 {F : LE} {D : Addr} {o : Obj} {t' : Nat} {pm ctv : Value} (I : Inv X pins σ H s) (ho : o = lamOb F.qual F.params F.body F.scope F.cl pm F.c ctv (.ref D)) :
    Inv X pins σ (upd H s.heap.objs.size (FnE1 s.heap.objs.size F D)) { s with heap := s.heap.push o, toks := t' } := by
  subst ho
  refine I.laid (a := s.heap.objs.size) (fun b u e => Heap.get?_push_of_some _ e) (Nat.le_refl _) ?_
  have e : (s.heap.push (lamOb F.qual F.params F.body F.scope F.cl pm F.c ctv (.ref D))).get? s.heap.objs.size = some (lamOb F.qual F.params F.body F.scope F.cl pm F.c ctv (.ref D)) := Heap.get?_push_size _ rfl
  exact ⟨⟨pm, ctv, e⟩, ⟨_, e⟩, fun h1 h2 ⟨p, t, z⟩ st => ⟨p, t, st _ z⟩⟩
/-- the end of the making of a lambda whose defaults stand in the tuple at D -/
theorem lamE_tail {T : List (Addr × Str)} {c P D : Addr} {params : Arguments} {body : Expr} {scope : Scope} {pos : Pos} {Q : Value → Shared → Prop} (I : Inv X pins σ H s) (TB : TabB X.base X.mg c P) (hcode : X.env.code = .ref c)
    (hm : (P, X.env.qual ++ "<lambda>") ∈ T) (hu : ∀ p ∈ T, p.1 = P → p.2 = X.env.qual ++ "<lambda>") (hT : Tabs T H) (hfree : ∀ y ∈ scope.names, y.2 = .free → ∃ c, X.env.cells.lookup y.1 = some c)
    (k : ∀ (f c' : Addr) (H1 : Hp) (s' : Shared), Inv X pins σ H1 s' → ExtN H H1 → Tabs T H1 → H f = none → H1 f = some (FnE1 f ⟨params, body, scope, X.env.qual ++ "<lambda>", cloFrom X.env.cells scope.names [], c'⟩ D) → H1 c' = some (CodeO c' (X.env.qual ++ "<lambda>")) → Q (.ref f) s') :
    wpAny (model X.prog X.w) X.A (makeTail "<lambda>" (X.env.qual ++ "<lambda>") params (.expr body) scope X.env (.ref D) .none none pos pos.line) Q X.xe s := by
  obtain ⟨ps, tP, tt, ta⟩ := hT _ hm
  have bP : s.heap.BuiltinsAt X.mg P := TB.bm.keeps I.bk
  have oP : s.heap.get? P = some { cls := .none, data := .fields ps } := I.hok P _ tP
  cases hc : codeAmong pos ps.toList with
  | none =>
    refine tail_new (mg := X.mg) (closure_ok hfree) I.ok.glob (I.mod.glob.keeps I.bk) hcode (TB.code.keeps I.bk) oP tt hc TB.gP bP fun c' ctv h' tk x1 x2 x3 x4 x5 => ?_
    obtain ⟨c2, oc, vs, t, y1, y2, y3, y4⟩ := x4
    cases y1
    have nC : H c' = none := I.hok.fresh x2
    have I1 := inv_table (t' := tk) (more := #[rawInt pos.line, rawInt pos.col, .ref c']) (h' := h') I tP (fun b o hb e => x1 b o hb e) x5 x2 ⟨oc, vs, t, y2, y3, y4⟩
    have nPC : P ≠ c' := ne_of_none tP nC
    have eN : ExtN H (upd (upd H P (.tbl (ps ++ #[rawInt pos.line, rawInt pos.col, .ref c']))) c' (CodeO c' (X.env.qual ++ "<lambda>"))) := fun b o e n => by
      have n1 : b ≠ P := fun z => by
        rw [z, tP] at e
        exact n ps (Option.some.inj e).symm
      rw [upd_ne (ne_of_none e nC), upd_ne n1]
      exact e
    have eL : (ps ++ #[rawInt pos.line, rawInt pos.col, .ref c']).toList = ps.toList ++ [rawInt pos.line, rawInt pos.col, .ref c'] := by simp
    have T1 : Tabs T (upd (upd H P (.tbl (ps ++ #[rawInt pos.line, rawInt pos.col, .ref c']))) c' (CodeO c' (X.env.qual ++ "<lambda>"))) := fun p hp => by
      by_cases hb : p.1 = P
      · rw [hu p hp hb, hb]
        refine ⟨_, by rw [upd_ne nPC, upd_same], by rw [eL]; exact PySem.TriplesOk_snoc _ _ _ _ tt, fun p' cv hcv => ?_⟩
        rw [eL] at hcv
        rcases among_app _ tt hcv with z | z
        · obtain ⟨c0, w1, w2⟩ := ta p' cv z
          exact ⟨c0, w1, eN _ _ w2 codeO_ne⟩
        · exact ⟨c', z, upd_same⟩
      · obtain ⟨ps2, a1, a2, a3⟩ := hT p hp
        refine ⟨ps2, by rw [upd_ne (ne_of_none a1 nC), upd_ne hb]; exact a1, a2, fun p' cv hcv => ?_⟩
        obtain ⟨c0, w1, w2⟩ := a3 p' cv hcv
        exact ⟨c0, w1, eN _ _ w2 codeO_ne⟩
    have nF := I1.hok.fresh (Nat.le_refl _)
    have I2 := inv_fnE1 (F := ⟨params, body, scope, X.env.qual ++ "<lambda>", cloFrom X.env.cells scope.names [], c'⟩) (D := D) (t' := tk) (pm := (X.mg "__name__").getD .none) (ctv := ctv) I1 rfl
    refine k h'.objs.size c' _ _ I2 (fun b o e n => ?_) (T1.ext fun b o e => ?_) (I.hok.fresh (Nat.le_trans x2 (Nat.le_of_lt x3))) upd_same ?_
    · have e1 := eN b o e n
      exact (upd_ne (ne_of_none e1 nF)).trans e1
    · exact (upd_ne (ne_of_none e nF)).trans e
    · exact (upd_ne (Nat.ne_of_lt x3)).trans upd_same
  | some cv =>
    obtain ⟨c', y1, y2⟩ := ta pos cv hc
    subst y1
    refine tail_hit (mg := X.mg) (closure_ok hfree) I.ok.glob (I.mod.glob.keeps I.bk) hcode (TB.code.keeps I.bk) oP tt hc bP fun ctv h' tk x1 x2 => ?_
    have I1 : Inv X pins σ H { s with heap := h', toks := tk } := I.kept x1
    have nF : H h'.objs.size = none := I1.hok.fresh (Nat.le_refl _)
    have I2 := inv_fnE1 (F := ⟨params, body, scope, X.env.qual ++ "<lambda>", cloFrom X.env.cells scope.names [], c'⟩) (D := D) (t' := tk) (pm := (X.mg "__name__").getD .none) (ctv := ctv) I1 rfl
    refine k h'.objs.size c' _ _ I2 (fun b o e n => ?_) (hT.ext fun b o e => ?_) nF upd_same ?_
    · exact (upd_ne (ne_of_none e nF)).trans e
    · exact (upd_ne (ne_of_none e nF)).trans e
    · exact (upd_ne (ne_of_none y2 nF)).trans y2
end
section
variable {X : Cx}
def tLamV (T : List (Addr × Str)) (F : Addr → LE) (d : Option Int) : TE := fun σ H Q => Tabs T H ∧ ∀ (f : Addr) (H1 : Hp), ExtN H H1 → Tabs T H1 → H f = none → LamK H1 f F d → Q (.ref f) H1
theorem pe_lamV0 {T : List (Addr × Str)} {c P : Addr} {params : Arguments} {body : Expr} {scope : Scope} {pos : Pos} (TB : TabB X.base X.mg c P) (hcode : X.env.code = .ref c)
    (hm : (P, X.env.qual ++ "<lambda>") ∈ T) (hu : ∀ p ∈ T, p.1 = P → p.2 = X.env.qual ++ "<lambda>") (hdef : defaultsOf params X.env = ([], [])) (hfree : ∀ y ∈ scope.names, y.2 = .free → X.env.scope.names.lookup y.1 = some .cell ∨ X.env.scope.names.lookup y.1 = some .free) :
    PE X (.Lambda params body scope pos) (tLamV T (leOf X.env.cells X.env.qual params body scope) none) := by
  refine ⟨fun pins s σ H Q I ⟨hT, h⟩ => (pe_lamE (T := T) (mk := leOf X.env.cells X.env.qual params body scope) TB hcode hm hu hdef hfree (fun _ => rfl)).run pins s σ H Q I ⟨hT, fun f c' H1 e T1 hf h1 h2 => h f H1 e T1 hf ⟨c', h1, h2⟩⟩⟩
theorem pe_lamV1 {T : List (Addr × Str)} {c P : Addr} {params : Arguments} {body : Expr} {scope : Scope} {pos p0 : Pos} {i0 : Int} {j0 : Nat} (TB : TabB X.base X.mg c P) (hcode : X.env.code = .ref c)
    (hm : (P, X.env.qual ++ "<lambda>") ∈ T) (hu : ∀ p ∈ T, p.1 = P → p.2 = X.env.qual ++ "<lambda>") (hdef : defaultsOf params X.env = ([eval (.Constant (.int i0) j0 p0) X.env], [])) (hfree : ∀ y ∈ scope.names, y.2 = .free → X.env.scope.names.lookup y.1 = some .cell ∨ X.env.scope.names.lookup y.1 = some .free) :
    PE X (.Lambda params body scope pos) (tLamV T (leOf X.env.cells X.env.qual params body scope) (some i0)) := by
  constructor
  rintro pins s σ H Q I ⟨hT, h⟩
  have hfr : ∀ y ∈ scope.names, y.2 = .free → ∃ c, X.env.cells.lookup y.1 = some c := fun y hy e => (hfree y hy e).elim (fun z => I.ok.has _ (.inl z)) fun z => I.ok.has _ (.inr z)
  rw [arm_eval_Lambda, hdef]
  show wpAny _ _ (do let dv ← evalAll [eval (.Constant (.int i0) j0 p0) X.env]; let kdv ← holding dv (evalAllOpt []); makeFunction "<lambda>" (X.env.qual ++ "<lambda>") params (.expr body) scope X.env dv kdv [] pos pos.line) _ X.xe s
  refine wpAny_bind (wpAny_bind (thn ((pe_int (X := X) (i := i0) (j := j0) (pos := p0)).run pins s σ H (fun v H' => v = .int i0 ∧ H' = H) I ⟨rfl, rfl⟩) fun u s1 ⟨v, H1, I1, r1, ev, eH⟩ => ?_))
  subst ev
  rw [eH] at I1
  obtain ⟨t0, rfl⟩ := r1
  refine wpAny_bind (wpAny_holding (wpAny_pure (wpAny_pure (wpAny_bind (wpAny_holding (wpAny_pure ?_))))))
  rw [makeFunction_eq]
  simp only [List.zip_nil_right, List.filterMap_nil, List.isEmpty_nil, List.isEmpty_cons, Bool.false_eq_true, if_false, if_true, pure_bind]
  refine wpAny_bind (wpAny_newTextTuple ?_)
  have nD : H s1.heap.objs.size = none := I1.hok.fresh (Nat.le_refl _)
  have I2 : Inv X pins σ (upd H s1.heap.objs.size (TupI s1.heap.objs.size i0)) { s1 with heap := s1.heap.push { cls := .type "tuple", data := .seq [Value.int i0 t0].toArray } } := by
    refine I1.laid (t' := s1.toks) (fun b o e => Heap.get?_push_of_some _ e) (Nat.le_refl _) ?_
    have e : (s1.heap.push { cls := .type "tuple", data := .seq [Value.int i0 t0].toArray }).get? s1.heap.objs.size = some { cls := .type "tuple", data := .seq #[.int i0 t0] } := Heap.get?_push_size _ rfl
    exact ⟨⟨t0, e⟩, ⟨_, e⟩, fun h1 h2 ⟨t, z⟩ st => ⟨t, st _ z⟩⟩
  generalize s1.heap.objs.size = D at nD I2 ⊢
  have s2 := Same.new (Same.refl H) nD (o := TupI D i0)
  have eD : (upd H D (TupI D i0)) D = some (TupI D i0) := upd_same
  generalize upd H D (TupI D i0) = H2 at I2 s2 eD
  have e2 : ExtN H H2 := fun b o e _ => s2 _ _ e
  refine lamE_tail I2 TB hcode hm hu (hT.ext s2) hfr fun f c' H3 s' I3 e3 T3 hf h1 h2 => ?_
  exact ⟨.ref f, H3, I3, rfl, h f H3 (e2.trans e3) T3 (by cases q : H f with | none => rfl | some o => rw [s2 _ _ q] at hf; cases hf) ⟨c', ⟨D, h1, e3 _ _ eD fun ps z => by unfold TupI at z; cases z⟩, h2⟩⟩
end
end Om

/-! a lambda kept in a list is called: by a def that gets it, in a list comprehension of its maker -/
namespace Om
open PySem PySem.Spec PyProof.Rows L2 LamX NdefX
theorem clauseL_loop {X : Cx} (hc : X.calm = true) (hxe : ∀ e s, ¬ X.xe e s) {elt : Expr} {cs : List Comprehension} {scope : Scope} {pos : Pos} {node : Expr} (en : node = .ListComp elt cs scope pos) {k : Nat} {tg iter : Expr} {ifs : List Expr} {it : Addr} {acc : Value} {act : Sem PySem.Fin → Sem PySem.Fin} {R : PySem.Result → Shared → Prop}
    (hturn : compTurn node k (.ref it) acc X.env = clauseTurn node k tg iter ifs (.ref it) acc X.env act)
    {pins : List (Addr × Obj)} {σ0 : L2.St} {fp : List Addr} {tn : Nat → Heap → Prop} {J : It} (T : Turn X.prog X.w X.K tg J fp it tn) {g : TG} {tt : TT} (pg : PG X tg g) (pt : PTs X ifs tt)
    (stat : ∀ {H' : Hp}, (∀ b ∈ fp, H' b = none) → ∀ b ∈ fp, FpOk X pins H' b)
    {Fin : Hp → Prop} {ok : L2.St → Prop} {Body : L2.St → Hp → (Hp → Prop) → Prop}
    (body : ∀ {σ2 : L2.St} {Hx : Heap} {s : Shared} {H : Hp} {Nx : Hp → Prop}, ok σ2 → Inv X (pins ++ pinsAt fp Hx) σ2 H s → Body σ2 H Nx → ∀ (kont : Sem PySem.Fin) (P : PySem.Fin → Shared → Prop) (E : Value → Shared → Prop), (∀ s', (∃ σ' H', Inv X (pins ++ pinsAt fp Hx) σ' H' s' ∧ Knows σ0 σ' ∧ Nx H') → wpAny (model X.prog X.w) X.A kont P E s') → wpAny (model X.prog X.w) X.A (act kont) P E s)
    (hok : ∀ {σ2 : L2.St}, ok σ2 → Knows σ0 σ2) {W : Nat → Nat → Hp → Prop}
    (turn : ∀ i m H, W i m H → (J.stop i H ∧ Fin H) ∨ (J.go i H ∧ ∃ Nx : Hp → Prop, (∀ H', Nx H' → ∃ m', m' < m ∧ W (i + 1) m' H') ∧ ∀ x H', J.yld i H x H' → g x σ0 H' fun σ2 H2 => ok σ2 ∧ tt σ2 H2 fun b H3 => if b = true then Body σ2 H3 Nx else Nx H3))
    (hend : ∀ H' s', Inv X pins σ0 H' s' → Fin H' → R (.ok .next) s')
    {s : Shared} {H : Hp} {m0 : Nat} (I : Inv X pins σ0 H s) (st : tn 0 s.heap) (nfp : ∀ b ∈ fp, H b = none) (w0 : W 0 m0 H) :
    codeAny (model X.prog X.w) X.A (.compLoop node k (.ref it) acc X.env) R s := by
  subst en
  refine codeAny_loop rfl (fun n s' => ∃ i H', Inv X pins σ0 H' s' ∧ tn i s'.heap ∧ (∀ b ∈ fp, H' b = none) ∧ W i n H') ?_ m0 ⟨0, H, I, st, nfp, w0⟩
  rintro n s5 ⟨i, H5, I5, st5, n5, w5⟩
  show wpAny _ X.A ((compTurn (.ListComp elt cs scope pos) k (.ref it) acc X.env).onRaise (fun x => do noteFrame x X.env; theTreesLotGoes x)) _ _ s5
  refine wpAny_noted ?_
  rw [hturn]
  unfold clauseTurn
  refine wpAny_bind (wpAny_standAt (wpAny_bind ?_))
  rcases turn i n H5 w5 with ⟨stop, qq⟩ | ⟨go, Nx, hNx, step⟩
  · refine thnF (T.done X rfl rfl rfl hc i pins s5 σ0 H5 (fun _ _ => False) I5 (stat n5) st5 stop) fun r s6 ⟨hr, I6⟩ => ?_
    subst hr
    exact wpAny_pure (hend H5 s6 I6 qq)
  · refine thnF (T.item X rfl rfl rfl hc i pins s5 σ0 H5 (fun _ _ => False) I5 (stat n5) st5 go) fun r s6 ⟨u, hr, h6⟩ => ?_
    subst hr
    dsimp only
    refine wpAny_bind (thnF h6 fun _ s7 ⟨x, H7, I7, r7, y7, st7, n7⟩ => ?_)
    have I7' := I7.pinned (stat n7) (T.obj _ _ st7)
    have fin : ∀ {σ' : L2.St} {s' : Shared} {H' : Hp}, Inv X (pins ++ pinsAt fp s7.heap) σ' H' s' → Knows σ0 σ' → Nx H' → ∃ m, m < n ∧ ∃ i H', Inv X pins σ0 H' s' ∧ tn i s'.heap ∧ (∀ b ∈ fp, H' b = none) ∧ W i m H' := fun {σ' s' H'} I' kn nx => by
      obtain ⟨m', hm, w'⟩ := hNx H' nx
      have held : ∀ b ∈ fp, ∀ o, s7.heap.get? b = some o → s'.heap.get? b = some o ∧ H' b = none := fun b hb o e =>
        ⟨(I'.pin (b, o) (List.mem_append_right _ (List.mem_append_right _ (mem_pinsAt hb e)))).1, (I'.pin (b, o) (List.mem_append_right _ (List.mem_append_right _ (mem_pinsAt hb e)))).2.1⟩
      refine ⟨m', hm, i + 1, H', I'.unpinned.weak kn.1 kn.2, T.keep _ _ _ st7 fun b hb o e => (held b hb o e).1, fun b hb => ?_, w'⟩
      obtain ⟨o, e, _⟩ := T.obj _ _ st7 b hb
      exact (held b hb o e).2
    refine wpAny_bind (thnE hxe (pg.run _ s7 σ0 H7 x u _ I7' r7 (step x H7 y7)) fun _ s8 ⟨σ8, H8, I8, k8, q8⟩ => ?_)
    refine wpAny_bind (thnE hxe (pt.run _ s8 σ8 H8 _ I8 q8) fun b s9 ⟨H9, I9, q9⟩ => ?_)
    cases b with
    | false => exact wpAny_pure ⟨rfl, fin I9 (hok k8) q9⟩
    | true => exact body k8 I9 q9 _ _ _ fun s' ⟨σ', H', I', kn, nx⟩ => wpAny_pure ⟨rfl, fin I' kn nx⟩
section
variable {X : Cx}
/-- [elt for target in iter if ..], the element read with what the maker knows -/
def tLcV (wi : L2.TI) (g : TG) (tt : TT) (te : L2.St → TE) (vs : List Nat) : TE := fun σ H Q => wi σ H fun J H1 => ∀ D, H1 D = none → ∃ W : Nat → Nat → Hp → Prop, (∃ m, W 0 m (upd H1 D (.lst []))) ∧
  Wlk J W (fun H => Q (.ref D) H) fun x H' Nx => g x (wipe σ vs) H' fun σ2 H2 => wipe σ2 vs = wipe σ vs ∧ tt σ2 H2 fun b H3 => if b = true then (te σ σ2 H3 fun y H4 => ∃ acc, H4 D = some (.lst acc) ∧ acc.length < sizeLine ∧ Nx (upd H4 D (.lst (acc ++ [y])))) else Nx H3
/-- an expression in a block of X, which knows what X knew -/
structure PEV (X Y : Cx) (e : Expr) (te : L2.St → TE) : Prop where
  run : ∀ (pins : List (Addr × Obj)) (σ : L2.St), (∀ {pinsY : List (Addr × Obj)} {σY : L2.St} {H : Hp} {s : Shared}, Inv Y pinsY σY H s → Inv X pins σ H s) → ∀ (pinsY : List (Addr × Obj)) (s : Shared) (σY : L2.St) (H : Hp) (Q : VK), Inv Y pinsY σY H s → te σ σY H Q →
    wpAny (model Y.prog Y.w) Y.A (eval e Y.env) (EP Y pinsY σY Q) Y.xe s
theorem pe_lcV {elt tg iter : Expr} {ifs : List Expr} {scope : Scope} {own : List (Str × Nat)} {pos : Pos} {wi : L2.TI} {g : TG} {tt : TT} {te : L2.St → TE} (hc : X.calm = true) (hN : X.N.Nodup) (hi : PI X tg iter wi) (ok : BlkOk X.N X.env.scope scope own)
    (hg : BlkX X scope fun Y => PG Y tg g) (ht : BlkX X scope fun Y => PTs Y ifs tt) (he' : BlkX X scope fun Y => PEV X Y elt te) (hs : ∀ x, foldedSetIterable iter X.env x = pure x := by intro _; rfl) :
    PE X (.ListComp elt [⟨tg, iter, ifs, 0⟩] scope pos) (tLcV wi g tt te (ownS own)) := by
  have he := fun s H C cl fp => (he' s H C cl fp).run
  refine ⟨fun pins s σ H Q I h => ?_⟩
  rw [eval_ListComp]
  have cells : ∀ y ∈ scope.names, y.2 = .free → ∃ c, X.env.cells.lookup y.1 = some c := fun y hy e => (ok.free y hy e).elim (fun k => I.ok.has _ (.inl k)) fun k => I.ok.has _ (.inr k)
  refine wpAny_comprehension_free rfl hs (closure_ok cells) ok.kind (fun y hy e => by rw [ok.uniq y hy, e])
    (thn (hi.run pins s σ H _ I h) fun xv s1 hx => thn hx fun itv s2 h2 => ?_)
  obtain ⟨it, fp, tn, J, H2, rfl, I2, T, st2, f2, q⟩ := h2
  refine wpAny_newObj_type (newEnv_comp ?_) (by show 0 ≤ sizeLine; decide)
  have hn2 : H2 s2.heap.objs.size = none := I2.hok.fresh (Nat.le_refl _)
  obtain ⟨W, ⟨m0, w0⟩, wlk⟩ := q _ hn2
  have I3 : Inv X pins σ (upd H2 s2.heap.objs.size (.lst [])) { s2 with heap := s2.heap.push { cls := .type "list", data := .seq ([] : List Value).toArray } } :=
    I2.laid (t' := s2.toks) (fun b o e => Heap.get?_push_of_some _ e) (Nat.le_refl _) ⟨Nat.zero_le _, [], 0, .nil, Heap.get?_push_size _ rfl⟩
  have below : ∀ b ∈ fp, b < s2.heap.objs.size := fun b hb => by
    obtain ⟨o, e, _⟩ := T.obj _ _ st2 b hb
    exact Heap.lt_size e
  have st3 : tn 0 (s2.heap.push { cls := .type "list", data := .seq ([] : List Value).toArray }) := T.keep _ _ _ st2 fun b _ o e => Heap.get?_push_of_some _ e
  have f3 : ∀ b ∈ fp, FpOk X pins (upd H2 s2.heap.objs.size (.lst [])) b ∧ b < (s2.heap.push { cls := .type "list", data := .seq ([] : List Value).toArray }).objs.size := fun b hb =>
    ⟨⟨by rw [upd_ne (Nat.ne_of_lt (below b hb))]; exact (f2 b hb).1, (f2 b hb).2⟩, by rw [Heap.size_push]; exact Nat.lt_succ_of_lt (below b hb)⟩
  generalize hS3 : ({ s2 with heap := s2.heap.push { cls := .type "list", data := .seq ([] : List Value).toArray } } : Shared) = s3 at I3
  have hh3 : s2.heap.push { cls := .type "list", data := .seq ([] : List Value).toArray } = s3.heap := by rw [← hS3]
  rw [hh3] at st3 f3
  generalize s2.heap.objs.size = D at I3 f3 w0 wlk hn2 ⊢
  generalize hH3 : upd H2 D (.lst []) = H3 at I3 f3 w0
  have I4 := block_start I3 ok hN f3
  have st4 : tn 0 (pushCells (s3.heap.push { cls := .type "dict", data := .dict #[] }) scope.names) := T.keep _ _ _ st3 fun b _ o e => pushCells_keeps _ _ _ _ (Heap.get?_push_of_some _ e)
  have nfp : ∀ b ∈ fp, H3 b = none := fun b hb => (f3 b hb).1.1
  have back : ∀ H5 s6, Inv (X.blk s3 H3 scope (compEnvC scope (cellsFrom (s3.heap.objs.size + 1) scope.names (cloFrom X.env.cells scope.names [])) s3.heap.objs.size X.env) fp) [] (wipe σ (ownS own)) H5 s6 → Q (.ref D) H5 →
      compPost (model X.prog X.w) X.A X.xe none (EP X pins σ Q) (.ref D) s3.heap.objs.size (.ok .next) s6 := fun H5 s6 I6 qq => by
    have I7 : Inv X pins σ H5 s6 := I3.call' (ch := fp) I6.os I6.base I6.hok I6.bare fun b hb => ⟨(f3 b hb).1.2.2.2.1, (f3 b hb).1.2.1, (f3 b hb).1.2.2.2.2.1, (f3 b hb).1.2.2.2.2.2⟩
    have nC : H5 s3.heap.objs.size = none := I6.free
    obtain ⟨m, hn, _⟩ := I6.loc
    obtain ⟨f0, f1, f2, f3', f4, f5⟩ := I3.fpOk (Nat.le_refl _) nC
    exact ⟨m, hn, fun h'' sb => ⟨.ref D, H5, I7.turned (t' := s6.toks) (fun b o hb e => (sb.2 b hb).trans e) f0 f1 f3' f4 f5, rfl, qq⟩⟩
  show codeAny _ _ (.compStart (.ListComp elt [⟨tg, iter, ifs, 0⟩] scope pos) 0 (.ref it) (.ref D) (compEnvC scope (cellsFrom (s3.heap.objs.size + 1) scope.names (cloFrom X.env.cells scope.names [])) s3.heap.objs.size X.env)) (compPost (model X.prog X.w) X.A X.xe none (EP X pins σ Q) (.ref D) s3.heap.objs.size) { s3 with heap := pushCells (s3.heap.push { cls := .type "dict", data := .dict #[] }) scope.names }
  have L : codeAny (model X.prog X.w) X.A (.compLoop (.ListComp elt [⟨tg, iter, ifs, 0⟩] scope pos) 0 (.ref it) (.ref D) (compEnvC scope (cellsFrom (s3.heap.objs.size + 1) scope.names (cloFrom X.env.cells scope.names [])) s3.heap.objs.size X.env)) (compPost (model X.prog X.w) X.A X.xe none (EP X pins σ Q) (.ref D) s3.heap.objs.size) { s3 with heap := pushCells (s3.heap.push { cls := .type "dict", data := .dict #[] }) scope.names } := by
    generalize cellsFrom (s3.heap.objs.size + 1) scope.names (cloFrom X.env.cells scope.names []) = cl at I4 back ⊢
    generalize s3.heap.objs.size = C at I4 back ⊢
    exact clauseL_loop (X := X.blk s3 H3 scope (compEnvC scope cl C X.env) fp) hc (fun _ _ h => h) rfl (iter := iter)
      (act := fun kont => ((do let _ ← call (.builtin "list.append") [.ref D, ← eval elt (compEnvC scope cl C X.env)] : Sem Unit)) >>= fun _ => kont)
      (compTurn_list ..) T (hg s3 H3 C cl fp) (ht s3 H3 C cl fp)
      (fun hn b hb => ⟨hn b hb, (I4.ok.exf b hb).1, I4.ok.exfs b hb, .inl hb, fun x c e => (I4.ok.exf b hb).2 x c e, fun p hp => absurd (show p ∈ ([] : List (Addr × Obj)) ++ [] from hp) (by simp)⟩)
      (ok := fun σ2 => wipe σ2 (ownS own) = wipe σ (ownS own))
      (Body := fun σ2 H3 Nx => te σ σ2 H3 fun y H4 => ∃ acc, H4 D = some (.lst acc) ∧ acc.length < sizeLine ∧ Nx (upd H4 D (.lst (acc ++ [y]))))
      (body := fun {σ2 Hx s H Nx} o I2 b kont P E hk' => by
        refine wpAny_bind (wpAny_bind (thnE (fun _ _ h => h) (he s3 H3 C cl fp pins σ (fun {pinsY σY H5 s6} I6 => I3.call' (ch := fp) I6.os I6.base I6.hok I6.bare fun b hb => ⟨(f3 b hb).1.2.2.2.1, (f3 b hb).1.2.1, (f3 b hb).1.2.2.2.2.1, (f3 b hb).1.2.2.2.2.2⟩) _ s σ2 H _ I2 b) fun z s1 ⟨y, H1, I1, r1, acc, hD, hz, nx⟩ => ?_))
        exact wpAny_bind (app_ok (X := X.blk s3 H3 scope (compEnvC scope cl C X.env) fp) I1 hD hz r1 fun s' I' => wpAny_pure (hk' s' ⟨σ2, _, I', knows_wipe o, nx⟩)))
      knows_wipe wlk back I4 st4 nfp w0
  exact codeAny_compStart_list L (T.self X.A 0 _ _ _ st4 L)
end
end Om

namespace Om
open PySem PySem.Spec PyProof.Rows L2 LamX NdefX
/-- how a lambda of X's takes its default, when it is called with nothing -/
structure LamW (X : Cx) (params : Arguments) (body : Expr) (scope : Scope) (d : Option Int) : Prop where
  ex : ∃ xs, LamG X.N X.env.scope scope xs ∧ match d with
    | none => ∀ (q : Str) (cl : List (Str × Addr)) (pm : Value) (c' : Addr) (ctv : Value), bindArgs (lamFd q params body scope cl pm c' ctv .none) ⟨[], []⟩ = pure []
    | some _ => ∃ y, y ∈ xs ∧ ∀ (q : Str) (cl : List (Str × Addr)) (pm : Value) (c' : Addr) (ctv : Value) (D : Addr) (v : Value), ∃ kk : Option (Array Value) → Sem (List (Str × Value)), bindArgs (lamFd q params body scope cl pm c' ctv (.ref D)) ⟨[], []⟩ = seqItems? (.ref D) >>= kk ∧ kk (some #[v]) = pure [(y, v)]
section
variable {X : Cx} {pins : List (Addr × Obj)} {σ : L2.St} {H HZ : Hp} {s s1 : Shared}
theorem binds_of {f : Addr} {d : Option Int} {params : Arguments} {body : Expr} {scope : Scope} {cells : List (Str × Addr)} {q : Str} {c' : Addr} (L : LamW X params body scope d) (hok : HOk X.prog X.w HZ s1.heap) (h : LamAt HZ f (leOf cells q params body scope c') d) :
    ∃ (pm ctv dV : Value) (binds : List (Str × Value)) (xs : List Str), s1.heap.get? f = some (lamOb (q ++ "<lambda>") params body scope (cloFrom cells scope.names []) pm c' ctv dV) ∧ LamG X.N X.env.scope scope xs ∧ (∀ y ∈ binds, y.1 ∈ xs) ∧
      BindsTo s1 (lamFd (q ++ "<lambda>") params body scope (cloFrom cells scope.names []) pm c' ctv dV) ⟨[], []⟩ binds := by
  obtain ⟨xs, g, b⟩ := L.ex
  cases d with
  | none =>
    obtain ⟨pm, ctv, ho⟩ := (hok f _ h).1
    exact ⟨pm, ctv, .none, [], xs, ho, g, (fun y hy => by cases hy), BindsTo.of_eq (b _ _ _ _ _)⟩
  | some i =>
    obtain ⟨D, h1, h2⟩ := h
    obtain ⟨pm, ctv, ho⟩ := (hok f _ h1).1
    obtain ⟨t0, hD⟩ := (hok D _ h2).1
    obtain ⟨y, hy, b⟩ := b
    obtain ⟨kk, z1, z2⟩ := b (q ++ "<lambda>") (cloFrom cells scope.names []) pm c' ctv D (.int i t0)
    refine ⟨pm, ctv, .ref D, [(y, .int i t0)], xs, ho, g, (fun z hz => by rw [List.mem_singleton.mp hz]; exact hy), ?_⟩
    intro M A' E2 Q2 hq
    rw [z1]
    refine wpAny_bind (wpAny_seqItems hD rfl ?_)
    rw [z2]
    exact wpAny_pure hq
/-- x(), in the def that got the lambda (in slot 0) -/
theorem pe_actV {CXg : CXT} {Eg : XK} {Ng : List Str} {qg : Str} {sg : Scope} {g f : Addr} {cdg : Value} {params : Arguments} {body : Expr} {scope : Scope} {d : Option Int} {k : Nat} {a : Str} {pn : List (Addr × Obj)} {xe : Value → Shared → Prop} {W : WX} {tb : XK → TE} {p1 p2 : Pos}
    (I : Inv X pins σ H s) (L : LamW X params body scope d)
    (tk : Takes ((cxOf CXg X.prog X.w X.K X.mg X.base Ng qg sg g cdg X.A X.stack s H Eg).tr pn xe) W) (hr : Room (k + 1) (X.A.deeper (envOfC qg sg s.heap.objs.size g cdg)))
    (hbody : ∀ (A : Around) (outer : List Env) (s : Shared) (H : Hp) (E : XK) (f c' : Addr), Room k (A.deeper (lamEnv X scope s.heap.objs.size f c')) → PE (lamCx X A outer s H E scope f c') body (tb E))
    (hN : Ng[0]? = some a) (hv : Vis sg a) (hd : (a == ("__debug__" : Str)) = false := by decide) (hcd : (a == ("__classdict__" : Str)) = false := by decide) :
    PE ((cxOf CXg X.prog X.w X.K X.mg X.base Ng qg sg g cdg X.A X.stack s H Eg).tr pn xe) (.Call (.Name a p1) [] [] p2)
      (fun σZ HZ Q => σZ[0]? = some (some (.ref f)) ∧ LamK HZ f (leOf X.env.cells X.env.qual params body scope) d ∧ ∃ E : XK, (∀ cls d H', E cls d H' → W cls d σZ H') ∧ tb E σ HZ Q) := by
  constructor
  rintro pinsZ sZ σZ HZ Q IZ ⟨hs, ⟨c', hf, hc⟩, E, hW, ht⟩
  refine wpAny_Call_Name_kw (thn ((pe_var (pos := p1) (i := 0) hN hv hd hcd).run pinsZ sZ σZ HZ (fun v H1 => v = .ref f ∧ H1 = HZ) IZ ⟨.ref f, hs, rfl, rfl⟩) fun u s1 ⟨v, H1, I1, r1, ev, eH⟩ => ?_)
  subst ev
  rw [eH] at I1
  obtain rfl : u = Value.ref f := r1
  obtain ⟨pm, ctv, dV, binds, xs, of1, G, hbx, hbn⟩ := binds_of L I1.hok hf
  have un : Un (frs X.stack) [] H HZ s.heap s1.heap := I1.base
  obtain ⟨⟨oc, vs, t, y1, y2, y3⟩, _, _⟩ := I1.hok c' _ hc
  have called : codeAny (model X.prog X.w) (X.A.deeper (envOfC qg sg s.heap.objs.size g cdg)) (.call (.ref f) ⟨[], []⟩) (CR (L2.CX X.prog X.w) (envOfC qg sg s.heap.objs.size g cdg :: X.stack) X.prog X.w HZ s1 Q E) s1 := by
    refine PySem.W.kla_callFunE hr.depth of1 rfl G.co G.gen rfl ⟨c', oc, vs, t, rfl, y1, y2, y3⟩ (hbn _ _ _ _ (wpAny_newFunctionEnv (fun y hy => (G.own y hy).1) (fun y hy => G.par _ (hbx y hy)) (fun h1 hns hsb => ⟨I1.nolimit.fresh _ hsb, ?_⟩) G.kind))
    have kp : ∀ b o, s1.heap.get? b = some o → h1.get? b = some o := fun b o e => hsb.extBut b o (Nat.ne_of_lt (Heap.lt_size e)) (Heap.get?_push_of_some _ e)
    have J : Inv (lamCx X (X.A.deeper (envOfC qg sg s.heap.objs.size g cdg)) (envOfC qg sg s.heap.objs.size g cdg :: X.stack) s1 HZ E scope f c') [] σ HZ { s1 with heap := h1, toks := s1.toks + binds.length } := lam_startG I G I1.env0 hr.hd un hns kp
    refine PySem.W.kla_codeExpr (wpAny_mono ((hbody _ _ s1 HZ E f c' (hr.deeper _)).run [] _ _ HZ Q J ht) (fun v s' ⟨w', H', J', rv, q⟩ => ⟨w', H', J'.os, J'.bare, J'.base, J'.hok, rv, q⟩) fun e s' hq => hq)
  refine PySem.W.callWith_F0 ⟨_, _, _, _, of1⟩ (wpAny_call (codeAny_mono called fun r s' hq => ?_))
  match r, hq with
  | .error e, hq => exact tk _ _ (XE.of_call I1 hW hq)
  | .ok (.ret u), hq => exact I1.after hq
  | .ok .next, hq => exact False.elim hq
  | .ok .brk, hq => exact False.elim hq
  | .ok .cont, hq => exact False.elim hq
end
/-- the def at g calls what it got (in slot 0, its name a); CO: what is known of it; TT: what the def makes of its reading -/
def GivesV (X : Cx) (Ng : List Str) (x : Str) (sg : Scope) (g : Addr) (cdg : Value) (bg : List Stmt) (a : Str) (TT : (XK → Hp → VK → Prop) → Hp → VK → Prop) : Prop :=
  ∀ (f : Addr) (s : Shared) (H : Hp) (Q : VK) (CO : Hp → Prop) (tl : XK → Hp → VK → Prop),
    (∀ (W : WX) (pn : List (Addr × Obj)) (xe : Value → Shared → Prop) (p1 p2 : Pos), Takes ((cxOf L2.CX0 X.prog X.w X.K X.mg X.base Ng x sg g cdg X.A X.stack s H L2.E0).tr pn xe) W →
      PE ((cxOf L2.CX0 X.prog X.w X.K X.mg X.base Ng x sg g cdg X.A X.stack s H L2.E0).tr pn xe) (.Call (.Name a p1) [] [] p2) (fun σZ HZ Q => σZ[0]? = some (some (.ref f)) ∧ CO HZ ∧ ∃ E : XK, (∀ cls d H', E cls d H' → W cls d σZ H') ∧ tl E HZ Q)) →
    CO H → Room 2 (X.A.deeper (envOfC x sg s.heap.objs.size g cdg)) → TT tl H Q →
    ∃ t, PSs (cxOf L2.CX0 X.prog X.w X.K X.mg X.base Ng x sg g cdg X.A X.stack s H L2.E0).nox bg t ∧ t { nx := fun _ H' => Q .non H', rt := Q } (L2.start Ng [.ref f]) H
/-- a lambda of X's, what it is known by and what its body reads -/
structure LamB (X : Cx) (k : Nat) (params : Arguments) (body : Expr) (scope : Scope) (d : Option Int) (tb : XK → TE) : Prop where
  w : LamW X params body scope d
  run : ∀ (A : Around) (outer : List Env) (s : Shared) (H : Hp) (E : XK) (f c' : Addr), Room k (A.deeper (lamEnv X scope s.heap.objs.size f c')) → PE (lamCx X A outer s H E scope f c') body (tb E)
/-- some lambdas of X's: each reads by its own tb -/
structure LamJ where
  params : Arguments
  body : Expr
  scope : Scope
  d : Option Int
  tb : XK → TE
section
variable {X : Cx}
def tGiveV (X : Cx) (js : List LamJ) (TT : (XK → Hp → VK → Prop) → Hp → VK → Prop) (i : Nat) : L2.St → TE := fun σ σY H Q => ∃ (f : Addr) (j : LamJ), σY[i]? = some (some (.ref f)) ∧ j ∈ js ∧ LamK H f (leOf X.env.cells X.env.qual j.params j.body j.scope) j.d ∧ TT (fun E H' Q' => j.tb E σ H' Q') H Q
theorem pev_give {js : List LamJ} {TT : (XK → Hp → VK → Prop) → Hp → VK → Prop} {x y a : Str} {g : Addr} {k i : Nat} {pg : Arguments} {bg : List Stmt} {sg : Scope} {dG kG doc pmg cdg ctg oc : Value} {an od : Option Addr} {osl : Array (Option Value)} {Ng : List Str} {p py pos : Pos}
    {s0 : Shared} {H0 : Hp} {scope : Scope} {cenv : Env} {fp : List Addr}
    (hg : Gl (X.blk s0 H0 scope cenv fp) x) (hm : X.mg x = some (.ref g)) (hk : PySem.W.keepIn X.K (.ref g) = true)
    (lk : X.K.lookup g = some ⟨oc, od, .func (PySem.W.fnOf x x pg bg sg dG kG doc pmg an cdg ctg), osl⟩) (hcg : PySem.W.codeIn X.K cdg x = true) (hb : L2.Binds X.K (PySem.W.fnOf x x pg bg sg dG kG doc pmg an cdg ctg) [a] []) (Sg : FnScope Ng [a] sg) (hNg : Ng[0]? = some a) (hva : Vis sg a)
    (hG : GivesV X Ng x sg g cdg bg a TT) (hr : Room (k + 2) X.A) (hr3 : Room 3 X.A) (hL : ∀ j ∈ js, LamB X k j.params j.body j.scope j.d j.tb) (hN : X.N[i]? = some y) (hv : Vis cenv.scope y)
    (hdb : (x == ("__debug__" : Str)) = false := by decide) (hd : (a == ("__debug__" : Str)) = false := by decide) (hcd : (a == ("__classdict__" : Str)) = false := by decide) (hd2 : (y == ("__debug__" : Str)) = false := by decide) (hcd2 : (y == ("__classdict__" : Str)) = false := by decide)
    (he : starEach [Expr.Name y py] cenv = (false, eval (.Name y py) cenv) :: starEach [] cenv := by rfl) (hpl : (backTo pos (starEach [] cenv)).any (·.1) = false := by rfl) :
    PEV X (X.blk s0 H0 scope cenv fp) (.Call (.Name x p) [.Name y py] [] pos) (tGiveV X js TT i) := by
  constructor
  rintro pins σ back pinsY s σY H Q IY ⟨f, j, hs, hj, hf, hT⟩
  refine wpAny_Call_Name_kw (ld_glob IY hg hm ?_ hdb)
  refine PySem.W.callWith_K (h₀ := X.base) IY.ok.mod.kin hk (thn ((pa_cons (pe_var (X := X.blk s0 H0 scope cenv fp) (pos := py) hN hv hd2 hcd2) pa_nil).run pos pinsY s σY H (fun vs H1 => vs = [.ref f] ∧ H1 = H) IY ⟨.ref f, hs, rfl, rfl⟩) fun us s1 ⟨vs, H1, I1, r, ev, eH⟩ => ⟨I1.kIn, ?_⟩) he hpl
  subst ev
  rw [eH] at I1
  cases r with
  | cons r1 rr =>
    cases rr
    obtain rfl := r1
    have I := back I1
    have called : codeAny (model X.prog X.w) X.A (.call (.ref g) ⟨[.ref f], []⟩) (CR L2.CX0 X.stack X.prog X.w H s1 Q L2.E0) s1 := by
      refine run_ofS (k := k + 1) (N := Ng) (ps := [a]) (us := [.ref f]) (vs := [.ref f]) lk hcg Sg hr I1.env0 (hb s1 [.ref f] I1.kIn rfl) (.cons rfl .nil) rfl fun hr' => ?_
      obtain ⟨t', z1, z2⟩ := hG f s1 H Q (fun H' => LamK H' f (leOf X.env.cells X.env.qual j.params j.body j.scope) j.d) (fun E H' Q' => j.tb E σ H' Q') (fun W pn xe p1 p2 tk => pe_actV I (hL j hj).w tk hr' (hL j hj).run hNg hva hd hcd) hf (hr3.deeper _) hT
      exact ⟨t', z1.nox, z2⟩
    refine wpAny_call (codeAny_mono called fun r s2 hq => ?_)
    match r, hq with
    | .error e, hq => exact (show False from hq).elim
    | .ok (.ret u), hq => exact I1.after hq
    | .ok .next, hq => exact False.elim hq
    | .ok .brk, hq => exact False.elim hq
    | .ok .cont, hq => exact False.elim hq
end
end Om

/-! _law_fail -/
namespace Om
open PySem PySem.Spec PyProof.Rows L2 LamX NdefX
abbrev sFail : Stmt := top 36
def nmF : Nat → Str
  | 0 => "UnknownCell"
  | 1 => "InvalidNumber"
  | _ => "TooMany"
structure FailF (K : PySem.W.Frag) (mg : Str → Option Value) (C : Nat → Addr) (CM : Addr) : Prop where
  gM : mg "MapError" = some (.ref CM)
  g : ∀ i, i < 3 → mg (nmF i) = some (.ref (C i))
  exm : ∀ i, i < 3 → PySem.W.exmOne K (.ref (C i)) (.ref CM) = some true
  exc : ∀ i, i < 3 → ExcC K (C i)
  kit : ∀ i j, i < 3 → j < 3 → PySem.W.kitOne K (.ref (C i)) (.ref (C j)) = some (decide (j = i))
  gi : mg "isinstance" = none
/-- what _law_fail makes of an error -/
inductive FailOut (C : Nat → Addr) (Q : VK) : Value → Option Addr → Hp → Prop
  | mk {j : Nat} {H' : Hp} : j < 3 → (∀ H2, Same H' H2 → Q (.str (nmF j)) H2) → FailOut C Q (.ref (C j)) none H'
def TFail (C : Nat → Addr) : (XK → Hp → VK → Prop) → Hp → VK → Prop := fun tl H Q => tl (FailOut C Q) H Q
abbrev nFail : List Str := ["_law_work", "_law_e", "_law_kinds"]
theorem scFail : FnScope nFail ["_law_work"] (defScope sFail) := ⟨rfl, rfl, rfl, by decide +kernel, rfl, by decide +kernel, by decide +kernel⟩
def kfV (j : Nat) : List V := [.bl (decide (0 = j)), .bl (decide (1 = j)), .bl (decide (2 = j)), .bl true]
def nmfV : List V := [.str (nmF 0), .str (nmF 1), .str (nmF 2), .str "another"]
theorem kfV_flat (j : Nat) : (kfV j).all flatV = true := rfl
theorem kfV_at {j : Nat} (h : j < 3) : (kfV j)[j]? = some (.bl true) := by
  have e : j = 0 ∨ j = 1 ∨ j = 2 := by omega
  rcases e with rfl | rfl | rfl <;> rfl
theorem kfV_ahead {j : Nat} (h : j < 3) {m : Nat} {z : V} (hm : m < j) (hz : (kfV j)[m]? = some z) : eqV z (.bl true) = false := by
  have e : j = 0 ∨ j = 1 ∨ j = 2 := by omega
  have e2 : m = 0 ∨ m = 1 := by omega
  rcases e with rfl | rfl | rfl <;> rcases e2 with rfl | rfl <;> first | omega | (cases hz; rfl)
theorem nmfV_at {j : Nat} (h : j < 3) : atI nmfV ((j : Nat) : Int) = some (.str (nmF j)) := by
  have e : j = 0 ∨ j = 1 ∨ j = 2 := by omega
  rcases e with rfl | rfl | rfl <;> rfl
section
variable {X : Cx} {C : Nat → Addr} {CM g : Addr} {cdg : Value}
theorem fail_gives (T : FailF X.K X.mg C CM) : GivesV X nFail "_law_fail" (defScope sFail) g cdg (defBody sFail) "_law_work" (TFail C) := by
  intro f s H Q CO tl act hc hr h
  have nd := scFail.nd
  refine ⟨_, pss_one (ps_try_as (X := (cxOf L2.CX0 X.prog X.w X.K X.mg X.base nFail "_law_fail" (defScope sFail) g cdg X.A X.stack s H L2.E0).nox) (i := 1) (c := .ref CM)
      (tb := fun W D σ H => σ[0]? = some (some (.ref f)) ∧ CO H ∧ ∃ E : XK, (∀ cls d H', E cls d H' → W cls d σ H') ∧ tl E H D.rt)
      rfl rfl nd rfl rfl ⟨rfl, by decide, .inl T.gM⟩ L2.takes0 (fun W pn xe tk _ => ?_)
      (fun a oe cls d pn hz hf =>
        pss_cons (ps_set (i := 2) nd rfl (.inl rfl) (pe_lst (pa_cons (pe_callB (isX_K (K := X.K) rfl hz hf) (by rfl) T.gi (by decide +kernel) (pa_cons (pv 1) (pa_cons (pe_glob (v := .ref (C 0)) rfl (T.g 0 (by decide)) rfl) pa_nil)))
            (pa_cons (pe_callB (isX_K (K := X.K) rfl hz hf) (by rfl) T.gi (by decide +kernel) (pa_cons (pv 1) (pa_cons (pe_glob (v := .ref (C 1)) rfl (T.g 1 (by decide)) rfl) pa_nil)))
            (pa_cons (pe_callB (isX_K (K := X.K) rfl hz hf) (by rfl) T.gi (by decide +kernel) (pa_cons (pv 1) (pa_cons (pe_glob (v := .ref (C 2)) rfl (T.g 2 (by decide)) rfl) pa_nil))) (pa_cons pe_bl pa_nil))))))
        (pss_one (ps_ret (pe_ix (ixl_K (K := X.K) rfl) (pe_lst (pa_cons pe_str (pa_cons pe_str (pa_cons pe_str (pa_cons pe_str pa_nil))))) (bm_K (K := X.K) rfl PySem.F.plainAttrs_list PySem.F.slot_list_index PySem.F.type_list_index (index_K (K := X.K) rfl) (pv 2) (pa_cons pe_bl pa_nil)) (fun _ _ => rfl)))))), ?_⟩
  · refine ⟨fun pins s' σ H' D I h' => ?_⟩
    obtain ⟨h1, h2, h3⟩ := h'
    exact (pss_one (ps_ret (act W pn xe _ _ tk))).run pins s' σ H' D I ⟨h1, h2, h3⟩
  · refine ⟨rfl, hc, FailOut C Q, fun cls d H' out => ?_, h⟩
    obtain ⟨hj, k⟩ := out
    rename_i j
    have hd : ∀ (dd : Addr), (none : Option Addr) = some dd → ∃ fs, H' dd = some (.xd fs) := fun dd e => by cases e
    refine ⟨true, T.exm j hj, fun _ a ha => ?_, fun z => by cases z⟩
    refine ⟨_, rfl, C j, _, _, _, rfl, T.exc j hj, rfl, fun u r => r, T.kit j 0 hj (by decide), hd, _, rfl, C j, _, _, _, rfl, T.exc j hj, rfl, fun u r => r, T.kit j 1 hj (by decide), hd,
      _, rfl, C j, _, _, _, rfl, T.exc j hj, rfl, fun u r => r, T.kit j 2 hj (by decide), hd, (by show 4 ≤ sizeLine; decide), fun p1 hp1 => ?_⟩
    have S1 : Same H' (upd H' p1 (.lst (kfV j))) := Same.new (Same.refl _) hp1
    have k1 : (upd H' p1 (.lst (kfV j))) p1 = some (.lst (kfV j)) := upd_same
    show (fun (Hx : Hp) => _) (upd H' p1 (.lst (kfV j)))
    generalize (upd H' p1 (.lst (kfV j))) = H1 at S1 k1 ⊢
    refine ⟨by show 4 ≤ sizeLine; decide, fun p2 hp2 => ?_⟩
    have S2 := S1.trans (Same.new (Same.refl H1) hp2 (o := .lst nmfV))
    have k2 : (upd H1 p2 (.lst nmfV)) p2 = some (.lst nmfV) := upd_same
    have k12 : (upd H1 p2 (.lst nmfV)) p1 = some (.lst (kfV j)) := Same.new (Same.refl H1) hp2 _ _ k1
    refine ⟨_, rfl, .inl ⟨rfl, _, .inl (.inl k12)⟩, p1, _, _, j, _, rfl, rfl, .inl (.inl k12), rfl, kfV_flat j, kfV_at hj, rfl, fun m z hm hz => kfV_ahead hj hm hz, ?_⟩
    refine ⟨p2, _, _, _, rfl, rfl, .inl (.inl k2), nmfV_at hj, ?_⟩
    exact k _ S2
end
end Om

namespace Om
open PySem PySem.Spec PyProof.Rows L2 LamX PySem.W NdefX
/-! ### numbers as they are told: whole ones, truth values -/
inductive Nm where
  | i (n : Int)
  | b (x : Bool)
deriving DecidableEq
def Nm.v : Nm → V
  | .i n => .int n
  | .b x => .bl x
def Nm.d : Nm → PyData
  | .i n => .int n
  | .b x => .bool x
theorem nm_dp {K : PySem.W.Frag} {H : Hp} : ∀ n : Nm, Dp K H n.v n.d
  | .i n => .int n
  | .b x => .bl x
theorem nms_dp {K : PySem.W.Frag} {H : Hp} : ∀ ns : List Nm, DpAll K H (ns.map Nm.v) (ns.map Nm.d)
  | [] => .nil
  | n :: r => .cons (nm_dp n) (nms_dp r)
theorem dp_nm {K : PySem.W.Frag} {H : Hp} {v : V} : ∀ {n : Nm}, Dp K H v n.d → v = n.v
  | .i n, h => by cases h; rfl
  | .b x, h => by cases h; rfl
theorem dp_nms {K : PySem.W.Frag} {H : Hp} : ∀ {ns : List Nm} {vs : List V}, DpAll K H vs (ns.map Nm.d) → vs = ns.map Nm.v
  | [], [], .nil => rfl
  | n :: r, v :: t, .cons h1 h2 => by rw [dp_nm h1, dp_nms h2]; rfl
def inN : Nm → Int → Int → Bool
  | .i n, lo, hi => inR n lo hi
  | .b _, _, _ => false
def spInN : Sp := fun vs H Q _ => ∃ (v : Nm) (lo hi : Int), vs = [v.v, .int lo, .int hi] ∧ Q (.bl (inN v lo hi)) H
section
variable {P : Program} {w : World} {K : PySem.W.Frag} {mg : Str → Option Value} {base : Heap}
theorem ok_inN {f : Addr} {fd : FuncData} (F : FnP K "in_range" "in_range" sInR f fd) (gisi : mg "isinstance" = none) (gint : mg "int" = none) (gbool : mg "bool" = none) : FnOk P w K mg base CX0 1 f fd nInR spInN := by
  refine F.ok scInR (fun vs H Q E h => ?_) (fun cdv A outer s H vs Q E hr h => ?_)
  · obtain ⟨v, lo, hi, rfl, _⟩ := h
    rfl
  · obtain ⟨v, lo, hi, rfl, k⟩ := h
    refine ⟨_, PSs.nox (pss_one (ps_ret (pe_and (pe_callB call_isi (by rfl) gisi (by decide +kernel) (pa_cons (pv 0) (pa_cons (pe_bltn (v := .ty "int") (by rfl) gint boot_int rfl) pa_nil)))
      (pe_and (pe_not (pe_callB call_isi (by rfl) gisi (by decide +kernel) (pa_cons (pv 0) (pa_cons (pe_bltn (v := .ty "bool") (by rfl) gbool (by decide +kernel) rfl) pa_nil))))
        (pe_one (pe_chain op_le op_le (pv 1) (pv 0) (pv 2))))))), ?_⟩
    cases v with
    | i v =>
      refine ⟨_, rfl, _, _, _, _, _, rfl, .ty "int", .base (.int _), kit_ty (a := "int") (b := "int") (r := true) (by decide +kernel), ?_⟩
      refine ⟨true, rfl, iteT ?_⟩
      refine ⟨_, rfl, _, _, _, _, _, rfl, .ty "bool", .base (.int _), kit_ty (a := "int") (b := "bool") (r := false) (by decide +kernel), false, rfl, true, rfl, iteT ?_⟩
      refine ⟨_, rfl, _, rfl, _, _, rfl, rfl, _, rfl, ?_⟩
      have k : Q (.bl (decide (lo ≤ v) && decide (v ≤ hi))) H := k
      cases e : decide (lo ≤ v) with
      | true =>
        rw [e, Bool.true_and] at k
        exact iteT ⟨_, rfl, _, _, rfl, rfl, k⟩
      | false =>
        rw [e, Bool.false_and] at k
        exact iteF k
    | b x =>
      refine ⟨_, rfl, _, _, _, _, _, rfl, .ty "int", .base (.bl _), kit_ty (a := "bool") (b := "int") (r := true) (by decide +kernel), ?_⟩
      refine ⟨true, rfl, iteT ?_⟩
      exact ⟨_, rfl, _, _, _, _, _, rfl, .ty "bool", .base (.bl _), kit_ty (a := "bool") (b := "bool") (r := true) (by decide +kernel), true, rfl, false, rfl, iteF k⟩
abbrev sAscS : Stmt := top 7
abbrev nAscS : List Str := ["text", "allowed", "sign"]
def ascLc : Expr := match retExpr ((defBody sAscS).getD 0 (.Pass ⟨0, 0, 0, 0⟩)) with
  | .BoolOp _ [_, .Compare _ _ [c] _] _ => arg0 c
  | e => e
end
/-! ### weighed_walk refuses -/
def nkvOf (ws : List (IC × Nm)) : List (List L2.Key × V) := ws.map fun x => (ick x.1, x.2.v)
def spWX (K : PySem.W.Frag) (CI CU CN CT : Addr) : Sp := fun vs H Q E => ∃ (xi ba wd : Addr) (rows : List (List Nat)) (b : IC) (ws : List (IC × Nm)), vs = [.ref xi, .ref ba, .ref wd] ∧ Isl K CI H xi rows ∧ Vd rows ∧
  H ba = some (.tup (icv b)) ∧ H wd = some (.dT (nkvOf ws)) ∧ ws.length ≤ 40 ∧
  ((∃ c ∈ b :: ws.map (·.1), c ∉ landL rows) → ∀ H', Same H H' → E (.ref CU) none H') ∧
  ((∀ c ∈ b :: ws.map (·.1), c ∈ landL rows) → (∃ x ∈ ws, inN x.2 1 1000000000 = false) → ∀ H', Same H H' → E (.ref CN) none H') ∧
  ((∀ c ∈ b :: ws.map (·.1), c ∈ landL rows) → (∀ x ∈ ws, inN x.2 1 1000000000 = true) → 7 < ws.length ∧ ∀ H', Same H H' → E (.ref CT) none H')
section
variable {P : Program} {w : World} {K : PySem.W.Frag} {mg : Str → Option Value} {base : Heap} {CI CU CN CT fN pm gt c Pw : Addr}
theorem ok_wx {f : Addr} {fd : FuncData} (F : FnP K "weighed_walk" "weighed_walk" sWW f fd) (LD : Cal P w K mg base (L2.CX P w) 4 "require_land" ["island", "cell"] (spLandX K CI CU)) (UN : ErrU K mg "InvalidNumber" CN) (UT : ErrU K mg "TooMany" CT)
    (IR : Cal P w K mg base CX0 1 "in_range" nInR spInN) (glist : mg "list" = none) (gall : mg "all" = none) (glen : mg "len" = none) (gmost : ∃ t, mg "MOST_CELLS" = some (.int 7 t)) (gwt : ∃ t, mg "MOST_WEIGHT" = some (.int 1000000000 t)) :
    FnOk P w K mg base (L2.CX P w) 13 f fd pWW (spWX K CI CU CN CT) := by
  obtain ⟨tm, gmost⟩ := gmost
  obtain ⟨tw, gwt⟩ := gwt
  refine F.ok scWW (fun vs H Q E h => ?_) (fun cdv A outer s H vs Q E hr h => ?_)
  · obtain ⟨xi, ba, wd, rows, b, ws, rfl, _⟩ := h
    rfl
  · obtain ⟨xi, ba, wd, rows, b, ws, rfl, hI, vd, hb, hwd, hl40, k1, k2, k3⟩ := h
    have nd := scWW.nd
    have hu := hr.units
    have hu1 : _ + 1 < cLine := Nat.lt_of_le_of_lt (Nat.add_le_add_left (show 1 ≤ 64 by decide) _) hu
    have hr1 : Room 1 _ := hr.mono (by decide)
    have hr4 : Room 4 _ := hr.mono (by decide)
    refine ⟨_, pss_cons (ps_for (passes_of rfl) rfl (pi_list (pe_op op_cat (pe_lst (pa_cons (pv 1) pa_nil)) (pe_callTy (cr_listT rfl) (by rfl) glist (by decide +kernel) (pa_cons (pv 2) pa_nil)))) (pg_name (i := 3) nd rfl (.inl rfl))
        (pss_one (ps_expr (pe_cal LD hr4 (passes_call (W := fun cls d _ H => E cls d H) (takes_of rfl rfl rfl rfl) fun _ _ _ _ h => h) (pa_cons (pv 0) (pa_cons (pv 3) pa_nil))))))
      (pss_cons (ps_if (pt_not (pt_val (pe_callB (crAllK (K := K) rfl rfl) (by rfl) gall (by decide +kernel) (pa_cons (pe_lock (pe_lc (own := [("weight", 8)]) (g := gName 8) rfl nd (pi_valuesT (pv 2)) blkW1 (fun _ _ _ _ _ => pg_name (i := 8) nd rfl (.inl rfl)) (fun _ _ _ _ _ => pts_nil)
          (fun _ _ _ _ _ => pe_cal IR hr1 pass0 (pa_cons (pv 8) (pa_cons pe_int (pa_cons (pe_glob (v := .int 1000000000) rfl gwt ⟨_, rfl⟩) pa_nil)))))) pa_nil)))) (pss_one (ps_raise rfl (takes_of rfl rfl rfl rfl) (pmk_own PySem.F.excBase_ValueError UN.q UN.g UN.kp (raises_own UN.r1 UN.r2) rfl))) pss_nil)
      (pss_cons (ps_if (pt_cmpR op_gt (pe_callB call_len_dT (by rfl) glen PySem.boot_len (pa_cons (pv 2) pa_nil)) (pe_glob (v := .int 7) rfl gmost ⟨_, rfl⟩) (nomark _)) (pss_one (ps_raise rfl (takes_of rfl rfl rfl rfl) (pmk_own PySem.F.excBase_ValueError UT.q UT.g UT.kp (raises_own UT.r1 UT.r2) rfl))) pss_nil) pss_no)), ?_⟩
    -- the beginning and the cells
    have hks : (nkvOf ws).map (·.1) = ((ws.map (·.1)).map icl).map (fun l => l.map Sum.inl) := by
      unfold nkvOf
      rw [List.map_map, List.map_map, List.map_map]
      rfl
    refine ⟨_, rfl, by show 1 ≤ sizeLine; decide, fun l1 hl1 => ⟨_, rfl, wd, nkvOf ws, (ws.map (·.1)).map icl, rfl, (by rw [upd_ne (ne_of_none hwd hl1)]; exact hwd), hks, fun L l0 hLk hLI hl0 => ?_⟩⟩
    have s1 := Same.new (Same.refl H) hl1 (o := .lst [.ref ba])
    have e1 : (upd H l1 (.lst [.ref ba])) l1 = some (.lst (vzI [(ba, b)])) := upd_same
    generalize upd H l1 (.lst [.ref ba]) = H1 at s1 e1 hl0 hLI ⊢
    obtain ⟨tl, eL, hC1⟩ := ti_of (H := H1) (L := L) fun q hq => by
      have h1 := hLI q hq
      have h2 : q.2 ∈ (ws.map (·.1)).map icl := by rw [← hLk]; exact List.mem_map_of_mem hq
      obtain ⟨c0, _, e⟩ := List.mem_map.mp h2
      exact ⟨c0, e.symm, by rw [h1, ← e]; rfl⟩
    have ecz : czI tl = ws.map (·.1) := by
      apply icl_map_inj
      rw [← hLk, eL]
      unfold czI
      rw [List.map_map, List.map_map]
      rfl
    have eV : (L.map fun q => V.ref q.1) = vzI tl := by
      rw [eL, List.map_map]
      rfl
    rw [eV]
    have ltl : tl.length ≤ 40 := by
      have := congrArg List.length ecz
      rw [czI_len, List.length_map] at this
      omega
    have s0 := Same.new (Same.refl H1) hl0 (o := .lst (vzI tl))
    have e0 : (upd H1 l0 (.lst (vzI tl))) l0 = some (.lst (vzI tl)) := upd_same
    generalize upd H1 l0 (.lst (vzI tl)) = H0 at s0 e0 ⊢
    refine ⟨l1, l0, _, _, rfl, rfl, s0 _ _ e1, e0, Nat.le_trans (show _ ≤ 200 by rw [vzI_len, vzI_len, List.length_singleton]; omega) (by decide), fun l2 hl2 => ?_⟩
    rw [← vzI_app]
    generalize htb : [(ba, b)] ++ tl = tb
    have cb : czI tb = b :: ws.map (·.1) := by rw [← htb, ← ecz]; rfl
    have s2 := (s1.trans s0).trans (Same.new (Same.refl H0) hl2 (o := .lst (vzI tb)))
    have hC2 : CI2 (upd H0 l2 (.lst (vzI tb))) tl := (hC1.same s0).same (Same.new (Same.refl H0) hl2)
    have e2 : (upd H0 l2 (.lst (vzI tb))) l2 = some (.lst (vzI tb)) := upd_same
    generalize upd H0 l2 (.lst (vzI tb)) = H2 at s2 e2 hC2 ⊢
    have C2 : CI2 H2 tb := fun y hy => by
      rw [← htb] at hy
      rcases List.mem_append.mp hy with h | h
      · rw [List.mem_singleton.mp h]; exact s2 _ _ hb
      · exact hC2 y h
    refine ⟨l2, rfl, ⟨_, .inl (.inl e2)⟩, ?_⟩
    refine for_list (K := K) (a := l2) (xs := vzI tb) (fun i σ H3 => H3 = H2 ∧ (∃ v3, σ = [some (.ref xi), some (.ref ba), some (.ref wd), v3, none, none, none, none, none]) ∧ ∀ c ∈ (czI tb).take i, c ∈ landL rows)
      ⟨rfl, ⟨_, rfl⟩, fun c hc => by cases hc⟩ (fun i σ H3 _ z => by rw [z.1]; exact .inl (.inl e2)) ?_ ?_
    · rintro i x σ H3 hx ⟨rfl, ⟨v3, rfl⟩, hpre⟩
      obtain ⟨q, hq, rfl, mq⟩ := FI.at hx
      have mc : q.2 ∈ czI tb := List.mem_map_of_mem mq
      have eq2 : (czI tb)[i]? = some q.2 := by
        unfold czI
        rw [List.getElem?_map, hq]
        rfl
      refine ⟨_, rfl, _, rfl, xi, q.1, rows, q.2, rfl, hI.same s2, vd.toGood2, .inl (.inl (C2 q mq)), fun e => ⟨rfl, ⟨_, rfl⟩, fun c hc => ?_⟩, fun e => ?_⟩
      · rw [List.take_succ, eq2] at hc
        rcases List.mem_append.mp hc with h | h
        · exact hpre c h
        · rw [List.mem_singleton.mp h]
          exact (land_has vd.toGood2 q.2).mp e
      · refine k1 ⟨q.2, by rw [← cb]; exact mc, fun hc => ?_⟩ _ s2
        rw [(land_has vd.toGood2 q.2).mpr hc] at e
        cases e
    · rintro σ H3 ⟨rfl, ⟨v3, rfl⟩, hall⟩
      have hland : ∀ c ∈ b :: ws.map (·.1), c ∈ landL rows := by
        rw [← cb]
        intro c hc
        refine hall c ?_
        rw [List.take_of_length_le (by rw [vzI_len, czI_len]; exact Nat.le_refl _)]
        exact hc
      -- the weights
      have hwd2 := s2 _ _ hwd
      refine ⟨wd, _, hwd2, trivial, fun od => ?_⟩
      have dF : (upd H3 wd (.frz od (.dT (nkvOf ws)))) wd = some (.frz od (.dT (nkvOf ws))) := upd_same
      have kF : ∀ H', Same (upd H3 wd (.frz od (.dT (nkvOf ws)))) H' → Same H3 (upd H' wd (.dT (nkvOf ws))) := fun H' s => same_unlock hwd2 s
      generalize upd H3 wd (.frz od (.dT (nkvOf ws))) = HF at dF kF ⊢
      refine ⟨_, rfl, wd, od, nkvOf ws, rfl, dF, fun D hD => ?_⟩
      have nDd : D ≠ wd := fun e => by rw [e, dF] at hD; cases hD
      refine lc_it (walk_valsT (d := wd) (o := od) (kvs := nkvOf ws)) (fun i H5 => Same HF H5 ∧ H5 D = some (.lst (((ws.take i).map fun x => inN x.2 1 1000000000).map V.bl))) ⟨Same.new (Same.refl HF) hD, by rw [List.take_zero]; exact upd_same⟩ (fun i H5 _ z => z.1 _ _ dF) ?_ ?_
      · rintro i y H5 H5' hi ⟨s5, l5⟩ ⟨rfl, key, he⟩
        unfold nkvOf at he hi
        rw [List.getElem?_map] at he
        rw [List.length_map] at hi
        rw [List.getElem?_eq_getElem hi] at he
        have he := Option.some.inj he
        have ey : y = (ws[i]).2.v := (congrArg Prod.snd he).symm
        subst ey
        refine ⟨rfl, tyes ?_⟩
        refine ⟨_, rfl, (ws[i]).2, 1, 1000000000, rfl, ?_⟩
        refine ⟨_, l5, Nat.lt_of_le_of_lt (show _ ≤ 100 by rw [List.length_map, List.length_map, List.length_take]; omega) (by decide), Same.updN s5 hD, ?_⟩
        rw [upd_same, List.take_succ, List.getElem?_eq_getElem hi, List.map_append, List.map_append]
        rfl
      · rintro H5 ⟨s5, l5⟩
        rw [List.take_of_length_le (by unfold nkvOf; rw [List.length_map]; exact Nat.le_refl _)] at l5
        refine ⟨s5 _ _ dF, nilArgs ?_⟩
        have sU := kF H5 s5
        have lU : (upd H5 wd (.dT (nkvOf ws))) D = some (.lst ((ws.map fun x => inN x.2 1 1000000000).map V.bl)) := by rw [upd_ne nDd]; exact l5
        generalize upd H5 wd (.dT (nkvOf ws)) = H4 at sU lU ⊢
        refine ⟨D, _, rfl, .inl (.inl lU), ?_⟩
        have s4 := s2.trans sU
        by_cases hbad : ∃ x ∈ ws, inN x.2 1 1000000000 = false
        · have eall : (ws.map fun x => inN x.2 1 1000000000).all id = false := by
            obtain ⟨x, hx, e⟩ := hbad
            rw [List.all_eq_false]
            exact ⟨_, List.mem_map.mpr ⟨x, hx, e⟩, by decide⟩
          rw [eall]
          exact ⟨_, rfl, iteT' rfl (k2 hland hbad _ s4)⟩
        · have hgood : ∀ x ∈ ws, inN x.2 1 1000000000 = true := fun x hx => by
            cases e : inN x.2 1 1000000000 with
            | true => rfl
            | false => exact absurd ⟨x, hx, e⟩ hbad
          have eall : (ws.map fun x => inN x.2 1 1000000000).all id = true := by
            rw [List.all_eq_true]
            intro y hy
            obtain ⟨x, hx, rfl⟩ := List.mem_map.mp hy
            exact hgood x hx
          rw [eall]
          obtain ⟨h7, kT⟩ := k3 hland hgood
          have hwd4 := s4 _ _ hwd
          refine ⟨_, rfl, iteF' rfl ⟨_, rfl, wd, nkvOf ws, rfl, hwd4, _, _, rfl, rfl, _, rfl, iteT' (decide_eq_true ?_) (kT _ s4)⟩⟩
          unfold nkvOf
          rw [List.length_map]
          omega
end
end Om

/-! tuple(d), the keys of d tuples of ints -/
namespace Om
open PySem PySem.Spec PyProof.Rows L2
section
variable {prog : Program} {w : World} {A : Around} {E : Value → Shared → Prop} {s : Shared} {T : String} {r d : Addr} {n : Nat} {P : Nat → Value → Prop} {OK : Heap → Prop}
theorem code_tup_src {Q₁ : Value → Shared → Prop} (K : PySem.W.KdlSrc prog w T r d n P OK) (hh : A.in1.handled = none) (hok : OK s.heap) (hsz : n ≤ sizeLine)
    (h : ∀ (h' : Heap) (tk : Nat) (acc : Array Value), (∀ b o, s.heap.get? b = some o → h'.get? b = some o) → ItemsOf P acc n → Q₁ (.ref h'.objs.size) { s with heap := h'.push { cls := .type "tuple", data := .seq acc }, toks := tk }) :
    codeAny (model prog w) A (.call (.builtin "tuple.__new__") ⟨[.type "tuple", .ref r], []⟩) (wants Q₁ E) s := by
  refine codeAny_of_tree ?_
  show wpAny _ A.in1 (do checkBuiltinCall "tuple.__new__" ⟨[.type "tuple", .ref r], []⟩; again (.builtin "tuple.__new__" ⟨[.type "tuple", .ref r], []⟩)) _ _ s
  refine wpAny_bind (wpAny_of_eq (PySem.F.newCall_tuple_1 _) (wpAny_pure ⟨plainId_quiet PySem.F.plain_tuple_new _, codeAny_builtin PySem.F.entry_tuple_new ?_⟩))
  rw [Around.under_plainId PySem.F.plain_tuple_new _]
  have hsub := sub_tuple_self
  have hinit := init_tuple_lookup
  have hmh := madeHere_tuple
  have hTI := K.type s hok
  have e1 := K.notTuple
  wp_walk using wpAny_typeOf hTI, PySem.W.kdu_collect K hh hok hsz
  intro h' tk acc hk hacc
  show wpAny _ _ (Builtin.Tuple.tupleExact acc.toList.toArray >>= fun v => ret v) _ _ _
  unfold Builtin.Tuple.tupleExact
  refine wpAny_bind (wpAny_newObj_type ?_ (by show acc.toList.toArray.size ≤ sizeLine; rw [Array.toArray_toList, hacc.1]; exact hsz))
  refine wpAny_pure ?_
  rw [Array.toArray_toList]
  exact h h' tk acc hk hacc
end
section
variable {X : Cx}
def rTupDT : List V → Hp → VK → Prop := fun vs H Q => ∃ (a : Addr) (kvs : List (List L2.Key × V)) (ks : List (List Int)), vs = [V.ref a] ∧ H a = some (.dT kvs) ∧ kvs.map (·.1) = ks.map (fun l => l.map Sum.inl) ∧
  ∀ (L : List (Addr × List Int)) (p : Addr), L.map (·.2) = ks → KeyI H L → H p = none → Q (.ref p) (upd H p (.tup (L.map fun q => V.ref q.1)))
theorem cr_tupDT (hc : X.calm = true) : CallR X (.type "tuple") rTupDT := by
  intro pins s σ H vs us Q I r h
  obtain ⟨a, kvs, ks, rfl, ha, hks, q⟩ := h
  rw [Vals.ref1 r]
  obtain ⟨z, hd, xs, rel, dd⟩ := dt_of I.hok ha
  obtain ⟨es, ep, raw, hsz, hent⟩ := dd.raw
  have hz : es.size ≤ sizeLine := by rw [hsz, ← Paired.length rel]; exact z
  refine callType_codes (Q₁ := fun obj s₁ => s₁.TypeIs obj "tuple" ∧ EP X pins σ Q obj s₁) PySem.F.called_tuple (PySem.F.typeCall_tuple_1 _) PySem.F.entry_object_init
    (code_tup_src (KdlSrc.rawDict (prog := X.prog) (w := X.w) (d := a) (es := es) (ep := ep) hd) (I.ok.hd hc) raw hz fun h' tk acc hk hacc => ⟨⟨_, Heap.get?_push_size _ rfl, rfl⟩, ?_⟩) fun obj s₁ h₁ => ?_
  · obtain ⟨L, h1, h3, e⟩ := keys_acc (P := X.prog) (w := X.w) (h := s.heap) (d := a) rel hks hsz (fun i hi => let ⟨y, h1, h2, _⟩ := hent i hi; ⟨y, h1, h2⟩) hacc
    have hll : L.length ≤ sizeLine := by
      have := congrArg List.length e
      rw [Array.length_toList, List.length_map, hacc.1] at this
      omega
    have I1 : Inv X pins σ H { s with heap := h', toks := tk } := I.kept (t' := tk) hk
    have hn : H h'.objs.size = none := I1.hok.fresh (Nat.le_refl _)
    have e2 : acc = acc.toList.toArray := by rw [Array.toArray_toList]
    have I2 : Inv X pins σ (upd H h'.objs.size (.tup (L.map fun q => V.ref q.1))) { s with heap := h'.push { cls := .type "tuple", data := .seq acc }, toks := tk } :=
      I1.laid (t' := tk) (fun b o e => Heap.get?_push_of_some _ e) (Nat.le_refl _) (show ObjOk X.prog X.w _ _ _ (.tup _) from ⟨by rw [List.length_map]; exact hll, acc.toList, by rw [e]; exact vals_of_refs L, by rw [e2]; exact IsTup.new _ _⟩)
    exact ⟨.ref h'.objs.size, _, I2, rfl, q L _ h1 h3 hn⟩
  · exact ⟨h₁.1, PySem.F.args_object_init_2 obj _, object_init_meets PySem.F.called_tuple.init.lookup PySem.F.called_tuple.made (by decide) X.prog X.w X.A.in1 _ s₁ ⟨h₁.1, rfl, h₁.2⟩⟩
end
end Om

/-! list(d.items()), the keys tuples -/
namespace Om
open PySem PySem.Spec PyProof.Rows L2 L2.DX
/-- pairs that stand anew -/
def pairsH (H : Hp) (L : DPs) : Hp := fun b => match L.find? (fun x => decide (x.1 = b)) with
  | some x => some (.tup [.ref x.2.1, x.2.2.2])
  | none => H b
theorem pairsH_off {H : Hp} {L : DPs} {b : Addr} (h : ∀ x ∈ L, x.1 ≠ b) : pairsH H L b = H b := by
  unfold pairsH
  rw [List.find?_eq_none.mpr fun x hx => by simpa using h x hx]
theorem pairsH_at {H : Hp} : ∀ {L : DPs}, (L.map (·.1)).Nodup → ∀ x ∈ L, pairsH H L x.1 = some (.tup [.ref x.2.1, x.2.2.2])
  | [], _, x, hx => by cases hx
  | y :: L, nd, x, hx => by
    obtain ⟨n1, n2⟩ := List.nodup_cons.mp nd
    unfold pairsH
    by_cases e : y.1 = x.1
    · rw [List.find?_cons_of_pos (by simpa using e)]
      rcases List.mem_cons.mp hx with rfl | hx
      · rfl
      · exact absurd (List.mem_map.mpr ⟨x, hx, e.symm⟩) n1
    · rw [List.find?_cons_of_neg (by simpa using e)]
      rcases List.mem_cons.mp hx with rfl | hx
      · exact absurd rfl e
      · have := pairsH_at (H := H) n2 x hx
        unfold pairsH at this
        exact this
def rListItT : List V → Hp → VK → Prop := fun vs H Q => ∃ (v a : Addr) (kvs : List (List L2.Key × V)), vs = [V.ref v] ∧ H v = some (itemsO v a) ∧ H a = some (.dT kvs) ∧
  ∀ (L : DPs) (p : Addr) (H' : Hp), Same H H' → H p = none → H' p = some (.lst (L.map fun x => V.ref x.1)) → (∀ x ∈ L, H' x.1 = some (.tup [.ref x.2.1, x.2.2.2]) ∧ H' x.2.1 = some (.tup (x.2.2.1.map kV))) → L.map (fun x => x.2.2) = kvs → Q (.ref p) H'
/-- the entries as pairs -/
theorem entries_pairs {H : Hp} {h' : Heap} {lo : Addr} {kvs : List (List L2.Key × V)} {xs : List (List L2.Key × Addr × Value)} {es : Array DictEntry} (rel : KT H kvs xs) (hsz : es.size = xs.length)
    (hent : ∀ i (hi : i < es.size), ∃ y, xs[i]? = some y ∧ es[i].key = .ref y.2.1 ∧ es[i].val = y.2.2) {as : List Addr} (hl : as.length = es.size) (hG : PySem.W.DilG es lo h' as) :
    ∃ L : DPs, L.map (·.1) = as ∧ L.map (fun x => x.2.2) = kvs ∧ (∀ x ∈ L, H x.2.1 = some (.tup (x.2.2.1.map kV))) ∧ ∀ x ∈ L, ∃ u, RelV x.2.2.2 u ∧ h'.get? x.1 = some { cls := .type "tuple", data := .seq #[.ref x.2.1, u] } := by
  have lk : kvs.length = xs.length := Paired.length rel
  have key : ∀ n, n ≤ as.length → ∃ L : DPs, L.map (·.1) = as.take n ∧ L.map (fun x => x.2.2) = kvs.take n ∧ (∀ x ∈ L, H x.2.1 = some (.tup (x.2.2.1.map kV))) ∧ ∀ x ∈ L, ∃ u, RelV x.2.2.2 u ∧ h'.get? x.1 = some { cls := .type "tuple", data := .seq #[.ref x.2.1, u] } := by
    intro n
    induction n with
    | zero => exact fun _ => ⟨[], rfl, rfl, fun x hx => (by cases hx), fun x hx => (by cases hx)⟩
    | succ n ih =>
      intro hn
      obtain ⟨L, h1, h2, h3, h4⟩ := ih (by omega)
      have hna : n < as.length := by omega
      have hnk : n < kvs.length := by omega
      obtain ⟨hj, e3⟩ := hG.pairs n as[n] (List.getElem?_eq_getElem hna)
      obtain ⟨y, hy, f1, f2⟩ := hent n hj
      obtain ⟨z, hz, g1, g2, g3⟩ := paired_get rel (List.getElem?_eq_getElem hnk)
      rw [hy] at hz
      cases hz
      rw [f1, f2] at e3
      refine ⟨L ++ [(as[n], y.2.1, kvs[n].1, kvs[n].2)], ?_, ?_, fun x hx => ?_, fun x hx => ?_⟩
      · rw [List.map_append, h1, List.take_succ, List.getElem?_eq_getElem hna]
        rfl
      · rw [List.map_append, h2, List.take_succ, List.getElem?_eq_getElem hnk]
        rfl
      · rcases List.mem_append.mp hx with h | h
        · exact h3 x h
        · rw [List.mem_singleton.mp h]
          exact g2
      · rcases List.mem_append.mp hx with h | h
        · exact h4 x h
        · rw [List.mem_singleton.mp h]
          exact ⟨_, g3, e3⟩
  obtain ⟨L, h1, h2, h3, h4⟩ := key as.length (Nat.le_refl _)
  rw [List.take_length] at h1
  rw [List.take_of_length_le (by omega)] at h2
  exact ⟨L, h1, h2, h3, h4⟩
theorem cr_listItT {X : Cx} (hc : X.calm = true) : CallR X (.type "list") rListItT := by
  intro pins s σ H vs us Q I r h
  obtain ⟨v, a, kvs, rfl, hv, ha, q⟩ := h
  rw [Vals.ref1 r]
  obtain ⟨z, hd, xs, rel, dd⟩ := dt_of I.hok ha
  obtain ⟨es, ep, raw, hsz, hent⟩ := dd.raw
  have lk : kvs.length = xs.length := Paired.length rel
  have view : s.heap.IsItemsView v a := (show ObjOk X.prog X.w H s.heap v (itemsO v a) from I.hok v _ hv).1
  refine PySem.W.dil_call (es := es) (ep := ep) (I.ok.hd hc) view raw (by omega) fun h' tk acc c as hk hS hl hG hacc => ?_
  obtain ⟨L, l1, l2, l3, l4⟩ := entries_pairs rel hsz (fun i hi => let ⟨y, h1, h2, h3, _⟩ := hent i hi; ⟨y, h1, h2, h3⟩) hl hG
  have nd : (L.map (·.1)).Nodup := by rw [l1]; exact List.Pairwise.imp (fun {a b} (h : a < b) => Nat.ne_of_lt h) hG.rise
  have abv : ∀ x ∈ L, s.heap.objs.size < x.1 := fun x hx => hG.above x.1 (by rw [← l1]; exact List.mem_map_of_mem hx)
  have new : ∀ x ∈ L, H x.1 = none := fun x hx => I.hok.fresh (Nat.le_of_lt (abv x hx))
  have newS : H s.heap.objs.size = none := I.hok.fresh (Nat.le_refl _)
  have ll : L.length = as.length := by rw [← l1, List.length_map]
  obtain ⟨H', eH⟩ : ∃ H', H' = pairsH (upd H s.heap.objs.size (.lst (L.map fun x => V.ref x.1))) L := ⟨_, rfl⟩
  have off : ∀ b, (∀ x ∈ L, x.1 ≠ b) → b ≠ s.heap.objs.size → H' b = H b := fun b h1 h2 => by rw [eH, pairsH_off h1, upd_ne h2]
  have eS : H' s.heap.objs.size = some (.lst (L.map fun x => V.ref x.1)) := by
    rw [eH, pairsH_off fun x hx e => by have := abv x hx; rw [e] at this; exact Nat.lt_irrefl _ this, upd_same]
  have at_ : ∀ x ∈ L, H' x.1 = some (.tup [.ref x.2.1, x.2.2.2]) := fun x hx => by rw [eH]; exact pairsH_at nd x hx
  have kp : Same H H' := fun b u e => by
    rw [off b (fun x hx e2 => by rw [← e2, new x hx] at e; cases e) (fun e2 => by rw [e2, newS] at e; cases e)]
    exact e
  have low : ∀ b o, s.heap.get? b = some o → (∀ x ∈ L, x.1 ≠ b) ∧ b ≠ s.heap.objs.size := fun b o e => ⟨fun x hx e2 => by
    have h1 := abv x hx
    have h2 := Heap.lt_size e
    rw [e2] at h1
    exact absurd (Nat.lt_trans h1 h2) (Nat.lt_irrefl _), Nat.ne_of_lt (Heap.lt_size e)⟩
  have J : Inv X pins σ H' { s with heap := h', toks := tk } := by
    refine I.call' (ch := []) rfl ⟨fun b o q _ _ _ => hk b o q, fun b o q _ _ _ => ⟨o.slots, hk b o q⟩, fun b o q n _ => ?_, fun b o q _ => ⟨o, hk b o q⟩, fun b xs q => kp b _ q, fun b o u q => kp b _ q, fun b ps q => ⟨#[], by rw [kp b _ q]; simp⟩⟩ (fun b u q => ?_) I.bare fun b z => by simp at z
    · obtain ⟨z1, z2⟩ := low b o q
      rw [off b z1 z2]
      exact n
    · by_cases hb : ∃ x ∈ L, x.1 = b
      · obtain ⟨x, hx, rfl⟩ := hb
        rw [at_ x hx] at q
        cases q
        obtain ⟨u, ru, g⟩ := l4 x hx
        exact ⟨by show 2 ≤ sizeLine; decide, [.ref x.2.1, u], .cons rfl (.cons ru .nil), ⟨_, g, rfl, _, rfl⟩⟩
      · have hb' : ∀ x ∈ L, x.1 ≠ b := fun x hx e => hb ⟨x, hx, e⟩
        by_cases hb2 : b = s.heap.objs.size
        · rw [hb2] at q ⊢
          rw [eS] at q
          cases q
          have ev : acc.toList = L.map fun x => Value.ref x.1 := by
            rw [hacc, ← l1, List.map_map]
            rfl
          have vv : ∀ M : DPs, Vals (M.map fun x => V.ref x.1) (M.map fun x => Value.ref x.1) := fun M => by
            induction M with
            | nil => exact .nil
            | cons x M ih => exact .cons rfl ih
          refine ⟨by rw [List.length_map]; omega, acc.toList, c, by rw [ev]; exact vv L, ?_⟩
          rw [Array.toArray_toList]
          exact hS
        · rw [off b hb' hb2] at q
          exact (I.hok b u q).stay (fun d v _ y => hk d v y) (fun d y => kp d _ y) fun d xs y => kp d _ y
  exact ⟨.ref s.heap.objs.size, H', J, rfl, q L _ H' kp newS eS (fun x hx => ⟨at_ x hx, kp _ _ (l3 x hx)⟩) l2⟩
end Om

namespace Om
open PySem PySem.Spec PyProof.Rows L2 LamX PySem.W NdefX
theorem cutV_drop (xs : List V) {k : Nat} (h : k ≤ xs.length) : cutV xs (some (k : Int)) none = xs.drop k := by
  unfold cutV
  show (xs.drop (HT.sIx xs.length 0 (some (k : Int)))).take (xs.length - HT.sIx xs.length 0 (some (k : Int))) = _
  rw [HT.sIx_nat, Nat.min_eq_left h]
  exact List.take_of_length_le (by rw [List.length_drop]; exact Nat.le_refl _)
theorem slAK {X : Cx} {K : PySem.W.Frag} (hK : X.K = K) : SlR X (rSlA K) := by
  subst hK
  exact sl_tupA
/-! ### weights, grown and multiplied -/
theorem cumF_congr {d : IC → IC → Nat} {wt wt' : IC → Int} : ∀ (π : List IC) (p : Int) (a : IC), (∀ c ∈ π, wt c = wt' c) → cumF d wt p a π = cumF d wt' p a π
  | [], _, _, _ => rfl
  | c :: r, p, a, h => by
    show (p + (d a c : Int)) * wt c + cumF d wt (p + (d a c : Int)) c r = (p + (d a c : Int)) * wt' c + cumF d wt' (p + (d a c : Int)) c r
    rw [h c List.mem_cons_self, cumF_congr r _ c fun x hx => h x (List.mem_cons_of_mem _ hx)]
theorem cumF_scale {d : IC → IC → Nat} {wt wt' : IC → Int} {k : Int} : ∀ (π : List IC) (p : Int) (a : IC), (∀ c ∈ π, wt' c = wt c * k) → cumF d wt' p a π = cumF d wt p a π * k
  | [], _, _, _ => by
    show (0 : Int) = 0 * k
    rw [Int.zero_mul]
  | c :: r, p, a, h => by
    show (p + (d a c : Int)) * wt' c + cumF d wt' (p + (d a c : Int)) c r = ((p + (d a c : Int)) * wt c + cumF d wt (p + (d a c : Int)) c r) * k
    rw [h c List.mem_cons_self, cumF_scale r _ c fun x hx => h x (List.mem_cons_of_mem _ hx), ← Int.mul_assoc, ← Int.add_mul]
theorem cumF_wmono {d : IC → IC → Nat} {wt wt' : IC → Int} : ∀ (π : List IC) (p : Int) (a : IC), 0 ≤ p → (∀ c ∈ π, wt c ≤ wt' c) → cumF d wt p a π ≤ cumF d wt' p a π
  | [], _, _, _, _ => Int.le_refl _
  | c :: r, p, a, hp, h => by
    have ih := cumF_wmono (d := d) r (p + (d a c : Int)) c (by omega) fun x hx => h x (List.mem_cons_of_mem _ hx)
    have h2 := Int.mul_le_mul_of_nonneg_left (h c List.mem_cons_self) (show 0 ≤ p + (d a c : Int) by omega)
    show (p + (d a c : Int)) * wt c + _ ≤ (p + (d a c : Int)) * wt' c + _
    omega
/-- a cell less: no longer waits -/
theorem cumF_outle {S : List IC} {d : IC → IC → Nat} {wt : IC → Int} (M : Mtr S d) (hw : ∀ c ∈ S, 0 ≤ wt c) {b : IC} : ∀ (π : List IC) (p : Int) (a : IC), a ∈ S → (∀ c ∈ π, c ∈ S) → π.Nodup → b ∈ π → 0 ≤ p → cumF d wt p a (outL π b) ≤ cumF d wt p a π
  | [], p, a, _, _, _, h, _ => by cases h
  | c :: r, p, a, ha, hs, nd, hbm, hp => by
    obtain ⟨n1, n2⟩ := List.nodup_cons.mp nd
    have hc := hs c List.mem_cons_self
    have hr : ∀ x ∈ r, x ∈ S := fun x hx => hs x (List.mem_cons_of_mem _ hx)
    by_cases e : c = b
    · subst e
      have eo : outL (c :: r) c = r := by
        unfold outL
        rw [List.filter_cons, if_neg (by simp)]
        exact List.filter_eq_self.mpr fun x hx => by
          have : x ≠ c := fun z => n1 (z ▸ hx)
          simpa using this
      rw [eo]
      have h1 := cumF_mono (S := S) (d := d) (wt := wt) hw r (p + (d a c : Int)) p c a hr (fun x hx => by have := M.tri a ha c hc x hx; omega) (.inr trivial)
      have h2 := Int.mul_nonneg (show 0 ≤ p + (d a c : Int) by omega) (hw c hc)
      show cumF d wt p a r ≤ (p + (d a c : Int)) * wt c + cumF d wt (p + (d a c : Int)) c r
      omega
    · have eo : outL (c :: r) b = c :: outL r b := by
        unfold outL
        rw [List.filter_cons, if_pos (by simpa using e)]
      rw [eo]
      have hbr : b ∈ r := (List.mem_cons.mp hbm).elim (fun h => absurd h.symm e) id
      have ih := cumF_outle M hw r (p + (d a c : Int)) c hc hr n2 hbr (by omega)
      show (p + (d a c : Int)) * wt c + _ ≤ (p + (d a c : Int)) * wt c + _
      omega
/-! ### of the least orders -/
theorem Lst.le {d : IC → IC → Nat} {g : List IC → Int} {a : IC} {l π : List IC} {p : PO} (h : Lst d g a l p) (e : π.Perm l) : p.1 ≤ costF d g a π := by
  have := h.least π e
  exact Int.not_lt.mp fun z => this (.inl z)
theorem Lst.congr {d : IC → IC → Nat} {wt wt' : IC → Int} {a : IC} {l : List IC} {p : PO} (h : Lst d (sumW wt) a l p) (e : ∀ c ∈ l, wt c = wt' c) : Lst d (sumW wt') a l p := by
  have key : ∀ π : List IC, π.Perm l → costF d (sumW wt) a π = costF d (sumW wt') a π := fun π hπ => by
    rw [← cumF_cost, ← cumF_cost]
    exact cumF_congr π 0 a fun c hc => e c (hπ.mem_iff.mp hc)
  exact ⟨h.perm, by rw [h.cost, key _ h.perm], fun π hπ => by rw [← key π hπ]; exact h.least π hπ⟩
theorem Lst.scale {d : IC → IC → Nat} {wt wt' : IC → Int} {k : Int} (hk : 0 < k) {a : IC} {l : List IC} {p : PO} (h : Lst d (sumW wt) a l p) (e : ∀ c ∈ l, wt' c = wt c * k) : Lst d (sumW wt') a l (p.1 * k, p.2) := by
  have key : ∀ π : List IC, π.Perm l → costF d (sumW wt') a π = costF d (sumW wt) a π * k := fun π hπ => by
    rw [← cumF_cost, ← cumF_cost]
    exact cumF_scale π 0 a fun c hc => e c (hπ.mem_iff.mp hc)
  refine ⟨h.perm, by rw [key _ h.perm, h.cost], fun π hπ hlt => h.least π hπ ?_⟩
  rw [key π hπ] at hlt
  rcases hlt with z | ⟨z1, z2⟩
  · exact .inl (Int.lt_of_mul_lt_mul_right z (Int.le_of_lt hk))
  · exact .inr ⟨Int.eq_of_mul_eq_mul_right (Int.ne_of_gt hk) z1, z2⟩
/-- what weighed waits are, of any order -/
theorem Lst.cum {d : IC → IC → Nat} {wt : IC → Int} {a : IC} {l : List IC} {p : PO} (h : Lst d (sumW wt) a l p) : cumF d wt 0 a p.2 = p.1 := by rw [cumF_cost, h.cost]
theorem Lst.cumle {d : IC → IC → Nat} {wt : IC → Int} {a : IC} {l π : List IC} {p : PO} (h : Lst d (sumW wt) a l p) (e : π.Perm l) : p.1 ≤ cumF d wt 0 a π := by
  rw [cumF_cost]
  exact h.le e
/-- heavier: not less -/
theorem Lst.heavier {d : IC → IC → Nat} {wt wt' : IC → Int} {a : IC} {l : List IC} {p p' : PO} (h : Lst d (sumW wt) a l p) (h' : Lst d (sumW wt') a l p') (e : ∀ c ∈ l, wt c ≤ wt' c) : p.1 ≤ p'.1 := by
  have h1 := h.cumle h'.perm
  have h2 := cumF_wmono (d := d) p'.2 0 a (Int.le_refl _) fun c hc => e c (h'.perm.mem_iff.mp hc)
  rw [h'.cum] at h2
  omega
/-- fewer: not more -/
theorem Lst.fewer {L : List IC} {b : IC} (hb : b ∈ L) {wt : IC → Int} {c : IC} {l : List IC} {p p' : PO} (hw : ∀ x, 0 ≤ wt x) (nd : (c :: l).Nodup) (hl : ∀ x ∈ c :: l, x ∈ L ∧ Rch L b x) (h : Lst (dN L) (sumW wt) b (c :: l) p) (h' : Lst (dN L) (sumW wt) b l p') : p'.1 ≤ p.1 := by
  have M : Mtr (b :: c :: l) (dN L) := mtr_of hb fun x hx => by
    rcases List.mem_cons.mp hx with rfl | hx
    · exact ⟨hb, Rch.refl _ _⟩
    · exact hl x hx
  have n2 : p.2.Nodup := h.perm.nodup_iff.mpr nd
  have hm : c ∈ p.2 := h.perm.mem_iff.mpr List.mem_cons_self
  have h1 := cumF_outle M (fun x _ => hw x) p.2 0 b List.mem_cons_self (fun x hx => List.mem_cons_of_mem _ (h.perm.mem_iff.mp hx)) n2 hm (Int.le_refl _)
  have h2 : (outL p.2 c).Perm l := by
    have z := h.perm.filter fun x => !decide (x = c)
    have eo : (c :: l).filter (fun x => !decide (x = c)) = l := by
      obtain ⟨m1, m2⟩ := List.nodup_cons.mp nd
      rw [List.filter_cons, if_neg (by simp)]
      exact List.filter_eq_self.mpr fun x hx => by
        have : x ≠ c := fun z => m1 (z ▸ hx)
        simpa using this
    rw [eo] at z
    exact z
  have h3 := h'.cumle h2
  rw [h.cum] at h1
  omega
/-! ### a dict's weights -/
theorem wtOf_ones {l : List IC} {c : IC} (h : c ∈ l) : wtOf (onesW l) c = 1 := by
  unfold wtOf onesW
  induction l with
  | nil => cases h
  | cons x l ih =>
    rw [List.map_cons, List.find?_cons]
    by_cases e : x = c
    · rw [decide_eq_true e]
      rfl
    · rw [decide_eq_false e]
      rcases List.mem_cons.mp h with h | h
      · exact absurd h.symm e
      · exact ih h
theorem wtOf_map {ws : WL} {k : Int} {c : IC} (h : c ∈ ws.map (·.1)) : wtOf (ws.map fun x => (x.1, x.2 * k)) c = wtOf ws c * k := by
  unfold wtOf
  induction ws with
  | nil => cases h
  | cons x ws ih =>
    rw [List.map_cons, List.find?_cons, List.find?_cons]
    by_cases e : x.1 = c
    · rw [decide_eq_true e]
      rfl
    · rw [decide_eq_false e]
      rcases List.mem_cons.mp h with h | h
      · exact absurd h.symm e
      · exact ih h
theorem wtOf_cons (x : IC × Int) (ws : WL) (c : IC) : wtOf (x :: ws) c = if x.1 = c then x.2 else wtOf ws c := by
  unfold wtOf
  rw [List.find?_cons]
  by_cases e : x.1 = c
  · rw [decide_eq_true e, if_pos e]
    rfl
  · rw [decide_eq_false e, if_neg e]
theorem wtOf_le {ws : WL} (h : ∀ x ∈ ws, 1 ≤ x.2 ∧ x.2 ≤ 9) {c : IC} (hc : c ∈ ws.map (·.1)) : 1 ≤ wtOf ws c ∧ wtOf ws c ≤ 9 := by
  unfold wtOf
  have h2 : (ws.find? fun x => decide (x.1 = c)).isSome = true := by
    rw [List.find?_isSome]
    obtain ⟨x, hx, e⟩ := List.mem_map.mp hc
    exact ⟨x, hx, decide_eq_true e⟩
  obtain ⟨y, hy⟩ := Option.isSome_iff_exists.mp h2
  rw [hy]
  exact h y (List.mem_of_find?_eq_some hy)
theorem putK_head {x : IC × Int} {ws : WL} {n : Int} (nd : ((x :: ws).map (·.1)).Nodup) : putK (wkvOf (x :: ws)) (ick x.1) (V.int n) = wkvOf ((x.1, n) :: ws) := by
  unfold putK wkvOf
  rw [if_pos (by rw [List.map_cons, List.any_cons]; simp)]
  rw [List.map_cons, List.map_cons, List.map_cons, if_pos rfl]
  congr 1
  rw [List.map_map]
  refine List.map_congr_left fun y hy => ?_
  have n1 := (List.nodup_cons.mp nd).1
  have : ick y.1 ≠ ick x.1 := fun e => n1 (List.mem_map.mpr ⟨y, hy, ick_inj e⟩)
  show (if ick y.1 = ick x.1 then (ick y.1, V.int n) else (ick y.1, V.int y.2)) = _
  rw [if_neg this]
end Om

/-! dig_walk refuses -/
namespace Om
open PySem PySem.Spec PyProof.Rows L2 LamX PySem.W NdefX
theorem nkv_ones (l : List IC) : nkvOf (l.map fun c => (c, Nm.i 1)) = wkvOf (onesW l) := by
  unfold nkvOf wkvOf onesW
  rw [List.map_map, List.map_map]
  rfl
theorem nkv_ws (ws : WL) : nkvOf (ws.map fun x => (x.1, Nm.i x.2)) = wkvOf ws := by
  unfold nkvOf wkvOf
  rw [List.map_map]
  rfl
def spDX (K : PySem.W.Frag) (CI CU CT : Addr) : Sp := fun vs H Q E => ∃ (xi ba ga : Addr) (rows : List (List Nat)) (b : IC) (tg : TI), vs = [.ref xi, .ref ba, .ref ga] ∧ Isl K CI H xi rows ∧ Vd rows ∧
  H ba = some (.tup (icv b)) ∧ SqT K H ga (vzI tg) ∧ CI2 H tg ∧ (czI tg).Nodup ∧ tg.length ≤ 40 ∧
  ((∃ c ∈ b :: czI tg, c ∉ landL rows) → ∀ H', Same H H' → E (.ref CU) none H') ∧
  ((∀ c ∈ b :: czI tg, c ∈ landL rows) → 7 < tg.length ∧ ∀ H', Same H H' → E (.ref CT) none H')
section
variable {P : Program} {w : World} {K : PySem.W.Frag} {mg : Str → Option Value} {base : Heap} {CI CU CN CT : Addr}
theorem ok_dx {f : Addr} {fd : FuncData} (F : FnP K "dig_walk" "dig_walk" sDW f fd) (WW : Cal P w K mg base (L2.CX P w) 13 "weighed_walk" pWW (spWX K CI CU CN CT)) : FnOk P w K mg base (L2.CX P w) 14 f fd ["island", "begin", "cells"] (spDX K CI CU CT) := by
  refine F.ok scDW (fun vs H Q E h => ?_) (fun cdv A outer s H vs Q E hr h => ?_)
  · obtain ⟨xi, ba, ga, rows, b, tg, rfl, _⟩ := h
    rfl
  · obtain ⟨xi, ba, ga, rows, b, tg, rfl, hI, vd, hb, hg, hCI, hnd, hl, k1, k2⟩ := h
    have nd := scDW.nd
    have hu := hr.units
    have hu3 : _ + 3 < cLine := Nat.lt_of_le_of_lt (Nat.add_le_add_left (show 3 ≤ 64 by decide) _) hu
    refine ⟨_, pss_one (ps_ret (pe_cal WW hr (passes_call (W := fun cls d _ H => E cls d H) (takes_of rfl rfl rfl rfl) fun _ _ _ _ h => h) (pa_cons (pv 0) (pa_cons (pv 1) (pa_cons
      (pe_dcT (own := [("cell", 3)]) (g := gName 3) rfl hu3 nd (pi_tup (pv 2)) blkDW (fun _ _ _ _ _ => pg_name (i := 3) nd rfl (.inl rfl)) (fun _ _ _ _ _ => pts_nil) (fun _ _ _ _ _ => pv 3) (fun _ _ _ _ _ => pe_int)) pa_nil))))), ?_⟩
    refine ⟨_, rfl, _, rfl, _, rfl, ga, rfl, ⟨_, hg⟩, fun D hD => ?_⟩
    refine wlk_it (walk_tup (K := K) (a := ga) (xs := vzI tg)) (fun i H1 => Same H H1 ∧ H1 D = some (.dT (wkvOf (onesW ((czI tg).take i))))) ⟨Same.new (Same.refl H) hD, by rw [List.take_zero]; exact upd_same⟩ (fun i H1 _ z => Same.tup z.1 hg) ?_ ?_
    · rintro i x H1 H1' hi ⟨s1, h1⟩ ⟨rfl, hx⟩
      obtain ⟨q, hq, rfl, mq⟩ := FI.at hx
      have hqc : (czI tg)[i]? = some q.2 := by
        unfold czI
        rw [List.getElem?_map, hq]
        rfl
      have hik := (List.getElem?_eq_some_iff.mp hqc).1
      have hnew : q.2 ∉ (onesW ((czI tg).take i)).map (·.1) := by
        rw [onesW_keys]
        intro hm
        obtain ⟨j, hj⟩ := List.mem_iff_getElem?.mp hm
        rw [List.getElem?_take] at hj
        split at hj
        · rename_i hji
          have hjl : j < (czI tg).length := by omega
          have e1 : (czI tg)[j] = (czI tg)[i] := by
            rw [List.getElem?_eq_getElem hjl] at hj
            rw [List.getElem?_eq_getElem hik] at hqc
            rw [Option.some.inj hj, Option.some.inj hqc]
          exact (List.pairwise_iff_getElem.mp hnd) j i hjl hik hji e1
        · cases hj
      refine ⟨rfl, tyes ?_⟩
      refine ⟨_, rfl, q.1, wkvOf (onesW ((czI tg).take i)), ick q.2, rfl, (hCI.same s1) q mq, h1, ?_, Same.updN s1 hD, ?_⟩
      · refine Nat.lt_of_le_of_lt (show _ ≤ 100 from ?_) (by decide)
        rw [wkv_len]
        unfold onesW
        rw [List.length_map, List.length_take, czI_len]
        omega
      · rw [upd_same, wkv_put hnew, List.take_succ, hqc]
        unfold onesW
        rw [List.map_append]
        rfl
    · rintro H1 ⟨s1, h1⟩
      rw [vzI_len, ← czI_len, List.take_length, ← nkv_ones] at h1
      have ek : ((czI tg).map fun c => ((c, Nm.i 1) : IC × Nm)).map (·.1) = czI tg := by
        rw [List.map_map]
        exact List.map_id _
      refine ⟨xi, ba, D, rows, b, (czI tg).map fun c => (c, Nm.i 1), rfl, hI.same s1, vd, s1 _ _ hb, h1, by rw [List.length_map, czI_len]; exact hl, fun h H' s' => ?_, fun _ h H' s' => ?_, fun h _ => ?_⟩
      · rw [ek] at h
        exact k1 h H' (s1.trans s')
      · obtain ⟨x, hx, e⟩ := h
        obtain ⟨c, _, rfl⟩ := List.mem_map.mp hx
        cases e
      · rw [ek] at h
        obtain ⟨h7, kk⟩ := k2 h
        exact ⟨by rw [List.length_map, czI_len]; exact h7, fun H' s' => kk H' (s1.trans s')⟩
end
end Om

/-! the island of the law -/
namespace Om
open PySem PySem.Spec PyProof.Rows L2 LamX PySem.W NdefX
def R35 : List (List Nat) := [[46, 46, 65], [126, 46, 46], [46, 46, 46]]
def R1 : List (List Nat) := [[46, 126, 46]]
theorem r35_vt : R35.map vt = [V.str "..A", V.str "~..", V.str "..."] := by decide +kernel
theorem r1_vt : R1.map vt = [V.str ".~."] := by decide +kernel
theorem land35 : landL R35 = [(0, 0), (0, 1), (0, 2), (1, 1), (1, 2), (2, 0), (2, 1), (2, 2)] := by decide +kernel
theorem land1 : landL R1 = [(0, 0), (0, 2)] := by decide +kernel
theorem cells35 : (cellsOf R35).length = 8 := by decide +kernel
theorem ok35 : RowsOk 12 R35 := ⟨by decide, by decide, 3, by decide, by decide, by unfold okSign; decide +kernel⟩
theorem ok1 : RowsOk 12 R1 := ⟨by decide, by decide, 3, by decide, by decide, by unfold okSign; decide +kernel⟩
theorem vd35 : Vd R35 := ok35.vd (by decide)
theorem vd1 : Vd R1 := ok1.vd (by decide)
theorem rch35 : ∀ c ∈ landL R35, Rch (landL R35) (0, 0) c := by
  have st : ∀ {c d : IC}, Rch (landL R35) (0, 0) c → d ∈ adjL c → d ∈ landL R35 → Rch (landL R35) (0, 0) d := fun h a b => h.step a b
  have h00 : Rch (landL R35) (0, 0) (0, 0) := Rch.refl _ _
  have h01 := st h00 (d := (0, 1)) (by decide +kernel) (by decide +kernel)
  have h02 := st h01 (d := (0, 2)) (by decide +kernel) (by decide +kernel)
  have h11 := st h01 (d := (1, 1)) (by decide +kernel) (by decide +kernel)
  have h12 := st h11 (d := (1, 2)) (by decide +kernel) (by decide +kernel)
  have h21 := st h11 (d := (2, 1)) (by decide +kernel) (by decide +kernel)
  have h20 := st h21 (d := (2, 0)) (by decide +kernel) (by decide +kernel)
  have h22 := st h21 (d := (2, 2)) (by decide +kernel) (by decide +kernel)
  intro c hc
  rw [land35] at hc
  simp only [List.mem_cons, List.not_mem_nil, or_false] at hc
  rcases hc with rfl | rfl | rfl | rfl | rfl | rfl | rfl | rfl <;> assumption
theorem reach35 {q c : IC} (hq : q ∈ landL R35) (hc : c ∈ landL R35) : rchB (landL R35) q c = true :=
  rchB_iff.mpr (((rch35 q hq).symm (by decide +kernel)).trans (rch35 c hc))
theorem reach1 : rchB (landL R1) (0, 0) (0, 2) = false := by
  cases e : rchB (landL R1) (0, 0) (0, 2) with
  | false => rfl
  | true =>
    have h := (rchB_iff.mp e).within (M := [(0, 0)]) (by decide +kernel) (by decide +kernel)
    exact absurd h.2 (by decide +kernel)
def odds : List IC := [(1, 0), (3, 0), (0, -1), (0, 3)]
theorem odds_off : ∀ o ∈ odds, o ∉ landL R35 := by decide +kernel
def wrongs : List Nm := [.i 0, .i 1000000001, .b true, .i (-4)]
theorem wrongs_off : ∀ n ∈ wrongs, inN n 1 1000000000 = false := by decide +kernel
theorem nd35 : (landL R35).Nodup := by rw [land35]; decide +kernel
end Om

/-! the law: its parts, what it has at hand, the first lambdas -/
namespace Om
open PySem PySem.Spec PyProof.Rows L2 LamX PySem.W NdefX
abbrev sLaw : Stmt := top 37
abbrev nLaw : List Str := ["_law_script", "_law_h", "_law_island", "_law_cells", "_law_begin", "_law_odd", "_law_wrong", "_law_many", "_law_heavy", "_law_bad", "_law_works", "_law_due", "_law_seven", "_law_found", "_law_plain", "_law_cell", "_law_work"]
theorem scLaw : FnScope nLaw ["_law_script"] (defScope sLaw) := ⟨rfl, rfl, rfl, by decide +kernel, rfl, by decide +kernel, by decide +kernel⟩
def elE (e : Expr) (i : Nat) : Expr := match e with
  | .List l _ => l.getD i e
  | e => e
def binRt (e : Expr) : Expr := match e with
  | .BinOp _ _ r _ => r
  | e => e
def stArg (s : Stmt) : Expr := match s with
  | .Expr (.Call _ [e] _ _) _ => e
  | _ => .Constant .none 0 ⟨0, 0, 0, 0⟩
def lmP (e : Expr) : Arguments := match e with
  | .Lambda p _ _ _ => p
  | _ => defArgs sLaw
def lmB (e : Expr) : Expr := match e with
  | .Lambda _ b _ _ => b
  | e => e
def lmS (e : Expr) : Scope := match e with
  | .Lambda _ _ s _ => s
  | _ => defScope sLaw
def lam1 : Expr := elE (asgExpr ((defBody sLaw).getD 7 noS)) 0
def lam2 : Expr := elE (asgExpr ((defBody sLaw).getD 7 noS)) 1
def lam3 : Expr := elE (binRt (asgExpr ((defBody sLaw).getD 8 noS))) 0
def lam4 : Expr := stArg ((defBody sLaw).getD 9 noS)
def lam5 : Expr := elE (binRt (asgExpr ((defBody sLaw).getD 10 noS))) 0
def lam6 : Expr := elE (binRt (asgExpr ((defBody sLaw).getD 10 noS))) 1
def lam7 : Expr := stArg ((defBody sLaw).getD 11 noS)
def lamQ : Str := (envOfC "law" (defScope sLaw) 0 0 .none).qual ++ "<lambda>"
def TT2 (Pt Pw : Addr) : List (Addr × Str) := [(Pt, lamQ), (Pw, qS)]
theorem tt2_1 {Pt Pw : Addr} (ne : Pt ≠ Pw) : ∀ p ∈ TT2 Pt Pw, p.1 = Pt → p.2 = lamQ := fun p hp e => by
  rcases List.mem_cons.mp hp with rfl | hp
  · rfl
  · rw [List.mem_singleton.mp hp] at e
    exact absurd e.symm ne
theorem tt2_2 {Pt Pw : Addr} (ne : Pt ≠ Pw) : ∀ p ∈ TT2 Pt Pw, p.1 = Pw → p.2 = qS := fun p hp e => by
  rcases List.mem_cons.mp hp with rfl | hp
  · exact absurd e ne
  · rw [List.mem_singleton.mp hp]
theorem tt2_m1 {Pt Pw : Addr} : (Pt, lamQ) ∈ TT2 Pt Pw := List.mem_cons_self
theorem tt2_m2 {Pt Pw : Addr} : (Pw, qS) ∈ TT2 Pt Pw := List.mem_cons_of_mem _ List.mem_cons_self
structure Parts (P : Program) (w : World) (K : PySem.W.Frag) (mg : Str → Option Value) (base : Heap) (CI C0 fN pm gt CM gF Pt Pw : Addr) (C : Nat → Addr) (fdF : FuncData) : Prop where
  mix : Cal P w K mg base CX0 1 "_law_mix" ["_law_script", "_law_seed"] (spMix K)
  nxt : Cal P w K mg base CX0 1 "_law_next" ["_law_h", "_law_limit"] spNext
  alk : Cal P w K mg base CX0 6 "_law_alike" ["_law_found", "_law_due"] (spAlike K 5)
  wwk : Cal P w K mg base (L2.CX P w) 13 "weighed_walk" pWW (spWW K CI (TT2 Pt Pw))
  wwx : Cal P w K mg base (L2.CX P w) 13 "weighed_walk" pWW (spWX K CI (C 0) (C 1) (C 2))
  dwk : Cal P w K mg base (L2.CX P w) 14 "dig_walk" ["island", "begin", "cells"] (spDW K CI (TT2 Pt Pw))
  dwx : Cal P w K mg base (L2.CX P w) 14 "dig_walk" ["island", "begin", "cells"] (spDX K CI (C 0) (C 2))
  isl : IslF K mg CI fN
  mkI : CalM P w K mg base (L2.CX P w) 4 fN ["self", "rows"] (spIsl K CI C0)
  FF : FnP K "_law_fail" "_law_fail" sFail gF fdF
  hF : mg "_law_fail" = some (.ref gF)
  bF : Binds K fdF ["_law_work"] []
  fai : FailF K mg C CM
  ne : Pt ≠ Pw
/-- what stands from the seventh row on -/
structure G5 (K : PySem.W.Frag) (CI Pt Pw : Addr) (H : Hp) (xi ce ba oa ma ha bd : Addr) (tl : TI) (q o : IC) (ws : WL) (bs : List (IC × Nm)) : Prop where
  I : Isl K CI H xi R35
  hce : H ce = some (.lst (vzI tl))
  CL : CI2 H tl
  hb : H ba = some (.tup (icv q))
  ho : H oa = some (.tup (icv o))
  hm : H ma = some (.tup (vzI tl))
  hh : H ha = some (.dT (wkvOf ws))
  hd : H bd = some (.dT (nkvOf bs))
  T : Tabs (TT2 Pt Pw) H
structure P5 (tl : TI) (q o : IC) (ws : WL) (bs : List (IC × Nm)) : Prop where
  el : czI tl = landL R35
  inb : q ∈ landL R35
  off : o ∉ landL R35
  kw : ws.map (·.1) = landL R35
  okw : ∀ x ∈ ws, 1 ≤ x.2 ∧ x.2 ≤ 1000000000
  kb : bs.map (·.1) = landL R35
  bad : ∃ x ∈ bs, inN x.2 1 1000000000 = false
section
variable {K : PySem.W.Frag} {CI Pt Pw : Addr} {H H' : Hp} {xi ce ba oa ma ha bd : Addr} {tl : TI} {q o : IC} {ws : WL} {bs : List (IC × Nm)}
theorem G5.ext (g : G5 K CI Pt Pw H xi ce ba oa ma ha bd tl q o ws bs) (T' : Tabs (TT2 Pt Pw) H') (k : ExtN H H') : G5 K CI Pt Pw H' xi ce ba oa ma ha bd tl q o ws bs where
  I := g.I.ext k
  hce := k _ _ g.hce fun ps e => by cases e
  CL := g.CL.ext k
  hb := k _ _ g.hb fun ps e => by cases e
  ho := k _ _ g.ho fun ps e => by cases e
  hm := k _ _ g.hm fun ps e => by cases e
  hh := k _ _ g.hh fun ps e => by cases e
  hd := k _ _ g.hd fun ps e => by cases e
  T := T'
theorem G5.same (g : G5 K CI Pt Pw H xi ce ba oa ma ha bd tl q o ws bs) (s : Same H H') : G5 K CI Pt Pw H' xi ce ba oa ma ha bd tl q o ws bs := g.ext (g.T.ext s) (Same.extN s)
theorem P5.len (p : P5 tl q o ws bs) : tl.length = 8 := by
  have := congrArg List.length p.el
  rw [czI_len, land35] at this
  exact this
theorem P5.lw (p : P5 tl q o ws bs) : ws.length = 8 := by
  have := congrArg List.length p.kw
  rw [List.length_map, land35] at this
  exact this
theorem P5.lb (p : P5 tl q o ws bs) : bs.length = 8 := by
  have := congrArg List.length p.kb
  rw [List.length_map, land35] at this
  exact this
end
theorem lg1 : LamG nLaw (defScope sLaw) (lmS lam1) [] := lamG_by (by decide +kernel)
theorem lg2 : LamG nLaw (defScope sLaw) (lmS lam2) ["_law_a"] := lamG_by (by decide +kernel)
theorem lg3 : LamG nLaw (defScope sLaw) (lmS lam3) ["_law_b"] := lamG_by (by decide +kernel)
theorem lg4 : LamG nLaw (defScope sLaw) (lmS lam4) ["_law_c"] := lamG_by (by decide +kernel)
theorem lg5 : LamG nLaw (defScope sLaw) (lmS lam5) ["_law_d"] := lamG_by (by decide +kernel)
theorem lg6 : LamG nLaw (defScope sLaw) (lmS lam6) ["_law_e"] := lamG_by (by decide +kernel)
theorem lg7 : LamG nLaw (defScope sLaw) (lmS lam7) ["_law_f"] := lamG_by (by decide +kernel)
/-- the law's slots there -/
abbrev s5 (xi ce ba oa ma ha bd : Addr) (v0 v1 v6 v10 v11 v12 v13 v14 v15 v16 : Option V) : L2.St := [v0, v1, some (.ref xi), some (.ref ce), some (.ref ba), some (.ref oa), v6, some (.ref ma), some (.ref ha), some (.ref bd), v10, v11, v12, v13, v14, v15, v16]
section
variable {P : Program} {w : World} {K : PySem.W.Frag} {mg : Str → Option Value} {base : Heap} {CI C0 fN pm gt CM gF Pt Pw c f : Addr} {C : Nat → Addr} {fdF : FuncData} {A : Around} {outer : List Env} {s : Shared} {H0 : Hp} {E : XK}
/-- a lambda of the law's fails with the error j -/
def LFail (P : Program) (w : World) (K : PySem.W.Frag) (mg : Str → Option Value) (base : Heap) (CI Pt Pw : Addr) (C : Nat → Addr) (f c : Addr) (A : Around) (outer : List Env) (s : Shared) (H0 : Hp) (E : XK) (lam : Expr) (d : Option Int) (j : Nat) : Prop :=
  ∃ tb : XK → TE, LamB (cxOf CX0 P w K mg base nLaw "law" (defScope sLaw) f (.ref c) A outer s H0 E).nox 14 (lmP lam) (lmB lam) (lmS lam) d tb ∧
    ∀ (xi ce ba oa ma ha bd : Addr) (tl : TI) (q o : IC) (ws : WL) (bs : List (IC × Nm)) (v0 v1 v6 v10 v11 v12 v13 v14 v15 v16 : Option V) (H : Hp) (Ex : XK) (Q : VK), G5 K CI Pt Pw H xi ce ba oa ma ha bd tl q o ws bs → P5 tl q o ws bs →
      (∀ H', Same H H' → Ex (.ref (C j)) none H') → tb Ex (s5 xi ce ba oa ma ha bd v0 v1 v6 v10 v11 v12 v13 v14 v15 v16) H Q
theorem lam1_ok (PP : Parts P w K mg base CI C0 fN pm gt CM gF Pt Pw C fdF) : LFail P w K mg base CI Pt Pw C f c A outer s H0 E lam1 none 0 := by
  refine ⟨fun E => _, ⟨⟨[], lg1, fun _ _ _ _ _ => rfl⟩, fun A outer s H E f c' hrb => pe_cal PP.dwx hrb (passes_call (W := fun cls d _ H => E cls d H) (takes_of rfl rfl rfl rfl) fun _ _ _ _ h => h) (pa_cons (pv 2) (pa_cons (pv 5) (pa_cons (pv 7) pa_nil)))⟩, ?_⟩
  intro xi ce ba oa ma ha bd tl q o ws bs v0 v1 v6 v10 v11 v12 v13 v14 v15 v16 H Ex Q g p k
  refine ⟨_, rfl, _, rfl, _, rfl, xi, oa, ma, R35, o, tl, rfl, g.I, vd35, g.ho, .inl (.inl g.hm), g.CL, by rw [p.el]; exact nd35, by rw [p.len]; decide, fun _ => k, fun h => absurd (h o List.mem_cons_self) p.off⟩
theorem lam3_ok (PP : Parts P w K mg base CI C0 fN pm gt CM gF Pt Pw C fdF) : LFail P w K mg base CI Pt Pw C f c A outer s H0 E lam3 (some 0) 0 := by
  refine ⟨fun E => _, ⟨⟨["_law_b"], lg3, "_law_b", List.mem_cons_self, fun _ _ _ _ _ _ _ => ⟨_, rfl, rfl⟩⟩, fun A outer s H E f c' hrb => pe_cal PP.wwx (hrb.mono (by decide)) (passes_call (W := fun cls d _ H => E cls d H) (takes_of rfl rfl rfl rfl) fun _ _ _ _ h => h) (pa_cons (pv 2) (pa_cons (pv 5) (pa_cons (pv 9) pa_nil)))⟩, ?_⟩
  intro xi ce ba oa ma ha bd tl q o ws bs v0 v1 v6 v10 v11 v12 v13 v14 v15 v16 H Ex Q g p k
  exact ⟨_, rfl, _, rfl, _, rfl, xi, oa, bd, R35, o, bs, rfl, g.I, vd35, g.ho, g.hd, by rw [p.lb]; decide, fun _ => k, fun h => absurd (h o List.mem_cons_self) p.off, fun h => absurd (h o List.mem_cons_self) p.off⟩
theorem lam5_ok (PP : Parts P w K mg base CI C0 fN pm gt CM gF Pt Pw C fdF) : LFail P w K mg base CI Pt Pw C f c A outer s H0 E lam5 (some 0) 1 := by
  refine ⟨fun E => _, ⟨⟨["_law_d"], lg5, "_law_d", List.mem_cons_self, fun _ _ _ _ _ _ _ => ⟨_, rfl, rfl⟩⟩, fun A outer s H E f c' hrb => pe_cal PP.wwx (hrb.mono (by decide)) (passes_call (W := fun cls d _ H => E cls d H) (takes_of rfl rfl rfl rfl) fun _ _ _ _ h => h) (pa_cons (pv 2) (pa_cons (pv 4) (pa_cons (pv 9) pa_nil)))⟩, ?_⟩
  intro xi ce ba oa ma ha bd tl q o ws bs v0 v1 v6 v10 v11 v12 v13 v14 v15 v16 H Ex Q g p k
  have hin : ∀ c ∈ q :: bs.map (·.1), c ∈ landL R35 := fun c hc => by
    rw [p.kb] at hc
    rcases List.mem_cons.mp hc with rfl | hc
    · exact p.inb
    · exact hc
  exact ⟨_, rfl, _, rfl, _, rfl, xi, ba, bd, R35, q, bs, rfl, g.I, vd35, g.hb, g.hd, by rw [p.lb]; decide, fun ⟨c, hc, hn⟩ => absurd (hin c hc) hn, fun _ _ => k, fun _ h => absurd p.bad fun ⟨x, hx, e⟩ => by rw [h x hx] at e; cases e⟩
theorem lam6_ok (PP : Parts P w K mg base CI C0 fN pm gt CM gF Pt Pw C fdF) : LFail P w K mg base CI Pt Pw C f c A outer s H0 E lam6 (some 0) 2 := by
  refine ⟨fun E => _, ⟨⟨["_law_e"], lg6, "_law_e", List.mem_cons_self, fun _ _ _ _ _ _ _ => ⟨_, rfl, rfl⟩⟩, fun A outer s H E f c' hrb => pe_cal PP.wwx (hrb.mono (by decide)) (passes_call (W := fun cls d _ H => E cls d H) (takes_of rfl rfl rfl rfl) fun _ _ _ _ h => h) (pa_cons (pv 2) (pa_cons (pv 4) (pa_cons (pv 8) pa_nil)))⟩, ?_⟩
  intro xi ce ba oa ma ha bd tl q o ws bs v0 v1 v6 v10 v11 v12 v13 v14 v15 v16 H Ex Q g p k
  have ek : (ws.map fun x => ((x.1, Nm.i x.2) : IC × Nm)).map (·.1) = ws.map (·.1) := by rw [List.map_map]; rfl
  have hin : ∀ c ∈ q :: (ws.map fun x => ((x.1, Nm.i x.2) : IC × Nm)).map (·.1), c ∈ landL R35 := fun c hc => by
    rw [ek, p.kw] at hc
    rcases List.mem_cons.mp hc with rfl | hc
    · exact p.inb
    · exact hc
  have hok : ∀ x ∈ ws.map fun x => ((x.1, Nm.i x.2) : IC × Nm), inN x.2 1 1000000000 = true := fun x hx => by
    obtain ⟨y, hy, rfl⟩ := List.mem_map.mp hx
    obtain ⟨h1, h2⟩ := p.okw y hy
    show inR y.2 1 1000000000 = true
    unfold inR
    rw [decide_eq_true h1, decide_eq_true h2]
    rfl
  exact ⟨_, rfl, _, rfl, _, rfl, xi, ba, ha, R35, q, ws.map fun x => (x.1, Nm.i x.2), rfl, g.I, vd35, g.hb, by rw [nkv_ws]; exact g.hh, by rw [List.length_map, p.lw]; decide, fun ⟨c, hc, hn⟩ => absurd (hin c hc) hn, (fun _ ⟨x, hx, e⟩ => by rw [hok x hx] at e; cases e), fun _ _ => ⟨by rw [List.length_map, p.lw]; decide, k⟩⟩
theorem lam7_ok (PP : Parts P w K mg base CI C0 fN pm gt CM gF Pt Pw C fdF) : LFail P w K mg base CI Pt Pw C f c A outer s H0 E lam7 (some 0) 2 := by
  refine ⟨fun E => _, ⟨⟨["_law_f"], lg7, "_law_f", List.mem_cons_self, fun _ _ _ _ _ _ _ => ⟨_, rfl, rfl⟩⟩, fun A outer s H E f c' hrb => pe_cal PP.dwx hrb (passes_call (W := fun cls d _ H => E cls d H) (takes_of rfl rfl rfl rfl) fun _ _ _ _ h => h) (pa_cons (pv 2) (pa_cons (pv 4) (pa_cons (pv 7) pa_nil)))⟩, ?_⟩
  intro xi ce ba oa ma ha bd tl q o ws bs v0 v1 v6 v10 v11 v12 v13 v14 v15 v16 H Ex Q g p k
  have hin : ∀ c ∈ q :: czI tl, c ∈ landL R35 := fun c hc => by
    rw [p.el] at hc
    rcases List.mem_cons.mp hc with rfl | hc
    · exact p.inb
    · exact hc
  exact ⟨_, rfl, _, rfl, _, rfl, xi, ba, ma, R35, q, tl, rfl, g.I, vd35, g.hb, .inl (.inl g.hm), g.CL, by rw [p.el]; exact nd35, by rw [p.len]; decide, fun ⟨c, hc, hn⟩ => absurd (hin c hc) hn, fun _ => ⟨by rw [p.len]; decide, k⟩⟩
end
end Om

namespace Om
open PySem PySem.Spec PyProof.Rows L2 LamX PySem.W NdefX
theorem dictPK {X : Cx} {K : PySem.W.Frag} (hK : X.K = K) (hc : X.calm = true) (hu : X.A.units + 16 < cLine) : CallR X (.type "dict") (rDictP K) := by
  subst hK
  exact cr_dictP hc hu
theorem bm0_K {X : Cx} {K : PySem.W.Frag} {T id : String} {name : Str} {r : V → List V → Hp → VK → Prop} {o : Expr} {to : TE} {apos cpos : Pos} (hK : X.K = K) (pa : PlainAttrs T) (slot : Slot T name id) (hty : typeOf (.builtin id) = pure (.type "method_descriptor")) (hm : MtR X id r) (ho : PE X o to)
    (hbase : attributeBase o name X.env (eval o X.env) = eval o X.env := by rfl) (hline : (apos.endLine == cpos.line) = true := by rfl) : PE X (.Call (.Attribute o name apos) [] [] cpos) (tBM0 K T r to) := by
  subst hK
  exact pe_bm0 pa slot hty hm ho hbase hline
theorem opCatAK {X : Cx} {K : PySem.W.Frag} (hK : X.K = K) : OpR X (binaryOp .Add) (rCatA K) := by
  subst hK
  exact op_catA
theorem nkv_put {bs : List (IC × Nm)} {c : IC} {n : Nm} (h : c ∉ bs.map (·.1)) : putK (nkvOf bs) (ick c) n.v = nkvOf (bs ++ [(c, n)]) := by
  unfold putK nkvOf
  rw [if_neg, List.map_append]
  · rfl
  · rw [List.any_eq_true]
    rintro ⟨x, hx, e⟩
    obtain ⟨y, hy, rfl⟩ := List.mem_map.mp hx
    exact h (List.mem_map.mpr ⟨y, hy, ick_inj (of_decide_eq_true e)⟩)
theorem nkv_set {bs : List (IC × Nm)} {c : IC} {n : Nm} (h : c ∈ bs.map (·.1)) : putK (nkvOf bs) (ick c) n.v = nkvOf (bs.map fun x => (x.1, if x.1 = c then n else x.2)) := by
  unfold putK nkvOf
  rw [if_pos, List.map_map, List.map_map]
  · refine List.map_congr_left fun x hx => ?_
    by_cases e : x.1 = c
    · simp [e]
    · simp [e]
      exact fun z => absurd (ick_inj z) e
  · rw [List.any_eq_true]
    obtain ⟨y, hy, e⟩ := List.mem_map.mp h
    exact ⟨_, List.mem_map_of_mem hy, decide_eq_true (by rw [← e])⟩
theorem putAll_nkv : ∀ (L : DPs) (as bs : List (IC × Nm)), L.map (fun x => (x.2.2.1, x.2.2.2)) = nkvOf bs → ((as ++ bs).map (·.1)).Nodup → putAll (nkvOf as) L = nkvOf (as ++ bs) := by
  intro L
  induction L with
  | nil =>
    intro as bs h _
    cases bs with
    | nil => rw [List.append_nil]; rfl
    | cons b bs => cases h
  | cons x L ih =>
    intro as bs h nd
    cases bs with
    | nil => cases h
    | cons b bs =>
      unfold nkvOf at h
      rw [List.map_cons, List.map_cons] at h
      injection h with h1 h2
      have e1 : x.2.2.1 = ick b.1 := congrArg Prod.fst h1
      have e2 : x.2.2.2 = b.2.v := congrArg Prod.snd h1
      have hn : b.1 ∉ as.map (·.1) := fun hm => by
        rw [List.map_append, List.map_cons, List.nodup_append] at nd
        exact nd.2.2 _ hm _ List.mem_cons_self rfl
      show putAll (putK (nkvOf as) x.2.2.1 x.2.2.2) L = _
      rw [e1, e2, nkv_put hn, ih (as ++ [b]) bs h2 (by rw [List.append_assoc]; exact nd), List.append_assoc]
      rfl
theorem cut7 {tl : TI} (h : tl.length = 8) : cutV (vzI tl) none (some 7) = vzI (tl.take 7) := by
  unfold cutV
  rw [show (some (7 : Int)) = some ((7 : Nat) : Int) from rfl, HT.sIx_nat, HT.sIx_none, vzI_len, h]
  show ((vzI tl).drop 0).take 7 = _
  rw [List.drop_zero]
  unfold vzI
  rw [List.map_take]
section
variable {P : Program} {w : World} {K : PySem.W.Frag} {mg : Str → Option Value} {base : Heap} {CI C0 fN pm gt CM gF Pt Pw c f : Addr} {C : Nat → Addr} {fdF : FuncData} {A : Around} {outer : List Env} {s : Shared} {H0 : Hp} {E : XK}
theorem lam2_ok (PP : Parts P w K mg base CI C0 fN pm gt CM gF Pt Pw C fdF) : LFail P w K mg base CI Pt Pw C f c A outer s H0 E lam2 (some 0) 0 := by
  refine ⟨fun E => _, ⟨⟨["_law_a"], lg2, "_law_a", List.mem_cons_self, fun _ _ _ _ _ _ _ => ⟨_, rfl, rfl⟩⟩, fun A outer s H E f c' hrb => pe_cal PP.dwx hrb (passes_call (W := fun cls d _ H => E cls d H) (takes_of rfl rfl rfl rfl) fun _ _ _ _ h => h) (pa_cons (pv 2) (pa_cons (pv 4) (pa_cons (pe_op (opCatAK (K := K) rfl) (pe_slice (slAK (K := K) rfl) (pv 7) po_none (po_some pe_int)) (pe_tup (pa_cons (pv 5) pa_nil))) pa_nil)))⟩, ?_⟩
  intro xi ce ba oa ma ha bd tl q o ws bs v0 v1 v6 v10 v11 v12 v13 v14 v15 v16 H Ex Q g p k
  refine ⟨_, rfl, _, rfl, _, rfl, noPart ⟨_, rfl, slA_read (.inl (.inl g.hm)) fun p1 H1 s1 h1 => ?_⟩⟩
  rw [cut7 p.len] at h1
  refine ⟨_, rfl, by show 1 ≤ sizeLine; decide, fun t ht => ?_⟩
  have s2 := Same.new (Same.refl H1) ht (o := .tup [.ref oa])
  have e2 : (upd H1 t (.tup [.ref oa])) t = some (.tup [.ref oa]) := upd_same
  have h1 := Same.tup s2 h1
  have s2 := s1.trans s2
  generalize upd H1 t (.tup [.ref oa]) = H2 at s2 e2 h1 ⊢
  refine catA_read h1 (.inl (.inl e2)) (Nat.le_of_lt (Nat.lt_of_le_of_lt (show _ ≤ 100 by rw [vzI_len, List.length_singleton, List.length_take]; omega) (by decide))) fun p2 H3 s3 h3 => ?_
  have ev : vzI (tl.take 7) ++ [V.ref oa] = vzI (tl.take 7 ++ [(oa, o)]) := by unfold vzI; rw [List.map_append]; rfl
  rw [ev] at h3
  have s13 := s2.trans s3
  have g3 := g.same s13
  have ecz : czI (tl.take 7 ++ [(oa, o)]) = (landL R35).take 7 ++ [o] := by
    rw [← p.el]
    unfold czI
    rw [List.map_append, List.map_take]
    rfl
  refine ⟨xi, ba, p2, R35, q, tl.take 7 ++ [(oa, o)], rfl, g3.I, vd35, g3.hb, h3, fun y hy => ?_, ?_, by rw [List.length_append, List.length_take, List.length_singleton]; omega, fun _ H' s' => k H' (s13.trans s'), fun h => ?_⟩
  · rcases List.mem_append.mp hy with h | h
    · exact g3.CL y (List.mem_of_mem_take h)
    · rw [List.mem_singleton.mp h]
      exact g3.ho
  · rw [ecz, List.nodup_append]
    refine ⟨nd35.sublist (List.take_sublist _ _), by simp, fun a ha b hb e => ?_⟩
    rw [List.mem_singleton.mp hb] at e
    rw [e] at ha
    exact p.off (List.mem_of_mem_take ha)
  · refine absurd (h o (List.mem_cons_of_mem _ ?_)) p.off
    rw [ecz]
    exact List.mem_append_right _ List.mem_cons_self
theorem lam4_ok (PP : Parts P w K mg base CI C0 fN pm gt CM gF Pt Pw C fdF) (glist : mg "list" = none) (gdict : mg "dict" = none) : LFail P w K mg base CI Pt Pw C f c A outer s H0 E lam4 (some 0) 0 := by
  refine ⟨fun E => _, ⟨⟨["_law_c"], lg4, "_law_c", List.mem_cons_self, fun _ _ _ _ _ _ _ => ⟨_, rfl, rfl⟩⟩, fun A outer s H E f c' hrb => by
    have hu16 := Nat.lt_of_le_of_lt (Nat.add_le_add_left (show 16 ≤ 64 by decide) _) hrb.units
    exact pe_cal PP.wwx (hrb.mono (by decide)) (passes_call (W := fun cls d _ H => E cls d H) (takes_of rfl rfl rfl rfl) fun _ _ _ _ h => h) (pa_cons (pv 2) (pa_cons (pv 4) (pa_cons
      (pe_callTy (dictPK (K := K) rfl rfl hu16) (by rfl) gdict (by decide +kernel) (pa_cons (pe_op op_cat (pe_callTy (cr_listItT rfl) (by rfl) glist (by decide +kernel) (pa_cons (bm0_K (K := K) rfl PySem.F.plainAttrs_dict PySem.F.slot_dict_items PySem.F.type_dict_items L2.DX.mt_itemsT (pv 9)) pa_nil))
        (pe_lst (pa_cons (pe_tup (pa_cons (pv 5) (pa_cons pe_int pa_nil))) pa_nil))) pa_nil)) pa_nil)))⟩, ?_⟩
  intro xi ce ba oa ma ha bd tl q o ws bs v0 v1 v6 v10 v11 v12 v13 v14 v15 v16 H Ex Q g p k
  refine ⟨_, rfl, _, rfl, _, rfl, .inr (.inr (.inl ⟨rfl, .inr ⟨_, g.hd⟩⟩)), bd, _, rfl, rfl, g.hd, fun iv hiv => ?_⟩
  have s1 := Same.new (Same.refl H) hiv (o := L2.DX.itemsO iv bd)
  have ei : (upd H iv (L2.DX.itemsO iv bd)) iv = some (L2.DX.itemsO iv bd) := upd_same
  generalize upd H iv (L2.DX.itemsO iv bd) = H1 at s1 ei ⊢
  refine nilArgs ⟨iv, bd, _, rfl, ei, s1 _ _ g.hd, fun L il H2 s2 hil0 hil hL hLk => ?_⟩
  have s12 := s1.trans s2
  refine ⟨_, rfl, by show 2 ≤ sizeLine; decide, fun t ht => ⟨by show 1 ≤ sizeLine; decide, fun l1 hl1 => ?_⟩⟩
  have s3 := Same.new (Same.refl H2) ht (o := .tup [.ref oa, .int 1])
  have e3 : (upd H2 t (.tup [.ref oa, .int 1])) t = some (.tup [.ref oa, .int 1]) := upd_same
  have hl1 : (upd H2 t (.tup [.ref oa, .int 1])) l1 = none := hl1
  show rCat _ _ (upd (upd H2 t (.tup [.ref oa, .int 1])) l1 _) _
  generalize upd H2 t (.tup [.ref oa, .int 1]) = H3 at s3 e3 hl1 ⊢
  have s4 := Same.new (Same.refl H3) hl1 (o := .lst [.ref t])
  have e4 : (upd H3 l1 (.lst [.ref t])) l1 = some (.lst [.ref t]) := upd_same
  generalize upd H3 l1 (.lst [.ref t]) = H4 at s4 e4 ⊢
  have s24 := s3.trans s4
  have lL : L.length = 8 := by
    have := congrArg List.length hLk
    unfold nkvOf at this
    rw [List.length_map, List.length_map, p.lb] at this
    exact this
  refine ⟨il, l1, _, _, rfl, rfl, s24 _ _ hil, e4, Nat.le_trans (show _ ≤ 100 by rw [List.length_map, List.length_singleton]; omega) (by decide), fun l2 hl2 => nilArgs ?_⟩
  have s5 := Same.new (Same.refl H4) hl2 (o := .lst ((L.map fun x => V.ref x.1) ++ [V.ref t]))
  have e5 : (upd H4 l2 (.lst ((L.map fun x => V.ref x.1) ++ [V.ref t]))) l2 = some (.lst ((L ++ [(t, oa, ick o, V.int 1)]).map fun x => V.ref x.1)) := by
    rw [upd_same, List.map_append]
    rfl
  generalize upd H4 l2 (.lst ((L.map fun x => V.ref x.1) ++ [V.ref t])) = H5 at s5 e5 ⊢
  have s25 := s24.trans s5
  refine ⟨l2, L ++ [(t, oa, ick o, V.int 1)], rfl, .inl (.inl e5), fun x hx => ?_, by rw [List.length_append, List.length_singleton]; omega, fun D hD => ?_⟩
  · rcases List.mem_append.mp hx with h | h
    · obtain ⟨h1, h2⟩ := hL x h
      exact ⟨s25 _ _ h1, s25 _ _ h2⟩
    · rw [List.mem_singleton.mp h]
      exact ⟨(s4.trans s5) _ _ e3, s25 _ _ (s12 _ _ g.ho)⟩
  have ep : putAll [] (L ++ [(t, oa, ick o, V.int 1)]) = nkvOf (bs ++ [(o, Nm.i 1)]) := by
    have := putAll_nkv (L ++ [(t, oa, ick o, V.int 1)]) [] (bs ++ [(o, Nm.i 1)]) (by unfold nkvOf at hLk ⊢; rw [List.map_append, List.map_append]; exact congrArg (· ++ _) hLk) (by
      rw [List.nil_append, List.map_append, p.kb, List.nodup_append]
      refine ⟨nd35, by simp, fun a ha b hb e => ?_⟩
      have : b = o := List.mem_singleton.mp hb
      rw [this] at e
      rw [e] at ha
      exact p.off ha)
    exact this
  rw [ep]
  have s6 := (s12.trans s25).trans (Same.new (Same.refl H5) hD (o := .dT (nkvOf (bs ++ [(o, Nm.i 1)]))))
  have e6 : (upd H5 D (.dT (nkvOf (bs ++ [(o, Nm.i 1)])))) D = some (.dT (nkvOf (bs ++ [(o, Nm.i 1)]))) := upd_same
  generalize upd H5 D (.dT (nkvOf (bs ++ [(o, Nm.i 1)]))) = H6 at s6 e6 ⊢
  have g6 := g.same s6
  have hoff : o ∈ q :: (bs ++ [(o, Nm.i 1)]).map (·.1) := by
    rw [List.map_append]
    exact List.mem_cons_of_mem _ (List.mem_append_right _ List.mem_cons_self)
  exact ⟨xi, ba, D, R35, q, _, rfl, g6.I, vd35, g6.hb, e6, by rw [List.length_append, p.lb, List.length_singleton]; decide, fun _ H' s' => k H' (s6.trans s'), fun h => absurd (h o hoff) p.off, fun h => absurd (h o hoff) p.off⟩
end
end Om

/-! the law's last two rows -/
namespace Om
open PySem PySem.Spec PyProof.Rows L2 LamX PySem.W NdefX
def d17 : List Stmt := (defBody sLaw).drop 17
theorem wres_nil {L : List IC} {b : IC} {p : PO} (h : WRes L b (onesW []) p) : p = (0, []) := by
  obtain ⟨p0, h1, rfl⟩ := h
  have e : p0.2 = [] := List.perm_nil.mp h1.perm
  have c := h1.cost
  rw [e] at c
  rw [e, c]
  rfl
theorem wres_one {L : List IC} {b : IC} {p : PO} (h : WRes L b (onesW [b]) p) : p = (0, [b]) := by
  obtain ⟨p0, h1, rfl⟩ := h
  have eo : outL ((onesW [b]).map (·.1)) b = [] := by
    rw [onesW_keys]
    unfold outL
    simp
  rw [eo] at h1
  have e : p0.2 = [] := List.perm_nil.mp h1.perm
  have c := h1.cost
  rw [e] at c
  rw [e, c, onesW_keys, if_pos List.mem_cons_self]
  rfl
theorem few35 : (cellsOf R35).length ≤ 62 := by rw [cells35]; decide
theorem few1 : (cellsOf R1).length ≤ 62 := by decide +kernel
section
variable {P : Program} {w : World} {K : PySem.W.Frag} {mg : Str → Option Value} {base : Heap} {CI C0 fN pm gt CM gF Pt Pw c f : Addr} {C : Nat → Addr} {fdF : FuncData}
theorem law_d17 (PP : Parts P w K mg base CI C0 fN pm gt CM gF Pt Pw C fdF) {A : Around} {outer : List Env} {s : Shared} {H0 : Hp} {E : XK} (hr : Room 16 (A.deeper (envOfC "law" (defScope sLaw) s.heap.objs.size f (.ref c)))) :
    ∃ t, PSs (cxOf CX0 P w K mg base nLaw "law" (defScope sLaw) f (.ref c) A outer s H0 E).nox d17 t ∧
      ∀ (Dn : Ends) (xi ce ba oa ma ha bd : Addr) (tl : TI) (q o : IC) (ws : WL) (bs : List (IC × Nm)) (v0 v1 v6 v10 v11 v12 v13 v14 v15 v16 : Option V) (H : Hp), G5 K CI Pt Pw H xi ce ba oa ma ha bd tl q o ws bs → P5 tl q o ws bs →
        (∀ H', Dn.rt (.bl true) H') → t Dn (s5 xi ce ba oa ma ha bd v0 v1 v6 v10 v11 v12 v13 v14 v15 v16) H := by
  obtain ⟨fI, GI, bI⟩ := PP.mkI.ex
  have TI := PP.isl
  have nd := scLaw.nd
  have hu := hr.units
  have hu1 : _ + 1 < cLine := Nat.lt_of_le_of_lt (Nat.add_le_add_left (show 1 ≤ 64 by decide) _) hu
  have hr5 : Room 5 _ := hr.mono (by decide)
  have hr6 : Room 6 _ := hr.mono (by decide)
  have hr13 : Room 13 _ := hr.mono (by decide)
  have hr14 : Room 14 _ := hr.mono (by decide)
  refine ⟨_, pss_cons (ps_if (pt_not (pt_val (pe_cal PP.alk hr6 pass0 (pa_cons (pe_lst (pa_cons (pe_cal PP.dwk hr14 passE0 (pa_cons (pv 2) (pa_cons (pv 4) (pa_cons (pe_tup pa_nil) pa_nil)))) (pa_cons (pe_cal PP.dwk hr14 passE0 (pa_cons (pv 2) (pa_cons (pv 4) (pa_cons (pe_tup (pa_cons (pv 4) pa_nil)) pa_nil)))) pa_nil)))
        (pa_cons (pe_lst (pa_cons (pe_tup (pa_cons pe_int (pa_cons (pe_lst pa_nil) pa_nil))) (pa_cons (pe_tup (pa_cons pe_int (pa_cons (pe_lst (pa_cons (pv 4) pa_nil)) pa_nil))) pa_nil))) pa_nil))))) pss_no pss_nil)
    (pss_one (ps_ret (pe_cmpR op_isN (pe_cal PP.wwk hr13 passE0 (pa_cons (pe_make TI.made GI hr5 rfl TI.gI bI .nil passE0 (pa_cons (pe_tup (pa_cons pe_str pa_nil)) pa_nil)) (pa_cons (pe_tup (pa_cons pe_int (pa_cons pe_int pa_nil))) (pa_cons (pe_disp1T hu1 (pe_tup (pa_cons pe_int (pa_cons pe_int pa_nil))) pe_int) pa_nil)))) pe_non (nomark _)))), ?_⟩
  intro Dn xi ce ba oa ma ha bd tl q o ws bs v0 v1 v6 v10 v11 v12 v13 v14 v15 v16 H g p kn
  refine ⟨_, rfl, _, rfl, by show 0 ≤ sizeLine; decide, fun t0 ht0 => ?_⟩
  have s1 := Same.new (Same.refl H) ht0 (o := .tup [])
  have e1 : (upd H t0 (.tup [])) t0 = some (.tup (vzI [])) := upd_same
  generalize upd H t0 (.tup []) = H1 at s1 e1 ⊢
  have g1 := g.same s1
  refine ⟨xi, ba, t0, R35, q, [], rfl, g1.I, vd35, few35, g1.hb, p.inb, e1, (fun y hy => by cases hy), List.nodup_nil, (fun c hc => by cases hc), by decide, g1.T, fun ⟨c, hc, _⟩ => (by cases hc), fun _ r1 o1 p1 t1 H2 x2 T2 h1 h2 h3 h4 h5 => ?_⟩
  obtain rfl := wres_nil h5
  have g2 := g1.ext T2 x2
  -- the beginning alone
  refine ⟨_, rfl, _, rfl, _, rfl, by show 1 ≤ sizeLine; decide, fun tb htb => ?_⟩
  have s3 := Same.new (Same.refl H2) htb (o := .tup [.ref ba])
  have e3 : (upd H2 tb (.tup [.ref ba])) tb = some (.tup (vzI [(ba, q)])) := upd_same
  generalize upd H2 tb (.tup [.ref ba]) = H3 at s3 e3 ⊢
  have g3 := g2.same s3
  have cb : ∀ {H : Hp}, G5 K CI Pt Pw H xi ce ba oa ma ha bd tl q o ws bs → CI2 H [(ba, q)] := fun g y hy => by
    rw [List.mem_singleton.mp hy]
    exact g.hb
  refine ⟨xi, ba, tb, R35, q, [(ba, q)], rfl, g3.I, vd35, few35, g3.hb, p.inb, e3, cb g3, by simp [czI], (fun c hc => by rw [List.mem_singleton.mp hc]; exact p.inb), by rw [List.length_singleton]; decide, g3.T, fun ⟨c, hc, hn⟩ => ?_, fun _ r2 o2 p2 t2 H4 x4 T4 k1 k2 k3 k4 k5 => ?_⟩
  · rw [List.mem_singleton.mp hc, reach35 p.inb p.inb] at hn
    cases hn
  obtain rfl := wres_one k5
  have g4 := g3.ext T4 x4
  have x24 := (Same.extN s3).trans x4
  have m1 := x24 _ _ h1 fun ps e => by cases e
  have m2 := x24 _ _ h2 fun ps e => by cases e
  have m3 := h3.ext x24
  -- the list found
  refine ⟨by show 2 ≤ sizeLine; decide, fun l1 hl1 => ?_⟩
  have s5' := Same.new (Same.refl H4) hl1 (o := .lst [.ref r1, .ref r2])
  have e5 : (upd H4 l1 (.lst [.ref r1, .ref r2])) l1 = some (.lst [.ref r1, .ref r2]) := upd_same
  generalize upd H4 l1 (.lst [.ref r1, .ref r2]) = H5 at s5' e5 ⊢
  -- the list due
  refine ⟨by show 0 ≤ sizeLine; decide, fun z1 hz1 => ⟨by show 2 ≤ sizeLine; decide, fun u1 hu1' => ?_⟩⟩
  have s6 := Same.new (Same.refl H5) hz1 (o := .lst [])
  have e6 : (upd H5 z1 (.lst [])) z1 = some (.lst (vzI [])) := upd_same
  generalize upd H5 z1 (.lst []) = H6 at s6 e6 hu1' ⊢
  have s7 := Same.new (Same.refl H6) hu1' (o := .tup [.int 0, .ref z1])
  have e7 : (upd H6 u1 (.tup [.int 0, .ref z1])) u1 = some (.tup [.int 0, .ref z1]) := upd_same
  generalize upd H6 u1 (.tup [.int 0, .ref z1]) = H7 at s7 e7 ⊢
  refine ⟨_, rfl, by show 1 ≤ sizeLine; decide, fun z2 hz2 => ⟨by show 2 ≤ sizeLine; decide, fun u2 hu2 => ⟨by show 2 ≤ sizeLine; decide, fun l2 hl2 => nilArgs ?_⟩⟩⟩
  have s8 := Same.new (Same.refl H7) hz2 (o := .lst [.ref ba])
  have e8 : (upd H7 z2 (.lst [.ref ba])) z2 = some (.lst (vzI [(ba, q)])) := upd_same
  generalize upd H7 z2 (.lst [.ref ba]) = H8 at s8 e8 hu2 hl2 ⊢
  have s9 := Same.new (Same.refl H8) hu2 (o := .tup [.int 0, .ref z2])
  have e9 : (upd H8 u2 (.tup [.int 0, .ref z2])) u2 = some (.tup [.int 0, .ref z2]) := upd_same
  generalize upd H8 u2 (.tup [.int 0, .ref z2]) = H9 at s9 e9 hl2 ⊢
  have s10 := Same.new (Same.refl H9) hl2 (o := .lst [.ref u1, .ref u2])
  have e10 : (upd H9 l2 (.lst [.ref u1, .ref u2])) l2 = some (.lst [.ref u1, .ref u2]) := upd_same
  generalize upd H9 l2 (.lst [.ref u1, .ref u2]) = Hx at s10 e10 ⊢
  have a9 := s9.trans s10
  have a8 := s8.trans a9
  have a7 := s7.trans a8
  have a6 := s6.trans a7
  have a5 := s5'.trans a6
  have g10 := g4.same a5
  have D1 : Dp K Hx (.ref r1) (pD (0, [])) := po_dp (a5 _ _ m1) (a5 _ _ m2) (m3.same a5) h4
  have D2 : Dp K Hx (.ref r2) (pD (0, [q])) := po_dp (a5 _ _ k1) (a5 _ _ k2) (k3.same a5) k4
  have F1 : Dp K Hx (.ref u1) (pD (0, [])) := po_dp (p := (0, [])) (a8 _ _ e7) (a7 _ _ e6) (fun y hy => by cases hy) rfl
  have F2 : Dp K Hx (.ref u2) (pD (0, [q])) := po_dp (p := (0, [q])) (s10 _ _ e9) (a9 _ _ e8) (cb g10) rfl
  have hok : okD 5 (.list [pD (0, []), pD (0, [q])]) = true := by
    have o1 := po_ok (p := (0, [])) (by decide)
    have o2 := po_ok (p := (0, [q])) (show [q].length ≤ 100 by rw [List.length_singleton]; decide)
    show (decide (2 ≤ 10000) && [pD (0, []), pD (0, [q])].all (okD 4)) = true
    simp only [List.all_cons, List.all_nil, o1, o2]
    rfl
  refine ⟨_, _, _, rfl, .lst (.inl (.inl (a6 _ _ e5))) (.cons D1 (.cons D2 .nil)), .lst (.inl (.inl e10)) (.cons F1 (.cons F2 .nil)), hok, fun H11 s11 => ⟨true, rfl, iteF' rfl ?_⟩⟩
  have g11 := g10.same s11
  -- one that is not reached
  refine ⟨by show 1 ≤ sizeLine; decide, fun pr hpr => nilArgs ?_⟩
  have s12 := Same.new (Same.refl H11) hpr (o := .tup [.str ".~."])
  have e12 : (upd H11 pr (.tup [.str ".~."])) pr = some (.tup (R1.map vt)) := by rw [r1_vt]; exact upd_same
  generalize upd H11 pr (.tup [.str ".~."]) = H12 at s12 e12 ⊢
  intro x2 d2 hx2 hd2 _
  refine mk_read ok1 (.inl (.inl e12)) hx2 hd2 fun H13 s13 I13 => ?_
  refine ⟨by show 2 ≤ sizeLine; decide, fun b2 hb2 => ?_⟩
  have s14 := Same.new (Same.refl H13) hb2 (o := .tup [.int 0, .int 0])
  have e14 : (upd H13 b2 (.tup [.int 0, .int 0])) b2 = some (.tup (icv (0, 0))) := upd_same
  generalize upd H13 b2 (.tup [.int 0, .int 0]) = H14 at s14 e14 ⊢
  intro d3 hd3
  have s15 := Same.new (Same.refl H14) hd3 (o := .dT [])
  have e15 : (upd H14 d3 (.dT [])) d3 = some (.dT []) := upd_same
  generalize upd H14 d3 (.dT []) = H15 at s15 e15 ⊢
  refine ⟨by show 2 ≤ sizeLine; decide, fun k3 hk3 => ?_⟩
  have s16 := Same.new (Same.refl H15) hk3 (o := .tup [.int 0, .int 2])
  have e16 : (upd H15 k3 (.tup [.int 0, .int 2])) k3 = some (.tup [.int 0, .int 2]) := upd_same
  have e15' := s16 _ _ e15
  generalize upd H15 k3 (.tup [.int 0, .int 2]) = H16 at s16 e16 e15' ⊢
  refine ⟨k3, ick (0, 2), rfl, e16, e15', nilArgs ?_⟩
  have s17 : Same H14 (upd H16 d3 (.dT [(ick (0, 2), .int 3)])) := Same.updN (s15.trans s16) hd3
  have e17 : (upd H16 d3 (.dT [(ick (0, 2), .int 3)])) d3 = some (.dT (wkvOf [((0, 2), 3)])) := upd_same
  generalize upd H16 d3 (.dT [(ick (0, 2), .int 3)]) = H17 at s17 e17 ⊢
  have g17 := g11.same (s12.trans (s13.trans (s14.trans s17)))
  refine ⟨x2, b2, d3, R1, (0, 0), [((0, 2), 3)], rfl, I13.same (s14.trans s17), vd1, few1, s17 _ _ e14, by decide +kernel, e17, by decide, fun x hx => ?_, by decide, g17.T, fun _ H18 x18 T18 => ?_, fun h => ?_⟩
  · rw [List.mem_singleton.mp hx]
    exact ⟨by decide +kernel, by decide, by decide⟩
  · refine ⟨rfl, ?_⟩
    show Dn.rt (.bl (decide (V.non = V.non))) H18
    rw [decide_eq_true rfl]
    exact kn H18
  · have := h (0, 2) List.mem_cons_self
    rw [reach1] at this
    cases this
end
end Om

/-! equal weights of 10 ** 9 -/
namespace Om
open PySem PySem.Spec PyProof.Rows L2 LamX PySem.W NdefX
def d14 : List Stmt := (defBody sLaw).drop 14
def sevL : Expr := arg0 (asgExpr ((defBody sLaw).getD 14 noS))
theorem blkS : BlkOk nLaw (defScope sLaw) (lcScope sevL) [("_law_cell", 15)] := blkOk_by (by decide +kernel)
def ws7 (l : List IC) : WL := (onesW l).map fun x => (x.1, x.2 * 1000000000)
theorem ws7_eq (l : List IC) : ws7 l = l.map fun c => (c, 1000000000) := by
  unfold ws7 onesW
  rw [List.map_map]
  rfl
theorem ws7_keys (l : List IC) : (ws7 l).map (·.1) = l := by
  rw [ws7_eq, List.map_map]
  exact List.map_id l
theorem out7 : ∀ q ∈ landL R35, (outL (landL R35) q).length = 7 := by rw [land35]; decide +kernel
theorem out_sub {l : List IC} {q c : IC} (h : c ∈ outL l q) : c ∈ l := (List.mem_filter.mp h).1
theorem po_ok5 {p : PO} (h : p.2.length ≤ 100) : okD 5 (pD p) = true := by
  have h3 := okD_ics (l := p.2) (by omega) 1
  show (decide (2 ≤ 10000) && ([PyData.int p.1, .list (p.2.map cdI)].all (okD 4))) = true
  simp only [List.all_cons, List.all_nil, h3]
  rfl
theorem cpow9 : CPow 10 9 := ⟨by decide, by decide, by decide⟩
theorem ten9 : (10 : Int) ^ (9 : Int).toNat = 1000000000 := by decide +kernel
section
variable {P : Program} {w : World} {K : PySem.W.Frag} {mg : Str → Option Value} {base : Heap} {CI C0 fN pm gt CM gF Pt Pw c f : Addr} {C : Nat → Addr} {fdF : FuncData}
theorem law_d14 (PP : Parts P w K mg base CI C0 fN pm gt CM gF Pt Pw C fdF) (gdict : mg "dict" = none) (gtuple : mg "tuple" = none) {A : Around} {outer : List Env} {s : Shared} {H0 : Hp} {E : XK} (hr : Room 16 (A.deeper (envOfC "law" (defScope sLaw) s.heap.objs.size f (.ref c)))) :
    ∃ t, PSs (cxOf CX0 P w K mg base nLaw "law" (defScope sLaw) f (.ref c) A outer s H0 E).nox d14 t ∧
      ∀ (Dn : Ends) (xi ce ba oa ma ha bd : Addr) (tl : TI) (q o : IC) (ws : WL) (bs : List (IC × Nm)) (v0 v1 v6 v10 v11 v12 v13 v14 v15 v16 : Option V) (H : Hp), G5 K CI Pt Pw H xi ce ba oa ma ha bd tl q o ws bs → P5 tl q o ws bs →
        (∀ H', Dn.rt (.bl true) H') → t Dn (s5 xi ce ba oa ma ha bd v0 v1 v6 v10 v11 v12 v13 v14 v15 v16) H := by
  obtain ⟨te, qe, re⟩ := law_d17 (f := f) (c := c) (H0 := H0) (E := E) (s := s) (A := A) (outer := outer) PP hr
  have nd := scLaw.nd
  have hu := hr.units
  have hu16 := Nat.lt_of_le_of_lt (Nat.add_le_add_left (show 16 ≤ 64 by decide) _) hu
  have hr6 : Room 6 _ := hr.mono (by decide)
  have hr13 : Room 13 _ := hr.mono (by decide)
  have hr14 : Room 14 _ := hr.mono (by decide)
  refine ⟨_, pss_cons (ps_set (i := 12) nd rfl (.inl rfl) (pe_callTy (dictPK (K := K) rfl rfl hu16) (by rfl) gdict (by decide +kernel) (pa_cons (pe_lc (own := [("_law_cell", 15)]) (g := gName 15) rfl nd (pi_listK (K := K) rfl (pv 3)) blkS (fun _ _ _ _ _ => pg_name (i := 15) nd rfl (.inl rfl))
        (fun _ _ _ _ _ => pts_one (pt_cmpR (neDK (K := K) rfl hu) (pv 15) (pv 4) (by with_unfolding_all rfl))) (fun _ _ _ _ _ => pe_tup (pa_cons (pv 15) (pa_cons (pe_op op_pow pe_int pe_int) pa_nil)))) pa_nil)))
    (pss_cons (ps_par (i := 13) (j := 14) rfl nd rfl rfl (by decide) rfl rfl (pa_cons (pe_cal PP.wwk hr13 passE0 (pa_cons (pv 2) (pa_cons (pv 4) (pa_cons (pv 12) pa_nil)))) (pa_cons (pe_cal PP.dwk hr14 passE0 (pa_cons (pv 2) (pa_cons (pv 4) (pa_cons (pe_callTy (cr_tupDT rfl) (by rfl) gtuple (by decide +kernel) (pa_cons (pv 12) pa_nil)) pa_nil)))) pa_nil)) rfl)
    (pss_cons (ps_if (pt_not (pt_val (pe_cal PP.alk hr6 pass0 (pa_cons (pv 13) (pa_cons (pe_tup (pa_cons (pe_op op_mul (pe_ix ix_tup (pv 14) pe_int (fun _ _ => rfl)) (pe_op op_pow pe_int pe_int)) (pa_cons (pe_ix ix_tup (pv 14) pe_int (fun _ _ => rfl)) pa_nil))) pa_nil))))) pss_no pss_nil)
    qe)), ?_⟩
  intro Dn xi ce ba oa ma ha bd tl q o ws bs v0 v1 v6 v10 v11 v12 v13 v14 v15 v16 H g p kn
  have lt8 := p.len
  have l7 := out7 q p.inb
  have ndo : (outL (landL R35) q).Nodup := nd35.filter _
  -- the weights
  refine ⟨_, rfl, ce, rfl, ⟨_, .inl (.inl g.hce)⟩, fun D hD => ?_⟩
  refine lc_list (K := K) (a := ce) (xs := vzI tl) (fun i H1 => Same H H1 ∧ ∃ L : DPs, H1 D = some (.lst (L.map fun x => V.ref x.1)) ∧ (∀ x ∈ L, H1 x.1 = some (.tup [.ref x.2.1, x.2.2.2]) ∧ H1 x.2.1 = some (.tup (x.2.2.1.map kV))) ∧ L.map (fun x => (x.2.2.1, x.2.2.2)) = wkvOf (ws7 (outL ((czI tl).take i) q)) ∧ L.length ≤ i)
    ⟨Same.new (Same.refl H) hD, [], upd_same, fun x hx => (by cases hx), by rw [List.take_zero]; rfl, Nat.le_refl _⟩ (fun i H1 _ z => .inl (.inl (z.1 _ _ g.hce))) ?_ ?_
  · rintro i y H1 hy ⟨s1, L, l1, l2, l3, l4⟩
    obtain ⟨x, hx, rfl, mx⟩ := FI.at hy
    have hi : i < tl.length := (List.getElem?_eq_some_iff.mp hx).1
    have hxc : (czI tl)[i]? = some x.2 := by
      unfold czI
      rw [List.getElem?_map, hx]
      rfl
    have etk : outL ((czI tl).take (i + 1)) q = outL ((czI tl).take i) q ++ (if x.2 = q then [] else [x.2]) := by
      unfold outL
      rw [List.take_succ, hxc, List.filter_append]
      by_cases e : x.2 = q
      · simp [e]
      · simp [e]
    refine ⟨rfl, ?_⟩
    refine ⟨_, rfl, _, rfl, cdI x.2, cdI q, cdI_dp ((g.CL.same s1) x mx), cdI_dp (s1 _ _ g.hb), sh_ic _, sh_ic _, _, rfl, ?_⟩
    rw [eqv_ic]
    by_cases e : x.2 = q
    · refine iteF' (by rw [decide_eq_true e]; rfl) ⟨s1, L, l1, l2, ?_, by omega⟩
      rw [l3, etk, if_pos e, List.append_nil]
    · refine iteT' (by rw [decide_eq_false e]; rfl) ?_
      refine ⟨_, rfl, _, _, rfl, rfl, cpow9, ?_⟩
      refine ⟨by show 2 ≤ sizeLine; decide, fun t ht => ?_⟩
      have eh : (upd H1 t (.tup [.ref x.1, (fun i j : Int => V.int (i ^ j.toNat)) 10 9])) = upd H1 t (.tup [.ref x.1, .int 1000000000]) := by
        show upd H1 t (.tup [.ref x.1, .int ((10 : Int) ^ (9 : Int).toNat)]) = _
        rw [ten9]
      rw [eh]
      have s2 := Same.new (Same.refl H1) ht (o := .tup [.ref x.1, .int 1000000000])
      have e2 : (upd H1 t (.tup [.ref x.1, .int 1000000000])) t = some (.tup [.ref x.1, .int 1000000000]) := upd_same
      generalize upd H1 t (.tup [.ref x.1, .int 1000000000]) = H2 at s2 e2 ⊢
      have lD := s2 _ _ l1
      have tu : ∀ {a : Addr} {vs : List V}, H2 a = some (.tup vs) → (upd H2 D (.lst ((L.map fun x => V.ref x.1) ++ [.ref t]))) a = some (.tup vs) := fun {a vs} h => by
        rw [upd_ne (ne_of h lD fun e => by cases e)]
        exact h
      refine ⟨_, lD, Nat.lt_of_le_of_lt (show _ ≤ 100 by rw [List.length_map]; omega) (by decide), Same.updN (s1.trans s2) hD, L ++ [(t, x.1, ick x.2, .int 1000000000)], by rw [upd_same, List.map_append]; rfl, fun z hz => ?_, ?_, by rw [List.length_append, List.length_singleton]; omega⟩
      · rcases List.mem_append.mp hz with h | h
        · obtain ⟨h1, h2⟩ := l2 z h
          exact ⟨tu (s2 _ _ h1), tu (s2 _ _ h2)⟩
        · rw [List.mem_singleton.mp h]
          exact ⟨tu e2, tu (s2 _ _ ((g.CL.same s1) x mx))⟩
      · rw [List.map_append, l3, etk, if_neg e, ws7_eq, ws7_eq]
        unfold wkvOf
        rw [List.map_append, List.map_append]
        rfl
  rintro H1 ⟨s1, L, l1, l2, l3, l4⟩
  rw [vzI_len, ← czI_len, List.take_length, p.el] at l3
  rw [vzI_len] at l4
  refine nilArgs ?_
  refine ⟨D, L, rfl, .inl (.inl l1), l2, by omega, fun sd hsd => ?_⟩
  have epa : putAll [] L = wkvOf (ws7 (outL (landL R35) q)) := putAll_new L [] (ws7 (outL (landL R35) q)) l3 (by rw [List.nil_append, ws7_keys]; exact ndo)
  rw [epa]
  have s2 := s1.trans (Same.new (Same.refl H1) hsd (o := .dT (wkvOf (ws7 (outL (landL R35) q)))))
  have e2 : (upd H1 sd (.dT (wkvOf (ws7 (outL (landL R35) q))))) sd = some (.dT (wkvOf (ws7 (outL (landL R35) q)))) := upd_same
  generalize upd H1 sd (.dT (wkvOf (ws7 (outL (landL R35) q)))) = H2 at s2 e2 ⊢
  have g2 := g.same s2
  have hall : ∀ c ∈ outL (landL R35) q, rchB (landL R35) q c = true := fun c hc => reach35 p.inb (out_sub hc)
  refine ⟨_, rfl, _, rfl, _, rfl, nilArgs ?_⟩
  refine ⟨xi, ba, sd, R35, q, ws7 (outL (landL R35) q), rfl, g2.I, vd35, few35, g2.hb, p.inb, e2, by rw [ws7_keys]; exact ndo, fun x hx => ?_, by rw [ws7_eq, List.length_map, l7]; decide, g2.T, fun ⟨c, hc, hn⟩ => ?_, fun _ r1 o1 p1 t1 H3 x3 T3 h1 h2 h3 h4 h5 => ?_⟩
  · rw [ws7_eq] at hx
    obtain ⟨c, hc, rfl⟩ := List.mem_map.mp hx
    exact ⟨out_sub hc, show (1 : Int) ≤ 1000000000 by decide, show (1000000000 : Int) ≤ 1000000000 by decide⟩
  · rw [ws7_keys] at hc
    rw [hall c hc] at hn
    cases hn
  have g3 := g2.ext T3 x3
  have e3 := x3 _ _ e2 fun ps e => by cases e
  -- the plain walk
  have ekey : (wkvOf (ws7 (outL (landL R35) q))).map (·.1) = ((outL (landL R35) q).map icl).map (fun l => l.map Sum.inl) := by
    rw [ws7_eq]
    unfold wkvOf
    rw [List.map_map, List.map_map, List.map_map]
    rfl
  refine ⟨_, rfl, _, rfl, _, rfl, nilArgs ⟨sd, _, _, rfl, e3, ekey, fun L2 tp hL2 hK2 htp => nilArgs ?_⟩⟩
  obtain ⟨tw, eL, hC1⟩ := ti_of (H := H3) (L := L2) fun y hy => by
    have h1 := hK2 y hy
    have h2 : y.2 ∈ (outL (landL R35) q).map icl := by rw [← hL2]; exact List.mem_map_of_mem hy
    obtain ⟨c0, _, e⟩ := List.mem_map.mp h2
    exact ⟨c0, e.symm, by rw [h1, ← e]; rfl⟩
  have ecz : czI tw = outL (landL R35) q := by
    apply icl_map_inj
    rw [← hL2, eL]
    unfold czI
    rw [List.map_map, List.map_map]
    rfl
  have eV : (L2.map fun y => V.ref y.1) = vzI tw := by
    rw [eL, List.map_map]
    rfl
  rw [eV]
  have s4 := Same.new (Same.refl H3) htp (o := .tup (vzI tw))
  have e4 : (upd H3 tp (.tup (vzI tw))) tp = some (.tup (vzI tw)) := upd_same
  have c4 := hC1.same s4
  generalize upd H3 tp (.tup (vzI tw)) = H4 at s4 e4 c4 ⊢
  have g4 := g3.same s4
  have ltw : tw.length = 7 := by rw [← czI_len, ecz, l7]
  refine ⟨xi, ba, tp, R35, q, tw, rfl, g4.I, vd35, few35, g4.hb, p.inb, e4, c4, by rw [ecz]; exact ndo, fun c hc => by rw [ecz] at hc; exact out_sub hc, by omega, g4.T, fun ⟨c, hc, hn⟩ => ?_, fun _ r2 o2 p2 t2 H5 x5 T5 k1 k2 k3 k4 k5 => ?_⟩
  · rw [ecz] at hc
    rw [hall c hc] at hn
    cases hn
  rw [ecz] at k5
  have g5 := g4.ext T5 x5
  have x35 := (Same.extN s4).trans x5
  have m1 := x35 _ _ h1 fun ps e => by cases e
  have m2 := x35 _ _ h2 fun ps e => by cases e
  have m3 := h3.ext x35
  have L1 := h5.lst p.inb (by rw [ws7_keys]; exact ndo) (fun c hc => by rw [ws7_keys] at hc; exact ⟨out_sub hc, rchB_iff.mp (hall c hc)⟩) fun c hc => by
    rw [ws7_keys] at hc
    unfold ws7
    rw [wtOf_map (by rw [onesW_keys]; exact hc), wtOf_ones hc]
    decide
  have L2' := k5.lst p.inb (by rw [onesW_keys]; exact ndo) (fun c hc => by rw [onesW_keys] at hc; exact ⟨out_sub hc, rchB_iff.mp (hall c hc)⟩) fun c hc => by
    rw [onesW_keys] at hc
    rw [wtOf_ones hc]
    decide
  rw [ws7_keys] at L1
  rw [onesW_keys] at L2'
  have L3 := L2'.scale (wt' := wtOf (ws7 (outL (landL R35) q))) (k := 1000000000) (by decide) fun c hc => wtOf_map (by rw [onesW_keys]; exact hc)
  obtain rfl : p1 = (p2.1 * 1000000000, p2.2) := L1.uniq L3 (List.Perm.refl _)
  refine ⟨_, _, rfl, ?_⟩
  -- compared
  refine ⟨_, rfl, ?_⟩
  refine ⟨_, rfl, r2, _, 0, _, rfl, rfl, .inl (.inl k1), rfl, _, _, rfl, rfl, cpow9, _, _, rfl, rfl, .inr ?_, _, rfl, r2, _, 1, _, rfl, rfl, .inl (.inl k1), rfl, by show 2 ≤ sizeLine; decide, fun td htd => nilArgs ?_⟩
  · show -(2 ^ 64) < (10 : Int) ^ (9 : Int).toNat ∧ (10 : Int) ^ (9 : Int).toNat < 2 ^ 64
    rw [ten9]
    decide
  have s6 := Same.new (Same.refl H5) htd (o := .tup [.int (p2.1 * 1000000000), .ref o2])
  have e6 : (upd H5 td (.tup [.int (p2.1 * 1000000000), .ref o2])) td = some (.tup [.int (p2.1 * 1000000000), .ref o2]) := upd_same
  have eh : (upd H5 td (.tup [.int (p2.1 * (10 : Int) ^ (9 : Int).toNat), .ref o2])) = upd H5 td (.tup [.int (p2.1 * 1000000000), .ref o2]) := by rw [ten9]
  have D1 : Dp K (upd H5 td (.tup [.int (p2.1 * 1000000000), .ref o2])) (.ref r1) (pD (p2.1 * 1000000000, p2.2)) := po_dp (s6 _ _ m1) (s6 _ _ m2) (m3.same s6) h4
  have D2 : Dp K (upd H5 td (.tup [.int (p2.1 * 1000000000), .ref o2])) (.ref td) (pD (p2.1 * 1000000000, p2.2)) := po_dp (p := (p2.1 * 1000000000, p2.2)) e6 (s6 _ _ k2) (k3.same s6) k4
  have hok : okD 5 (pD (p2.1 * 1000000000, p2.2)) = true := po_ok5 (p := (p2.1 * 1000000000, p2.2)) (by have := L2'.perm.length_eq; show p2.2.length ≤ 100; omega)
  have g6 := g5.same s6
  rw [← eh] at D1 D2 g6
  refine ⟨_, _, _, rfl, D1, D2, hok, fun H7 s7 => ⟨true, rfl, iteF' rfl ?_⟩⟩
  exact re Dn xi ce ba oa ma ha bd tl q o ws bs _ _ _ _ _ _ _ _ _ _ H7 (g6.same s7) p kn
end
end Om

/-! the calls that fail -/
namespace Om
open PySem PySem.Spec PyProof.Rows L2 LamX PySem.W NdefX
def d12 : List Stmt := (defBody sLaw).drop 12
def worL : Expr := arg0 (notE (testE ((defBody sLaw).getD 13 noS)))
theorem blkWo : BlkOk nLaw (defScope sLaw) (lcScope worL) [("_law_work", 16)] := blkOk_by (by decide +kernel)
def lamsL : List (Expr × Option Int × Nat) := [(lam1, none, 0), (lam2, some 0, 0), (lam3, some 0, 0), (lam4, some 0, 0), (lam5, some 0, 1), (lam6, some 0, 2), (lam7, some 0, 2)]
abbrev leX (X : Cx) (z : Expr × Option Int × Nat) : Addr → LE := leOf X.env.cells X.env.qual (lmP z.1) (lmB z.1) (lmS z.1)
/-- the lambdas made so far -/
structure WK (X : Cx) (H : Hp) (wk : Addr) (fs : List Addr) (zs : List (Expr × Option Int × Nat)) : Prop where
  at_ : H wk = some (.lst (fs.map V.ref))
  len : fs.length = zs.length
  k : ∀ (i : Nat) (f : Addr) (z : Expr × Option Int × Nat), fs[i]? = some f → zs[i]? = some z → LamK H f (leX X z) z.2.1
def dueV : List V := lamsL.map fun z => V.str (nmF z.2.2)
def dueD : PyData := .list (lamsL.map fun z => PyData.str (nmF z.2.2))
theorem due_ok : okD 5 dueD = true := by decide +kernel
theorem due_dp {K : PySem.W.Frag} {H : Hp} {a : Addr} (h : H a = some (.lst dueV)) : Dp K H (.ref a) dueD :=
  .lst (.inl (.inl h)) (.cons (.str _) (.cons (.str _) (.cons (.str _) (.cons (.str _) (.cons (.str _) (.cons (.str _) (.cons (.str _) .nil)))))))
theorem nmF_lt : ∀ z ∈ lamsL, z.2.2 < 3 := by
  intro z hz
  simp only [lamsL, List.mem_cons, List.not_mem_nil, or_false] at hz
  rcases hz with rfl | rfl | rfl | rfl | rfl | rfl | rfl <;> decide
section
variable {P : Program} {w : World} {K : PySem.W.Frag} {mg : Str → Option Value} {base : Heap} {CI C0 fN pm gt CM gF Pt Pw c f : Addr} {C : Nat → Addr} {fdF : FuncData}
theorem lams_ok (PP : Parts P w K mg base CI C0 fN pm gt CM gF Pt Pw C fdF) (glist : mg "list" = none) (gdict : mg "dict" = none) {A : Around} {outer : List Env} {s : Shared} {H0 : Hp} {E : XK} : ∀ z ∈ lamsL, LFail P w K mg base CI Pt Pw C f c A outer s H0 E z.1 z.2.1 z.2.2 := by
  intro z hz
  simp only [lamsL, List.mem_cons, List.not_mem_nil, or_false] at hz
  rcases hz with rfl | rfl | rfl | rfl | rfl | rfl | rfl
  · exact lam1_ok PP
  · exact lam2_ok PP
  · exact lam3_ok PP
  · exact lam4_ok PP glist gdict
  · exact lam5_ok PP
  · exact lam6_ok PP
  · exact lam7_ok PP
theorem law_d12 (PP : Parts P w K mg base CI C0 fN pm gt CM gF Pt Pw C fdF) (gdict : mg "dict" = none) (gtuple : mg "tuple" = none) (glist : mg "list" = none) {A : Around} {outer : List Env} {s : Shared} {H0 : Hp} {E : XK} (hr : Room 16 (A.deeper (envOfC "law" (defScope sLaw) s.heap.objs.size f (.ref c)))) :
    ∃ t, PSs (cxOf CX0 P w K mg base nLaw "law" (defScope sLaw) f (.ref c) A outer s H0 E).nox d12 t ∧
      ∀ (Dn : Ends) (xi ce ba oa ma ha bd wk : Addr) (fs : List Addr) (tl : TI) (q o : IC) (ws : WL) (bs : List (IC × Nm)) (v0 v1 v6 v11 v12 v13 v14 v15 v16 : Option V) (H : Hp), G5 K CI Pt Pw H xi ce ba oa ma ha bd tl q o ws bs → P5 tl q o ws bs → WK (cxOf CX0 P w K mg base nLaw "law" (defScope sLaw) f (.ref c) A outer s H0 E).nox H wk fs lamsL →
        (∀ H', Dn.rt (.bl true) H') → t Dn (s5 xi ce ba oa ma ha bd v0 v1 v6 (some (.ref wk)) v11 v12 v13 v14 v15 v16) H := by
  obtain ⟨te, qe, re⟩ := law_d14 (f := f) (c := c) (H0 := H0) (E := E) (s := s) (A := A) (outer := outer) PP gdict gtuple hr
  have nd := scLaw.nd
  have hr3 : Room 3 _ := hr.mono (by decide)
  have hr6 : Room 6 _ := hr.mono (by decide)
  obtain ⟨ocE, odE, dE, kE, docE, pmE, anE, cdE, ctE, oslE, rfl, lkE, hcE, _, _⟩ := PP.FF.ex
  have hz := lams_ok PP glist gdict (f := f) (c := c) (H0 := H0) (E := E) (s := s) (A := A) (outer := outer)
  obtain ⟨tbs, htb⟩ := Classical.axiomOfChoice (r := fun (z : Expr × Option Int × Nat) (tb : XK → TE) => z ∈ lamsL → LamB (cxOf CX0 P w K mg base nLaw "law" (defScope sLaw) f (.ref c) A outer s H0 E).nox 14 (lmP z.1) (lmB z.1) (lmS z.1) z.2.1 tb ∧
    ∀ (xi ce ba oa ma ha bd : Addr) (tl : TI) (q o : IC) (ws : WL) (bs : List (IC × Nm)) (v0 v1 v6 v10 v11 v12 v13 v14 v15 v16 : Option V) (H : Hp) (Ex : XK) (Q : VK), G5 K CI Pt Pw H xi ce ba oa ma ha bd tl q o ws bs → P5 tl q o ws bs →
      (∀ H', Same H H' → Ex (.ref (C z.2.2)) none H') → tb Ex (s5 xi ce ba oa ma ha bd v0 v1 v6 v10 v11 v12 v13 v14 v15 v16) H Q) (fun z => by
    by_cases h : z ∈ lamsL
    · obtain ⟨tb, h1, h2⟩ := hz z h
      exact ⟨tb, fun _ => ⟨h1, h2⟩⟩
    · exact ⟨fun _ _ _ _ => False, fun h' => absurd h' h⟩)
  refine ⟨_, pss_cons (ps_set (i := 11) nd rfl (.inl rfl) (pe_op op_cat (pe_op op_rep (pe_lst (pa_cons pe_str pa_nil)) pe_int) (pe_lst (pa_cons pe_str (pa_cons pe_str (pa_cons pe_str pa_nil))))))
    (pss_cons (ps_if (pt_not (pt_val (pe_cal PP.alk hr6 pass0 (pa_cons (pe_lcV (own := [("_law_work", 16)]) (g := gName 16) (te := tGiveV _ (lamsL.map fun z => ⟨lmP z.1, lmB z.1, lmS z.1, z.2.1, tbs z⟩) (TFail C) 16) rfl nd (pi_listK (K := K) rfl (pv 10)) blkWo (fun _ _ _ _ _ => pg_name (i := 16) nd rfl (.inl rfl)) (fun _ _ _ _ _ => pts_nil)
        (fun _ _ _ _ _ => pev_give (k := 14) rfl PP.hF PP.FF.kp lkE hcE PP.bF scFail rfl (.inl rfl) (fail_gives PP.fai) hr hr3 (fun j hj => by
          obtain ⟨z, hz, rfl⟩ := List.mem_map.mp hj
          exact (htb z hz).1) rfl (.inl rfl))) (pa_cons (pv 11) pa_nil))))) pss_no pss_nil) qe), ?_⟩
  intro Dn xi ce ba oa ma ha bd wk fs tl q o ws bs v0 v1 v6 v11 v12 v13 v14 v15 v16 H g p W kn
  -- what is due
  refine ⟨by show 1 ≤ sizeLine; decide, fun u1 hu1 => ?_⟩
  have s1 := Same.new (Same.refl H) hu1 (o := .lst [.str "UnknownCell"])
  have e1 : (upd H u1 (.lst [.str "UnknownCell"])) u1 = some (.lst [.str "UnknownCell"]) := upd_same
  generalize upd H u1 (.lst [.str "UnknownCell"]) = H1 at s1 e1 ⊢
  refine ⟨u1, _, _, rfl, rfl, e1, by decide, by decide, by decide, fun u2 hu2 => ?_⟩
  have s2 := Same.new (Same.refl H1) hu2 (o := .lst (List.replicate (4 : Int).toNat [V.str "UnknownCell"]).flatten)
  have e2 : (upd H1 u2 (.lst (List.replicate (4 : Int).toNat [V.str "UnknownCell"]).flatten)) u2 = some (.lst [V.str "UnknownCell", V.str "UnknownCell", V.str "UnknownCell", V.str "UnknownCell"]) := upd_same
  generalize upd H1 u2 (.lst (List.replicate (4 : Int).toNat [V.str "UnknownCell"]).flatten) = H2 at s2 e2 ⊢
  refine ⟨by show 3 ≤ sizeLine; decide, fun u3 hu3 => ?_⟩
  have s3 := Same.new (Same.refl H2) hu3 (o := .lst [V.str "InvalidNumber", V.str "TooMany", V.str "TooMany"])
  have e3 : (upd H2 u3 (.lst [V.str "InvalidNumber", V.str "TooMany", V.str "TooMany"])) u3 = some (.lst [V.str "InvalidNumber", V.str "TooMany", V.str "TooMany"]) := upd_same
  have e23 := s3 _ _ e2
  generalize upd H2 u3 (.lst [V.str "InvalidNumber", V.str "TooMany", V.str "TooMany"]) = H3 at s3 e3 e23 ⊢
  refine ⟨u2, u3, _, _, rfl, rfl, e23, e3, by show 4 + 3 ≤ sizeLine; decide, fun u4 hu4 => ?_⟩
  have s4 := (s1.trans (s2.trans s3)).trans (Same.new (Same.refl H3) hu4 (o := .lst dueV))
  have e4 : (upd H3 u4 (.lst dueV)) u4 = some (.lst dueV) := upd_same
  show (fun (Hx : Hp) => _) (upd H3 u4 (.lst dueV))
  generalize upd H3 u4 (.lst dueV) = H4 at s4 e4 ⊢
  have g4 := g.same s4
  have x4 := Same.extN s4
  have W4 := s4 _ _ W.at_
  have lf : fs.length = 7 := W.len
  refine ⟨_, rfl, wk, rfl, ⟨_, .inl (.inl W4)⟩, fun D hD => ?_⟩
  refine wlk_it (walk_list (K := K) (a := wk) (xs := fs.map V.ref)) (fun i H1 => Same H4 H1 ∧ H1 D = some (.lst (dueV.take i))) ⟨Same.new (Same.refl H4) hD, by rw [List.take_zero]; exact upd_same⟩ (fun i H1 _ z => .inl (.inl (z.1 _ _ W4))) ?_ ?_
  · rintro i x H5 H5' hi ⟨s5', l5⟩ ⟨rfl, hx⟩
    rw [List.getElem?_map] at hx
    obtain ⟨fa, hfa, rfl⟩ := Option.map_eq_some_iff.mp hx
    have hil : i < lamsL.length := by rw [← W.len]; exact (List.getElem?_eq_some_iff.mp hfa).1
    have hzz := List.getElem?_eq_getElem hil
    have hzm := List.getElem_mem hil
    generalize lamsL[i] = z at hzz hzm
    have lk := (W.k i fa z hfa hzz).ext (x4.trans (Same.extN s5'))
    refine ⟨rfl, tyes ?_⟩
    refine ⟨fa, ⟨lmP z.1, lmB z.1, lmS z.1, z.2.1, tbs z⟩, rfl, List.mem_map.mpr ⟨z, hzm, rfl⟩, lk, ?_⟩
    refine (htb z hzm).2 xi ce ba oa ma ha bd tl q o ws bs _ _ _ _ _ _ _ _ _ _ _ _ _ (g4.same s5') p fun H6 s6 => .mk (nmF_lt z hzm) fun H7 s7 => ?_
    have s57 := s6.trans s7
    have hlen : (dueV.take i).length ≤ 7 := by rw [List.length_take]; exact Nat.le_trans (Nat.min_le_right _ _) (by decide)
    refine ⟨_, s57 _ _ l5, Nat.lt_of_le_of_lt (show _ ≤ 100 by omega) (by decide), Same.updN (s5'.trans s57) hD, ?_⟩
    rw [upd_same, List.take_succ]
    have ed : dueV[i]? = some (V.str (nmF z.2.2)) := by
      unfold dueV
      rw [List.getElem?_map, hzz]
      rfl
    rw [ed]
    rfl
  · rintro H5 ⟨s5', l5⟩
    have eD : H5 D = some (.lst dueV) := by
      rw [l5, List.take_of_length_le (by rw [List.length_map, lf]; decide)]
    refine ⟨_, rfl, nilArgs ?_⟩
    refine ⟨_, _, _, rfl, due_dp eD, due_dp (s5' _ _ e4), due_ok, fun H6 s6 => ⟨true, rfl, iteF' rfl ?_⟩⟩
    exact re Dn xi ce ba oa ma ha bd tl q o ws bs _ _ _ _ _ _ _ _ _ _ H6 (g4.same (s5'.trans s6)) p kn
end
end Om

/-! the lambdas made -/
namespace Om
open PySem PySem.Spec PyProof.Rows L2 LamX PySem.W NdefX
theorem upd_keep {H : Hp} {wk : Addr} {xs : List V} {o' : HO} (hw : H wk = some (.lst xs)) {b : Addr} {o : HO} (h : H b = some o) (n : ∀ ys, o ≠ .lst ys) : (upd H wk o') b = some o := by
  rw [upd_ne (ne_of h hw (n _))]
  exact h
theorem G5.app {K : PySem.W.Frag} {CI Pt Pw : Addr} {H : Hp} {xi ce ba oa ma ha bd wk : Addr} {tl : TI} {q o : IC} {ws : WL} {bs : List (IC × Nm)} {xs : List V} {o' : HO} (g : G5 K CI Pt Pw H xi ce ba oa ma ha bd tl q o ws bs) (hw : H wk = some (.lst xs)) (ne : wk ≠ ce) : G5 K CI Pt Pw (upd H wk o') xi ce ba oa ma ha bd tl q o ws bs where
  I := by
    obtain ⟨dx, p, hp, hS⟩ := g.I
    refine ⟨dx, p, upd_keep hw hp (fun ys e => by cases e), ?_⟩
    rcases hS with (h | ⟨o, h⟩) | h
    · exact .inl (.inl (upd_keep hw h fun ys e => by cases e))
    · exact .inl (.inr ⟨o, upd_keep hw h fun ys e => by cases e⟩)
    · exact .inr h
  hce := by rw [upd_ne ne.symm]; exact g.hce
  CL := fun p hp => upd_keep hw (g.CL p hp) fun ys e => by cases e
  hb := upd_keep hw g.hb fun ys e => by cases e
  ho := upd_keep hw g.ho fun ys e => by cases e
  hm := upd_keep hw g.hm fun ys e => by cases e
  hh := upd_keep hw g.hh fun ys e => by cases e
  hd := upd_keep hw g.hd fun ys e => by cases e
  T := fun p hp => by
    obtain ⟨ps, q1, q2, q3⟩ := g.T p hp
    refine ⟨ps, upd_keep hw q1 (fun ys e => by cases e), q2, fun pos cv hc => ?_⟩
    obtain ⟨c0, w1, w2⟩ := q3 pos cv hc
    exact ⟨c0, w1, upd_keep hw w2 fun ys e => by unfold CodeO at e; cases e⟩
theorem LamK.app {H : Hp} {wk f : Addr} {F : Addr → LE} {d : Option Int} {xs : List V} {o' : HO} (h : LamK H f F d) (hw : H wk = some (.lst xs)) : LamK (upd H wk o') f F d := by
  obtain ⟨c', h1, h2⟩ := h
  refine ⟨c', ?_, upd_keep hw h2 fun ys e => by unfold CodeO at e; cases e⟩
  cases d with
  | none => exact upd_keep hw h1 fun ys e => by unfold FnE at e; cases e
  | some i =>
    obtain ⟨D, k1, k2⟩ := h1
    exact ⟨D, upd_keep hw k1 (fun ys e => by unfold FnE1 at e; cases e), upd_keep hw k2 fun ys e => by unfold TupI at e; cases e⟩
structure LA (X : Cx) (H : Hp) (fs : List Addr) (zs : List (Expr × Option Int × Nat)) : Prop where
  len : fs.length = zs.length
  k : ∀ (i : Nat) (f : Addr) (z : Expr × Option Int × Nat), fs[i]? = some f → zs[i]? = some z → LamK H f (leX X z) z.2.1
section
variable {X : Cx} {H H' : Hp} {fs : List Addr} {zs : List (Expr × Option Int × Nat)}
theorem LA.nil : LA X H [] [] := ⟨rfl, fun i f z h => by cases h⟩
theorem LA.ext (a : LA X H fs zs) (k : ExtN H H') : LA X H' fs zs := ⟨a.len, fun i f z h1 h2 => (a.k i f z h1 h2).ext k⟩
theorem LA.app {wk : Addr} {xs : List V} {o' : HO} (a : LA X H fs zs) (hw : H wk = some (.lst xs)) : LA X (upd H wk o') fs zs := ⟨a.len, fun i f z h1 h2 => (a.k i f z h1 h2).app hw⟩
theorem LA.snoc {f : Addr} {z : Expr × Option Int × Nat} (a : LA X H fs zs) (h : LamK H f (leX X z) z.2.1) : LA X H (fs ++ [f]) (zs ++ [z]) := by
  refine ⟨by rw [List.length_append, List.length_append, a.len]; rfl, fun i f' z' h1 h2 => ?_⟩
  rw [List.getElem?_append] at h1 h2
  rw [a.len] at h1
  split at h1
  · rename_i hi
    rw [if_pos hi] at h2
    exact a.k i f' z' h1 h2
  · rename_i hi
    rw [if_neg hi] at h2
    have e : i - zs.length = 0 := by
      have := (List.getElem?_eq_some_iff.mp h1).1
      rw [List.length_singleton] at this
      omega
    rw [e] at h1 h2
    cases h1
    cases h2
    exact h
end
def d7 : List Stmt := (defBody sLaw).drop 7
section
variable {P : Program} {w : World} {K : PySem.W.Frag} {mg : Str → Option Value} {base : Heap} {CI C0 fN pm gt CM gF Pt Pw c f : Addr} {C : Nat → Addr} {fdF : FuncData}
theorem law_d7 (PP : Parts P w K mg base CI C0 fN pm gt CM gF Pt Pw C fdF) (TB : TabB base mg c Pt) (gdict : mg "dict" = none) (gtuple : mg "tuple" = none) (glist : mg "list" = none) {A : Around} {outer : List Env} {s : Shared} {H0 : Hp} {E : XK} (hr : Room 16 (A.deeper (envOfC "law" (defScope sLaw) s.heap.objs.size f (.ref c)))) :
    ∃ t, PSs (cxOf CX0 P w K mg base nLaw "law" (defScope sLaw) f (.ref c) A outer s H0 E).nox d7 t ∧
      ∀ (Dn : Ends) (xi ce ba oa ma ha bd : Addr) (tl : TI) (q o : IC) (ws : WL) (bs : List (IC × Nm)) (v0 v1 v6 v10 v11 v12 v13 v14 v15 v16 : Option V) (H : Hp), G5 K CI Pt Pw H xi ce ba oa ma ha bd tl q o ws bs → P5 tl q o ws bs →
        (∀ H', Dn.rt (.bl true) H') → t Dn (s5 xi ce ba oa ma ha bd v0 v1 v6 v10 v11 v12 v13 v14 v15 v16) H := by
  obtain ⟨te, qe, re⟩ := law_d12 (f := f) (c := c) (H0 := H0) (E := E) (s := s) (A := A) (outer := outer) PP gdict gtuple glist hr
  have nd := scLaw.nd
  have hu := tt2_1 PP.ne
  have hm := tt2_m1 (Pt := Pt) (Pw := Pw)
  refine ⟨_, pss_cons (ps_set (i := 10) nd rfl (.inl rfl) (pe_lst (pa_cons (pe_lamV0 (T := TT2 Pt Pw) TB rfl hm hu rfl lg1.free) (pa_cons (pe_lamV1 (T := TT2 Pt Pw) TB rfl hm hu rfl lg2.free) pa_nil))))
    (pss_cons (ps_set (i := 10) nd rfl (.inl rfl) (pe_op op_cat (pv 10) (pe_lst (pa_cons (pe_lamV1 (T := TT2 Pt Pw) TB rfl hm hu rfl lg3.free) pa_nil))))
    (pss_cons (ps_expr (pe_bm PySem.F.plainAttrs_list PySem.F.slot_list_append PySem.F.type_list_append mt_append (pv 10) (pa_cons (pe_lamV1 (T := TT2 Pt Pw) TB rfl hm hu rfl lg4.free) pa_nil)))
    (pss_cons (ps_set (i := 10) nd rfl (.inl rfl) (pe_op op_cat (pv 10) (pe_lst (pa_cons (pe_lamV1 (T := TT2 Pt Pw) TB rfl hm hu rfl lg5.free) (pa_cons (pe_lamV1 (T := TT2 Pt Pw) TB rfl hm hu rfl lg6.free) pa_nil)))))
    (pss_cons (ps_expr (pe_bm PySem.F.plainAttrs_list PySem.F.slot_list_append PySem.F.type_list_append mt_append (pv 10) (pa_cons (pe_lamV1 (T := TT2 Pt Pw) TB rfl hm hu rfl lg7.free) pa_nil)))
    qe)))), ?_⟩
  intro Dn xi ce ba oa ma ha bd tl q o ws bs v0 v1 v6 v10 v11 v12 v13 v14 v15 v16 H g p kn
  refine ⟨g.T, fun f1 H1 x1 T1 _ k1 => ⟨T1, fun f2 H2 x2 T2 _ k2 => ⟨by show 2 ≤ sizeLine; decide, fun w1 hw1 => ?_⟩⟩⟩
  have g2 := (g.ext T1 x1).ext T2 x2
  have a2 : LA (cxOf CX0 P w K mg base nLaw "law" (defScope sLaw) f (.ref c) A outer s H0 E).nox H2 [f1, f2] [(lam1, none, 0), (lam2, some 0, 0)] := ((LA.nil.snoc (z := (lam1, none, 0)) k1).ext x2).snoc (z := (lam2, some 0, 0)) k2
  have s3 := Same.new (Same.refl H2) hw1 (o := .lst ([f1, f2].map V.ref))
  have e3 : (upd H2 w1 (.lst ([f1, f2].map V.ref))) w1 = some (.lst ([f1, f2].map V.ref)) := upd_same
  show (fun (Hx : Hp) => _) (upd H2 w1 (.lst ([f1, f2].map V.ref)))
  generalize upd H2 w1 (.lst ([f1, f2].map V.ref)) = H3 at s3 e3 ⊢
  have g3 := g2.same s3
  have a3 := a2.ext (Same.extN s3)
  refine ⟨_, rfl, g3.T, fun f3 H4 x4 T4 _ k3 => ⟨by show 1 ≤ sizeLine; decide, fun l1 hl1 => ?_⟩⟩
  have g4 := g3.ext T4 x4
  have a4 : LA (cxOf CX0 P w K mg base nLaw "law" (defScope sLaw) f (.ref c) A outer s H0 E).nox H4 [f1, f2, f3] [(lam1, none, 0), (lam2, some 0, 0), (lam3, some 0, 0)] := (a3.ext x4).snoc (z := (lam3, some 0, 0)) k3
  have e4 := x4 _ _ e3 fun ps e => by cases e
  have s5' := Same.new (Same.refl H4) hl1 (o := .lst [.ref f3])
  have e5 : (upd H4 l1 (.lst [.ref f3])) l1 = some (.lst [.ref f3]) := upd_same
  have e45 := s5' _ _ e4
  generalize upd H4 l1 (.lst [.ref f3]) = H5 at s5' e5 e45 ⊢
  have g5 := g4.same s5'
  have a5 := a4.ext (Same.extN s5')
  refine ⟨w1, l1, _, _, rfl, rfl, e45, e5, by show 2 + 1 ≤ sizeLine; decide, fun w2 hw2 => ?_⟩
  have ne2 : w2 ≠ ce := fun e => by rw [e, g5.hce] at hw2; cases hw2
  have s6 := Same.new (Same.refl H5) hw2 (o := .lst ([f1, f2, f3].map V.ref))
  have e6 : (upd H5 w2 (.lst ([f1, f2, f3].map V.ref))) w2 = some (.lst ([f1, f2, f3].map V.ref)) := upd_same
  show (fun (Hx : Hp) => _) (upd H5 w2 (.lst ([f1, f2, f3].map V.ref)))
  generalize upd H5 w2 (.lst ([f1, f2, f3].map V.ref)) = H6 at s6 e6 ⊢
  have g6 := g5.same s6
  have a6 := a5.ext (Same.extN s6)
  -- the fourth
  refine ⟨_, rfl, .inl ⟨rfl, _, .inl (.inl e6)⟩, g6.T, fun f4 H7 x7 T7 _ k4 => nilArgs ?_⟩
  have e7 := x7 _ _ e6 fun ps e => by cases e
  have a7 : LA (cxOf CX0 P w K mg base nLaw "law" (defScope sLaw) f (.ref c) A outer s H0 E).nox H7 [f1, f2, f3, f4] [(lam1, none, 0), (lam2, some 0, 0), (lam3, some 0, 0), (lam4, some 0, 0)] := (a6.ext x7).snoc (z := (lam4, some 0, 0)) k4
  refine ⟨w2, _, _, rfl, rfl, e7, by show 3 < sizeLine; decide, ?_⟩
  have g8 := (g6.ext T7 x7).app (o' := .lst ([f1, f2, f3, f4].map V.ref)) e7 ne2
  have a8 := a7.app (o' := .lst ([f1, f2, f3, f4].map V.ref)) e7
  have e8 : (upd H7 w2 (.lst ([f1, f2, f3, f4].map V.ref))) w2 = some (.lst ([f1, f2, f3, f4].map V.ref)) := upd_same
  show (fun (Hx : Hp) => _) (upd H7 w2 (.lst ([f1, f2, f3, f4].map V.ref)))
  generalize upd H7 w2 (.lst ([f1, f2, f3, f4].map V.ref)) = H8 at g8 a8 e8 ⊢
  -- the fifth and the sixth
  refine ⟨_, rfl, g8.T, fun f5 H9 x9 T9 _ k5 => ⟨T9, fun f6 Ha xa Ta _ k6 => ⟨by show 2 ≤ sizeLine; decide, fun l2 hl2 => ?_⟩⟩⟩
  have ga := (g8.ext T9 x9).ext Ta xa
  have aa : LA (cxOf CX0 P w K mg base nLaw "law" (defScope sLaw) f (.ref c) A outer s H0 E).nox Ha [f1, f2, f3, f4, f5, f6] [(lam1, none, 0), (lam2, some 0, 0), (lam3, some 0, 0), (lam4, some 0, 0), (lam5, some 0, 1), (lam6, some 0, 2)] :=
    (((a8.ext x9).snoc (z := (lam5, some 0, 1)) k5).ext xa).snoc (z := (lam6, some 0, 2)) k6
  have ea := (x9.trans xa) _ _ e8 fun ps e => by cases e
  have sb := Same.new (Same.refl Ha) hl2 (o := .lst [.ref f5, .ref f6])
  have eb : (upd Ha l2 (.lst [.ref f5, .ref f6])) l2 = some (.lst [.ref f5, .ref f6]) := upd_same
  have eab := sb _ _ ea
  generalize upd Ha l2 (.lst [.ref f5, .ref f6]) = Hb at sb eb eab ⊢
  have gb := ga.same sb
  have ab := aa.ext (Same.extN sb)
  refine ⟨w2, l2, _, _, rfl, rfl, eab, eb, by show 4 + 2 ≤ sizeLine; decide, fun w3 hw3 => ?_⟩
  have ne3 : w3 ≠ ce := fun e => by rw [e, gb.hce] at hw3; cases hw3
  have sc := Same.new (Same.refl Hb) hw3 (o := .lst ([f1, f2, f3, f4, f5, f6].map V.ref))
  have ec : (upd Hb w3 (.lst ([f1, f2, f3, f4, f5, f6].map V.ref))) w3 = some (.lst ([f1, f2, f3, f4, f5, f6].map V.ref)) := upd_same
  show (fun (Hx : Hp) => _) (upd Hb w3 (.lst ([f1, f2, f3, f4, f5, f6].map V.ref)))
  generalize upd Hb w3 (.lst ([f1, f2, f3, f4, f5, f6].map V.ref)) = Hc at sc ec ⊢
  have gc := gb.same sc
  have ac := ab.ext (Same.extN sc)
  -- the seventh
  refine ⟨_, rfl, .inl ⟨rfl, _, .inl (.inl ec)⟩, gc.T, fun f7 Hd xd Td _ k7 => nilArgs ?_⟩
  have ed := xd _ _ ec fun ps e => by cases e
  have ad : LA (cxOf CX0 P w K mg base nLaw "law" (defScope sLaw) f (.ref c) A outer s H0 E).nox Hd [f1, f2, f3, f4, f5, f6, f7] lamsL := (ac.ext xd).snoc (z := (lam7, some 0, 2)) k7
  refine ⟨w3, _, _, rfl, rfl, ed, by show 6 < sizeLine; decide, ?_⟩
  have ge := (gc.ext Td xd).app (o' := .lst ([f1, f2, f3, f4, f5, f6, f7].map V.ref)) ed ne3
  have ae := ad.app (o' := .lst ([f1, f2, f3, f4, f5, f6, f7].map V.ref)) ed
  exact re Dn xi ce ba oa ma ha bd w3 [f1, f2, f3, f4, f5, f6, f7] tl q o ws bs _ _ _ _ _ _ _ _ _ _ ge p ⟨upd_same, ae.len, ae.k⟩ kn
end
end Om

/-! the draws -/
namespace Om
open PySem PySem.Spec PyProof.Rows L2 LamX PySem.W NdefX
theorem Bx.free {b l D : Addr} {H : Hp} (B : Bx H b l) (h : H D = none) : D ≠ b ∧ D ≠ l := B.new h
theorem Bx.updO {b l D : Addr} {H : Hp} {o : HO} (B : Bx H b l) (h1 : D ≠ b) (h2 : D ≠ l) : Bx (upd H D o) b l := by
  obtain ⟨ns, z, j, k1, k2, k3⟩ := B.ex
  exact ⟨ns, z, j, by rw [upd_ne h1.symm]; exact k1, by rw [upd_ne h2.symm]; exact k2, k3⟩
theorem Kp.updN {b l D : Addr} {H H' : Hp} {o : HO} (k : Kp b l H H') (h : H D = none) : Kp b l H (upd H' D o) := fun c u hc n1 n2 => by
  rw [upd_ne (fun e => by rw [e, h] at hc; cases hc)]
  exact k c u hc n1 n2
/-- all but the box's two lists -/
theorem kp_at {b l : Addr} {H H' : Hp} (B : Bx H b l) (k : Kp b l H H') {a : Addr} {x : HO} (h : H a = some x) (n : ∀ xs, x ≠ .lst xs) : H' a = some x := by
  obtain ⟨ns, z, j, h1, h2, _⟩ := B.ex
  exact k _ _ h (ne_of h h1 (n _)) (ne_of h h2 (n _))
theorem CI2.kpb {b l : Addr} {H H' : Hp} {t : TI} (h : CI2 H t) (B : Bx H b l) (k : Kp b l H H') : CI2 H' t := fun p hp => kp_at B k (h p hp) fun xs e => by cases e
theorem tabs_kpb {T : List (Addr × Str)} {b l : Addr} {H H' : Hp} (t : Tabs T H) (B : Bx H b l) (k : Kp b l H H') : Tabs T H' := by
  intro p hp
  obtain ⟨ps, q1, q2, q3⟩ := t p hp
  refine ⟨ps, kp_at B k q1 (fun xs e => by cases e), q2, fun pos cv hc => ?_⟩
  obtain ⟨c0, w1, w2⟩ := q3 pos cv hc
  exact ⟨c0, w1, kp_at B k w2 fun xs e => by unfold CodeO at e; cases e⟩
def d3 : List Stmt := (defBody sLaw).drop 3
def tupE0 (e : Expr) (i : Nat) : Expr := match e with
  | .Tuple l _ _ => l.getD i e
  | e => e
def hvL : Expr := arg0 (tupE0 (asgExpr ((defBody sLaw).getD 5 noS)) 1)
theorem blkHv : BlkOk nLaw (defScope sLaw) (lcScope hvL) [("_law_cell", 15)] := blkOk_by (by decide +kernel)
/-- what stands ahead of the draws -/
structure G3 (K : PySem.W.Frag) (CI Pt Pw : Addr) (H : Hp) (b l xi ce : Addr) (tl : TI) : Prop where
  B : Bx H b l
  I : Isl K CI H xi R35
  hce : H ce = some (.lst (vzI tl))
  CL : CI2 H tl
  T : Tabs (TT2 Pt Pw) H
  nb : ce ≠ b
  nl : ce ≠ l
section
variable {K : PySem.W.Frag} {CI Pt Pw : Addr} {H H' : Hp} {b l xi ce : Addr} {tl : TI}
theorem G3.same (g : G3 K CI Pt Pw H b l xi ce tl) (s : Same H H') : G3 K CI Pt Pw H' b l xi ce tl := ⟨g.B.same s, g.I.same s, s _ _ g.hce, g.CL.same s, g.T.ext s, g.nb, g.nl⟩
theorem G3.kp (g : G3 K CI Pt Pw H b l xi ce tl) (B' : Bx H' b l) (k : Kp b l H H') : G3 K CI Pt Pw H' b l xi ce tl := ⟨B', g.I.kp g.B k, k _ _ g.hce g.nb g.nl, g.CL.kpb g.B k, tabs_kpb g.T g.B k, g.nb, g.nl⟩
end
theorem four {n : Int} (h0 : 0 ≤ n) (h4 : n < 4) : n = 0 ∨ n = 1 ∨ n = 2 ∨ n = 3 := by omega
def wrongV : List V := wrongs.map Nm.v
section
variable {P : Program} {w : World} {K : PySem.W.Frag} {mg : Str → Option Value} {base : Heap} {CI C0 fN pm gt CM gF Pt Pw c f : Addr} {C : Nat → Addr} {fdF : FuncData}
theorem law_d3 (PP : Parts P w K mg base CI C0 fN pm gt CM gF Pt Pw C fdF) (TB : TabB base mg c Pt) (gdict : mg "dict" = none) (gtuple : mg "tuple" = none) (glist : mg "list" = none) {A : Around} {outer : List Env} {s : Shared} {H0 : Hp} {E : XK} (hr : Room 16 (A.deeper (envOfC "law" (defScope sLaw) s.heap.objs.size f (.ref c)))) :
    ∃ t, PSs (cxOf CX0 P w K mg base nLaw "law" (defScope sLaw) f (.ref c) A outer s H0 E).nox d3 t ∧
      ∀ (Dn : Ends) (b l xi ce : Addr) (tl : TI) (v0 v4 v5 v6 v7 v8 v9 v10 v11 v12 v13 v14 v15 v16 : Option V) (H : Hp), G3 K CI Pt Pw H b l xi ce tl → czI tl = landL R35 →
        (∀ H', Dn.rt (.bl true) H') → t Dn [v0, some (.ref b), some (.ref xi), some (.ref ce), v4, v5, v6, v7, v8, v9, v10, v11, v12, v13, v14, v15, v16] H := by
  obtain ⟨te, qe, re⟩ := law_d7 (f := f) (c := c) (H0 := H0) (E := E) (s := s) (A := A) (outer := outer) PP TB gdict gtuple glist hr
  have nd := scLaw.nd
  have hu := hr.units
  have hu16 := Nat.lt_of_le_of_lt (Nat.add_le_add_left (show 16 ≤ 64 by decide) _) hu
  have hr1 : Room 1 _ := hr.mono (by decide)
  refine ⟨_, pss_cons (ps_asg (pe_tup (pa_cons (pe_ix ix_list (pv 3) (pe_cal PP.nxt hr1 pass0 (pa_cons (pv 1) (pa_cons pe_int pa_nil))) (fun _ _ => rfl))
        (pa_cons (pe_ix ix_list (pe_lst (pa_cons (pe_tup (pa_cons pe_int (pa_cons pe_int pa_nil))) (pa_cons (pe_tup (pa_cons pe_int (pa_cons pe_int pa_nil))) (pa_cons (pe_tup (pa_cons pe_int (pa_cons (pe_op op_sub pe_int pe_int) pa_nil))) (pa_cons (pe_tup (pa_cons pe_int (pa_cons pe_int pa_nil))) pa_nil)))))
          (pe_cal PP.nxt hr1 pass0 (pa_cons (pv 1) (pa_cons pe_int pa_nil))) (fun _ _ => rfl)) pa_nil)))
      (pg_tup rfl (pgs_cons (pg_name (i := 4) nd rfl (.inr rfl)) (pgs_cons (pg_name (i := 5) nd rfl (.inr rfl)) pgs_nil))))
    (pss_cons (ps_set (i := 6) nd rfl (.inl rfl) (pe_ix ix_list (pe_lst (pa_cons pe_int (pa_cons (pe_op op_add (pe_op op_pow pe_int pe_int) pe_int) (pa_cons pe_bl (pa_cons (pe_op op_sub pe_int pe_int) pa_nil))))) (pe_cal PP.nxt hr1 pass0 (pa_cons (pv 1) (pa_cons pe_int pa_nil))) (fun _ _ => rfl)))
    (pss_cons (ps_asg (pe_tup (pa_cons (pe_callTy call_tuple_of (by rfl) gtuple (by decide +kernel) (pa_cons (pv 3) pa_nil))
        (pa_cons (pe_callTy (dictPK (K := K) rfl rfl hu16) (by rfl) gdict (by decide +kernel) (pa_cons (pe_lc (own := [("_law_cell", 15)]) (g := gName 15) rfl nd (pi_listK (K := K) rfl (pv 3)) blkHv (fun _ _ _ _ _ => pg_name (i := 15) nd rfl (.inl rfl)) (fun _ _ _ _ _ => pts_nil)
          (fun _ _ _ _ _ => pe_tup (pa_cons (pv 15) (pa_cons (pe_op op_add pe_int (pe_cal PP.nxt hr1 pass0 (pa_cons (pv 1) (pa_cons pe_int pa_nil)))) pa_nil)))) pa_nil)) pa_nil)))
      (pg_tup rfl (pgs_cons (pg_name (i := 7) nd rfl (.inr rfl)) (pgs_cons (pg_name (i := 8) nd rfl (.inr rfl)) pgs_nil))))
    (pss_cons (ps_set (i := 9) nd rfl (.inr rfl) (pe_callTy (dictPK (K := K) rfl rfl hu16) (by rfl) gdict (by decide +kernel) (pa_cons (pe_op op_cat
        (pe_callTy (cr_listItT rfl) (by rfl) glist (by decide +kernel) (pa_cons (pe_bm0 PySem.F.plainAttrs_dict PySem.F.slot_dict_items PySem.F.type_dict_items L2.DX.mt_itemsT (pv 8)) pa_nil))
        (pe_lst (pa_cons (pe_tup (pa_cons (pv 4) (pa_cons (pv 6) pa_nil))) pa_nil))) pa_nil)))
    qe))), ?_⟩
  intro Dn b l xi ce tl v0 v4 v5 v6 v7 v8 v9 v10 v11 v12 v13 v14 v15 v16 H g el kn
  have lt8 : tl.length = 8 := by
    have := congrArg List.length el
    rw [czI_len, land35] at this
    exact this
  -- the beginning
  refine ⟨_, rfl, _, rfl, b, l, 8, rfl, g.B, by decide, by decide, fun n H1 n0 n1 B1 K1 => ?_⟩
  have g1 := g.kp B1 K1
  obtain ⟨k, rfl⟩ := Int.eq_ofNat_of_zero_le n0
  have hk : k < tl.length := by omega
  obtain ⟨x, hx⟩ : ∃ x, tl[k]? = some x := ⟨tl[k], List.getElem?_eq_getElem hk⟩
  have mx : x ∈ tl := List.mem_of_getElem? hx
  have mq : x.2 ∈ landL R35 := by rw [← el]; exact List.mem_map_of_mem mx
  refine ⟨ce, _, _, .ref x.1, rfl, rfl, .inl (.inl g1.hce), atI_nat (by unfold vzI; rw [List.getElem?_map, hx]; rfl), ?_⟩
  -- off the land
  refine ⟨by show 2 ≤ sizeLine; decide, fun t1 ht1 => ⟨by show 2 ≤ sizeLine; decide, fun t2 ht2 => ⟨_, _, rfl, rfl, by show 2 ≤ sizeLine; decide, fun t3 ht3 => ⟨by show 2 ≤ sizeLine; decide, fun t4 ht4 => ⟨by show 4 ≤ sizeLine; decide, fun lo hlo => ?_⟩⟩⟩⟩⟩
  have f5 := g1.B
  have s1 := Same.new (Same.refl H1) ht1 (o := .tup [.int 1, .int 0])
  have s2 := Same.new (Same.refl _) ht2 (o := .tup [.int 3, .int 0])
  have s3 := Same.new (Same.refl _) ht3 (o := .tup [.int 0, .int (-1)])
  have s4 := Same.new (Same.refl _) ht4 (o := .tup [.int 0, .int 3])
  have s5' := Same.new (Same.refl _) hlo (o := .lst [.ref t1, .ref t2, .ref t3, .ref t4])
  have nlo := (g1.B.same (s1.trans (s2.trans (s3.trans s4)))).free hlo
  obtain ⟨H6, hH6⟩ : ∃ H6, H6 = upd (upd (upd (upd (upd H1 t1 (.tup [.int 1, .int 0])) t2 (.tup [.int 3, .int 0])) t3 (.tup [.int 0, .int (-1)])) t4 (.tup [.int 0, .int 3])) lo (.lst [.ref t1, .ref t2, .ref t3, .ref t4]) := ⟨_, rfl⟩
  have sA : Same H1 H6 := by rw [hH6]; exact s1.trans (s2.trans (s3.trans (s4.trans s5')))
  have a1 : H6 t1 = some (.tup (icv (1, 0))) := by rw [hH6]; exact (s2.trans (s3.trans (s4.trans s5'))) t1 (.tup (icv (1, 0))) upd_same
  have a2 : H6 t2 = some (.tup (icv (3, 0))) := by rw [hH6]; exact (s3.trans (s4.trans s5')) t2 (.tup (icv (3, 0))) upd_same
  have a3 : H6 t3 = some (.tup (icv (0, -1))) := by rw [hH6]; exact (s4.trans s5') t3 (.tup (icv (0, -1))) upd_same
  have a4 : H6 t4 = some (.tup (icv (0, 3))) := by rw [hH6]; exact s5' t4 (.tup (icv (0, 3))) upd_same
  have a5 : H6 lo = some (.lst [.ref t1, .ref t2, .ref t3, .ref t4]) := by rw [hH6]; exact upd_same
  have eh : (upd (upd (upd (upd (upd H1 t1 (.tup [.int 1, .int 0])) t2 (.tup [.int 3, .int 0])) t3 (.tup [.int 0, (fun i j : Int => V.int (i - j)) 0 1])) t4 (.tup [.int 0, .int 3])) lo (.lst [.ref t1, .ref t2, .ref t3, .ref t4])) = H6 := by rw [hH6]; rfl
  rw [eh]
  have hb1 := g1.CL x mx
  clear s1 s2 s3 s4 s5' ht1 ht2 ht3 ht4 hlo eh hH6
  have g6 := g1.same sA
  have hb6 := sA _ _ hb1
  refine ⟨_, rfl, b, l, 4, rfl, g6.B, by decide, by decide, fun n2 H7 m0 m1 B7 K7 => ?_⟩
  have g7 := g6.kp B7 K7
  have hb7 := kp_at g6.B K7 hb6 fun xs e => by cases e
  obtain ⟨oa, o, hat, hoa, ho⟩ : ∃ oa o, atI [V.ref t1, .ref t2, .ref t3, .ref t4] n2 = some (.ref oa) ∧ H7 oa = some (.tup (icv o)) ∧ o ∈ odds := by
    rcases four m0 m1 with rfl | rfl | rfl | rfl
    · exact ⟨t1, (1, 0), rfl, kp_at g6.B K7 a1 (fun xs e => by cases e), by decide⟩
    · exact ⟨t2, (3, 0), rfl, kp_at g6.B K7 a2 (fun xs e => by cases e), by decide⟩
    · exact ⟨t3, (0, -1), rfl, kp_at g6.B K7 a3 (fun xs e => by cases e), by decide⟩
    · exact ⟨t4, (0, 3), rfl, kp_at g6.B K7 a4 (fun xs e => by cases e), by decide⟩
  refine ⟨lo, _, _, .ref oa, rfl, rfl, .inl (.inl (K7 _ _ a5 nlo.1 nlo.2)), hat, ?_⟩
  clear a1 a2 a3 a4 a5 nlo sA hb1 hb6 K7
  refine ⟨by show 2 ≤ sizeLine; decide, fun tp htp => ?_⟩
  refine ⟨tp, _, rfl, .inl (.inl upd_same), rfl, _, _, rfl, _, _, rfl, rfl, ?_⟩
  have s8 := Same.new (Same.refl H7) htp (o := .tup [.ref x.1, .ref oa])
  generalize upd H7 tp (.tup [.ref x.1, .ref oa]) = H8 at s8 ⊢
  have g8 := g7.same s8
  have hb8 := s8 _ _ hb7
  have ho8 := s8 _ _ hoa
  -- the wrong weight
  refine ⟨_, _, rfl, rfl, cpow9, _, _, rfl, rfl, _, _, rfl, rfl, by show 4 ≤ sizeLine; decide, fun lw hlw => ?_⟩
  have nlw := g8.B.free hlw
  have s9 := Same.new (Same.refl H8) hlw (o := .lst wrongV)
  have e9 : (upd H8 lw (.lst wrongV)) lw = some (.lst wrongV) := upd_same
  have eh : (upd H8 lw (.lst [V.int 0, (fun i j : Int => V.int (i + j)) ((10 : Int) ^ (9 : Int).toNat) 1, V.bl true, (fun i j : Int => V.int (i - j)) 0 4])) = upd H8 lw (.lst wrongV) := by
    rw [ten9]
    rfl
  rw [eh]
  generalize upd H8 lw (.lst wrongV) = H9 at s9 e9 ⊢
  have g9 := g8.same s9
  refine ⟨_, rfl, b, l, 4, rfl, g9.B, by decide, by decide, fun n3 Ha k0 k1 Ba Ka => ?_⟩
  have ga := g9.kp Ba Ka
  have hba := kp_at g9.B Ka (s9 _ _ hb8) fun xs e => by cases e
  have hoa' := kp_at g9.B Ka (s9 _ _ ho8) fun xs e => by cases e
  obtain ⟨wn, hwat, hwn⟩ : ∃ wn : Nm, atI wrongV n3 = some wn.v ∧ wn ∈ wrongs := by
    rcases four k0 k1 with rfl | rfl | rfl | rfl
    · exact ⟨.i 0, rfl, by decide⟩
    · exact ⟨.i 1000000001, rfl, by decide⟩
    · exact ⟨.b true, rfl, by decide⟩
    · exact ⟨.i (-4), rfl, by decide⟩
  refine ⟨lw, _, _, wn.v, rfl, rfl, .inl (.inl (Ka _ _ e9 nlw.1 nlw.2)), hwat, ?_⟩
  clear e9 nlw s9 Ka hb8 ho8 s8 hb7 hoa
  -- many, heavy
  refine ⟨_, rfl, nilArgs ?_⟩
  refine ⟨ce, _, rfl, .inl ⟨.inl (.inl ga.hce), fun ma hma => ?_⟩⟩
  have sb := Same.new (Same.refl Ha) hma (o := .tup (vzI tl))
  have hmb : (upd Ha ma (.tup (vzI tl))) ma = some (.tup (vzI tl)) := upd_same
  generalize upd Ha ma (.tup (vzI tl)) = Hb at sb hmb ⊢
  have gb := ga.same sb
  have hbb := sb _ _ hba
  have hob := sb _ _ hoa'
  refine ⟨_, rfl, ce, rfl, ⟨_, .inl (.inl gb.hce)⟩, fun D2 hD2 => ?_⟩
  obtain ⟨nb, nl⟩ := gb.B.free hD2
  refine lc_list (K := K) (a := ce) (xs := vzI tl) (fun i H3 => Bx H3 b l ∧ Kp b l Hb H3 ∧ ∃ (L : DPs) (ws : WL), H3 D2 = some (.lst (L.map fun x => V.ref x.1)) ∧ (∀ x ∈ L, H3 x.1 = some (.tup [.ref x.2.1, x.2.2.2]) ∧ H3 x.2.1 = some (.tup (x.2.2.1.map kV))) ∧ L.map (fun x => (x.2.2.1, x.2.2.2)) = wkvOf ws ∧
      ws.map (·.1) = (czI tl).take i ∧ (∀ x ∈ ws, 1 ≤ x.2 ∧ x.2 ≤ 1000000000) ∧ L.length = i)
    ⟨gb.B.updO nb nl, Kp.updN (Kp.refl b l Hb) hD2, [], [], upd_same, fun x hx => (by cases hx), rfl, by rw [List.take_zero]; rfl, fun x hx => (by cases hx), rfl⟩ (fun i H3 _ z => .inl (.inl (z.2.1 _ _ gb.hce gb.nb gb.nl))) ?_ ?_
  · rintro i y H3' hy ⟨B3, K3, LL, ws, m1, m2, m3, m4, m5, m6⟩
    obtain ⟨z, hz, rfl, mz⟩ := FI.at hy
    have hi : i < tl.length := (List.getElem?_eq_some_iff.mp hz).1
    have hzc : (czI tl)[i]? = some z.2 := by
      unfold czI
      rw [List.getElem?_map, hz]
      rfl
    refine ⟨rfl, tyes ?_⟩
    refine ⟨_, rfl, _, rfl, b, l, 9, rfl, B3, by decide, by decide, fun n H4 n1 n2 B4 K4 => ⟨_, _, rfl, rfl, by show 2 ≤ sizeLine; decide, fun t ht => ?_⟩⟩
    have s5 := Same.new (Same.refl H4) ht (o := .tup [.ref z.1, .int (1 + n)])
    have e5 : (upd H4 t (.tup [.ref z.1, .int (1 + n)])) t = some (.tup [.ref z.1, .int (1 + n)]) := upd_same
    have eh : (upd H4 t (.tup [.ref z.1, (fun i j => V.int (i + j)) 1 n])) = upd H4 t (.tup [.ref z.1, .int (1 + n)]) := rfl
    rw [eh]
    have B5 := B4.same s5
    have lD := s5 _ _ (K4 _ _ m1 nb nl)
    have k35 : Kp b l Hb (upd H4 t (.tup [.ref z.1, .int (1 + n)])) := (K3.trans K4).trans (Kp.of s5)
    have mv : ∀ {a : Addr} {vs : List V}, H3' a = some (.tup vs) → (upd H4 t (.tup [.ref z.1, .int (1 + n)])) a = some (.tup vs) := fun {a vs} h => s5 _ _ (kp_at B3 K4 h fun xs e => by cases e)
    generalize upd H4 t (.tup [.ref z.1, .int (1 + n)]) = H5 at s5 e5 B5 lD k35 mv ⊢
    have tu : ∀ {a : Addr} {vs : List V}, H5 a = some (.tup vs) → (upd H5 D2 (.lst ((LL.map fun x => V.ref x.1) ++ [.ref t]))) a = some (.tup vs) := fun {a vs} h => by
      rw [upd_ne (ne_of h lD fun e => by cases e)]
      exact h
    refine ⟨_, lD, Nat.lt_of_le_of_lt (show _ ≤ 100 by rw [List.length_map]; omega) (by decide), B5.updO nb nl, Kp.updN k35 hD2, LL ++ [(t, z.1, ick z.2, .int (1 + n))], ws ++ [(z.2, 1 + n)], by rw [upd_same, List.map_append]; rfl, fun y hy => ?_, ?_, ?_, fun y hy => ?_, by rw [List.length_append, m6]; rfl⟩
    · rcases List.mem_append.mp hy with h | h
      · obtain ⟨h1, h2⟩ := m2 y h
        exact ⟨tu (mv h1), tu (mv h2)⟩
      · rw [List.mem_singleton.mp h]
        exact ⟨tu e5, tu (mv (kp_at gb.B K3 (gb.CL z mz) fun xs e => by cases e))⟩
    · unfold wkvOf at m3 ⊢
      rw [List.map_append, List.map_append, m3]
      rfl
    · rw [List.map_append, m4, List.take_succ, hzc]
      rfl
    · rcases List.mem_append.mp hy with h | h
      · exact m5 y h
      · rw [List.mem_singleton.mp h]
        exact ⟨show (1 : Int) ≤ 1 + n by omega, show 1 + n ≤ 1000000000 by omega⟩
  rintro H3 ⟨B3, K3, LL, ws, m1, m2, m3, m4, m5, m6⟩
  rw [vzI_len] at m6
  rw [vzI_len, ← czI_len, List.take_length, el] at m4
  refine nilArgs ?_
  refine ⟨D2, LL, rfl, .inl (.inl m1), m2, by omega, fun ha hha => ?_⟩
  have epa : putAll [] LL = wkvOf ws := putAll_new LL [] ws m3 (by rw [List.nil_append, m4]; exact nd35)
  rw [epa]
  have gc := gb.kp B3 K3
  have hbc := kp_at gb.B K3 hbb fun xs e => by cases e
  have hoc := kp_at gb.B K3 hob fun xs e => by cases e
  have hmc := kp_at gb.B K3 hmb fun xs e => by cases e
  have sd := Same.new (Same.refl H3) hha (o := .dT (wkvOf ws))
  have hhd : (upd H3 ha (.dT (wkvOf ws))) ha = some (.dT (wkvOf ws)) := upd_same
  generalize upd H3 ha (.dT (wkvOf ws)) = Hd at sd hhd ⊢
  refine ⟨by show 2 ≤ sizeLine; decide, fun tp htp => ?_⟩
  refine ⟨tp, _, rfl, .inl (.inl upd_same), rfl, _, _, rfl, _, _, rfl, rfl, ?_⟩
  have se := sd.trans (Same.new (Same.refl Hd) htp (o := .tup [.ref ma, .ref ha]))
  have hhe := (Same.new (Same.refl Hd) htp (o := .tup [.ref ma, .ref ha])) _ _ hhd
  generalize upd Hd tp (.tup [.ref ma, .ref ha]) = He at se hhe ⊢
  have ge := gc.same se
  have hbe := se _ _ hbc
  have hoe := se _ _ hoc
  have hme := se _ _ hmc
  clear m1 m2 m3 m6 K3 B3 hD2 nb nl epa hbc hoc hmc sd hhd
  -- the bad ones
  refine ⟨_, rfl, .inr (.inr (.inl ⟨rfl, .inr ⟨_, hhe⟩⟩)), ha, _, rfl, rfl, hhe, fun iv hiv => ?_⟩
  have s1 := Same.new (Same.refl He) hiv (o := L2.DX.itemsO iv ha)
  have ei : (upd He iv (L2.DX.itemsO iv ha)) iv = some (L2.DX.itemsO iv ha) := upd_same
  generalize upd He iv (L2.DX.itemsO iv ha) = H1 at s1 ei ⊢
  refine nilArgs ⟨iv, ha, _, rfl, ei, s1 _ _ hhe, fun L il H2 s2 hil0 hil hL hLk => ?_⟩
  have s12 := s1.trans s2
  refine ⟨_, rfl, _, rfl, by show 2 ≤ sizeLine; decide, fun t ht => ⟨by show 1 ≤ sizeLine; decide, fun l1 hl1 => ?_⟩⟩
  have s3 := Same.new (Same.refl H2) ht (o := .tup [.ref x.1, wn.v])
  have e3 : (upd H2 t (.tup [.ref x.1, wn.v])) t = some (.tup [.ref x.1, wn.v]) := upd_same
  have hl1 : (upd H2 t (.tup [.ref x.1, wn.v])) l1 = none := hl1
  show rCat _ _ (upd (upd H2 t (.tup [.ref x.1, wn.v])) l1 _) _
  generalize upd H2 t (.tup [.ref x.1, wn.v]) = H3 at s3 e3 hl1 ⊢
  have s4 := Same.new (Same.refl H3) hl1 (o := .lst [.ref t])
  have e4 : (upd H3 l1 (.lst [.ref t])) l1 = some (.lst [.ref t]) := upd_same
  generalize upd H3 l1 (.lst [.ref t]) = H4 at s4 e4 ⊢
  have s24 := s3.trans s4
  have lw8 : ws.length = 8 := by
    have := congrArg List.length m4
    rw [List.length_map, land35] at this
    exact this
  have lL : L.length = 8 := by
    have := congrArg List.length hLk
    rw [List.length_map, wkv_len, lw8] at this
    exact this
  refine ⟨il, l1, _, _, rfl, rfl, s24 _ _ hil, e4, Nat.le_trans (show _ ≤ 100 by rw [List.length_map, List.length_singleton]; omega) (by decide), fun l2 hl2 => nilArgs ?_⟩
  have s5 := Same.new (Same.refl H4) hl2 (o := .lst ((L.map fun x => V.ref x.1) ++ [V.ref t]))
  have e5 : (upd H4 l2 (.lst ((L.map fun x => V.ref x.1) ++ [V.ref t]))) l2 = some (.lst ((L ++ [(t, x.1, ick x.2, wn.v)]).map fun x => V.ref x.1)) := by
    rw [upd_same, List.map_append]
    rfl
  generalize upd H4 l2 (.lst ((L.map fun x => V.ref x.1) ++ [V.ref t])) = H5 at s5 e5 ⊢
  have s25 := s24.trans s5
  refine ⟨l2, L ++ [(t, x.1, ick x.2, wn.v)], rfl, .inl (.inl e5), fun y hy => ?_, by rw [List.length_append, List.length_singleton]; omega, fun bd hbd => ?_⟩
  · rcases List.mem_append.mp hy with h | h
    · obtain ⟨h1, h2⟩ := hL y h
      exact ⟨s25 _ _ h1, s25 _ _ h2⟩
    · rw [List.mem_singleton.mp h]
      exact ⟨(s4.trans s5) _ _ e3, s25 _ _ (s12 _ _ hbe)⟩
  have ekw : (ws.map fun x => ((x.1, Nm.i x.2) : IC × Nm)).map (·.1) = landL R35 := by
    rw [← m4, List.map_map]
    rfl
  have ep : putAll [] (L ++ [(t, x.1, ick x.2, wn.v)]) = nkvOf ((ws.map fun x => ((x.1, Nm.i x.2) : IC × Nm)).map fun y => (y.1, if y.1 = x.2 then wn else y.2)) := by
    have h0 := putAll_nkv L ([] : List (IC × Nm)) (ws.map fun x => ((x.1, Nm.i x.2) : IC × Nm)) (by rw [nkv_ws]; exact hLk) (by rw [List.nil_append, ekw]; exact nd35)
    have h1 : putAll [] L = nkvOf (ws.map fun x => ((x.1, Nm.i x.2) : IC × Nm)) := h0
    rw [putAll_app, h1]
    exact nkv_set (by rw [ekw]; exact mq)
  rw [ep]
  have s6 := (s12.trans s25).trans (Same.new (Same.refl H5) hbd (o := .dT (nkvOf ((ws.map fun x => ((x.1, Nm.i x.2) : IC × Nm)).map fun y => (y.1, if y.1 = x.2 then wn else y.2)))))
  have e6 : (upd H5 bd (.dT (nkvOf ((ws.map fun x => ((x.1, Nm.i x.2) : IC × Nm)).map fun y => (y.1, if y.1 = x.2 then wn else y.2))))) bd = some (.dT (nkvOf ((ws.map fun x => ((x.1, Nm.i x.2) : IC × Nm)).map fun y => (y.1, if y.1 = x.2 then wn else y.2)))) := upd_same
  generalize upd H5 bd (.dT (nkvOf ((ws.map fun x => ((x.1, Nm.i x.2) : IC × Nm)).map fun y => (y.1, if y.1 = x.2 then wn else y.2)))) = H6 at s6 e6 ⊢
  have g6' := ge.same s6
  refine re Dn xi ce x.1 oa ma ha bd tl x.2 o ws _ _ _ _ _ _ _ _ _ _ _ H6 ⟨g6'.I, g6'.hce, g6'.CL, s6 _ _ hbe, s6 _ _ hoe, s6 _ _ hme, s6 _ _ hhe, e6, g6'.T⟩ ⟨el, mq, odds_off o ho, m4, m5, ?_, ?_⟩ kn
  · refine Eq.trans ?_ ekw
    rw [List.map_map (g := fun y : IC × Nm => y.1) (f := fun y : IC × Nm => (y.1, if y.1 = x.2 then wn else y.2))]
    rfl
  · have : x.2 ∈ (ws.map fun x => ((x.1, Nm.i x.2) : IC × Nm)).map (·.1) := by rw [ekw]; exact mq
    obtain ⟨y, hy, e⟩ := List.mem_map.mp this
    refine ⟨_, List.mem_map_of_mem hy, ?_⟩
    show inN (if y.1 = x.2 then wn else y.2) 1 1000000000 = false
    rw [if_pos e]
    exact wrongs_off wn hwn
end
end Om

namespace Om
open PySem PySem.Spec PyProof.Rows L2 LamX PySem.W NdefX
def spLaw (K : PySem.W.Frag) (Pt Pw : Addr) : Sp := fun vs H Q _ => ∃ (a : Addr) (ns : List Int), vs = [.ref a] ∧ SqL K H a (ns.map V.int) ∧ ns.length ≤ 63 ∧ H Pt = some (.tbl #[]) ∧ H Pw = some (.tbl #[]) ∧ ∀ H', Q (.bl true) H'
section
variable {P : Program} {w : World} {K : PySem.W.Frag} {mg : Str → Option Value} {base : Heap} {CI C0 fN pm gt CM gF c Pt Pw : Addr} {C : Nat → Addr} {fdF : FuncData}
theorem ok_law {f : Addr} {fd fC : FuncData} (F : FnP K "law" "law" sLaw f fd) (hcd : ∀ cd, fd.code = cd → cd = .ref c) (PP : Parts P w K mg base CI C0 fN pm gt CM gF Pt Pw C fdF) (TB : TabB base mg c Pt) (pC : PropOf K CI "cells" pm gt) (GC : FnOk P w K mg base CX0 1 gt fC ["self"] (spICellsT K CI)) (bC : Binds K fC ["self"] [])
    (gdict : mg "dict" = none) (gtuple : mg "tuple" = none) (glist : mg "list" = none) : FnOk P w K mg base CX0 17 f fd ["_law_script"] (spLaw K Pt Pw) := by
  obtain ⟨oc, od, dV, kV, doc, pm', an, cdv, ct, osl, rfl, lk, hcdv, _, _⟩ := F.ex
  obtain rfl : cdv = .ref c := hcd _ rfl
  obtain ⟨fI, GI, bI⟩ := PP.mkI.ex
  refine fn_of (k := 16) lk hcdv scLaw (fun vs H Q E h => ?_) (fun A outer s H vs Q E hr h => ?_)
  · obtain ⟨a, ns, rfl, _⟩ := h
    rfl
  · obtain ⟨a, ns, rfl, hS, hlen, hP1, hP2, k⟩ := h
    have nd := scLaw.nd
    have hr1 : Room 1 _ := hr.mono (by decide)
    have hr2 : Room 2 _ := hr.mono (by decide)
    have hr5 : Room 5 _ := hr.mono (by decide)
    obtain ⟨tT, qT, rT⟩ := law_d3 (f := f) (c := c) (H0 := H) (E := E) (s := s) (A := A) (outer := outer) PP TB gdict gtuple glist hr
    refine ⟨_, PSs.nox (pss_cons (ps_set (i := 1) nd rfl (.inr rfl) (pe_cal PP.mix hr1 pass0 (pa_cons (pv 0) (pa_cons pe_int pa_nil))))
      (pss_cons (ps_set (i := 2) nd rfl (.inr rfl) (pe_make PP.isl.made GI hr5 rfl PP.isl.gI bI .nil passE0 (pa_cons (pe_tup (pa_cons pe_str (pa_cons pe_str (pa_cons pe_str pa_nil)))) pa_nil)))
      (pss_cons (ps_set (i := 3) nd rfl (.inl rfl) (pe_prop (pv 2) PP.isl.cl pC GC hr2 bC .nil pass0 rfl)) qT))), ?_⟩
    refine ⟨_, rfl, a, ns, 35, rfl, hS, hlen, fun b l H1 hb hl s1 B1 => ?_⟩
    have T1 : Tabs (TT2 Pt Pw) H1 := fun p hp => by
      rcases List.mem_cons.mp hp with rfl | hp
      · exact TabS.nil (s1 _ _ hP1)
      · rw [List.mem_singleton.mp hp]
        exact TabS.nil (s1 _ _ hP2)
    refine ⟨by show 3 ≤ sizeLine; decide, fun pr hpr => nilArgs ?_⟩
    have s2 := Same.new (Same.refl H1) hpr (o := .tup [.str "..A", .str "~..", .str "..."])
    have e2 : (upd H1 pr (.tup [.str "..A", .str "~..", .str "..."])) pr = some (.tup (R35.map vt)) := by rw [r35_vt]; exact upd_same
    generalize upd H1 pr (.tup [.str "..A", .str "~..", .str "..."]) = H2 at s2 e2 ⊢
    intro xi dxi hxi hdxi _
    refine mk_read ok35 (.inl (.inl e2)) hxi hdxi fun H3 s3 I3 => ?_
    obtain ⟨dx, pr', hpr', _⟩ := id I3
    refine ⟨_, rfl, xi, dx, _, rfl, hpr', xi, R35, rfl, I3, vd35, fun ce tc H4 s4 hce0 hce hCA hct => ?_⟩
    have s34 := s2.trans (s3.trans s4)
    rw [← toTI_vz] at hce
    refine rT _ b l xi ce (toTI tc) _ _ _ _ _ _ _ _ _ _ _ _ _ _ H4 { B := B1.same s34, I := I3.same s4, hce := hce, CL := toTI_ca hCA, T := T1.ext s34, nb := ?_, nl := ?_ } ?_ k
    · obtain ⟨_, _, _, h1, h2, _⟩ := (B1.same (s2.trans s3)).ex
      exact fun e => by rw [e, h1] at hce0; cases hce0
    · obtain ⟨_, _, _, h1, h2, _⟩ := (B1.same (s2.trans s3)).ex
      exact fun e => by rw [e, h2] at hce0; cases hce0
    · rw [toTI_cz, hct]
      rfl
end
end Om

/-! a head that tells function objects by paths of one's own: the getters of properties -/
namespace OmH
open PySem PySem.Spec PyProof.Rows L2 He
structure DefA where
  adr : PySem.W.Frag → Addr
  name : Str
  qual : Str
  params : Arguments
  body : List Stmt
  scope : Scope
def fnWA (K : PySem.W.Frag) (a : Addr) : FnW := match K.lookup a with
  | some ⟨_, _, .func fd, _⟩ => some (fd.name, fd.qualname, fd.params, fd.body, fd.scope, fd.globals, fd.closure, fd.builtins)
  | _ => none
def DefA.val (d : DefA) : FnW := some (d.name, d.qual, d.params, .stmts d.body, d.scope, mainGlobals, [], builtinsNs)
def DefA.ok (K : PySem.W.Frag) (d : DefA) : Bool := PySem.W.keepIn K (.ref (d.adr K)) && (match K.lookup (d.adr K) with
  | some ⟨_, _, .func fd, _⟩ => PySem.W.codeIn K fd.code d.qual && (dflB K fd.defaults [] && kwdB K fd.kwdefaults [])
  | _ => false)
theorem DefA.funD {K : PySem.W.Frag} {d : DefA} (e : fnWA K (d.adr K) = d.val) (c : d.ok K = true) : ∃ fd, FunD K d.name d.qual d.params d.body d.scope [] [] (d.adr K) fd := by
  obtain ⟨kp, c2⟩ := ba c
  unfold fnWA at e
  cases q : K.lookup (d.adr K) with
  | none =>
    rw [q] at c2
    cases c2
  | some o =>
    obtain ⟨oc, od, dt, osl⟩ := o
    rw [q] at c2 e
    cases dt with
    | func fd =>
      obtain ⟨n1, n2, n3, n4, n5, n6, n7, n8, n9, n10, n11, n12, n13, n14, n15⟩ := fd
      have e2 : (some (n1, n2, n3, n4, n5, n6, n7, n15) : FnW) = some (d.name, d.qual, d.params, .stmts d.body, d.scope, mainGlobals, [], builtinsNs) := e
      simp only [Option.some.injEq, Prod.mk.injEq] at e2
      obtain ⟨h1, h2, h3, h4, h5, h6, h7, h8⟩ := e2
      subst h1 h2 h3 h4 h5 h6 h7 h8
      have c3 : (PySem.W.codeIn K n13 d.qual && (dflB K n8 [] && kwdB K n9 [])) = true := c2
      obtain ⟨k1, k2⟩ := ba c3
      obtain ⟨k3, k4⟩ := ba k2
      exact ⟨_, ⟨oc, od, n8, n9, n10, n11, n12, n13, n14, osl, rfl, q, k1, dflB_ok k3, kwdB_ok k4⟩, kp⟩
    | _ => cases c2
/-- the getter of C's property x -/
def getA (K : PySem.W.Frag) (C : Addr) (x : Str) : Addr := match PySem.W.recIn K (ma K C x) "property" with
  | some (.ref g :: _) => g
  | _ => 0
def propB (K : PySem.W.Frag) (C : Addr) (x : Str) : Bool := eqO (PySem.W.findIn K (.ref C) x) (some (some (.ref (ma K C x)))) && (eqO (PySem.W.specialIn K (.ref (ma K C x)) "__get__") (some (some (.builtin "property.__get__"))) &&
  (decide (PySem.W.takesIn K (.ref (ma K C x)) = some true) && (match PySem.W.recIn K (ma K C x) "property" with
  | some (.ref _ :: _) => true
  | _ => false)))
theorem propB_ok {K : PySem.W.Frag} {C : Addr} {x : Str} (h : propB K C x = true) : PropOf K C x (ma K C x) (getA K C x) := by
  obtain ⟨h1, h2⟩ := ba h
  obtain ⟨h2, h3⟩ := ba h2
  obtain ⟨h3, h4⟩ := ba h3
  refine ⟨eqO_ok h1, eqO_ok h2, of_decide_eq_true h3, ?_⟩
  unfold getA
  cases e : PySem.W.recIn K (ma K C x) "property" with
  | none => rw [e] at h4; cases h4
  | some vs =>
    rw [e] at h4
    cases vs with
    | nil => cases h4
    | cons v r =>
      cases v with
      | ref g => exact ⟨r, rfl⟩
      | _ => cases h4
abbrev AlY : Type := AlX × (Bool × List FnW)
def obsA (gs : List DefA) (K : PySem.W.Frag) : Bool × List FnW := (gs.all fun d => d.ok K, gs.map fun d => fnWA K (d.adr K))
def valA (gs : List DefA) : Bool × List FnW := (true, gs.map DefA.val)
def obsY (n : Nat) (fa : List Fa) (fn : List DefD) (ts : List Tab) (tf : List Defn) (gs : List DefA) (ex : PySem.W.Frag → Bool) (g : Addr → Option Obj) : AlY := (obsX n fa fn ts tf ex g, obsA gs (frT g (asD g n)))
def hookY (n : Nat) (fa : List Fa) (fn : List DefD) (ts : List Tab) (tf : List Defn) (gs : List DefA) (ex : PySem.W.Frag → Bool) : PySem.W.Hook where
  α := AlY
  obs := fun s => obsY n fa fn ts tf gs ex s.heap.get?
  val := fun w => (valX fn ts w, valA gs)
  says := fun w h => ∃ K : PySem.W.Frag, K.In h ∧ SaysX fa fn ts tf ex w h K ∧ obsA gs K = valA gs
  of := fun _ _ e => ⟨_, frT_in, saysX_of (congrArg (fun z : AlY => z.1) e), congrArg (fun z : AlY => z.2) e⟩
  keeps := fun _ _ _ ⟨K, hK, c, d⟩ k => ⟨K, PySem.W.Frag.In.keeps hK k, ⟨c.t, c.more, c.hd, c.out, fun p hp => k _ _ (c.empty p hp)⟩, d⟩
theorem obsY_eq {n : Nat} {fa : List Fa} {fn : List DefD} {ts : List Tab} {tf : List Defn} {gs : List DefA} {ex : PySem.W.Frag → Bool} {g : Addr → Option Obj} {s : Shared} (h : ∀ a, g a = s.heap.get? a) : obsY n fa fn ts tf gs ex g = (hookY n fa fn ts tf gs ex).obs s := by
  have e : g = s.heap.get? := funext h
  rw [e] <;> rfl
theorem getter {gs : List DefA} {K : PySem.W.Frag} (c : obsA gs K = valA gs) (i : Nat) {d : DefA} (h : gs[i]? = some d := by rfl) : ∃ fd, FunD K d.name d.qual d.params d.body d.scope [] [] (d.adr K) fd := by
  have c2 : (gs.all fun d => d.ok K) = true := congrArg (fun z : Bool × List FnW => z.1) c
  have e : gs.map (fun d => fnWA K (d.adr K)) = gs.map DefA.val := congrArg (fun z : Bool × List FnW => z.2) c
  have e2 : (gs.map fun d => fnWA K (d.adr K))[i]? = (gs.map DefA.val)[i]? := by rw [e]
  rw [List.getElem?_map, List.getElem?_map, h] at e2
  exact DefA.funD (Option.some.inj e2) (List.all_eq_true.mp c2 d (List.mem_of_getElem? h))
end OmH

namespace Om
open PySem PySem.Spec PyProof.Rows L2 LamX He OmH
/-! ### facts of the top by own Bools -/
def oexB (K : PySem.W.Frag) (C : Addr) : Bool := (match K.lookup C with
  | some ⟨.type t, _, .cls cd, sl⟩ => decide (t = "type") && (cd.hasDict && (!cd.hasDel && ((match cd.mro with
    | .ref c :: bm => decide (c = C) && PySem.HandSPX.refsVE bm
    | _ => false) && (match sl.toList with
    | [_, _, _, _, some (.builtin n), _] => decide (n = "ValueError.__new__")
    | _ => false))))
  | _ => false) && (eqO (PySem.W.findIn K (.ref C) "__setattr__") (some (some (.builtin "object.__setattr__"))) && (decide (PySem.W.subIn K (.ref C) (.type "BaseException") = some true) && (decide (PySem.W.typeIn K (.ref C) = some (.type "type")) && PySem.W.keepIn K (.ref C))))
theorem oexB_ok {K : PySem.W.Frag} {C : Addr} (h : oexB K C = true) : OexC K C := by
  obtain ⟨h1, h2⟩ := ba h
  obtain ⟨h2, h3⟩ := ba h2
  obtain ⟨h3, h4⟩ := ba h3
  obtain ⟨h4, h5⟩ := ba h4
  refine ⟨?_, eqO_ok h2, of_decide_eq_true h3, of_decide_eq_true h4, h5⟩
  clear h h2 h3 h4 h5
  cases e : K.lookup C with
  | none => rw [e] at h1; cases h1
  | some o =>
    rw [e] at h1
    obtain ⟨oc, od, dt, sl⟩ := o
    cases oc with
    | type t =>
      cases dt with
      | cls cd =>
        obtain ⟨a1, a2⟩ := ba h1
        obtain ⟨a2, a3⟩ := ba a2
        obtain ⟨a3, a4⟩ := ba a3
        obtain ⟨a4, a5⟩ := ba a4
        obtain ⟨nm, bs, mro, ns, qn, hd, sn, sb, ab, col, del⟩ := cd
        have e1 : t = "type" := of_decide_eq_true a1
        have e2 : hd = true := a2
        have e3 : del = false := by
          have a3 : (!del) = true := a3
          cases del with
          | true => cases a3
          | false => rfl
        clear a1 a2 a3 h1
        subst e1 e2 e3
        cases mro with
        | nil => cases a4
        | cons v bm =>
          cases v with
          | ref c =>
            obtain ⟨b1, b2⟩ := ba (show (decide (c = C) && PySem.HandSPX.refsVE bm) = true from a4)
            have e4 : c = C := of_decide_eq_true b1
            clear b1 a4
            subst e4
            obtain ⟨sl⟩ := sl
            split at a5
            · rename_i q
              have e5 := of_decide_eq_true a5
              have e6 : sl = _ := q
              subst e5 e6
              exact ⟨_, _, _, _, _, _, _, _, _, _, _, _, _, _, _, rfl, b2⟩
            · cases a5
          | _ => cases a4
      | _ => cases h1
    | _ => cases dt <;> cases h1
def errIB (K : PySem.W.Frag) (x : Str) : Bool := oexB K (ga K x) && (eqO (PySem.W.findIn K (.ref (ga K x)) "__init__") (some (some (.ref (ma K (ga K x) "__init__")))) && decide (PySem.W.typeIn K (.ref (ma K (ga K x) "__init__")) = some (.type "function")))
/-- an own special method -/
def ownB (K : PySem.W.Frag) (C : Addr) (n : Str) : Bool := eqO (PySem.W.findIn K (.ref C) n) (some (some (.ref (ma K C n)))) && (PySem.W.isFn K (.ref (ma K C n)) && PySem.W.fnIn K (ma K C n))
theorem ownB_ok {K : PySem.W.Frag} {C : Addr} {n : Str} (h : ownB K C n = true) : OwnM K C n (ma K C n) := by
  obtain ⟨h1, h2⟩ := ba h
  obtain ⟨h2, h3⟩ := ba h2
  exact ⟨eqO_ok h1, h2, h3⟩
def errUB (K : PySem.W.Frag) (C : Addr) : Bool := PySem.W.excIn K C [.type "ValueError", .type "Exception", .type "BaseException", .type "object"] "ValueError.__new__" && (PySem.W.keepIn K (.ref C) && (decide (PySem.W.subIn K (.ref C) (.type "BaseException") = some true) && decide (PySem.W.typeIn K (.ref C) = some (.type "type"))))
/-- a written tuple of ints, whatever their tokens -/
def intsB : List Value → List Int → Bool
  | [], [] => true
  | .int x _ :: r, y :: q => decide (x = y) && intsB r q
  | _, _ => false
theorem intsB_ok : ∀ {vs : List Value} {ws : List Int}, intsB vs ws = true → Vals (ws.map V.int) vs
  | [], [], _ => .nil
  | .int x t :: r, y :: q, h => by
    obtain ⟨h1, h2⟩ := ba h
    have e : x = y := of_decide_eq_true h1
    subst e
    exact .cons ⟨t, rfl⟩ (intsB_ok h2)
def tupB (K : PySem.W.Frag) (x : Str) (ws : List Int) : Bool := match K.lookup (ga K x) with
  | some ⟨.type t, _, .seq its _, _⟩ => decide (t = "tuple") && (decide (its.size ≤ sizeLine) && intsB its.toList ws)
  | _ => false
theorem tupB_ok {K : PySem.W.Frag} {x : Str} {ws : List Int} (h : tupB K x ws = true) : ∀ H, SqT K H (ga K x) (ws.map V.int) := by
  intro H
  unfold tupB at h
  split at h
  · rename_i t od its n sl e2
    obtain ⟨h1, h2⟩ := ba h
    obtain ⟨h2, h3⟩ := ba h2
    have e3 : t = "tuple" := of_decide_eq_true h1
    subst e3
    exact .inr ⟨_, its, n, e2, rfl, rfl, of_decide_eq_true h2, intsB_ok h3⟩
  · cases h
def excCB (K : PySem.W.Frag) (D : Addr) : Bool := xfB K D && (eqO (PySem.W.findIn K (.ref D) "__class__") (some (some (.builtin "object.__class__"))) && (eqO (PySem.W.specialIn K (.builtin "object.__class__") "__get__") (some (some (.builtin "getset_descriptor.__get__"))) &&
  (decide (PySem.W.takesIn K (.builtin "object.__class__") = some true) && decide (PySem.W.mroIn K D (.type "object") = some true))))
theorem excCB_ok {K : PySem.W.Frag} {D : Addr} (h : excCB K D = true) : ExcC K D := by
  obtain ⟨h1, h2⟩ := ba h
  obtain ⟨h2, h3⟩ := ba h2
  obtain ⟨h3, h4⟩ := ba h3
  obtain ⟨h4, h5⟩ := ba h4
  obtain ⟨x1, x2, x3, x4⟩ := xfB_ok h1
  exact ⟨x1, x2, x3, x4, eqO_ok h2, eqO_ok h3, of_decide_eq_true h4, of_decide_eq_true h5⟩
abbrev C3 (K : PySem.W.Frag) (i : Nat) : Addr := ga K (nmF i)
def kitB3 (K : PySem.W.Frag) : Bool := (List.range 3).all fun i => excCB K (C3 K i) && (decide (PySem.W.exmOne K (.ref (C3 K i)) (.ref (ga K "MapError")) = some true) && (List.range 3).all fun j => decide (PySem.W.kitOne K (.ref (C3 K i)) (.ref (C3 K j)) = some (decide (j = i))))
def tblNe (K : PySem.W.Frag) : Bool := decide ((cT K ("law", none)).2 ≠ (cT K ("weighed_walk", none)).2)
def exB (K : PySem.W.Frag) : Bool := kitB3 K && (errIB K "InvalidIsland" && (errUB K (ga K "UnknownCell") && (errUB K (ga K "InvalidNumber") && (errUB K (ga K "TooMany") && (ownB K (ga K "Island") "__contains__" && (propB K (ga K "Island") "cells" && (tupB K "ROW_STEPS" rsL && (tupB K "COLUMN_STEPS" csL && tblNe K))))))))
def fa : List Fa := [.free "int", .free "list", .free "len", .free "range", .free "tuple", .free "max", .free "min", .free "enumerate", .free "isinstance", .free "bool", .free "str", .free "sorted", .free "all", .free "sum", .free "dict", .str "ALL_SIGNS" allSigns, .str "WATER" (Str.ofString "~"), .int "LARGEST" 12, .int "MOST_CELLS" 7, .int "MOST_WEIGHT" 1000000000, .glo "ROW_STEPS", .glo "COLUMN_STEPS", .glo "MapError", .glo "InvalidIsland", .glo "InvalidNumber", .glo "TooMany", .glo "UnknownCell", .glo "Island",
  .glo "in_range", .glo "require_land", .glo "_lies_within", .glo "_check_rows", .glo "_first_wrong_column", .glo "next_cell", .glo "cells_beside", .glo "paces_from", .glo "least_order", .glo "_least_order", .glo "dig_walk", .glo "weighed_walk"]
def fa2 : List Fa := [.glo "_law_mix", .glo "_law_next", .glo "_law_alike", .glo "_law_fail", .glo "law", .cls "Island", .mkr "Island", .noat "Island" "_rows", .noat "InvalidIsland" "row", .noat "InvalidIsland" "column"]
def dG (x : Str) (st : Stmt) : He.DefD := ⟨(x, none), x, x, defArgs st, defBody st, defScope st, [], []⟩
def dM (c x q : Str) (st : Stmt) : He.DefD := ⟨(c, some x), x, q, defArgs st, defBody st, defScope st, [], []⟩
def fnD : List He.DefD := [dG "_law_mix" (top 33), dG "_law_next" (top 34), dG "_law_alike" (top 35), dG "_law_fail" (top 36), dG "law" (top 37), dG "in_range" (top 4), dG "require_land" (top 14), dG "_lies_within" (top 15), dG "_check_rows" (top 16), dG "_first_wrong_column" (top 17), dG "next_cell" (top 21), dG "cells_beside" (top 22), dG "paces_from" (top 25), dG "least_order" (top 26), dG "_least_order" (top 27), dG "dig_walk" (top 30), dG "weighed_walk" (top 31), dM "Island" "__init__" "Island.__init__" sIslI, dM "Island" "__contains__" "Island.__contains__" (sIslM 8), dM "InvalidIsland" "__init__" "InvalidIsland.__init__" sII]
def gG (c x q : Str) (st : Stmt) : OmH.DefA := ⟨fun K => getA K (ga K c) x, x, q, defArgs st, defBody st, defScope st⟩
def gsD : List OmH.DefA := [gG "Island" "cells" "Island.cells" (sIslM 4)]
def tfD : List He.Defn := [("law", none), ("weighed_walk", none)]
abbrev R : PySem.W.OpenRow := PySem.W.OpenLaw.row PySem.Challenge.rw_oldmap_k35_walks_refused
abbrev hk : PySem.W.Hook := OmH.hookY 6 (fa ++ fa2) fnD [] tfD gsD exB
def ob (s : PySem.W.SharedT) : OmH.AlY := OmH.obsY 6 (fa ++ fa2) fnD [] tfD gsD exB (HandSHeadRun.getT s)
theorem ob_eq (s : PySem.W.SharedT) : ob s = hk.obs s.abs := OmH.obsY_eq (HandSHeadRun.getT_eq s)
def loose1 : List Str := ["_wall", "WATER", "ALL_SIGNS", "in_range", "ROW_STEPS", "COLUMN_STEPS", "next_cell", "cells_beside", "MapError", "InvalidIsland", "InvalidNumber", "UnknownCell", "TooMany", "LARGEST", "MOST_CELLS", "MOST_WEIGHT"]
def loose2 : List Str := ["Island", "require_land", "_lies_within", "_check_rows", "_first_wrong_column", "paces_from", "least_order", "_least_order", "dig_walk", "weighed_walk", "_law_mix", "_law_next", "_law_alike", "_law_fail"]
def loose : List Str := loose1 ++ loose2
theorem run (w : World) : HandSHeadRun.RunEq R (PySem.W.view R.prog [37]) hk ob 9000 loose w := by
  intro os
  kernel_rfl
end Om

namespace Om
open PySem PySem.Spec PyProof.Rows L2 LamX He OmH
theorem errIB_ok {K : PySem.W.Frag} {x : Str} (h : errIB K x = true) : OexC K (ga K x) ∧ PySem.W.findIn K (.ref (ga K x)) "__init__" = some (some (.ref (ma K (ga K x) "__init__"))) ∧ PySem.W.typeIn K (.ref (ma K (ga K x) "__init__")) = some (.type "function") := by
  obtain ⟨h1, h2⟩ := ba h
  obtain ⟨h2, h3⟩ := ba h2
  exact ⟨oexB_ok h1, eqO_ok h2, of_decide_eq_true h3⟩
theorem b1 {K : PySem.W.Frag} {x q a : Str} {st : Stmt} {f : Addr} {fd : FuncData} (F : FnP K x q st f fd) (h : ∀ (kV doc pm : Value) (an : Option Addr) (cdv ct : Value) (u : Value), bindArgs (PySem.W.fnOf x q (defArgs st) (defBody st) (defScope st) .none kV doc pm an cdv ct) ⟨[u], []⟩ = pure [(a, u)]) : Binds K fd [a] [] :=
  FunD.bindsN F fun _ _ _ _ _ _ us hl => match us, hl with | [_], _ => h ..
theorem b2 {K : PySem.W.Frag} {x q a b : Str} {st : Stmt} {f : Addr} {fd : FuncData} (F : FnP K x q st f fd) (h : ∀ (kV doc pm : Value) (an : Option Addr) (cdv ct : Value) (u v : Value), bindArgs (PySem.W.fnOf x q (defArgs st) (defBody st) (defScope st) .none kV doc pm an cdv ct) ⟨[u, v], []⟩ = pure [(a, u), (b, v)]) : Binds K fd [a, b] [] :=
  FunD.bindsN F fun _ _ _ _ _ _ us hl => match us, hl with | [_, _], _ => h ..
theorem b3 {K : PySem.W.Frag} {x q a b c : Str} {st : Stmt} {f : Addr} {fd : FuncData} (F : FnP K x q st f fd) (h : ∀ (kV doc pm : Value) (an : Option Addr) (cdv ct : Value) (u v z : Value), bindArgs (PySem.W.fnOf x q (defArgs st) (defBody st) (defScope st) .none kV doc pm an cdv ct) ⟨[u, v, z], []⟩ = pure [(a, u), (b, v), (c, z)]) : Binds K fd [a, b, c] [] :=
  FunD.bindsN F fun _ _ _ _ _ _ us hl => match us, hl with | [_, _, _], _ => h ..
theorem b4 {K : PySem.W.Frag} {x q a b c d : Str} {st : Stmt} {f : Addr} {fd : FuncData} (F : FnP K x q st f fd) (h : ∀ (kV doc pm : Value) (an : Option Addr) (cdv ct : Value) (u v z y : Value), bindArgs (PySem.W.fnOf x q (defArgs st) (defBody st) (defScope st) .none kV doc pm an cdv ct) ⟨[u, v, z, y], []⟩ = pure [(a, u), (b, v), (c, z), (d, y)]) : Binds K fd [a, b, c, d] [] :=
  FunD.bindsN F fun _ _ _ _ _ _ us hl => match us, hl with | [_, _, _, _], _ => h ..
abbrev gI (K : PySem.W.Frag) : Addr := ga K "Island"
theorem kit3 {K : PySem.W.Frag} (h : kitB3 K = true) {i : Nat} (hi : i < 3) : ExcC K (C3 K i) ∧ PySem.W.exmOne K (.ref (C3 K i)) (.ref (ga K "MapError")) = some true ∧ ∀ j, j < 3 → PySem.W.kitOne K (.ref (C3 K i)) (.ref (C3 K j)) = some (decide (j = i)) := by
  have h1 := List.all_eq_true.mp h i (List.mem_range.mpr hi)
  obtain ⟨b, c⟩ := ba h1
  obtain ⟨c, d⟩ := ba c
  exact ⟨excCB_ok b, of_decide_eq_true c, fun j hj => of_decide_eq_true (List.all_eq_true.mp d j (List.mem_range.mpr hj))⟩
theorem in3 : ∀ i, i < 3 → Fa.glo (nmF i) ∈ fa ++ fa2 := fun i hi => by
  have e : i = 0 ∨ i = 1 ∨ i = 2 := by omega
  rcases e with rfl | rfl | rfl <;> simp [fa, nmF]
theorem code_at {K : PySem.W.Frag} {x : Str} {st : Stmt} {f : Addr} {fd : FuncData} (F : FnP K x x st f fd) (e : ∀ {oc : Value} {od : Option Addr} {dV kV doc pm : Value} {an : Option Addr} {c' : Addr} {ct : Value} {osl : Array (Option Value)}, K.lookup f = some ⟨oc, od, .func (PySem.W.fnOf x x (defArgs st) (defBody st) (defScope st) dV kV doc pm an (.ref c') ct), osl⟩ → codeOf K (x, none) = c') : ∀ cd, fd.code = cd → cd = .ref (cT K (x, none)).1 := by
  obtain ⟨oc, od, dV, kV, doc, pm, an, cdv, ct, osl, rfl, lk, hcdv, _, _⟩ := F.ex
  obtain ⟨c', rfl⟩ := codeIn_ref hcdv
  intro cd hcd
  have e1 := e lk
  subst hcd
  show Value.ref c' = .ref (codeOf K (x, none))
  rw [e1]
theorem parts_at {P : Program} {w : World} {K : PySem.W.Frag} {h base : Heap} {mg : Str → Option Value} (X : K.In h) (G : h.Ns mainGlobals mg) (c : He.SaysX (fa ++ fa2) fnD [] tfD exB w h K) (cg : obsA gsD K = valA gsD) (TBw : TabB base mg (cT K ("weighed_walk", none)).1 (cT K ("weighed_walk", none)).2) : ∃ fdF fC, Parts P w K mg base (gI K) (ga K "InvalidIsland") (ma K (gI K) "__init__") (ma K (gI K) "cells") (getA K (gI K) "cells") (ga K "MapError") (ga K "_law_fail") (cT K ("law", none)).2 (cT K ("weighed_walk", none)).2 (C3 K) fdF ∧ PropOf K (gI K) "cells" (ma K (gI K) "cells") (getA K (gI K) "cells") ∧ FnOk P w K mg base CX0 1 (getA K (gI K) "cells") fC ["self"] (spICellsT K (gI K)) ∧ Binds K fC ["self"] [] := by
  have d := c.t.d
  obtain ⟨f0, F0⟩ := d.def_ 0 (d := dG "_law_mix" (top 33)) rfl
  have F0 : FnP K "_law_mix" "_law_mix" (top 33) _ f0 := F0
  obtain ⟨f1, F1⟩ := d.def_ 1 (d := dG "_law_next" (top 34)) rfl
  have F1 : FnP K "_law_next" "_law_next" (top 34) _ f1 := F1
  obtain ⟨f2, F2⟩ := d.def_ 2 (d := dG "_law_alike" (top 35)) rfl
  have F2 : FnP K "_law_alike" "_law_alike" (top 35) _ f2 := F2
  obtain ⟨f3, F3⟩ := d.def_ 3 (d := dG "_law_fail" (top 36)) rfl
  have F3 : FnP K "_law_fail" "_law_fail" (top 36) _ f3 := F3
  obtain ⟨f5, F5⟩ := d.def_ 5 (d := dG "in_range" (top 4)) rfl
  have F5 : FnP K "in_range" "in_range" (top 4) _ f5 := F5
  obtain ⟨f6, F6⟩ := d.def_ 6 (d := dG "require_land" (top 14)) rfl
  have F6 : FnP K "require_land" "require_land" (top 14) _ f6 := F6
  obtain ⟨f7, F7⟩ := d.def_ 7 (d := dG "_lies_within" (top 15)) rfl
  have F7 : FnP K "_lies_within" "_lies_within" (top 15) _ f7 := F7
  obtain ⟨f8, F8⟩ := d.def_ 8 (d := dG "_check_rows" (top 16)) rfl
  have F8 : FnP K "_check_rows" "_check_rows" (top 16) _ f8 := F8
  obtain ⟨f9, F9⟩ := d.def_ 9 (d := dG "_first_wrong_column" (top 17)) rfl
  have F9 : FnP K "_first_wrong_column" "_first_wrong_column" (top 17) _ f9 := F9
  obtain ⟨f10, F10⟩ := d.def_ 10 (d := dG "next_cell" (top 21)) rfl
  have F10 : FnP K "next_cell" "next_cell" (top 21) _ f10 := F10
  obtain ⟨f11, F11⟩ := d.def_ 11 (d := dG "cells_beside" (top 22)) rfl
  have F11 : FnP K "cells_beside" "cells_beside" (top 22) _ f11 := F11
  obtain ⟨f12, F12⟩ := d.def_ 12 (d := dG "paces_from" (top 25)) rfl
  have F12 : FnP K "paces_from" "paces_from" (top 25) _ f12 := F12
  obtain ⟨f13, F13⟩ := d.def_ 13 (d := dG "least_order" (top 26)) rfl
  have F13 : FnP K "least_order" "least_order" (top 26) _ f13 := F13
  obtain ⟨f14, F14⟩ := d.def_ 14 (d := dG "_least_order" (top 27)) rfl
  have F14 : FnP K "_least_order" "_least_order" (top 27) _ f14 := F14
  obtain ⟨f15, F15⟩ := d.def_ 15 (d := dG "dig_walk" (top 30)) rfl
  have F15 : FnP K "dig_walk" "dig_walk" (top 30) _ f15 := F15
  obtain ⟨f16, F16⟩ := d.def_ 16 (d := dG "weighed_walk" (top 31)) rfl
  have F16 : FnP K "weighed_walk" "weighed_walk" (top 31) _ f16 := F16
  obtain ⟨f17, F17⟩ := d.def_ 17 (d := dM "Island" "__init__" "Island.__init__" sIslI) rfl
  have F17 : FnP K "__init__" "Island.__init__" sIslI _ f17 := F17
  obtain ⟨f18, F18⟩ := d.def_ 18 (d := dM "Island" "__contains__" "Island.__contains__" (sIslM 8)) rfl
  have F18 : FnP K "__contains__" "Island.__contains__" (sIslM 8) _ f18 := F18
  obtain ⟨f19, F19⟩ := d.def_ 19 (d := dM "InvalidIsland" "__init__" "InvalidIsland.__init__" sII) rfl
  have F19 : FnP K "__init__" "InvalidIsland.__init__" sII _ f19 := F19
  obtain ⟨g0, P0⟩ := getter cg 0 (d := gG "Island" "cells" "Island.cells" (sIslM 4)) rfl
  have P0 : FnP K "cells" "Island.cells" (sIslM 4) _ g0 := P0
  have fr : ∀ {x : Str}, Fa.free x ∈ fa ++ fa2 → mg x = none := fun hx => free_ok X G (d.facts hx)
  have gl : ∀ {x : Str}, Fa.glo x ∈ fa ++ fa2 → mg x = some (.ref (ga K x)) := fun hx => glo_ok X G (d.facts hx)
  have fact : ∀ {f : Fa}, f ∈ fa ++ fa2 → f.ok K = true := fun hf => d.facts hf
  have gint : mg "int" = none := fr (by simp [fa])
  have glist : mg "list" = none := fr (by simp [fa])
  have glen : mg "len" = none := fr (by simp [fa])
  have grange : mg "range" = none := fr (by simp [fa])
  have gtuple : mg "tuple" = none := fr (by simp [fa])
  have gmax : mg "max" = none := fr (by simp [fa])
  have gmin : mg "min" = none := fr (by simp [fa])
  have genum : mg "enumerate" = none := fr (by simp [fa])
  have gisi : mg "isinstance" = none := fr (by simp [fa])
  have gbool : mg "bool" = none := fr (by simp [fa])
  have gstr : mg "str" = none := fr (by simp [fa])
  have gsorted : mg "sorted" = none := fr (by simp [fa])
  have gall : mg "all" = none := fr (by simp [fa])
  have gsum : mg "sum" = none := fr (by simp [fa])
  have gdict : mg "dict" = none := fr (by simp [fa])
  have sall := str_ok X G (fact (f := .str "ALL_SIGNS" allSigns) (by simp [fa]))
  have swat := str_ok X G (fact (f := .str "WATER" (Str.ofString "~")) (by simp [fa]))
  have slarge := int_ok X G (fact (f := .int "LARGEST" 12) (by simp [fa]))
  have smost := int_ok X G (fact (f := .int "MOST_CELLS" 7) (by simp [fa]))
  have swt := int_ok X G (fact (f := .int "MOST_WEIGHT" 1000000000) (by simp [fa]))
  obtain ⟨x1, x2⟩ := ba c.more
  obtain ⟨x2, x3⟩ := ba x2
  obtain ⟨x3, x4⟩ := ba x3
  obtain ⟨x4, x5⟩ := ba x4
  obtain ⟨x5, x6⟩ := ba x5
  obtain ⟨x6, x7⟩ := ba x6
  obtain ⟨x7, x8⟩ := ba x7
  obtain ⟨x8, x9⟩ := ba x8
  obtain ⟨x9, x10⟩ := ba x9
  obtain ⟨oII, iII, tII⟩ := errIB_ok x2
  have nR := noat_ok (fact (f := .noat "InvalidIsland" "row") (by simp [fa, fa2]))
  have nC := noat_ok (fact (f := .noat "InvalidIsland" "column") (by simp [fa, fa2]))
  have isi : IsI K mg (ga K "InvalidIsland") (ma K (ga K "InvalidIsland") "__init__") := ⟨oII, nR, nC, iII, tII, gl (by simp [fa])⟩
  have isl : IslF K mg (gI K) (ma K (gI K) "__init__") := ⟨cls_ok (fact (f := .cls "Island") (by simp [fa, fa2])), noat_ok (fact (f := .noat "Island" "_rows") (by simp [fa, fa2])), mkr_ok (fact (f := .mkr "Island") (by simp [fa, fa2])), gl (by simp [fa])⟩
  have eu : ErrU K mg "UnknownCell" (ga K "UnknownCell") := by
    obtain ⟨y1, y2⟩ := ba x3
    obtain ⟨y2, y3⟩ := ba y2
    obtain ⟨y3, y4⟩ := ba y3
    exact ⟨y1, y2, of_decide_eq_true y3, of_decide_eq_true y4, gl (by simp [fa])⟩
  have eN : ErrU K mg "InvalidNumber" (ga K "InvalidNumber") := by
    obtain ⟨y1, y2⟩ := ba x4
    obtain ⟨y2, y3⟩ := ba y2
    obtain ⟨y3, y4⟩ := ba y3
    exact ⟨y1, y2, of_decide_eq_true y3, of_decide_eq_true y4, gl (by simp [fa])⟩
  have eT : ErrU K mg "TooMany" (ga K "TooMany") := by
    obtain ⟨y1, y2⟩ := ba x5
    obtain ⟨y2, y3⟩ := ba y2
    obtain ⟨y3, y4⟩ := ba y3
    exact ⟨y1, y2, of_decide_eq_true y3, of_decide_eq_true y4, gl (by simp [fa])⟩
  have tRow : TupF K mg "ROW_STEPS" rsL := ⟨_, gl (by simp [fa]), tupB_ok x8⟩
  have tCol : TupF K mg "COLUMN_STEPS" csL := ⟨_, gl (by simp [fa]), tupB_ok x9⟩
  have hne : (cT K ("law", none)).2 ≠ (cT K ("weighed_walk", none)).2 := of_decide_eq_true x10
  have fai : FailF K mg (C3 K) (ga K "MapError") := ⟨gl (by simp [fa]), fun i hi => glo_ok X G (d.facts (in3 i hi)), fun i hi => (kit3 x1 hi).2.1, fun i hi => (kit3 x1 hi).1, fun i j hi hj => (kit3 x1 hi).2.2 j hj, gisi⟩
  have kNx : Cal P w K mg base CX0 1 "_law_next" ["_law_h", "_law_limit"] spNext := ⟨_, _, ok_next F1 gint gmax glen, gl (by simp [fa, fa2]), F1.kp, b2 F1 fun _ _ _ _ _ _ _ _ => rfl⟩
  have kRg : Cal P w K mg base CX0 1 "in_range" nInR spInR := ⟨_, _, ok_inR F5 gisi gint gbool, gl (by simp [fa, fa2]), F5.kp, b3 F5 fun _ _ _ _ _ _ _ _ _ => rfl⟩
  have kRn : Cal P w K mg base CX0 1 "in_range" nInR spInN := ⟨_, _, ok_inN F5 gisi gint gbool, gl (by simp [fa, fa2]), F5.kp, b3 F5 fun _ _ _ _ _ _ _ _ _ => rfl⟩
  have kLi : Cal P w K mg base CX0 2 "_lies_within" ["rows", "cell"] (spLies K) := ⟨_, _, ok_lies F7 kRg glen, gl (by simp [fa, fa2]), F7.kp, b2 F7 fun _ _ _ _ _ _ _ _ => rfl⟩
  have kFw : Cal P w K mg base CX0 1 "_first_wrong_column" ["signs", "width"] spFwc := ⟨_, _, ok_fwc F9 grange glen sall, gl (by simp [fa, fa2]), F9.kp, b2 F9 fun _ _ _ _ _ _ _ _ => rfl⟩
  have bII : Binds K f19 ["self", "row", "column"] [] := b3 F19 fun _ _ _ _ _ _ _ _ _ => rfl
  have kCk : Cal P w K mg base (L2.CX P w) 3 "_check_rows" ["rows"] (spChk K (ga K "InvalidIsland")) := ⟨_, _, ok_chk F8 isi (ok_II F19 isi) bII kFw glen gmax gmin genum slarge, gl (by simp [fa, fa2]), F8.kp, b1 F8 fun _ _ _ _ _ _ _ => rfl⟩
  have bAl : Binds K f2 ["_law_found", "_law_due"] [] := b2 F2 fun _ _ _ _ _ _ _ _ => rfl
  have gAl : mg "_law_alike" = some (.ref (ga K "_law_alike")) := gl (by simp [fa, fa2])
  have bLo : Binds K f14 pLO [] := b4 F14 fun _ _ _ _ _ _ _ _ _ _ => rfl
  have gLo : mg "_least_order" = some (.ref (ga K "_least_order")) := gl (by simp [fa, fa2])
  have bN : Binds K f17 ["self", "rows"] [] := b2 F17 fun _ _ _ _ _ _ _ _ => rfl
  have okN : FnOk P w K mg base (L2.CX P w) 4 (ma K (gI K) "__init__") f17 ["self", "rows"] (spIsl K (gI K) (ga K "InvalidIsland")) := ok_isl F17 isl kCk gtuple
  have okC : FnOk P w K mg base CX0 1 (getA K (gI K) "cells") g0 ["self"] (spICellsT K (gI K)) := ok_icellsT P0 isl genum swat
  have bC : Binds K g0 ["self"] [] := b1 P0 fun _ _ _ _ _ _ _ => rfl
  have pC := propB_ok x7
  have okH : FnOk P w K mg base CX0 3 (ma K (gI K) "__contains__") f18 ["self", "cell"] (spHas K (gI K)) := ok_has F18 isl kLi swat
  have bH : Binds K f18 ["self", "cell"] [] := b2 F18 fun _ _ _ _ _ _ _ _ => rfl
  have oH := ownB_ok x6
  have kNc : Cal P w K mg base CX0 1 "next_cell" ["state"] (spNextC K) := ⟨_, _, ok_nextC F10 tRow tCol, gl (by simp [fa, fa2]), F10.kp, b1 F10 fun _ _ _ _ _ _ _ => rfl⟩
  have kBs : Cal P w K mg base CX0 2 "cells_beside" ["cell"] (spBes K) := ⟨_, _, ok_bes F11 kNc tRow grange glen, gl (by simp [fa, fa2]), F11.kp, b1 F11 fun _ _ _ _ _ _ _ => rfl⟩
  have kLa : Cal P w K mg base (L2.CX P w) 4 "require_land" ["island", "cell"] (spLandX K (gI K) (ga K "UnknownCell")) := ⟨_, _, ok_land F6 eu oH okH bH, gl (by simp [fa, fa2]), F6.kp, b2 F6 fun _ _ _ _ _ _ _ _ => rfl⟩
  have kPf : Cal P w K mg base CX0 3 "paces_from" ["cells", "begin"] (spPF K) := ⟨_, _, ok_pf F12 kBs glen gsorted, gl (by simp [fa, fa2]), F12.kp, b2 F12 fun _ _ _ _ _ _ _ _ => rfl⟩
  have kLo : Cal P w K mg base CX0 11 "_least_order" pLO (spLO 9) := ⟨_, _, ok_lo F14 gLo F14.kp bLo gsum glen gmin 9, gLo, F14.kp, bLo⟩
  have kOrd : Cal P w K mg base CX0 12 "least_order" ["island", "begin", "cells", "factor"] (spOrd K (gI K)) := ⟨_, _, ok_ord F13 kPf isl pC okC bC kLo gall, gl (by simp [fa, fa2]), F13.kp, b4 F13 fun _ _ _ _ _ _ _ _ _ _ => rfl⟩
  have hcw : ∀ cd, f16.code = cd → cd = .ref (cT K ("weighed_walk", none)).1 := code_at F16 fun lk => codeOf_eq (p := ("weighed_walk", none)) lk rfl
  have kWw : Cal P w K mg base (L2.CX P w) 13 "weighed_walk" pWW (spWW K (gI K) (TT2 (cT K ("law", none)).2 (cT K ("weighed_walk", none)).2)) := ⟨_, _, ok_ww tt2_m2 (tt2_2 hne) F16 hcw TBw kLa kRg kOrd glist gall gsorted glen smost swt, gl (by simp [fa, fa2]), F16.kp, b3 F16 fun _ _ _ _ _ _ _ _ _ => rfl⟩
  have kWx : Cal P w K mg base (L2.CX P w) 13 "weighed_walk" pWW (spWX K (gI K) (C3 K 0) (C3 K 1) (C3 K 2)) := ⟨_, _, ok_wx F16 kLa eN eT kRn glist gall glen smost swt, gl (by simp [fa, fa2]), F16.kp, b3 F16 fun _ _ _ _ _ _ _ _ _ => rfl⟩
  refine ⟨f3, g0, {
    mix := ⟨_, _, ok_mix F0 gint glist, gl (by simp [fa, fa2]), F0.kp, b2 F0 fun _ _ _ _ _ _ _ _ => rfl⟩
    nxt := kNx
    alk := ⟨_, _, ok_alike F2 gAl F2.kp bAl gisi gint gbool gstr gtuple glist gdict glen grange 5, gAl, F2.kp, bAl⟩
    wwk := kWw
    wwx := kWx
    dwk := ⟨_, _, ok_dw F15 kWw, gl (by simp [fa, fa2]), F15.kp, b3 F15 fun _ _ _ _ _ _ _ _ _ => rfl⟩
    dwx := ⟨_, _, ok_dx F15 kWx, gl (by simp [fa, fa2]), F15.kp, b3 F15 fun _ _ _ _ _ _ _ _ _ => rfl⟩
    isl := isl
    mkI := ⟨_, okN, bN⟩
    FF := F3
    hF := gl (by simp [fa, fa2])
    bF := b1 F3 fun _ _ _ _ _ _ _ => rfl
    fai := fai
    ne := hne }, pC, okC, bC⟩
theorem law_at {w : World} {K : PySem.W.Frag} {h : Heap} {mg : Str → Option Value} {f : Addr} (X : K.In h) (G : h.Ns mainGlobals mg) (hfa : mg ("law" : Str) = some (.ref f)) (c : He.SaysX (fa ++ fa2) fnD [] tfD exB w h K) (cg : obsA gsD K = valA gsD) :
    LawAtS PySem.Challenge.rw_oldmap_k35_walks_refused w K CX0 17 63 "_law_script" mg f h := by
  have d := c.t.d
  have fr : ∀ {x : Str}, Fa.free x ∈ fa ++ fa2 → mg x = none := fun hx => free_ok X G (d.facts hx)
  have gl : ∀ {x : Str}, Fa.glo x ∈ fa ++ fa2 → mg x = some (.ref (ga K x)) := fun hx => glo_ok X G (d.facts hx)
  have e := hfa.symm.trans (gl (x := "law") (by simp [fa, fa2]))
  cases e
  obtain ⟨fd, F⟩ := d.def_ 4 (d := dG "law" (top 37)) rfl
  have F : FnP K "law" "law" sLaw _ fd := F
  have bL := FunD.bindsA (ps := ["_law_script"]) F fun _ _ _ _ _ _ us hl => match us, hl with | [_], _ => rfl
  have hcd : ∀ cd, fd.code = cd → cd = .ref (cT K ("law", none)).1 := code_at F fun lk => codeOf_eq (p := ("law", none)) lk rfl
  have hm1 : (("law", none) : He.Defn) ∈ tfD := List.mem_cons_self
  have hm2 : (("weighed_walk", none) : He.Defn) ∈ tfD := List.mem_cons_of_mem _ List.mem_cons_self
  have each : ∀ {φ : Addr × Addr → Prop}, φ (cT K ("law", none)) → φ (cT K ("weighed_walk", none)) → ∀ p ∈ [cT K ("law", none), cT K ("weighed_walk", none)], φ p := fun {φ} h1 h2 p hp => by
    rcases List.mem_cons.mp hp with rfl | hp
    · exact h1
    · rw [List.mem_singleton.mp hp]
      exact h2
  refine ⟨fd, [cT K ("law", none), cT K ("weighed_walk", none)], spLaw K (cT K ("law", none)).2 (cT K ("weighed_walk", none)).2, each (c.empty _ hm1) (c.empty _ hm2), each (c.out _ hm1) (c.out _ hm2), each (PySem.W.codeHd_of_K X (c.hd _ hm1)) (PySem.W.codeHd_of_K X (c.hd _ hm2)), fun s u => bL s [u] rfl, fun H a ns hl _ hT hS => ⟨a, ns, rfl, hS, hl, hT _ List.mem_cons_self, hT _ (List.mem_cons_of_mem _ List.mem_cons_self), fun _ => rfl⟩, fun base KB GB TB => ?_⟩
  obtain ⟨fdF, fC, PP, pC, GC, bC⟩ := parts_at (P := PySem.Challenge.rw_oldmap_k35_walks_refused.prog) (w := w) (base := base) X G c cg (TB _ (List.mem_cons_of_mem _ List.mem_cons_self))
  exact ok_law F hcd PP (TB _ List.mem_cons_self) pC GC bC (fr (x := "dict") (by simp [fa])) (fr (x := "tuple") (by simp [fa])) (fr (x := "list") (by simp [fa]))
end Om
open PySem PySem.W PySem.Calls PyProof.Rows
theorem PySem.Challenge.cw_oldmap_k35_walks_refused_holds : PySem.Challenge.rw_oldmap_k35_walks_refused.Holds := by
  w_on; o_law
  refine HandSHeadRun.head_any (r := OpenLaw.row PySem.Challenge.rw_oldmap_k35_walks_refused) (q := view (OpenLaw.row PySem.Challenge.rw_oldmap_k35_walks_refused).prog [37]) (H := Om.hk) (ob := Om.ob) (M := 9000) (loose := Om.loose) (d := HandSHeadRun.topDef (OpenLaw.row PySem.Challenge.rw_oldmap_k35_walks_refused).prog 37) (kwd := []) Om.ob_eq
    (by kernel_rfl) (fun s => by kernel_rfl) Om.run (by kernel_rfl) (by kernel_rfl) (by kernel_rfl) (by rfl) (by first | assumption | decide +kernel) (by decide +kernel) ⟨rfl, rfl, rfl, rfl, rfl, by decide +kernel⟩ ?hw ?hc
  case hw => w_witness2
  case hc =>
    refine LamX.walk_ofTsE (l := PySem.Challenge.rw_oldmap_k35_walks_refused) (n := 63) (k := 17) (x := "_law_script") (CX := fun _ => L2.CX0) rfl (by decide) (by kernel_rfl) ⟨rfl, by decide, by decide⟩ ?F (fun _ _ _ _ _ z => z)
    intro w mg fa h Y G hmg0
    obtain ⟨K, KX, c, cg⟩ := Y
    have hmg : mg ("law" : PySem.Str) = some (.ref fa) := by
      have e : (HandSHeadRun.topDef (OpenLaw.row PySem.Challenge.rw_oldmap_k35_walks_refused).prog 37).name = ("law" : PySem.Str) := by kernel_rfl
      rw [← e]
      exact hmg0
    exact ⟨K, KX, Om.law_at KX G hmg c cg⟩
