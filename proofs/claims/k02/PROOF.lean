import PyProof.Rows.All
import Wide.All
import OpenK.AllK
import Wide.FinOn
import HandS.ForMost
import HandS.Wide
import HandS.Deep
import HandS.Flow
import HandS.Defaults
import HandS.Zip
import HandS.Iter
import HandS.ForExc
import HandS.RaiseMore
import HandS.ExcIs
import HandS.HotCalls
import HandS.HeadHook1
import HandS.IsInst
import HandS.Conv
import HandS.TupAny
import HandS.More
import HandS.NoneIn
import HandS.Head3
import HandS.HeadEnd
import HandS.HeadHook2
import HandS.HeadHook3
import HandS.HeadHook4
import HandS.Gcd
import KE.KStateDown
import HandS.Base
import HandS.Call
import HandS.Ends
import HandS.Words
import HandS.WordsExc
import HandS.Head0
import HandS.Head1
import HandS.Head2
import PySem.Challenge.RW_nearfields_k02_middles
set_option Elab.async false
set_option linter.all false
set_option maxRecDepth 100000
set_option maxHeartbeats 2000000
/-! Layer of the nearfields proofs: weakest preconditions on the syntax, data by value. -/
namespace NF
open PySem PySem.Spec PyProof.Rows L2
abbrev St := L2.St

/-! ### what a piece of syntax makes true -/
def WE (X : Cx) (e : Expr) : TE := fun σ H Q => ∀ pins s, Inv X pins σ H s → wpAny (model X.prog X.w) X.A (eval e X.env) (EP X pins σ Q) X.xe s
def WT (X : Cx) (e : Expr) : TT := fun σ H Q => ∀ pins s, Inv X pins σ H s → wpAny (model X.prog X.w) X.A (isTrue e X.env (eval e X.env)) (TP X pins σ Q) X.xe s
def WA (X : Cx) (es : List Expr) : TA := fun σ H Q => ∀ pos pins s, Inv X pins σ H s → wpAny (model X.prog X.w) X.A (spliced (backTo pos (starEach es X.env))) (AP X pins σ Q) X.xe s
def WS (X : Cx) (st : Stmt) : TS := fun D σ H => ∀ pins s, Inv X pins σ H s → wpAny (model X.prog X.w) X.A (exec st X.env) (SP X pins D) X.xe s
def WSs (X : Cx) (st : List Stmt) : TS := fun D σ H => ∀ pins s, Inv X pins σ H s → wpAny (model X.prog X.w) X.A (execs st X.env) (SP X pins D) X.xe s
def WG (X : Cx) (tg : Expr) : TG := fun v σ H Q => ∀ pins s u, Inv X pins σ H s → RelV v u →
    wpAny (model X.prog X.w) X.A (assign tg X.env u) (fun _ s' => ∃ σ' H', Inv X pins σ' H' s' ∧ Q σ' H') X.xe s
section
variable {X : Cx} {e : Expr} {es : List Expr} {st : Stmt} {sts : List Stmt} {tg : Expr}
theorem pWE : PE X e (WE X e) := ⟨fun pins s _ _ _ I h => h pins s I⟩
theorem pWT : PT X e (WT X e) := ⟨fun pins s _ _ _ I h => h pins s I⟩
theorem pWA : PA X es (WA X es) := ⟨fun pos pins s _ _ _ I h => h pos pins s I⟩
theorem pWS : PS X st (WS X st) := ⟨fun pins s _ _ _ I h => h pins s I⟩
theorem pWSs : PSs X sts (WSs X sts) := ⟨fun pins s _ _ _ I h => h pins s I⟩
theorem pWG : PG X tg (WG X tg) := ⟨fun pins s _ _ _ u _ I r h => h pins s u I r⟩
theorem WE.of {t : TE} (h : PE X e t) {σ : St} {H : Hp} {Q : VK} (q : t σ H Q) : WE X e σ H Q := fun pins s I => h.run pins s σ H Q I q
theorem WT.of {t : TT} (h : PT X e t) {σ : St} {H : Hp} {Q : Bool → Hp → Prop} (q : t σ H Q) : WT X e σ H Q := fun pins s I => h.run pins s σ H Q I q
theorem WA.of {t : TA} (h : PA X es t) {σ : St} {H : Hp} {Q : List V → Hp → Prop} (q : t σ H Q) : WA X es σ H Q := fun pos pins s I => h.run pos pins s σ H Q I q
theorem WS.of {t : TS} (h : PS X st t) {σ : St} {H : Hp} {D : Ends} (q : t D σ H) : WS X st D σ H := fun pins s I => h.run pins s σ H D I q
theorem WSs.of {t : TS} (h : PSs X sts t) {σ : St} {H : Hp} {D : Ends} (q : t D σ H) : WSs X sts D σ H := fun pins s I => h.run pins s σ H D I q
theorem WG.of {t : TG} (h : PG X tg t) {v : V} {σ : St} {H : Hp} {Q : St → Hp → Prop} (q : t v σ H Q) : WG X tg v σ H Q := fun pins s u I r => h.run pins s σ H v u Q I r q
theorem WE.mono {σ : St} {H : Hp} {Q Q' : VK} (h : WE X e σ H Q) (m : ∀ v H', Q v H' → Q' v H') : WE X e σ H Q' := fun pins s I =>
  thn (h pins s I) fun _ _ ⟨v, H', I', r, q⟩ => ⟨v, H', I', r, m v H' q⟩
theorem WT.mono {σ : St} {H : Hp} {Q Q' : Bool → Hp → Prop} (h : WT X e σ H Q) (m : ∀ b H', Q b H' → Q' b H') : WT X e σ H Q' := fun pins s I =>
  thn (h pins s I) fun _ _ ⟨H', I', q⟩ => ⟨H', I', m _ H' q⟩
theorem WSs.mono {D D' : Ends} {σ : St} {H : Hp} (h : WSs X sts D σ H) (m1 : ∀ σ H, D.nx σ H → D'.nx σ H) (m2 : ∀ v H, D.rt v H → D'.rt v H) (m3 : ∀ σ H, D.bk σ H → D'.bk σ H) (m4 : ∀ σ H, D.ct σ H → D'.ct σ H) : WSs X sts D' σ H := fun pins s I =>
  thn (h pins s I) fun f _ q => by
    cases f with
    | next => obtain ⟨a, b, c, d⟩ := q; exact ⟨a, b, c, m1 _ _ d⟩
    | brk => obtain ⟨a, b, c, d⟩ := q; exact ⟨a, b, c, m3 _ _ d⟩
    | cont => obtain ⟨a, b, c, d⟩ := q; exact ⟨a, b, c, m4 _ _ d⟩
    | ret u => obtain ⟨v, a, b, c, r, d⟩ := q; exact ⟨v, a, b, c, r, m2 _ _ d⟩
/-- what holds of a list that is there: it isn't too long -/
theorem WE.len {σ : St} {H : Hp} {Q : VK} {a : Addr} {xs : List V} (h : SqL X.K H a xs) (k : xs.length ≤ sizeLine → WE X e σ H Q) : WE X e σ H Q := fun pins s I =>
  k (let ⟨_, _, _, z⟩ := I.list h; z) pins s I
end

/-! ### data -/
end NF
namespace L2
open PySem PySem.Spec PyProof.Rows
abbrev PD := PyData
section
variable {K : PySem.W.Frag} {H H' : Hp}
theorem Same.new {H : Hp} {p : Addr} {o : HO} (h : H p = none) : Same H (upd H p o) := fun a u e => by
  rw [upd_ne (ne_of_none e h)]
  exact e
theorem Same.mut {H H' : Hp} {p : Addr} {o : HO} (e : Same H H') (h : H p = none) : Same H (upd H' p o) := fun a u ha => by
  rw [upd_ne (ne_of_none ha h)]
  exact e a u ha
theorem Same.sqt {a : Addr} {xs : List V} (e : Same H H') (h : SqT K H a xs) : SqT K H' a xs := by
  rcases h with (h | ⟨o, h⟩) | h
  · exact .inl (.inl (e _ _ h))
  · exact .inl (.inr ⟨o, e _ _ h⟩)
  · exact .inr h
mutual
theorem Dp.mono (e : Same H H') : ∀ {d : PD} {v : V}, Dp K H v d → Dp K H' v d
  | .none, _, h => by cases h; exact .non
  | .bool b, _, h => by cases h; exact .bl b
  | .int i, _, h => by cases h; exact .int i
  | .str x, _, h => by cases h; exact .str x
  | .list ds, _, h => by
    cases h with
    | lst h1 h2 => exact .lst (e.seq h1) (DpAll.mono e h2)
  | .tuple ds, _, h => by
    cases h with
    | tup h1 h2 => exact .tup (e.sqt h1) (DpAll.mono e h2)
  | .dict _, _, h => by cases h
theorem DpAll.mono (e : Same H H') : ∀ {ds : List PD} {vs : List V}, DpAll K H vs ds → DpAll K H' vs ds
  | [], _, h => by cases h; exact .nil
  | d :: ds, _, h => by
    cases h with
    | cons h1 h2 => exact .cons (Dp.mono e h1) (DpAll.mono e h2)
end
theorem DpAll.length : ∀ {vs : List V} {ds : List PD}, DpAll K H vs ds → vs.length = ds.length
  | _, _, .nil => rfl
  | _, _, .cons _ h => by rw [List.length_cons, List.length_cons, DpAll.length h]
theorem DpAll.append : ∀ {vs ws : List V} {ds es : List PD}, DpAll K H vs ds → DpAll K H ws es → DpAll K H (vs ++ ws) (ds ++ es)
  | _, _, _, _, .nil, h => h
  | _, _, _, _, .cons h1 h2, h => .cons h1 (DpAll.append h2 h)
theorem DpAll.get : ∀ {vs : List V} {ds : List PD} {i : Nat} {v : V}, DpAll K H vs ds → vs[i]? = some v → ∃ d, ds[i]? = some d ∧ Dp K H v d
  | _, _, 0, _, .cons h1 _, e => by cases e; exact ⟨_, rfl, h1⟩
  | _ :: _, _, i + 1, _, .cons _ h2, e => DpAll.get (i := i) h2 (by rw [List.getElem?_cons_succ] at e; exact e)
theorem DpAll.get' : ∀ {vs : List V} {ds : List PD} {i : Nat} {d : PD}, DpAll K H vs ds → ds[i]? = some d → ∃ v, vs[i]? = some v ∧ Dp K H v d
  | _, _, 0, _, .cons h1 _, e => by cases e; exact ⟨_, rfl, h1⟩
  | _, _ :: _, i + 1, _, .cons _ h2, e => DpAll.get' (i := i) h2 (by rw [List.getElem?_cons_succ] at e; exact e)
theorem DpAll.drop : ∀ {vs : List V} {ds : List PD} (n : Nat), DpAll K H vs ds → DpAll K H (vs.drop n) (ds.drop n)
  | _, _, 0, h => by simpa using h
  | _, _, n + 1, .nil => by simpa using DpAll.nil
  | _, _, n + 1, .cons _ h2 => by simpa using DpAll.drop n h2
theorem DpAll.take : ∀ {vs : List V} {ds : List PD} (n : Nat), DpAll K H vs ds → DpAll K H (vs.take n) (ds.take n)
  | _, _, 0, h => by simpa using DpAll.nil
  | _, _, n + 1, .nil => by simpa using DpAll.nil
  | _, _, n + 1, .cons h1 h2 => by simpa using DpAll.cons h1 (DpAll.take n h2)
theorem DpAll.snoc {vs : List V} {ds : List PD} {v : V} {d : PD} (h : DpAll K H vs ds) (h1 : Dp K H v d) : DpAll K H (vs ++ [v]) (ds ++ [d]) := h.append (.cons h1 .nil)
theorem dp_lst {a : Addr} {xs : List V} {ds : List PD} (h : H a = some (.lst xs)) (hd : DpAll K H xs ds) : Dp K H (.ref a) (.list ds) := .lst (SqL.of h) hd
theorem dp_tup {a : Addr} {xs : List V} {ds : List PD} (h : H a = some (.tup xs)) (hd : DpAll K H xs ds) : Dp K H (.ref a) (.tuple ds) := .tup (SqT.of h) hd
theorem Dp.inv_list {v : V} {ds : List PD} (h : Dp K H v (.list ds)) : ∃ a xs, v = .ref a ∧ SqL K H a xs ∧ DpAll K H xs ds := by
  cases h with
  | lst h1 h2 => exact ⟨_, _, rfl, h1, h2⟩
theorem Dp.inv_tup {v : V} {ds : List PD} (h : Dp K H v (.tuple ds)) : ∃ a xs, v = .ref a ∧ SqT K H a xs ∧ DpAll K H xs ds := by
  cases h with
  | tup h1 h2 => exact ⟨_, _, rfl, h1, h2⟩
theorem Dp.inv_int {v : V} {i : Int} (h : Dp K H v (.int i)) : v = .int i := by cases h; rfl
theorem Dp.inv_bl {v : V} {i : Bool} (h : Dp K H v (.bool i)) : v = .bl i := by cases h; rfl
theorem DpAll.ints : ∀ {vs : List V} {ns : List Int}, DpAll K H vs (ns.map PyData.int) → vs = ns.map V.int
  | _, [], .nil => rfl
  | _, n :: ns, .cons h1 h2 => by rw [List.map_cons, ← DpAll.ints h2, Dp.inv_int h1]
theorem DpAll.of_ints : ∀ (ns : List Int), DpAll K H (ns.map V.int) (ns.map PyData.int)
  | [] => .nil
  | n :: ns => .cons (.int n) (DpAll.of_ints ns)
end

end L2
namespace NF
open PySem PySem.Spec PyProof.Rows L2
/-! ### an expression that evaluates to data, whatever more the heap holds than B -/
def EE (X : Cx) (σ : St) (B : Hp) (e : Expr) (d : PD) : Prop := ∀ H, Same B H → ∀ Q : VK, (∀ v H', Same H H' → Dp X.K H' v d → Q v H') → WE X e σ H Q
def EA (X : Cx) (σ : St) (B : Hp) (es : List Expr) (ds : List PD) : Prop := ∀ H, Same B H → ∀ Q : List V → Hp → Prop, (∀ vs H', Same H H' → DpAll X.K H' vs ds → Q vs H') → WA X es σ H Q
def ET (X : Cx) (σ : St) (B : Hp) (e : Expr) (b : Bool) : Prop := ∀ H, Same B H → ∀ Q : Bool → Hp → Prop, (∀ H', Same H H' → Q b H') → WT X e σ H Q
/-- an operation on values, by data -/
def BinD (X : Cx) (f : Value → Value → Sem Value) (d1 d2 d : PD) : Prop := ∃ r, OpR X f r ∧ ∀ H x y, Dp X.K H x d1 → Dp X.K H y d2 → ∀ Q : VK, (∀ v H', Same H H' → Dp X.K H' v d → Q v H') → r x y H Q
section
variable {X : Cx} {σ : St} {B B' : Hp} {e a b c : Expr} {d d1 d2 d3 : PD} {pos : Pos}
theorem EE.mono (h : EE X σ B e d) (s : Same B B') : EE X σ B' e d := fun H t Q q => h H (s.trans t) Q q
theorem EA.mono {es : List Expr} {ds : List PD} (h : EA X σ B es ds) (s : Same B B') : EA X σ B' es ds := fun H t Q q => h H (s.trans t) Q q
theorem ET.mono {x : Bool} (h : ET X σ B e x) (s : Same B B') : ET X σ B' e x := fun H t Q q => h H (s.trans t) Q q
theorem EE.var {x : Str} {v : V} (i : Nat) (hs : σ[i]? = some (some v)) (hd : Dp X.K B v d) (hN : X.N[i]? = some x := by rfl) (hv : Vis X.env.scope x := by first | exact Or.inl rfl | exact Or.inr (Or.inl rfl) | exact Or.inr (Or.inr rfl))
    (h1 : (x == ("__debug__" : Str)) = false := by decide) (h2 : (x == ("__classdict__" : Str)) = false := by decide) : EE X σ B (.Name x pos) d := fun H s Q q =>
  WE.of (pe_var hN hv h1 h2) ⟨v, hs, q v H (Same.refl H) (Dp.mono s hd)⟩
theorem EE.int {i : Int} {j} : EE X σ B (.Constant (.int i) j pos) (.int i) := fun H s Q q => WE.of pe_int (q _ H (Same.refl H) (.int i))
theorem EE.bl {i : Bool} {j} : EE X σ B (.Constant (.bool i) j pos) (.bool i) := fun H s Q q => WE.of pe_bl (q _ H (Same.refl H) (.bl i))
theorem EE.non {j} : EE X σ B (.Constant .none j pos) .none := fun H s Q q => WE.of pe_non (q _ H (Same.refl H) .non)
theorem EE.str {z : Str} {j} : EE X σ B (.Constant (.str z) j pos) (.str z) := fun H s Q q => WE.of pe_str (q _ H (Same.refl H) (.str z))
theorem EE.gint {x : Str} {i : Int} {t : Tok} (hm : X.mg x = some (.int i t)) (hg : Gl X x := by rfl) (hdb : (x == ("__debug__" : Str)) = false := by decide) : EE X σ B (.Name x pos) (.int i) := fun H s Q q =>
  WE.of (pe_glob (v := .int i) hg hm ⟨_, rfl⟩ hdb) (q _ H (Same.refl H) (.int i))
theorem EE.op {op : Operator} (ha : EE X σ B a d1) (hb : EE X σ B b d2) (ho : BinD X (binaryOp op) d1 d2 d) : EE X σ B (.BinOp a op b pos) d := fun H s Q q => by
  obtain ⟨r, ho, hr⟩ := ho
  refine WE.of (pe_op ho pWE pWE) (ha H s _ fun x H1 s1 hx => hb H1 (s.trans s1) _ fun y H2 s2 hy => ?_)
  exact hr H2 x y (Dp.mono s2 hx) hy Q fun v H3 s3 hv => q v H3 ((s1.trans s2).trans s3) hv
theorem EE.un {op : UnaryOp} {r : V → Hp → VK → Prop} (ho : UnR X (unaryOp op) r) (ha : EE X σ B a d1) (hr : ∀ H x, Dp X.K H x d1 → ∀ Q : VK, (∀ v H', Same H H' → Dp X.K H' v d → Q v H') → r x H Q) : EE X σ B (.UnaryOp op a pos) d := fun H s Q q => by
  refine WE.of (pe_un ho pWE) (ha H s _ fun x H1 s1 hx => hr H1 x hx Q fun v H2 s2 hv => q v H2 (s1.trans s2) hv)
theorem BinD.I0 {f : Value → Value → Sem Value} {g : Int → Int → V} {i j : Int} (ho : OpR X f (rI0 g)) (hg : ∀ H, Dp X.K H (g i j) d) : BinD X f (.int i) (.int j) d :=
  ⟨_, ho, fun H x y hx hy Q q => ⟨i, j, hx.inv_int, hy.inv_int, q _ H (Same.refl H) (hg H)⟩⟩
theorem BinD.I {f : Value → Value → Sem Value} {C : Int → Int → Prop} {g : Int → Int → V} {i j : Int} (ho : OpR X f (rI C g)) (hc : C i j) (hg : ∀ H, Dp X.K H (g i j) d) : BinD X f (.int i) (.int j) d :=
  ⟨_, ho, fun H x y hx hy Q q => ⟨i, j, hx.inv_int, hy.inv_int, hc, q _ H (Same.refl H) (hg H)⟩⟩
theorem BinD.add {i j : Int} : BinD X (binaryOp .Add) (.int i) (.int j) (.int (i + j)) := .I0 op_add fun _ => .int _
theorem BinD.sub {i j : Int} : BinD X (binaryOp .Sub) (.int i) (.int j) (.int (i - j)) := .I0 op_sub fun _ => .int _
theorem BinD.mulW {i j : Int} (h : CMulW i j) : BinD X (binaryOp .Mult) (.int i) (.int j) (.int (i * j)) := .I op_mulW h fun _ => .int _
theorem BinD.mul {i j : Int} (h : CMul i j) : BinD X (binaryOp .Mult) (.int i) (.int j) (.int (i * j)) := .I op_mul h fun _ => .int _
theorem BinD.mod {i j : Int} (h : 0 < j) : BinD X (binaryOp .Mod) (.int i) (.int j) (.int (i % j)) := .I op_mod h fun _ => .int _
theorem BinD.divW {i j : Int} (h : CDivW i j) : BinD X (binaryOp .FloorDiv) (.int i) (.int j) (.int (i / j)) := .I op_fdivW h fun _ => .int _
theorem BinD.pow {i j : Int} (h : CPow i j) : BinD X (binaryOp .Pow) (.int i) (.int j) (.int (i ^ j.toNat)) := .I op_pow h fun _ => .int _
theorem EE.neg {i : Int} (ha : EE X σ B a (.int i)) : EE X σ B (.UnaryOp .USub a pos) (.int (-i)) := EE.un un_neg ha fun H x hx Q q => ⟨i, hx.inv_int, q _ H (Same.refl H) (.int _)⟩
/-! comparisons as values -/
theorem EE.cmp {op : CmpOp} (ha : EE X σ B a d1) (hb : EE X σ B b d2) (ho : BinD X (compareOp op) d1 d2 d) (hm : behindInMarks op b = false := by first | exact nomark _ | rfl) : EE X σ B (.Compare a [op] [b] pos) d := fun H s Q q => by
  obtain ⟨r, ho, hr⟩ := ho
  refine WE.of (pe_cmpR ho pWE pWE hm) (ha H s _ fun x H1 s1 hx => hb H1 (s.trans s1) _ fun y H2 s2 hy => ?_)
  exact hr H2 x y (Dp.mono s2 hx) hy Q fun v H3 s3 hv => q v H3 ((s1.trans s2).trans s3) hv
theorem BinD.lt {i j : Int} : BinD X (compareOp .Lt) (.int i) (.int j) (.bool (decide (i < j))) := .I0 op_lt fun _ => .bl _
theorem BinD.le {i j : Int} : BinD X (compareOp .LtE) (.int i) (.int j) (.bool (decide (i ≤ j))) := .I0 op_le fun _ => .bl _
theorem BinD.gt {i j : Int} : BinD X (compareOp .Gt) (.int i) (.int j) (.bool (decide (j < i))) := .I0 op_gt fun _ => .bl _
theorem BinD.ge {i j : Int} : BinD X (compareOp .GtE) (.int i) (.int j) (.bool (decide (j ≤ i))) := .I0 op_ge fun _ => .bl _
theorem BinD.eqI {i j : Int} : BinD X (compareOp .Eq) (.int i) (.int j) (.bool (decide (i = j))) :=
  ⟨_, op_eq, fun H x y hx hy Q q => by
    obtain rfl := hx.inv_int
    obtain rfl := hy.inv_int
    refine ⟨rfl, q _ H (Same.refl H) ?_⟩
    have : decide (V.int i = V.int j) = decide (i = j) := by simp
    rw [this]
    exact .bl _⟩
theorem BinD.neI {i j : Int} : BinD X (compareOp .NotEq) (.int i) (.int j) (.bool (!decide (i = j))) :=
  ⟨_, op_ne, fun H x y hx hy Q q => by
    obtain rfl := hx.inv_int
    obtain rfl := hy.inv_int
    refine ⟨rfl, q _ H (Same.refl H) ?_⟩
    have : decide (V.int i = V.int j) = decide (i = j) := by simp
    rw [this]
    exact .bl _⟩

/-! and, or, not as values -/
theorem EE.one {op} (h : EE X σ B e d) : EE X σ B (.BoolOp op [e] pos) d := fun H s Q q => WE.of (pe_one pWE) (h H s Q q)
theorem EE.and {es : List Expr} {x y : Bool} (ha : EE X σ B a (.bool x)) (hb : x = true → EE X σ B (.BoolOp .And (b :: es) pos) (.bool y)) : EE X σ B (.BoolOp .And (a :: b :: es) pos) (.bool (x && y)) := fun H s Q q => by
  refine WE.of (pe_and pWE pWE) (ha H s _ fun v H1 s1 hv => ⟨x, hv.inv_bl, ?_⟩)
  cases x with
  | true =>
    rw [if_pos rfl]
    exact hb rfl H1 (s.trans s1) Q fun v H2 s2 hv => q v H2 (s1.trans s2) hv
  | false =>
    rw [if_neg (by decide)]
    exact q _ H1 s1 (.bl _)
theorem EE.or {es : List Expr} {x y : Bool} (ha : EE X σ B a (.bool x)) (hb : x = false → EE X σ B (.BoolOp .Or (b :: es) pos) (.bool y)) : EE X σ B (.BoolOp .Or (a :: b :: es) pos) (.bool (x || y)) := fun H s Q q => by
  refine WE.of (pe_or pWE pWE) (ha H s _ fun v H1 s1 hv => ⟨x, hv.inv_bl, ?_⟩)
  cases x with
  | true =>
    rw [if_pos rfl]
    exact q _ H1 s1 (.bl _)
  | false =>
    rw [if_neg (by decide)]
    exact hb rfl H1 (s.trans s1) Q fun v H2 s2 hv => q v H2 (s1.trans s2) hv
theorem EE.not {x : Bool} (ha : EE X σ B a (.bool x)) : EE X σ B (.UnaryOp .Not a pos) (.bool (!x)) := fun H s Q q =>
  WE.of (pe_not pWE) (ha H s _ fun v H1 s1 hv => ⟨x, hv.inv_bl, q _ H1 s1 (.bl _)⟩)
theorem EE.is (h : EE X σ B e d) (z : d = d1) : EE X σ B e d1 := z ▸ h
/-! tests -/
def EW (X : Cx) (σ : St) (B : Hp) (e : Expr) (b : Bool) : Prop := ∀ H, Same B H → ∀ Q : Bool → Hp → Prop, (∀ H', Same H H' → Q b H') → ∃ t, PW X e t ∧ t σ H Q
theorem ET.is {x y : Bool} (h : ET X σ B e x) (z : x = y) : ET X σ B e y := z ▸ h
theorem ET.val {x : Bool} (h : EE X σ B e (.bool x)) (he : ∀ whole, isTrue e X.env whole = (do let v ← whole; standAt e.pos; holding [v] (truthy v)) := by intro _; rfl) : ET X σ B e x := fun H s Q q =>
  WT.of (pt_val pWE he) (h H s _ fun v H1 s1 hv => ⟨x, hv.inv_bl, q H1 s1⟩)
theorem ET.cmp {op : CmpOp} {x : Bool} (ha : EE X σ B a d1) (hb : EE X σ B b d2) (ho : BinD X (compareOp op) d1 d2 (.bool x)) (hm : behindInMarks op b = false := by first | exact nomark _ | rfl) : ET X σ B (.Compare a [op] [b] pos) x := fun H s Q q => by
  obtain ⟨r, ho, hr⟩ := ho
  refine WT.of (pt_cmpR ho pWE pWE hm) (ha H s _ fun x' H1 s1 hx => hb H1 (s.trans s1) _ fun y H2 s2 hy => ?_)
  exact hr H2 x' y (Dp.mono s2 hx) hy _ fun v H3 s3 hv => ⟨x, hv.inv_bl, q H3 ((s1.trans s2).trans s3)⟩
theorem ET.not {x : Bool} (h : ET X σ B a x) : ET X σ B (.UnaryOp .Not a pos) (!x) := fun H s Q q => WT.of (pt_not pWT) (h H s _ fun H1 s1 => q H1 s1)
theorem ET.of_w {x : Bool} (h : EW X σ B e x) : ET X σ B e x := fun H s Q q => by
  obtain ⟨t, p, h⟩ := h H s Q q
  exact WT.of p.pt h
theorem EW.and1 {x : Bool} (h : ET X σ B a x) : EW X σ B (.BoolOp .And [a] pos) x := fun H s Q q => ⟨_, pw_and1 pWT, h H s Q q⟩
theorem EW.or1 {x : Bool} (h : ET X σ B a x) : EW X σ B (.BoolOp .Or [a] pos) x := fun H s Q q => ⟨_, pw_or1 pWT, h H s Q q⟩
def WW (X : Cx) (e : Expr) : TT := fun σ H Q => ∀ whole pins s, Inv X pins σ H s → wpAny (model X.prog X.w) X.A (isTrue e X.env whole) (TP X pins σ Q) X.xe s
theorem pWW : PW X e (WW X e) := ⟨fun whole pins s _ _ _ I h => h whole pins s I⟩
theorem EW.and {es : List Expr} {x y : Bool} (ha : ET X σ B a x) (hb : x = true → EW X σ B (.BoolOp .And (b :: es) pos) y) : EW X σ B (.BoolOp .And (a :: b :: es) pos) (x && y) := fun H s Q q => by
  refine ⟨_, pw_and pWT pWW, ha H s _ fun H1 s1 => ?_⟩
  cases x with
  | true =>
    rw [if_pos rfl]
    obtain ⟨t, p, h⟩ := hb rfl H1 (s.trans s1) Q fun H2 s2 => q H2 (s1.trans s2)
    exact fun whole pins s I => p.run whole pins s σ H1 Q I h
  | false =>
    rw [if_neg (by decide)]
    exact q H1 s1
theorem EW.or {es : List Expr} {x y : Bool} (ha : ET X σ B a x) (hb : x = false → EW X σ B (.BoolOp .Or (b :: es) pos) y) : EW X σ B (.BoolOp .Or (a :: b :: es) pos) (x || y) := fun H s Q q => by
  refine ⟨_, pw_or pWT pWW, ha H s _ fun H1 s1 => ?_⟩
  cases x with
  | true =>
    rw [if_pos rfl]
    exact q H1 s1
  | false =>
    rw [if_neg (by decide)]
    obtain ⟨t, p, h⟩ := hb rfl H1 (s.trans s1) Q fun H2 s2 => q H2 (s1.trans s2)
    exact fun whole pins s I => p.run whole pins s σ H1 Q I h
/-! argument lists, displays -/
theorem EA.nil : EA X σ B [] [] := fun H s Q q => WA.of pa_nil (q [] H (Same.refl H) .nil)
theorem EA.cons {es : List Expr} {ds : List PD} (h : EE X σ B e d) (hr : EA X σ B es ds) (hs : starEach (e :: es) X.env = (false, eval e X.env) :: starEach es X.env := by rfl) : EA X σ B (e :: es) (d :: ds) := fun H s Q q =>
  WA.of (pa_cons pWE pWA hs) (h H s _ fun v H1 s1 hv => hr H1 (s.trans s1) _ fun vs H2 s2 hvs => q _ H2 (s1.trans s2) (.cons (Dp.mono s2 hv) hvs))
theorem EE.tup {es : List Expr} {ds : List PD} {x1} (h : EA X σ B es ds) (hl : ds.length ≤ 64 := by decide) : EE X σ B (.Tuple es x1 pos) (.tuple ds) := fun H s Q q =>
  WE.of (pe_tup pWA) (h H s _ fun vs H1 s1 hvs => ⟨by rw [hvs.length]; exact Nat.le_trans hl (by decide), fun p hp => q _ _ (s1.trans (Same.new hp)) (dp_tup upd_same (DpAll.mono (Same.new hp) hvs))⟩)
theorem EE.lst {es : List Expr} {ds : List PD} (h : EA X σ B es ds) (hl : ds.length ≤ 64 := by decide) : EE X σ B (.List es pos) (.list ds) := fun H s Q q =>
  WE.of (pe_lst pWA) (h H s _ fun vs H1 s1 hvs => ⟨by rw [hvs.length]; exact Nat.le_trans hl (by decide), fun p hp => q _ _ (s1.trans (Same.new hp)) (dp_lst upd_same (DpAll.mono (Same.new hp) hvs))⟩)
/-! subscripts -/
theorem atI_dp {K : PySem.W.Frag} {H : Hp} {vs : List V} {ds : List PD} {i : Int} (h : DpAll K H vs ds) (e : atI ds i = some d) : ∃ v, atI vs i = some v ∧ Dp K H v d := by
  unfold atI at e ⊢
  rw [h.length]
  cases h1 : ixN ds.length i with
  | none => rw [h1] at e; cases e
  | some j =>
    rw [h1] at e
    exact h.get' (show ds[j]? = some d from e)
def IxD (X : Cx) (d1 d2 d : PD) : Prop := ∃ r, IxR X r ∧ ∀ H x y, Dp X.K H x d1 → Dp X.K H y d2 → ∀ Q : VK, (∀ v H', Same H H' → Dp X.K H' v d → Q v H') → r x y H Q
theorem EE.ix (ha : EE X σ B a d1) (hb : EE X σ B b d2) (ho : IxD X d1 d2 d) (hs : PlainIx b := by exact fun _ _ => rfl) : EE X σ B (.Subscript a b pos) d := fun H s Q q => by
  obtain ⟨r, ho, hr⟩ := ho
  refine WE.of (pe_ix ho pWE pWE hs) (ha H s _ fun x H1 s1 hx => hb H1 (s.trans s1) _ fun y H2 s2 hy => ?_)
  exact hr H2 x y (Dp.mono s2 hx) hy Q fun v H3 s3 hv => q v H3 ((s1.trans s2).trans s3) hv
theorem IxD.list {ds : List PD} {i : Int} (e : atI ds i = some d) : IxD X (.list ds) (.int i) d := ⟨_, ix_list, fun H x y hx hy Q q => by
  obtain ⟨p, xs, rfl, h1, h2⟩ := hx.inv_list
  obtain ⟨v, hv, hd⟩ := atI_dp h2 e
  exact ⟨p, xs, i, v, rfl, hy.inv_int, h1, hv, q v H (Same.refl H) hd⟩⟩
theorem IxD.tup {ds : List PD} {i : Int} (e : atI ds i = some d) : IxD X (.tuple ds) (.int i) d := ⟨_, ix_tup, fun H x y hx hy Q q => by
  obtain ⟨p, xs, rfl, h1, h2⟩ := hx.inv_tup
  obtain ⟨v, hv, hd⟩ := atI_dp h2 e
  exact ⟨p, xs, i, v, rfl, hy.inv_int, h1, hv, q v H (Same.refl H) hd⟩⟩
/-! calls of built-ins -/
def CallD (X : Cx) (f : Value) (ds : List PD) (d : PD) : Prop := ∃ r, CallR X f r ∧ ∀ H vs, DpAll X.K H vs ds → ∀ Q : VK, (∀ v H', Same H H' → Dp X.K H' v d → Q v H') → r vs H Q
theorem EE.blt {x : Str} {id : String} {es : List Expr} {ds : List PD} {p : Pos} (hc : CallD X (.builtin id) ds d) (hm : X.mg x = none) (ha : EA X σ B (e :: es) ds) (hv : bootBuiltins x = some (.builtin id) := by decide +kernel) (hg : Gl X x := by rfl)
    (hn : x ≠ "__name__" := by decide) (hdb : (x == ("__debug__" : Str)) = false := by decide) (he : starEach (e :: es) X.env = (false, eval e X.env) :: starEach es X.env := by rfl) (hpl : (backTo pos (starEach es X.env)).any (·.1) = false := by rfl) :
    EE X σ B (.Call (.Name x p) (e :: es) [] pos) d := fun H s Q q => by
  obtain ⟨r, hc, hr⟩ := hc
  exact WE.of (pe_callB hc hg hm hv pWA hn hdb he hpl) (ha H s _ fun vs H1 s1 hvs => hr H1 vs hvs Q fun v H2 s2 hv => q v H2 (s1.trans s2) hv)
theorem EE.bty {x : Str} {T : String} {es : List Expr} {ds : List PD} {p : Pos} (hc : CallD X (.type T) ds d) (hm : X.mg x = none) (ha : EA X σ B (e :: es) ds) (hv : bootBuiltins x = some (.type T) := by decide +kernel) (hg : Gl X x := by rfl)
    (hn : x ≠ "__name__" := by decide) (hdb : (x == ("__debug__" : Str)) = false := by decide) (he : starEach (e :: es) X.env = (false, eval e X.env) :: starEach es X.env := by rfl) (hpl : (backTo pos (starEach es X.env)).any (·.1) = false := by rfl) :
    EE X σ B (.Call (.Name x p) (e :: es) [] pos) d := fun H s Q q => by
  obtain ⟨r, hc, hr⟩ := hc
  exact WE.of (pe_callTy hc hg hm hv pWA hn hdb he hpl) (ha H s _ fun vs H1 s1 hvs => hr H1 vs hvs Q fun v H2 s2 hv => q v H2 (s1.trans s2) hv)
theorem CallD.lenL {ds : List PD} : CallD X (.builtin "len") [.list ds] (.int ds.length) := ⟨_, call_len_seq, fun H vs h Q q => by
  cases h with
  | cons h1 h2 =>
    cases h2
    obtain ⟨p, xs, rfl, h3, h4⟩ := h1.inv_list
    exact ⟨p, xs, rfl, .inl h3, by rw [h4.length]; exact q _ H (Same.refl H) (.int _)⟩⟩
theorem CallD.lenT {ds : List PD} : CallD X (.builtin "len") [.tuple ds] (.int ds.length) := ⟨_, call_len_seq, fun H vs h Q q => by
  cases h with
  | cons h1 h2 =>
    cases h2
    obtain ⟨p, xs, rfl, h3, h4⟩ := h1.inv_tup
    exact ⟨p, xs, rfl, .inr h3, by rw [h4.length]; exact q _ H (Same.refl H) (.int _)⟩⟩
theorem CallD.intB {x : Bool} : CallD X (.type "int") [.bool x] (.int (if x then 1 else 0)) := ⟨_, call_int1, fun H vs h Q q => by
  cases h with
  | cons h1 h2 =>
    cases h2
    exact .inr ⟨x, by rw [h1.inv_bl], q _ H (Same.refl H) (.int _)⟩⟩
theorem CallD.listL {ds : List PD} : CallD X (.type "list") [.list ds] (.list ds) := ⟨_, call_list_of, fun H vs h Q q => by
  cases h with
  | cons h1 h2 =>
    cases h2
    obtain ⟨p, xs, rfl, h3, h4⟩ := h1.inv_list
    exact ⟨p, xs, rfl, .inl h3, fun l hl => q _ _ (Same.new hl) (dp_lst upd_same (DpAll.mono (Same.new hl) h4))⟩⟩
theorem CallD.abs {i : Int} : CallD X (.builtin "abs") [.int i] (.int (if i < 0 then -i else i)) := ⟨_, call_abs, fun H vs h Q q => by
  cases h with
  | cons h1 h2 =>
    cases h2
    exact ⟨i, by rw [h1.inv_int], q _ H (Same.refl H) (.int _)⟩⟩
theorem CallD.min2 (hc : X.calm = true) {i j : Int} : CallD X (.builtin "min") [.int i, .int j] (.int (if j < i then j else i)) := ⟨_, call_min2 hc, fun H vs h Q q => by
  cases h with
  | cons h1 h2 => cases h2 with
    | cons h2 h3 =>
      cases h3
      exact ⟨i, j, by rw [h1.inv_int, h2.inv_int], q _ H (Same.refl H) (.int _)⟩⟩
theorem CallD.max2 (hc : X.calm = true) {i j : Int} : CallD X (.builtin "max") [.int i, .int j] (.int (if j > i then j else i)) := ⟨_, call_max2 hc, fun H vs h Q q => by
  cases h with
  | cons h1 h2 => cases h2 with
    | cons h2 h3 =>
      cases h3
      exact ⟨i, j, by rw [h1.inv_int, h2.inv_int], q _ H (Same.refl H) (.int _)⟩⟩
end

/-- the module's name x is a def that keeps this promise -/
structure Cal (P : Program) (w : World) (K : PySem.W.Frag) (mg : Str → Option Value) (base : Heap) (k : Nat) (x : Str) (sp : Sp) : Prop where
  ex : ∃ (f : Addr) (fd : FuncData) (ps : List Str), FnOk P w K mg base L2.CX0 k f fd ps sp ∧ mg x = some (.ref f) ∧ PySem.W.keepIn K (.ref f) = true ∧ Binds K fd ps []
theorem pe_c {X : Cx} {x : Str} {k j : Nat} {sp : Sp} {e : Expr} {es : List Expr} {t : TA} {p pos : Pos} (c : Cal X.prog X.w X.K X.mg X.base k x sp) (hr : Room j X.A) (hk : k ≤ j) (hg : Gl X x) (ha : PA X (e :: es) t)
    (hdb : (x == ("__debug__" : Str)) = false := by decide) (he : starEach (e :: es) X.env = (false, eval e X.env) :: starEach es X.env := by rfl) (hpl : (backTo pos (starEach es X.env)).any (·.1) = false := by rfl) :
    PE X (.Call (.Name x p) (e :: es) [] pos) (tCall sp [] L2.E0 t) := by
  obtain ⟨f, fd, ps, F, hm, kp, b⟩ := c.ex
  exact pe_call F (hr.mono hk) hg hm kp b .nil pass0 ha hdb he hpl
/-! ### a def that hands back data, changing nothing that was there -/
def spR (K : PySem.W.Frag) (R : List PD → PD → Prop) : Sp := fun vs H Q _ => ∃ ds d, DpAll K H vs ds ∧ R ds d ∧ ∀ v H', Same H H' → Dp K H' v d → Q v H'
section
variable {X : Cx} {σ : St} {B : Hp} {e : Expr} {d : PD} {pos : Pos}
theorem EE.own {x : Str} {k j : Nat} {R : List PD → PD → Prop} {es : List Expr} {ds : List PD} {p : Pos} (c : Cal X.prog X.w X.K X.mg X.base k x (spR X.K R)) (hr : Room j X.A) (ha : EA X σ B (e :: es) ds) (hR : R ds d) (hk : k ≤ j := by decide) (hg : Gl X x := by rfl)
    (hdb : (x == ("__debug__" : Str)) = false := by decide) (he : starEach (e :: es) X.env = (false, eval e X.env) :: starEach es X.env := by rfl) (hpl : (backTo pos (starEach es X.env)).any (·.1) = false := by rfl) :
    EE X σ B (.Call (.Name x p) (e :: es) [] pos) d := fun H s Q q =>
  WE.of (pe_c c hr hk hg pWA hdb he hpl) (ha H s _ fun vs H1 s1 hvs => ⟨ds, d, by rw [List.append_nil]; exact hvs, hR, fun v H2 s2 hv => q v H2 (s1.trans s2) hv⟩)
end
/-- what the body of such a def is asked -/
def DR (K : PySem.W.Frag) (H : Hp) (d : PD) : Ends := { nx := fun _ H' => d = .none ∧ Same H H', rt := fun v H' => Same H H' ∧ Dp K H' v d }
section
variable {P : Program} {w : World} {K : PySem.W.Frag} {mg : Str → Option Value} {base : Heap}
abbrev bx (P : Program) (w : World) (K : PySem.W.Frag) (mg : Str → Option Value) (base : Heap) (N : List Str) (x : Str) (sc : Scope) (f : Addr) (cdv : Value) (A : Around) (outer : List Env) (s : Shared) (H : Hp) : Cx :=
  (cxOf L2.CX0 P w K mg base N x sc f cdv A outer s H L2.E0).nox
theorem pure_def {x : Str} {st : Stmt} {f : Addr} {fd : FuncData} {N ps : List Str} {k : Nat} {R : List PD → PD → Prop} (F : FunD K x x (defArgs st) (defBody st) (defScope st) [] [] f fd) (hm : mg x = some (.ref f)) (S : FnScope N ps (defScope st))
    (hb : Binds K fd ps []) (len : ∀ ds d, R ds d → ds.length = ps.length)
    (hbody : ∀ (cdv : Value) (A : Around) (outer : List Env) (s : Shared) (H : Hp) (vs : List V) (ds : List PD) (d : PD), Room k (A.deeper (envOfC x (defScope st) s.heap.objs.size f cdv)) → DpAll K H vs ds → R ds d →
      WSs (bx P w K mg base N x (defScope st) f cdv A outer s H) (defBody st) (DR K H d) (start N vs) H) : Cal P w K mg base (k + 1) x (spR K R) := by
  refine ⟨f, fd, ps, ?_, hm, F.kp, hb⟩
  refine F.ok S (fun vs H Q E h => ?_) fun cdv A outer s H vs Q E hr h => ?_
  · obtain ⟨ds, d, h1, h2, _⟩ := h
    rw [h1.length, len _ _ h2]
  · obtain ⟨ds, d, h1, h2, h3⟩ := h
    refine ⟨_, PSs.nox pWSs, ?_⟩
    refine (hbody cdv A outer s H vs ds d hr h1 h2).mono (fun σ H' q => ?_) (fun v H' q => h3 v H' q.1 q.2) (fun _ _ q => q.elim) (fun _ _ q => q.elim)
    obtain ⟨rfl, q⟩ := q
    exact h3 _ _ q .non
end
/-! ### statements -/
section
variable {X : Cx} {σ : St} {H : Hp} {D : Ends} {rest : List Stmt} {e c : Expr} {d : PD} {pos : Pos}
theorem ss_nil (h : D.nx σ H) : WSs X [] D σ H := WSs.of pss_nil h
theorem ss_cons {st : Stmt} (h : WS X st { D with nx := WSs X rest D } σ H) : WSs X (st :: rest) D σ H := WSs.of (pss_cons pWS pWSs) h
theorem WS.mono {st : Stmt} {D D' : Ends} (h : WS X st D σ H) (m1 : ∀ σ H, D.nx σ H → D'.nx σ H) (m2 : ∀ v H, D.rt v H → D'.rt v H) (m3 : ∀ σ H, D.bk σ H → D'.bk σ H) (m4 : ∀ σ H, D.ct σ H → D'.ct σ H) : WS X st D' σ H := fun pins s I =>
  thn (h pins s I) fun f _ q => by
    cases f with
    | next => obtain ⟨a, b, c, d⟩ := q; exact ⟨a, b, c, m1 _ _ d⟩
    | brk => obtain ⟨a, b, c, d⟩ := q; exact ⟨a, b, c, m3 _ _ d⟩
    | cont => obtain ⟨a, b, c, d⟩ := q; exact ⟨a, b, c, m4 _ _ d⟩
    | ret u => obtain ⟨v, a, b, c, r, d⟩ := q; exact ⟨v, a, b, c, r, m2 _ _ d⟩
theorem ss_ret (h : EE X σ H e d) (k : ∀ v H1, Same H H1 → Dp X.K H1 v d → D.rt v H1) : WSs X (.Return (some e) pos :: rest) D σ H :=
  ss_cons (WS.of (ps_ret pWE) (h H (Same.refl H) _ fun v H1 s1 hv => k v H1 s1 hv))
theorem ss_if {A E : List Stmt} {b : Bool} (h : ET X σ H c b) (h1 : b = true → ∀ H1, Same H H1 → WSs X A { D with nx := WSs X rest D } σ H1) (h2 : b = false → ∀ H1, Same H H1 → WSs X E { D with nx := WSs X rest D } σ H1) : WSs X (.If c A E pos :: rest) D σ H :=
  ss_cons (WS.of (ps_if pWT pWSs pWSs) (h H (Same.refl H) _ fun H1 s1 => by
    cases b with
    | true => rw [if_pos rfl]; exact h1 rfl H1 s1
    | false => rw [if_neg (by decide)]; exact h2 rfl H1 s1))
/-- an if without else -/
theorem ss_when {A : List Stmt} {b : Bool} (h : ET X σ H c b) (h1 : b = true → ∀ H1, Same H H1 → WSs X A { D with nx := WSs X rest D } σ H1) (h2 : b = false → ∀ H1, Same H H1 → WSs X rest D σ H1) : WSs X (.If c A [] pos :: rest) D σ H :=
  ss_if h h1 fun hb H1 s1 => ss_nil (h2 hb H1 s1)
theorem ss_asg {x : Str} {pos' : Pos} (i : Nat) (h : EE X σ H e d) (k : ∀ v H1, Same H H1 → Dp X.K H1 v d → WSs X rest D (σ.set i (some v)) H1) (hN : X.N.Nodup) (hi : X.N[i]? = some x := by rfl) (hx : Loc X.env.scope x := by first | exact Or.inl rfl | exact Or.inr rfl)
    (hs : swapsWith e (some (.Name x pos')) pos.line X.env = pure false := by rfl) (hf : X.fn x = true ∨ X.env.scope.names.lookup x = some .local := by first | exact .inl rfl | exact .inr rfl | assumption) : WSs X (.Assign [.Name x pos'] e pos :: rest) D σ H :=
  ss_cons (WS.of (ps_set hN hi hx pWE hs hf) (h H (Same.refl H) _ fun v H1 s1 hv => k v H1 s1 hv))
end
end NF
/-! The data environment: what each slot holds, by data; owned lists and dicts. -/
namespace NF
open PySem PySem.Spec PyProof.Rows L2

/-- what a slot holds: nothing known; data that stands still; a list, a dict of its own that may be changed here -/
inductive Sl where
  | non
  | dat (d : PD)
  | val (u : V)
  | lst (ds : List PD)
  | dic (kvs : List ((Int × Int) × Int))
  | dik (kvs : List (Int × Int))
abbrev Rho := List Sl
def Sl.isOwn : Sl → Bool
  | .lst _ => true
  | .dic _ => true
  | .dik _ => true
  | _ => false
def kT (p : (Int × Int) × Int) : List Key × V := ([.inl p.1.1, .inl p.1.2], .int p.2)
def kI (p : Int × Int) : Key × V := (.inl p.1, .int p.2)
def HasS (K : PySem.W.Frag) (B H : Hp) (v : V) : Sl → Prop
  | .non => True
  | .dat d => Dp K B v d
  | .val u => v = u
  | .lst ds => ∃ l vs, v = .ref l ∧ B l = none ∧ H l = some (.lst vs) ∧ DpAll K B vs ds
  | .dic kvs => ∃ l, v = .ref l ∧ B l = none ∧ H l = some (.dT (kvs.map kT))
  | .dik kvs => ∃ l, v = .ref l ∧ B l = none ∧ H l = some (.dK (kvs.map kI))
structure SD (K : PySem.W.Frag) (B H : Hp) (σ : St) (ρ : Rho) : Prop where
  sub : Same B H
  len : σ.length = ρ.length
  has : ∀ (i : Nat) (s : Sl), ρ[i]? = some s → s ≠ .non → ∃ v, σ[i]? = some (some v) ∧ HasS K B H v s
  apart : ∀ (i j : Nat) (si sj : Sl) (l : Addr), ρ[i]? = some si → si.isOwn = true → ρ[j]? = some sj → sj.isOwn = true → σ[i]? = some (some (.ref l)) → σ[j]? = some (some (.ref l)) → i = j
section
variable {K : PySem.W.Frag} {B B' H H' : Hp} {σ : St} {ρ : Rho} {v : V} {s : Sl}
theorem HasS.mono (e : Same H H') (h : HasS K B H v s) : HasS K B H' v s := by
  cases s with
  | non => trivial
  | dat d => exact h
  | val u => exact h
  | lst ds => obtain ⟨l, vs, a, b, c, d⟩ := h; exact ⟨l, vs, a, b, e _ _ c, d⟩
  | dic kvs => obtain ⟨l, a, b, c⟩ := h; exact ⟨l, a, b, e _ _ c⟩
  | dik kvs => obtain ⟨l, a, b, c⟩ := h; exact ⟨l, a, b, e _ _ c⟩
theorem SD.mono (h : SD K B H σ ρ) (e : Same H H') : SD K B H' σ ρ := ⟨h.sub.trans e, h.len, fun i s a b => let ⟨v, c, d⟩ := h.has i s a b; ⟨v, c, d.mono e⟩, h.apart⟩
theorem SD.dat {d : PD} {i : Nat} (h : SD K B H σ ρ) (e : ρ[i]? = some (.dat d)) : ∃ v, σ[i]? = some (some v) ∧ Dp K B v d := h.has i _ e (by simp)
theorem SD.lst {ds : List PD} {i : Nat} (h : SD K B H σ ρ) (e : ρ[i]? = some (.lst ds)) : ∃ l vs, σ[i]? = some (some (.ref l)) ∧ B l = none ∧ H l = some (.lst vs) ∧ DpAll K B vs ds := by
  obtain ⟨v, a, l, vs, rfl, b⟩ := h.has i _ e (by simp)
  exact ⟨l, vs, a, b⟩
theorem SD.dic {kvs : _} {i : Nat} (h : SD K B H σ ρ) (e : ρ[i]? = some (.dic kvs)) : ∃ l, σ[i]? = some (some (.ref l)) ∧ B l = none ∧ H l = some (.dT (kvs.map kT)) := by
  obtain ⟨v, a, l, rfl, b⟩ := h.has i _ e (by simp)
  exact ⟨l, a, b⟩
theorem SD.dik {kvs : _} {i : Nat} (h : SD K B H σ ρ) (e : ρ[i]? = some (.dik kvs)) : ∃ l, σ[i]? = some (some (.ref l)) ∧ B l = none ∧ H l = some (.dK (kvs.map kI)) := by
  obtain ⟨v, a, l, rfl, b⟩ := h.has i _ e (by simp)
  exact ⟨l, a, b⟩
/-- what is owned: the address of an own slot -/
def Owned (σ : St) (ρ : Rho) (l : Addr) : Prop := ∃ (i : Nat) (s : Sl), ρ[i]? = some s ∧ s.isOwn = true ∧ σ[i]? = some (some (.ref l))
/-- all of H but what is owned -/
noncomputable def bas (σ : St) (ρ : Rho) (H : Hp) : Hp := fun a => by classical exact if Owned σ ρ a then none else H a
theorem base_sub : Same (bas σ ρ H) H := fun a o e => by
  unfold bas at e
  split at e
  · cases e
  · exact e
theorem base_some {a : Addr} {o : HO} (h : ¬ Owned σ ρ a) (e : H a = some o) : bas σ ρ H a = some o := by
  unfold bas
  rw [if_neg h]
  exact e
theorem base_own {a : Addr} (h : Owned σ ρ a) : bas σ ρ H a = none := by
  unfold bas
  rw [if_pos h]
theorem HasS.own {l : Addr} (h : HasS K B H (.ref l) s) (o : s.isOwn = true) : B l = none := by
  cases s with
  | non => cases o
  | dat d => cases o
  | val u => cases o
  | lst ds => obtain ⟨l, vs, a, b, c, d⟩ := h; cases a; exact b
  | dic kvs => obtain ⟨l, a, b, c⟩ := h; cases a; exact b
  | dik kvs => obtain ⟨l, a, b, c⟩ := h; cases a; exact b
theorem SD.base (h : SD K B H σ ρ) : Same B (bas σ ρ H) := fun a o e => by
  refine base_some (fun ⟨i, s, h1, h2, h3⟩ => ?_) (h.sub a o e)
  obtain ⟨v, h4, h5⟩ := h.has i s h1 (by intro z; subst z; cases h2)
  rw [h3] at h4
  cases h4
  rw [h5.own h2] at e
  cases e
theorem HasS.up (e : Same B B') (h : HasS K B H v s) (n : ∀ l, v = .ref l → s.isOwn = true → B' l = none) : HasS K B' H v s := by
  cases s with
  | non => trivial
  | dat d => exact Dp.mono e h
  | val u => exact h
  | lst ds => obtain ⟨l, vs, rfl, b, c, d⟩ := h; exact ⟨l, vs, rfl, n l rfl rfl, c, DpAll.mono e d⟩
  | dic kvs => obtain ⟨l, rfl, b, c⟩ := h; exact ⟨l, rfl, n l rfl rfl, c⟩
  | dik kvs => obtain ⟨l, rfl, b, c⟩ := h; exact ⟨l, rfl, n l rfl rfl, c⟩
/-- the base is all that isn't owned -/
theorem SD.rebase (h : SD K B H σ ρ) : SD K (bas σ ρ H) H σ ρ := ⟨base_sub, h.len, fun i s a b => by
  obtain ⟨v, c, d⟩ := h.has i s a b
  refine ⟨v, c, d.up h.base fun l e o => ?_⟩
  subst e
  exact base_own ⟨i, s, a, o, c⟩, h.apart⟩
/-- data without a list in it -/
def noL : PD → Bool
  | .list _ => false
  | .dict _ => false
  | .tuple ds => noLs ds
  | _ => true
where noLs : List PD → Bool
  | [] => true
  | d :: ds => noL d && noLs ds
theorem noLs_all : ∀ {ds : List PD}, noL.noLs ds = true ↔ ∀ d ∈ ds, noL d = true
  | [] => by simp [noL.noLs]
  | d :: ds => by simp [noL.noLs, noLs_all (ds := ds)]
theorem tup_not_own {h : SD K B H σ ρ} {a : Addr} {xs : List V} (e : Rd H a (.tup xs)) : ¬ Owned σ ρ a := fun ⟨i, s, h1, h2, h3⟩ => by
  obtain ⟨v, h4, h5⟩ := h.has i s h1 (by intro z; subst z; cases h2)
  rw [h3] at h4
  cases h4
  cases s with
  | non => cases h2
  | dat d => cases h2
  | val u => cases h2
  | lst ds => obtain ⟨l, vs, a, b, c, d⟩ := h5; cases a; rcases e with e | ⟨o, e⟩ <;> (rw [c] at e; cases e)
  | dic kvs => obtain ⟨l, a, b, c⟩ := h5; cases a; rcases e with e | ⟨o, e⟩ <;> (rw [c] at e; cases e)
  | dik kvs => obtain ⟨l, a, b, c⟩ := h5; cases a; rcases e with e | ⟨o, e⟩ <;> (rw [c] at e; cases e)
mutual
theorem Dp.to_base (h : SD K B H σ ρ) : ∀ {d : PD} {v : V}, Dp K H v d → noL d = true → Dp K (bas σ ρ H) v d
  | .none, _, e, _ => by cases e; exact .non
  | .bool b, _, e, _ => by cases e; exact .bl b
  | .int i, _, e, _ => by cases e; exact .int i
  | .str x, _, e, _ => by cases e; exact .str x
  | .list ds, _, e, n => by cases n
  | .tuple ds, _, e, n => by
    cases e with
    | tup h1 h2 =>
      refine .tup ?_ (DpAll.to_base h h2 n)
      rcases h1 with h1 | h1
      · refine .inl ?_
        have z := tup_not_own (h := h) h1
        rcases h1 with h1 | ⟨o, h1⟩
        · exact .inl (base_some z h1)
        · exact .inr ⟨o, base_some z h1⟩
      · exact .inr h1
  | .dict _, _, e, _ => by cases e
theorem DpAll.to_base (h : SD K B H σ ρ) : ∀ {ds : List PD} {vs : List V}, DpAll K H vs ds → noL.noLs ds = true → DpAll K (bas σ ρ H) vs ds
  | [], _, e, _ => by cases e; exact .nil
  | d :: ds, _, e, n => by
    have n1 : (noL d && noL.noLs ds) = true := n
    rw [Bool.and_eq_true] at n1
    cases e with
    | cons h1 h2 => exact .cons (Dp.to_base h h1 n1.1) (DpAll.to_base h h2 n1.2)
end
/-- a slot is given data -/
theorem SD.set {d : PD} {i : Nat} (h : SD K B H σ ρ) (hd : Dp K B v d) (hi : i < ρ.length) : SD K B H (σ.set i (some v)) (ρ.set i (.dat d)) where
  sub := h.sub
  len := by rw [List.length_set, List.length_set, h.len]
  has := fun j s a b => by
    by_cases e : i = j
    · subst e
      rw [List.getElem?_set_self hi] at a
      cases a
      exact ⟨v, List.getElem?_set_self (by rw [h.len]; exact hi), hd⟩
    · rw [List.getElem?_set_ne e] at a ⊢
      exact h.has j s a b
  apart := fun j k sj sk l a1 a2 a3 a4 a5 a6 => by
    by_cases e : i = j
    · subst e
      rw [List.getElem?_set_self hi] at a1
      cases a1
      cases a2
    · by_cases e' : i = k
      · subst e'
        rw [List.getElem?_set_self hi] at a3
        cases a3
        cases a4
      · rw [List.getElem?_set_ne e] at a1 a5
        rw [List.getElem?_set_ne e'] at a3 a6
        exact h.apart j k sj sk l a1 a2 a3 a4 a5 a6
/-- what a slot holds is forgotten -/
theorem SD.forget {i : Nat} {o : Option V} (h : SD K B H σ ρ) (hi : i < ρ.length) : SD K B H (σ.set i o) (ρ.set i .non) where
  sub := h.sub
  len := by rw [List.length_set, List.length_set, h.len]
  has := fun j s a b => by
    by_cases e : i = j
    · subst e
      rw [List.getElem?_set_self hi] at a
      cases a
      exact absurd rfl b
    · rw [List.getElem?_set_ne e] at a ⊢
      exact h.has j s a b
  apart := fun j k sj sk l a1 a2 a3 a4 a5 a6 => by
    by_cases e : i = j
    · subst e
      rw [List.getElem?_set_self hi] at a1
      cases a1
      cases a2
    · by_cases e' : i = k
      · subst e'
        rw [List.getElem?_set_self hi] at a3
        cases a3
        cases a4
      · rw [List.getElem?_set_ne e] at a1 a5
        rw [List.getElem?_set_ne e'] at a3 a6
        exact h.apart j k sj sk l a1 a2 a3 a4 a5 a6
/-- a slot is given something owned, which is new -/
theorem SD.setO {i : Nat} {l : Addr} (h : SD K B H σ ρ) (hs : HasS K B H (.ref l) s) (so : s.isOwn = true) (hn : ¬ Owned σ ρ l) (hi : i < ρ.length) : SD K B H (σ.set i (some (.ref l))) (ρ.set i s) where
  sub := h.sub
  len := by rw [List.length_set, List.length_set, h.len]
  has := fun j s' a b => by
    by_cases e : i = j
    · subst e
      rw [List.getElem?_set_self hi] at a
      cases a
      exact ⟨_, List.getElem?_set_self (by rw [h.len]; exact hi), hs⟩
    · rw [List.getElem?_set_ne e] at a ⊢
      exact h.has j s' a b
  apart := fun j k sj sk m a1 a2 a3 a4 a5 a6 => by
    by_cases e : i = j
    · subst e
      by_cases e' : i = k
      · exact e'
      · rw [List.getElem?_set_self (by rw [h.len]; exact hi)] at a5
        cases a5
        rw [List.getElem?_set_ne e'] at a3 a6
        exact absurd ⟨k, sk, a3, a4, a6⟩ hn
    · by_cases e' : i = k
      · subst e'
        rw [List.getElem?_set_self (by rw [h.len]; exact hi)] at a6
        cases a6
        rw [List.getElem?_set_ne e] at a1 a5
        exact absurd ⟨j, sj, a1, a2, a5⟩ hn
      · rw [List.getElem?_set_ne e] at a1 a5
        rw [List.getElem?_set_ne e'] at a3 a6
        exact h.apart j k sj sk m a1 a2 a3 a4 a5 a6
/-- an owned thing is changed -/
theorem SD.write {i : Nat} {l : Addr} {o : HO} {s' : Sl} (h : SD K B H σ ρ) (hi : ρ[i]? = some s) (so : s.isOwn = true) (hl : σ[i]? = some (some (.ref l))) (hs : HasS K B (upd H l o) (.ref l) s') (so' : s'.isOwn = true) : SD K B (upd H l o) σ (ρ.set i s') where
  sub := fun a u e => by
    have : a ≠ l := fun z => by
      subst z
      obtain ⟨v, h4, h5⟩ := h.has i s hi (by intro z; subst z; cases so)
      rw [hl] at h4
      cases h4
      rw [h5.own so] at e
      cases e
    rw [upd_ne this]
    exact h.sub a u e
  len := by rw [List.length_set, h.len]
  has := fun j sj a b => by
    have il : i < ρ.length := (List.getElem?_eq_some_iff.mp hi).1
    by_cases e : i = j
    · subst e
      rw [List.getElem?_set_self il] at a
      cases a
      exact ⟨_, hl, hs⟩
    · rw [List.getElem?_set_ne e] at a
      obtain ⟨v, c, d⟩ := h.has j sj a b
      refine ⟨v, c, ?_⟩
      have ne : ∀ m, v = .ref m → sj.isOwn = true → m ≠ l := fun m z1 z2 z3 => by
        subst z1 z3
        exact e (h.apart i j s sj _ hi so a z2 hl c)
      cases sj with
      | non => trivial
      | dat d' => exact d
      | val u => exact d
      | lst ds => obtain ⟨m, vs, rfl, b, c, d⟩ := d; exact ⟨m, vs, rfl, b, by rw [upd_ne (ne m rfl rfl)]; exact c, d⟩
      | dic kvs => obtain ⟨m, rfl, b, c⟩ := d; exact ⟨m, rfl, b, by rw [upd_ne (ne m rfl rfl)]; exact c⟩
      | dik kvs => obtain ⟨m, rfl, b, c⟩ := d; exact ⟨m, rfl, b, by rw [upd_ne (ne m rfl rfl)]; exact c⟩
  apart := fun j k sj sk m a1 a2 a3 a4 a5 a6 => by
    have il : i < ρ.length := (List.getElem?_eq_some_iff.mp hi).1
    have hj : ∃ sj', ρ[j]? = some sj' ∧ sj'.isOwn = true := by
      by_cases e : i = j
      · subst e; exact ⟨s, hi, so⟩
      · rw [List.getElem?_set_ne e] at a1; exact ⟨sj, a1, a2⟩
    have hk : ∃ sj', ρ[k]? = some sj' ∧ sj'.isOwn = true := by
      by_cases e : i = k
      · subst e; exact ⟨s, hi, so⟩
      · rw [List.getElem?_set_ne e] at a3; exact ⟨sk, a3, a4⟩
    obtain ⟨t1, u1, w1⟩ := hj
    obtain ⟨t2, u2, w2⟩ := hk
    exact h.apart j k t1 t2 m u1 w1 u2 w2 a5 a6
/-- an owned list isn't changed any more -/
theorem SD.freeze {i : Nat} {ds : List PD} (h : SD K B H σ ρ) (hi : ρ[i]? = some (.lst ds)) : ∃ B', Same B B' ∧ SD K B' H σ (ρ.set i (.dat (.list ds))) := by
  obtain ⟨l, vs, a, b, c, d⟩ := h.lst hi
  have il : i < ρ.length := (List.getElem?_eq_some_iff.mp hi).1
  have sb : Same B (upd B l (.lst vs)) := Same.new b
  refine ⟨upd B l (.lst vs), sb, ?_, ?_, ?_, ?_⟩
  · intro x o e
    by_cases z : x = l
    · subst z; rw [upd_same] at e; cases e; exact c
    · rw [upd_ne z] at e; exact h.sub x o e
  · rw [List.length_set, h.len]
  · intro j s e n
    by_cases z : i = j
    · subst z
      rw [List.getElem?_set_self il] at e
      cases e
      exact ⟨_, a, dp_lst upd_same (DpAll.mono sb d)⟩
    · rw [List.getElem?_set_ne z] at e
      obtain ⟨v, p, q⟩ := h.has j s e n
      refine ⟨v, p, q.up sb fun m z1 z2 => ?_⟩
      subst z1
      have : m ≠ l := fun y => by subst y; exact z (h.apart i j _ s _ hi rfl e z2 a p)
      rw [upd_ne this]
      exact q.own z2
  · intro j k sj sk m a1 a2 a3 a4 a5 a6
    by_cases e : i = j
    · subst e
      rw [List.getElem?_set_self il] at a1
      cases a1
      cases a2
    · by_cases e' : i = k
      · subst e'
        rw [List.getElem?_set_self il] at a3
        cases a3
        cases a4
      · rw [List.getElem?_set_ne e] at a1
        rw [List.getElem?_set_ne e'] at a3
        exact h.apart j k sj sk m a1 a2 a3 a4 a5 a6
end
section
variable {K : PySem.W.Frag} {H : Hp}
mutual
/-- data without lists doesn't lean on a list's, a dict's address -/
theorem dp_del {l : Addr} (hl : ∀ (xs : List V), ¬ Rd H l (.tup xs)) : ∀ {d : PD} {v : V}, Dp K H v d → noL d = true → Dp K (fun a => if a = l then none else H a) v d
  | .none, _, e, _ => by cases e; exact .non
  | .bool b, _, e, _ => by cases e; exact .bl b
  | .int i, _, e, _ => by cases e; exact .int i
  | .str x, _, e, _ => by cases e; exact .str x
  | .list ds, _, e, n => by cases n
  | .tuple ds, _, e, n => by
    cases e with
    | @tup a xs ds h1 h2 =>
      refine .tup ?_ (dpAll_del' hl h2 n)
      rcases h1 with h1 | h1
      · refine .inl ?_
        have z : a ≠ l := fun z => by subst z; exact hl _ h1
        rcases h1 with h1 | ⟨o, h1⟩
        · exact .inl (by dsimp only; rw [if_neg z]; exact h1)
        · exact .inr ⟨o, by dsimp only; rw [if_neg z]; exact h1⟩
      · exact .inr h1
  | .dict _, _, e, _ => by cases e
theorem dpAll_del' {l : Addr} (hl : ∀ (xs : List V), ¬ Rd H l (.tup xs)) : ∀ {ds : List PD} {vs : List V}, DpAll K H vs ds → noL.noLs ds = true → DpAll K (fun a => if a = l then none else H a) vs ds
  | [], _, e, _ => by cases e; exact .nil
  | d :: ds, _, e, n => by
    have n1 : (noL d && noL.noLs ds) = true := n
    rw [Bool.and_eq_true] at n1
    cases e with
    | cons h1 h2 => exact .cons (dp_del hl h1 n1.1) (dpAll_del' hl h2 n1.2)
end
theorem dpAll_del {l : Addr} {ys : List V} (h : H l = some (.lst ys)) {ds : List PD} {vs : List V} (hd : DpAll K H vs ds) (n : noL.noLs ds = true) : DpAll K (fun a => if a = l then none else H a) vs ds :=
  dpAll_del' (fun xs r => by rcases r with r | ⟨o, r⟩ <;> (rw [h] at r; cases r)) hd n
end
end NF
/-! Judgements over data environments. -/
namespace NF
open PySem PySem.Spec PyProof.Rows L2

/-! ### expressions -/
structure E (X : Cx) (ρ : Rho) (e : Expr) (d : PD) : Prop where
  run : ∀ σ B H, SD X.K B H σ ρ → EE X σ H e d
instance {X : Cx} {ρ : Rho} {e : Expr} {d : PD} : CoeFun (E X ρ e d) (fun _ => ∀ σ B H, SD X.K B H σ ρ → EE X σ H e d) := ⟨fun h => h.run⟩
structure As (X : Cx) (ρ : Rho) (es : List Expr) (ds : List PD) : Prop where
  run : ∀ σ B H, SD X.K B H σ ρ → EA X σ H es ds
instance {X : Cx} {ρ : Rho} {es : List Expr} {ds : List PD} : CoeFun (As X ρ es ds) (fun _ => ∀ σ B H, SD X.K B H σ ρ → EA X σ H es ds) := ⟨fun h => h.run⟩
structure T (X : Cx) (ρ : Rho) (e : Expr) (b : Bool) : Prop where
  run : ∀ σ B H, SD X.K B H σ ρ → ET X σ H e b
instance {X : Cx} {ρ : Rho} {e : Expr} {b : Bool} : CoeFun (T X ρ e b) (fun _ => ∀ σ B H, SD X.K B H σ ρ → ET X σ H e b) := ⟨fun h => h.run⟩
structure Wb (X : Cx) (ρ : Rho) (e : Expr) (b : Bool) : Prop where
  run : ∀ σ B H, SD X.K B H σ ρ → EW X σ H e b
instance {X : Cx} {ρ : Rho} {e : Expr} {b : Bool} : CoeFun (Wb X ρ e b) (fun _ => ∀ σ B H, SD X.K B H σ ρ → EW X σ H e b) := ⟨fun h => h.run⟩
/-- an expression that gives something new to own, or data -/
structure ES (X : Cx) (ρ : Rho) (e : Expr) (s : Sl) : Prop where
  run : ∀ σ B H, SD X.K B H σ ρ → ∀ Q : VK, (∀ v B' H', Same H B' → Same B' H' → HasS X.K B' H' v s → Q v H') → WE X e σ H Q
instance {X : Cx} {ρ : Rho} {e : Expr} {s : Sl} : CoeFun (ES X ρ e s) (fun _ => ∀ σ B H, SD X.K B H σ ρ → ∀ Q : VK, (∀ v B' H', Same H B' → Same B' H' → HasS X.K B' H' v s → Q v H') → WE X e σ H Q) := ⟨fun h => h.run⟩
/-- an expression whose data stands apart from what is owned -/
structure EB (X : Cx) (ρ : Rho) (e : Expr) (d : PD) : Prop where
  run : ∀ σ B H, SD X.K B H σ ρ → ∀ Q : VK, (∀ v B' H', Same B B' → Same H H' → SD X.K B' H' σ ρ → Dp X.K B' v d → Q v H') → WE X e σ H Q
instance {X : Cx} {ρ : Rho} {e : Expr} {d : PD} : CoeFun (EB X ρ e d) (fun _ => ∀ σ B H, SD X.K B H σ ρ → ∀ Q : VK, (∀ v B' H', Same B B' → Same H H' → SD X.K B' H' σ ρ → Dp X.K B' v d → Q v H') → WE X e σ H Q) := ⟨fun h => h.run⟩
section
variable {X : Cx} {ρ : Rho} {e a b c : Expr} {es : List Expr} {d d1 d2 d3 : PD} {ds : List PD} {pos : Pos}
theorem E.var {x : Str} (i : Nat) (h : ρ[i]? = some (.dat d) := by rfl) (hN : X.N[i]? = some x := by rfl) (hv : Vis X.env.scope x := by first | exact Or.inl rfl | exact Or.inr (Or.inl rfl) | exact Or.inr (Or.inr rfl))
    (h1 : (x == ("__debug__" : Str)) = false := by decide) (h2 : (x == ("__classdict__" : Str)) = false := by decide) : E X ρ (.Name x pos) d := ⟨fun σ B H s => by
  obtain ⟨v, hs, hd⟩ := s.dat h
  exact EE.var i hs (Dp.mono s.sub hd) hN hv h1 h2⟩
theorem E.varL {x : Str} (i : Nat) (h : ρ[i]? = some (.lst ds) := by rfl) (hN : X.N[i]? = some x := by rfl) (hv : Vis X.env.scope x := by first | exact Or.inl rfl | exact Or.inr (Or.inl rfl) | exact Or.inr (Or.inr rfl))
    (h1 : (x == ("__debug__" : Str)) = false := by decide) (h2 : (x == ("__classdict__" : Str)) = false := by decide) : E X ρ (.Name x pos) (.list ds) := ⟨fun σ B H s => by
  obtain ⟨l, vs, hs, h3, h4, h5⟩ := s.lst h
  exact EE.var i hs (dp_lst h4 (DpAll.mono s.sub h5)) hN hv h1 h2⟩
theorem E.int {i : Int} {j} : E X ρ (.Constant (.int i) j pos) (.int i) := ⟨fun _ _ _ _ => EE.int⟩
theorem E.bl {i : Bool} {j} : E X ρ (.Constant (.bool i) j pos) (.bool i) := ⟨fun _ _ _ _ => EE.bl⟩
theorem E.non {j} : E X ρ (.Constant .none j pos) .none := ⟨fun _ _ _ _ => EE.non⟩
theorem E.str {z : Str} {j} : E X ρ (.Constant (.str z) j pos) (.str z) := ⟨fun _ _ _ _ => EE.str⟩
theorem E.gint {x : Str} {i : Int} {t : Tok} (hm : X.mg x = some (.int i t)) (hg : Gl X x := by rfl) (hdb : (x == ("__debug__" : Str)) = false := by decide) : E X ρ (.Name x pos) (.int i) := ⟨fun _ _ _ _ => EE.gint hm hg hdb⟩
theorem E.op {op : Operator} (ha : E X ρ a d1) (hb : E X ρ b d2) (ho : BinD X (binaryOp op) d1 d2 d) : E X ρ (.BinOp a op b pos) d := ⟨fun σ B H s => EE.op (ha σ B H s) (hb σ B H s) ho⟩
theorem E.neg {i : Int} (ha : E X ρ a (.int i)) : E X ρ (.UnaryOp .USub a pos) (.int (-i)) := ⟨fun σ B H s => EE.neg (ha σ B H s)⟩
theorem E.cmp {op : CmpOp} (ha : E X ρ a d1) (hb : E X ρ b d2) (ho : BinD X (compareOp op) d1 d2 d) (hm : behindInMarks op b = false := by first | exact nomark _ | rfl) : E X ρ (.Compare a [op] [b] pos) d := ⟨fun σ B H s => EE.cmp (ha σ B H s) (hb σ B H s) ho hm⟩
theorem E.one {op} (h : E X ρ e d) : E X ρ (.BoolOp op [e] pos) d := ⟨fun σ B H s => EE.one (h σ B H s)⟩
theorem E.and {x y : Bool} (ha : E X ρ a (.bool x)) (hb : x = true → E X ρ (.BoolOp .And (b :: es) pos) (.bool y)) : E X ρ (.BoolOp .And (a :: b :: es) pos) (.bool (x && y)) := ⟨fun σ B H s => EE.and (ha σ B H s) fun h => hb h σ B H s⟩
theorem E.or {x y : Bool} (ha : E X ρ a (.bool x)) (hb : x = false → E X ρ (.BoolOp .Or (b :: es) pos) (.bool y)) : E X ρ (.BoolOp .Or (a :: b :: es) pos) (.bool (x || y)) := ⟨fun σ B H s => EE.or (ha σ B H s) fun h => hb h σ B H s⟩
theorem E.not {x : Bool} (ha : E X ρ a (.bool x)) : E X ρ (.UnaryOp .Not a pos) (.bool (!x)) := ⟨fun σ B H s => EE.not (ha σ B H s)⟩
theorem E.is (h : E X ρ e d) (z : d = d1) : E X ρ e d1 := z ▸ h
theorem T.is {x y : Bool} (h : T X ρ e x) (z : x = y) : T X ρ e y := z ▸ h
theorem T.val {x : Bool} (h : E X ρ e (.bool x)) (he : ∀ whole, isTrue e X.env whole = (do let v ← whole; standAt e.pos; holding [v] (truthy v)) := by intro _; rfl) : T X ρ e x := ⟨fun σ B H s => ET.val (h σ B H s) he⟩
theorem T.cmp {op : CmpOp} {x : Bool} (ha : E X ρ a d1) (hb : E X ρ b d2) (ho : BinD X (compareOp op) d1 d2 (.bool x)) (hm : behindInMarks op b = false := by first | exact nomark _ | rfl) : T X ρ (.Compare a [op] [b] pos) x := ⟨fun σ B H s => ET.cmp (ha σ B H s) (hb σ B H s) ho hm⟩
theorem T.not {x : Bool} (h : T X ρ a x) : T X ρ (.UnaryOp .Not a pos) (!x) := ⟨fun σ B H s => ET.not (h σ B H s)⟩
theorem T.w {x : Bool} (h : Wb X ρ e x) : T X ρ e x := ⟨fun σ B H s => ET.of_w (h σ B H s)⟩
theorem Wb.and1 {x : Bool} (h : T X ρ a x) : Wb X ρ (.BoolOp .And [a] pos) x := ⟨fun σ B H s => EW.and1 (h σ B H s)⟩
theorem Wb.or1 {x : Bool} (h : T X ρ a x) : Wb X ρ (.BoolOp .Or [a] pos) x := ⟨fun σ B H s => EW.or1 (h σ B H s)⟩
theorem Wb.and {x y : Bool} (ha : T X ρ a x) (hb : x = true → Wb X ρ (.BoolOp .And (b :: es) pos) y) : Wb X ρ (.BoolOp .And (a :: b :: es) pos) (x && y) := ⟨fun σ B H s => EW.and (ha σ B H s) fun h => hb h σ B H s⟩
theorem Wb.or {x y : Bool} (ha : T X ρ a x) (hb : x = false → Wb X ρ (.BoolOp .Or (b :: es) pos) y) : Wb X ρ (.BoolOp .Or (a :: b :: es) pos) (x || y) := ⟨fun σ B H s => EW.or (ha σ B H s) fun h => hb h σ B H s⟩
theorem As.nil : As X ρ [] [] := ⟨fun _ _ _ _ => EA.nil⟩
theorem As.cons (h : E X ρ e d) (hr : As X ρ es ds) (hs : starEach (e :: es) X.env = (false, eval e X.env) :: starEach es X.env := by rfl) : As X ρ (e :: es) (d :: ds) := ⟨fun σ B H s => EA.cons (h σ B H s) (hr σ B H s) hs⟩
theorem E.tup {x1} (h : As X ρ es ds) (hl : ds.length ≤ 64 := by exact Nat.le_of_ble_eq_true rfl) : E X ρ (.Tuple es x1 pos) (.tuple ds) := ⟨fun σ B H s => EE.tup (h σ B H s) hl⟩
theorem E.lst (h : As X ρ es ds) (hl : ds.length ≤ 64 := by exact Nat.le_of_ble_eq_true rfl) : E X ρ (.List es pos) (.list ds) := ⟨fun σ B H s => EE.lst (h σ B H s) hl⟩
theorem E.ix (ha : E X ρ a d1) (hb : E X ρ b d2) (ho : IxD X d1 d2 d) (hs : PlainIx b := by exact fun _ _ => rfl) : E X ρ (.Subscript a b pos) d := ⟨fun σ B H s => EE.ix (ha σ B H s) (hb σ B H s) ho hs⟩
theorem E.blt {x : Str} {id : String} {p : Pos} (hc : CallD X (.builtin id) ds d) (hm : X.mg x = none) (ha : As X ρ (e :: es) ds) (hv : bootBuiltins x = some (.builtin id) := by decide +kernel) (hg : Gl X x := by rfl)
    (hn : x ≠ "__name__" := by decide) (hdb : (x == ("__debug__" : Str)) = false := by decide) (he : starEach (e :: es) X.env = (false, eval e X.env) :: starEach es X.env := by rfl) (hpl : (backTo pos (starEach es X.env)).any (·.1) = false := by rfl) :
    E X ρ (.Call (.Name x p) (e :: es) [] pos) d := ⟨fun σ B H s => EE.blt hc hm (ha σ B H s) hv hg hn hdb he hpl⟩
theorem E.bty {x : Str} {T : String} {p : Pos} (hc : CallD X (.type T) ds d) (hm : X.mg x = none) (ha : As X ρ (e :: es) ds) (hv : bootBuiltins x = some (.type T) := by decide +kernel) (hg : Gl X x := by rfl)
    (hn : x ≠ "__name__" := by decide) (hdb : (x == ("__debug__" : Str)) = false := by decide) (he : starEach (e :: es) X.env = (false, eval e X.env) :: starEach es X.env := by rfl) (hpl : (backTo pos (starEach es X.env)).any (·.1) = false := by rfl) :
    E X ρ (.Call (.Name x p) (e :: es) [] pos) d := ⟨fun σ B H s => EE.bty hc hm (ha σ B H s) hv hg hn hdb he hpl⟩
theorem E.own {x : Str} {k j : Nat} {R : List PD → PD → Prop} {p : Pos} (c : Cal X.prog X.w X.K X.mg X.base k x (spR X.K R)) (hr : Room j X.A) (ha : As X ρ (e :: es) ds) (hR : R ds d) (hk : k ≤ j := by decide) (hg : Gl X x := by rfl)
    (hdb : (x == ("__debug__" : Str)) = false := by decide) (he : starEach (e :: es) X.env = (false, eval e X.env) :: starEach es X.env := by rfl) (hpl : (backTo pos (starEach es X.env)).any (·.1) = false := by rfl) :
    E X ρ (.Call (.Name x p) (e :: es) [] pos) d := ⟨fun σ B H s => EE.own c hr (ha σ B H s) hR hk hg hdb he hpl⟩
theorem E.toS (h : E X ρ e d) : ES X ρ e (.dat d) := ⟨fun σ B H s Q q => h σ B H s H (Same.refl H) Q fun v H' s1 hv => q v H' H' s1 (Same.refl H') hv⟩
/-- no slot is owned -/
def noOwn (ρ : Rho) : Bool := ρ.all fun s => !s.isOwn
theorem noOwn_not {σ : St} {l : Addr} (h : noOwn ρ = true) : ¬ Owned σ ρ l := fun ⟨i, s, h1, h2, _⟩ => by
  unfold noOwn at h
  rw [List.all_eq_true] at h
  have := h s (List.mem_of_getElem? h1)
  rw [h2] at this
  cases this
theorem bas_noOwn {σ : St} {H : Hp} (h : noOwn ρ = true) : bas σ ρ H = H := by
  funext a
  unfold bas
  rw [if_neg (noOwn_not h)]
theorem E.eb (h : E X ρ e d) (n : (noL d || noOwn ρ) = true) : EB X ρ e d := ⟨fun σ B H s Q q => h σ B H s H (Same.refl H) Q fun v H' s1 hv => by
  have s' := s.mono s1
  refine q v (bas σ ρ H') H' s'.base s1 s'.rebase ?_
  rw [Bool.or_eq_true] at n
  rcases n with n | n
  · exact Dp.to_base s' hv n
  · rw [bas_noOwn n]; exact hv⟩
theorem EB.var {x : Str} (i : Nat) (h : ρ[i]? = some (.dat d) := by rfl) (hN : X.N[i]? = some x := by rfl) (hv : Vis X.env.scope x := by first | exact Or.inl rfl | exact Or.inr (Or.inl rfl) | exact Or.inr (Or.inr rfl))
    (h1 : (x == ("__debug__" : Str)) = false := by decide) (h2 : (x == ("__classdict__" : Str)) = false := by decide) : EB X ρ (.Name x pos) d := ⟨fun σ B H s Q q => by
  obtain ⟨v, hs, hd⟩ := s.dat h
  exact WE.of (pe_var hN hv h1 h2) ⟨v, hs, q v B H (Same.refl B) (Same.refl H) s hd⟩⟩
/-- a new list, that isn't changed -/
theorem ES.eb (h : ES X ρ e (.lst ds)) (n : noL.noLs ds = true) : EB X ρ e (.list ds) := ⟨fun σ B H s Q q => h σ B H s Q fun v B' H' s1 s2 hv => by
  obtain ⟨l, vs, rfl, h1, h2, h3⟩ := hv
  have s' := s.mono (s1.trans s2)
  have nl : ¬ Owned σ ρ l := fun ⟨i, t, h4, h5, h6⟩ => by
    have hl : H l ≠ none := by
      obtain ⟨v, h7, h8⟩ := s.has i t h4 (by intro z; subst z; cases h5)
      rw [h6] at h7
      cases h7
      cases t with
      | non => cases h5
      | dat d => cases h5
      | val u => cases h5
      | lst ds => obtain ⟨l, vs, a, b, c, d⟩ := h8; cases a; rw [c]; simp
      | dic kvs => obtain ⟨l, a, b, c⟩ := h8; cases a; rw [c]; simp
      | dik kvs => obtain ⟨l, a, b, c⟩ := h8; cases a; rw [c]; simp
    cases z : H l with
    | none => exact hl z
    | some o => rw [s1 _ _ z] at h1; cases h1
  refine q _ (bas σ ρ H') H' s'.base (s1.trans s2) s'.rebase (dp_lst (base_some nl h2) (DpAll.to_base s' (DpAll.mono s2 h3) n))⟩
end

/-! ### targets -/
/-- data is given to a target: of the slots only those of vs change -/
structure G (X : Cx) (tg : Expr) (ρ : Rho) (d : PD) (vs : List Nat) (Q : Rho → Prop) : Prop where
  run : ∀ σ B H v, SD X.K B H σ ρ → Dp X.K B v d → ∀ R : St → Hp → Prop,
  (∀ σ' ρ', SD X.K B H σ' ρ' → σ'.length = σ.length → (∀ j, j ∉ vs → σ'[j]? = σ[j]?) → Q ρ' → R σ' H) → WG X tg v σ H R
instance {X : Cx} {tg : Expr} {ρ : Rho} {d : PD} {vs : List Nat} {Q : Rho → Prop} : CoeFun (G X tg ρ d vs Q) (fun _ => ∀ σ B H v, SD X.K B H σ ρ → Dp X.K B v d → ∀ R : St → Hp → Prop,
  (∀ σ' ρ', SD X.K B H σ' ρ' → σ'.length = σ.length → (∀ j, j ∉ vs → σ'[j]? = σ[j]?) → Q ρ' → R σ' H) → WG X tg v σ H R) := ⟨fun h => h.run⟩
def WGs (X : Cx) (ts : List Expr) : TGs := fun vs σ H Q => ∀ pins s us, Inv X pins σ H s → Vals vs us →
  wpAny (model X.prog X.w) X.A (assignInOrder ((assignEach ts X.env).map (·.2)) us) (fun _ s' => ∃ σ' H', Inv X pins σ' H' s' ∧ Q σ' H') X.xe s
theorem pWGs {X : Cx} {ts : List Expr} : PGs X ts (WGs X ts) := ⟨fun pins s _ _ _ us _ I r h => h pins s us I r⟩
structure Gs (X : Cx) (ts : List Expr) (ρ : Rho) (ds : List PD) (vs : List Nat) (Q : Rho → Prop) : Prop where
  run : ∀ σ B H ws, SD X.K B H σ ρ → DpAll X.K B ws ds → ∀ R : St → Hp → Prop,
  (∀ σ' ρ', SD X.K B H σ' ρ' → σ'.length = σ.length → (∀ j, j ∉ vs → σ'[j]? = σ[j]?) → Q ρ' → R σ' H) → WGs X ts ws σ H R
instance {X : Cx} {ts : List Expr} {ρ : Rho} {ds : List PD} {vs : List Nat} {Q : Rho → Prop} : CoeFun (Gs X ts ρ ds vs Q) (fun _ => ∀ σ B H ws, SD X.K B H σ ρ → DpAll X.K B ws ds → ∀ R : St → Hp → Prop,
  (∀ σ' ρ', SD X.K B H σ' ρ' → σ'.length = σ.length → (∀ j, j ∉ vs → σ'[j]? = σ[j]?) → Q ρ' → R σ' H) → WGs X ts ws σ H R) := ⟨fun h => h.run⟩
section
variable {X : Cx} {ρ : Rho} {e : Expr} {es : List Expr} {d : PD} {ds : List PD} {pos : Pos} {vs : List Nat} {Q Q' : Rho → Prop}
theorem G.name {x : Str} (i : Nat) (h : Q (ρ.set i (.dat d))) (hN : X.N.Nodup) (hv : i ∈ vs := by decide) (hl : i < ρ.length := by exact Nat.le_of_ble_eq_true rfl) (hi : X.N[i]? = some x := by rfl) (hx : Loc X.env.scope x := by first | exact Or.inl rfl | exact Or.inr rfl)
    (hf : X.fn x = true ∨ X.env.scope.names.lookup x = some .local := by first | exact .inl rfl | exact .inr rfl | assumption) : G X (.Name x pos) ρ d vs Q := ⟨fun σ B H v s hd R r =>
  WG.of (pg_name hN hi hx hf) (r _ _ (s.set hd hl) (by rw [List.length_set]) (fun j hj => List.getElem?_set_ne (by intro z; subst z; exact hj hv)) h)⟩
theorem G.mono (h : G X e ρ d vs Q) (m : ∀ ρ, Q ρ → Q' ρ) : G X e ρ d vs Q' := ⟨fun σ B H v s hd R r => h σ B H v s hd R fun σ' ρ' a b c q => r σ' ρ' a b c (m ρ' q)⟩
theorem Gs.nil (h : Q ρ) : Gs X [] ρ [] vs Q := ⟨fun σ B H ws s hd R r => by
  cases hd
  exact fun pins s' us I rv => pgs_nil.run pins s' σ H [] us R I rv ⟨rfl, r σ ρ s rfl (fun _ _ => rfl) h⟩⟩
theorem Gs.cons (h1 : G X e ρ d vs fun ρ' => Gs X es ρ' ds vs Q) (hs : (assignEach (e :: es) X.env).map (·.2) = assign e X.env :: (assignEach es X.env).map (·.2) := by rfl) : Gs X (e :: es) ρ (d :: ds) vs Q := ⟨fun σ B H ws s hd R r => by
  cases hd with
  | @cons w ws _ _ hd1 hd2 =>
    intro pins s' us I rv
    refine (pgs_cons pWG pWGs hs).run pins s' σ H (w :: ws) us R I rv ⟨w, ws, rfl, ?_⟩
    exact h1 σ B H w s hd1 _ fun σ1 ρ1 s1 l1 k1 q1 => q1 σ1 B H ws s1 hd2 R fun σ2 ρ2 s2 l2 k2 q2 => r σ2 ρ2 s2 (l2.trans l1) (fun j hj => (k2 j hj).trans (k1 j hj)) q2⟩
theorem G.tup {k : Nat} (h : Gs X es ρ ds vs Q) (hc : X.calm = true := by rfl) (hl : ds.length = es.length := by rfl) (hn : (assignEach es X.env).length = es.length := by rfl) (hst : (assignEach es X.env).findIdx? (·.1) = none := by rfl) : G X (.Tuple es k pos) ρ (.tuple ds) vs Q := ⟨fun σ B H v s hd R r => by
  obtain ⟨a, xs, rfl, h1, h2⟩ := hd.inv_tup
  exact WG.of (pg_tup hc pWGs hn hst) ⟨a, xs, rfl, s.sub.sqt h1, by rw [h2.length, hl], h σ B H xs s h2 R r⟩⟩
end

/-! ### statements -/
/-- what is wanted behind: of the environment, of what is handed back -/
structure Post where
  nx : Rho → Prop
  rt : Sl → Prop
  bk : Rho → Prop := fun _ => False
  ct : Rho → Prop := fun _ => False
  ex : Addr → Rho → Prop := fun _ _ => False
/-- exceptions of these classes, raised from B on, are taken -/
def ExT (X : Cx) (B : Hp) (p : Addr → Rho → Prop) : Prop := ∃ W : WX, Takes X W ∧ ∀ C σ' B' H' ρ', Same B B' → SD X.K B' H' σ' ρ' → p C ρ' → W (.ref C) none σ' H'
theorem ExT.mono {X : Cx} {B B1 : Hp} {p : Addr → Rho → Prop} (h : ExT X B p) (s : Same B B1) : ExT X B1 p := by
  obtain ⟨W, tk, h⟩ := h
  exact ⟨W, tk, fun C σ' B' H' ρ' s1 => h C σ' B' H' ρ' (s.trans s1)⟩
theorem ExT.imp {X : Cx} {B : Hp} {p q : Addr → Rho → Prop} (h : ExT X B p) (s : ∀ C ρ, q C ρ → p C ρ) : ExT X B q := by
  obtain ⟨W, tk, h⟩ := h
  exact ⟨W, tk, fun C σ' B' H' ρ' s1 s2 x => h C σ' B' H' ρ' s1 s2 (s C ρ' x)⟩
theorem ExT.no {X : Cx} {B : Hp} : ExT X B fun _ _ => False := ⟨fun _ _ _ _ => False, takes0, fun _ _ _ _ _ _ _ h => h⟩
structure S (X : Cx) (sts : List Stmt) (ρ : Rho) (P : Post) : Prop where
  run : ∀ σ B H D, SD X.K B H σ ρ →
  (∀ σ' B' H' ρ', Same B B' → SD X.K B' H' σ' ρ' → P.nx ρ' → D.nx σ' H') → (∀ v B' H' s, Same B B' → Same B' H' → HasS X.K B' H' v s → P.rt s → D.rt v H') →
  (∀ σ' B' H' ρ', Same B B' → SD X.K B' H' σ' ρ' → P.bk ρ' → D.bk σ' H') → (∀ σ' B' H' ρ', Same B B' → SD X.K B' H' σ' ρ' → P.ct ρ' → D.ct σ' H') → ExT X B P.ex → WSs X sts D σ H
instance {X : Cx} {sts : List Stmt} {ρ : Rho} {P : Post} : CoeFun (S X sts ρ P) (fun _ => ∀ σ B H D, SD X.K B H σ ρ →
  (∀ σ' B' H' ρ', Same B B' → SD X.K B' H' σ' ρ' → P.nx ρ' → D.nx σ' H') → (∀ v B' H' s, Same B B' → Same B' H' → HasS X.K B' H' v s → P.rt s → D.rt v H') →
  (∀ σ' B' H' ρ', Same B B' → SD X.K B' H' σ' ρ' → P.bk ρ' → D.bk σ' H') → (∀ σ' B' H' ρ', Same B B' → SD X.K B' H' σ' ρ' → P.ct ρ' → D.ct σ' H') → ExT X B P.ex → WSs X sts D σ H) := ⟨fun h => h.run⟩
section
variable {X : Cx} {ρ : Rho} {e c : Expr} {es : List Expr} {d : PD} {ds : List PD} {pos : Pos} {P P' : Post} {rest : List Stmt}
theorem S.nil (h : P.nx ρ) : S X [] ρ P := ⟨fun σ B H D s n r b c ex => ss_nil (n σ B H ρ (Same.refl B) s h)⟩
theorem S.mono {sts : List Stmt} (h : S X sts ρ P) (m1 : ∀ ρ, P.nx ρ → P'.nx ρ) (m2 : ∀ s, P.rt s → P'.rt s) (m3 : ∀ ρ, P.bk ρ → P'.bk ρ) (m4 : ∀ ρ, P.ct ρ → P'.ct ρ) (m5 : ∀ C ρ, P.ex C ρ → P'.ex C ρ := by exact fun _ _ h => h) : S X sts ρ P' := ⟨fun σ B H D s n r b c ex =>
  h σ B H D s (fun σ' B' H' ρ' a1 a2 a3 => n σ' B' H' ρ' a1 a2 (m1 ρ' a3)) (fun v B' H' s' a1 a2 a3 a4 => r v B' H' s' a1 a2 a3 (m2 s' a4)) (fun σ' B' H' ρ' a1 a2 a3 => b σ' B' H' ρ' a1 a2 (m3 ρ' a3)) (fun σ' B' H' ρ' a1 a2 a3 => c σ' B' H' ρ' a1 a2 (m4 ρ' a3)) (ex.imp m5)⟩
theorem S.ret {s : Sl} (h : ES X ρ e s) (k : P.rt s) : S X (.Return (some e) pos :: rest) ρ P := ⟨fun σ B H D sd n r b c ex =>
  ss_cons (WS.of (ps_ret pWE) (h σ B H sd _ fun v B' H' s1 s2 hv => r v B' H' s (sd.sub.trans s1) s2 hv k))⟩
theorem S.retN (k : P.rt (.dat .none)) : S X (.Return none pos :: rest) ρ P := ⟨fun σ B H D sd n r b c ex =>
  ss_cons (WS.of ps_retN (r .non B H (.dat .none) (Same.refl B) sd.sub Dp.non k))⟩
/-- a slot's own list is handed back -/
theorem S.retL {x : Str} {p : Pos} (i : Nat) (k : P.rt (.lst ds)) (h : ρ[i]? = some (.lst ds) := by rfl) (hN : X.N[i]? = some x := by rfl) (hv : Vis X.env.scope x := by first | exact Or.inl rfl | exact Or.inr (Or.inl rfl) | exact Or.inr (Or.inr rfl))
    (h1 : (x == ("__debug__" : Str)) = false := by decide) (h2 : (x == ("__classdict__" : Str)) = false := by decide) : S X (.Return (some (.Name x p)) pos :: rest) ρ P := ⟨fun σ B H D sd n r b c ex => by
  obtain ⟨l, vs, hs, h3, h4, h5⟩ := sd.lst h
  exact ss_cons (WS.of (ps_ret (pe_var hN hv h1 h2)) ⟨_, hs, r _ B H (.lst ds) (Same.refl B) sd.sub ⟨l, vs, rfl, h3, h4, h5⟩ k⟩)⟩
theorem S.retDic {x : Str} {p : Pos} {kvs : _} (i : Nat) (k : P.rt (.dic kvs)) (h : ρ[i]? = some (.dic kvs) := by rfl) (hN : X.N[i]? = some x := by rfl) (hv : Vis X.env.scope x := by first | exact Or.inl rfl | exact Or.inr (Or.inl rfl) | exact Or.inr (Or.inr rfl))
    (h1 : (x == ("__debug__" : Str)) = false := by decide) (h2 : (x == ("__classdict__" : Str)) = false := by decide) : S X (.Return (some (.Name x p)) pos :: rest) ρ P := ⟨fun σ B H D sd n r b c ex => by
  obtain ⟨l, hs, h3, h4⟩ := sd.dic h
  exact ss_cons (WS.of (ps_ret (pe_var hN hv h1 h2)) ⟨_, hs, r _ B H (.dic kvs) (Same.refl B) sd.sub ⟨l, rfl, h3, h4⟩ k⟩)⟩
theorem S.if {A F : List Stmt} {b : Bool} (h : T X ρ c b) (h1 : b = true → S X A ρ { P with nx := fun ρ' => S X rest ρ' P }) (h2 : b = false → S X F ρ { P with nx := fun ρ' => S X rest ρ' P }) : S X (.If c A F pos :: rest) ρ P := ⟨fun σ B H D sd n r bk ct ex => by
  refine ss_if (h σ B H sd) (fun hb H1 s1 => ?_) fun hb H1 s1 => ?_
  · exact h1 hb σ B H1 _ (sd.mono s1) (fun σ' B' H' ρ' z1 z2 z3 => z3 σ' B' H' D z2 (fun σ'' B'' H'' ρ'' y1 => n σ'' B'' H'' ρ'' (z1.trans y1)) (fun v B'' H'' s y1 => r v B'' H'' s (z1.trans y1)) (fun σ'' B'' H'' ρ'' y1 => bk σ'' B'' H'' ρ'' (z1.trans y1)) (fun σ'' B'' H'' ρ'' y1 => ct σ'' B'' H'' ρ'' (z1.trans y1)) (ex.mono z1)) r bk ct ex
  · exact h2 hb σ B H1 _ (sd.mono s1) (fun σ' B' H' ρ' z1 z2 z3 => z3 σ' B' H' D z2 (fun σ'' B'' H'' ρ'' y1 => n σ'' B'' H'' ρ'' (z1.trans y1)) (fun v B'' H'' s y1 => r v B'' H'' s (z1.trans y1)) (fun σ'' B'' H'' ρ'' y1 => bk σ'' B'' H'' ρ'' (z1.trans y1)) (fun σ'' B'' H'' ρ'' y1 => ct σ'' B'' H'' ρ'' (z1.trans y1)) (ex.mono z1)) r bk ct ex⟩
theorem S.when {A : List Stmt} {b : Bool} (h : T X ρ c b) (h1 : b = true → S X A ρ { P with nx := fun ρ' => S X rest ρ' P }) (h2 : b = false → S X rest ρ P) : S X (.If c A [] pos :: rest) ρ P := S.if h h1 fun hb => S.nil (h2 hb)
/-- the rest, from what a statement leaves -/
theorem S.go {σ : St} {B B' H' : Hp} {D : Ends} {ρ' : Rho} (h : S X rest ρ' P) (sb : Same B B') (sd : SD X.K B' H' σ ρ') (n : ∀ σ' B' H' ρ', Same B B' → SD X.K B' H' σ' ρ' → P.nx ρ' → D.nx σ' H') (r : ∀ v B' H' s, Same B B' → Same B' H' → HasS X.K B' H' v s → P.rt s → D.rt v H')
    (bk : ∀ σ' B' H' ρ', Same B B' → SD X.K B' H' σ' ρ' → P.bk ρ' → D.bk σ' H') (ct : ∀ σ' B' H' ρ', Same B B' → SD X.K B' H' σ' ρ' → P.ct ρ' → D.ct σ' H') (ex : ExT X B P.ex) : WSs X rest D σ H' :=
  h σ B' H' D sd (fun σ'' B'' H'' ρ'' y1 => n σ'' B'' H'' ρ'' (sb.trans y1)) (fun v B'' H'' s y1 => r v B'' H'' s (sb.trans y1)) (fun σ'' B'' H'' ρ'' y1 => bk σ'' B'' H'' ρ'' (sb.trans y1)) (fun σ'' B'' H'' ρ'' y1 => ct σ'' B'' H'' ρ'' (sb.trans y1)) (ex.mono sb)
theorem S.asgB {x : Str} {pos' : Pos} (i : Nat) (h : EB X ρ e d) (k : S X rest (ρ.set i (.dat d)) P) (hN : X.N.Nodup) (hl : i < ρ.length := by exact Nat.le_of_ble_eq_true rfl) (hi : X.N[i]? = some x := by rfl) (hx : Loc X.env.scope x := by first | exact Or.inl rfl | exact Or.inr rfl)
    (hs : swapsWith e (some (.Name x pos')) pos.line X.env = pure false := by rfl) (hf : X.fn x = true ∨ X.env.scope.names.lookup x = some .local := by first | exact .inl rfl | exact .inr rfl | assumption) : S X (.Assign [.Name x pos'] e pos :: rest) ρ P := ⟨fun σ B H D sd n r bk ct ex =>
  ss_cons (WS.of (ps_set hN hi hx pWE hs hf) (h σ B H sd _ fun v B' H' sb sh sd' hv => k.go sb (sd'.set hv hl) n r bk ct ex))⟩
/-- a target of any form -/
theorem S.asgG {tg : Expr} {vs : List Nat} (h : EB X ρ e d) (hg : G X tg ρ d vs fun ρ' => S X rest ρ' P) (hs : swapsWithSole [tg] e pos.line X.env = pure false := by rfl) (hw : swappedStores [tg] e X.env = pure none := by rfl) (h1 : (assignEach [tg] X.env).map (·.2) = [assign tg X.env] := by rfl) : S X (.Assign [tg] e pos :: rest) ρ P := ⟨fun σ B H D sd n r bk ct ex =>
  ss_cons (WS.of (ps_asg pWE pWG hs hw h1) (h σ B H sd _ fun v B' H' sb sh sd' hv => hg σ B' H' v sd' hv _ fun σ' ρ' sd2 _ _ q => q.go sb sd2 n r bk ct ex))⟩
theorem S.asg {x : Str} {pos' : Pos} (i : Nat) (h : E X ρ e d) (n : (noL d || noOwn ρ) = true) (k : S X rest (ρ.set i (.dat d)) P) (hN : X.N.Nodup) (hl : i < ρ.length := by exact Nat.le_of_ble_eq_true rfl) (hi : X.N[i]? = some x := by rfl) (hx : Loc X.env.scope x := by first | exact Or.inl rfl | exact Or.inr rfl)
    (hs : swapsWith e (some (.Name x pos')) pos.line X.env = pure false := by rfl) (hf : X.fn x = true ∨ X.env.scope.names.lookup x = some .local := by first | exact .inl rfl | exact .inr rfl | assumption) : S X (.Assign [.Name x pos'] e pos :: rest) ρ P := S.asgB i (h.eb n) k hN hl hi hx hs hf
theorem Owned.has {K : PySem.W.Frag} {B H : Hp} {σ : St} {ρ : Rho} {l : Addr} (s : SD K B H σ ρ) (h : Owned σ ρ l) : B l = none ∧ ∃ o, H l = some o := by
  obtain ⟨i, t, h4, h5, h6⟩ := h
  obtain ⟨v, h7, h8⟩ := s.has i t h4 (by intro z; subst z; cases h5)
  rw [h6] at h7
  cases h7
  refine ⟨h8.own h5, ?_⟩
  cases t with
  | non => cases h5
  | dat d => cases h5
  | val u => cases h5
  | lst ds => obtain ⟨l, vs, a, b, c, d⟩ := h8; cases a; exact ⟨_, c⟩
  | dic kvs => obtain ⟨l, a, b, c⟩ := h8; cases a; exact ⟨_, c⟩
  | dik kvs => obtain ⟨l, a, b, c⟩ := h8; cases a; exact ⟨_, c⟩
theorem new_not_own {K : PySem.W.Frag} {B H B' : Hp} {σ : St} {ρ : Rho} {l : Addr} (s : SD K B H σ ρ) (s1 : Same H B') (h : B' l = none) : ¬ Owned σ ρ l := fun o => by
  obtain ⟨_, o, z⟩ := o.has s
  rw [s1 _ _ z] at h
  cases h
/-- what is new is owned from here on -/
def slFlat : Sl → Bool
  | .lst ds => noL.noLs ds
  | _ => true
theorem HasS.flat {K : PySem.W.Frag} {B H B' H' : Hp} {σ : St} {ρ : Rho} {v : V} {s : Sl} (sd : SD K B H σ ρ) (s1 : Same H B') (s2 : Same B' H') (h : HasS K B' H' v s) (o : s.isOwn = true) (f : slFlat s = true) :
    ∃ l, v = .ref l ∧ ¬ Owned σ ρ l ∧ HasS K (fun a => if a = l then none else bas σ ρ H' a) H' v s ∧ SD K (fun a => if a = l then none else bas σ ρ H' a) H' σ ρ ∧ Same B (fun a => if a = l then none else bas σ ρ H' a) := by
  have sd' := sd.mono (s1.trans s2)
  have key : ∀ l, B' l = none → ∀ o, H' l = some o → (∀ (xs : List V), o ≠ .tup xs) → (∀ o' (xs : List V), o ≠ .frz o' (.tup xs)) → ¬ Owned σ ρ l ∧ SD K (fun a => if a = l then none else bas σ ρ H' a) H' σ ρ ∧ Same B (fun a => if a = l then none else bas σ ρ H' a) := fun l hb o ho _ _ => by
    have no := new_not_own sd s1 hb
    have hB : ∀ a o, B a = some o → a ≠ l := fun a o e z => by
      subst z
      rw [s1 _ _ (sd.sub _ _ e)] at hb
      cases hb
    refine ⟨no, ⟨fun a o e => ?_, sd'.len, fun i s a b => ?_, sd'.apart⟩, fun a o e => ?_⟩
    · have e : (if a = l then none else bas σ ρ H' a) = some o := e
      split at e
      · cases e
      · exact base_sub a o e
    · obtain ⟨w, c, d⟩ := sd.has i s a b
      refine ⟨w, c, (d.mono (s1.trans s2)).up (fun a o e => ?_) fun m z1 z2 => ?_⟩
      · show (if a = l then none else bas σ ρ H' a) = some o
        rw [if_neg (hB a o e)]
        exact sd'.base a o e
      · subst z1
        show (if m = l then none else bas σ ρ H' m) = none
        split
        · rfl
        · exact base_own ⟨i, s, a, z2, c⟩
    · show (if a = l then none else bas σ ρ H' a) = some o
      rw [if_neg (hB a o e)]
      exact sd'.base a o e
  cases s with
  | non => cases o
  | dat d => cases o
  | val u => cases o
  | lst ds =>
    obtain ⟨l, vs, rfl, hb, hl, hd⟩ := h
    obtain ⟨k1, k2, k3⟩ := key l hb _ hl (by intro xs z; cases z) (by intro o xs z; cases z)
    refine ⟨l, rfl, k1, ⟨l, vs, rfl, by simp, hl, ?_⟩, k2, k3⟩
    exact dpAll_del (base_some k1 hl) (DpAll.to_base sd' (DpAll.mono s2 hd) f) f
  | dic kvs =>
    obtain ⟨l, rfl, hb, hl⟩ := h
    obtain ⟨k1, k2, k3⟩ := key l hb _ hl (by intro xs z; cases z) (by intro o xs z; cases z)
    exact ⟨l, rfl, k1, ⟨l, rfl, by simp, hl⟩, k2, k3⟩
  | dik kvs =>
    obtain ⟨l, rfl, hb, hl⟩ := h
    obtain ⟨k1, k2, k3⟩ := key l hb _ hl (by intro xs z; cases z) (by intro o xs z; cases z)
    exact ⟨l, rfl, k1, ⟨l, rfl, by simp, hl⟩, k2, k3⟩
theorem S.asgO {x : Str} {pos' : Pos} {s : Sl} (i : Nat) (h : ES X ρ e s) (o : s.isOwn = true) (f : slFlat s = true) (k : S X rest (ρ.set i s) P) (hN : X.N.Nodup) (hl : i < ρ.length := by exact Nat.le_of_ble_eq_true rfl) (hi : X.N[i]? = some x := by rfl) (hx : Loc X.env.scope x := by first | exact Or.inl rfl | exact Or.inr rfl)
    (hs : swapsWith e (some (.Name x pos')) pos.line X.env = pure false := by rfl) (hf : X.fn x = true ∨ X.env.scope.names.lookup x = some .local := by first | exact .inl rfl | exact .inr rfl | assumption) : S X (.Assign [.Name x pos'] e pos :: rest) ρ P := ⟨fun σ B H D sd n r bk ct ex =>
  ss_cons (WS.of (ps_set hN hi hx pWE hs hf) (h σ B H sd _ fun v B' H' s1 s2 hv => by
    obtain ⟨l, rfl, h1, h2, h3, h4⟩ := hv.flat sd s1 s2 o f
    exact k.go h4 (h3.setO h2 o h1 hl) n r bk ct ex))⟩
end
end NF
/-! Loops, comprehensions, own lists, contracts. -/
namespace NF
open PySem PySem.Spec PyProof.Rows L2

/-- an iterator that yields this data, while B stands -/
structure JD (K : PySem.W.Frag) (J : It) (B : Hp) (ds : List PD) : Prop where
  go : ∀ i H, Same B H → i < ds.length → J.go i H
  stop : ∀ i H, Same B H → ds.length ≤ i → J.stop i H
  yld : ∀ i H x H', Same B H → i < ds.length → J.yld i H x H' → ∃ d, ds[i]? = some d ∧ ((H' = H ∧ Dp K B x d) ∨ ∃ p xs es, x = .ref p ∧ H p = none ∧ H' = upd H p (.tup xs) ∧ d = .tuple es ∧ DpAll K B xs es)
def IT (X : Cx) (ρ : Rho) (tg iter : Expr) (ds : List PD) : Prop := ∃ wi, PI X tg iter wi ∧ ∀ σ B H, SD X.K B H σ ρ → ∀ R : It → Hp → Prop, (∀ J B' H', Same B B' → Same H H' → SD X.K B' H' σ ρ → JD X.K J B' ds → R J H') → wi σ H R
theorem SD.newTup {K : PySem.W.Frag} {B H : Hp} {σ : St} {ρ : Rho} {p : Addr} {xs : List V} (s : SD K B H σ ρ) (hp : H p = none) : SD K (upd B p (.tup xs)) (upd H p (.tup xs)) σ ρ where
  sub := fun a o e => by
    by_cases z : a = p
    · subst z; rw [upd_same] at e ⊢; exact e
    · rw [upd_ne z] at e ⊢; exact s.sub a o e
  len := s.len
  has := fun i t a b => by
    obtain ⟨v, c, d⟩ := s.has i t a b
    have hB : B p = none := by
      cases z : B p with
      | none => rfl
      | some o => rw [s.sub _ _ z] at hp; cases hp
    refine ⟨v, c, ((d.mono (Same.new hp)).up (Same.new hB)) fun l z1 z2 => ?_⟩
    subst z1
    have : l ≠ p := fun z => by
      subst z
      obtain ⟨_, o, z⟩ := Owned.has s ⟨i, t, a, z2, c⟩
      rw [hp] at z
      cases z
    rw [upd_ne this]
    exact d.own z2
  apart := s.apart
theorem JD.next {K : PySem.W.Frag} {J : It} {B0 B H H' : Hp} {ds : List PD} {σ : St} {ρ : Rho} {i : Nat} {x : V} (j : JD K J B0 ds) (sb : Same B0 B) (s : SD K B H σ ρ) (hi : i < ds.length) (y : J.yld i H x H') :
    ∃ d B', ds[i]? = some d ∧ Same B B' ∧ SD K B' H' σ ρ ∧ Dp K B' x d ∧ (∀ a o, H a = some o → H' a = some o) ∧ (∀ a o, B a = none → H a = some o → B' a = none) := by
  obtain ⟨d, hd, h⟩ := j.yld i H x H' (sb.trans s.sub) hi y
  rcases h with ⟨rfl, h⟩ | ⟨p, xs, es, rfl, hp, rfl, rfl, h⟩
  · exact ⟨d, B, hd, Same.refl B, s, Dp.mono sb h, fun _ _ z => z, fun _ _ z _ => z⟩
  · have hB : B p = none := by
      cases z : B p with
      | none => rfl
      | some o => rw [s.sub _ _ z] at hp; cases hp
    exact ⟨_, upd B p (.tup xs), hd, Same.new hB, s.newTup hp, dp_tup upd_same (DpAll.mono (sb.trans (Same.new hB)) h), Same.new hp, fun a o z y2 => by
      have : a ≠ p := fun w => by rw [w, hp] at y2; cases y2
      rw [upd_ne this]; exact z⟩
section
variable {X : Cx} {ρ : Rho} {tg iter e a b c : Expr} {d : PD} {ds : List PD} {pos : Pos} {P : Post} {rest : List Stmt}
theorem IT.list (h : EB X ρ iter (.list ds)) : IT X ρ tg iter ds := ⟨_, pi_list pWE, fun σ B H s R r => h σ B H s _ fun v B' H' sb sh s' hv => by
  obtain ⟨a, xs, rfl, h1, h2⟩ := hv.inv_list
  refine ⟨a, rfl, ⟨xs, s'.sub.seq h1⟩, r _ B' H' sb sh s' ⟨fun i H2 s2 hi => ?_, fun i H2 s2 hi => ?_, fun i H2 x H3 s2 _ hy => ?_⟩⟩
  · rw [← h2.length] at hi
    exact ⟨xs, xs[i], s2.seq h1, by simp [hi]⟩
  · exact ⟨xs, s2.seq h1, by rw [h2.length]; exact hi⟩
  · obtain ⟨e, y⟩ := hy
    obtain ⟨d, hd, hx⟩ := h2.get (y xs (s2.seq h1))
    exact ⟨d, hd, .inl ⟨e, hx⟩⟩⟩
theorem IT.tup (h : EB X ρ iter (.tuple ds)) : IT X ρ tg iter ds := ⟨_, pi_tup pWE, fun σ B H s R r => h σ B H s _ fun v B' H' sb sh s' hv => by
  obtain ⟨a, xs, rfl, h1, h2⟩ := hv.inv_tup
  refine ⟨a, rfl, ⟨xs, s'.sub.sqt h1⟩, r _ B' H' sb sh s' ⟨fun i H2 s2 hi => ?_, fun i H2 s2 hi => ?_, fun i H2 x H3 s2 _ hy => ?_⟩⟩
  · rw [← h2.length] at hi
    exact ⟨xs, xs[i], s2.sqt h1, by simp [hi]⟩
  · exact ⟨xs, s2.sqt h1, by rw [h2.length]; exact hi⟩
  · obtain ⟨e, y⟩ := hy
    obtain ⟨d, hd, hx⟩ := h2.get (y xs (s2.sqt h1))
    exact ⟨d, hd, .inl ⟨e, hx⟩⟩⟩
theorem DpAll.one {K : PySem.W.Frag} {H : Hp} {vs : List V} {d : PD} (h : DpAll K H vs [d]) : ∃ v, vs = [v] ∧ Dp K H v d := by
  cases h with
  | cons h1 h2 => cases h2; exact ⟨_, rfl, h1⟩
theorem DpAll.two {K : PySem.W.Frag} {H : Hp} {vs : List V} {d d' : PD} (h : DpAll K H vs [d, d']) : ∃ v w, vs = [v, w] ∧ Dp K H v d ∧ Dp K H w d' := by
  cases h with
  | cons h1 h2 =>
    obtain ⟨w, rfl, h3⟩ := DpAll.one h2
    exact ⟨_, _, rfl, h1, h3⟩
theorem JD.range {K : PySem.W.Frag} {B : Hp} (lo : Int) (n : Nat) : JD K (Itr lo n) B ((List.range n).map fun (i : Nat) => PyData.int (lo + (i : Int))) :=
  ⟨fun i H _ hi => by rw [List.length_map, List.length_range] at hi; exact hi, fun i H _ hi => by rw [List.length_map, List.length_range] at hi; exact hi, fun i H x H' s hi y => by
    obtain ⟨rfl, rfl⟩ := y
    rw [List.length_map, List.length_range] at hi
    exact ⟨_, by rw [List.getElem?_map, List.getElem?_range hi] <;> rfl, .inl ⟨rfl, .int _⟩⟩⟩
theorem pA1 {X : Cx} {e : Expr} (hs : starEach [e] X.env = [(false, eval e X.env)]) : PA X [e] (tCons (WE X e) tNil) := pa_cons pWE pa_nil (by rw [hs]; rfl)
theorem pA2 {X : Cx} {e e2 : Expr} (hs : starEach [e, e2] X.env = [(false, eval e X.env), (false, eval e2 X.env)]) (hs2 : starEach [e2] X.env = [(false, eval e2 X.env)]) : PA X [e, e2] (tCons (WE X e) (tCons (WE X e2) tNil)) := pa_cons pWE (pA1 hs2) (by rw [hs, hs2])
/-- the numbers of range(n) -/
def rng (lo n : Int) : List Int := (List.range (n - lo).toNat).map fun (i : Nat) => lo + (i : Int)
theorem IT.range1 {n : Int} {p : Pos} (h : E X ρ e (.int n)) (hm : X.mg "range" = none) (hn : n < 2 ^ 62 := by omega) (hn2 : -(2 ^ 62) ≤ n := by omega) (hg : Gl X "range" := by rfl) (hs : starEach [e] X.env = [(false, eval e X.env)] := by rfl) : IT X ρ tg (.Call (.Name "range" p) [e] [] pos) ((rng 0 n).map PyData.int) :=
  ⟨_, pi_range1 hg hm (pA1 hs) hs, fun σ B H s R r => h σ B H s H (Same.refl H) _ fun v H' s1 hv => by
    refine ⟨n, by rw [hv.inv_int], hn2, hn, ?_⟩
    have := JD.range (K := X.K) (B := B) 0 n.toNat
    refine r _ B H' (Same.refl B) s1 (s.mono s1) ?_
    unfold rng
    rw [List.map_map, Int.sub_zero]
    exact this⟩
theorem IT.range2 {lo n : Int} {e2 : Expr} {p : Pos} (h : E X ρ e (.int lo)) (h2 : E X ρ e2 (.int n)) (hm : X.mg "range" = none) (hl : -(2 ^ 62) ≤ lo ∧ lo < 2 ^ 62 := by omega) (hn : -(2 ^ 62) ≤ n ∧ n < 2 ^ 62 := by omega) (hg : Gl X "range" := by rfl)
    (hs : starEach [e, e2] X.env = [(false, eval e X.env), (false, eval e2 X.env)] := by rfl) (hs2 : starEach [e2] X.env = [(false, eval e2 X.env)] := by rfl) : IT X ρ tg (.Call (.Name "range" p) [e, e2] [] pos) ((rng lo n).map PyData.int) :=
  ⟨_, pi_range2 hg hm (pA2 hs hs2) hs hs2, fun σ B H s R r => h σ B H s H (Same.refl H) _ fun v H' s1 hv => h2 σ B H' (s.mono s1) H' (Same.refl H') _ fun v2 H2 s2 hv2 => by
    refine ⟨lo, n, by rw [hv.inv_int, hv2.inv_int], ⟨hl.1, hl.2, hn.1, hn.2⟩, ?_⟩
    have := JD.range (K := X.K) (B := B) lo (n - lo).toNat
    refine r _ B H2 (Same.refl B) (s1.trans s2) ((s.mono s1).mono s2) ?_
    unfold rng
    rw [List.map_map]
    exact this⟩
def enumD (ds : List PD) : List PD := ds.zipIdx.map fun p => .tuple [.int (p.2 : Int), p.1]
theorem IT.enum {elts : List Expr} {kk : Nat} {p tpos : Pos} (h : EB X ρ e (.list ds)) (hm : X.mg "enumerate" = none) (hg : Gl X "enumerate" := by rfl) (hs : starEach [e] X.env = [(false, eval e X.env)] := by rfl) : IT X ρ (.Tuple elts kk tpos) (.Call (.Name "enumerate" p) [e] [] pos) (enumD ds) :=
  ⟨_, pi_enum hg hm (pA1 hs) hs, fun σ B H s R r => h σ B H s _ fun v B' H' sb sh s' hv => by
    obtain ⟨a, xs, rfl, h1, h2⟩ := hv.inv_list
    have hl : (enumD ds).length = xs.length := by simp [enumD, h2.length]
    refine ⟨a, xs, rfl, s'.sub.seq h1, r _ B' H' sb sh s' ⟨fun i H2 s2 hi => ?_, fun i H2 s2 hi => ?_, fun i H2 x H3 s2 _ hy => ?_⟩⟩
    · rw [hl] at hi
      exact ⟨xs, xs[i], s2.seq h1, by simp [hi]⟩
    · exact ⟨xs, s2.seq h1, by rw [← hl]; exact hi⟩
    · obtain ⟨p, y, rfl, hp, rfl, hy⟩ := hy
      obtain ⟨d, hd, hx⟩ := h2.get (hy xs (s2.seq h1))
      refine ⟨_, ?_, .inr ⟨p, _, _, rfl, hp, rfl, rfl, .cons (.int _) (.cons hx .nil)⟩⟩
      simp [enumD, hd]⟩
theorem IT.zipL {elts : List Expr} {kk : Nat} {e2 : Expr} {ds2 : List PD} {p tpos : Pos} (h : EB X ρ e (.list ds)) (hz : EB X ρ e2 (.list ds2)) (hm : X.mg "zip" = none) (hg : Gl X "zip" := by rfl)
    (hs : starEach [e, e2] X.env = (false, eval e X.env) :: starEach [e2] X.env := by rfl) (hpl : (backTo pos (starEach [e2] X.env)).any (·.1) = false := by rfl) (hs2 : starEach [e2] X.env = [(false, eval e2 X.env)] := by rfl) : IT X ρ (.Tuple elts kk tpos) (.Call (.Name "zip" p) [e, e2] [] pos) (List.zipWith (fun a b => .tuple [a, b]) ds ds2) :=
  ⟨_, pi_zip hg hm (pA2 (by rw [hs, hs2]) hs2) hs hpl, fun σ B H s R r => h σ B H s _ fun v B1 H1 sb1 sh1 s1 hv => hz σ B1 H1 s1 _ fun v2 B' H' sb sh s' hv2 => by
    obtain ⟨a, xs, rfl, h1, h2⟩ := (Dp.mono sb hv).inv_list
    obtain ⟨a2, ys, rfl, h3, h4⟩ := hv2.inv_list
    refine ⟨a, a2, xs, ys, rfl, s'.sub.seq h1, s'.sub.seq h3, r _ B' H' (sb1.trans sb) (sh1.trans sh) s' ⟨fun i H2 s2 hi => ?_, fun i H2 s2 hi => ?_, fun i H2 x H3 s2 _ hy => ?_⟩⟩
    · rw [List.length_zipWith] at hi
      have i1 : i < xs.length := by rw [h2.length]; omega
      have i2 : i < ys.length := by rw [h4.length]; omega
      exact ⟨xs, ys, xs[i], ys[i], s2.seq h1, s2.seq h3, by simp [i1], by simp [i2]⟩
    · rw [List.length_zipWith] at hi
      refine ⟨xs, ys, s2.seq h1, s2.seq h3, ?_⟩
      rw [h2.length, h4.length]
      omega
    · obtain ⟨p, x, y, rfl, hp, rfl, hx, hy⟩ := hy
      obtain ⟨d, hd, dx⟩ := h2.get (hx xs (s2.seq h1))
      obtain ⟨d', hd', dy⟩ := h4.get (hy ys (s2.seq h3))
      refine ⟨_, ?_, .inr ⟨p, _, _, rfl, hp, rfl, rfl, .cons dx (.cons dy .nil)⟩⟩
      rw [List.getElem?_zipWith, hd, hd']⟩
theorem IT.zipT {elts : List Expr} {kk : Nat} {e2 : Expr} {ds2 : List PD} {p tpos : Pos} (h : EB X ρ e (.tuple ds)) (hz : EB X ρ e2 (.tuple ds2)) (hm : X.mg "zip" = none) (hg : Gl X "zip" := by rfl)
    (hs : starEach [e, e2] X.env = (false, eval e X.env) :: starEach [e2] X.env := by rfl) (hpl : (backTo pos (starEach [e2] X.env)).any (·.1) = false := by rfl) (hs2 : starEach [e2] X.env = [(false, eval e2 X.env)] := by rfl) : IT X ρ (.Tuple elts kk tpos) (.Call (.Name "zip" p) [e, e2] [] pos) (List.zipWith (fun a b => .tuple [a, b]) ds ds2) :=
  ⟨_, RZ.pi_zipA hg hm (pA2 (by rw [hs, hs2]) hs2) hs hpl, fun σ B H s R r => h σ B H s _ fun v B1 H1 sb1 sh1 s1 hv => hz σ B1 H1 s1 _ fun v2 B' H' sb sh s' hv2 => by
    obtain ⟨a, xs, rfl, h1, h2⟩ := (Dp.mono sb hv).inv_tup
    obtain ⟨a2, ys, rfl, h3, h4⟩ := hv2.inv_tup
    refine ⟨a, a2, xs, ys, rfl, .inr ⟨s'.sub.sqt h1, s'.sub.sqt h3, r _ B' H' (sb1.trans sb) (sh1.trans sh) s' ⟨fun i H2 s2 hi => ?_, fun i H2 s2 hi => ?_, fun i H2 x H3 s2 _ hy => ?_⟩⟩⟩
    · rw [List.length_zipWith] at hi
      have i1 : i < xs.length := by rw [h2.length]; omega
      have i2 : i < ys.length := by rw [h4.length]; omega
      exact ⟨xs, ys, xs[i], ys[i], s2.sqt h1, s2.sqt h3, by simp [i1], by simp [i2]⟩
    · rw [List.length_zipWith] at hi
      refine ⟨xs, ys, s2.sqt h1, s2.sqt h3, ?_⟩
      rw [h2.length, h4.length]
      omega
    · obtain ⟨p, x, y, rfl, hp, rfl, hx, hy⟩ := hy
      obtain ⟨d, hd, dx⟩ := h2.get (hx xs (s2.sqt h1))
      obtain ⟨d', hd', dy⟩ := h4.get (hy ys (s2.sqt h3))
      refine ⟨_, ?_, .inr ⟨p, _, _, rfl, hp, rfl, rfl, .cons dx (.cons dy .nil)⟩⟩
      rw [List.getElem?_zipWith, hd, hd']⟩
theorem IT.rev {p : Pos} (h : EB X ρ e (.list ds)) (hm : X.mg "reversed" = none) (hg : Gl X "reversed" := by rfl) (hs : starEach [e] X.env = [(false, eval e X.env)] := by rfl) : IT X ρ tg (.Call (.Name "reversed" p) [e] [] pos) ds.reverse :=
  ⟨_, pi_reversed hg hm (pA1 hs) hs, fun σ B H s R r => h σ B H s _ fun v B' H' sb sh s' hv => by
    obtain ⟨a, xs, rfl, h1, h2⟩ := hv.inv_list
    have hl : ds.reverse.length = xs.length := by rw [List.length_reverse, h2.length]
    refine ⟨a, xs, rfl, s'.sub.seq h1, r _ B' H' sb sh s' ⟨fun i H2 s2 hi => ?_, fun i H2 s2 hi => ?_, fun i H2 x H3 s2 hi hy => ?_⟩⟩
    · rw [hl] at hi
      exact ⟨hi, xs, xs[xs.length - 1 - i], s2.seq h1, by rw [List.getElem?_eq_getElem]⟩
    · rw [hl] at hi; exact hi
    · obtain ⟨rfl, hy⟩ := hy
      obtain ⟨d, hd, dx⟩ := h2.get (hy xs (s2.seq h1))
      refine ⟨d, ?_, .inl ⟨rfl, dx⟩⟩
      rw [hl, h2.length] at hi
      rw [List.getElem?_reverse hi, ← h2.length]
      exact hd⟩

/-! for, while -/
theorem S.for {tg iter : Expr} {body : List Stmt} (vs : List Nat) (I : Nat → Rho → Prop) (h : IT X ρ tg iter ds) (h0 : I 0 ρ)
    (hb : ∀ i d ρ', ds[i]? = some d → I i ρ' → G X tg ρ' d vs fun ρ'' => S X body ρ'' { nx := I (i + 1), rt := P.rt, bk := fun ρ => S X rest ρ P, ct := I (i + 1), ex := P.ex }) (he : ∀ ρ', I ds.length ρ' → S X rest ρ' P)
    (hp : PassesOwn (model X.prog X.w) X.A X.env X.xe := by exact PassesOwn.never) (hc : X.calm = true := by rfl) (hs : ∀ x, foldedSetIterable iter X.env x = pure x := by intro _; rfl) : S X (.For tg iter body [] pos :: rest) ρ P := ⟨fun σ B H D sd n r bk ct ex => by
  obtain ⟨wi, pi, hw⟩ := h
  refine ss_cons (WS.of (ps_for hp hc pi pWG pWSs hs) (hw σ B H sd _ fun J B1 H1 sb1 _ sd1 j => ?_))
  refine ⟨fun i m σ' H' => m = ds.length - i ∧ i ≤ ds.length ∧ ∃ B' ρ', Same B1 B' ∧ SD X.K B' H' σ' ρ' ∧ I i ρ', ⟨ds.length, rfl, Nat.zero_le _, B1, ρ, Same.refl B1, sd1, h0⟩, ?_⟩
  rintro i m σ' H' ⟨rfl, hi, B', ρ', sb', sd', hI⟩
  by_cases hlt : i < ds.length
  · refine .inr ⟨j.go i H' (sb'.trans sd'.sub) hlt, fun σ2 H2 => ∃ B2 ρ2, Same B' B2 ∧ SD X.K B2 H2 σ2 ρ2 ∧ I (i + 1) ρ2, fun σ2 H2 ⟨B2, ρ2, a1, a2, a3⟩ => ⟨ds.length - (i + 1), by omega, rfl, hlt, B2, ρ2, sb'.trans a1, a2, a3⟩, fun x H2 y => ?_⟩
    obtain ⟨d, B2, hd, sb2, sd2, hx, _, _⟩ := j.next sb' sd' hlt y
    refine hb i d ρ' hd hI σ' B2 H2 x sd2 hx _ fun σ3 ρ3 sd3 _ _ q => ?_
    refine q σ3 B2 H2 _ sd3 (fun σ4 B4 H4 ρ4 b1 b2 b3 => ⟨B4, ρ4, sb2.trans b1, b2, b3⟩) (fun v B4 H4 s b1 b2 b3 b4 => r v B4 H4 s (sb1.trans (sb'.trans (sb2.trans b1))) b2 b3 b4) (fun σ4 B4 H4 ρ4 b1 b2 b3 => ?_) (fun σ4 B4 H4 ρ4 b1 b2 b3 => ⟨B4, ρ4, sb2.trans b1, b2, b3⟩) (ex.mono (sb1.trans (sb'.trans sb2)))
    exact b3.go (sb1.trans (sb'.trans (sb2.trans b1))) b2 n r bk ct ex
  · have e : i = ds.length := by omega
    subst e
    exact .inl ⟨j.stop _ H' (sb'.trans sd'.sub) (Nat.le_refl _), (he ρ' hI).go (sb1.trans sb') sd' n r bk ct ex⟩⟩
theorem S.while {body : List Stmt} (W : Nat → Rho → Prop) (m0 : Nat) (h0 : W m0 ρ)
    (hs : ∀ m ρ', W m ρ' → ∃ b, T X ρ' c b ∧ (b = true → S X body ρ' { nx := fun ρ'' => ∃ m', m' < m ∧ W m' ρ'', rt := P.rt, bk := fun ρ => S X rest ρ P, ct := fun ρ'' => ∃ m', m' < m ∧ W m' ρ'', ex := P.ex }) ∧ (b = false → S X rest ρ' P))
    (hp : PassesOwn (model X.prog X.w) X.A X.env X.xe := by exact PassesOwn.never) : S X (.While c body [] pos :: rest) ρ P := ⟨fun σ B H D sd n r bk ct ex => by
  refine ss_cons (WS.of (ps_while hp pWT pWSs) ?_)
  refine ⟨fun m σ' H' => ∃ B' ρ', Same B B' ∧ SD X.K B' H' σ' ρ' ∧ W m ρ', ⟨m0, B, ρ, Same.refl B, sd, h0⟩, ?_⟩
  rintro m σ' H' ⟨B', ρ', sb', sd', hW⟩
  obtain ⟨b, ht, h1, h2⟩ := hs m ρ' hW
  refine ht σ' B' H' sd' H' (Same.refl H') _ fun H2 s2 => ?_
  cases b with
  | true =>
    rw [if_pos rfl]
    refine ⟨fun σ2 H3 => ∃ m', m' < m ∧ ∃ B2 ρ2, Same B' B2 ∧ SD X.K B2 H3 σ2 ρ2 ∧ W m' ρ2, fun σ2 H3 ⟨m', a0, B2, ρ2, a1, a2, a3⟩ => ⟨m', a0, B2, ρ2, sb'.trans a1, a2, a3⟩, ?_⟩
    exact h1 rfl σ' B' H2 _ (sd'.mono s2) (fun σ4 B4 H4 ρ4 b1 b2 ⟨m', b3, b4⟩ => ⟨m', b3, B4, ρ4, b1, b2, b4⟩) (fun v B4 H4 s b1 b2 b3 b4 => r v B4 H4 s (sb'.trans b1) b2 b3 b4) (fun σ4 B4 H4 ρ4 b1 b2 b3 => b3.go (sb'.trans b1) b2 n r bk ct ex) (fun σ4 B4 H4 ρ4 b1 b2 ⟨m', b3, b4⟩ => ⟨m', b3, B4, ρ4, b1, b2, b4⟩) (ex.mono sb')
  | false =>
    rw [if_neg (by decide)]
    exact (h2 rfl).go sb' (sd'.mono s2) n r bk ct ex⟩
theorem S.pass (h : S X rest ρ P) : S X (.Pass pos :: rest) ρ P := ⟨fun σ B H D sd n r bk ct ex => ss_cons (WS.of ps_pass (h.go (Same.refl B) sd n r bk ct ex))⟩
theorem S.cont (h : P.ct ρ) : S X (.Continue pos :: rest) ρ P := ⟨fun σ B H D sd n r bk ct ex => ss_cons (WS.of ps_continue (ct σ B H ρ (Same.refl B) sd h))⟩
theorem S.brk (h : P.bk ρ) : S X (.Break pos :: rest) ρ P := ⟨fun σ B H D sd n r bk ct ex => ss_cons (WS.of ps_break (bk σ B H ρ (Same.refl B) sd h))⟩
/-- a list that isn't changed any more -/
theorem S.freeze {sts : List Stmt} (i : Nat) (k : S X sts (ρ.set i (.dat (.list ds))) P) (h : ρ[i]? = some (.lst ds) := by rfl) : S X sts ρ P := ⟨fun σ B H D sd n r bk ct ex => by
  obtain ⟨B', sb, sd'⟩ := sd.freeze h
  exact k.go sb sd' n r bk ct ex⟩
theorem S.forget {sts : List Stmt} (i : Nat) (k : S X sts (ρ.set i .non) P) (hi : i < ρ.length := by exact Nat.le_of_ble_eq_true rfl) : S X sts ρ P := ⟨fun σ B H D sd n r bk ct ex => by
  have := sd.forget (o := (σ[i]?).getD none) hi
  have e : σ.set i ((σ[i]?).getD none) = σ := by
    apply List.ext_getElem?
    intro j
    by_cases z : i = j
    · subst z
      have hj : i < σ.length := by rw [sd.len]; exact hi
      rw [List.getElem?_set_self hj, List.getElem?_eq_getElem hj] <;> rfl
    · rw [List.getElem?_set_ne z]
  rw [e] at this
  exact k.go (Same.refl B) this n r bk ct ex⟩
end
end NF
/-! Comprehensions, own lists, contracts. -/
namespace NF
open PySem PySem.Spec PyProof.Rows L2

theorem of_all {n : Nat} {l : List Nat} (h : (l.all fun v => Nat.ble (v + 1) n) = true) (v : Nat) (hv : v ∈ l) : v < n := Nat.le_of_ble_eq_true (List.all_eq_true.mp h v hv)
def wipeR (ρ : Rho) : List Nat → Rho
  | [] => ρ
  | v :: vs => (wipeR ρ vs).set v .non
theorem wipeR_length (ρ : Rho) : ∀ vs : List Nat, (wipeR ρ vs).length = ρ.length
  | [] => rfl
  | v :: vs => by unfold wipeR; rw [List.length_set, wipeR_length ρ vs]
theorem SD.wipe {K : PySem.W.Frag} {B H : Hp} {σ : St} {ρ : Rho} (h : SD K B H σ ρ) : ∀ vs : List Nat, (∀ v ∈ vs, v < ρ.length) → SD K B H (L2.wipe σ vs) (wipeR ρ vs)
  | [], _ => h
  | v :: vs, hv => by
    unfold L2.wipe wipeR
    exact (SD.wipe h vs fun w hw => hv w (List.mem_cons_of_mem _ hw)).forget (by rw [wipeR_length]; exact hv v List.mem_cons_self)
theorem wipe_get {σ : St} {j : Nat} : ∀ {vs : List Nat}, (L2.wipe σ vs)[j]? = if j ∈ vs ∧ j < σ.length then some none else σ[j]?
  | [] => by simp [L2.wipe]
  | v :: vs => by
    unfold L2.wipe
    by_cases h : v = j
    · subst h
      by_cases hl : v < σ.length
      · rw [List.getElem?_set_self (by rw [wipe_length]; exact hl), if_pos ⟨List.mem_cons_self, hl⟩]
      · have h1 : (List.set (L2.wipe σ vs) v none).length ≤ v := by rw [List.length_set, wipe_length]; omega
        have h2 : σ.length ≤ v := by omega
        rw [if_neg (fun z => hl z.2), List.getElem?_eq_none h1, List.getElem?_eq_none h2]
    · rw [List.getElem?_set_ne h, wipe_get (vs := vs)]
      have : (j ∈ v :: vs) ↔ j ∈ vs := by simp [Ne.symm h]
      simp only [this]
theorem wipe_eq {σ σ' : St} {vs : List Nat} (hl : σ'.length = σ.length) (h : ∀ j, j ∉ vs → σ'[j]? = σ[j]?) : L2.wipe σ' vs = L2.wipe σ vs := by
  apply List.ext_getElem?
  intro j
  rw [wipe_get, wipe_get, hl]
  by_cases z : j ∈ vs
  · by_cases l : j < σ.length
    · rw [if_pos ⟨z, l⟩, if_pos ⟨z, l⟩]
    · rw [if_neg (fun y => l y.2), if_neg (fun y => l y.2), List.getElem?_eq_none (by omega), List.getElem?_eq_none (by omega)]
  · rw [if_neg (fun y => z y.1), if_neg (fun y => z y.1), h j z]
theorem wipe_wipe {σ : St} {vs : List Nat} : L2.wipe (L2.wipe σ vs) vs = L2.wipe σ vs := by
  apply List.ext_getElem?
  intro j
  rw [wipe_get, wipe_get, wipe_length]
  by_cases z : j ∈ vs ∧ j < σ.length
  · rw [if_pos z, if_pos z]
  · rw [if_neg z, if_neg z]
/-- the tests of a comprehension -/
structure Ts (X : Cx) (ρ : Rho) (ifs : List Expr) (b : Bool) : Prop where
  run : ∀ σ B H, SD X.K B H σ ρ → ∀ Q : Bool → Hp → Prop, (∀ H', Same H H' → Q b H') → ∃ t, PTs X ifs t ∧ t σ H Q
instance {X : Cx} {ρ : Rho} {ifs : List Expr} {b : Bool} : CoeFun (Ts X ρ ifs b) (fun _ => ∀ σ B H, SD X.K B H σ ρ → ∀ Q : Bool → Hp → Prop, (∀ H', Same H H' → Q b H') → ∃ t, PTs X ifs t ∧ t σ H Q) := ⟨fun h => h.run⟩
theorem Ts.nil {X : Cx} {ρ : Rho} : Ts X ρ [] true := ⟨fun σ B H s Q q => ⟨_, pts_nil, q H (Same.refl H)⟩⟩
theorem Ts.one {X : Cx} {ρ : Rho} {c : Expr} {b : Bool} (h : T X ρ c b) : Ts X ρ [c] b := ⟨fun σ B H s Q q => ⟨_, pts_one pWT, h σ B H s H (Same.refl H) Q q⟩⟩
/-- the block of a comprehension -/
abbrev bk (X : Cx) (scope : Scope) (s : Shared) (H : Hp) (C : Addr) (cl : List (Str × Addr)) (fp : List Addr) : Cx := X.blk s H scope (compEnvC scope cl C X.env) fp
section
variable {X : Cx} {ρ : Rho} {tg iter elt : Expr} {ifs : List Expr} {scope : Scope} {pos : Pos} {α : Type}
/-- what a comprehension's turn is asked -/
structure Turns (X : Cx) (scope : Scope) (ρ : Rho) (tg : Expr) (ifs : List Expr) (elt : Expr) (vs : List Nat) (d : PD) (b : Bool) (r : PD) : Prop where
  run : ∀ s H C cl fp, G (bk X scope s H C cl fp) tg (wipeR ρ vs) d vs fun ρ' => (∀ s H C cl fp, Ts (bk X scope s H C cl fp) ρ' ifs b) ∧ (b = true → ∀ s H C cl fp, E (bk X scope s H C cl fp) ρ' elt r)
instance {X : Cx} {scope : Scope} {ρ : Rho} {tg : Expr} {ifs : List Expr} {elt : Expr} {vs : List Nat} {d : PD} {b : Bool} {r : PD} : CoeFun (Turns X scope ρ tg ifs elt vs d b r) (fun _ => ∀ s H C cl fp, G (bk X scope s H C cl fp) tg (wipeR ρ vs) d vs fun ρ' => (∀ s H C cl fp, Ts (bk X scope s H C cl fp) ρ' ifs b) ∧ (b = true → ∀ s H C cl fp, E (bk X scope s H C cl fp) ρ' elt r)) := ⟨fun h => h.run⟩
theorem ES.lc_tLc (vs : List Nat) (xs : List α) (enc : α → PD) (fa : α → Bool) (ga : α → PD) (hw : ∀ v ∈ vs, v < ρ.length) (hl : xs.length ≤ 1000000) (nl : ∀ x ∈ xs, fa x = true → noL (ga x) = true)
    (hb : ∀ x ∈ xs, Turns X scope ρ tg ifs elt vs (enc x) (fa x) (ga x)) {σ : St} {B : Hp} {H : Hp} (sd : SD X.K B H σ ρ) {wi : TI} (hwi : ∀ σ B H, SD X.K B H σ ρ → ∀ R : It → Hp → Prop, (∀ J B' H', Same B B' → Same H H' → SD X.K B' H' σ ρ → JD X.K J B' (xs.map enc) → R J H') → wi σ H R)
    (Q : VK) (q : ∀ D B' H', Same B B' → Same H H' → SD X.K B' H' σ ρ → B' D = none → (¬ Owned σ ρ D) → (∃ vs, H' D = some (.lst vs) ∧ DpAll X.K B' vs ((xs.filter fa).map ga)) → H D = none → Q (.ref D) H') :
    tLc wi (fun v σ H Q => ∀ s H0 C cl fp, WG (bk X scope s H0 C cl fp) tg v σ H Q) (fun σ H Q => ∀ s H0 C cl fp, ∃ t, PTs (bk X scope s H0 C cl fp) ifs t ∧ t σ H Q) (fun σ H Q => ∀ s H0 C cl fp, WE (bk X scope s H0 C cl fp) elt σ H Q) vs σ H Q := by
  refine hwi σ (bas σ ρ H) H sd.rebase _ fun J B1 H1 sb1 sh1 sd1 j D hD => ?_
  have nD : ¬ Owned σ ρ D := fun o => by
    obtain ⟨_, o, z⟩ := o.has sd1
    rw [hD] at z; cases z
  have hB1 : B1 D = none := by
    cases z : B1 D with
    | none => rfl
    | some o => rw [sd1.sub _ _ z] at hD; cases hD
  have sbB : Same B B1 := sd.base.trans sb1
  refine ⟨fun i m H' => m = xs.length - i ∧ i ≤ xs.length ∧ ∃ B' ws, Same B1 B' ∧ Same H1 H' ∧ SD X.K B' H' σ ρ ∧ B' D = none ∧ H' D = some (.lst ws) ∧ DpAll X.K B' ws (((xs.take i).filter fa).map ga), ⟨xs.length, rfl, Nat.zero_le _, B1, [], Same.refl B1, Same.new hD, sd1.mono (Same.new hD), hB1, upd_same, by simpa using DpAll.nil⟩, ?_⟩
  rintro i m H' ⟨rfl, hi, B', ws, sb', sh', sd', hB', hw', hd'⟩
  by_cases hlt : i < xs.length
  · have hlt' : i < (xs.map enc).length := by rw [List.length_map]; exact hlt
    refine .inr ⟨j.go i H' (sb'.trans sd'.sub) hlt', fun H2 => ∃ B' ws, Same B1 B' ∧ Same H1 H2 ∧ SD X.K B' H2 σ ρ ∧ B' D = none ∧ H2 D = some (.lst ws) ∧ DpAll X.K B' ws (((xs.take (i + 1)).filter fa).map ga), fun H2 h2 => ⟨xs.length - (i + 1), by omega, rfl, hlt, h2⟩, fun x H2 y => ?_⟩
    obtain ⟨d, B2, hd, sb2, sd2, hx, kp, kn⟩ := j.next sb' sd' hlt' y
    rw [List.getElem?_map, List.getElem?_eq_getElem hlt] at hd
    cases hd
    have hD2 : H2 D = some (.lst ws) := kp _ _ hw'
    have hmem : xs[i] ∈ xs := List.getElem_mem hlt
    have htake : (xs.take (i + 1)).filter fa = (xs.take i).filter fa ++ (if fa xs[i] = true then [xs[i]] else []) := by
      rw [List.take_succ, List.getElem?_eq_getElem hlt, List.filter_append]
      simp only [Option.toList, List.filter_cons, List.filter_nil]
    have hB2 : B2 D = none := kn D _ hB' hw'
    intro s0 H0 C0 cl0 fp0
    refine hb xs[i] hmem s0 H0 C0 cl0 fp0 (L2.wipe σ vs) B2 H2 x (sd2.wipe vs hw) hx _ fun σ3 ρ3 sd3 hl3 hk3 hq => ?_
    refine ⟨?_, ?_⟩
    · rw [wipe_eq (σ := L2.wipe σ vs) hl3 hk3, wipe_wipe]
    · intro s4 H4 C4 cl4 fp4
      refine hq.1 s4 H4 C4 cl4 fp4 σ3 B2 H2 sd3 _ fun H5 s5 => ?_
      by_cases hf : fa xs[i] = true
      · rw [if_pos hf]
        intro s6 H6 C6 cl6 fp6
        refine hq.2 hf s6 H6 C6 cl6 fp6 σ3 B2 H5 (sd3.mono s5) H5 (Same.refl H5) _ fun v H7 s7 hv => ?_
        have hD7 : H7 D = some (.lst ws) := s7 _ _ (s5 _ _ hD2)
        have hlen : ws.length ≤ i := by
          rw [hd'.length, List.length_map]
          refine Nat.le_trans (List.length_filter_le _ _) ?_
          rw [List.length_take]
          omega
        refine ⟨ws, hD7, Nat.lt_of_le_of_lt hlen (Nat.lt_of_lt_of_le hlt (Nat.le_trans hl (by decide))), ?_⟩
        -- the new base: all but what is owned, and D
        have sd7 : SD X.K B2 H7 σ ρ := (sd2.mono s5).mono s7
        have hne : ∀ a o, B2 a = some o → a ≠ D := fun a o e z => by subst z; rw [hB2] at e; cases e
        refine ⟨fun a => if a = D then none else bas σ ρ H7 a, ws ++ [v], (sb'.trans sb2).trans fun a o e => ?_, Same.mut (((sh'.trans kp).trans s5).trans s7) hD, ⟨fun a o e => ?_, sd7.len, fun k t a b => ?_, sd7.apart⟩, by simp, upd_same, ?_⟩
        · show (if a = D then none else bas σ ρ H7 a) = some o
          rw [if_neg (hne a o e)]
          exact sd7.base a o e
        · have e : (if a = D then none else bas σ ρ H7 a) = some o := e
          split at e
          · cases e
          · rename_i z
            rw [upd_ne z]
            exact base_sub a o e
        · obtain ⟨w, c, dd⟩ := sd7.has k t a b
          refine ⟨w, c, ?_⟩
          have c1 : HasS X.K (fun a => if a = D then none else bas σ ρ H7 a) H7 w t := dd.up (fun a o e => by
              show (if a = D then none else bas σ ρ H7 a) = some o
              rw [if_neg (hne a o e)]
              exact sd7.base a o e) fun l z1 z2 => by
            subst z1
            show (if l = D then none else bas σ ρ H7 l) = none
            split
            · rfl
            · exact base_own ⟨k, t, a, z2, c⟩
          have hne2 : ∀ l, w = .ref l → t.isOwn = true → l ≠ D := fun l z1 z2 z3 => by subst z1 z3; exact nD ⟨k, t, a, z2, c⟩
          cases t with
          | non => trivial
          | dat d' => exact c1
          | val u => exact c1
          | lst ds => obtain ⟨m, vs', rfl, b, c, d⟩ := c1; exact ⟨m, vs', rfl, b, by rw [upd_ne (hne2 m rfl rfl)]; exact c, d⟩
          | dic kvs => obtain ⟨m, rfl, b, c⟩ := c1; exact ⟨m, rfl, b, by rw [upd_ne (hne2 m rfl rfl)]; exact c⟩
          | dik kvs => obtain ⟨m, rfl, b, c⟩ := c1; exact ⟨m, rfl, b, by rw [upd_ne (hne2 m rfl rfl)]; exact c⟩
        · rw [htake, if_pos hf, List.map_append, List.map_cons, List.map_nil]
          refine DpAll.snoc ?_ ?_
          · refine DpAll.mono (fun a o e => ?_) hd'
            show (if a = D then none else bas σ ρ H7 a) = some o
            rw [if_neg (hne a o (sb2 a o e))]
            exact sd7.base a o (sb2 a o e)
          · have h8 := Dp.to_base sd7 hv (nl _ hmem hf)
            exact dp_del (fun xs r => by
              have h9 := base_some nD hD7
              rcases r with r | ⟨o, r⟩ <;> (rw [h9] at r; cases r)) h8 (nl _ hmem hf)
      · rw [if_neg hf]
        refine ⟨B2, ws, sb'.trans sb2, (sh'.trans kp).trans s5, sd2.mono s5, hB2, s5 _ _ hD2, ?_⟩
        rw [htake, if_neg hf, List.append_nil]
        exact DpAll.mono sb2 hd'
  · have e : i = xs.length := by omega
    subst e
    rw [List.take_length] at hd'
    refine .inl ⟨j.stop _ H' (sb'.trans sd'.sub) (by rw [List.length_map]; exact Nat.le_refl _), q D B' H' (sbB.trans sb') (sh1.trans sh') sd' hB' nD ⟨ws, hw', hd'⟩ ?_⟩
    cases z : H D with
    | none => rfl
    | some o =>
      exfalso
      have : bas σ ρ H D = some o := base_some nD z
      rw [sb1 _ _ this] at hB1
      cases hB1

/-- [elt for tg in iter if ..]: a new list -/
theorem ES.lc (own : List (Str × Nat)) (xs : List α) (enc : α → PD) (fa : α → Bool) (ga : α → PD) (hi : IT X ρ tg iter (xs.map enc)) (ok : BlkOk X.N X.env.scope scope own) (hb : ∀ x ∈ xs, Turns X scope ρ tg ifs elt (own.map (·.2)) (enc x) (fa x) (ga x)) (nl : ∀ x ∈ xs, fa x = true → noL (ga x) = true) (hl : xs.length ≤ 1000000) (hN : X.N.Nodup)
    (hw : ∀ v ∈ own.map (·.2), v < ρ.length := by exact fun v hv => of_all rfl v hv) (hc : X.calm = true := by rfl) (hs : ∀ x, foldedSetIterable iter X.env x = pure x := by intro _; rfl) : ES X ρ (.ListComp elt [⟨tg, iter, ifs, 0⟩] scope pos) (.lst ((xs.filter fa).map ga)) := ⟨fun σ B H sd Q q => by
  obtain ⟨wi, pi, hwi⟩ := hi
  refine WE.of (pe_lc (own := own) (g := fun v σ H Q => ∀ s H0 C cl fp, WG (bk X scope s H0 C cl fp) tg v σ H Q) (tt := fun σ H Q => ∀ s H0 C cl fp, ∃ t, PTs (bk X scope s H0 C cl fp) ifs t ∧ t σ H Q) (te := fun σ H Q => ∀ s H0 C cl fp, WE (bk X scope s H0 C cl fp) elt σ H Q) hc hN pi ok
    (fun s H C cl fp => ⟨fun pins s' σ H v u Q I r h => pWG.run pins s' σ H v u Q I r (h s _ C cl fp)⟩) (fun s H C cl fp => ⟨fun pins s' σ H Q I h => by obtain ⟨t, p, h⟩ := h s _ C cl fp; exact p.run pins s' σ H Q I h⟩) (fun s H C cl fp => ⟨fun pins s' σ H Q I h => pWE.run pins s' σ H Q I (h s _ C cl fp)⟩) hs) ?_
  refine ES.lc_tLc (own.map (·.2)) xs enc fa ga hw hl nl hb sd hwi Q fun D B' H' sb sh s2 hB nD hD hH => ?_
  obtain ⟨ws, hD, hd⟩ := hD
  refine q _ (fun a => if a = D then none else H' a) H' (fun a o e => ?_) (fun a o e => ?_) ⟨D, ws, rfl, by simp, hD, ?_⟩
  · show (if a = D then none else H' a) = some o
    rw [if_neg (ne_of_none e hH)]
    exact sh a o e
  · have e : (if a = D then none else H' a) = some o := e
    split at e
    · cases e
    · exact e
  · refine DpAll.mono (fun a o e => ?_) hd
    show (if a = D then none else H' a) = some o
    rw [if_neg (ne_of_none e hB)]
    exact s2.sub a o e⟩
end
end NF
/-! Assigned comprehensions, own lists, contracts. -/
namespace NF
open PySem PySem.Spec PyProof.Rows L2
section
variable {X : Cx} {ρ : Rho} {tg iter elt e : Expr} {ifs : List Expr} {scope : Scope} {pos spos py : Pos} {α : Type} {P : Post} {rest : List Stmt} {d : PD} {ds : List PD}
/-- y = [elt for tg in iter if ..] -/
theorem S.setLc {y : Str} (i : Nat) (own : List (Str × Nat)) (xs : List α) (enc : α → PD) (fa : α → Bool) (ga : α → PD) (hi : IT X ρ tg iter (xs.map enc)) (ok : BlkOk X.N X.env.scope scope own) (hb : ∀ x ∈ xs, Turns X scope ρ tg ifs elt (own.map (·.2)) (enc x) (fa x) (ga x)) (nl : ∀ x ∈ xs, fa x = true → noL (ga x) = true) (hl : xs.length ≤ 1000000)
    (k : S X rest (ρ.set i (.lst ((xs.filter fa).map ga))) P) (hN : X.N.Nodup) (hsw : swapsWith (.ListComp elt [⟨tg, iter, ifs, 0⟩] scope pos) (some (.Name y py)) spos.line X.env = pure true := by exact sw_true rfl rfl rfl (by decide +kernel))
    (hil : i < ρ.length := by exact Nat.le_of_ble_eq_true rfl) (hy : X.N[i]? = some y := by rfl) (hyl : X.env.scope.names.lookup y = some .local := by rfl)
    (hw : ∀ v ∈ own.map (·.2), v < ρ.length := by exact fun v hv => of_all rfl v hv) (hc : X.calm = true := by rfl) (hs : ∀ x, foldedSetIterable iter X.env x = pure x := by intro _; rfl) : S X (.Assign [.Name y py] (.ListComp elt [⟨tg, iter, ifs, 0⟩] scope pos) spos :: rest) ρ P := ⟨fun σ B H D sd n r bc ct ex => by
  obtain ⟨wi, pi, hwi⟩ := hi
  refine ss_cons (WS.of (ps_setLc (i := i) (own := own) (g := fun v σ H Q => ∀ s H0 C cl fp, WG (bk X scope s H0 C cl fp) tg v σ H Q) (tt := fun σ H Q => ∀ s H0 C cl fp, ∃ t, PTs (bk X scope s H0 C cl fp) ifs t ∧ t σ H Q) (te := fun σ H Q => ∀ s H0 C cl fp, WE (bk X scope s H0 C cl fp) elt σ H Q) hc hN hy hyl hsw pi ok
    (fun s H C cl fp => ⟨fun pins s' σ H v u Q I r h => pWG.run pins s' σ H v u Q I r (h s _ C cl fp)⟩) (fun s H C cl fp => ⟨fun pins s' σ H Q I h => by obtain ⟨t, p, h⟩ := h s _ C cl fp; exact p.run pins s' σ H Q I h⟩) (fun s H C cl fp => ⟨fun pins s' σ H Q I h => pWE.run pins s' σ H Q I (h s _ C cl fp)⟩) hs) ?_)
  refine ES.lc_tLc (own.map (·.2)) xs enc fa ga hw hl nl hb sd hwi _ fun L B' H' sb sh s2 hB nD hD hH => ?_
  obtain ⟨ws, hD, hd⟩ := hD
  exact k.go sb (s2.setO (i := i) ⟨L, ws, rfl, hB, hD, hd⟩ rfl nD hil) n r bc ct ex⟩

/-- a list display: a new list -/
theorem ES.lst {es : List Expr} (h : As X ρ es ds) (hl : ds.length ≤ 64 := by exact Nat.le_of_ble_eq_true rfl) : ES X ρ (.List es pos) (.lst ds) := ⟨fun σ B H sd Q q =>
  WE.of (pe_lst pWA) (h σ B H sd H (Same.refl H) _ fun vs H1 s1 hvs => ⟨by rw [hvs.length]; exact Nat.le_trans hl (by decide), fun p hp => q _ H1 _ s1 (Same.new hp) ⟨p, vs, rfl, hp, upd_same, hvs⟩⟩)⟩
/-! own lists -/
/-- x.append(e) -/
theorem S.app {x : Str} {p apos cpos : Pos} (i : Nat) (h : E X ρ e d) (k : S X rest (ρ.set i (.lst (ds ++ [d]))) P) (nl : noL d = true) (hz : ds.length < 1000000) (hx : ρ[i]? = some (.lst ds) := by rfl) (hN : X.N[i]? = some x := by rfl) (hv : Vis X.env.scope x := by first | exact Or.inl rfl | exact Or.inr (Or.inl rfl) | exact Or.inr (Or.inr rfl))
    (h1 : (x == ("__debug__" : Str)) = false := by decide) (h2 : (x == ("__classdict__" : Str)) = false := by decide)
    (hbase : attributeBase (.Name x p) "append" X.env (eval (.Name x p) X.env) = eval (.Name x p) X.env := by rfl)
    (hfew : ((backTo cpos (starEach (e :: []) X.env)).all (fun x => !x.1) && (backToKw cpos (keywordEach [] X.env)).all (fun x => x.1.isSome) && decide ((e :: []).length + ([] : List Keyword).length + (if ([] : List Keyword).isEmpty then 0 else 1) < 30)) = true := by rfl)
    (hline : (apos.endLine == cpos.line) = true := by rfl) (hs : starEach (e :: []) X.env = (false, eval e X.env) :: starEach [] X.env := by rfl) (hplain : (backTo cpos (starEach [] X.env)).any (·.1) = false := by rfl)
    (hsw : swapsWith (.Call (.Attribute (.Name x p) "append" apos) [e] [] cpos) none pos.line X.env = pure false := by rfl) :
    S X (.Expr (.Call (.Attribute (.Name x p) "append" apos) [e] [] cpos) pos :: rest) ρ P := ⟨fun σ B H D sd n r bc ct ex => by
  obtain ⟨l, vs, hl, hB, hH, hd⟩ := sd.lst hx
  have il : i < ρ.length := (List.getElem?_eq_some_iff.mp hx).1
  refine ss_cons (WS.of (ps_expr (pe_bm PySem.F.plainAttrs_list PySem.F.slot_list_append PySem.F.type_list_append mt_append (pe_var hN hv h1 h2) (pa_cons pWE pa_nil hs) hbase hfew hline hs hplain) hsw) ?_)
  refine ⟨_, hl, Or.inl ⟨rfl, _, SqL.of hH⟩, ?_⟩
  refine h σ B H sd H (Same.refl H) _ fun v H1 s1 hv => ?_
  have sd1 := sd.mono s1
  refine ⟨l, vs, v, rfl, rfl, s1 _ _ hH, ?_, ?_⟩
  · rw [hd.length]
    exact Nat.lt_of_lt_of_le hz (by decide)
  · refine k.go sd1.base (sd1.rebase.write hx rfl hl ?_ rfl) n r bc ct ex
    exact ⟨l, vs ++ [v], rfl, base_own ⟨i, _, hx, rfl, hl⟩, upd_same, (DpAll.mono sd1.base hd).snoc (Dp.to_base sd1 hv nl)⟩⟩
/-- y = x.pop() -/
theorem S.pop {x y : Str} {p apos cpos py : Pos} (i j : Nat) (k : S X rest ((ρ.set i (.lst ds)).set j (.dat d)) P) (hx : ρ[i]? = some (.lst (ds ++ [d])) := by rfl) (hN : X.N[i]? = some x := by rfl) (hv : Vis X.env.scope x := by first | exact Or.inl rfl | exact Or.inr (Or.inl rfl) | exact Or.inr (Or.inr rfl))
    (h1 : (x == ("__debug__" : Str)) = false := by decide) (h2 : (x == ("__classdict__" : Str)) = false := by decide)
    (hbase : attributeBase (.Name x p) "pop" X.env (eval (.Name x p) X.env) = eval (.Name x p) X.env := by rfl) (hline : (apos.endLine == cpos.line) = true := by rfl)
    (hNd : X.N.Nodup) (hl : j < ρ.length := by exact Nat.le_of_ble_eq_true rfl) (hi : X.N[j]? = some y := by rfl) (hy : Loc X.env.scope y := by first | exact Or.inl rfl | exact Or.inr rfl)
    (hs : swapsWith (.Call (.Attribute (.Name x p) "pop" apos) [] [] cpos) (some (.Name y py)) pos.line X.env = pure false := by rfl) (hf : X.fn y = true ∨ X.env.scope.names.lookup y = some .local := by first | exact .inl rfl | exact .inr rfl | assumption) :
    S X (.Assign [.Name y py] (.Call (.Attribute (.Name x p) "pop" apos) [] [] cpos) pos :: rest) ρ P := ⟨fun σ B H D sd n r bc ct ex => by
  obtain ⟨l, vs, hl', hB, hH, hd⟩ := sd.lst hx
  refine ss_cons (WS.of (ps_set hNd hi hy (pe_bm0 PySem.F.plainAttrs_list PySem.F.slot_list_pop PySem.F.type_list_pop mt_pop (pe_var hN hv h1 h2) hbase hline) hs hf) ?_)
  have hlen : vs.length = ds.length + 1 := by rw [hd.length]; simp
  obtain ⟨v, hv', hdv⟩ := hd.get' (i := ds.length) (d := d) (by simp)
  have htk : DpAll X.K B vs.dropLast ds := by
    have := DpAll.take ds.length hd
    rw [List.take_left] at this
    rw [List.dropLast_eq_take, hlen]
    simpa using this
  refine ⟨_, hl', Or.inl ⟨rfl, _, SqL.of hH⟩, l, vs, v, rfl, rfl, hH, by rw [hlen]; simpa using hv', ?_⟩
  have sd1 := sd.write (o := .lst vs.dropLast) (s' := .lst ds) hx rfl hl' ⟨l, _, rfl, hB, upd_same, htk⟩ rfl
  exact k.go (Same.refl B) (sd1.set hdv (by rw [List.length_set]; exact hl)) n r bc ct ex⟩
/-- x.clear() -/
theorem S.clear {x : Str} {p apos cpos : Pos} (i : Nat) (k : S X rest (ρ.set i (.lst [])) P) (hx : ρ[i]? = some (.lst ds) := by rfl) (hN : X.N[i]? = some x := by rfl) (hv : Vis X.env.scope x := by first | exact Or.inl rfl | exact Or.inr (Or.inl rfl) | exact Or.inr (Or.inr rfl))
    (h1 : (x == ("__debug__" : Str)) = false := by decide) (h2 : (x == ("__classdict__" : Str)) = false := by decide)
    (hbase : attributeBase (.Name x p) "clear" X.env (eval (.Name x p) X.env) = eval (.Name x p) X.env := by rfl) (hline : (apos.endLine == cpos.line) = true := by rfl)
    (hsw : swapsWith (.Call (.Attribute (.Name x p) "clear" apos) [] [] cpos) none pos.line X.env = pure false := by rfl) :
    S X (.Expr (.Call (.Attribute (.Name x p) "clear" apos) [] [] cpos) pos :: rest) ρ P := ⟨fun σ B H D sd n r bc ct ex => by
  obtain ⟨l, vs, hl', hB, hH, hd⟩ := sd.lst hx
  refine ss_cons (WS.of (ps_expr (pe_bm0 PySem.F.plainAttrs_list PySem.F.slot_list_clear PySem.F.type_list_clear mt_clear (pe_var hN hv h1 h2) hbase hline) hsw) ?_)
  refine ⟨_, hl', Or.inl ⟨rfl, _, SqL.of hH⟩, l, vs, rfl, rfl, hH, ?_⟩
  have sd1 := sd.write (o := .lst []) (s' := .lst []) hx rfl hl' ⟨l, _, rfl, hB, upd_same, .nil⟩ rfl
  exact k.go (Same.refl B) sd1 n r bc ct ex⟩
end
/-! ### contracts -/
def Sl.pd : Sl → PD
  | .dat d => d
  | .lst ds => .list ds
  | _ => .none
def spS (K : PySem.W.Frag) (R : List PD → Sl → Prop) : Sp := fun vs H Q _ => ∃ ds s, DpAll K H vs ds ∧ R ds s ∧ ∀ v B' H', Same H B' → Same B' H' → HasS K B' H' v s → Q v H'
section
variable {X : Cx} {ρ : Rho} {e : Expr} {es : List Expr} {s : Sl} {ds : List PD} {pos : Pos}
theorem ES.own {x : Str} {k j : Nat} {R : List PD → Sl → Prop} {p : Pos} (c : Cal X.prog X.w X.K X.mg X.base k x (spS X.K R)) (hr : Room j X.A) (ha : As X ρ (e :: es) ds) (hR : R ds s) (hk : k ≤ j := by decide) (hg : Gl X x := by rfl)
    (hdb : (x == ("__debug__" : Str)) = false := by decide) (he : starEach (e :: es) X.env = (false, eval e X.env) :: starEach es X.env := by rfl) (hpl : (backTo pos (starEach es X.env)).any (·.1) = false := by rfl) :
    ES X ρ (.Call (.Name x p) (e :: es) [] pos) s := ⟨fun σ B H sd Q q =>
  WE.of (pe_c c hr hk hg pWA hdb he hpl) (ha σ B H sd H (Same.refl H) _ fun vs H1 s1 hvs => ⟨ds, s, by rw [List.append_nil]; exact hvs, hR, fun v B' H' s2 s3 hv => q v B' H' (s1.trans s2) s3 hv⟩)⟩
theorem ES.toE (h : ES X ρ e s) (hs : (match s with | .dat _ => true | .lst _ => true | _ => false) = true := by rfl) : E X ρ e s.pd := ⟨fun σ B H sd H1 s1 Q q => h σ B H1 (sd.mono s1) Q fun v B' H' a b c => by
  refine q v H' (a.trans b) ?_
  cases s with
  | dat d => exact Dp.mono b c
  | lst ds => obtain ⟨l, vs, rfl, h1, h2, h3⟩ := c; exact dp_lst h2 (DpAll.mono b h3)
  | _ => cases hs⟩
theorem E.call {x : Str} {k j : Nat} {R : List PD → Sl → Prop} {p : Pos} {d : PD} (c : Cal X.prog X.w X.K X.mg X.base k x (spS X.K R)) (hr : Room j X.A) (ha : As X ρ (e :: es) ds) (hR : R ds (.dat d)) (hk : k ≤ j := by decide) (hg : Gl X x := by rfl)
    (hdb : (x == ("__debug__" : Str)) = false := by decide) (he : starEach (e :: es) X.env = (false, eval e X.env) :: starEach es X.env := by rfl) (hpl : (backTo pos (starEach es X.env)).any (·.1) = false := by rfl) :
    E X ρ (.Call (.Name x p) (e :: es) [] pos) d := ES.toE (ES.own c hr ha hR hk hg hdb he hpl)
end
/-- the environment at a def's entry -/
def rho0 (n : Nat) (ds : List PD) : Rho := ds.map .dat ++ List.replicate (n - ds.length) .non
def retP (s : Sl) : Post := { nx := fun _ => s = .dat .none, rt := fun s' => s' = s }
theorem SD.start {K : PySem.W.Frag} {H : Hp} {N : List Str} {vs : List V} {ds : List PD} (h : DpAll K H vs ds) : SD K H H (L2.start N vs) (rho0 N.length ds) where
  sub := Same.refl H
  len := by simp [L2.start, rho0, h.length]
  has := fun i s a b => by
    unfold rho0 at a
    by_cases hi : i < ds.length
    · rw [List.getElem?_append_left (by simpa using hi), List.getElem?_map] at a
      cases z : ds[i]? with
      | none => rw [z] at a; cases a
      | some d =>
        rw [z] at a
        cases a
        obtain ⟨v, hv, hd⟩ := h.get' z
        refine ⟨v, ?_, hd⟩
        unfold L2.start
        rw [List.getElem?_append_left (by rw [List.length_map, h.length]; exact hi), List.getElem?_map, hv] <;> rfl
    · rw [List.getElem?_append_right (by simpa using hi)] at a
      obtain ⟨_, a⟩ := List.getElem?_eq_some_iff.mp a
      rw [List.getElem_replicate] at a
      exact absurd a.symm b
  apart := fun i j si sj l a1 a2 a3 a4 a5 a6 => by
    exfalso
    unfold rho0 at a1
    have := List.mem_of_getElem? a1
    rw [List.mem_append] at this
    rcases this with m | m
    · rw [List.mem_map] at m
      obtain ⟨d, _, rfl⟩ := m
      cases a2
    · rw [List.mem_replicate] at m
      obtain ⟨_, rfl⟩ := m
      cases a2
section
variable {P : Program} {w : World} {K : PySem.W.Frag} {mg : Str → Option Value} {base : Heap}
theorem def_F {x : Str} {st : Stmt} {f : Addr} {fd : FuncData} {N ps : List Str} {k : Nat} {R : List PD → Sl → Prop} (F : FunD K x x (defArgs st) (defBody st) (defScope st) [] [] f fd) (Sc : FnScope N ps (defScope st))
    (len : ∀ ds s, R ds s → ds.length = ps.length)
    (hbody : ∀ (cdv : Value) (A : Around) (outer : List Env) (s : Shared) (H : Hp) (ds : List PD) (sl : Sl), Room k (A.deeper (envOfC x (defScope st) s.heap.objs.size f cdv)) → R ds sl →
      S (bx P w K mg base N x (defScope st) f cdv A outer s H) (defBody st) (rho0 N.length ds) (retP sl)) : FnOk P w K mg base L2.CX0 (k + 1) f fd ps (spS K R) := by
  refine F.ok Sc (fun vs H Q E h => ?_) fun cdv A outer s H vs Q E hr h => ?_
  · obtain ⟨ds, d, h1, h2, _⟩ := h
    rw [h1.length, len _ _ h2]
  · obtain ⟨ds, sl, h1, h2, h3⟩ := h
    refine ⟨_, PSs.nox pWSs, ?_⟩
    refine hbody cdv A outer s H ds sl hr h2 (L2.start N vs) H H _ (SD.start h1) (fun σ' B' H' ρ' a b c => ?_) (fun v B' H' s' a b c d => ?_) (fun _ _ _ _ _ _ q => q.elim) (fun _ _ _ _ _ _ q => q.elim) ExT.no
    · have c : sl = .dat .none := c
      subst c
      exact h3 _ B' H' a b.sub Dp.non
    · have d : s' = sl := d
      subst d
      exact h3 v B' H' a b c
theorem def_S {x : Str} {st : Stmt} {f : Addr} {fd : FuncData} {N ps : List Str} {k : Nat} {R : List PD → Sl → Prop} (F : FunD K x x (defArgs st) (defBody st) (defScope st) [] [] f fd) (hm : mg x = some (.ref f)) (Sc : FnScope N ps (defScope st))
    (hb : Binds K fd ps []) (len : ∀ ds s, R ds s → ds.length = ps.length)
    (hbody : ∀ (cdv : Value) (A : Around) (outer : List Env) (s : Shared) (H : Hp) (ds : List PD) (sl : Sl), Room k (A.deeper (envOfC x (defScope st) s.heap.objs.size f cdv)) → R ds sl →
      S (bx P w K mg base N x (defScope st) f cdv A outer s H) (defBody st) (rho0 N.length ds) (retP sl)) : Cal P w K mg base (k + 1) x (spS K R) :=
  ⟨f, fd, ps, def_F F Sc len hbody, hm, F.kp, hb⟩
end
end NF
/-! Typed data, bounds. -/
namespace NF
open PySem PySem.Spec PyProof.Rows L2
abbrev Pt := Int × Int
structure Tr where
  a : Int
  b : Int
  c : Int
  deriving DecidableEq
def eP (p : Pt) : PD := .tuple [.int p.1, .int p.2]
def eT (t : Tr) : PD := .tuple [.int t.a, .int t.b, .int t.c]
def eI (i : Int) : PD := .int i
/-- a bound by bits -/
def Bd (n : Nat) (i : Int) : Prop := i.natAbs < 2 ^ n
theorem Bd.add {n : Nat} {i j : Int} (hi : Bd n i) (hj : Bd n j) : Bd (n + 1) (i + j) := by
  unfold Bd at *
  rw [Nat.pow_succ]
  omega
theorem Bd.sub {n : Nat} {i j : Int} (hi : Bd n i) (hj : Bd n j) : Bd (n + 1) (i - j) := by
  unfold Bd at *
  rw [Nat.pow_succ]
  omega
theorem Bd.mul {n m : Nat} {i j : Int} (hi : Bd n i) (hj : Bd m j) : Bd (n + m) (i * j) := by
  unfold Bd at *
  rw [Int.natAbs_mul, Nat.pow_add]
  exact Nat.mul_lt_mul'' hi hj
theorem Bd.neg {n : Nat} {i : Int} (hi : Bd n i) : Bd n (-i) := by
  unfold Bd at *
  rw [Int.natAbs_neg]
  exact hi
theorem Bd.mono {n m : Nat} {i : Int} (hi : Bd n i) (h : n ≤ m := by decide) : Bd m i := Nat.lt_of_lt_of_le hi (Nat.pow_le_pow_right (by decide) h)
theorem Bd.w {n m : Nat} {i j : Int} (hi : Bd n i) (hj : Bd m j) (h0 : 0 < n := by decide) (h1 : 0 < m := by decide) (h : n + m ≤ 1000000 := by decide) : CMulW i j := wide_mul hi hj h0 h1 h
theorem Bd.num (n : Nat) (i : Int) (h : i.natAbs < 2 ^ n := by decide) : Bd n i := h
/-- points whose places are not too great -/
def PtB (p : Pt) : Prop := Bd 24 p.1 ∧ Bd 24 p.2
end NF
/-! More operations: list + list, slices, ==, in, isinstance, .. -/
namespace L2
open PySem PySem.Spec PyProof.Rows
section
variable {X : Cx}
theorem op_catS : OpR X (binaryOp .Add) (fun x y H Q => ∃ l b xs zs, x = .ref l ∧ y = .ref b ∧ SqL X.K H l xs ∧ SqL X.K H b zs ∧ xs.length + zs.length ≤ sizeLine ∧ ∀ p, H p = none → Q (.ref p) (upd H p (.lst (xs ++ zs)))) := by
  intro pins s σ H x y v u Q I rx ry h
  obtain ⟨l, b, xs, zs, rfl, rfl, hH, hB, hz, q⟩ := h
  cases rx
  cases ry
  obtain ⟨its, r, pl, z⟩ := I.list hH
  obtain ⟨its2, r2, pl2, z2⟩ := I.list hB
  obtain ⟨⟨cls, dd, data, sl⟩, ho, hc, n, hd⟩ := pl.isList
  obtain ⟨⟨cls2, dd2, data2, sl2⟩, ho2, hc2, n2, hd2⟩ := pl2.isList
  simp only at hc hd hc2 hd2
  subst hc hd hc2 hd2
  have e : its.toArray ++ its2.toArray = (its ++ its2).toArray := by simp
  have hsz : its.length + its2.length ≤ sizeLine := by rw [← r.length, ← r2.length]; exact hz
  refine concat_meets ⟨_, ho, rfl⟩ ⟨_, ho2, rfl⟩ noFill_list_add seq_list_add PySem.F.slot_list_add PySem.F.entry_list_add (PySem.F.args_list_add_2 _ _) (list_addW l b its.toArray its2.toArray n n2 dd dd2 sl sl2 (by simpa using hsz)) ⟨ho, ho2, ?_⟩
  rw [e]
  exact ⟨.ref _, _, I.lnew (t' := s.toks) (r.append r2) (by rw [List.length_append]; exact hz), rfl, q _ I.fresh⟩
end
end L2
namespace NF
open PySem PySem.Spec PyProof.Rows L2
section
variable {X : Cx} {ρ : Rho} {a b c e lo hi : Expr} {d d1 d2 : PD} {ds es : List PD} {pos p2 : Pos}
theorem BinD.cat (h : ds.length + es.length ≤ 1000000) : BinD X (binaryOp .Add) (.list ds) (.list es) (.list (ds ++ es)) := ⟨_, op_catS, fun H x y hx hy Q q => by
  obtain ⟨l, xs, rfl, h1, h2⟩ := hx.inv_list
  obtain ⟨m, ys, rfl, h3, h4⟩ := hy.inv_list
  refine ⟨l, m, xs, ys, rfl, rfl, h1, h3, by rw [h2.length, h4.length]; exact Nat.le_trans h (by decide), fun p hp => q _ _ (Same.new hp) (dp_lst upd_same (DpAll.mono (Same.new hp) (h2.append h4)))⟩⟩
/-- list + list: a new one -/
theorem ES.cat (ha : E X ρ a (.list ds)) (hb : E X ρ b (.list es)) (h : ds.length + es.length ≤ 1000000) : ES X ρ (.BinOp a .Add b pos) (.lst (ds ++ es)) := ⟨fun σ B H sd Q q => by
  refine WE.of (pe_op op_catS pWE pWE) (ha σ B H sd H (Same.refl H) _ fun x H1 s1 hx => hb σ B H1 (sd.mono s1) H1 (Same.refl H1) _ fun y H2 s2 hy => ?_)
  obtain ⟨l, xs, rfl, h1, h2⟩ := (Dp.mono s2 hx).inv_list
  obtain ⟨m, ys, rfl, h3, h4⟩ := hy.inv_list
  exact ⟨l, m, xs, ys, rfl, rfl, h1, h3, by rw [h2.length, h4.length]; exact Nat.le_trans h (by decide), fun p hp => q _ H2 _ (s1.trans s2) (Same.new hp) ⟨p, _, rfl, hp, upd_same, h2.append h4⟩⟩⟩
/-- tuple + tuple -/
theorem BinD.catT (h : ds.length + es.length ≤ 1000000) : BinD X (binaryOp .Add) (.tuple ds) (.tuple es) (.tuple (ds ++ es)) := ⟨_, op_catA, fun H x y hx hy Q q => by
  obtain ⟨l, xs, rfl, h1, h2⟩ := hx.inv_tup
  obtain ⟨m, ys, rfl, h3, h4⟩ := hy.inv_tup
  refine ⟨l, m, xs, ys, rfl, rfl, h1, h3, by rw [h2.length, h4.length]; exact Nat.le_trans h (by decide), fun z => ?_, fun z1 z => ?_, fun _ _ p hp => q _ _ (Same.new hp) (dp_tup upd_same (DpAll.mono (Same.new hp) (h2.append h4)))⟩
  · subst z
    cases h2
    exact q _ H (Same.refl H) (.tup h3 h4)
  · subst z
    cases h4
    rw [List.append_nil] at q
    exact q _ H (Same.refl H) (.tup h1 h2)⟩
/-! slices -/
inductive PartD : Option Expr → Option Int → Prop
structure EO (X : Cx) (ρ : Rho) (e : Option Expr) (o : Option Int) : Prop where
  run : ∀ σ B H, SD X.K B H σ ρ → ∀ Q : Option Int → Hp → Prop, (∀ H', Same H H' → Q o H') → ∃ t, PO X e t ∧ t σ H Q
instance {X : Cx} {ρ : Rho} {e : Option Expr} {o : Option Int} : CoeFun (EO X ρ e o) (fun _ => ∀ σ B H, SD X.K B H σ ρ → ∀ Q : Option Int → Hp → Prop, (∀ H', Same H H' → Q o H') → ∃ t, PO X e t ∧ t σ H Q) := ⟨fun h => h.run⟩
theorem EO.none : EO X ρ .none .none := ⟨fun σ B H sd Q q => ⟨_, po_none, q H (Same.refl H)⟩⟩
theorem EO.some {i : Int} (h : E X ρ e (.int i)) : EO X ρ (.some e) (.some i) := ⟨fun σ B H sd Q q => ⟨_, po_some pWE, h σ B H sd H (Same.refl H) _ fun v H1 s1 hv => ⟨i, hv.inv_int, q H1 s1⟩⟩⟩
def WO (X : Cx) (e : Option Expr) : TO := fun σ H Q => ∀ pins s, Inv X pins σ H s → wpAny (model X.prog X.w) X.A (evalPart e X.env) (fun u s' => ∃ o H', Inv X pins σ H' s' ∧ IsPart u o ∧ Q o H') X.xe s
theorem pWO {e : Option Expr} : PO X e (WO X e) := ⟨fun pins s _ _ _ I h => h pins s I⟩
/-- xs[lo:hi] by data -/
def cutD (xs : List PD) (lo hi : Option Int) : List PD := (xs.drop (HT.sIx xs.length 0 lo)).take (HT.sIx xs.length xs.length hi - HT.sIx xs.length 0 lo)
theorem cut_dp {K : PySem.W.Frag} {H : Hp} {vs : List V} {lo hi : Option Int} (h : DpAll K H vs ds) : DpAll K H (cutV vs lo hi) (cutD ds lo hi) := by
  unfold cutV cutD
  rw [h.length]
  exact DpAll.take _ (DpAll.drop _ h)
theorem ES.slice {l h : Option Expr} {i j : Option Int} (ha : E X ρ a (.list ds)) (hl : EO X ρ l i) (hh : EO X ρ h j) : ES X ρ (.Subscript a (.Slice l h .none p2) pos) (.lst (cutD ds i j)) := ⟨fun σ B H sd Q q => by
  refine WE.of (pe_slice sl_list pWE pWO pWO) (ha σ B H sd H (Same.refl H) _ fun x H1 s1 hx => ?_)
  refine fun pins s I => ?_
  obtain ⟨t, p, ht⟩ := hl σ B H1 (sd.mono s1) (fun o H2 => WO X h σ H2 fun o' H3 => rSlL X.K x o o' H3 Q) fun H2 s2 => fun pins s I => by
    obtain ⟨t, p, ht⟩ := hh σ B H2 ((sd.mono s1).mono s2) (fun o' H3 => rSlL X.K x i o' H3 Q) fun H3 s3 => by
      obtain ⟨m, xs, rfl, h1, h2⟩ := (Dp.mono (s2.trans s3) hx).inv_list
      exact ⟨m, xs, rfl, h1, fun p hp => q _ H3 _ (s1.trans (s2.trans s3)) (Same.new hp) ⟨p, _, rfl, hp, upd_same, cut_dp h2⟩⟩
    exact p.run pins s σ H2 _ I ht
  exact p.run pins s σ H1 _ I ht⟩
/-- t[lo:hi] -/
theorem E.sliceT {l h : Option Expr} {i j : Option Int} (ha : E X ρ a (.tuple ds)) (hl : EO X ρ l i) (hh : EO X ρ h j) : E X ρ (.Subscript a (.Slice l h .none p2) pos) (.tuple (cutD ds i j)) := ⟨fun σ B H sd H0 s0 Q q => by
  refine WE.of (pe_slice sl_tupA pWE pWO pWO) (ha σ B H sd H0 s0 _ fun x H1 s1 hx => ?_)
  refine fun pins s I => ?_
  obtain ⟨t, p, ht⟩ := hl σ B H1 ((sd.mono s0).mono s1) (fun o H2 => WO X h σ H2 fun o' H3 => rSlA X.K x o o' H3 Q) fun H2 s2 => fun pins s I => by
    obtain ⟨t, p, ht⟩ := hh σ B H2 (((sd.mono s0).mono s1).mono s2) (fun o' H3 => rSlA X.K x i o' H3 Q) fun H3 s3 => by
      obtain ⟨m, xs, rfl, h1, h2⟩ := (Dp.mono (s2.trans s3) hx).inv_tup
      have hc := cut_dp (lo := i) (hi := j) h2
      refine ⟨m, xs, rfl, h1, fun ⟨z1, z2⟩ => ?_, fun _ p hp => q _ _ (s1.trans (s2.trans (s3.trans (Same.new hp)))) (dp_tup upd_same (DpAll.mono (Same.new hp) hc))⟩
      have e : cutD ds i j = ds := by
        unfold cutD
        rw [← h2.length, z1, z2, List.drop_zero, Nat.sub_zero, h2.length, List.take_length]
      rw [e] at q
      exact q _ H3 (s1.trans (s2.trans s3)) (.tup h1 h2)
    exact p.run pins s σ H2 _ I ht
  exact p.run pins s σ H1 _ I ht⟩

/-! == and in, by data -/
theorem BinD.eqD (hu : X.A.units + 64 < cLine) (h1 : SeqAt.shaped d1 = true) (h2 : SeqAt.shaped d2 = true) : BinD X (compareOp .Eq) d1 d2 (.bool (PyData.eqv d1 d2)) := ⟨_, op_eqD hu, fun H x y hx hy Q q => ⟨d1, d2, hx, hy, h1, h2, q _ H (Same.refl H) (.bl _)⟩⟩
theorem BinD.neD (hu : X.A.units + 64 < cLine) (h1 : SeqAt.shaped d1 = true) (h2 : SeqAt.shaped d2 = true) : BinD X (compareOp .NotEq) d1 d2 (.bool (!PyData.eqv d1 d2)) := ⟨_, op_neD hu, fun H x y hx hy Q q => ⟨d1, d2, hx, hy, h1, h2, q _ H (Same.refl H) (.bl _)⟩⟩
theorem BinD.inD (hu : X.A.units + 65 < cLine) (h1 : SeqAt.shaped d = true) (h2 : SeqAt.shaped (.list ds) = true) : BinD X (compareOp .In) d (.list ds) (.bool (ds.any fun z => PyData.eqv z d)) := ⟨_, op_inD hu, fun H x y hx hy Q q => ⟨d, ds, hx, hy, h1, h2, q _ H (Same.refl H) (.bl _)⟩⟩
theorem BinD.notInD (hu : X.A.units + 65 < cLine) (h1 : SeqAt.shaped d = true) (h2 : SeqAt.shaped (.list ds) = true) : BinD X (compareOp .NotIn) d (.list ds) (.bool (!ds.any fun z => PyData.eqv z d)) := ⟨_, op_notInD hu, fun H x y hx hy Q q => ⟨d, ds, hx, hy, h1, h2, q _ H (Same.refl H) (.bl _)⟩⟩
end
/-- an encoding whose == is equality -/
structure Enc {α : Type} [DecidableEq α] (enc : α → PD) (k : Nat) : Prop where
  eq : ∀ a b, PyData.eqv (enc a) (enc b) = decide (a = b)
  lay : ∀ a, PyData.canLay0 (enc a) = true
  dep : ∀ a, PyData.depth (enc a) ≤ k
section
variable {α β : Type} [DecidableEq α] [DecidableEq β] {enc : α → PD} {k : Nat}
theorem Enc.shaped (h : Enc enc k) (hk : k ≤ 64) (a : α) : SeqAt.shaped (enc a) = true := by
  unfold SeqAt.shaped
  rw [h.lay a, Bool.true_and]
  exact decide_eq_true (Nat.le_trans (h.dep a) hk)
theorem beqd (a b : Int) : (a == b) = decide (a = b) := by
  by_cases h : a = b
  · subst h; simp
  · simp [h]
theorem enc_int : Enc (fun i : Int => PyData.int i) 0 := ⟨fun a b => by simp [PyData.eqv, beqd], fun a => by simp [PyData.canLay0], fun a => by simp [PyData.depth]⟩
theorem enc_pt : Enc eP 1 := ⟨fun a b => by
  obtain ⟨a1, a2⟩ := a
  obtain ⟨b1, b2⟩ := b
  simp [eP, PyData.eqv, PyData.eqvAll, beqd, Prod.mk.injEq, Bool.decide_and], fun a => by simp [eP, PyData.canLay0, PyData.canLayAll0], fun a => by simp [eP, PyData.depth, PyData.depthAll]⟩
theorem enc_tr : Enc eT 1 := ⟨fun a b => by
  obtain ⟨a1, a2, a3⟩ := a
  obtain ⟨b1, b2, b3⟩ := b
  simp [eT, PyData.eqv, PyData.eqvAll, beqd, Tr.mk.injEq, Bool.decide_and], fun a => by simp [eT, PyData.canLay0, PyData.canLayAll0], fun a => by simp [eT, PyData.depth, PyData.depthAll]⟩
theorem eqvAll_map (h : Enc enc k) : ∀ xs ys : List α, PyData.eqvAll (xs.map enc) (ys.map enc) = decide (xs = ys)
  | [], [] => by simp [PyData.eqvAll]
  | x :: xs, [] => by simp [PyData.eqvAll]
  | [], y :: ys => by simp [PyData.eqvAll]
  | x :: xs, y :: ys => by
    rw [List.map_cons, List.map_cons, PyData.eqvAll, h.eq, eqvAll_map h xs ys]
    simp [List.cons.injEq, Bool.decide_and]
theorem canLayAll_map (h : Enc enc k) : ∀ xs : List α, PyData.canLayAll0 (xs.map enc) = true
  | [] => rfl
  | x :: xs => by rw [List.map_cons, PyData.canLayAll0, h.lay, canLayAll_map h xs]; rfl
theorem depthAll_map (h : Enc enc k) : ∀ xs : List α, PyData.depthAll (xs.map enc) ≤ k
  | [] => Nat.zero_le _
  | x :: xs => by rw [List.map_cons, PyData.depthAll]; exact Nat.max_le.mpr ⟨h.dep x, depthAll_map h xs⟩
theorem Enc.list (h : Enc enc k) : Enc (fun xs : List α => PyData.list (xs.map enc)) (k + 1) := ⟨fun a b => by rw [PyData.eqv]; exact eqvAll_map h a b, fun a => by rw [PyData.canLay0]; exact canLayAll_map h a, fun a => by rw [PyData.depth]; exact Nat.succ_le_succ (depthAll_map h a)⟩
theorem Enc.any (h : Enc enc k) (xs : List α) (a : α) : ((xs.map enc).any fun z => PyData.eqv z (enc a)) = decide (a ∈ xs) := by
  induction xs with
  | nil => simp
  | cons x xs ih =>
    rw [List.map_cons, List.any_cons, ih, h.eq]
    by_cases e : x = a
    · subst e; simp
    · have e' : ¬ a = x := fun z => e z.symm
      simp [e, e']
end
section
variable {X : Cx} {ρ : Rho} {a b c e : Expr} {d d1 d2 : PD} {ds es : List PD} {pos p2 : Pos} {α : Type} [DecidableEq α] {enc : α → PD} {k : Nat}
theorem BinD.eqE {x y : α} (hu : X.A.units + 64 < cLine) (h : Enc enc k) (hk : k ≤ 64 := by decide) : BinD X (compareOp .Eq) (enc x) (enc y) (.bool (decide (x = y))) := by
  have := BinD.eqD (X := X) hu (h.shaped hk x) (h.shaped hk y)
  rw [h.eq] at this
  exact this
theorem BinD.neE {x y : α} (hu : X.A.units + 64 < cLine) (h : Enc enc k) (hk : k ≤ 64 := by decide) : BinD X (compareOp .NotEq) (enc x) (enc y) (.bool (!decide (x = y))) := by
  have := BinD.neD (X := X) hu (h.shaped hk x) (h.shaped hk y)
  rw [h.eq] at this
  exact this
theorem BinD.notInE {x : α} {xs : List α} (hu : X.A.units + 65 < cLine) (h : Enc enc k) (hk : k + 1 ≤ 64 := by decide) : BinD X (compareOp .NotIn) (enc x) (.list (xs.map enc)) (.bool (!decide (x ∈ xs))) := by
  have := BinD.notInD (X := X) hu (h.shaped (Nat.le_of_succ_le hk) x) (h.list.shaped hk xs)
  rw [h.any] at this
  exact this
theorem BinD.inE {x : α} {xs : List α} (hu : X.A.units + 65 < cLine) (h : Enc enc k) (hk : k + 1 ≤ 64 := by decide) : BinD X (compareOp .In) (enc x) (.list (xs.map enc)) (.bool (decide (x ∈ xs))) := by
  have := BinD.inD (X := X) hu (h.shaped (Nat.le_of_succ_le hk) x) (h.list.shaped hk xs)
  rw [h.any] at this
  exact this
/-! a < b < c -/
theorem E.chain {op op' : CmpOp} {x y : Bool} (ha : E X ρ a d) (hb : E X ρ b d1) (hc : E X ρ c d2) (ho : BinD X (compareOp op) d d1 (.bool x)) (ho' : x = true → BinD X (compareOp op') d1 d2 (.bool y)) (hy : x = false → y = false) (ho2 : ∃ r', OpR X (compareOp op') r') (hm : lastMarks [op, op'] [b, c] = false := by rfl) : E X ρ (.Compare a [op, op'] [b, c] pos) (.bool (x && y)) := ⟨fun σ B H sd H0 s0 Q q => by
  obtain ⟨r, ho, hr⟩ := ho
  cases x with
  | true =>
    obtain ⟨r', ho', hr'⟩ := ho' rfl
    refine WE.of (pe_chain ho ho' pWE pWE pWE hm) (ha σ B H sd H0 s0 _ fun x H1 s1 hx => hb σ B H sd H1 (s0.trans s1) _ fun y' H2 s2 hy' => ?_)
    refine hr H2 x y' (Dp.mono s2 hx) hy' _ fun v H3 s3 hv => ⟨true, hv.inv_bl, ?_⟩
    rw [if_pos rfl]
    refine hc σ B H sd H3 (s0.trans (s1.trans (s2.trans s3))) _ fun w H4 s4 hw => ?_
    exact hr' H4 y' w (Dp.mono (s3.trans s4) hy') hw _ fun v H5 s5 hv => q v H5 (s1.trans (s2.trans (s3.trans (s4.trans s5)))) hv
  | false =>
    obtain ⟨r', ho2⟩ := ho2
    refine WE.of (pe_chain ho ho2 pWE pWE pWE hm) (ha σ B H sd H0 s0 _ fun x H1 s1 hx => hb σ B H sd H1 (s0.trans s1) _ fun y' H2 s2 hy' => ?_)
    refine hr H2 x y' (Dp.mono s2 hx) hy' _ fun v H3 s3 hv => ⟨false, hv.inv_bl, ?_⟩
    rw [if_neg (by decide)]
    exact q _ H3 (s1.trans (s2.trans s3)) (.bl _)⟩
/-! isinstance(e, T), T built-in -/
def tyN : PD → String
  | .none => "NoneType"
  | .bool _ => "bool"
  | .int _ => "int"
  | .str _ => "str"
  | .list _ => "list"
  | .tuple _ => "tuple"
  | .dict _ => "dict"
theorem tyx {K : PySem.W.Frag} {H : Hp} {v : V} (h : Dp K H v d) : TyX K H v (.type (tyN d)) := by
  cases h with
  | non => exact .base .non
  | bl b => exact .base (.bl b)
  | int i => exact .base (.int i)
  | str x => exact .base (.str x)
  | lst h1 h2 =>
    rcases h1 with (h1 | ⟨o, h1⟩) | ⟨o, its, n, h1, h3, _⟩
    · exact .base (.lst h1)
    · exact .base (.frz h1)
    · exact .kList h1 h3
  | tup h1 h2 =>
    rcases h1 with (h1 | ⟨o, h1⟩) | ⟨o, its, n, h1, h3, _⟩
    · exact .base (.tup h1)
    · exact .fTuple h1
    · exact .kTuple h1 h3
def kInt : PD → Bool
  | .int _ => true
  | .bool _ => true
  | _ => false
def kBool : PD → Bool
  | .bool _ => true
  | _ => false
def kList : PD → Bool
  | .list _ => true
  | _ => false
def kTup : PD → Bool
  | .tuple _ => true
  | _ => false
theorem kit_int (d : PD) : kitB (tyN d) "int" = some (kInt d) := by cases d <;> (dsimp only [tyN, kInt]; decide +kernel)
theorem kit_bool (d : PD) : kitB (tyN d) "bool" = some (kBool d) := by cases d <;> (dsimp only [tyN, kBool]; decide +kernel)
theorem kit_list (d : PD) : kitB (tyN d) "list" = some (kList d) := by cases d <;> (dsimp only [tyN, kList]; decide +kernel)
theorem kit_tup (d : PD) : kitB (tyN d) "tuple" = some (kTup d) := by cases d <;> (dsimp only [tyN, kTup]; decide +kernel)
theorem E.isi {T : Str} {t : String} {p1 p3 : Pos} {r : Bool} (h : E X ρ e d) (hm : X.mg "isinstance" = none) (hT : X.mg T = none) (hr : kitB (tyN d) t = some r) (hb : bootBuiltins T = some (.type t) := by decide +kernel) (hi : bootBuiltins "isinstance" = some (.builtin "isinstance") := by decide +kernel) (hg : Gl X "isinstance" := by rfl) (hgT : Gl X T := by rfl)
    (hn : T ≠ "__name__" := by decide) (hdb : (T == ("__debug__" : Str)) = false := by decide)
    (he : starEach (e :: [.Name T p3]) X.env = (false, eval e X.env) :: starEach [.Name T p3] X.env := by rfl) (he2 : starEach [.Name T p3] X.env = (false, eval (.Name T p3) X.env) :: starEach [] X.env := by rfl) (hpl : (backTo pos (starEach [.Name T p3] X.env)).any (·.1) = false := by rfl) :
    E X ρ (.Call (.Name "isinstance" p1) [e, .Name T p3] [] pos) (.bool r) := ⟨fun σ B H sd H0 s0 Q q =>
  WE.of (pe_callB call_isi hg hm hi (pa_cons pWE (pa_cons (pe_bltn (v := .ty t) hgT hT hb rfl hn hdb) pa_nil he2) he) (by decide) (by decide) he hpl)
    (h σ B H sd H0 s0 _ fun v H1 s1 hv => ⟨v, .ty t, .type (tyN d), .type t, r, rfl, .ty t, tyx hv, kit_ty hr, q _ H1 s1 (.bl _)⟩)⟩
theorem CallD.allB (hc : X.calm = true) {bs : List Bool} : CallD X (.builtin "all") [.list (bs.map PyData.bool)] (.bool (bs.all id)) := ⟨_, cr_all hc, fun H vs h Q q => by
  obtain ⟨v, rfl, h1⟩ := DpAll.one h
  obtain ⟨a, xs, rfl, h2, h3⟩ := h1.inv_list
  refine ⟨a, bs, rfl, ?_, q _ H (Same.refl H) (.bl _)⟩
  have : ∀ {xs : List V} {bs : List Bool}, DpAll X.K H xs (bs.map PyData.bool) → xs = bs.map V.bl := fun {xs bs} => by
    induction bs generalizing xs with
    | nil => intro h; cases h; rfl
    | cons b bs ih =>
      intro h
      cases h with
      | cons h4 h5 => rw [List.map_cons, h4.inv_bl, ih h5]
  rw [← this h3]
  exact h2⟩
end
theorem _root_.L2.Room.u65 {k : Nat} {A : Around} (r : Room k A) : A.units + 65 < cLine := by have := r.un; omega
theorem _root_.L2.Room.u64 {k : Nat} {A : Around} (r : Room k A) : A.units + 64 < cLine := by have := r.un; omega
theorem _root_.L2.Room.u1 {k : Nat} {A : Around} (r : Room k A) : A.units + 1 < cLine := by have := r.un; omega
theorem atI_map {α : Type} (enc : α → PD) (xs : List α) (d : α) {i : Int} (h0 : 0 ≤ i) (h1 : i < xs.length) : atI (xs.map enc) i = some (enc (xs.getD i.toNat d)) := by
  have e : i = ((i.toNat : Nat) : Int) := by omega
  have hl : i.toNat < xs.length := by omega
  have a := atI_nat (xs := xs.map enc) (j := i.toNat) (v := enc (xs.getD i.toNat d)) (by rw [List.getElem?_map, List.getElem?_eq_getElem hl, List.getD_eq_getElem?_getD, List.getElem?_eq_getElem hl] <;> rfl)
  rw [← e] at a
  exact a
theorem noLs_map {α : Type} {enc : α → PD} (h : ∀ a, noL (enc a) = true) (xs : List α) : noL.noLs (xs.map enc) = true := by
  rw [noLs_all]
  intro d hd
  obtain ⟨a, _, rfl⟩ := List.mem_map.mp hd
  exact h a
theorem CDivW.num {i : Int} (j : Int) (h : 0 < j := by decide) (hb : j.natAbs < 2 ^ 100 := by decide) : CDivW i j := wide_div h hb (by decide) (by decide)
theorem Bd.of {n : Nat} {i : Int} (k : Nat) (h : i.natAbs ≤ k) (hk : k < 2 ^ n := by decide) : Bd n i := Nat.lt_of_le_of_lt h hk
end NF
/-! Exceptions. -/
namespace NF
open PySem PySem.Spec PyProof.Rows L2
theorem SD.setV {K : PySem.W.Frag} {B H : Hp} {σ : St} {ρ : Rho} {v : V} {i : Nat} (h : SD K B H σ ρ) (hi : i < ρ.length) : SD K B H (σ.set i (some v)) (ρ.set i (.val v)) where
  sub := h.sub
  len := by rw [List.length_set, List.length_set, h.len]
  has := fun j s a b => by
    by_cases e : i = j
    · subst e
      rw [List.getElem?_set_self hi] at a
      cases a
      exact ⟨v, List.getElem?_set_self (by rw [h.len]; exact hi), rfl⟩
    · rw [List.getElem?_set_ne e] at a ⊢
      exact h.has j s a b
  apart := fun j k sj sk l a1 a2 a3 a4 a5 a6 => by
    by_cases e : i = j
    · subst e
      rw [List.getElem?_set_self hi] at a1
      cases a1
      cases a2
    · by_cases e' : i = k
      · subst e'
        rw [List.getElem?_set_self hi] at a3
        cases a3
        cases a4
      · rw [List.getElem?_set_ne e] at a1 a5
        rw [List.getElem?_set_ne e'] at a3 a6
        exact h.apart j k sj sk l a1 a2 a3 a4 a5 a6
/-- an own exception class over ValueError, by the module's name x -/
structure ExcN (K : PySem.W.Frag) (mg : Str → Option Value) (x : Str) (C : Addr) : Prop where
  g : mg x = some (.ref C)
  q : PySem.W.excIn K C He.veBase "ValueError.__new__" = true
  kp : PySem.W.keepIn K (.ref C) = true
  sb : PySem.W.subIn K (.ref C) (.type "BaseException") = some true
  ty : PySem.W.typeIn K (.ref C) = some (.type "type")
section
variable {X : Cx} {ρ : Rho} {e a b c : Expr} {es : List Expr} {d : PD} {ds : List PD} {pos pos2 p : Pos} {P : Post} {rest : List Stmt} {C : Addr} {s : Sl}
/-- raise x(a) -/
theorem S.raise {x : Str} (N : ExcN X.K X.mg x C) (ha : E X ρ a d) (hex : P.ex C ρ) (hc : X.calm = true := by rfl) (hg : Gl X x := by rfl) (hs : starEach [a] X.env = (false, eval a X.env) :: starEach [] X.env := by rfl) (hdb : (x == ("__debug__" : Str)) = false := by decide) :
    S X (.Raise (some (.Call (.Name x p) [a] [] pos)) none pos2 :: rest) ρ P := ⟨fun σ B H D sd n r bk ct ex => by
  obtain ⟨W, tk, w⟩ := ex
  exact ss_cons (WS.of (ps_raise hc tk (SkE.pmk_own1 PySem.F.excBase_ValueError N.q N.g N.kp (raises_own N.sb N.ty) hg pWE hs hdb)) (ha σ B H sd H (Same.refl H) _ fun v H1 s1 hv => w C σ B H1 ρ (Same.refl B) (sd.mono s1) hex))⟩
/-- an expression that raises -/
structure EX (X : Cx) (ρ : Rho) (e : Expr) (C : Addr) : Prop where
  run : ∀ σ B H, SD X.K B H σ ρ → ∀ W : WX, Takes X W → (∀ H', Same H H' → W (.ref C) none σ H') → ∀ Q, WE X e σ H Q
theorem S.exprX (h : EX X ρ e C) (hex : P.ex C ρ) (hs : swapsWith e none pos.line X.env = pure false := by rfl) : S X (.Expr e pos :: rest) ρ P := ⟨fun σ B H D sd n r bk ct ex => by
  obtain ⟨W, tk, w⟩ := ex
  exact ss_cons (WS.of (ps_expr pWE hs) (h.run σ B H sd W tk (fun H' s1 => w C σ B H' ρ (Same.refl B) (sd.mono s1) hex) _))⟩
theorem S.retX (h : EX X ρ e C) (hex : P.ex C ρ) : S X (.Return (some e) pos :: rest) ρ P := ⟨fun σ B H D sd n r bk ct ex => by
  obtain ⟨W, tk, w⟩ := ex
  exact ss_cons (WS.of (ps_ret pWE) (h.run σ B H sd W tk (fun H' s1 => w C σ B H' ρ (Same.refl B) (sd.mono s1) hex) _))⟩
/-- an expression as a statement, of no matter -/
theorem S.expr (h : ES X ρ e s) (k : S X rest ρ P) (hs : swapsWith e none pos.line X.env = pure false := by rfl) : S X (.Expr e pos :: rest) ρ P := ⟨fun σ B H D sd n r bk ct ex =>
  ss_cons (WS.of (ps_expr pWE hs) (h.run σ B H sd _ fun v B' H' s1 s2 hv => k.go (Same.refl B) (sd.mono (s1.trans s2)) n r bk ct ex))⟩
end
/-- hands back, or raises -/
def spM (K : PySem.W.Frag) (R : List PD → Sl → Prop) (RX : List PD → Addr → Prop) : Sp := fun vs H Q E => ∃ ds, DpAll K H vs ds ∧ ((∃ s, R ds s ∧ ∀ v B' H', Same H B' → Same B' H' → HasS K B' H' v s → Q v H') ∨ ∃ C, RX ds C ∧ ∀ H', Same H H' → E (.ref C) none H')
structure CalX (P : Program) (w : World) (K : PySem.W.Frag) (mg : Str → Option Value) (base : Heap) (k : Nat) (x : Str) (sp : Sp) : Prop where
  ex : ∃ (f : Addr) (fd : FuncData) (ps : List Str), FnOk P w K mg base (L2.CX P w) k f fd ps sp ∧ mg x = some (.ref f) ∧ PySem.W.keepIn K (.ref f) = true ∧ Binds K fd ps []
section
variable {X : Cx} {ρ : Rho} {e a b c : Expr} {es : List Expr} {d : PD} {ds : List PD} {pos pos2 p : Pos} {P : Post} {rest : List Stmt} {C : Addr} {s : Sl} {R : List PD → Sl → Prop} {RX : List PD → Addr → Prop}
theorem EX.call {x : Str} {k j : Nat} (c : CalX X.prog X.w X.K X.mg X.base k x (spM X.K R RX)) (hr : Room j X.A) (ha : As X ρ (e :: es) ds) (hR : RX ds C) (hk : k ≤ j := by decide) (hg : Gl X x := by rfl)
    (hdb : (x == ("__debug__" : Str)) = false := by decide) (he : starEach (e :: es) X.env = (false, eval e X.env) :: starEach es X.env := by rfl) (hpl : (backTo pos (starEach es X.env)).any (·.1) = false := by rfl) :
    EX X ρ (.Call (.Name x p) (e :: es) [] pos) C := ⟨fun σ B H sd W tk w Q => by
  obtain ⟨f, fd, ps, F, hm, kp, b⟩ := c.ex
  exact WE.of (pe_callS F (hr.mono hk) hg hm kp b (fun σ => passAt tk σ) pWA hdb he hpl) (ha σ B H sd H (Same.refl H) _ fun vs H1 s1 hvs => ⟨ds, hvs, .inr ⟨C, hR, fun H' s2 => w H' (s1.trans s2)⟩⟩)⟩
/-- .. where it hands back -/
theorem ES.callX {x : Str} {k j : Nat} (c : CalX X.prog X.w X.K X.mg X.base k x (spM X.K R RX)) (hr : Room j X.A) (ha : As X ρ (e :: es) ds) (hR : R ds s) (hx : ∀ W : WX, Takes X W → True) (tk : ∃ W : WX, Takes X W) (hk : k ≤ j := by decide) (hg : Gl X x := by rfl)
    (hdb : (x == ("__debug__" : Str)) = false := by decide) (he : starEach (e :: es) X.env = (false, eval e X.env) :: starEach es X.env := by rfl) (hpl : (backTo pos (starEach es X.env)).any (·.1) = false := by rfl) :
    ES X ρ (.Call (.Name x p) (e :: es) [] pos) s := ⟨fun σ B H sd Q q => by
  obtain ⟨f, fd, ps, F, hm, kp, b⟩ := c.ex
  obtain ⟨W, tk⟩ := tk
  exact WE.of (pe_callS F (hr.mono hk) hg hm kp b (fun σ => passAt tk σ) pWA hdb he hpl) (ha σ B H sd H (Same.refl H) _ fun vs H1 s1 hvs => ⟨ds, hvs, .inl ⟨s, hR, fun v B' H' s2 s3 hv => q v B' H' (s1.trans s2) s3 hv⟩⟩)⟩
/-- try: body except x as n: suite -/
theorem S.tryAs {x n : Str} {c : Value} {body suite : List Stmt} {b₀ : Stmt} {np pos' : Pos} (i : Nat) (hc : Names X x c)
    (hb : ∀ pn xe, S (X.tr pn xe) body ρ { nx := fun ρ' => S X rest ρ' P, rt := P.rt, bk := P.bk, ct := P.ct, ex := fun C ρ' => PySem.W.exmOne X.K (.ref C) c = some true ∧ i < ρ'.length ∧ ∀ a oe pn, Zc (.ref C) none oe → (∃ vs, oe.data = .fields vs) → S (X.suite a ((a, oe) :: pn)) (b₀ :: suite) (ρ'.set i (.val (.ref a))) { nx := fun ρ'' => i < ρ''.length ∧ S X rest (ρ''.set i .non) P, rt := P.rt } })
    (hN : X.N.Nodup) (hs : X.stack = X.env :: X.outer := by rfl) (hf : X.env.frame = some X.env.locals := by rfl) (hi : X.N[i]? = some n := by rfl) (hln : X.env.kindOf n = some .local := by rfl) :
    S X (.Try body [.ExceptHandler (some (.Name x np)) (some n) (b₀ :: suite) pos'] [] [] pos :: rest) ρ P := ⟨fun σ B H D sd n' r bk ct ex => by
  refine ss_cons (WS.of (ps_try_as (tb := fun W D σ H => ∀ pn xe, Takes (X.tr pn xe) W → WSs (X.tr pn xe) body D σ H) (ts := fun a cls d D σ H => ∀ oe pn, Zc cls d oe → (∃ vs, oe.data = .fields vs) → WSs (X.suite a ((a, oe) :: pn)) (b₀ :: suite) D σ H) hs hf hN hi hln hc takes0
    (fun W pn xe tk _ => ⟨fun pins s σ H D I h => h pn xe tk pins s I⟩) (fun a oe cls d pn hz hv => ⟨fun pins s σ H D I h => h oe pn hz hv pins s I⟩)) ?_)
  intro pn xe tk
  refine (hb pn xe).run σ B H _ sd (fun σ' B' H' ρ' s1 sd1 k => k.go s1 sd1 n' r bk ct ex) r bk ct ⟨_, tk, fun C σ' B' H' ρ' s1 sd1 k => ?_⟩
  obtain ⟨k1, k2, k3⟩ := k
  refine ⟨true, k1, fun _ a ha oe pn hz hv => ?_, fun z => Bool.noConfusion z⟩
  refine (k3 a oe pn hz hv).run _ B' H' _ (sd1.setV k2) (fun σ'' B'' H'' ρ'' s2 sd2 k4 => ?_) (fun v B'' H'' s s2 => r v B'' H'' s (s1.trans s2)) (fun _ _ _ _ _ _ q => q.elim) (fun _ _ _ _ _ _ q => q.elim) ExT.no
  exact k4.2.go (s1.trans s2) (sd2.forget k4.1) n' r bk ct ex⟩
end
/-! isinstance of the caught one -/
theorem E.isE {X : Cx} {ρ : Rho} {D a : Addr} {oe : Obj} {pn : List (Addr × Obj)} {n T : Str} {p1 p2 p3 pos : Pos} {r : Bool} {c : V} {cv : Value} (i : Nat) (hi : ρ[i]? = some (.val (.ref a))) (Ce : ExcC X.K D) (hz : Zc (.ref D) none oe) (hf : ∃ vs, oe.data = .fields vs) (hm : X.mg "isinstance" = none)
    (hT : PE (X.suite a ((a, oe) :: pn)) (.Name T p3) (tC c)) (hc : ∀ u, RelV c u → u = cv) (hk : PySem.W.kitOne X.K (.ref D) cv = some r) (hN : X.N[i]? = some n := by rfl) (hv : Vis X.env.scope n := by first | exact Or.inl rfl | exact Or.inr (Or.inl rfl) | exact Or.inr (Or.inr rfl))
    (hib : bootBuiltins "isinstance" = some (.builtin "isinstance") := by decide +kernel) (hg : Gl X "isinstance" := by rfl)
    (h1 : (n == ("__debug__" : Str)) = false := by decide) (h2 : (n == ("__classdict__" : Str)) = false := by decide)
    (he : starEach [.Name n p2, .Name T p3] X.env = (false, eval (.Name n p2) X.env) :: starEach [.Name T p3] X.env := by rfl) (he2 : starEach [.Name T p3] X.env = (false, eval (.Name T p3) X.env) :: starEach [] X.env := by rfl) (hpl : (backTo pos (starEach [.Name T p3] X.env)).any (·.1) = false := by rfl) :
    E (X.suite a ((a, oe) :: pn)) ρ (.Call (.Name "isinstance" p1) [.Name n p2, .Name T p3] [] pos) (.bool r) := ⟨fun σ B H sd H0 s0 Q q => by
  obtain ⟨v, hs, hv'⟩ := sd.has i _ hi (by simp)
  have hv' : v = .ref a := hv'
  subst hv'
  exact WE.of (pe_callB (call_isE Ce hz hf) hg hm hib (pa_cons (pe_var hN hv h1 h2) (pa_cons hT pa_nil he2) he) (by decide) (by decide) he hpl)
    ⟨_, hs, c, cv, r, rfl, hc, hk, q _ H0 (Same.refl H0) (.bl _)⟩⟩
section
variable {P : Program} {w : World} {K : PySem.W.Frag} {mg : Str → Option Value} {base : Heap}
abbrev bX (P : Program) (w : World) (K : PySem.W.Frag) (mg : Str → Option Value) (base : Heap) (N : List Str) (x : Str) (sc : Scope) (f : Addr) (cdv : Value) (A : Around) (outer : List Env) (s : Shared) (H : Hp) (E : XK) : Cx :=
  cxOf (L2.CX P w) P w K mg base N x sc f cdv A outer s H E
/-- a def that hands back, or raises -/
theorem def_X {x : Str} {st : Stmt} {f : Addr} {fd : FuncData} {N ps : List Str} {k : Nat} {R : List PD → Sl → Prop} {RX : List PD → Addr → Prop} (F : FunD K x x (defArgs st) (defBody st) (defScope st) [] [] f fd) (hm : mg x = some (.ref f)) (Sc : FnScope N ps (defScope st))
    (hb : Binds K fd ps []) (len : ∀ ds s, R ds s → ds.length = ps.length) (lenX : ∀ ds C, RX ds C → ds.length = ps.length)
    (hbody : ∀ (cdv : Value) (A : Around) (outer : List Env) (s : Shared) (H : Hp) (E : XK) (ds : List PD), Room k (A.deeper (envOfC x (defScope st) s.heap.objs.size f cdv)) →
      (∀ sl, R ds sl → S (bX P w K mg base N x (defScope st) f cdv A outer s H E) (defBody st) (rho0 N.length ds) (retP sl)) ∧
      ∀ C, RX ds C → S (bX P w K mg base N x (defScope st) f cdv A outer s H E) (defBody st) (rho0 N.length ds) { nx := fun _ => False, rt := fun _ => False, ex := fun C' _ => C' = C }) : CalX P w K mg base (k + 1) x (spM K R RX) := by
  refine ⟨f, fd, ps, ?_, hm, F.kp, hb⟩
  refine F.ok Sc (fun vs H Q E h => ?_) fun cdv A outer s H vs Q E hr h => ?_
  · obtain ⟨ds, h1, h2⟩ := h
    rw [h1.length]
    rcases h2 with ⟨s, h2, _⟩ | ⟨C, h2, _⟩
    · exact len _ _ h2
    · exact lenX _ _ h2
  · obtain ⟨ds, h1, h2⟩ := h
    refine ⟨_, pWSs, ?_⟩
    rcases h2 with ⟨sl, h2, h3⟩ | ⟨C, h2, h3⟩
    · refine ((hbody cdv A outer s H E ds hr).1 sl h2).run (L2.start N vs) H H _ (SD.start h1) (fun σ' B' H' ρ' a b c => ?_) (fun v B' H' s' a b c d => ?_) (fun _ _ _ _ _ _ q => q.elim) (fun _ _ _ _ _ _ q => q.elim) ExT.no
      · have c : sl = .dat .none := c
        subst c
        exact h3 _ B' H' a b.sub Dp.non
      · have d : s' = sl := d
        subst d
        exact h3 v B' H' a b c
    · refine ((hbody cdv A outer s H E ds hr).2 C h2).run (L2.start N vs) H H _ (SD.start h1) (fun _ _ _ _ _ _ q => q.elim) (fun _ _ _ _ _ _ _ q => q.elim) (fun _ _ _ _ _ _ q => q.elim) (fun _ _ _ _ _ _ q => q.elim) ⟨_, takes_of rfl rfl rfl rfl, fun C' σ' B' H' ρ' s1 s2 hc => ?_⟩
      have hc : C' = C := hc
      subst hc
      exact h3 H' (s1.trans s2.sub)
end
theorem G.unl {X : Cx} {ρ : Rho} {es : List Expr} {ds : List PD} {pos : Pos} {vs : List Nat} {Q : Rho → Prop} {k : Nat} (h : Gs X es ρ ds vs Q) (hl : ds.length = es.length) (hc : X.calm = true := by rfl) (hn : (assignEach es X.env).length = es.length := by rfl) (hst : (assignEach es X.env).findIdx? (·.1) = none := by rfl) : G X (.Tuple es k pos) ρ (.list ds) vs Q := ⟨fun σ B H v s hd R r => by
  obtain ⟨a, xs, rfl, h1, h2⟩ := hd.inv_list
  exact WG.of (pg_unl hc pWGs hn hst) ⟨a, xs, rfl, s.sub.seq h1, by rw [h2.length, hl], h.run σ B H xs s h2 R r⟩⟩
end NF
/-! The end: facts out of the head. -/
namespace NF
open PySem PySem.Spec PyProof.Rows L2
def eqB (a b : Option Bool) : Bool := decide (a = b)
def ecB (K : PySem.W.Frag) (D : Addr) : Bool :=
  He.eqO (PySem.W.findIn K (.ref D) "__getattribute__") (some (some (.builtin "BaseException.__getattribute__"))) &&
  (He.eqO (PySem.W.findIn K (.ref D) "__getattr__") (some none) &&
  (eqB (PySem.W.subIn K (.ref D) (.type "BaseException")) (some true) &&
  (PySem.W.hasDictIn K D &&
  (He.eqO (PySem.W.findIn K (.ref D) "__class__") (some (some (.builtin "object.__class__"))) &&
  (He.eqO (PySem.W.specialIn K (.builtin "object.__class__") "__get__") (some (some (.builtin "getset_descriptor.__get__"))) &&
  (eqB (PySem.W.takesIn K (.builtin "object.__class__")) (some true) &&
  eqB (PySem.W.mroIn K D (.type "object")) (some true)))))))
theorem ecB_ok {K : PySem.W.Frag} {D : Addr} (h : ecB K D = true) : ExcC K D := by
  unfold ecB at h
  simp only [Bool.and_eq_true] at h
  obtain ⟨h1, h2, h3, h4, h5, h6, h7, h8⟩ := h
  exact ⟨of_decide_eq_true h1, of_decide_eq_true h2, of_decide_eq_true h3, h4, of_decide_eq_true h5, of_decide_eq_true h6, of_decide_eq_true h7, of_decide_eq_true h8⟩
theorem eqB_ok {a b : Option Bool} (h : eqB a b = true) : a = b := of_decide_eq_true h
theorem ExcN.of {K : PySem.W.Frag} {h : Heap} {mg : Str → Option Value} (X : K.In h) (G : h.Ns mainGlobals mg) {x : Str} (a : He.Fa.ok K (.glo x) = true) (b : He.Fa.ok K (.exc x) = true) : ExcN K mg x (He.ga K x) :=
  have e := He.exc_ok b
  ⟨He.glo_ok X G a, e.1, e.2.1, e.2.2.1, e.2.2.2⟩
theorem law_end {K : PySem.W.Frag} {R : List PD → Sl → Prop} (hR : ∀ ns : List Int, ns.length ≤ 63 → R [.list (ns.map .int)] (.dat (.bool true))) (H : Hp) (a : Addr) (ns : List Int) (hl : ns.length ≤ 63) (h : SqL K H a (ns.map V.int)) :
    spS K R [V.ref a] H (fun v _ => v = V.bl true) fun _ _ _ => False :=
  ⟨[.list (ns.map .int)], .dat (.bool true), .cons (.lst h (DpAll.of_ints ns)) .nil, hR ns hl, fun v B' H' _ _ hv => Dp.inv_bl hv⟩
theorem at_ok {fa : List He.Fa} {fn : List He.DefD} {K : PySem.W.Frag} (c : He.SaysD fa fn K) (i : Nat) (f : He.Fa) (h : fa[i]? = some f) : He.Fa.ok K f = true := c.fact i h
end NF
/-! gcd, a global tuple, a parallel assignment. -/
namespace NF
open PySem PySem.Spec PyProof.Rows L2
section
variable {X : Cx} {ρ : Rho} {e a b c : Expr} {es : List Expr} {d d1 d2 d3 : PD} {ds : List PD} {pos : Pos} {P : Post} {rest : List Stmt}
theorem E.gcd {x : Str} {p : Pos} {i j : Int} (hm : X.mg x = some (.builtin "math.gcd")) (ha : E X ρ a (.int i)) (hb : E X ρ b (.int j)) (hg : Gl X x := by rfl)
    (he : starEach [a, b] X.env = (false, eval a X.env) :: starEach [b] X.env := by rfl) (hpl : (backTo pos (starEach [b] X.env)).any (·.1) = false := by rfl) (hs2 : starEach [b] X.env = [(false, eval b X.env)] := by rfl) (hn : x ≠ "__name__" := by decide) (hdb : (x == ("__debug__" : Str)) = false := by decide) :
    E X ρ (.Call (.Name x p) [a, b] [] pos) (.int ((Nat.gcd i.natAbs j.natAbs : Nat) : Int)) := ⟨fun σ B H sd H0 s0 Q q =>
  WE.of (pe_callBfun cr_gcd hg hm (pA2 (by rw [he, hs2]) hs2) hdb he hpl) (ha σ B H sd H0 s0 _ fun v H1 s1 hv => hb σ B H sd H1 (s0.trans s1) _ fun v2 H2 s2 hv2 => ⟨i, j, by rw [hv.inv_int, hv2.inv_int], q _ H2 (s1.trans s2) (.int _)⟩)⟩
theorem E.gtup {x : Str} {is : List Int} (hm : ∃ a, X.mg x = some (.ref a) ∧ ∀ H, SqT X.K H a (is.map V.int)) (hg : Gl X x := by rfl) (hdb : (x == ("__debug__" : Str)) = false := by decide) : E X ρ (.Name x pos) (.tuple (is.map PyData.int)) := ⟨fun σ B H sd H0 s0 Q q => by
  obtain ⟨a, hm, h⟩ := hm
  exact WE.of (pe_glob (v := .ref a) hg hm rfl hdb) (q _ H0 (Same.refl H0) (.tup (h H0) (DpAll.of_ints is)))⟩
/-- x, y = a, b -/
theorem S.par {x y : Str} {px py pt pt2 : Pos} {kt k2 : Nat} (i j : Nat) (h : As X ρ [a, b] [d1, d2]) (n : (noL d1 && noL d2 || noOwn ρ) = true) (k : S X rest ((ρ.set i (.dat d1)).set j (.dat d2)) P) (hN : X.N.Nodup) (hij : i ≠ j := by decide)
    (hl : i < ρ.length := by exact Nat.le_of_ble_eq_true rfl) (hl2 : j < ρ.length := by exact Nat.le_of_ble_eq_true rfl) (hi : X.N[i]? = some x := by rfl) (hj : X.N[j]? = some y := by rfl) (hx : X.env.scope.names.lookup x = some .local := by rfl) (hy : X.env.scope.names.lookup y = some .local := by rfl)
    (hw : swappedStores [.Tuple [.Name x px, .Name y py] kt pt] (.Tuple [a, b] k2 pt2) X.env = pure (some [x, y]) := by rfl) (hs : swapsWithSole [.Tuple [.Name x px, .Name y py] kt pt] (.Tuple [a, b] k2 pt2) pos.line X.env = pure false := by rfl) (hc : X.calm = true := by rfl) :
    S X (.Assign [.Tuple [.Name x px, .Name y py] kt pt] (.Tuple [a, b] k2 pt2) pos :: rest) ρ P := ⟨fun σ B H D sd nx r bk ct ex => by
  refine ss_cons (WS.of (ps_par hc hN hi hj hij hx hy pWA hw hs) (h σ B H sd H (Same.refl H) _ fun vs H1 s1 hvs => ?_))
  obtain ⟨v, w, rfl, hv, hw⟩ := DpAll.two hvs
  refine ⟨v, w, rfl, ?_⟩
  have s' := sd.mono s1
  have key : Dp X.K (bas σ ρ H1) v d1 ∧ Dp X.K (bas σ ρ H1) w d2 := by
    rw [Bool.or_eq_true] at n
    rcases n with n | n
    · rw [Bool.and_eq_true] at n
      exact ⟨Dp.to_base s' hv n.1, Dp.to_base s' hw n.2⟩
    · rw [bas_noOwn n]; exact ⟨hv, hw⟩
  exact k.go s'.base ((s'.rebase.set key.1 hl).set key.2 (by rw [List.length_set]; exact hl2)) nx r bk ct ex⟩
end
theorem ns_ok {K : PySem.W.Frag} {h : Heap} {mg : Str → Option Value} (X : K.In h) (G : h.Ns mainGlobals mg) {x : Str} {v : Value} (e : He.eqO (PySem.W.nsIn K mainGlobals x) (some (some v)) = true) : mg x = some v := PySem.W.mg_of X G (of_decide_eq_true e)
theorem tup_ok {K : PySem.W.Frag} {h : Heap} {mg : Str → Option Value} (X : K.In h) (G : h.Ns mainGlobals mg) {x : Str} (a : He.Fa.ok K (.glo x) = true) (e : He.tupB K x [.int 0, .int 0] = true) : ∃ a, mg x = some (.ref a) ∧ ∀ H, SqT K H a (([0, 0] : List Int).map V.int) := by
  refine ⟨_, He.glo_ok X G a, fun H => .inr ?_⟩
  unfold He.tupB at e
  split at e
  · rename_i c dict its epoch slots hl
    rw [Bool.and_eq_true, Bool.and_eq_true] at e
    obtain ⟨e1, e2, e3⟩ := e
    have e1 := of_decide_eq_true e1
    subst e1
    exact ⟨_, its, epoch, hl, rfl, rfl, of_decide_eq_true e2, He.relAll_ok e3⟩
  · cases e
theorem op_fdivWN {X : Cx} : OpR X (binaryOp .FloorDiv) (rI (fun _ j => j ≠ 0 ∧ j.natAbs.log2 < 9000) fun i j => .int (i.fdiv j)) := opI fun _ _ _ _ _ _ _ hc q => floordiv_int hc.1 q (Or.inl (PyProof.noPylong_of_log2 hc.2))
theorem BinD.fdiv {X : Cx} {i j : Int} {n : Nat} (h : j ≠ 0) (hb : Bd n j) (hn : n ≤ 8999 := by decide) : BinD X (binaryOp .FloorDiv) (.int i) (.int j) (.int (i.fdiv j)) := .I op_fdivWN ⟨h, by
  have h0 : j.natAbs ≠ 0 := by omega
  have h1 : j.natAbs < 2 ^ n := hb
  have := (Nat.log2_lt h0).mpr h1
  omega⟩ fun _ => .int _
theorem T.chain {X : Cx} {ρ : Rho} {a b c : Expr} {d d1 d2 : PD} {pos : Pos} {op op' : CmpOp} {x y : Bool} (ha : E X ρ a d) (hb : E X ρ b d1) (hc : E X ρ c d2) (ho : BinD X (compareOp op) d d1 (.bool x)) (ho' : x = true → BinD X (compareOp op') d1 d2 (.bool y)) (ho2 : ∃ r', OpR X (compareOp op') r') (hm : lastMarks [op, op'] [b, c] = false := by rfl) : T X ρ (.Compare a [op, op'] [b, c] pos) (x && y) := ⟨fun σ B H sd H0 s0 Q q => by
  obtain ⟨r, ho, hr⟩ := ho
  cases x with
  | true =>
    obtain ⟨r', ho', hr'⟩ := ho' rfl
    refine WT.of (pt_chain ho ho' pWE pWE pWE hm) (ha σ B H sd H0 s0 _ fun x H1 s1 hx => hb σ B H sd H1 (s0.trans s1) _ fun y' H2 s2 hy' => ?_)
    refine hr H2 x y' (Dp.mono s2 hx) hy' _ fun v H3 s3 hv => ⟨true, hv.inv_bl, ?_⟩
    rw [if_pos rfl]
    refine hc σ B H sd H3 (s0.trans (s1.trans (s2.trans s3))) _ fun w H4 s4 hw => ?_
    exact hr' H4 y' w (Dp.mono (s3.trans s4) hy') hw _ fun v H5 s5 hv => ⟨y, hv.inv_bl, q H5 (s1.trans (s2.trans (s3.trans (s4.trans s5))))⟩
  | false =>
    obtain ⟨r', ho2⟩ := ho2
    refine WT.of (pt_chain ho ho2 pWE pWE pWE hm) (ha σ B H sd H0 s0 _ fun x H1 s1 hx => hb σ B H sd H1 (s0.trans s1) _ fun y' H2 s2 hy' => ?_)
    refine hr H2 x y' (Dp.mono s2 hx) hy' _ fun v H3 s3 hv => ⟨false, hv.inv_bl, ?_⟩
    rw [if_neg (by decide)]
    exact ⟨false, rfl, q H3 (s1.trans (s2.trans s3))⟩⟩
end NF
set_option maxHeartbeats 0
namespace HD
open PySem PySem.Spec PyProof.Rows L2
def top (i : Nat) : Stmt := PySem.Challenge.pw_nearfields_k02_middles.main.body.getD i (.Pass ⟨0, 0, 0, 0⟩)
abbrev s_far : Stmt := top 6
abbrev s_doubled_area : Stmt := top 8
abbrev s_middle : Stmt := top 7
abbrev s__law_cell_at : Stmt := top 10
abbrev s__law_mixed : Stmt := top 11
abbrev s__law_point : Stmt := top 12
abbrev s__law_grown : Stmt := top 13
abbrev s__law_area : Stmt := top 15
abbrev s__law_whole : Stmt := top 16
abbrev s__law_into_all : Stmt := top 17
abbrev s__law_away : Stmt := top 18
abbrev s__law_in_row : Stmt := top 19
abbrev s_law : Stmt := top 20
abbrev FnP (K : PySem.W.Frag) (x : Str) (st : Stmt) (f : Addr) (fd : FuncData) : Prop := FunD K x x (defArgs st) (defBody st) (defScope st) [] [] f fd
def d_far : He.DefD := ⟨("far", none), "far", "far", defArgs s_far, defBody s_far, defScope s_far, [], []⟩
def d_doubled_area : He.DefD := ⟨("doubled_area", none), "doubled_area", "doubled_area", defArgs s_doubled_area, defBody s_doubled_area, defScope s_doubled_area, [], []⟩
def d_middle : He.DefD := ⟨("middle", none), "middle", "middle", defArgs s_middle, defBody s_middle, defScope s_middle, [], []⟩
def d__law_cell_at : He.DefD := ⟨("_law_cell_at", none), "_law_cell_at", "_law_cell_at", defArgs s__law_cell_at, defBody s__law_cell_at, defScope s__law_cell_at, [], []⟩
def d__law_mixed : He.DefD := ⟨("_law_mixed", none), "_law_mixed", "_law_mixed", defArgs s__law_mixed, defBody s__law_mixed, defScope s__law_mixed, [], []⟩
def d__law_point : He.DefD := ⟨("_law_point", none), "_law_point", "_law_point", defArgs s__law_point, defBody s__law_point, defScope s__law_point, [], []⟩
def d__law_grown : He.DefD := ⟨("_law_grown", none), "_law_grown", "_law_grown", defArgs s__law_grown, defBody s__law_grown, defScope s__law_grown, [], []⟩
def d__law_area : He.DefD := ⟨("_law_area", none), "_law_area", "_law_area", defArgs s__law_area, defBody s__law_area, defScope s__law_area, [], []⟩
def d__law_whole : He.DefD := ⟨("_law_whole", none), "_law_whole", "_law_whole", defArgs s__law_whole, defBody s__law_whole, defScope s__law_whole, [], []⟩
def d__law_into_all : He.DefD := ⟨("_law_into_all", none), "_law_into_all", "_law_into_all", defArgs s__law_into_all, defBody s__law_into_all, defScope s__law_into_all, [], []⟩
def d__law_away : He.DefD := ⟨("_law_away", none), "_law_away", "_law_away", defArgs s__law_away, defBody s__law_away, defScope s__law_away, [], []⟩
def d__law_in_row : He.DefD := ⟨("_law_in_row", none), "_law_in_row", "_law_in_row", defArgs s__law_in_row, defBody s__law_in_row, defScope s__law_in_row, [], []⟩
def d_law : He.DefD := ⟨("law", none), "law", "law", defArgs s_law, defBody s_law, defScope s_law, [], []⟩
def fn : List He.DefD := d_far :: d_doubled_area :: d_middle :: d__law_cell_at :: d__law_mixed :: d__law_point :: d__law_grown :: d__law_area :: d__law_whole :: d__law_into_all :: d__law_away :: d__law_in_row :: d_law :: []
def fa : List He.Fa := .glo "far" :: .glo "doubled_area" :: .glo "middle" :: .glo "_law_cell_at" :: .glo "_law_mixed" :: .glo "_law_point" :: .glo "_law_grown" :: .glo "_law_area" :: .glo "_law_whole" :: .glo "_law_into_all" :: .glo "_law_away" :: .glo "_law_in_row" :: .glo "law" :: .glo "ORIGIN" :: .glo "InRow" :: .exc "InRow" :: .free "len" :: .free "int" :: .free "isinstance" :: .free "bool" :: .free "abs" :: .free "ValueError" :: .glo "FieldError" :: .exm "InRow" "FieldError" true :: .free "range" :: .free "tuple" :: .free "all" :: []
def ex (K : PySem.W.Frag) : Bool := He.tupB K "ORIGIN" [.int 0, .int 0] && (He.eqO (PySem.W.nsIn K mainGlobals "gcd") (some (some (.builtin "math.gcd"))) && (NF.ecB K (He.ga K "InRow") && (NF.eqB (PySem.W.kitOne K (.ref (He.ga K "InRow")) (.ref (He.ga K "InRow"))) (some true) && (NF.eqB (PySem.W.kitOne K (.ref (He.ga K "InRow")) (.type "ValueError")) (some true)))))
abbrev R : PySem.W.OpenRow := PySem.W.OpenLaw.row PySem.Challenge.rw_nearfields_k02_middles
abbrev hk : PySem.W.Hook := He.hookX 5 fa fn [] [] ex
def ob (s : PySem.W.SharedT) : He.AlX := He.obsX 5 fa fn [] [] ex (HandSHeadRun.getT s)
theorem ob_eq (s : PySem.W.SharedT) : ob s = hk.obs s.abs := He.obsX_eq (HandSHeadRun.getT_eq s)
def loose0 : List PySem.Str := ["FieldError", "InRow", "ORIGIN", "far", "middle", "doubled_area", "_law_cell_at", "_law_mixed", "_law_point", "_law_grown", "_law_points", "_law_area", "_law_whole", "_law_into_all", "_law_away", "_law_in_row"]
def loose : List PySem.Str := loose0
abbrev qv : Program := PySem.W.view R.prog [0, 20]
theorem run (w : World) : HandSHeadRun.RunEqI R qv hk ob 6000 loose w := by
  unfold HandSHeadRun.RunEqI
  kernel_rfl
end HD
set_option maxHeartbeats 2000000
namespace NF
open PySem PySem.Spec PyProof.Rows L2 HD
section
variable {P : Program} {w : World} {K : PySem.W.Frag} {mg : Str → Option Value} {base : Heap} {f : Addr} {fd : FuncData}
def farI (a b : Pt) : Int := (b.1 - a.1) * (b.1 - a.1) + (b.2 - a.2) * (b.2 - a.2)
def R_far (ds : List PD) (s : Sl) : Prop := ∃ a b, PtB a ∧ PtB b ∧ ds = [eP a, eP b] ∧ s = .dat (.int (farI a b))
theorem farB {a b : Pt} (ha : PtB a) (hb : PtB b) : Bd 51 (farI a b) := ((hb.1.sub ha.1).mul (hb.1.sub ha.1)).add ((hb.2.sub ha.2).mul (hb.2.sub ha.2))
theorem ok_far (F : FnP K "far" s_far f fd) (hm : mg "far" = some (.ref f))  : Cal P w K mg base 1 "far" (spS K R_far) := by
  have nd : (["a", "b", "across", "up"] : List Str).Nodup := by decide +kernel
  refine def_S F hm (N := ["a", "b", "across", "up"]) (ps := ["a", "b"]) ⟨rfl, rfl, rfl, by decide +kernel, rfl, by decide +kernel, by decide +kernel⟩ (F.bindsN fun _ _ _ _ _ _ us hl => match us, hl with | [_, _], _ => rfl) ?_ ?_
  · rintro ds s ⟨a, b, ha, hb, rfl, rfl⟩
    rfl
  rintro cdv A outer s H ds sl hr ⟨a, b, ha, hb, rfl, rfl⟩
  refine S.asg 2 (E.op (E.ix (E.var 1) E.int (IxD.tup rfl)) (E.ix (E.var 0) E.int (IxD.tup rfl)) BinD.sub) rfl (
    S.asg 3 (E.op (E.ix (E.var 1) E.int (IxD.tup rfl)) (E.ix (E.var 0) E.int (IxD.tup rfl)) BinD.sub) rfl (
    S.ret (E.toS (E.op (E.op (E.var 2) (E.var 2) (BinD.mulW ?_)) (E.op (E.var 3) (E.var 3) (BinD.mulW ?_)) BinD.add)) rfl) nd) nd
  · exact (hb.1.sub ha.1).w (hb.1.sub ha.1)
  · exact (hb.2.sub ha.2).w (hb.2.sub ha.2)
def areaI (a b c : Pt) : Int := (b.1 - a.1) * (c.2 - a.2) - (b.2 - a.2) * (c.1 - a.1)
def R_doubled_area (ds : List PD) (s : Sl) : Prop := ∃ a b c, PtB a ∧ PtB b ∧ PtB c ∧ ds = [eP a, eP b, eP c] ∧ s = .dat (.int (areaI a b c))
theorem areaB {a b c : Pt} (ha : PtB a) (hb : PtB b) (hc : PtB c) : Bd 51 (areaI a b c) := ((hb.1.sub ha.1).mul (hc.2.sub ha.2)).sub ((hb.2.sub ha.2).mul (hc.1.sub ha.1))
theorem ok_doubled_area (F : FnP K "doubled_area" s_doubled_area f fd) (hm : mg "doubled_area" = some (.ref f))  : Cal P w K mg base 1 "doubled_area" (spS K R_doubled_area) := by
  have nd : (["a", "b", "c"] : List Str).Nodup := by decide +kernel
  refine def_S F hm (N := ["a", "b", "c"]) (ps := ["a", "b", "c"]) ⟨rfl, rfl, rfl, by decide +kernel, rfl, by decide +kernel, by decide +kernel⟩ (F.bindsN fun _ _ _ _ _ _ us hl => match us, hl with | [_, _, _], _ => rfl) ?_ ?_
  · rintro ds s ⟨a, b, c, ha, hb, hc, rfl, rfl⟩
    rfl
  rintro cdv A outer s H ds sl hr ⟨a, b, c, ha, hb, hc, rfl, rfl⟩
  refine S.ret (E.toS (E.op (E.op (E.op (E.ix (E.var 1) E.int (IxD.tup rfl)) (E.ix (E.var 0) E.int (IxD.tup rfl)) BinD.sub) (E.op (E.ix (E.var 2) E.int (IxD.tup rfl)) (E.ix (E.var 0) E.int (IxD.tup rfl)) BinD.sub) (BinD.mulW ?_)) (E.op (E.op (E.ix (E.var 1) E.int (IxD.tup rfl)) (E.ix (E.var 0) E.int (IxD.tup rfl)) BinD.sub) (E.op (E.ix (E.var 2) E.int (IxD.tup rfl)) (E.ix (E.var 0) E.int (IxD.tup rfl)) BinD.sub) (BinD.mulW ?_)) BinD.sub)) rfl
  · exact (hb.1.sub ha.1).w (hc.2.sub ha.2)
  · exact (hb.2.sub ha.2).w (hc.1.sub ha.1)
def midW (a b c : Pt) : Int := 2 * areaI a b c
def midX (a b c : Pt) : Int := farI (0, 0) a * (b.2 - c.2) + farI (0, 0) b * (c.2 - a.2) + farI (0, 0) c * (a.2 - b.2)
def midY (a b c : Pt) : Int := farI (0, 0) a * (c.1 - b.1) + farI (0, 0) b * (a.1 - c.1) + farI (0, 0) c * (b.1 - a.1)
def midG (a b c : Pt) : Nat := Nat.gcd (Nat.gcd (midX a b c).natAbs (midY a b c).natAbs) (midW a b c).natAbs
def midS (a b c : Pt) : Int := if midW a b c < 0 then -(midG a b c : Int) else midG a b c
def midI (a b c : Pt) : Tr := ⟨(midX a b c).fdiv (midS a b c), (midY a b c).fdiv (midS a b c), (midW a b c).fdiv (midS a b c)⟩
def R_middle (ds : List PD) (s : Sl) : Prop := ∃ a b c, PtB a ∧ PtB b ∧ PtB c ∧ areaI a b c ≠ 0 ∧ ds = [eP a, eP b, eP c] ∧ s = .dat (eT (midI a b c))
theorem midG_pos {a b c : Pt} (h : areaI a b c ≠ 0) : 0 < midG a b c := Nat.gcd_pos_of_pos_right _ (by unfold midW; omega)
theorem midS_ne {a b c : Pt} (h : areaI a b c ≠ 0) : midS a b c ≠ 0 := by
  have := midG_pos h
  unfold midS
  split <;> omega
theorem midS_B {a b c : Pt} (ha : PtB a) (hb : PtB b) (hc : PtB c) (h : areaI a b c ≠ 0) : Bd 53 (midS a b c) := by
  have h1 : Bd 53 (midW a b c) := ((Bd.num 2 2).mul (areaB ha hb hc)).mono
  have h2 : midG a b c ≤ (midW a b c).natAbs := Nat.gcd_le_right _ (by unfold midW; omega)
  unfold Bd at *
  have h3 : (midS a b c).natAbs = midG a b c := by unfold midS; split <;> omega
  omega
theorem zeroB : PtB (0, 0) := ⟨Bd.num 24 0, Bd.num 24 0⟩
theorem ok_middle (F : FnP K "middle" s_middle f fd) (hm : mg "middle" = some (.ref f)) (c_far : Cal P w K mg base 1 "far" (spS K R_far)) (c_doubled_area : Cal P w K mg base 1 "doubled_area" (spS K R_doubled_area)) (g_ORIGIN : ∃ a, mg "ORIGIN" = some (.ref a) ∧ ∀ H, SqT K H a [.int 0, .int 0]) (g_gcd : mg "gcd" = some (.builtin "math.gcd")) : Cal P w K mg base 2 "middle" (spS K R_middle) := by
  have nd : (["a", "b", "c", "w", "out_a", "out_b", "out_c", "x", "y", "shared"] : List Str).Nodup := by decide +kernel
  refine def_S F hm (N := ["a", "b", "c", "w", "out_a", "out_b", "out_c", "x", "y", "shared"]) (ps := ["a", "b", "c"]) ⟨rfl, rfl, rfl, by decide +kernel, rfl, by decide +kernel, by decide +kernel⟩ (F.bindsN fun _ _ _ _ _ _ us hl => match us, hl with | [_, _, _], _ => rfl) ?_ ?_
  · rintro ds s ⟨a, b, c, ha, hb, hc, h0, rfl, rfl⟩
    rfl
  rintro cdv A outer s H ds sl hr ⟨a, b, c, ha, hb, hc, h0, rfl, rfl⟩
  have hW := (Bd.num 2 2).w (areaB ha hb hc)
  have fa := farB zeroB ha
  have fb := farB zeroB hb
  have fc := farB zeroB hc
  refine S.asg 3 (E.op E.int (E.call c_doubled_area hr (As.cons (E.var 0) (As.cons (E.var 1) (As.cons (E.var 2) As.nil))) ⟨a, b, c, ha, hb, hc, rfl, rfl⟩) (BinD.mulW hW)) rfl ?_ nd
  refine S.when (T.cmp (E.var 3) E.int BinD.eqI) (fun h => absurd (of_decide_eq_true h) (by omega)) (fun _ => ?_)
  refine S.asg 4 (E.call c_far hr (As.cons (E.gtup (is := [0, 0]) g_ORIGIN) (As.cons (E.var 0) As.nil)) ⟨(0, 0), a, zeroB, ha, rfl, rfl⟩) rfl ?_ nd
  refine S.asg 5 (E.call c_far hr (As.cons (E.gtup (is := [0, 0]) g_ORIGIN) (As.cons (E.var 1) As.nil)) ⟨(0, 0), b, zeroB, hb, rfl, rfl⟩) rfl ?_ nd
  refine S.asg 6 (E.call c_far hr (As.cons (E.gtup (is := [0, 0]) g_ORIGIN) (As.cons (E.var 2) As.nil)) ⟨(0, 0), c, zeroB, hc, rfl, rfl⟩) rfl ?_ nd
  refine S.asg 7 (d := .int (midX a b c)) (E.op (E.op (E.op (E.var 4) (E.op (E.ix (E.var 1) E.int (IxD.tup rfl)) (E.ix (E.var 2) E.int (IxD.tup rfl)) BinD.sub) (BinD.mulW (fa.w (hb.2.sub hc.2)))) (E.op (E.var 5) (E.op (E.ix (E.var 2) E.int (IxD.tup rfl)) (E.ix (E.var 0) E.int (IxD.tup rfl)) BinD.sub) (BinD.mulW (fb.w (hc.2.sub ha.2)))) BinD.add) (E.op (E.var 6) (E.op (E.ix (E.var 0) E.int (IxD.tup rfl)) (E.ix (E.var 1) E.int (IxD.tup rfl)) BinD.sub) (BinD.mulW (fc.w (ha.2.sub hb.2)))) BinD.add) rfl ?_ nd
  refine S.asg 8 (d := .int (midY a b c)) (E.op (E.op (E.op (E.var 4) (E.op (E.ix (E.var 2) E.int (IxD.tup rfl)) (E.ix (E.var 1) E.int (IxD.tup rfl)) BinD.sub) (BinD.mulW (fa.w (hc.1.sub hb.1)))) (E.op (E.var 5) (E.op (E.ix (E.var 0) E.int (IxD.tup rfl)) (E.ix (E.var 2) E.int (IxD.tup rfl)) BinD.sub) (BinD.mulW (fb.w (ha.1.sub hc.1)))) BinD.add) (E.op (E.var 6) (E.op (E.ix (E.var 1) E.int (IxD.tup rfl)) (E.ix (E.var 0) E.int (IxD.tup rfl)) BinD.sub) (BinD.mulW (fc.w (hb.1.sub ha.1)))) BinD.add) rfl ?_ nd
  refine S.asg 9 (d := .int (midG a b c)) (E.gcd g_gcd (E.gcd g_gcd (E.var 7) (E.var 8)) (E.var 3)) rfl ?_ nd
  have ret : ∀ ρ, ρ = [.dat (eP a), .dat (eP b), .dat (eP c), .dat (.int (midW a b c)), .dat (.int (farI (0, 0) a)), .dat (.int (farI (0, 0) b)), .dat (.int (farI (0, 0) c)), .dat (.int (midX a b c)), .dat (.int (midY a b c)), .dat (.int (midS a b c))] → S (bx P w K mg base ["a", "b", "c", "w", "out_a", "out_b", "out_c", "x", "y", "shared"] "middle" (defScope s_middle) f cdv A outer s H) ((defBody s_middle).drop 9) ρ (retP (.dat (eT (midI a b c)))) := by
    rintro ρ rfl
    exact S.ret (E.toS (E.tup (As.cons (E.op (E.var 7) (E.var 9) (BinD.fdiv (midS_ne h0) (midS_B ha hb hc h0))) (As.cons (E.op (E.var 8) (E.var 9) (BinD.fdiv (midS_ne h0) (midS_B ha hb hc h0))) (As.cons (E.op (E.var 3) (E.var 9) (BinD.fdiv (midS_ne h0) (midS_B ha hb hc h0))) As.nil))))) rfl
  refine S.when (T.cmp (E.var 3) E.int BinD.lt) (fun h => ?_) (fun h => ret _ ?_)
  · refine S.asg 9 (E.neg (E.var 9)) rfl (S.nil (ret _ ?_)) nd
    have : midS a b c = -(midG a b c : Int) := if_pos (of_decide_eq_true h)
    rw [this]
    rfl
  · have : midS a b c = (midG a b c : Int) := if_neg (of_decide_eq_false h)
    rw [this]
    rfl
def RX_middle (K : PySem.W.Frag) (ds : List PD) (C : Addr) : Prop := (∃ a b c, PtB a ∧ PtB b ∧ PtB c ∧ areaI a b c = 0 ∧ ds = [eP a, eP b, eP c]) ∧ C = He.ga K "InRow"
theorem okx_middle (F : FnP K "middle" s_middle f fd) (hm : mg "middle" = some (.ref f)) (c_far : Cal P w K mg base 1 "far" (spS K R_far)) (c_doubled_area : Cal P w K mg base 1 "doubled_area" (spS K R_doubled_area)) (g_ORIGIN : ∃ a, mg "ORIGIN" = some (.ref a) ∧ ∀ H, SqT K H a [.int 0, .int 0]) (g_gcd : mg "gcd" = some (.builtin "math.gcd")) (N_InRow : ExcN K mg "InRow" (He.ga K "InRow")) : CalX P w K mg base 2 "middle" (spM K (fun _ _ => False) (RX_middle K)) := by
  have nd : (["a", "b", "c", "w", "out_a", "out_b", "out_c", "x", "y", "shared"] : List Str).Nodup := by decide +kernel
  refine def_X F hm (N := ["a", "b", "c", "w", "out_a", "out_b", "out_c", "x", "y", "shared"]) (ps := ["a", "b", "c"]) ⟨rfl, rfl, rfl, by decide +kernel, rfl, by decide +kernel, by decide +kernel⟩ (F.bindsN fun _ _ _ _ _ _ us hl => match us, hl with | [_, _, _], _ => rfl) (fun _ _ h => h.elim) ?_ ?_
  · rintro ds C ⟨⟨a, b, c, ha, hb, hc, h0, rfl⟩, rfl⟩
    rfl
  rintro cdv A outer s H EE0 ds hr
  refine ⟨fun _ h => h.elim, ?_⟩
  rintro C ⟨⟨a, b, c, ha, hb, hc, h0, rfl⟩, rfl⟩
  have hW := (Bd.num 2 2).w (areaB ha hb hc)
  refine S.asg 3 (E.op E.int (E.call c_doubled_area hr (As.cons (E.var 0) (As.cons (E.var 1) (As.cons (E.var 2) As.nil))) ⟨a, b, c, ha, hb, hc, rfl, rfl⟩) (BinD.mulW hW)) rfl ?_ nd
  refine S.when (T.cmp (E.var 3) E.int BinD.eqI) (fun h => S.raise N_InRow E.str rfl) (fun h => absurd (by rw [h0]; rfl) (of_decide_eq_false h))
def cellAt (xs : List Int) (k : Int) : Int := xs.getD k.toNat 0
def R__law_cell_at (ds : List PD) (s : Sl) : Prop := ∃ (xs : List Int) (k : Int), 0 ≤ k ∧ ds = [.list (xs.map .int), .int k] ∧ s = .dat (.int (cellAt xs k))
theorem ok__law_cell_at (F : FnP K "_law_cell_at" s__law_cell_at f fd) (hm : mg "_law_cell_at" = some (.ref f)) (g_len : mg "len" = none) : Cal P w K mg base 1 "_law_cell_at" (spS K R__law_cell_at) := by
  have nd : (["_law_script", "_law_k"] : List Str).Nodup := by decide +kernel
  refine def_S F hm (N := ["_law_script", "_law_k"]) (ps := ["_law_script", "_law_k"]) ⟨rfl, rfl, rfl, by decide +kernel, rfl, by decide +kernel, by decide +kernel⟩ (F.bindsN fun _ _ _ _ _ _ us hl => match us, hl with | [_, _], _ => rfl) ?_ ?_
  · rintro ds s ⟨xs, k, hk, rfl, rfl⟩
    rfl
  rintro cdv A outer s H ds sl hr ⟨xs, k, hk, rfl, rfl⟩
  refine S.when (T.cmp (E.var 1) (E.blt CallD.lenL g_len (As.cons (E.var 0) As.nil)) BinD.lt) (fun h => S.ret (E.toS (E.ix (E.var 0) (E.var 1) (IxD.list (d := .int (cellAt xs k)) ?_))) rfl) (fun h => S.ret (E.toS E.int) ?_)
  · have h := of_decide_eq_true h
    rw [List.length_map] at h
    have e : k = ((k.toNat : Nat) : Int) := by omega
    have a := atI_nat (xs := xs.map PyData.int) (j := k.toNat) (v := .int (cellAt xs k)) ?_
    · rw [← e] at a
      exact a
    have hl : k.toNat < xs.length := by omega
    rw [List.getElem?_map, List.getElem?_eq_getElem hl]
    show some (PyData.int xs[k.toNat]) = some (PyData.int (cellAt xs k))
    unfold cellAt
    rw [List.getD_eq_getElem?_getD, List.getElem?_eq_getElem hl] <;> rfl
  · have h := of_decide_eq_false h
    rw [List.length_map] at h
    have hl : xs.length ≤ k.toNat := by omega
    show Sl.dat (.int 0) = _
    simp [cellAt, hl]
def mixed (c k : Int) : Int := (c + 61 * k + 7) * 1000003 ^ (3 : Int).toNat % (10 ^ (24 : Int).toNat + 7)
def R__law_mixed (ds : List PD) (s : Sl) : Prop := ∃ c k : Int, Bd 40 k ∧ ds = [.int c, .int k] ∧ s = .dat (.int (mixed c k))
theorem mixed_pos (c k : Int) : 0 ≤ mixed c k := Int.emod_nonneg _ (by decide)
theorem mixed_lt (c k : Int) : mixed c k < 10 ^ 24 + 7 := Int.emod_lt_of_pos _ (by decide)
theorem mixedB (c k : Int) : Bd 80 (mixed c k) := by
  have h1 := mixed_pos c k
  have h2 := mixed_lt c k
  unfold Bd
  omega
theorem ok__law_mixed (F : FnP K "_law_mixed" s__law_mixed f fd) (hm : mg "_law_mixed" = some (.ref f))  : Cal P w K mg base 1 "_law_mixed" (spS K R__law_mixed) := by
  have nd : (["_law_cell", "_law_k"] : List Str).Nodup := by decide +kernel
  refine def_S F hm (N := ["_law_cell", "_law_k"]) (ps := ["_law_cell", "_law_k"]) ⟨rfl, rfl, rfl, by decide +kernel, rfl, by decide +kernel, by decide +kernel⟩ (F.bindsN fun _ _ _ _ _ _ us hl => match us, hl with | [_, _], _ => rfl) ?_ ?_
  · rintro ds s ⟨c, k, hk, rfl, rfl⟩
    rfl
  rintro cdv A outer s H ds sl hr ⟨c, k, hk, rfl, rfl⟩
  refine S.ret (E.toS (E.op (E.op (E.op (E.op (E.var 0) (E.op E.int (E.var 1) (BinD.mulW ?_)) BinD.add) E.int BinD.add) (E.op E.int E.int (BinD.pow ?_)) (BinD.mul ?_)) (E.op (E.op E.int E.int (BinD.pow ?_)) E.int BinD.add) (BinD.mod ?_))) rfl
  · exact (Bd.num 6 61).w hk
  · exact ⟨by decide, by decide, by decide⟩
  · exact .inr ⟨by decide, by decide⟩
  · exact ⟨by decide, by decide, by decide⟩
  · decide
def ringPts : List Pt := [(5, 0), (4, 3), (3, 4), (0, 5), (-3, 4), (-4, 3), (-5, -0), (-4, -3), (-3, -4), (-0, -5), (- -3, -4), (- -4, -3)]
def lawPoint (k n : Int) : Pt :=
  if k = 0 then (n % 3, n / 3 % 3) else if k = 1 then (n % 5 - 1, n / 5 % 5) else if k = 2 then (n % 2000001 - 1000000, n / 2000001 % 2000001 - 1000000)
  else if k = 3 then (n % 9 - 4, 2 * (n % 9) + (if decide (n / 9 % 5 = 1) then 1 else 0)) else if k = 4 ∧ 0 < n / 12 % 6 then ringPts.getD (n % 12).toNat (0, 0) else (n % 12 - 6, n / 12 % 9 - 4)
def R__law_point (ds : List PD) (s : Sl) : Prop := ∃ k n : Int, Bd 100 n ∧ ds = [.int k, .int n] ∧ s = .dat (eP (lawPoint k n))
theorem ringPts_small (i : Nat) : ((ringPts.getD i (0, 0)).1.natAbs ≤ 5) ∧ ((ringPts.getD i (0, 0)).2.natAbs ≤ 5) := by
  by_cases h : i < 12
  · have : ∀ i : Fin 12, ((ringPts.getD i (0, 0)).1.natAbs ≤ 5) ∧ ((ringPts.getD i (0, 0)).2.natAbs ≤ 5) := by decide
    exact this ⟨i, h⟩
  · rw [List.getD_eq_getElem?_getD, List.getElem?_eq_none (by show 12 ≤ i; omega)]
    decide
theorem lawPoint_small {k n : Int} (h : k ≠ 2) : (lawPoint k n).1.natAbs ≤ 30 ∧ (lawPoint k n).2.natAbs ≤ 30 := by
  unfold lawPoint
  by_cases h0 : k = 0
  · rw [if_pos h0]
    constructor <;> (dsimp only; omega)
  rw [if_neg h0]
  by_cases h1 : k = 1
  · rw [if_pos h1]
    constructor <;> (dsimp only; omega)
  rw [if_neg h1, if_neg h]
  by_cases h3 : k = 3
  · rw [if_pos h3]
    constructor
    · dsimp only; omega
    · dsimp only; split <;> omega
  rw [if_neg h3]
  by_cases h4 : k = 4 ∧ 0 < n / 12 % 6
  · rw [if_pos h4]
    have := ringPts_small (n % 12).toNat
    omega
  · rw [if_neg h4]
    constructor <;> (dsimp only; omega)
theorem lawPointB (k n : Int) : (lawPoint k n).1.natAbs ≤ 1000000 ∧ (lawPoint k n).2.natAbs ≤ 1000000 := by
  by_cases h : k = 2
  · subst h
    unfold lawPoint
    rw [if_neg (by decide), if_neg (by decide), if_pos rfl]
    constructor <;> (dsimp only; omega)
  · have := lawPoint_small (n := n) h
    omega
theorem ok__law_point (F : FnP K "_law_point" s__law_point f fd) (hm : mg "_law_point" = some (.ref f)) (g_int : mg "int" = none) : Cal P w K mg base 1 "_law_point" (spS K R__law_point) := by
  have nd : (["_law_kind", "_law_number", "_law_y", "_law_off", "_law_some", "_law_x"] : List Str).Nodup := by decide +kernel
  refine def_S F hm (N := ["_law_kind", "_law_number", "_law_y", "_law_off", "_law_some", "_law_x"]) (ps := ["_law_kind", "_law_number"]) ⟨rfl, rfl, rfl, by decide +kernel, rfl, by decide +kernel, by decide +kernel⟩ (F.bindsN fun _ _ _ _ _ _ us hl => match us, hl with | [_, _], _ => rfl) ?_ ?_
  · rintro ds s ⟨k, n, hn, rfl, rfl⟩
    rfl
  rintro cdv A outer s H ds sl hr ⟨k, n, hn, rfl, rfl⟩
  have hb9 : Bd 10 (n % 9) := .of 9 (by omega)
  refine S.when (T.cmp (E.var 0) E.int BinD.eqI) (fun h => ?_) (fun h0 => ?_)
  · have h := of_decide_eq_true h
    refine S.ret (E.toS (E.tup (As.cons (E.op (E.var 1) E.int (BinD.mod (by decide))) (As.cons (E.op (E.op (E.var 1) E.int (BinD.divW (CDivW.num _))) E.int (BinD.mod (by decide))) As.nil)))) ?_
    show Sl.dat _ = Sl.dat _
    unfold lawPoint
    rw [if_pos h] <;> rfl
  have h0 := of_decide_eq_false h0
  refine S.when (T.cmp (E.var 0) E.int BinD.eqI) (fun h => ?_) (fun h1 => ?_)
  · have h := of_decide_eq_true h
    refine S.ret (E.toS (E.tup (As.cons (E.op (E.op (E.var 1) E.int (BinD.mod (by decide))) E.int BinD.sub) (As.cons (E.op (E.op (E.var 1) E.int (BinD.divW (CDivW.num _))) E.int (BinD.mod (by decide))) As.nil)))) ?_
    show Sl.dat _ = Sl.dat _
    unfold lawPoint
    rw [if_neg h0, if_pos h] <;> rfl
  have h1 := of_decide_eq_false h1
  refine S.when (T.cmp (E.var 0) E.int BinD.eqI) (fun h => ?_) (fun h2 => ?_)
  · have h := of_decide_eq_true h
    refine S.asg 2 (E.op (E.op (E.op (E.var 1) E.int (BinD.divW (CDivW.num _))) E.int (BinD.mod (by decide))) E.int BinD.sub) rfl ?_ nd
    refine S.ret (E.toS (E.tup (As.cons (E.op (E.op (E.var 1) E.int (BinD.mod (by decide))) E.int BinD.sub) (As.cons (E.var 2) As.nil)))) ?_
    show Sl.dat _ = Sl.dat _
    unfold lawPoint
    rw [if_neg h0, if_neg h1, if_pos h] <;> rfl
  have h2 := of_decide_eq_false h2
  refine S.when (T.cmp (E.var 0) E.int BinD.eqI) (fun h => ?_) (fun h3 => ?_)
  · have h := of_decide_eq_true h
    refine S.asg 3 (E.bty CallD.intB g_int (As.cons (E.cmp (E.op (E.op (E.var 1) E.int (BinD.divW (CDivW.num _))) E.int (BinD.mod (by decide))) E.int BinD.eqI) As.nil)) rfl ?_ nd
    refine S.ret (E.toS (E.tup (As.cons (E.op (E.op (E.var 1) E.int (BinD.mod (by decide))) E.int BinD.sub) (As.cons (E.op (E.op E.int (E.op (E.var 1) E.int (BinD.mod (by decide))) (BinD.mulW ((Bd.num 2 2).w hb9))) (E.var 3) BinD.add) As.nil)))) ?_
    show Sl.dat _ = Sl.dat _
    unfold lawPoint
    rw [if_neg h0, if_neg h1, if_neg h2, if_pos h] <;> rfl
  have h3 := of_decide_eq_false h3
  refine S.when (T.w (Wb.and (T.cmp (E.var 0) E.int BinD.eqI) fun h => (Wb.and1 (T.cmp (E.op (E.op (E.var 1) E.int (BinD.divW (CDivW.num _))) E.int (BinD.mod (by decide))) E.int BinD.gt)))) (fun h => ?_) (fun h4 => ?_)
  · rw [Bool.and_eq_true, decide_eq_true_eq, decide_eq_true_eq] at h
    refine S.asgB (d := .list (([(5, 0), (4, 3), (3, 4), (0, 5), (-3, 4), (-4, 3)] : List Pt).map eP)) 4 (E.eb (E.lst (As.cons (E.tup (As.cons E.int (As.cons E.int As.nil))) (As.cons (E.tup (As.cons E.int (As.cons E.int As.nil))) (As.cons (E.tup (As.cons E.int (As.cons E.int As.nil))) (As.cons (E.tup (As.cons E.int (As.cons E.int As.nil))) (As.cons (E.tup (As.cons (E.neg E.int) (As.cons E.int As.nil))) (As.cons (E.tup (As.cons (E.neg E.int) (As.cons E.int As.nil))) As.nil))))))) rfl) ?_ nd
    refine S.asgB (d := .list (ringPts.map eP)) 4 (E.eb (E.op (E.var 4) (ES.toE (ES.lc [("_law_x", 5), ("_law_y", 2)] ([(5, 0), (4, 3), (3, 4), (0, 5), (-3, 4), (-4, 3)] : List Pt) eP (fun _ => true) (fun p => eP (-p.1, -p.2)) (IT.list (EB.var 4)) (blkOk_by (N := ["_law_kind", "_law_number", "_law_y", "_law_off", "_law_some", "_law_x"]) (sc := defScope s__law_point) (by decide +kernel))
                (fun p _ => ⟨fun s H C cl fp => G.tup (Gs.cons (G.name 5 (Gs.cons (G.name 2 (Gs.nil ⟨fun s H C cl fp => Ts.nil, fun _ s H C cl fp => E.tup (As.cons (E.neg (E.var 5)) (As.cons (E.neg (E.var 2)) As.nil))⟩) nd)) nd))⟩) (fun _ _ _ => rfl) (by decide) nd)) (BinD.cat ?_)) rfl) ?_ nd
    · decide
    refine S.ret (E.toS (E.ix (E.var 4) (E.op (E.var 1) E.int (BinD.mod (by decide))) (IxD.list (atI_map eP ringPts (0, 0) (i := n % 12) (by omega) (by show _ < (12 : Int); omega))))) ?_
    show Sl.dat _ = Sl.dat _
    unfold lawPoint
    rw [if_neg h0, if_neg h1, if_neg h2, if_neg h3, if_pos h] <;> rfl
  have h4 : ¬ (k = 4 ∧ 0 < n / 12 % 6) := fun z => by
    rw [Bool.and_eq_false_iff, decide_eq_false_iff_not, decide_eq_false_iff_not] at h4
    omega
  refine S.ret (E.toS (E.tup (As.cons (E.op (E.op (E.var 1) E.int (BinD.mod (by decide))) E.int BinD.sub) (As.cons (E.op (E.op (E.op (E.var 1) E.int (BinD.divW (CDivW.num _))) E.int (BinD.mod (by decide))) E.int BinD.sub) As.nil)))) ?_
  show Sl.dat _ = Sl.dat _
  unfold lawPoint
  rw [if_neg h0, if_neg h1, if_neg h2, if_neg h3, if_neg h4] <;> rfl
def lawGrown (p : Pt) (k b n : Int) : Pt :=
  if k = 2 ∨ b % 4 < 2 then p else (p.1 * (if b % 4 = 2 then 1000 else 50000) + (b / 4 % 90001 - 45000) + (if decide (n / 10 ^ (9 : Int).toNat % 9 = 1) then 1 else 0), p.2 * (if b % 4 = 2 then 1000 else 50000) - (b / 4 % 90001 - 45000))
def R__law_grown (ds : List PD) (s : Sl) : Prop := ∃ (p : Pt) (k b n : Int), PtB p ∧ ds = [eP p, .int k, .int b, .int n] ∧ s = .dat (eP (lawGrown p k b n))
theorem grownB {p : Pt} {k b n : Int} (hp : p.1.natAbs ≤ 1000000 ∧ p.2.natAbs ≤ 1000000) (h : k ≠ 2 → p.1.natAbs ≤ 30 ∧ p.2.natAbs ≤ 30) : (lawGrown p k b n).1.natAbs ≤ 2000000 ∧ (lawGrown p k b n).2.natAbs ≤ 2000000 := by
  unfold lawGrown
  split
  · omega
  · rename_i h'
    have h := h (fun z => h' (.inl z))
    dsimp only
    split <;> split <;> omega
theorem PtB.of {p : Pt} (h : p.1.natAbs ≤ 2000000 ∧ p.2.natAbs ≤ 2000000) : PtB p := ⟨.of 2000000 h.1, .of 2000000 h.2⟩
theorem ok__law_grown (F : FnP K "_law_grown" s__law_grown f fd) (hm : mg "_law_grown" = some (.ref f)) (g_int : mg "int" = none) : Cal P w K mg base 1 "_law_grown" (spS K R__law_grown) := by
  have nd : (["_law_point_here", "_law_kind", "_law_by", "_law_number", "_law_x", "_law_y", "_law_times", "_law_away_here", "_law_off"] : List Str).Nodup := by decide +kernel
  refine def_S F hm (N := ["_law_point_here", "_law_kind", "_law_by", "_law_number", "_law_x", "_law_y", "_law_times", "_law_away_here", "_law_off"]) (ps := ["_law_point_here", "_law_kind", "_law_by", "_law_number"]) ⟨rfl, rfl, rfl, by decide +kernel, rfl, by decide +kernel, by decide +kernel⟩ (F.bindsN fun _ _ _ _ _ _ us hl => match us, hl with | [_, _, _, _], _ => rfl) ?_ ?_
  · rintro ds s ⟨p, k, b, n, hp, rfl, rfl⟩
    rfl
  rintro cdv A outer s H ds sl hr ⟨p, k, b, n, hp, rfl, rfl⟩
  have hpow : ((10 : Int) ^ (9 : Int).toNat) = 1000000000 := by decide
  have ht : Bd 20 (if b % 4 = 2 then (1000 : Int) else 50000) := by split <;> exact Bd.num _ _
  refine S.asgG (vs := [4, 5]) (EB.var 0) (G.tup (Gs.cons (G.name 4 (Gs.cons (G.name 5 (Gs.nil ?_) nd)) nd)))
  refine S.when (T.w (Wb.or (T.cmp (E.var 1) E.int BinD.eqI) fun h => (Wb.or1 (T.cmp (E.op (E.var 2) E.int (BinD.mod (by decide))) E.int BinD.lt)))) (fun h => ?_) (fun h => ?_)
  · refine S.ret (E.toS (E.var 0)) ?_
    show Sl.dat _ = Sl.dat _
    rw [Bool.or_eq_true, decide_eq_true_eq, decide_eq_true_eq] at h
    unfold lawGrown
    rw [if_pos h]
  rw [Bool.or_eq_false_iff, decide_eq_false_iff_not, decide_eq_false_iff_not] at h
  refine S.asg 6 (E.ix (E.lst (As.cons E.int (As.cons E.int As.nil))) (E.op (E.op (E.var 2) E.int (BinD.mod (by decide))) E.int BinD.sub) (IxD.list (d := .int (if b % 4 = 2 then (1000 : Int) else 50000)) ?_)) rfl ?_ nd
  · have h4 : b % 4 = 2 ∨ b % 4 = 3 := by omega
    rcases h4 with h4 | h4
    · rw [h4]
      rfl
    · rw [h4]
      rfl
  refine S.asg 7 (E.op (E.op (E.op (E.var 2) E.int (BinD.divW (CDivW.num _))) E.int (BinD.mod (by decide))) E.int BinD.sub) rfl ?_ nd
  refine S.asg 8 (E.bty CallD.intB g_int (As.cons (E.cmp (E.op (E.op (E.var 3) (E.op E.int E.int (BinD.pow ⟨by decide, by decide, by decide⟩)) (BinD.divW (CDivW.num _))) E.int (BinD.mod (by decide))) E.int BinD.eqI) As.nil)) rfl ?_ nd
  refine S.ret (E.toS (E.tup (As.cons (E.op (E.op (E.op (E.var 4) (E.var 6) (BinD.mulW (hp.1.w ht))) (E.var 7) BinD.add) (E.var 8) BinD.add) (As.cons (E.op (E.op (E.var 5) (E.var 6) (BinD.mulW (hp.2.w ht))) (E.var 7) BinD.sub) As.nil)))) ?_
  show Sl.dat _ = Sl.dat _
  unfold lawGrown
  have hn : ¬ (k = 2 ∨ b % 4 < 2) := fun z => z.elim h.1 h.2
  rw [if_neg hn] <;> rfl
def areaL (a b c : Pt) : Int := (b.1 - a.1) * (c.2 - b.2) - (b.2 - a.2) * (c.1 - b.1)
def R__law_area (ds : List PD) (s : Sl) : Prop := ∃ a b c, PtB a ∧ PtB b ∧ PtB c ∧ ds = [eP a, eP b, eP c] ∧ s = .dat (.int (areaL a b c))
theorem areaLB {a b c : Pt} (ha : PtB a) (hb : PtB b) (hc : PtB c) : Bd 51 (areaL a b c) := ((hb.1.sub ha.1).mul (hc.2.sub hb.2)).sub ((hb.2.sub ha.2).mul (hc.1.sub hb.1))
theorem ok__law_area (F : FnP K "_law_area" s__law_area f fd) (hm : mg "_law_area" = some (.ref f))  : Cal P w K mg base 1 "_law_area" (spS K R__law_area) := by
  have nd : (["_law_a", "_law_b", "_law_c", "_law_one"] : List Str).Nodup := by decide +kernel
  refine def_S F hm (N := ["_law_a", "_law_b", "_law_c", "_law_one"]) (ps := ["_law_a", "_law_b", "_law_c"]) ⟨rfl, rfl, rfl, by decide +kernel, rfl, by decide +kernel, by decide +kernel⟩ (F.bindsN fun _ _ _ _ _ _ us hl => match us, hl with | [_, _, _], _ => rfl) ?_ ?_
  · rintro ds s ⟨a, b, c, ha, hb, hc, rfl, rfl⟩
    rfl
  rintro cdv A outer s H ds sl hr ⟨a, b, c, ha, hb, hc, rfl, rfl⟩
  refine S.asg 3 (E.op (E.op (E.ix (E.var 1) E.int (IxD.tup rfl)) (E.ix (E.var 0) E.int (IxD.tup rfl)) BinD.sub) (E.op (E.ix (E.var 2) E.int (IxD.tup rfl)) (E.ix (E.var 1) E.int (IxD.tup rfl)) BinD.sub) (BinD.mulW ?_)) rfl (
    S.ret (E.toS (E.op (E.var 3) (E.op (E.op (E.ix (E.var 1) E.int (IxD.tup rfl)) (E.ix (E.var 0) E.int (IxD.tup rfl)) BinD.sub) (E.op (E.ix (E.var 2) E.int (IxD.tup rfl)) (E.ix (E.var 1) E.int (IxD.tup rfl)) BinD.sub) (BinD.mulW ?_)) BinD.sub)) rfl) nd
  · exact (hb.1.sub ha.1).w (hc.2.sub hb.2)
  · exact (hb.2.sub ha.2).w (hc.1.sub hb.1)
def isInt : PD → Bool
  | .int _ => true
  | _ => false
def R__law_whole (ds : List PD) (s : Sl) : Prop := ∃ d, ds = [d] ∧ s = .dat (.bool (isInt d))
theorem ok__law_whole (F : FnP K "_law_whole" s__law_whole f fd) (hm : mg "_law_whole" = some (.ref f)) (g_isinstance : mg "isinstance" = none) (g_int : mg "int" = none) (g_bool : mg "bool" = none) : Cal P w K mg base 1 "_law_whole" (spS K R__law_whole) := by
  have nd : (["_law_found"] : List Str).Nodup := by decide +kernel
  refine def_S F hm (N := ["_law_found"]) (ps := ["_law_found"]) ⟨rfl, rfl, rfl, by decide +kernel, rfl, by decide +kernel, by decide +kernel⟩ (F.bindsN fun _ _ _ _ _ _ us hl => match us, hl with | [_], _ => rfl) ?_ ?_
  · rintro ds s ⟨d, rfl, rfl⟩
    rfl
  rintro cdv A outer s H ds sl hr ⟨d, rfl, rfl⟩
  exact S.ret (E.toS (E.and (E.isi (E.var 0) g_isinstance g_int (kit_int d)) fun h => (E.one (E.not (E.isi (E.var 0) g_isinstance g_bool (kit_bool d)))))) (by cases d <;> rfl)
def R__law_into_all (ds : List PD) (s : Sl) : Prop := ∃ t : Tr, Bd 100 t.a ∧ Bd 100 t.b ∧ Bd 100 t.c ∧ ds = [eT t] ∧ s = .dat (.int ((Nat.gcd (Nat.gcd t.a.natAbs t.b.natAbs) t.c.natAbs : Nat) : Int))
def trL (t : Tr) (i : Nat) : Nat := match i with
  | 0 => 0
  | 1 => t.a.natAbs
  | 2 => Nat.gcd t.a.natAbs t.b.natAbs
  | _ => Nat.gcd (Nat.gcd t.a.natAbs t.b.natAbs) t.c.natAbs
theorem ok__law_into_all (F : FnP K "_law_into_all" s__law_into_all f fd) (hm : mg "_law_into_all" = some (.ref f)) (g_abs : mg "abs" = none) : Cal P w K mg base 1 "_law_into_all" (spS K R__law_into_all) := by
  have nd : (["_law_found", "_law_one", "_law_number", "_law_other"] : List Str).Nodup := by decide +kernel
  refine def_S F hm (N := ["_law_found", "_law_one", "_law_number", "_law_other"]) (ps := ["_law_found"]) ⟨rfl, rfl, rfl, by decide +kernel, rfl, by decide +kernel, by decide +kernel⟩ (F.bindsN fun _ _ _ _ _ _ us hl => match us, hl with | [_], _ => rfl) ?_ ?_
  · rintro ds s ⟨t, ha, hb, hc, rfl, rfl⟩
    rfl
  rintro cdv A outer s H ds sl hr ⟨t, ha, hb, hc, rfl, rfl⟩
  refine S.asg 1 E.int rfl ?_ nd
  refine S.for [2] (fun i ρ => ∃ o2 o3, ρ = [.dat (eT t), .dat (.int (trL t i)), o2, o3]) (IT.tup (EB.var 0)) ⟨_, _, rfl⟩ ?_ ?_
  · rintro i d ρ' hd ⟨o2, o3, rfl⟩
    have key : ∃ n : Int, d = .int n ∧ i < 3 ∧ trL t (i + 1) = Nat.gcd (trL t i) n.natAbs := by
      match i, hd with
      | 0, hd => cases hd; exact ⟨_, rfl, by decide, (Nat.gcd_zero_left _).symm⟩
      | 1, hd => cases hd; exact ⟨_, rfl, by decide, rfl⟩
      | 2, hd => cases hd; exact ⟨_, rfl, by decide, rfl⟩
      | n + 3, hd => simp at hd
    obtain ⟨n, rfl, hi, hg⟩ := key
    refine G.name 2 ?_ nd
    refine S.asg 3 (E.blt CallD.abs g_abs (As.cons (E.var 2) As.nil)) rfl ?_ nd
    have e : (if n < 0 then -n else n) = ((n.natAbs : Nat) : Int) := by split <;> omega
    rw [e]
    refine S.while (fun m ρ => ∃ x y : Nat, m = y ∧ Nat.gcd x y = trL t (i + 1) ∧ ρ = [.dat (eT t), .dat (.int x), .dat (.int n), .dat (.int y)]) n.natAbs ⟨trL t i, n.natAbs, rfl, hg.symm, rfl⟩ ?_
    rintro y ρ'' ⟨x, _, rfl, hxy, rfl⟩
    refine ⟨_, T.cmp (E.var 3) E.int BinD.gt, fun h => ?_, fun h => ?_⟩
    · have hy : 0 < y := by have := of_decide_eq_true h; omega
      refine S.par 1 3 (As.cons (E.var 3) (As.cons (E.op (E.var 1) (E.var 3) (BinD.mod (by omega))) As.nil)) rfl (S.nil ⟨x % y, Nat.mod_lt _ hy, y, x % y, rfl, ?_, ?_⟩) nd
      · rw [← hxy, Nat.gcd_comm x y, Nat.gcd_rec y x, Nat.gcd_comm]
      · show [_, _, _, _] = _
        rw [Int.natCast_emod]
    · have hy : y = 0 := by have := of_decide_eq_false h; omega
      subst hy
      rw [Nat.gcd_zero_right] at hxy
      subst hxy
      exact S.nil ⟨_, _, rfl⟩
  rintro ρ' ⟨o2, o3, rfl⟩
  exact S.ret (E.toS (E.var 1)) rfl
def awayI (t : Tr) (p : Pt) : Int := (t.a - p.1 * t.c) * (t.a - p.1 * t.c) + (t.b - p.2 * t.c) * (t.b - p.2 * t.c)
def R__law_away (ds : List PD) (s : Sl) : Prop := ∃ (t : Tr) (p : Pt), Bd 100 t.a ∧ Bd 100 t.b ∧ Bd 100 t.c ∧ PtB p ∧ ds = [eT t, eP p] ∧ s = .dat (.int (awayI t p))
theorem ok__law_away (F : FnP K "_law_away" s__law_away f fd) (hm : mg "_law_away" = some (.ref f))  : Cal P w K mg base 1 "_law_away" (spS K R__law_away) := by
  have nd : (["_law_found", "_law_point_here", "_law_x", "_law_y"] : List Str).Nodup := by decide +kernel
  refine def_S F hm (N := ["_law_found", "_law_point_here", "_law_x", "_law_y"]) (ps := ["_law_found", "_law_point_here"]) ⟨rfl, rfl, rfl, by decide +kernel, rfl, by decide +kernel, by decide +kernel⟩ (F.bindsN fun _ _ _ _ _ _ us hl => match us, hl with | [_, _], _ => rfl) ?_ ?_
  · rintro ds s ⟨t, p, ha, hb, hc, hp, rfl, rfl⟩
    rfl
  rintro cdv A outer s H ds sl hr ⟨t, p, ha, hb, hc, hp, rfl, rfl⟩
  have h1 := (ha.mono (m := 124)).sub (hp.1.mul hc)
  have h2 := (hb.mono (m := 124)).sub (hp.2.mul hc)
  refine S.asg 2 (d := .int (t.a - p.1 * t.c)) (E.op (E.ix (E.var 0) E.int (IxD.tup rfl)) (E.op (E.ix (E.var 1) E.int (IxD.tup rfl)) (E.ix (E.var 0) E.int (IxD.tup rfl)) (BinD.mulW (hp.1.w hc))) BinD.sub) rfl ?_ nd
  refine S.asg 3 (d := .int (t.b - p.2 * t.c)) (E.op (E.ix (E.var 0) E.int (IxD.tup rfl)) (E.op (E.ix (E.var 1) E.int (IxD.tup rfl)) (E.ix (E.var 0) E.int (IxD.tup rfl)) (BinD.mulW (hp.2.w hc))) BinD.sub) rfl ?_ nd
  exact S.ret (E.toS (E.op (E.op (E.var 2) (E.var 2) (BinD.mulW (h1.w h1))) (E.op (E.var 3) (E.var 3) (BinD.mulW (h2.w h2))) BinD.add)) rfl
def R__law_in_row (ds : List PD) (s : Sl) : Prop := ∃ a b c, PtB a ∧ PtB b ∧ PtB c ∧ areaI a b c = 0 ∧ ds = [eP a, eP b, eP c] ∧ s = .dat (.bool true)
theorem ok__law_in_row (F : FnP K "_law_in_row" s__law_in_row f fd) (hm : mg "_law_in_row" = some (.ref f)) (cx_middle : CalX P w K mg base 2 "middle" (spM K (fun _ _ => False) (RX_middle K))) (g_isinstance : mg "isinstance" = none) (g_ValueError : mg "ValueError" = none) (gc_FieldError : mg "FieldError" = some (.ref (He.ga K "FieldError"))) (em_InRow_FieldError : PySem.W.exmOne K (.ref (He.ga K "InRow")) (.ref (He.ga K "FieldError")) = some true) (EC_InRow : ExcC K (He.ga K "InRow")) (kt_InRow_InRow : PySem.W.kitOne K (.ref (He.ga K "InRow")) (.ref (He.ga K "InRow")) = some true) (gc_InRow : mg "InRow" = some (.ref (He.ga K "InRow"))) (kv_InRow : PySem.W.kitOne K (.ref (He.ga K "InRow")) (.type "ValueError") = some true) : Cal P w K mg base 3 "_law_in_row" (spS K R__law_in_row) := by
  have nd : (["_law_a", "_law_b", "_law_c", "e"] : List Str).Nodup := by decide +kernel
  refine def_S F hm (N := ["_law_a", "_law_b", "_law_c", "e"]) (ps := ["_law_a", "_law_b", "_law_c"]) ⟨rfl, rfl, rfl, by decide +kernel, rfl, by decide +kernel, by decide +kernel⟩ (F.bindsN fun _ _ _ _ _ _ us hl => match us, hl with | [_, _, _], _ => rfl) ?_ ?_
  · rintro ds s ⟨a, b, c, ha, hb, hc, h0, rfl, rfl⟩
    rfl
  rintro cdv A outer s H ds sl hr ⟨a, b, c, ha, hb, hc, h0, rfl, rfl⟩
  refine S.tryAs 3 ⟨rfl, by decide, .inl gc_FieldError⟩ (fun pn xe => ?_) nd
  refine S.exprX (EX.call cx_middle hr (As.cons (E.var 0) (As.cons (E.var 1) (As.cons (E.var 2) As.nil))) ⟨⟨a, b, c, ha, hb, hc, h0, rfl⟩, rfl⟩) ⟨em_InRow_FieldError, Nat.le_of_ble_eq_true rfl, fun ad oe pn hz hf => ?_⟩
  exact S.ret (E.toS (E.and (E.isE 3 rfl EC_InRow hz hf g_isinstance (pe_glob rfl gc_InRow (v := .ref _) rfl) (fun u r => r) kt_InRow_InRow) fun _ => E.one (E.isE 3 rfl EC_InRow hz hf g_isinstance (pe_bltn rfl g_ValueError (by decide +kernel) (v := .ty "ValueError") rfl) (fun u r => r) kv_InRow))) rfl
def R_law (ds : List PD) (s : Sl) : Prop := ∃ xs : List Int, ds = [.list (xs.map .int)] ∧ s = .dat (.bool true)
def k02pt (xs : List Int) (k : Int) : Pt :=
  let n := mixed (cellAt xs (1 + k)) k
  lawGrown (lawPoint (cellAt xs 0 % 6) n) (cellAt xs 0 % 6) (cellAt xs 0 / 6) n
theorem k02B (xs : List Int) (k : Int) : PtB (k02pt xs k) := PtB.of (grownB (lawPointB _ _) fun h => lawPoint_small h)
theorem areaL_eq (a b c : Pt) : areaL a b c = areaI a b c := by
  unfold areaL areaI
  grind
theorem area_bac (a b c : Pt) : areaI b a c = -areaI a b c := by unfold areaI; grind
theorem area_cab (a b c : Pt) : areaI c a b = areaI a b c := by unfold areaI; grind
theorem midX_bac (a b c : Pt) : midX b a c = -midX a b c := by unfold midX; grind
theorem midY_bac (a b c : Pt) : midY b a c = -midY a b c := by unfold midY; grind
theorem midX_cab (a b c : Pt) : midX c a b = midX a b c := by unfold midX; grind
theorem midY_cab (a b c : Pt) : midY c a b = midY a b c := by unfold midY; grind
theorem midG_bac (a b c : Pt) : midG b a c = midG a b c := by
  unfold midG midW
  rw [midX_bac, midY_bac, area_bac, Int.natAbs_neg, Int.natAbs_neg]
  congr 1
  omega
theorem midG_cab (a b c : Pt) : midG c a b = midG a b c := by
  unfold midG midW
  rw [midX_cab, midY_cab, area_cab]
theorem midS_bac {a b c : Pt} (h : areaI a b c ≠ 0) : midS b a c = -midS a b c := by
  unfold midS
  rw [midG_bac]
  unfold midW
  rw [area_bac]
  split <;> split <;> omega
theorem midS_cab (a b c : Pt) : midS c a b = midS a b c := by
  unfold midS
  rw [midG_cab]
  unfold midW
  rw [area_cab]
theorem midI_bac {a b c : Pt} (h : areaI a b c ≠ 0) : midI b a c = midI a b c := by
  unfold midI
  rw [midS_bac h, midX_bac, midY_bac]
  have e : midW b a c = -midW a b c := by unfold midW; rw [area_bac]; omega
  rw [e, Int.neg_fdiv_neg, Int.neg_fdiv_neg, Int.neg_fdiv_neg]
theorem midI_cab (a b c : Pt) : midI c a b = midI a b c := by
  unfold midI
  have e : midW c a b = midW a b c := by unfold midW; rw [area_cab]
  rw [midS_cab, midX_cab, midY_cab, e]
theorem midS_dvd (a b c : Pt) : midS a b c ∣ midX a b c ∧ midS a b c ∣ midY a b c ∧ midS a b c ∣ midW a b c := by
  have h : ∀ z : Int, (midG a b c : Int) ∣ z → midS a b c ∣ z := fun z h => by
    unfold midS
    split
    · exact Int.neg_dvd.mpr h
    · exact h
  have hx : midG a b c ∣ (midX a b c).natAbs := Nat.dvd_trans (Nat.gcd_dvd_left _ _) (Nat.gcd_dvd_left _ _)
  have hy : midG a b c ∣ (midY a b c).natAbs := Nat.dvd_trans (Nat.gcd_dvd_left _ _) (Nat.gcd_dvd_right _ _)
  have hw : midG a b c ∣ (midW a b c).natAbs := Nat.gcd_dvd_right _ _
  exact ⟨h _ (Int.ofNat_dvd_left.mpr hx), h _ (Int.ofNat_dvd_left.mpr hy), h _ (Int.ofNat_dvd_left.mpr hw)⟩
theorem midI_a {a b c : Pt} : midS a b c * (midI a b c).a = midX a b c := Int.mul_fdiv_cancel' (midS_dvd a b c).1
theorem midI_b {a b c : Pt} : midS a b c * (midI a b c).b = midY a b c := Int.mul_fdiv_cancel' (midS_dvd a b c).2.1
theorem midI_c {a b c : Pt} : midS a b c * (midI a b c).c = midW a b c := Int.mul_fdiv_cancel' (midS_dvd a b c).2.2
theorem midS_abs (a b c : Pt) : (midS a b c).natAbs = midG a b c := by unfold midS; split <;> omega
theorem midI_pos {a b c : Pt} (h : areaI a b c ≠ 0) : 1 ≤ (midI a b c).c := by
  have e := midI_c (a := a) (b := b) (c := c)
  have g := midG_pos h
  have hw : midW a b c ≠ 0 := by unfold midW; omega
  by_cases hn : midW a b c < 0
  · have hs : midS a b c = -(midG a b c : Int) := if_pos hn
    rcases (by omega : 0 < (midI a b c).c ∨ (midI a b c).c ≤ 0) with z | z
    · omega
    · have := Int.mul_nonneg_of_nonpos_of_nonpos (a := midS a b c) (b := (midI a b c).c) (by omega) z
      omega
  · have hs : midS a b c = (midG a b c : Int) := if_neg hn
    rcases (by omega : 0 < (midI a b c).c ∨ (midI a b c).c ≤ 0) with z | z
    · omega
    · have := Int.mul_nonpos_of_nonneg_of_nonpos (a := midS a b c) (b := (midI a b c).c) (by omega) z
      omega
theorem midI_gcd {a b c : Pt} (h : areaI a b c ≠ 0) : Nat.gcd (Nat.gcd (midI a b c).a.natAbs (midI a b c).b.natAbs) (midI a b c).c.natAbs = 1 := by
  have g := midG_pos h
  have ea : (midX a b c).natAbs = midG a b c * (midI a b c).a.natAbs := by rw [← midI_a, Int.natAbs_mul, midS_abs]
  have eb : (midY a b c).natAbs = midG a b c * (midI a b c).b.natAbs := by rw [← midI_b, Int.natAbs_mul, midS_abs]
  have ec : (midW a b c).natAbs = midG a b c * (midI a b c).c.natAbs := by rw [← midI_c, Int.natAbs_mul, midS_abs]
  have e : midG a b c = midG a b c * Nat.gcd (Nat.gcd (midI a b c).a.natAbs (midI a b c).b.natAbs) (midI a b c).c.natAbs := by
    conv => lhs; unfold midG
    rw [ea, eb, ec, Nat.gcd_mul_left, Nat.gcd_mul_left]
  exact (Nat.eq_of_mul_eq_mul_left g (by rw [Nat.mul_one]; exact e)).symm
theorem mid_even (x y w a1 a2 b1 b2 : Int) (h : 2 * (x * (a1 - b1) + y * (a2 - b2)) = w * (a1 * a1 + a2 * a2 - b1 * b1 - b2 * b2)) : (x - a1 * w) * (x - a1 * w) + (y - a2 * w) * (y - a2 * w) = (x - b1 * w) * (x - b1 * w) + (y - b2 * w) * (y - b2 * w) := by grind
theorem mid_ab (a b c : Pt) : 2 * (midX a b c * (a.1 - b.1) + midY a b c * (a.2 - b.2)) = midW a b c * (a.1 * a.1 + a.2 * a.2 - b.1 * b.1 - b.2 * b.2) := by
  obtain ⟨a1, a2⟩ := a; obtain ⟨b1, b2⟩ := b; obtain ⟨c1, c2⟩ := c
  simp only [midX, midY, midW, areaI, farI]
  grind
theorem away_mul (s : Int) (t : Tr) (p : Pt) : s * s * awayI t p = (s * t.a - p.1 * (s * t.c)) * (s * t.a - p.1 * (s * t.c)) + (s * t.b - p.2 * (s * t.c)) * (s * t.b - p.2 * (s * t.c)) := by unfold awayI; grind
theorem away_ab {a b c : Pt} (h : areaI a b c ≠ 0) : awayI (midI a b c) a = awayI (midI a b c) b := by
  have hs := midS_ne h
  have e : midS a b c * midS a b c * awayI (midI a b c) a = midS a b c * midS a b c * awayI (midI a b c) b := by
    rw [away_mul, away_mul, midI_a, midI_b, midI_c]
    exact mid_even _ _ _ _ _ _ _ (mid_ab a b c)
  exact Int.eq_of_mul_eq_mul_left (Int.mul_ne_zero hs hs) e
theorem away_bc {a b c : Pt} (h : areaI a b c ≠ 0) : awayI (midI a b c) b = awayI (midI a b c) c := by
  have h' : areaI b c a ≠ 0 := by rw [← area_cab]; exact h
  have := away_ab h'
  rw [← midI_cab] at this
  exact this
theorem midI_B {a b c : Pt} (ha : PtB a) (hb : PtB b) (hc : PtB c) (h : areaI a b c ≠ 0) : Bd 100 (midI a b c).a ∧ Bd 100 (midI a b c).b ∧ Bd 100 (midI a b c).c := by
  have hX : Bd 100 (midX a b c) := ((((farB zeroB ha).mul (hb.2.sub hc.2)).add ((farB zeroB hb).mul (hc.2.sub ha.2))).add (((farB zeroB hc).mul (ha.2.sub hb.2)).mono (m := 77))).mono
  have hY : Bd 100 (midY a b c) := ((((farB zeroB ha).mul (hc.1.sub hb.1)).add ((farB zeroB hb).mul (ha.1.sub hc.1))).add (((farB zeroB hc).mul (hb.1.sub ha.1)).mono (m := 77))).mono
  have hW : Bd 100 (midW a b c) := ((Bd.num 2 2).mul (areaB ha hb hc)).mono
  exact ⟨Nat.lt_of_le_of_lt (PySem.natAbs_fdiv_le _ _) hX, Nat.lt_of_le_of_lt (PySem.natAbs_fdiv_le _ _) hY, Nat.lt_of_le_of_lt (PySem.natAbs_fdiv_le _ _) hW⟩
theorem ok_law (F : FnP K "law" s_law f fd) (c__law_cell_at : Cal P w K mg base 1 "_law_cell_at" (spS K R__law_cell_at)) (c_middle : Cal P w K mg base 2 "middle" (spS K R_middle)) (c__law_mixed : Cal P w K mg base 1 "_law_mixed" (spS K R__law_mixed)) (c__law_point : Cal P w K mg base 1 "_law_point" (spS K R__law_point)) (c__law_area : Cal P w K mg base 1 "_law_area" (spS K R__law_area)) (c__law_grown : Cal P w K mg base 1 "_law_grown" (spS K R__law_grown)) (c__law_in_row : Cal P w K mg base 3 "_law_in_row" (spS K R__law_in_row)) (c__law_into_all : Cal P w K mg base 1 "_law_into_all" (spS K R__law_into_all)) (c__law_away : Cal P w K mg base 1 "_law_away" (spS K R__law_away)) (c__law_whole : Cal P w K mg base 1 "_law_whole" (spS K R__law_whole)) (g_range : mg "range" = none) (g_isinstance : mg "isinstance" = none) (g_tuple : mg "tuple" = none) (g_len : mg "len" = none) (g_all : mg "all" = none) : FnOk P w K mg base L2.CX0 4 f fd ["_law_script"] (spS K R_law) := by
  have nd : (["_law_script", "_law_first", "_law_points_here", "_law_k", "_law_number", "_law_point_here", "_law_a", "_law_b", "_law_c", "_law_found", "_law_one"] : List Str).Nodup := by decide +kernel
  refine def_F F (N := ["_law_script", "_law_first", "_law_points_here", "_law_k", "_law_number", "_law_point_here", "_law_a", "_law_b", "_law_c", "_law_found", "_law_one"]) (ps := ["_law_script"]) ⟨rfl, rfl, rfl, by decide +kernel, rfl, by decide +kernel, by decide +kernel⟩ ?_ ?_
  · rintro ds s ⟨xs, rfl, rfl⟩
    rfl
  rintro cdv A outer s H ds sl hr ⟨xs, rfl, rfl⟩
  refine S.asg 1 (E.call c__law_cell_at hr (As.cons (E.var 0) (As.cons E.int As.nil)) ⟨xs, 0, by omega, rfl, rfl⟩) rfl ?_ nd
  refine S.asgO 2 (ES.lst As.nil) rfl rfl ?_ nd
  refine S.for [3] (fun i ρ => i ≤ 3 ∧ ∃ o3 o4 o5, ρ = [.dat (.list (xs.map .int)), .dat (.int (cellAt xs 0)), .lst (((List.range i).map fun (k : Nat) => k02pt xs (k : Int)).map eP), o3, o4, o5, .non, .non, .non, .non, .non]) (IT.range1 E.int g_range) ⟨by omega, _, _, _, rfl⟩ ?_ ?_
  · rintro i d ρ' hd ⟨hi, o3, o4, o5, rfl⟩
    have hi4 : i < 3 := by
      have := (List.getElem?_eq_some_iff.mp hd).1
      simp [rng] at this
      exact this
    have hd' : d = .int (i : Int) := by
      rw [List.getElem?_map] at hd
      unfold rng at hd
      rw [List.getElem?_map, List.getElem?_range (by simpa using hi4)] at hd
      simp at hd
      exact hd.symm
    subst hd'
    refine G.name 3 ?_ nd
    refine S.asg 4 (E.call c__law_mixed hr (As.cons (E.call c__law_cell_at hr (As.cons (E.var 0) (As.cons (E.op E.int (E.var 3) BinD.add) As.nil)) ⟨xs, 1 + i, by omega, rfl, rfl⟩) (As.cons (E.var 3) As.nil)) ⟨_, _, .of 4 (by omega), rfl, rfl⟩) rfl ?_ nd
    refine S.asg 5 (E.call c__law_point hr (As.cons (E.op (E.var 1) E.int (BinD.mod (by decide))) (As.cons (E.var 4) As.nil)) ⟨_, _, (mixedB _ _).mono, rfl, rfl⟩) rfl ?_ nd
    refine S.app 2 (E.call c__law_grown hr (As.cons (E.var 5) (As.cons (E.op (E.var 1) E.int (BinD.mod (by decide))) (As.cons (E.op (E.var 1) E.int (BinD.divW (CDivW.num _))) (As.cons (E.var 4) As.nil)))) ⟨_, _, _, _, PtB.of (by have := lawPointB (cellAt xs 0 % 6) (mixed (cellAt xs (1 + i)) i); omega), rfl, rfl⟩) (S.nil ?_) rfl ?_
    · show _ ∧ _
      refine ⟨by omega, ?_⟩
      rw [List.range_succ, List.map_append, List.map_append]
      exact ⟨_, _, _, rfl⟩
    · simp
      omega
  rintro ρ' ⟨hi, o3, o4, o5, rfl⟩
  have hlen : ((rng 0 3).map PyData.int).length = 3 := rfl
  rw [hlen]
  have hA := k02B xs 0
  have hB := k02B xs 1
  have hC := k02B xs 2
  have el : (((List.range 3).map fun (k : Nat) => k02pt xs (k : Int)).map eP) = [eP (k02pt xs 0), eP (k02pt xs 1), eP (k02pt xs 2)] := rfl
  rw [el]
  generalize k02pt xs 0 = a at *
  generalize k02pt xs 1 = b at *
  generalize k02pt xs 2 = c at *
  refine S.freeze 2 ?_
  refine S.asgG (vs := [6, 7, 8]) (EB.var 2) (G.unl (Gs.cons (G.name 6 (Gs.cons (G.name 7 (Gs.cons (G.name 8 (Gs.nil ?_) nd)) nd)) nd)) rfl)
  refine S.when (T.cmp (E.call c__law_area hr (As.cons (E.var 6) (As.cons (E.var 7) (As.cons (E.var 8) As.nil))) ⟨a, b, c, hA, hB, hC, rfl, rfl⟩) E.int BinD.eqI) (fun h => ?_) (fun h => ?_)
  · have h0 : areaI a b c = 0 := by
      have := of_decide_eq_true h
      rw [areaL_eq] at this
      exact this
    exact S.ret (E.toS (E.and (E.call c__law_in_row hr (As.cons (E.var 6) (As.cons (E.var 7) (As.cons (E.var 8) As.nil))) ⟨a, b, c, hA, hB, hC, h0, rfl, rfl⟩) fun _ => E.one (E.call c__law_in_row hr (As.cons (E.var 8) (As.cons (E.var 6) (As.cons (E.var 7) As.nil))) ⟨c, a, b, hC, hA, hB, by rw [area_cab, h0], rfl, rfl⟩))) rfl
  have h0 : areaI a b c ≠ 0 := fun z => by
    have := of_decide_eq_false h
    rw [areaL_eq] at this
    exact this z
  have h1 : areaI c a b ≠ 0 := by rw [area_cab]; exact h0
  have h2 : areaI b a c ≠ 0 := by rw [area_bac]; omega
  obtain ⟨b1, b2, b3⟩ := midI_B hA hB hC h0
  have m1 := midI_bac h0
  have m2 := midI_cab a b c
  have m3 := midI_pos h0
  have m4 := midI_gcd h0
  have m5 := away_ab h0
  have m6 := away_bc h0
  refine S.asg 9 (E.call c_middle hr (As.cons (E.var 6) (As.cons (E.var 7) (As.cons (E.var 8) As.nil))) ⟨a, b, c, hA, hB, hC, h0, rfl, rfl⟩) rfl ?_ nd
  refine S.when (T.w (Wb.or (T.not (T.val (E.isi (E.var 9) g_isinstance g_tuple (kit_tup (eT _))))) fun _ => Wb.or (T.cmp (E.blt CallD.lenT g_len (As.cons (E.var 9) As.nil)) E.int BinD.neI) fun _ => Wb.or1 (T.not (T.val (E.blt (CallD.allB (bs := [true, true, true]) rfl) g_all (As.cons ?_ As.nil)))))) (fun h => ?_) (fun _ => ?_)
  · refine ES.toE (s := .lst [.bool true, .bool true, .bool true]) (ES.lc [("_law_one", 10)] [(midI a b c).a, (midI a b c).b, (midI a b c).c] PyData.int (fun _ => true) (fun _ => .bool true) (IT.tup (EB.var 9)) (blkOk_by (N := ["_law_script", "_law_first", "_law_points_here", "_law_k", "_law_number", "_law_point_here", "_law_a", "_law_b", "_law_c", "_law_found", "_law_one"]) (sc := defScope s_law) (by decide +kernel)) (fun x _ => ⟨fun s H C cl fp => ?_⟩) (fun _ _ _ => rfl) (Nat.le_of_ble_eq_true rfl) nd)
    refine G.name 10 ⟨fun s H C cl fp => Ts.nil, fun _ s H C cl fp => E.call c__law_whole hr (As.cons (E.var 10) As.nil) ⟨_, rfl, rfl⟩⟩ nd
  · exact absurd (show (false : Bool) = true from h) (by decide)
  refine S.when (T.w (Wb.or (T.cmp (E.ix (E.var 9) E.int (IxD.tup rfl)) E.int BinD.lt) fun _ => Wb.or1 (T.cmp (E.call c__law_into_all hr (As.cons (E.var 9) As.nil) ⟨_, b1, b2, b3, rfl, rfl⟩) E.int BinD.neI))) (fun h => ?_) (fun _ => ?_)
  · rw [m4] at h
    simp at h
    omega
  refine S.when (T.not (T.chain (E.call c__law_away hr (As.cons (E.var 9) (As.cons (E.var 6) As.nil)) ⟨_, _, b1, b2, b3, hA, rfl, rfl⟩) (E.call c__law_away hr (As.cons (E.var 9) (As.cons (E.var 7) As.nil)) ⟨_, _, b1, b2, b3, hB, rfl, rfl⟩) (E.call c__law_away hr (As.cons (E.var 9) (As.cons (E.var 8) As.nil)) ⟨_, _, b1, b2, b3, hC, rfl, rfl⟩) BinD.eqI (fun _ => BinD.eqI) ⟨_, op_eq⟩)) (fun h => ?_) (fun _ => ?_)
  · rw [m5, m6] at h
    simp at h
  refine S.ret (E.toS (E.and (E.cmp (E.call c_middle hr (As.cons (E.var 7) (As.cons (E.var 6) (As.cons (E.var 8) As.nil))) ⟨b, a, c, hB, hA, hC, h2, rfl, rfl⟩) (E.var 9) (BinD.eqE hr.u64 enc_tr)) fun _ => E.one (E.cmp (E.call c_middle hr (As.cons (E.var 8) (As.cons (E.var 6) (As.cons (E.var 7) As.nil))) ⟨c, a, b, hC, hA, hB, h1, rfl, rfl⟩) (E.var 9) (BinD.eqE hr.u64 enc_tr)))) ?_
  rw [m1, m2]
  simp
  rfl
end
theorem facts {P : Program} {w : World} {K : PySem.W.Frag} {h : Heap} {mg : Str → Option Value} {f : Addr} (X : K.In h) (G : h.Ns mainGlobals mg) (hfa : mg ("law" : Str) = some (.ref f)) (c : He.SaysD fa fn K) (m : ex K = true) :
    ∃ fd : FuncData, (∀ (s : Shared) (v : Value), BindsTo s fd ⟨[v], []⟩ [("_law_script", v)]) ∧ ∀ base : Heap, K.In base → base.Ns mainGlobals mg → FnOk P w K mg base CX0 4 f fd ["_law_script"] (spS K R_law) := by
  obtain ⟨fd_far, F_far⟩ := c.def_ 0 (d := d_far) rfl
  obtain ⟨fd_doubled_area, F_doubled_area⟩ := c.def_ 1 (d := d_doubled_area) rfl
  obtain ⟨fd_middle, F_middle⟩ := c.def_ 2 (d := d_middle) rfl
  obtain ⟨fd__law_cell_at, F__law_cell_at⟩ := c.def_ 3 (d := d__law_cell_at) rfl
  obtain ⟨fd__law_mixed, F__law_mixed⟩ := c.def_ 4 (d := d__law_mixed) rfl
  obtain ⟨fd__law_point, F__law_point⟩ := c.def_ 5 (d := d__law_point) rfl
  obtain ⟨fd__law_grown, F__law_grown⟩ := c.def_ 6 (d := d__law_grown) rfl
  obtain ⟨fd__law_area, F__law_area⟩ := c.def_ 7 (d := d__law_area) rfl
  obtain ⟨fd__law_whole, F__law_whole⟩ := c.def_ 8 (d := d__law_whole) rfl
  obtain ⟨fd__law_into_all, F__law_into_all⟩ := c.def_ 9 (d := d__law_into_all) rfl
  obtain ⟨fd__law_away, F__law_away⟩ := c.def_ 10 (d := d__law_away) rfl
  obtain ⟨fd__law_in_row, F__law_in_row⟩ := c.def_ 11 (d := d__law_in_row) rfl
  obtain ⟨fd_law, F_law⟩ := c.def_ 12 (d := d_law) rfl
  have hm_far := He.glo_ok X G (c.fact 0 (f := .glo "far") rfl)
  have hm_doubled_area := He.glo_ok X G (c.fact 1 (f := .glo "doubled_area") rfl)
  have hm_middle := He.glo_ok X G (c.fact 2 (f := .glo "middle") rfl)
  have hm__law_cell_at := He.glo_ok X G (c.fact 3 (f := .glo "_law_cell_at") rfl)
  have hm__law_mixed := He.glo_ok X G (c.fact 4 (f := .glo "_law_mixed") rfl)
  have hm__law_point := He.glo_ok X G (c.fact 5 (f := .glo "_law_point") rfl)
  have hm__law_grown := He.glo_ok X G (c.fact 6 (f := .glo "_law_grown") rfl)
  have hm__law_area := He.glo_ok X G (c.fact 7 (f := .glo "_law_area") rfl)
  have hm__law_whole := He.glo_ok X G (c.fact 8 (f := .glo "_law_whole") rfl)
  have hm__law_into_all := He.glo_ok X G (c.fact 9 (f := .glo "_law_into_all") rfl)
  have hm__law_away := He.glo_ok X G (c.fact 10 (f := .glo "_law_away") rfl)
  have hm__law_in_row := He.glo_ok X G (c.fact 11 (f := .glo "_law_in_row") rfl)
  have hm_law := He.glo_ok X G (c.fact 12 (f := .glo "law") rfl)
  unfold ex at m
  obtain ⟨m_0, m⟩ := (Bool.and_eq_true _ _).mp m
  obtain ⟨m_1, m⟩ := (Bool.and_eq_true _ _).mp m
  obtain ⟨m_2, m⟩ := (Bool.and_eq_true _ _).mp m
  obtain ⟨m_3, m⟩ := (Bool.and_eq_true _ _).mp m
  have m_4 := m
  have g_ORIGIN := tup_ok X G (c.fact 13 (f := .glo "ORIGIN") rfl) m_0
  have g_gcd := ns_ok X G m_1
  have N_InRow := ExcN.of X G (c.fact 14 (f := .glo "InRow") rfl) (c.fact 15 (f := .exc "InRow") rfl)
  have g_len := He.free_ok X G (c.fact 16 (f := .free "len") rfl)
  have g_int := He.free_ok X G (c.fact 17 (f := .free "int") rfl)
  have g_isinstance := He.free_ok X G (c.fact 18 (f := .free "isinstance") rfl)
  have g_bool := He.free_ok X G (c.fact 19 (f := .free "bool") rfl)
  have g_abs := He.free_ok X G (c.fact 20 (f := .free "abs") rfl)
  have g_ValueError := He.free_ok X G (c.fact 21 (f := .free "ValueError") rfl)
  have gc_FieldError := He.glo_ok X G (c.fact 22 (f := .glo "FieldError") rfl)
  have em_InRow_FieldError := He.exm_ok (c.fact 23 (f := .exm "InRow" "FieldError" true) rfl)
  have EC_InRow := ecB_ok m_2
  have kt_InRow_InRow := eqB_ok m_3
  have gc_InRow := He.glo_ok X G (c.fact 14 (f := .glo "InRow") rfl)
  have kv_InRow := eqB_ok m_4
  have g_range := He.free_ok X G (c.fact 24 (f := .free "range") rfl)
  have g_tuple := He.free_ok X G (c.fact 25 (f := .free "tuple") rfl)
  have g_all := He.free_ok X G (c.fact 26 (f := .free "all") rfl)
  have e := hfa.symm.trans hm_law
  cases e
  have b := FunD.bindsA (ps := ["_law_script"]) F_law fun _ _ _ _ _ _ us hl => match us, hl with | [_], _ => rfl
  refine ⟨fd_law, fun s v => b s [v] rfl, fun base _ _ => ?_⟩
  have c_far := ok_far (P := P) (w := w) (base := base) F_far hm_far 
  have c_doubled_area := ok_doubled_area (P := P) (w := w) (base := base) F_doubled_area hm_doubled_area 
  have c_middle := ok_middle (P := P) (w := w) (base := base) F_middle hm_middle c_far c_doubled_area g_ORIGIN g_gcd
  have cx_middle := okx_middle (P := P) (w := w) (base := base) F_middle hm_middle c_far c_doubled_area g_ORIGIN g_gcd N_InRow
  have c__law_cell_at := ok__law_cell_at (P := P) (w := w) (base := base) F__law_cell_at hm__law_cell_at g_len
  have c__law_mixed := ok__law_mixed (P := P) (w := w) (base := base) F__law_mixed hm__law_mixed 
  have c__law_point := ok__law_point (P := P) (w := w) (base := base) F__law_point hm__law_point g_int
  have c__law_grown := ok__law_grown (P := P) (w := w) (base := base) F__law_grown hm__law_grown g_int
  have c__law_area := ok__law_area (P := P) (w := w) (base := base) F__law_area hm__law_area 
  have c__law_whole := ok__law_whole (P := P) (w := w) (base := base) F__law_whole hm__law_whole g_isinstance g_int g_bool
  have c__law_into_all := ok__law_into_all (P := P) (w := w) (base := base) F__law_into_all hm__law_into_all g_abs
  have c__law_away := ok__law_away (P := P) (w := w) (base := base) F__law_away hm__law_away 
  have c__law_in_row := ok__law_in_row (P := P) (w := w) (base := base) F__law_in_row hm__law_in_row cx_middle g_isinstance g_ValueError gc_FieldError em_InRow_FieldError EC_InRow kt_InRow_InRow gc_InRow kv_InRow
  exact ok_law F_law c__law_cell_at c_middle c__law_mixed c__law_point c__law_area c__law_grown c__law_in_row c__law_into_all c__law_away c__law_whole g_range g_isinstance g_tuple g_len g_all
end NF
set_option maxHeartbeats 0
open PySem PySem.W PySem.Calls PyProof.Rows
theorem PySem.Challenge.cw_nearfields_k02_middles_holds : PySem.Challenge.rw_nearfields_k02_middles.Holds := by
  w_on; o_law
  refine HandSHeadRun.head_imp (r := HD.R) (q := HD.qv) (H := HD.hk) (ob := HD.ob) (M := 6000) (loose := HD.loose) (d := HandSHeadRun.topDef HD.R.prog 20) (kwd := []) HD.ob_eq
    HD.run (by kernel_rfl) (by kernel_rfl) (by kernel_rfl) (by rfl) (by first | assumption | decide +kernel) (by decide +kernel) ⟨rfl, rfl, rfl, rfl, rfl, by decide +kernel⟩ ?hw ?hc
  case hw => w_witness2
  case hc =>
    refine L2.walk_ofE (l := PySem.Challenge.rw_nearfields_k02_middles) (n := 63) (k := 4) (x := "_law_script") (CX := L2.CX0) rfl (by decide) (by kernel_rfl) ⟨rfl, by decide, by decide⟩ ?F (fun _ _ _ _ z => z)
    intro w mg fa h Y G hmg0
    obtain ⟨K, KX, c⟩ := Y
    have hmg : mg ("law" : PySem.Str) = some (.ref fa) := by
      have e : (HandSHeadRun.topDef HD.R.prog 20).name = ("law" : PySem.Str) := by kernel_rfl
      rw [← e]
      exact hmg0
    obtain ⟨fd, hb, hF⟩ := NF.facts (P := PySem.Challenge.rw_nearfields_k02_middles.prog) (w := w) KX G hmg c.t.d c.more
    exact ⟨K, fd, NF.spS K NF.R_law, KX, hb, fun H a ns hl _ hS => NF.law_end (fun ns _ => ⟨ns, rfl, rfl⟩) H a ns hl hS, hF⟩

