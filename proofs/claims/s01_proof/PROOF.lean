import PyProof.Rows.All
import Wide.All
import OpenK.AllK
import Wide.FinOn
import PyProof.EqAt
import PyProof.EqKinds
import PyProof.TupleCall
import Open.SpecLaws
import KE.OsGo
import HandS.ForSpec
import HandS.ForMost
import HandS.TryMany
import HandS.CallLocal
import HandS.Codes
import HandS.Evl
import HandS.Walk
import HandS.Replace
import HandS.ReplaceList
import PyProof.ToksMono
import KE.GoesEnumKw
import HandS.ExcInit
import HandS.ExcField
import HandS.Conv
import HandS.More
import HandS.TryOnly
import PySem.Challenge.RW_lineedits_s01_answers
set_option Elab.async false
set_option linter.all false
set_option maxRecDepth 100000
set_option maxHeartbeats 4000000
/-! LB: short words for the whole. -/
namespace LE
open PySem PySem.Spec PyProof.Rows L2
/-- the i-th statement of the program -/
def top (i : Nat) : Stmt := PySem.Challenge.pw_lineedits_s01_answers.main.body.getD i (.Pass ⟨0, 0, 0, 0⟩)

/-! ### what the top has written, by names -/
section
variable (P : Program) (w : World) (K : PySem.W.Frag) (mg : Str → Option Value) (base : Heap)
/-- a constant of the module -/
def Gc (mg : Str → Option Value) (x : Str) (v : V) : Prop := ∃ u, mg x = some u ∧ RelV v u
/-- a def that is called by its name -/
structure Dn (CX : CXT) (k : Nat) (x : Str) (sp : Sp) (n : Nat) : Prop where
  ex : ∃ (f : Addr) (fd : FuncData) (ps : List Str), FnOk P w K mg base CX k f fd ps sp ∧ mg x = some (.ref f) ∧ PySem.W.keepIn K (.ref f) = true ∧ Binds K fd ps [] ∧ ps.length = n
/-- a method of the class at C -/
structure Mn (CX : CXT) (k : Nat) (C : Addr) (m : Str) (sp : Sp) : Prop where
  ex : ∃ (f : Addr) (fd : FuncData) (ps : List Str), Cls K C ∧ Meth K C m f ∧ FnOk P w K mg base CX k f fd ps sp ∧ Binds K fd ps []
/-- a class that is made by its name; sp: its __init__ -/
structure Kn (k : Nat) (x : Str) (C : Addr) (sp : Sp) : Prop where
  ex : ∃ (f : Addr) (fd : FuncData) (ps : List Str), Mk K C f ∧ FnOk P w K mg base CX0 k f fd ps sp ∧ mg x = some (.ref C) ∧ Binds K fd ps []
end
section
variable {X : Cx} {CX : CXT} {k j : Nat} {C : Addr} {x m : Str} {sp : Sp} {p pos apos : Pos} {e o : Expr} {es : List Expr} {ta : TE} {t : TA} {E : XK} {n : Nat}
theorem pe_gc {v : V} (h : Gc X.mg x v) (hg : Gl X x := by rfl) (hd : (x == ("__debug__" : Str)) = false := by decide) : PE X (.Name x pos) (tC v) := by
  obtain ⟨u, hm, r⟩ := h
  exact pe_glob hg hm r hd
theorem pe_dn (c : Dn X.prog X.w X.K X.mg X.base CX k x sp n) (hr : Room j X.A) (hx : Passes CX X E) (ha : PA X (e :: es) t) (hk : k ≤ j := by decide) (hg : Gl X x := by rfl)
    (hdb : (x == ("__debug__" : Str)) = false := by decide) (he : starEach (e :: es) X.env = (false, eval e X.env) :: starEach es X.env := by rfl) (hpl : (backTo pos (starEach es X.env)).any (·.1) = false := by rfl) :
    PE X (.Call (.Name x p) (e :: es) [] pos) (tCall sp [] E t) := by
  obtain ⟨f, fd, ps, F, hm, kp, b, _⟩ := c.ex
  exact pe_call F (hr.mono hk) hg hm kp b .nil hx ha hdb he hpl
theorem pe_kn (c : Kn X.prog X.w X.K X.mg X.base k x C sp) (hr : Room j X.A) (ha : PA X (e :: es) t) (hk : k + 1 ≤ j := by decide) (hg : Gl X x := by rfl)
    (hdb : (x == ("__debug__" : Str)) = false := by decide) (he : starEach (e :: es) X.env = (false, eval e X.env) :: starEach es X.env := by rfl) (hpl : (backTo pos (starEach es X.env)).any (·.1) = false := by rfl) :
    PE X (.Call (.Name x p) (e :: es) [] pos) (tMake C sp [] E0 t) := by
  obtain ⟨f, fd, ps, M, F, hm, b⟩ := c.ex
  exact pe_make M F (hr.mono hk) hg hm b .nil pass0 ha hdb he hpl
theorem pe_mn {pl : Sem Bool} (c : Mn X.prog X.w X.K X.mg X.base CX k C m sp) (hr : Room j X.A) (hx : Passes CX X E) (he : PE X o ta) (ha : PA X (e :: es) t) (hk : k ≤ j := by decide)
    (hst : starEach (e :: es) X.env = (false, eval e X.env) :: starEach es X.env := by rfl) (hpl : (backTo pos (starEach es X.env)).any (·.1) = false := by rfl)
    (ht : eval (.Call (.Attribute o m apos) (e :: es) [] pos) X.env = (do
      let ov ← eval o X.env
      standAt apos.atName
      let (f, first) ← holding [ov] (getMethod ov m pl)
      callWith pos f first (backTo pos (starEach (e :: es) X.env)) (backToKw pos (keywordEach [] X.env))) := by rfl) :
    PE X (.Call (.Attribute o m apos) (e :: es) [] pos) (tMeth C m sp [] E ta t) := by
  obtain ⟨f, fd, ps, hc, hm, F, b⟩ := c.ex
  exact pe_meth (pl := pl) he hc hm F (hr.mono hk) b .nil hx ha hst hpl ht
theorem pe_mn0 {pl : Sem Bool} (c : Mn X.prog X.w X.K X.mg X.base CX k C m sp) (hr : Room j X.A) (hx : Passes CX X E) (he : PE X o ta) (hk : k ≤ j := by decide)
    (ht : eval (.Call (.Attribute o m apos) [] [] pos) X.env = (do
      let ov ← eval o X.env
      standAt apos.atName
      let (f, first) ← holding [ov] (getMethod ov m pl)
      callWith pos f first (backTo pos (starEach [] X.env)) (backToKw pos (keywordEach [] X.env))) := by rfl) :
    PE X (.Call (.Attribute o m apos) [] [] pos) (tMeth C m sp [] E ta tNil) := by
  obtain ⟨f, fd, ps, hc, hm, F, b⟩ := c.ex
  exact pe_meth0 (pl := pl) he hc hm F (hr.mono hk) b .nil hx ht
/-- what a callee raises goes out of a def that raises -/
theorem pass1 (hs : X.stack = X.env :: X.outer) (hf : X.env.frame = some X.env.locals) (hex : X.ex = []) {E₁ : Value → Shared → Prop} {EE : XK}
    (hx : X.xe = fun e s' => wpAny (model X.prog X.w) X.A (leaving X.env e) (fun _ s'' => L2.CX X.prog X.w X.outer X.H_0 X.s_0 EE e s'') E₁ s') : Passes (L2.CX X.prog X.w) X EE :=
  passes_call (takes_of hs hf hex hx) fun _ _ _ _ h => h
end
/-! ### texts -/
/-- bytes as a text -/
def S (b : List UInt8) : Str := ⟨(b.map UInt8.toNat).toArray⟩
theorem S_tl (b : List UInt8) : (S b).cps.toList = b.map UInt8.toNat := rfl
theorem S_len (b : List UInt8) : (S b).length = b.length := by simp [S, Str.length]
theorem map_toNat_inj : ∀ {a b : List UInt8}, a.map UInt8.toNat = b.map UInt8.toNat → a = b
  | [], [], _ => rfl
  | [], _ :: _, h => by simp at h
  | _ :: _, [], h => by simp at h
  | x :: a, y :: b, h => by
    rw [List.map_cons, List.map_cons, List.cons.injEq] at h
    rw [UInt8.toNat.inj h.1, map_toNat_inj h.2]
theorem S_inj {a b : List UInt8} (h : S a = S b) : a = b := map_toNat_inj (congrArg (fun x : Str => x.cps.toList) h)
theorem S_dec (a b : List UInt8) : decide (V.str (S a) = V.str (S b)) = decide (a = b) := by
  by_cases h : a = b
  · subst h; simp
  · rw [decide_eq_false h, decide_eq_false]
    intro q
    exact h (S_inj (V.str.inj q))
/-- a row of bytes as Python's ints -/
def ib (b : List UInt8) : List V := b.map fun c => V.int (c.toNat : Nat)
theorem ib_len (b : List UInt8) : (ib b).length = b.length := by simp [ib]
theorem ib_get {b : List UInt8} {i : Nat} {c : UInt8} (h : b[i]? = some c) : (ib b)[i]? = some (.int (c.toNat : Nat)) := by
  unfold ib
  rw [List.getElem?_map, h]
  rfl
theorem ib_of {b : List UInt8} {i : Nat} {x : V} (h : (ib b)[i]? = some x) : ∃ c, b[i]? = some c ∧ x = .int (c.toNat : Nat) := by
  unfold ib at h
  rw [List.getElem?_map] at h
  cases e : b[i]? with
  | none => rw [e] at h; cases h
  | some c =>
    rw [e] at h
    exact ⟨c, rfl, (Option.some.inj h).symm⟩
theorem sizeLine_ge {n : Nat} (h : n ≤ 100000) : n ≤ sizeLine := Nat.le_trans h (by decide)
theorem sizeLine_gt {n : Nat} (h : n ≤ 100000) : n < sizeLine := Nat.lt_of_le_of_lt h (by decide)

/-! ### errors of the program's own, without __init__, made with nothing -/
/-- what the top has written of such a class, at C -/
structure ErrT (K : PySem.W.Frag) (mg : Str → Option Value) (x : Str) (C : Addr) : Prop where
  ge : mg x = some (.ref C)
  ex : PySem.W.excIn K C [.type "Exception", .type "BaseException", .type "object"] "Exception.__new__" = true
  kp : PySem.W.keepIn K (.ref C) = true
  sb : PySem.W.subIn K (.ref C) (.type "BaseException") = some true
  ty : PySem.W.typeIn K (.ref C) = some (.type "type")
theorem pmk0 {X : Cx} {C : Addr} {x : Str} {p pos : Pos} (T : ErrT X.K X.mg x C) (hg : Gl X x := by rfl) (hdb : (x == ("__debug__" : Str)) = false := by decide) :
    PMk X (.Call (.Name x p) [] [] pos) (fun _ H Q => Q (.ref C) none H) := by
  intro pins s σ H Q I h
  refine wpAny_Call_Name_kw (ld_glob I hg T.ge ?_ hdb)
  refine PySem.W.callWith_K0 I.kIn T.kp ?_
  show wpAny _ _ (call (.ref C) []) _ _ _
  obtain ⟨bm, N, nm, qn, bs, hdct, sn, sub, ab, col, dd, k0, k1, k2, k3, k5, mN, hC, hN, hni, TT⟩ := exc_obj I.kIn T.ex
  refine wpAny_call_exc_subT PySem.F.excBase_Exception TT hC hN hni (fun h' e hm => ?_) (by show 0 ≤ sizeLine; exact Nat.zero_le _)
  exact mk_of I hm (raises_own T.sb T.ty) h (I.hok.gone hm.new)
/-- raise X() in a def that raises -/
def tRaise0 (E : XK) (C : Addr) : TS := fun _ _ H => E (.ref C) none H
theorem ps_raise0 {X : Cx} {C : Addr} {x : Str} {p pos pos2 : Pos} {EE : XK} (T : ErrT X.K X.mg x C) (tk : Takes X (fun cls d _ H => EE cls d H)) (hc : X.calm = true := by rfl) (hg : Gl X x := by rfl) (hdb : (x == ("__debug__" : Str)) = false := by decide) :
    PS X (.Raise (some (.Call (.Name x p) [] [] pos)) none pos2) (tRaise0 EE C) := ps_raise hc tk (pmk0 T hg hdb)
end LE

/-! LN: readings that carry the value itself and a lower bound of the identities that are still to come. -/
namespace LE
open PySem PySem.Spec PyProof.Rows L2
abbrev NK := Value → V → Nat → Hp → Prop
abbrev NE := Nat → L2.St → Hp → NK → Prop
abbrev NSp := Nat → List V → Hp → NK → XK → Prop
structure NEnd where
  nx : Nat → L2.St → Hp → Prop
  rt : NK
  bk : Nat → L2.St → Hp → Prop := fun _ _ _ => False
  ct : Nat → L2.St → Hp → Prop := fun _ _ _ => False
abbrev NS := NEnd → Nat → L2.St → Hp → Prop
def EN (X : Cx) (pins : List (Addr × Obj)) (σ : L2.St) (Q : NK) (u : Value) (s' : Shared) : Prop := ∃ v m' H', m' ≤ s'.toks ∧ Inv X pins σ H' s' ∧ RelV v u ∧ Q u v m' H'
def SN (X : Cx) (pins : List (Addr × Obj)) (D : NEnd) (fl : Flow) (s' : Shared) : Prop :=
  match fl with
  | .next => ∃ m' σ' H', m' ≤ s'.toks ∧ Inv X pins σ' H' s' ∧ D.nx m' σ' H'
  | .brk => ∃ m' σ' H', m' ≤ s'.toks ∧ Inv X pins σ' H' s' ∧ D.bk m' σ' H'
  | .cont => ∃ m' σ' H', m' ≤ s'.toks ∧ Inv X pins σ' H' s' ∧ D.ct m' σ' H'
  | .ret u => ∃ v m' σ' H', m' ≤ s'.toks ∧ Inv X pins σ' H' s' ∧ RelV v u ∧ D.rt u v m' H'
structure PEN (X : Cx) (e : Expr) (t : NE) : Prop where
  run : ∀ (m : Nat) (pins : List (Addr × Obj)) (s : Shared) (σ : L2.St) (H : Hp) (Q : NK), m ≤ s.toks → Inv X pins σ H s → t m σ H Q → wpAny (model X.prog X.w) X.A (eval e X.env) (EN X pins σ Q) X.xe s
structure PSN (X : Cx) (st : Stmt) (t : NS) : Prop where
  run : ∀ (m : Nat) (pins : List (Addr × Obj)) (s : Shared) (σ : L2.St) (H : Hp) (D : NEnd), m ≤ s.toks → Inv X pins σ H s → t D m σ H → wpAny (model X.prog X.w) X.A (exec st X.env) (SN X pins D) X.xe s
structure PSsN (X : Cx) (sts : List Stmt) (t : NS) : Prop where
  run : ∀ (m : Nat) (pins : List (Addr × Obj)) (s : Shared) (σ : L2.St) (H : Hp) (D : NEnd), m ≤ s.toks → Inv X pins σ H s → t D m σ H → wpAny (model X.prog X.w) X.A (execs sts X.env) (SN X pins D) X.xe s
/-- with the bound kept -/
theorem thm {α : Type} {t : Sem α} {Q Q' : α → Shared → Prop} {M : Model} {A : Around} {E : Value → Shared → Prop} {s : Shared} {m : Nat} (hm : m ≤ s.toks) (h : wpAny M A t Q E s) (hQ : ∀ a s', m ≤ s'.toks → Q a s' → Q' a s') : wpAny M A t Q' E s :=
  wpAny_mono (wpAny_toks_of hm h) (fun a s' z => hQ a s' z.1 z.2) fun _ _ z => z.2
section
variable {X : Cx} {e : Expr} {st : Stmt} {sts : List Stmt} {te : NE} {t u : NS} {pos pos' : Pos}
def nOf (t : TE) : NE := fun m σ H Q => t σ H fun v H' => ∀ u, RelV v u → Q u v m H'
theorem pen_of {t : TE} (h : PE X e t) : PEN X e (nOf t) := ⟨fun m pins s σ H Q hm I q => thm hm (h.run pins s σ H _ I q) fun u s' hk ⟨v, H', I', r, z⟩ => ⟨v, m, H', hk, I', r, z u r⟩⟩
/-- the bound that was ahead of it -/
def nKeep (t : NE) : NE := fun m σ H Q => t m σ H fun u v _ H' => Q u v m H'
theorem pen_keep (h : PEN X e te) : PEN X e (nKeep te) := ⟨fun m pins s σ H Q hm I q => thm hm (h.run m pins s σ H _ hm I q) fun u s' hk ⟨v, _, H', _, I', r, z⟩ => ⟨v, m, H', hk, I', r, z⟩⟩
def nStr (x : Str) : NE := fun m _ H Q => ∀ t, m ≤ t → Q (.str x t) (.str x) (t + 1) H
theorem pen_str {x : Str} {j : Nat} : PEN X (.Constant (.str x) j pos) (nStr x) :=
  ⟨fun m pins s σ H Q hm I q => Calls.Constant_str ⟨.str x, s.toks + 1, H, Nat.le_refl _, I.tok _, ⟨_, rfl⟩, q s.toks hm⟩⟩
def sOf (t : TS) : NS := fun D m σ H => t { nx := D.nx m, rt := fun v H' => ∀ u, RelV v u → D.rt u v m H', bk := D.bk m, ct := D.ct m } σ H
theorem SN.of {pins : List (Addr × Obj)} {D : NEnd} {m : Nat} {fl : Flow} {s' : Shared} (hk : m ≤ s'.toks) (h : SP X pins { nx := D.nx m, rt := fun v H' => ∀ u, RelV v u → D.rt u v m H', bk := D.bk m, ct := D.ct m } fl s') : SN X pins D fl s' := by
  cases fl with
  | next => obtain ⟨a, b, I', q⟩ := h; exact ⟨m, a, b, hk, I', q⟩
  | brk => obtain ⟨a, b, I', q⟩ := h; exact ⟨m, a, b, hk, I', q⟩
  | cont => obtain ⟨a, b, I', q⟩ := h; exact ⟨m, a, b, hk, I', q⟩
  | ret u => obtain ⟨v, a, b, I', r, q⟩ := h; exact ⟨v, m, a, b, hk, I', r, q u r⟩
theorem psN_of {t : TS} (h : PS X st t) : PSN X st (sOf t) := ⟨fun m pins s σ H D hm I q => thm hm (h.run pins s σ H _ I q) fun _ _ hk z => SN.of hk z⟩
theorem pssN_of {t : TS} (h : PSs X sts t) : PSsN X sts (sOf t) := ⟨fun m pins s σ H D hm I q => thm hm (h.run pins s σ H _ I q) fun _ _ hk z => SN.of hk z⟩
def nNext : NS := fun D m σ H => D.nx m σ H
theorem pssN_nil : PSsN X [] nNext := ⟨fun m _ _ σ H _ hm I q => wpAny_execs_nil ⟨m, σ, H, hm, I, q⟩⟩
def nSeq (t u : NS) : NS := fun D m σ H => t { D with nx := u D } m σ H
theorem pssN_cons (h1 : PSN X st t) (h2 : PSsN X sts u) : PSsN X (st :: sts) (nSeq t u) := by
  refine ⟨fun m pins s σ H D hm I q => wpAny_execs_cons (thn (h1.run m pins s σ H { D with nx := u D } hm I q) fun fl s1 z => ?_)⟩
  cases fl with
  | next =>
    obtain ⟨m', a, b, hk, I', z⟩ := z
    exact h2.run m' pins s1 a b D hk I' z
  | ret v => exact z
  | brk => exact z
  | cont => exact z
/-- .. with a word at the place where ways meet -/
def nCut (t u : NS) : NS := fun D m σ H => ∃ G : Nat → L2.St → Hp → Prop, (∀ m σ H, G m σ H → u D m σ H) ∧ t { D with nx := G } m σ H
theorem pssN_cut (h1 : PSN X st t) (h2 : PSsN X sts u) : PSsN X (st :: sts) (nCut t u) := by
  refine ⟨fun m pins s σ H D hm I ⟨G, g, q⟩ => wpAny_execs_cons (thn (h1.run m pins s σ H { D with nx := G } hm I q) fun fl s1 z => ?_)⟩
  cases fl with
  | next =>
    obtain ⟨m', a, b, hk, I', z⟩ := z
    exact h2.run m' pins s1 a b D hk I' (g m' a b z)
  | ret v => exact z
  | brk => exact z
  | cont => exact z
theorem pssN_one (h1 : PSN X st t) : PSsN X [st] t := by
  refine ⟨fun m pins s σ H D hm I q => wpAny_execs_cons (thn (h1.run m pins s σ H D hm I q) fun fl s1 z => ?_)⟩
  cases fl with
  | next => exact wpAny_execs_nil z
  | ret v => exact z
  | brk => exact z
  | cont => exact z
theorem psN_ret (h : PEN X e te) : PSN X (.Return (some e) pos) (fun D m σ H => te m σ H D.rt) :=
  ⟨fun m pins s σ H D hm I q => wpAny_Return_some (thn (h.run m pins s σ H _ hm I q) fun u s1 ⟨v, m', H1, hk, I1, r, z⟩ => ⟨v, m', σ, H1, hk, I1, r, z⟩)⟩
def nDrop (te : NE) : NS := fun D m σ H => te m σ H fun _ _ m' H' => D.nx m' σ H'
theorem psN_expr (h : PEN X e te) (hs : swapsWith e none pos.line X.env = pure false := by rfl) : PSN X (.Expr e pos) (nDrop te) :=
  ⟨fun m pins s σ H D hm I q => wpAny_Expr_any (thn (h.run m pins s σ H _ hm I q) fun u s1 ⟨v, m', H1, hk, I1, r, z⟩ => ⟨m', σ, H1, hk, I1, z⟩) I.quiet hs⟩
theorem psN_set {i : Nat} {x : Str} {px : Pos} (hN : X.N.Nodup) (hi : X.N[i]? = some x) (hx : Loc X.env.scope x) (h : PEN X e te) (hs : swapsWith e (some (.Name x px)) pos.line X.env = pure false := by rfl)
    (hf : X.fn x = true ∨ X.env.scope.names.lookup x = some .local := by first | exact .inl rfl | exact .inr rfl | assumption) : PSN X (.Assign [.Name x px] e pos) (fun D m σ H => te m σ H fun _ v m' H' => D.nx m' (σ.set i (some v)) H') := by
  refine ⟨fun m pins s σ H D hm I q => wpAny_Assign_Name (thn (h.run m pins s σ H _ hm I q) fun u s1 ⟨v, m', H1, hk, I1, r, z⟩ => ?_) hs⟩
  refine thm hk (store_ok (Q := fun _ s2 => Inv X pins (σ.set i (some v)) H1 s2) I1 hN hi hx r (fun s2 I2 => I2) hf) fun _ s2 hk2 I2 => ⟨m', _, H1, hk2, I2, z⟩
theorem psN_if {c : Expr} {a b : List Stmt} {tc : TT} (hc : PT X c tc) (ha : PSsN X a t) (hb : PSsN X b u) : PSN X (.If c a b pos) (fun D m σ H => tc σ H fun d H1 => if d = true then t D m σ H1 else u D m σ H1) := by
  refine ⟨fun m pins s σ H D hm I q => wpAny_If (thm hm (hc.run pins s σ H _ I q) fun d s1 hk ⟨H1, I1, z⟩ => ?_)⟩
  cases d with
  | true => exact ha.run m pins s1 σ H1 D hk I1 z
  | false => exact hb.run m pins s1 σ H1 D hk I1 z
def nWhile (c : TT) (tb : NS) : NS := fun D m σ H => ∃ W : Nat → Nat → L2.St → Hp → Prop, (∃ j, W j m σ H) ∧ ∀ j m σ H, W j m σ H →
  c σ H fun d H1 => if d = true then tb { D with nx := fun m' σ' H' => ∃ j', j' < j ∧ W j' m' σ' H', ct := fun m' σ' H' => ∃ j', j' < j ∧ W j' m' σ' H', bk := D.nx } m σ H1 else D.nx m σ H1
theorem psN_while {c : Expr} {tc : TT} (hp : PassesOwn (model X.prog X.w) X.A X.env X.xe) (hc : PT X c tc) (hb : PSsN X sts t) : PSN X (.While c sts [] pos) (nWhile tc t) := by
  refine ⟨fun m pins s σ H D hm I ⟨W, ⟨j0, w0⟩, turn⟩ => ?_⟩
  refine wpAny_While (codeAny_whileLoop (fun j s' => ∃ m' a b, m' ≤ s'.toks ∧ Inv X pins a b s' ∧ W j m' a b) ?_ j0 ⟨m, σ, H, hm, I, w0⟩)
  rintro j s1 ⟨m1, a1, b1, hk1, I1, w1⟩
  refine wpAny_passesOwn hp (thm hk1 (hc.run pins s1 a1 b1 _ I1 (turn j m1 a1 b1 w1)) fun d s2 hk2 ⟨H2, I2, q2⟩ => ?_)
  cases d with
  | true =>
    rw [if_pos rfl] at q2 ⊢
    refine wpAny_passesOwn hp (thn (hb.run m1 pins s2 a1 H2 _ hk2 I2 q2) fun fl s3 q3 => ?_)
    cases fl with
    | next => obtain ⟨m3, a3, b3, hk3, I3, j', hj, w3⟩ := q3; exact ⟨j', hj, m3, a3, b3, hk3, I3, w3⟩
    | cont => obtain ⟨m3, a3, b3, hk3, I3, j', hj, w3⟩ := q3; exact ⟨j', hj, m3, a3, b3, hk3, I3, w3⟩
    | brk => exact q3
    | ret v => exact q3
  | false =>
    rw [if_neg Bool.false_ne_true] at q2 ⊢
    exact wpAny_execs_nil ⟨m1, a1, H2, hk2, I2, q2⟩
end

/-! ### defs -/
def CEN (outer : List Env) (P : Program) (w : World) (H : Hp) (s : Shared) (Q : NK) (u : Value) (s' : Shared) : Prop :=
  ∃ v m' H', m' ≤ s'.toks ∧ s'.os = s.os ∧ AllBare s'.gens ∧ Un (frs outer) [] H H' s.heap s'.heap ∧ HOk P w H' s'.heap ∧ RelV v u ∧ Q u v m' H'
def CRN (CX : CXT) (outer : List Env) (P : Program) (w : World) (H : Hp) (s : Shared) (Q : NK) (E : XK) (r : Result) (s' : Shared) : Prop :=
  match r with
  | .ok (.ret u) => CEN outer P w H s Q u s'
  | .ok _ => False
  | .error e => CX outer H s E e s'
structure FnN (P : Program) (w : World) (K : PySem.W.Frag) (mg : Str → Option Value) (base : Heap) (CX : CXT) (k : Nat) (f : Addr) (fd : FuncData) (ps : List Str) (sp : NSp) : Prop where
  len : ∀ m vs H Q E, sp m vs H Q E → vs.length = ps.length
  run : ∀ (m : Nat) (A : Around) (outer : List Env) (s : Shared) (H : Hp) (args : Args) (us : List Value) (vs : List V) (Q : NK) (E : XK), m ≤ s.toks → Room k A → Env0 P w K mg base A outer s H → BindsTo s fd args (ps.zip us) → Vals vs us → sp m vs H Q E →
    codeAny (model P w) A (.call (.ref f) args) (CRN CX outer P w H s Q E) s
/-- behind a raw call -/
theorem Inv.afterN {X : Cx} {pins : List (Addr × Obj)} {σ : L2.St} {H : Hp} {s s' : Shared} {Q : NK} {u : Value} (I : Inv X pins σ H s) (h : CEN X.stack X.prog X.w H s Q u s') : EN X pins σ Q u s' := by
  obtain ⟨v, m', H', hk, os, bare, un, hok, r, q⟩ := h
  exact ⟨v, m', H', hk, I.call' (ch := []) os un hok bare (fun b z => absurd z (by simp)), r, q⟩
section
variable {X : Cx} {CX : CXT} {k j : Nat} {f C : Addr} {fd : FuncData} {ps : List Str} {sp : NSp} {E : XK} {x m : Str} {p pos apos : Pos} {e o : Expr} {es : List Expr} {ta : TE} {t : TA}
theorem run_fnN {n : Nat} {pins : List (Addr × Obj)} {σ : L2.St} {H : Hp} {s : Shared} {Q : NK} {us : List Value} {vs : List V} (F : FnN X.prog X.w X.K X.mg X.base CX k f fd ps sp) (hr : Room k X.A) (hb : Binds X.K fd ps []) (hx : Passes CX X E)
    (hm : n ≤ s.toks) (I : Inv X pins σ H s) (r : Vals vs us) (h : sp n vs H Q E) : wpAny (model X.prog X.w) X.A (call (.ref f) us) (EN X pins σ Q) X.xe s := by
  have hl : us.length = ps.length := by rw [← r.length]; exact F.len _ _ _ _ _ h
  have hb' := hb s us I.kIn (by simpa using hl)
  rw [List.append_nil] at hb'
  refine wpAny_call (codeAny_mono (F.run n X.A X.stack s H ⟨us, []⟩ us vs Q E hm hr I.env0 hb' r h) fun res s' hq => ?_)
  cases res with
  | error e => exact hx pins σ H s e s' I hq
  | ok fl =>
    cases fl with
    | ret u => exact LE.Inv.afterN I hq
    | next => exact False.elim hq
    | brk => exact False.elim hq
    | cont => exact False.elim hq
def nCall (sp : NSp) (E : XK) (t : TA) : NE := fun m σ H Q => t σ H fun vs H1 => sp m vs H1 Q E
def nMeth (C : Addr) (m : Str) (sp : NSp) (E : XK) (ta : TE) (t : TA) : NE := fun n σ H Q => ta σ H fun x H1 => ∃ a dx fs, x = .ref a ∧ H1 a = some (.ins C dx fs) ∧ fs.lookup m = none ∧ t σ H1 fun vs H2 => sp n (x :: vs) H2 Q E
end
section
variable (P : Program) (w : World) (K : PySem.W.Frag) (mg : Str → Option Value) (base : Heap)
/-- a def that is called by its name, raw -/
structure DnN (CX : CXT) (k : Nat) (x : Str) (sp : NSp) : Prop where
  ex : ∃ (f : Addr) (fd : FuncData) (ps : List Str), FnN P w K mg base CX k f fd ps sp ∧ mg x = some (.ref f) ∧ PySem.W.keepIn K (.ref f) = true ∧ Binds K fd ps []
structure MnN (CX : CXT) (k : Nat) (C : Addr) (m : Str) (sp : NSp) : Prop where
  ex : ∃ (f : Addr) (fd : FuncData) (ps : List Str), Cls K C ∧ Meth K C m f ∧ FnN P w K mg base CX k f fd ps sp ∧ Binds K fd ps []
end
section
variable {X : Cx} {CX : CXT} {k j : Nat} {f C : Addr} {fd : FuncData} {ps : List Str} {sp : NSp} {E : XK} {x m : Str} {p pos apos : Pos} {e o : Expr} {es : List Expr} {ta : TE} {t : TA}
theorem pen_dn (c : DnN X.prog X.w X.K X.mg X.base CX k x sp) (hr : Room j X.A) (hx : Passes CX X E) (ha : PA X (e :: es) t) (hk : k ≤ j := by decide) (hg : Gl X x := by rfl)
    (hdb : (x == ("__debug__" : Str)) = false := by decide) (he : starEach (e :: es) X.env = (false, eval e X.env) :: starEach es X.env := by rfl) (hpl : (backTo pos (starEach es X.env)).any (·.1) = false := by rfl) :
    PEN X (.Call (.Name x p) (e :: es) [] pos) (nCall sp E t) := by
  obtain ⟨f, fd, ps, F, hm, kp, b⟩ := c.ex
  refine ⟨fun n pins s σ H Q hn I h => wpAny_Call_Name_kw (ld_glob I hg hm ?_ hdb)⟩
  refine PySem.W.callWith_K (h₀ := X.base) I.ok.mod.kin kp (thm hn (ha.run pos pins s σ H _ I h) fun us s1 hk1 ⟨vs, H1, I1, r, q⟩ => ⟨I1.kIn, ?_⟩) he hpl
  exact run_fnN F (hr.mono hk) b hx hk1 I1 r q
theorem pen_mn {pl : Sem Bool} (c : MnN X.prog X.w X.K X.mg X.base CX k C m sp) (hr : Room j X.A) (hx : Passes CX X E) (he : PE X o ta) (ha : PA X (e :: es) t) (hk : k ≤ j := by decide)
    (hst : starEach (e :: es) X.env = (false, eval e X.env) :: starEach es X.env := by rfl) (hpl : (backTo pos (starEach es X.env)).any (·.1) = false := by rfl)
    (ht : eval (.Call (.Attribute o m apos) (e :: es) [] pos) X.env = (do
      let ov ← eval o X.env
      standAt apos.atName
      let (f, first) ← holding [ov] (getMethod ov m pl)
      callWith pos f first (backTo pos (starEach (e :: es) X.env)) (backToKw pos (keywordEach [] X.env))) := by rfl) :
    PEN X (.Call (.Attribute o m apos) (e :: es) [] pos) (nMeth C m sp E ta t) := by
  obtain ⟨f, fd, ps, hc, hm, F, b⟩ := c.ex
  refine ⟨fun n pins s σ H Q hn I h => PySem.W.methodCall_KW (pl := pl) (thm hn (he.run pins s σ H _ I h) fun u s1 hk1 ⟨x, H1, I1, rx, a, dx, fs, ex, ea, l, q⟩ => ?_) ht⟩
  subst ex
  cases rx
  refine getmeth_ok I1 ea hc hm l (PySem.W.callWith_K (first := [.ref a]) (h₀ := X.base) I.ok.mod.kin hm.kp (thm hk1 (ha.run pos pins s1 σ H1 _ I1 q) fun us s2 hk2 ⟨vs, H2, I2, r, q2⟩ => ⟨I2.kIn, ?_⟩) hst hpl)
  exact run_fnN (us := .ref a :: us) (vs := .ref a :: vs) F (hr.mono hk) b hx hk2 I2 (.cons rfl r) q2
theorem pen_mn0 {pl : Sem Bool} (c : MnN X.prog X.w X.K X.mg X.base CX k C m sp) (hr : Room j X.A) (hx : Passes CX X E) (he : PE X o ta) (hk : k ≤ j := by decide)
    (ht : eval (.Call (.Attribute o m apos) [] [] pos) X.env = (do
      let ov ← eval o X.env
      standAt apos.atName
      let (f, first) ← holding [ov] (getMethod ov m pl)
      callWith pos f first (backTo pos (starEach [] X.env)) (backToKw pos (keywordEach [] X.env))) := by rfl) :
    PEN X (.Call (.Attribute o m apos) [] [] pos) (nMeth C m sp E ta tNil) := by
  obtain ⟨f, fd, ps, hc, hm, F, b⟩ := c.ex
  refine ⟨fun n pins s σ H Q hn I h => PySem.W.methodCall_KW (pl := pl) (thm hn (he.run pins s σ H _ I h) fun u s1 hk1 ⟨x, H1, I1, rx, a, dx, fs, ex, ea, l, q⟩ => ?_) ht⟩
  subst ex
  cases rx
  refine getmeth_ok I1 ea hc hm l ?_
  exact PySem.W.callWith_K0 (first := [.ref a]) I1.kIn hm.kp (run_fnN (us := [.ref a]) (vs := [.ref a]) F (hr.mono hk) b hx hk1 I1 (.cons rfl .nil) q)
end
/-- a def's call by its body, raw; the entry itself is known -/
theorem body_raw {CX : CXT} {P : Program} {w : World} {K : PySem.W.Frag} {mg : Str → Option Value} {base : Heap} {k : Nat} {f : Addr} {x qual : Str} {st : Stmt} {fd : FuncData} {N ps : List Str} (F : Fun K x qual st f fd) (S : FnScope N ps (defScope st))
    {m : Nat} {A : Around} {outer : List Env} {s : Shared} {H : Hp} {args : Args} {us : List Value} {vs : List V} {Q : NK} {E : XK} (hl : vs.length = ps.length) (hm : m ≤ s.toks) (hr : Room (k + 1) A) (e0 : Env0 P w K mg base A outer s H) (hb : BindsTo s fd args (ps.zip us)) (r : Vals vs us)
    (hbody : ∀ (cdv : Value) (s1 : Shared), Room k (A.deeper (envOfC qual (defScope st) s.heap.objs.size f cdv)) → m ≤ s1.toks →
      s1.heap.Ns s.heap.objs.size (bindL (envOfC qual (defScope st) s.heap.objs.size f cdv).kindOf (ps.zip us) fun _ => none) →
      Inv (cxOf CX P w K mg base N qual (defScope st) f cdv A outer s H E) [] (start N vs) H s1 →
      wpAny (model P w) (cxOf CX P w K mg base N qual (defScope st) f cdv A outer s H E).A (execs (defBody st) (cxOf CX P w K mg base N qual (defScope st) f cdv A outer s H E).env)
        (SN (cxOf CX P w K mg base N qual (defScope st) f cdv A outer s H E) [] { nx := fun m' _ H' => Q .none .non m' H', rt := Q }) (cxOf CX P w K mg base N qual (defScope st) f cdv A outer s H E).xe s1) :
    codeAny (model P w) A (.call (.ref f) args) (CRN CX outer P w H s Q E) s := by
  obtain ⟨oc, od, kV, doc, pm, an, cdv, ct, osl, rfl, lk, hcd⟩ := F.ex
  have KX : K.In s.heap := e0.mod.kin.keeps fun b o e => (e0.bs b o e).1
  have lim : s.heap.NoLimit := e0.mod.nolimit.keeps fun b o e => (e0.bs b o e).1
  have hkind : ∀ y ∈ ps.zip us, (defScope st).names.lookup y.1 = some .local ∨ ((defScope st).names.lookup y.1 = some .cell ∧ ((cellsFrom (s.heap.objs.size + 1) (defScope st).names []).lookup y.1).isSome = true) := fun ⟨n, v⟩ hy =>
    (S.par n (List.of_mem_zip hy).1).elim .inl fun q => .inr ⟨q, PySem.W.cellsFrom_some _ _ _ (.inl q)⟩
  refine codeAny_call_function hr.depth (KX _ _ lk) rfl S.co S.gen rfl (PySem.W.codeRec_of KX hcd) (hb _ _ _ _ ?_)
  refine thm hm (wpAny_newFunctionEnv_cells (Q := fun env s1 => env = envOfC qual (defScope st) s.heap.objs.size f cdv ∧ InCallC s s.heap.objs.size (bindL (envOfC qual (defScope st) s.heap.objs.size f cdv).kindOf (ps.zip us) fun _ => none) (cellsFrom (s.heap.objs.size + 1) (defScope st).names [])
    (bindC (envOfC qual (defScope st) s.heap.objs.size f cdv).kindOf (ps.zip us) fun _ => none) s1) S.kind hkind fun env he s1 z => by subst he; exact ⟨rfl, z⟩) fun env s1 hk ⟨he, z⟩ => ?_
  subst he
  refine ⟨lim.keeps z.toInCall.keep, codeAny_func ?_⟩
  have I : Inv (cxOf CX P w K mg base N qual (defScope st) f cdv A outer s H E) [] (start N vs) H s1 := inv_start S hr.hd e0 hl r z
  refine wpAny_mono (hbody cdv s1 (hr.deeper _) hk z.toInCall.ns I) (fun fl s' hs => ?_) fun e s' hs => hs
  cases fl with
  | ret u =>
    obtain ⟨v, m', a, b, hk', J, rv, q⟩ := hs
    exact ⟨v, m', b, hk', J.os, J.bare, J.base, J.hok, rv, q⟩
  | next =>
    obtain ⟨m', a, b, hk', J, q⟩ := hs
    exact ⟨.non, m', b, hk', J.os, J.bare, J.base, J.hok, rfl, q⟩
  | brk =>
    obtain ⟨_, _, _, _, _, q⟩ := hs
    exact False.elim q
  | cont =>
    obtain ⟨_, _, _, _, _, q⟩ := hs
    exact False.elim q
theorem fnN_raw {CX : CXT} {P : Program} {w : World} {K : PySem.W.Frag} {mg : Str → Option Value} {base : Heap} {k : Nat} {f : Addr} {x qual : Str} {st : Stmt} {fd : FuncData} {N ps : List Str} {sp : NSp} (F : Fun K x qual st f fd) (S : FnScope N ps (defScope st))
    (len : ∀ m vs H Q E, sp m vs H Q E → vs.length = ps.length)
    (hbody : ∀ (cdv : Value) (m : Nat) (A : Around) (outer : List Env) (s s1 : Shared) (H : Hp) (us : List Value) (vs : List V) (Q : NK) (E : XK), Room k (A.deeper (envOfC qual (defScope st) s.heap.objs.size f cdv)) → sp m vs H Q E → Vals vs us → m ≤ s1.toks →
      s1.heap.Ns s.heap.objs.size (bindL (envOfC qual (defScope st) s.heap.objs.size f cdv).kindOf (ps.zip us) fun _ => none) →
      Inv (cxOf CX P w K mg base N qual (defScope st) f cdv A outer s H E) [] (start N vs) H s1 →
      wpAny (model P w) (cxOf CX P w K mg base N qual (defScope st) f cdv A outer s H E).A (execs (defBody st) (cxOf CX P w K mg base N qual (defScope st) f cdv A outer s H E).env)
        (SN (cxOf CX P w K mg base N qual (defScope st) f cdv A outer s H E) [] { nx := fun m' _ H' => Q .none .non m' H', rt := Q }) (cxOf CX P w K mg base N qual (defScope st) f cdv A outer s H E).xe s1) :
    FnN P w K mg base CX (k + 1) f fd ps sp :=
  ⟨len, fun m A outer s H args us vs Q E hm hr e0 hb r hsp => body_raw F S (len _ _ _ _ _ hsp) hm hr e0 hb r fun cdv s1 hr' hm' hn I => hbody cdv m A outer s s1 H us vs Q E hr' hsp r hm' hn I⟩
/-- .. by its body's reading -/
theorem fnN_ok {CX : CXT} {P : Program} {w : World} {K : PySem.W.Frag} {mg : Str → Option Value} {base : Heap} {k : Nat} {f : Addr} {x qual : Str} {st : Stmt} {fd : FuncData} {N ps : List Str} {sp : NSp} (F : Fun K x qual st f fd) (S : FnScope N ps (defScope st))
    (len : ∀ m vs H Q E, sp m vs H Q E → vs.length = ps.length)
    (hbody : ∀ (cdv : Value) (m : Nat) (A : Around) (outer : List Env) (s : Shared) (H : Hp) (vs : List V) (Q : NK) (E : XK), Room k (A.deeper (envOfC qual (defScope st) s.heap.objs.size f cdv)) → sp m vs H Q E →
      ∃ t, PSsN (cxOf CX P w K mg base N qual (defScope st) f cdv A outer s H E) (defBody st) t ∧ t { nx := fun m' _ H' => Q .none .non m' H', rt := Q } m (start N vs) H) :
    FnN P w K mg base CX (k + 1) f fd ps sp :=
  fnN_raw F S len fun cdv m A outer s s1 H us vs Q E hr hsp _ hm _ I => by
    obtain ⟨t, ht, q⟩ := hbody cdv m A outer s H vs Q E hr hsp
    exact ht.run m [] s1 _ H _ hm I q
/-- a raw def as an ordinary one -/
theorem FnN.ok {CX : CXT} {P : Program} {w : World} {K : PySem.W.Frag} {mg : Str → Option Value} {base : Heap} {k : Nat} {f : Addr} {fd : FuncData} {ps : List Str} {sp : NSp} {sp' : Sp} (F : FnN P w K mg base CX k f fd ps sp) (h : ∀ vs H Q E, sp' vs H Q E → sp 0 vs H (fun _ v _ H' => Q v H') E) :
    FnOk P w K mg base CX k f fd ps sp' := by
  refine ⟨fun vs H Q E q => F.len _ _ _ _ _ (h _ _ _ _ q), fun A outer s H args us vs Q E hr he hb hv hs => codeAny_mono (F.run 0 A outer s H args us vs _ E (Nat.zero_le _) hr he hb hv (h _ _ _ _ hs)) fun res s' hq => ?_⟩
  cases res with
  | error e => exact hq
  | ok fl =>
    cases fl with
    | ret u =>
      obtain ⟨v, m', H', _, os, bare, un, hok, r, q⟩ := hq
      exact ⟨v, H', os, bare, un, hok, r, q⟩
    | next => exact hq
    | brk => exact hq
    | cont => exact hq
theorem FnN.mono {CX : CXT} {P : Program} {w : World} {K : PySem.W.Frag} {mg : Str → Option Value} {base : Heap} {j k : Nat} {f : Addr} {fd : FuncData} {ps : List Str} {sp : NSp} (F : FnN P w K mg base CX j f fd ps sp) (h : j ≤ k) : FnN P w K mg base CX k f fd ps sp :=
  ⟨F.len, fun m A outer s H args us vs Q E hm hr => F.run m A outer s H args us vs Q E hm (hr.mono h)⟩
end LE

/-! LE2: the tokens of a script, from place to place. -/
namespace LE
open VasedBase

/-- how many bytes of blanks and remarks stand ahead; the truth: whether within a remark -/
def sk : Bool → Bytes → Nat
  | _, [] => 0
  | rem, c :: r => if c = 10 then sk false r + 1 else if c = 35 then sk true r + 1 else if (!rem && (decide (c ≠ 32) && decide (c ≠ 9))) = true then 0 else sk rem r + 1
theorem sk_nl (rem : Bool) (r : Bytes) : sk rem (10 :: r) = sk false r + 1 := rfl
theorem sk_rem (rem : Bool) (r : Bytes) : sk rem (35 :: r) = sk true r + 1 := rfl
theorem sk_le : ∀ (rem : Bool) (l : Bytes), sk rem l ≤ l.length
  | _, [] => Nat.le_refl _
  | rem, c :: r => by
    have h1 := sk_le false r
    have h2 := sk_le true r
    have h3 := sk_le rem r
    unfold sk
    rw [List.length_cons]
    split
    · omega
    · split
      · omega
      · split <;> omega
theorem sk_true : ∀ l : Bytes, sk true l = (l.takeWhile (· != 10)).length + sk false (l.dropWhile (· != 10))
  | [] => rfl
  | c :: r => by
    have ih := sk_true r
    by_cases h : c = 10
    · subst h
      show sk true (10 :: r) = _
      rw [sk_nl, List.takeWhile_cons_of_neg (by decide), List.dropWhile_cons_of_neg (by decide), sk_nl]
      simp
    · have hb : (c != 10) = true := by simpa using h
      rw [List.takeWhile_cons_of_pos (p := (· != (10 : UInt8))) hb, List.dropWhile_cons_of_pos (p := (· != (10 : UInt8))) hb, List.length_cons]
      have e : sk true (c :: r) = sk true r + 1 := by
        show (if c = 10 then sk false r + 1 else if c = 35 then sk true r + 1 else if (!true && (decide (c ≠ 32) && decide (c ≠ 9))) = true then 0 else sk true r + 1) = _
        rw [if_neg h, Bool.not_true, Bool.false_and, if_neg Bool.false_ne_true, ite_self]
      rw [e, ih]
      omega
/-- a token takes one byte at least -/
theorem token_pos {c : UInt8} {r : Bytes} {x : Tok × Nat} (h : token (c :: r) = some x) : 1 ≤ x.2 ∧ x.2 ≤ (c :: r).length := by
  unfold token at h
  dsimp only at h
  split at h
  · rename_i hl
    split at h
    · cases h
    · cases h
      refine ⟨?_, (List.takeWhile_sublist _).length_le⟩
      rw [List.takeWhile_cons_of_pos hl]
      exact Nat.succ_le_succ (Nat.zero_le _)
  · split at h
    · rename_i hd
      rw [Option.map_eq_some_iff] at h
      obtain ⟨n, _, rfl⟩ := h
      refine ⟨?_, (List.takeWhile_sublist _).length_le⟩
      rw [List.takeWhile_cons_of_pos hd]
      exact Nat.succ_le_succ (Nat.zero_le _)
    · split at h
      · cases h
        exact ⟨Nat.le_refl _, Nat.succ_le_succ (Nat.zero_le _)⟩
      · cases h
theorem lex_cons (n a : Nat) (b : UInt8) (r : Bytes) : lex (n + 1) a (b :: r) = (if isBlank b = true then lex n (a + 1) r
    else if b == 35 then lex n (a + 1 + (r.takeWhile (· != 10)).length) (r.dropWhile (· != 10))
    else match token (b :: r) with
      | none => .error ⟨2, a⟩
      | some x => (lex n (a + x.2) ((b :: r).drop x.2)).map fun l => ⟨a, x.1⟩ :: l) := rfl
theorem dw_le (r : Bytes) : (r.dropWhile (· != 10)).length ≤ r.length := (List.dropWhile_sublist _).length_le
/-- enough fuel is enough -/
theorem lex_fuel : ∀ (k n m a : Nat) (l : Bytes), l.length ≤ k → l.length < n → l.length < m → lex n a l = lex m a l
  | _, 0, _, _, _, _, h, _ => absurd h (Nat.not_lt_zero _)
  | _, _ + 1, 0, _, _, _, _, h => absurd h (Nat.not_lt_zero _)
  | _, n + 1, m + 1, a, [], _, _, _ => rfl
  | 0, n + 1, m + 1, a, b :: r, h, _, _ => absurd h (by simp)
  | k + 1, n + 1, m + 1, a, b :: r, hk, h1, h2 => by
    rw [List.length_cons] at hk h1 h2
    rw [lex_cons, lex_cons]
    split
    · exact lex_fuel k n m (a + 1) r (by omega) (by omega) (by omega)
    · split
      · have := dw_le r
        exact lex_fuel k n m _ _ (by omega) (by omega) (by omega)
      · cases e : token (b :: r) with
        | none => rfl
        | some x =>
          have p := token_pos e
          have q : ((b :: r).drop x.2).length ≤ k ∧ ((b :: r).drop x.2).length < n ∧ ((b :: r).drop x.2).length < m := by
            rw [List.length_drop, List.length_cons]
            omega
          show (lex n (a + x.2) ((b :: r).drop x.2)).map _ = (lex m (a + x.2) ((b :: r).drop x.2)).map _
          rw [lex_fuel k n m (a + x.2) ((b :: r).drop x.2) q.1 q.2.1 q.2.2]
/-- reading from a place on, with just enough fuel -/
def lx (a : Nat) (l : Bytes) : Except Fault Toks := lex (l.length + 1) a l
theorem lex_lx {n a : Nat} {l : Bytes} (h : l.length < n) : lex n a l = lx a l := lex_fuel l.length n (l.length + 1) a l (Nat.le_refl _) h (Nat.lt_succ_self _)
theorem lx_nil (a : Nat) : lx a [] = .ok [⟨a, .last⟩] := rfl
/-- where no blank and no remark begins -/
def Plain : Bytes → Prop
  | [] => True
  | c :: _ => isBlank c = false ∧ (c == 35) = false
theorem lx_tok {a : Nat} {b : UInt8} {r : Bytes} (h : Plain (b :: r)) : lx a (b :: r) = match token (b :: r) with
    | none => .error ⟨2, a⟩
    | some x => (lx (a + x.2) ((b :: r).drop x.2)).map fun l => ⟨a, x.1⟩ :: l := by
  unfold lx
  rw [lex_cons, if_neg (by rw [h.1]; exact Bool.false_ne_true), if_neg (by rw [h.2]; exact Bool.false_ne_true)]
  cases e : token (b :: r) with
  | none => rfl
  | some x =>
    have p := token_pos e
    show (lex _ _ _).map _ = _
    rw [lex_lx (by rw [List.length_drop, List.length_cons]; omega)]
    rfl
theorem blank_of {c : UInt8} (h : isBlank c = false) : c ≠ 32 ∧ c ≠ 9 ∧ c ≠ 10 := by
  unfold isBlank at h
  simp only [Bool.or_eq_false_iff, beq_eq_false_iff_ne] at h
  exact h
theorem plain_sk : ∀ (k : Nat) (l : Bytes), l.length ≤ k → Plain (l.drop (sk false l))
  | _, [], _ => trivial
  | 0, c :: r, h => absurd h (by simp)
  | k + 1, c :: r, h => by
    rw [List.length_cons] at h
    by_cases h1 : c = 10
    · subst h1
      rw [sk_nl]
      exact plain_sk k r (by omega)
    · by_cases h2 : c = 35
      · subst h2
        rw [sk_rem, sk_true, List.drop_succ_cons, ← List.drop_drop]
        have e : List.drop (r.takeWhile (· != 10)).length r = r.dropWhile (· != 10) := by
          have z := List.takeWhile_append_dropWhile (p := (· != (10 : UInt8))) (l := r)
          conv => lhs; rw [← z]
          conv => lhs; arg 1; rw [z]
          exact List.drop_left
        rw [e]
        have := dw_le r
        exact plain_sk k _ (by omega)
      · by_cases h3 : c = 32 ∨ c = 9
        · have e : sk false (c :: r) = sk false r + 1 := by
            show (if c = 10 then _ else if c = 35 then _ else if (!false && (decide (c ≠ 32) && decide (c ≠ 9))) = true then 0 else sk false r + 1) = _
            rw [if_neg h1, if_neg h2, if_neg]
            rcases h3 with h3 | h3 <;> subst h3 <;> decide
          rw [e]
          exact plain_sk k r (by omega)
        · have e : sk false (c :: r) = 0 := by
            show (if c = 10 then _ else if c = 35 then _ else if (!false && (decide (c ≠ 32) && decide (c ≠ 9))) = true then 0 else sk false r + 1) = _
            rw [if_neg h1, if_neg h2, if_pos]
            have h4 : c ≠ 32 ∧ c ≠ 9 := not_or.mp h3
            simp [h4.1, h4.2]
          rw [e]
          have h4 : c ≠ 32 ∧ c ≠ 9 := not_or.mp h3
          refine ⟨?_, by simpa using h2⟩
          unfold isBlank
          simp [h4.1, h4.2, h1]
theorem lx_sk : ∀ (k a : Nat) (l : Bytes), l.length ≤ k → lx a l = lx (a + sk false l) (l.drop (sk false l))
  | _, _, [], _ => rfl
  | 0, _, c :: r, h => absurd h (by simp)
  | k + 1, a, c :: r, h => by
    rw [List.length_cons] at h
    by_cases h1 : c = 10
    · subst h1
      rw [sk_nl, List.drop_succ_cons]
      show lex (r.length + 1) (a + 1) r = _
      rw [lex_lx (Nat.lt_succ_self _), lx_sk k (a + 1) r (by omega)]
      congr 1
      omega
    · by_cases h2 : c = 35
      · subst h2
        rw [sk_rem, sk_true, List.drop_succ_cons, ← List.drop_drop]
        have e : List.drop (r.takeWhile (· != 10)).length r = r.dropWhile (· != 10) := by
          have z := List.takeWhile_append_dropWhile (p := (· != (10 : UInt8))) (l := r)
          conv => lhs; rw [← z]
          conv => lhs; arg 1; rw [z]
          exact List.drop_left
        rw [e]
        have := dw_le r
        show lex (r.length + 1) (a + 1 + (r.takeWhile (· != 10)).length) (r.dropWhile (· != 10)) = _
        rw [lex_lx (by omega), lx_sk k _ _ (by omega)]
        congr 1
        omega
      · by_cases h3 : c = 32 ∨ c = 9
        · have e : sk false (c :: r) = sk false r + 1 := by
            show (if c = 10 then _ else if c = 35 then _ else if (!false && (decide (c ≠ 32) && decide (c ≠ 9))) = true then 0 else sk false r + 1) = _
            rw [if_neg h1, if_neg h2, if_neg]
            rcases h3 with h3 | h3 <;> subst h3 <;> decide
          have hb : isBlank c = true := by rcases h3 with h3 | h3 <;> subst h3 <;> rfl
          rw [e, List.drop_succ_cons]
          show lex (r.length + 1 + 1) a (c :: r) = _
          rw [lex_cons, if_pos hb, lex_lx (Nat.lt_succ_self _), lx_sk k (a + 1) r (by omega)]
          congr 1
          omega
        · have e : sk false (c :: r) = 0 := by
            show (if c = 10 then _ else if c = 35 then _ else if (!false && (decide (c ≠ 32) && decide (c ≠ 9))) = true then 0 else sk false r + 1) = _
            rw [if_neg h1, if_neg h2, if_pos]
            have h4 : c ≠ 32 ∧ c ≠ 9 := not_or.mp h3
            simp [h4.1, h4.2]
          rw [e]
          rfl
end LE

/-! LC: letters. -/
namespace LE
open PySem PySem.Spec PyProof.Rows L2 Evl
open VasedBase (isLetter isDigit)
variable {P : Program} {w : World} {K : PySem.W.Frag} {mg : Str → Option Value} {base : Heap}
def ALPH : Str := "abcdefghijklmnopqrstuvwxyz"
structure TxtLetters (mg : Str → Option Value) : Prop where
  alph : Gc mg "ALPHABET" (.str ALPH)
  ba : Gc mg "BYTE_OF_A" (.int 97)
  lf : Gc mg "LINE_FEED" (.int 10)
  d0 : Gc mg "DIGIT_ZERO" (.int 48)
  d9 : Gc mg "DIGIT_NINE" (.int 57)
  len : mg "len" = none
/-- a test of a byte -/
def spByte (p : UInt8 → Bool) : Sp := fun vs H Q _ => ∃ c : UInt8, vs = [.int (c.toNat : Nat)] ∧ RetV (.bl (p c)) H Q
abbrev sIsLetter : Stmt := top 21
theorem sc_is_letter : FnScope ["byte"] ["byte"] (defScope sIsLetter) := ⟨rfl, rfl, rfl, by decide +kernel, rfl, by decide +kernel, by decide +kernel⟩
theorem isLetter_is (c : UInt8) : isLetter c = (decide ((97 : Int) ≤ (c.toNat : Nat)) && decide (((c.toNat : Nat) : Int) < 97 + 26)) := by
  unfold isLetter
  rw [← Bool.decide_and]
  congr 1
  apply propext
  constructor <;> intro h <;> omega
theorem ok_is_letter {f : Addr} {fd : FuncData} (F : Fun K "is_letter" "is_letter" sIsLetter f fd) (T : TxtLetters mg) : FnOk P w K mg base CX0 1 f fd ["byte"] (spByte isLetter) := by
  refine F.ok sc_is_letter (fun vs H Q E h => ?_) (fun cdv A outer s H vs Q E hr h => ⟨_, pss_one (ps_ret (pe_chain op_le op_lt (pe_gc T.ba) (pv 0)
    (pe_op op_add (pe_gc T.ba) (pe_callB call_len_str (by rfl) T.len PySem.boot_len (pa_cons (pe_gc T.alph) pa_nil))) )), ?_⟩)
  · obtain ⟨c, rfl, _⟩ := h
    rfl
  · obtain ⟨c, rfl, k⟩ := h
    refine ⟨_, rfl, _, _, rfl, rfl, _, rfl, ?_⟩
    have e := isLetter_is c
    cases h1 : decide ((97 : Int) ≤ (c.toNat : Nat)) with
    | false =>
      rw [h1, Bool.false_and] at e
      rw [e] at k
      exact iteF (k H (Ex.refl H))
    | true =>
      rw [h1, Bool.true_and] at e
      rw [e] at k
      exact iteT ⟨ALPH, rfl, by decide, _, _, rfl, rfl, _, _, rfl, rfl, k H (Ex.refl H)⟩

abbrev sIsDigit : Stmt := top 60
theorem sc_is_digit : FnScope ["byte"] ["byte"] (defScope sIsDigit) := ⟨rfl, rfl, rfl, by decide +kernel, rfl, by decide +kernel, by decide +kernel⟩
theorem isDigit_is (c : UInt8) : isDigit c = (decide ((48 : Int) ≤ (c.toNat : Nat)) && decide (((c.toNat : Nat) : Int) ≤ 57)) := by
  unfold isDigit
  rw [← Bool.decide_and]
  congr 1
  apply propext
  constructor <;> intro h <;> omega
theorem ok_is_digit {f : Addr} {fd : FuncData} (F : Fun K "is_digit" "is_digit" sIsDigit f fd) (T : TxtLetters mg) : FnOk P w K mg base CX0 1 f fd ["byte"] (spByte isDigit) := by
  refine F.ok sc_is_digit (fun vs H Q E h => ?_) (fun cdv A outer s H vs Q E hr h => ⟨_, pss_one (ps_ret (pe_chain op_le op_le (pe_gc T.d0) (pv 0) (pe_gc T.d9))), ?_⟩)
  · obtain ⟨c, rfl, _⟩ := h
    rfl
  · obtain ⟨c, rfl, k⟩ := h
    refine ⟨_, rfl, _, _, rfl, rfl, _, rfl, ?_⟩
    have e := isDigit_is c
    cases h1 : decide ((48 : Int) ≤ (c.toNat : Nat)) with
    | false =>
      rw [h1, Bool.false_and] at e
      rw [e] at k
      exact iteF (k H (Ex.refl H))
    | true =>
      rw [h1, Bool.true_and] at e
      rw [e] at k
      exact iteT ⟨_, _, rfl, rfl, k H (Ex.refl H)⟩

/-! ### behind_all -/
abbrev sBehindAll : Stmt := top 61
theorem sc_behind_all : FnScope ["script", "place", "belongs"] ["script", "place", "belongs"] (defScope sBehindAll) := ⟨rfl, rfl, rfl, by decide +kernel, rfl, by decide +kernel, by decide +kernel⟩
/-- how far p holds from the n-th byte on -/
def far (p : UInt8 → Bool) (b : List UInt8) (n : Nat) : Nat := n + ((b.drop n).takeWhile p).length
theorem far_end {p : UInt8 → Bool} {b : List UInt8} {n : Nat} (h : b.length ≤ n) : far p b n = n := by
  unfold far
  rw [List.drop_eq_nil_of_le h]
  rfl
theorem drop_get {α : Type} {b : List α} {n : Nat} {c : α} (h : b[n]? = some c) : b.drop n = c :: b.drop (n + 1) := by
  obtain ⟨hl, e⟩ := List.getElem?_eq_some_iff.mp h
  rw [List.drop_eq_getElem_cons hl, e]
theorem far_yes {p : UInt8 → Bool} {b : List UInt8} {n : Nat} {c : UInt8} (h : b[n]? = some c) (hp : p c = true) : far p b n = far p b (n + 1) := by
  unfold far
  rw [drop_get h, List.takeWhile_cons_of_pos hp, List.length_cons]
  omega
theorem far_no {p : UInt8 → Bool} {b : List UInt8} {n : Nat} {c : UInt8} (h : b[n]? = some c) (hp : p c = false) : far p b n = n := by
  unfold far
  rw [drop_get h, List.takeWhile_cons_of_neg (by rw [hp]; exact Bool.false_ne_true)]
  rfl
theorem far_le {p : UInt8 → Bool} {b : List UInt8} {n : Nat} (h : n ≤ b.length) : n ≤ far p b n ∧ far p b n ≤ b.length := by
  unfold far
  have := (List.takeWhile_sublist (l := b.drop n) p).length_le
  rw [List.length_drop] at this
  omega
def spBehind (K : PySem.W.Frag) (g : Addr) (p : UInt8 → Bool) : Sp := fun vs H Q _ => ∃ (a : Addr) (b : List UInt8) (n : Nat), vs = [.ref a, .int (n : Nat), .ref g] ∧ SqL K H a (ib b) ∧ n ≤ b.length ∧ RetV (.int (far p b n : Nat)) H Q
theorem ok_behind_all {f g : Addr} {fd fdg : FuncData} {p : UInt8 → Bool} (F : Fun K "behind_all" "behind_all" sBehindAll f fd) (T : TxtLetters mg) (G : FnOk P w K mg base CX0 1 g fdg ["byte"] (spByte p)) (kg : PySem.W.keepIn K (.ref g) = true) (bg : Binds K fdg ["byte"] []) :
    FnOk P w K mg base CX0 2 f fd ["script", "place", "belongs"] (spBehind K g p) := by
  refine F.ok sc_behind_all (fun vs H Q E h => ?_) (fun cdv A outer s H vs Q E hr h => ⟨_, pss_cons (ps_while PassesOwn.never (PW.pt (pw_and (pt_cmpR op_lt (pv 1) (pe_callB call_len_seq (by rfl) T.len PySem.boot_len (pa_cons (pv 0) pa_nil)) (nomark _))
      (pw_and1 (pt_val (pe_callL (i := 2) (f := g) G hr rfl (.inl rfl) kg bg .nil pass0 (pa_cons (pe_ix ix_list (pv 0) (pv 1) (fun _ _ => rfl)) pa_nil))))))
      (pss_one (ps_aug (i := 1) sc_behind_all.nd rfl (.inl rfl) pe_int ip_add))) (pss_one (ps_ret (pv 1))), ?_⟩)
  · obtain ⟨a, b, n, rfl, _⟩ := h
    rfl
  · obtain ⟨a, b, n, rfl, hb, hn, k⟩ := h
    refine ⟨fun m σ H' => ∃ i : Nat, σ = [some (.ref a), some (.int (i : Nat)), some (.ref g)] ∧ i ≤ b.length ∧ m = b.length - i ∧ far p b i = far p b n ∧ Ex H H', ⟨_, n, rfl, hn, rfl, rfl, Ex.refl H⟩, ?_⟩
    rintro m σ H' ⟨i, rfl, hi, rfl, hf, ex⟩
    have hb' := ex_l ex hb
    refine ⟨_, rfl, _, rfl, a, _, rfl, .inl hb', _, _, rfl, rfl, _, rfl, ?_⟩
    rw [ib_len]
    by_cases hlt : i < b.length
    · rw [decide_eq_true (show (i : Int) < (b.length : Nat) by omega)]
      obtain ⟨c, hc⟩ : ∃ c, b[i]? = some c := ⟨_, List.getElem?_eq_getElem hlt⟩
      refine iteT ⟨rfl, _, rfl, _, rfl, a, _, _, _, rfl, rfl, hb', atI_nat (ib_get hc), c, rfl, fun H2 e2 => ?_⟩
      cases hp : p c with
      | true =>
        refine ⟨_, rfl, iteT ⟨fun σ' H' => ∃ m', m' < b.length - i ∧ ∃ j : Nat, σ' = [some (.ref a), some (.int (j : Nat)), some (.ref g)] ∧ j ≤ b.length ∧ m' = b.length - j ∧ far p b j = far p b n ∧ Ex H H', fun _ _ h => h, ?_⟩⟩
        refine ⟨_, rfl, _, _, rfl, rfl, b.length - (i + 1), by omega, i + 1, ?_, hlt, rfl, (far_yes hc hp).symm.trans hf, ex.trans e2⟩
        rfl
      | false =>
        refine ⟨_, rfl, iteF ⟨_, rfl, ?_⟩⟩
        have z := far_no hc hp
        rw [← hf, z] at k
        exact k _ (ex.trans e2)
    · rw [decide_eq_false (show ¬ (i : Int) < (b.length : Nat) by omega)]
      refine iteF (iteF ⟨_, rfl, ?_⟩)
      have z : far p b i = i := far_end (by omega)
      rw [← hf, z] at k
      exact k _ ex

/-! ### behind_blanks -/
structure TxtBlanks (mg : Str → Option Value) : Prop where
  lf : Gc mg "LINE_FEED" (.int 10)
  rem : Gc mg "REMARK" (.int 35)
  bl : Gc mg "BLANK" (.int 32)
  tab : Gc mg "TAB" (.int 9)
  len : mg "len" = none
theorem byt_t {c : UInt8} (k : UInt8) {z : Int} (h : decide (V.int (c.toNat : Nat) = V.int z) = true) (e : z = (k.toNat : Nat) := by rfl) : c = k := by
  have q : V.int (c.toNat : Nat) = V.int z := of_decide_eq_true h
  have q2 : ((c.toNat : Nat) : Int) = z := V.int.inj q
  apply UInt8.toNat.inj
  omega
theorem byt_f {c : UInt8} (k : UInt8) {z : Int} (h : decide (V.int (c.toNat : Nat) = V.int z) = false) (e : z = (k.toNat : Nat) := by rfl) : ¬ c = k := by
  intro q
  subst q
  subst e
  simp at h
abbrev sBlanks : Stmt := top 58
theorem sc_blanks : FnScope ["script", "place", "in_remark", "byte"] ["script", "place"] (defScope sBlanks) := ⟨rfl, rfl, rfl, by decide +kernel, rfl, by decide +kernel, by decide +kernel⟩
def spBlanks (K : PySem.W.Frag) : Sp := fun vs H Q _ => ∃ (a : Addr) (b : List UInt8) (n : Nat), vs = [.ref a, .int (n : Nat)] ∧ SqL K H a (ib b) ∧ n ≤ b.length ∧ RetV (.int (n + sk false (b.drop n) : Nat)) H Q
theorem sk_10 {rem : Bool} {c : UInt8} {r : List UInt8} (h : c = 10) : sk rem (c :: r) = sk false r + 1 := by subst h; rfl
theorem sk_35 {rem : Bool} {c : UInt8} {r : List UInt8} (h1 : ¬ c = 10) (h : c = 35) : sk rem (c :: r) = sk true r + 1 := by subst h; rfl
theorem sk_stop {rem : Bool} {c : UInt8} {r : List UInt8} (h1 : ¬ c = 10) (h2 : ¬ c = 35) (h : (!rem && (decide (c ≠ 32) && decide (c ≠ 9))) = true) : sk rem (c :: r) = 0 := by
  unfold sk
  rw [if_neg h1, if_neg h2, if_pos h]
theorem sk_go {rem : Bool} {c : UInt8} {r : List UInt8} (h1 : ¬ c = 10) (h2 : ¬ c = 35) (h : ¬ (!rem && (decide (c ≠ 32) && decide (c ≠ 9))) = true) : sk rem (c :: r) = sk rem r + 1 := by
  show (if c = 10 then sk false r + 1 else if c = 35 then sk true r + 1 else if (!rem && (decide (c ≠ 32) && decide (c ≠ 9))) = true then 0 else sk rem r + 1) = _
  rw [if_neg h1, if_neg h2, if_neg h]
theorem ok_blanks {f : Addr} {fd : FuncData} (F : Fun K "behind_blanks" "behind_blanks" sBlanks f fd) (T : TxtBlanks mg) : FnOk P w K mg base CX0 1 f fd ["script", "place"] (spBlanks K) := by
  refine F.ok sc_blanks (fun vs H Q E h => ?_) (fun cdv A outer s H vs Q E hr h => ⟨_, pss_cons (ps_set (i := 2) sc_blanks.nd rfl (.inl rfl) pe_bl)
    (pss_cons (ps_while PassesOwn.never (pt_cmpR op_lt (pv 1) (pe_callB call_len_seq (by rfl) T.len PySem.boot_len (pa_cons (pv 0) pa_nil)) (nomark _))
      (pss_cons (ps_set (i := 3) sc_blanks.nd rfl (.inl rfl) (pe_ix ix_list (pv 0) (pv 1) (fun _ _ => rfl)))
      (pss_cons (ps_if (pt_cmpR op_eq (pv 3) (pe_gc T.lf) (nomark _)) (pss_one (ps_set (i := 2) sc_blanks.nd rfl (.inl rfl) pe_bl))
        (pss_one (ps_if (pt_cmpR op_eq (pv 3) (pe_gc T.rem) (nomark _)) (pss_one (ps_set (i := 2) sc_blanks.nd rfl (.inl rfl) pe_bl))
        (pss_one (ps_if (PW.pt (pw_and (pt_not (pt_val (pv 2))) (pw_and (pt_cmpR op_ne (pv 3) (pe_gc T.bl) (nomark _)) (pw_and1 (pt_cmpR op_ne (pv 3) (pe_gc T.tab) (nomark _)))))) (pss_one (ps_ret (pv 1))) pss_nil)))))
      (pss_one (ps_aug (i := 1) sc_blanks.nd rfl (.inl rfl) pe_int ip_add)))))
    (pss_one (ps_ret (pv 1)))), ?_⟩)
  · obtain ⟨a, b, n, rfl, _⟩ := h
    rfl
  · obtain ⟨a, b, n, rfl, hb, hn, k⟩ := h
    refine ⟨fun m σ H' => ∃ (i : Nat) (rem : Bool) (v : Option V), σ = [some (.ref a), some (.int (i : Nat)), some (.bl rem), v] ∧ i ≤ b.length ∧ m = b.length - i ∧ i + sk rem (b.drop i) = n + sk false (b.drop n) ∧ Ex H H', ⟨_, n, false, none, rfl, hn, rfl, rfl, Ex.refl H⟩, ?_⟩
    rintro m σ H' ⟨i, rem, v, rfl, hi, rfl, hf, ex⟩
    have hb' := ex_l ex hb
    refine ⟨_, rfl, _, rfl, a, _, rfl, .inl hb', _, _, rfl, rfl, _, rfl, ?_⟩
    rw [ib_len]
    by_cases hlt : i < b.length
    · rw [decide_eq_true (show (i : Int) < (b.length : Nat) by omega)]
      obtain ⟨c, hc⟩ : ∃ c, b[i]? = some c := ⟨_, List.getElem?_eq_getElem hlt⟩
      rw [drop_get hc] at hf
      have next : ∀ (rem' : Bool), sk rem (c :: b.drop (i + 1)) = sk rem' (b.drop (i + 1)) + 1 → ∃ m', m' < b.length - i ∧ ∃ (j : Nat) (rem2 : Bool) (v : Option V), [some (V.ref a), some (.int ((i : Int) + 1)), some (.bl rem'), some (.int (c.toNat : Nat))] = [some (.ref a), some (.int (j : Nat)), some (.bl rem2), v] ∧ j ≤ b.length ∧ m' = b.length - j ∧ j + sk rem2 (b.drop j) = n + sk false (b.drop n) ∧ Ex H H' :=
        fun rem' e => ⟨_, by omega, i + 1, rem', _, rfl, hlt, rfl, by omega, ex⟩
      refine iteT ⟨fun σ' H' => ∃ m', m' < b.length - i ∧ ∃ (j : Nat) (rem : Bool) (v : Option V), σ' = [some (.ref a), some (.int (j : Nat)), some (.bl rem), v] ∧ j ≤ b.length ∧ m' = b.length - j ∧ j + sk rem (b.drop j) = n + sk false (b.drop n) ∧ Ex H H', fun _ _ h => h, ?_⟩
      refine ⟨_, rfl, _, rfl, a, _, _, _, rfl, rfl, hb', atI_nat (ib_get hc), _, rfl, rfl, _, rfl, ?_⟩
      cases d1 : decide (V.int (c.toNat : Nat) = V.int 10) with
      | true => exact iteT ⟨_, rfl, _, _, rfl, rfl, next false (sk_10 (byt_t 10 d1))⟩
      | false =>
        have h1 := byt_f 10 d1
        refine iteF ⟨_, rfl, rfl, _, rfl, ?_⟩
        cases d2 : decide (V.int (c.toNat : Nat) = V.int 35) with
        | true => exact iteT ⟨_, rfl, _, _, rfl, rfl, next true (sk_35 h1 (byt_t 35 d2))⟩
        | false =>
          have h2 := byt_f 35 d2
          have fin : (!rem && (decide (c ≠ 32) && decide (c ≠ 9))) = true → Q (.int (i : Nat)) H' := fun h3 => by
            have e := sk_stop (r := b.drop (i + 1)) h1 h2 h3
            rw [e] at hf
            rw [← hf] at k
            exact k H' ex
          have go : ¬ (!rem && (decide (c ≠ 32) && decide (c ≠ 9))) = true → sk rem (c :: b.drop (i + 1)) = sk rem (b.drop (i + 1)) + 1 := fun h3 => sk_go h1 h2 h3
          refine iteF ⟨_, rfl, _, rfl, ?_⟩
          cases rem with
          | true => exact iteF (iteF ⟨_, rfl, _, _, rfl, rfl, next true (go (by simp))⟩)
          | false =>
            refine iteT ⟨_, rfl, rfl, _, rfl, ?_⟩
            cases d4 : decide (V.int (c.toNat : Nat) = V.int 32) with
            | true => exact iteF (iteF ⟨_, rfl, _, _, rfl, rfl, next false (go (by simp [byt_t 32 d4]))⟩)
            | false =>
              refine iteT ⟨_, rfl, rfl, _, rfl, ?_⟩
              cases d5 : decide (V.int (c.toNat : Nat) = V.int 9) with
              | true => exact iteF ⟨_, rfl, _, _, rfl, rfl, next false (go (by simp [byt_t 9 d5]))⟩
              | false => exact iteT ⟨_, rfl, fin (by simp [byt_f 32 d4, byt_f 9 d5])⟩
    · rw [decide_eq_false (show ¬ (i : Int) < (b.length : Nat) by omega)]
      refine iteF ⟨_, rfl, ?_⟩
      have z : b.drop i = [] := List.drop_eq_nil_of_le (by omega)
      have z2 : sk rem [] = 0 := rfl
      rw [z, z2] at hf
      rw [← hf] at k
      exact k _ ex
end LE

/-! LE3: how a text is read, line by line. -/
namespace LE
open VasedBase (Bytes isLetter)
open Vaseda (Line Text splitBy textOf readText)
def lineOk (b : Bytes) : Bool := decide (b.length ≤ 16) && b.all isLetter
def tgo : Text → Bytes → Bytes → Option (Text × Bytes)
  | d, cur, [] => some (d, cur)
  | d, cur, c :: r => if c = 10 then (if lineOk cur = true then tgo (d ++ [cur]) [] r else none) else tgo d (cur ++ [c]) r
def tfin : Option (Text × Bytes) → Option Text
  | none => none
  | some (d, cur) => if cur.isEmpty = true then some d else none
theorem tgo_nl {d : Text} {cur r : Bytes} : tgo d cur (10 :: r) = if lineOk cur = true then tgo (d ++ [cur]) [] r else none := rfl
theorem tgo_ne {d : Text} {cur r : Bytes} {c : UInt8} (h : ¬ c = 10) : tgo d cur (c :: r) = tgo d (cur ++ [c]) r := if_neg h
theorem tgo_bad : ∀ (r : Bytes) (d : Text) (cur : Bytes), cur.all isLetter = false → tfin (tgo d cur r) = none
  | [], d, cur, h => by
    cases cur with
    | nil => cases h
    | cons _ _ => rfl
  | c :: r, d, cur, h => by
    by_cases e : c = 10
    · subst e
      rw [tgo_nl, if_neg]
      · rfl
      · unfold lineOk
        rw [h, Bool.and_false]
        exact Bool.false_ne_true
    · rw [tgo_ne e]
      exact tgo_bad r d (cur ++ [c]) (by rw [List.all_append, h, Bool.false_and])
theorem split_nl (r x : Bytes) : splitBy ((10 :: r).length + 1) (10 :: r) x = (splitBy (r.length + 1) r []).map fun t => x :: t := rfl
theorem split_ne {c : UInt8} (h : ¬ c = 10) (r x : Bytes) : splitBy ((c :: r).length + 1) (c :: r) x = if isLetter c = true then splitBy (r.length + 1) r (x ++ [c]) else none := by
  show (if (c == 10) = true then _ else _) = _
  rw [if_neg (by simpa using h)]
  rfl
def long (t : Text) : Bool := t.any fun x => decide (16 < x.length)
def trt (d : Text) : Option Text → Option Text
  | none => none
  | some t => if long t = true then none else some (d ++ t)
theorem tgo_is : ∀ (r : Bytes) (d : Text) (cur : Bytes), cur.all isLetter = true → tfin (tgo d cur r) = trt d (splitBy (r.length + 1) r cur)
  | [], d, cur, h => by
    show tfin (some (d, cur)) = trt d (if cur.isEmpty = true then some [] else none)
    cases cur with
    | nil =>
      show some d = some (d ++ [])
      rw [List.append_nil]
    | cons _ _ => rfl
  | c :: r, d, cur, h => by
    by_cases e : c = 10
    · subst e
      rw [tgo_nl, split_nl]
      by_cases l : cur.length ≤ 16
      · have lo : lineOk cur = true := by
          unfold lineOk
          rw [h, decide_eq_true l]
          rfl
        rw [if_pos lo, tgo_is r (d ++ [cur]) [] rfl]
        cases splitBy (r.length + 1) r [] with
        | none => rfl
        | some t =>
          show (if long t = true then none else some (d ++ [cur] ++ t)) = (if long (cur :: t) = true then none else some (d ++ cur :: t))
          have e : long (cur :: t) = long t := by
            show (decide (16 < cur.length) || long t) = long t
            rw [decide_eq_false (by omega), Bool.false_or]
          rw [e, List.append_assoc]
          rfl
      · have lo : ¬ lineOk cur = true := by
          unfold lineOk
          rw [decide_eq_false l, Bool.false_and]
          exact Bool.false_ne_true
        rw [if_neg lo]
        cases splitBy (r.length + 1) r [] with
        | none => rfl
        | some t =>
          show none = (if long (cur :: t) = true then none else some (d ++ cur :: t))
          rw [if_pos]
          show (decide (16 < cur.length) || long t) = true
          rw [decide_eq_true (by omega), Bool.true_or]
    · rw [tgo_ne e, split_ne e]
      cases hl : isLetter c with
      | true =>
        rw [if_pos rfl]
        exact tgo_is r d (cur ++ [c]) (by rw [List.all_append, h, Bool.true_and]; simp [hl])
      | false =>
        rw [if_neg Bool.false_ne_true]
        exact tgo_bad r d (cur ++ [c]) (by rw [List.all_append, h, Bool.true_and]; simp [hl])
theorem readText_is (b : Bytes) : readText b = match tgo [] [] b with
    | none => none
    | some (d, cur) => if cur.isEmpty = true ∧ d.length ≤ 24 then some d else none := by
  have z := tgo_is b [] [] rfl
  have e : readText b = (trt [] (splitBy (b.length + 1) b [])).bind fun t => if 24 < t.length then none else some t := by
    show (splitBy (b.length + 1) b []).bind _ = _
    cases splitBy (b.length + 1) b [] with
    | none => rfl
    | some t =>
      show (if 24 < t.length ∨ long t = true then none else some t) = (if long t = true then none else some ([] ++ t)).bind fun t => if 24 < t.length then none else some t
      by_cases l : long t = true
      · rw [if_pos (.inr l), if_pos l]
        rfl
      · rw [if_neg l]
        show _ = (if 24 < t.length then none else some t)
        by_cases m : 24 < t.length
        · rw [if_pos (.inl m), if_pos m]
        · rw [if_neg (not_or.mpr ⟨m, l⟩), if_neg m]
  rw [e, ← z]
  cases tgo [] [] b with
  | none => rfl
  | some p =>
    obtain ⟨d, cur⟩ := p
    show (if cur.isEmpty = true then some d else none).bind _ = (if cur.isEmpty = true ∧ d.length ≤ 24 then some d else none)
    by_cases c : cur.isEmpty = true
    · rw [if_pos c]
      show (if 24 < d.length then none else some d) = _
      by_cases m : 24 < d.length
      · rw [if_pos m, if_neg (by omega)]
      · rw [if_neg m, if_pos ⟨c, by omega⟩]
    · rw [if_neg c, if_neg (fun q => c q.1)]
      rfl
end LE

/-! LT: texts. -/
namespace LE
open PySem PySem.Spec PyProof.Rows L2 Evl
open VasedBase (isLetter isDigit)
variable {P : Program} {w : World} {K : PySem.W.Frag} {mg : Str → Option Value} {base : Heap}
/-! ### comprehensions that give one thing for each item -/
theorem given_map {xs : List V} (g : V → V) : given xs.length (fun _ => true) (fun i => (xs[i]?.map g).getD .non) = xs.map g := by
  unfold given
  rw [List.filter_eq_self.mpr (fun _ _ => rfl)]
  apply List.ext_getElem?
  intro i
  rw [List.getElem?_map, List.getElem?_map]
  by_cases h : i < xs.length
  · rw [List.getElem?_range h, List.getElem?_eq_getElem h]
    simp [h]
  · rw [List.getElem?_eq_none (by simpa using h), List.getElem?_eq_none (by simpa using h)]
    rfl
theorem el_map {σ : L2.St} {H : Hp} {a : Addr} {xs : List V} {tl te : TE} {j : Nat} {vs : List Nat} (g : V → V) (h : Ev tl σ H (.ref a)) (hx : SqL K H a xs) (hz : xs.length ≤ 40000) (hw : ∀ x, wipe ((wipe σ vs).set j (some x)) vs = wipe σ vs)
    (he : ∀ (i : Nat) (x : V) H1, Ex H H1 → xs[i]? = some x → Ev te ((wipe σ vs).set j (some x)) H1 (g x)) : EvL (tLc (iList K tl) (gName j) tYes te vs) σ H (xs.map g) := by
  rw [← given_map g]
  refine el_lcL (fun _ => true) _ h hx hz hw (fun i x H1 e hi H2 e2 Q q => q H2 (Ex.refl H2)) (fun i x H1 e hi _ => ?_)
  rw [hi]
  exact he i x H1 e hi
/-! ### letters_of -/
abbrev sLettersOf : Stmt := top 22
theorem sc_letters_of : FnScope ["row", "byte"] ["row"] (defScope sLettersOf) := ⟨rfl, rfl, rfl, by decide +kernel, rfl, by decide +kernel, by decide +kernel⟩
def spLetters (K : PySem.W.Frag) : Sp := fun vs H Q _ => ∃ (a : Addr) (b : List UInt8), vs = [.ref a] ∧ SqL K H a (ib b) ∧ b.length ≤ 10000 ∧ (∀ c ∈ b, isLetter c = true) ∧ RetV (.str (S b)) H Q
theorem alph_at : ∀ k < 26, ALPH.cps.toList[k]? = some (97 + k) := by decide +kernel
theorem letter_range {c : UInt8} (h : isLetter c = true) : 97 ≤ c.toNat ∧ c.toNat ≤ 122 := by
  unfold isLetter at h
  exact of_decide_eq_true h
theorem alph_byte {c : UInt8} (h : isLetter c = true) : atI ALPH.cps.toList ((c.toNat : Nat) - 97 : Int) = some c.toNat := by
  obtain ⟨h1, h2⟩ := letter_range h
  have e : ((c.toNat : Nat) - 97 : Int) = ((c.toNat - 97 : Nat) : Int) := by omega
  rw [e]
  have z := alph_at (c.toNat - 97) (by omega)
  have e2 : 97 + (c.toNat - 97) = c.toNat := by omega
  rw [e2] at z
  exact atI_nat z
theorem joinL_ones : ∀ l : List Nat, TL.joinL [] (l.map fun c => [c]) = l
  | [] => rfl
  | [c] => rfl
  | c :: d :: r => by
    have ih := joinL_ones (d :: r)
    show [c] ++ ([] ++ TL.joinL [] ((d :: r).map fun c => [c])) = c :: d :: r
    rw [ih]
    rfl
/-- one byte as a text -/
def S1 (c : UInt8) : Str := ⟨#[c.toNat]⟩
theorem join_ones (b : List UInt8) : Txt.join (Str.ofString "") (b.map S1) = S b := by
  have e1 : b.map S1 = ((b.map UInt8.toNat).map fun c => [c]).map SX.S := by
    rw [List.map_map, List.map_map]
    rfl
  have e0 : (Str.ofString "" : Str) = SX.S [] := rfl
  rw [e1, e0, SX.join_S, joinL_ones]
  rfl
theorem ones_len (b : List UInt8) : ((b.map S1).map (·.length)).sum = b.length := by
  induction b with
  | nil => rfl
  | cons c r ih =>
    rw [List.map_cons, List.map_cons, List.sum_cons, ih, List.length_cons]
    show 1 + r.length = _
    omega
theorem ok_letters_of {f : Addr} {fd : FuncData} (F : Fun K "letters_of" "letters_of" sLettersOf f fd) (T : TxtLetters mg) : FnOk P w K mg base CX0 1 f fd ["row"] (spLetters K) := by
  refine F.ok sc_letters_of (fun vs H Q E h => ?_) (fun cdv A outer s H vs Q E hr h => ⟨_, pss_one (ps_ret (pe_join pe_str
    (pe_lc (own := [("byte", 1)]) (g := gName 1) (tt := tYes) rfl sc_letters_of.nd (pi_list (pv 0)) (blkOk_by (N := ["row", "byte"]) (sc := defScope sLettersOf) (by decide +kernel)) (fun _ _ _ _ _ => pg_name (i := 1) sc_letters_of.nd rfl (Or.inl rfl)) (fun _ _ _ _ _ => pts_nil)
      (fun _ _ _ _ _ => pe_ix ix_str (pe_gc T.alph) (pe_op op_sub (pv 1) (pe_gc T.ba)) (fun _ _ => rfl))))), ?_⟩)
  · obtain ⟨a, b, rfl, _⟩ := h
    rfl
  · obtain ⟨a, b, rfl, hb, hz, hl, k⟩ := h
    refine ⟨⟨_, rfl⟩, ?_⟩
    have hL : EvL (tLc (iList K (tVar 0)) (gName 1) tYes (tOp rIxS (tC (.str ALPH)) (tOp (rI0 fun i j => .int (i - j)) (tVar 1) (tC (.int 97)))) [1]) (start ["row", "byte"] [.ref a]) H ((ib b).map fun x => match x with
        | .int i => .str ⟨#[i.toNat]⟩
        | _ => .non) := by
      refine el_map _ (ev_var rfl) hb (by rw [ib_len]; omega) (fun _ => rfl) (fun i x H1 e hi => ?_)
      obtain ⟨c, hc, rfl⟩ := ib_of hi
      have hlc := hl c (List.mem_of_getElem? hc)
      exact ev_op ev_c (ev_op (ev_var rfl) ev_c rv_I0) (rv_ixS (by decide) (alph_byte hlc))
    refine hL H (Ex.refl H) _ fun p H1 hp e1 h1 => ?_
    refine ⟨_, p, b.map S1, rfl, rfl, .inl (SqL.of (h1.trans ?_)), ?_, ?_⟩
    · congr 2
      unfold ib
      rw [List.map_map, List.map_map]
      rfl
    · rw [ones_len, List.length_map]
      show b.length + b.length * 0 ≤ _
      omega
    · rw [join_ones]
      exact k H1 e1

/-! ### line_of -/
structure TxtTexts (K : PySem.W.Frag) (mg : Str → Option Value) (NR : Addr) : Prop where
  lf : Gc mg "LINE_FEED" (.int 10)
  ml : Gc mg "MOST_LETTERS_texts" (.int 16)
  mn : Gc mg "MOST_LINES" (.int 24)
  len : mg "len" = none
  all : mg "all" = none
  enu : mg "enumerate" = none
  nr : ErrT K mg "NotToldRightly" NR
abbrev sLineOf : Stmt := top 28
theorem sc_line_of : FnScope ["row", "byte"] ["row"] (defScope sLineOf) := ⟨rfl, rfl, rfl, by decide +kernel, rfl, by decide +kernel, by decide +kernel⟩
def spLineOf (K : PySem.W.Frag) (NR : Addr) : Sp := fun vs H Q E => ∃ (a : Addr) (b : List UInt8), vs = [.ref a] ∧ SqL K H a (ib b) ∧ b.length ≤ 10000 ∧ (lineOk b = false → ∀ H', Ex H H' → E (.ref NR) none H') ∧ (lineOk b = true → RetV (.str (S b)) H Q)
theorem all_letters (b : List UInt8) : ((b.map isLetter).all id) = b.all isLetter := by
  rw [List.all_map]
  rfl
theorem tk {X : Cx} (hs : X.stack = X.env :: X.outer) (hf : X.env.frame = some X.env.locals) (hex : X.ex = []) {E₁ : Value → Shared → Prop} {EE : XK}
    (hx : X.xe = fun e s' => wpAny (model X.prog X.w) X.A (leaving X.env e) (fun _ s'' => L2.CX X.prog X.w X.outer X.H_0 X.s_0 EE e s'') E₁ s') : Takes X (fun cls d _ H => EE cls d H) := takes_of hs hf hex hx
theorem ok_line_of {f NR : Addr} {fd : FuncData} (F : Fun K "letters_told" "letters_told" sLineOf f fd) (T : TxtTexts K mg NR) (gi : Dn P w K mg base CX0 1 "is_letter" (spByte isLetter) 1) (gl : Dn P w K mg base CX0 1 "letters_of" (spLetters K) 1) :
    FnOk P w K mg base (L2.CX P w) 2 f fd ["row"] (spLineOf K NR) := by
  refine F.okX sc_line_of (fun vs H Q E h => ?_) (fun cdv A outer s H vs Q E hr h => ⟨_, pss_cons (ps_if (PW.pt (pw_or (pt_cmpR op_gt (pe_callB call_len_seq (by rfl) T.len PySem.boot_len (pa_cons (pv 0) pa_nil)) (pe_gc T.ml) (nomark _))
      (pw_or1 (pt_not (pt_val (pe_callB (cr_all rfl) (by rfl) T.all (by decide +kernel) (pa_cons (pe_lc (own := [("byte", 1)]) (g := gName 1) (tt := tYes) rfl sc_line_of.nd (pi_list (pv 0)) (blkOk_by (N := ["row", "byte"]) (sc := defScope sLineOf) (by decide +kernel))
        (fun _ _ _ _ _ => pg_name (i := 1) sc_line_of.nd rfl (Or.inl rfl)) (fun _ _ _ _ _ => pts_nil) (fun _ _ _ _ _ => pe_dn gi (hr.mono (Nat.le_refl 1)) pass0 (pa_cons (pv 1) pa_nil))) pa_nil))))))) (pss_one (ps_raise0 T.nr (takes_of rfl rfl rfl rfl))) pss_nil)
    (pss_one (ps_ret (pe_dn gl hr pass0 (pa_cons (pv 0) pa_nil)))), ?_⟩)
  · obtain ⟨a, b, rfl, _⟩ := h
    rfl
  · obtain ⟨a, b, rfl, hb, hz, kE, k⟩ := h
    refine ⟨_, rfl, a, _, rfl, .inl hb, _, _, rfl, rfl, _, rfl, ?_⟩
    rw [ib_len]
    by_cases h16 : b.length ≤ 16
    · rw [decide_eq_false (show ¬ (16 : Int) < (b.length : Nat) by omega)]
      have hL : EvL (tLc (iList K (tVar 0)) (gName 1) tYes (tCall (spByte isLetter) [] E0 (tCons (tVar 1) tNil)) [1]) (start ["row", "byte"] [.ref a]) H ((ib b).map fun x => match x with
          | .int i => .bl (isLetter (UInt8.ofNat i.toNat))
          | _ => .non) := by
        refine el_map _ (ev_var rfl) hb (by rw [ib_len]; omega) (fun _ => rfl) (fun i x H1 e hi => ?_)
        obtain ⟨c, hc, rfl⟩ := ib_of hi
        have ec : UInt8.ofNat ((c.toNat : Nat) : Int).toNat = c := by simp
        refine ev_call (ea_cons (ev_var rfl) ea_nil) (fun H2 e2 Q2 q2 E2 => ⟨c, rfl, fun H3 e3 => ?_⟩)
        have z : Q2 (.bl (isLetter (UInt8.ofNat ((c.toNat : Nat) : Int).toNat))) H3 := q2 H3 e3
        rw [ec] at z
        exact z
      refine iteF ?_
      dsimp only [tNot, tB, tCB, tCons, tNil]
      refine hL H (Ex.refl H) _ fun p H1 hp e1 h1 => ?_
      refine ⟨p, b.map isLetter, rfl, SqL.of (h1.trans ?_), _, rfl, ?_⟩
      · congr 2
        unfold ib
        rw [List.map_map, List.map_map]
        apply List.map_congr_left
        intro c _
        show V.bl (isLetter (UInt8.ofNat ((c.toNat : Nat) : Int).toNat)) = V.bl (isLetter c)
        simp
      · rw [all_letters]
        cases hl : b.all isLetter with
        | true =>
          refine iteF ⟨_, rfl, a, b, rfl, ex_l e1 hb, by omega, fun c hc => List.all_eq_true.mp hl c hc, fun H2 e2 => k ?_ H2 (e1.trans e2)⟩
          unfold lineOk
          rw [hl, decide_eq_true h16]
          rfl
        | false =>
          refine iteT (kE ?_ H1 e1)
          unfold lineOk
          rw [hl, Bool.and_false]
    · rw [decide_eq_true (show (16 : Int) < (b.length : Nat) by omega)]
      refine iteT (iteT (kE ?_ H (Ex.refl H)))
      unfold lineOk
      rw [decide_eq_false h16, Bool.false_and]

/-! ### lines_of -/
theorem cut_ib {b : List UInt8} {i j : Nat} (hi : i ≤ b.length) (hj : j ≤ b.length) : cutV (ib b) (some (i : Nat)) (some (j : Nat)) = ib ((b.drop i).take (j - i)) := by
  unfold cutV ib
  rw [HT.sIx_nat, HT.sIx_nat, List.length_map, Nat.min_eq_left hi, Nat.min_eq_left hj, ← List.map_drop, ← List.map_take]
abbrev sLinesOf : Stmt := top 27
theorem sc_lines_of : FnScope ["row", "lines", "start", "place", "byte"] ["row"] (defScope sLinesOf) := ⟨rfl, rfl, rfl, by decide +kernel, rfl, by decide +kernel, by decide +kernel⟩
/-- a text's lines as Python's texts -/
def tv (t : List (List UInt8)) : List V := t.map fun x => V.str (S x)
theorem tv_len (t : List (List UInt8)) : (tv t).length = t.length := by simp [tv]
def spLinesOf (K : PySem.W.Frag) (NR : Addr) : Sp := fun vs H Q E => ∃ (a : Addr) (b : List UInt8), vs = [.ref a] ∧ SqL K H a (ib b) ∧ b.length ≤ 10000 ∧ (Vaseda.readText b = none → ∀ H', Ex H H' → E (.ref NR) none H') ∧ (∀ t, Vaseda.readText b = some t → RetL (tv t) H Q)
theorem tgo_len : ∀ (r : List UInt8) (d : List (List UInt8)) (cur : List UInt8) {p : List (List UInt8) × List UInt8}, tgo d cur r = some p → p.1.length ≤ d.length + r.length
  | [], d, cur, p, h => by
    cases h
    exact Nat.le_add_right _ _
  | c :: r, d, cur, p, h => by
    by_cases e : c = 10
    · subst e
      rw [tgo_nl] at h
      split at h
      · have := tgo_len r _ _ h
        rw [List.length_append, List.length_singleton] at this
        rw [List.length_cons]
        omega
      · cases h
    · rw [tgo_ne e] at h
      have := tgo_len r _ _ h
      rw [List.length_cons]
      omega
theorem ok_lines_of {f NR : Addr} {fd : FuncData} (F : Fun K "lines_of" "lines_of" sLinesOf f fd) (T : TxtTexts K mg NR) (gl : Dn P w K mg base (L2.CX P w) 2 "letters_told" (spLineOf K NR) 1) :
    FnOk P w K mg base (L2.CX P w) 3 f fd ["row"] (spLinesOf K NR) := by
  refine F.okX sc_lines_of (fun vs H Q E h => ?_) (fun cdv A outer s H vs Q E hr h => ⟨_, pss_cons (ps_set (i := 1) sc_lines_of.nd rfl (.inl rfl) (pe_lst pa_nil)) (pss_cons (ps_set (i := 2) sc_lines_of.nd rfl (.inl rfl) pe_int)
    (pss_cons (ps_for (passes_of rfl) rfl (pi_enum (by rfl) T.enu (pa_cons (pv 0) pa_nil)) (pg_tup rfl (pgs_cons (pg_name (i := 3) sc_lines_of.nd rfl (.inl rfl)) (pgs_cons (pg_name (i := 4) sc_lines_of.nd rfl (.inl rfl)) pgs_nil)))
      (pss_one (ps_if (pt_cmpR op_eq (pv 4) (pe_gc T.lf) (nomark _))
        (pss_cons (ps_expr (pe_bm PySem.F.plainAttrs_list PySem.F.slot_list_append PySem.F.type_list_append mt_append (pv 1) (pa_cons (pe_dn gl hr (pass1 rfl rfl rfl rfl) (pa_cons (pe_slice sl_list (pv 0) (po_some (pv 2)) (po_some (pv 3))) pa_nil)) pa_nil)))
        (pss_one (ps_set (i := 2) sc_lines_of.nd rfl (.inl rfl) (pe_op op_add (pv 3) pe_int)))) pss_nil)))
    (pss_cons (ps_if (PW.pt (pw_or (pt_cmpR op_lt (pv 2) (pe_callB call_len_seq (by rfl) T.len PySem.boot_len (pa_cons (pv 0) pa_nil)) (nomark _)) (pw_or1 (pt_cmpR op_gt (pe_callB call_len_seq (by rfl) T.len PySem.boot_len (pa_cons (pv 1) pa_nil)) (pe_gc T.mn) (nomark _)))))
      (pss_one (ps_raise0 T.nr (takes_of rfl rfl rfl rfl))) pss_nil)
    (pss_one (ps_ret (pv 1)))))), ?_⟩)
  · obtain ⟨a, b, rfl, _⟩ := h
    rfl
  · obtain ⟨a, b, rfl, hb, hz, kE, k⟩ := h
    refine ⟨Nat.zero_le _, fun L hL => ?_⟩
    refine ⟨_, rfl, a, _, rfl, ex_l (Ex.new hL) hb, ?_⟩
    refine for_it (walk_enum (xs := ib b)) (fun i σ H' => ∃ (d : List (List UInt8)) (st : Nat) (v3 v4 : Option V), σ = [some (.ref a), some (.ref L), some (.int (st : Nat)), v3, v4] ∧ Ex H H' ∧ H' L = some (.lst (tv d)) ∧ st ≤ i ∧ d.length ≤ i ∧ tgo d ((b.drop st).take (i - st)) (b.drop i) = tgo [] [] b)
      ⟨[], 0, none, none, rfl, Ex.new hL, upd_same, Nat.le_refl _, Nat.le_refl _, rfl⟩ (fun i σ H' _ ⟨_, _, _, _, _, e, _⟩ => ex_l e hb) ?_ ?_
    · rintro i x σ H1 H2 hi ⟨d, st, v3, v4, rfl, e1, hd, hst, hdl, hgo⟩ ⟨T', x', y', rfl, hT, rfl, hx, hy⟩
      cases hx
      obtain ⟨c, hc, rfl⟩ := ib_of hy
      rw [ib_len] at hi
      have e2 : Ex H (upd H1 T' (.tup [.int (i : Nat), .int (c.toNat : Nat)])) := e1.trans (Ex.new hT)
      have hd2 : upd H1 T' (.tup [.int (i : Nat), .int (c.toNat : Nat)]) L = some (.lst (tv d)) := Ex.new hT L _ hd
      refine ⟨T', _, rfl, SqT.of upd_same, rfl, _, _, rfl, _, _, rfl, rfl, ?_⟩
      rw [drop_get hc] at hgo
      refine ⟨_, rfl, rfl, _, rfl, ?_⟩
      have hlen : ((b.drop st).take (i - st)).length = i - st := by rw [List.length_take, List.length_drop]; omega
      cases d1 : decide (V.int (c.toNat : Nat) = V.int 10) with
      | true =>
        have hc10 := byt_t 10 d1
        subst hc10
        rw [tgo_nl] at hgo
        refine iteT ⟨_, rfl, .inl ⟨rfl, _, SqL.of hd2⟩, ?_⟩
        refine ⟨_, rfl, _, rfl, _, rfl, _, rfl, _, rfl, a, _, rfl, ex_l e2 hb, fun p hp => ?_⟩
        rw [cut_ib (by omega) (by omega)]
        refine ⟨p, (b.drop st).take (i - st), rfl, SqL.of upd_same, by omega, fun lo H3 e3 => ?_, fun lo H3 e3 => ?_⟩
        · refine kE ?_ H3 ((e2.trans (Ex.new hp)).trans e3)
          rw [readText_is, ← hgo, lo]
          rfl
        · rw [if_pos lo] at hgo
          have hd3 : H3 L = some (.lst (tv d)) := e3 L _ (Ex.new hp L _ hd2)
          refine ⟨L, tv d, _, rfl, rfl, hd3, sizeLine_gt (by rw [tv_len]; omega), _, rfl, _, _, rfl, rfl, ?_⟩
          refine ⟨d ++ [(b.drop st).take (i - st)], i + 1, _, _, rfl, Ex.mut ((e2.trans (Ex.new hp)).trans e3) hL, ?_, Nat.le_refl _, ?_, ?_⟩
          · rw [upd_same]
            unfold tv
            rw [List.map_append]
            rfl
          · rw [List.length_append, List.length_singleton]
            omega
          · rw [Nat.sub_self, List.take_zero]
            exact hgo
      | false =>
        have hc10 := byt_f 10 d1
        rw [tgo_ne hc10] at hgo
        refine iteF ⟨d, st, _, _, rfl, e2, hd2, by omega, by omega, ?_⟩
        rw [← hgo]
        congr 1
        have e : i + 1 - st = (i - st) + 1 := by omega
        rw [e, List.take_succ, List.getElem?_drop]
        have e' : st + (i - st) = i := by omega
        rw [e', hc]
        rfl
    · rintro σ H1 ⟨d, st, v3, v4, rfl, e1, hd, hst, hdl, hgo⟩
      rw [ib_len] at hst hdl hgo
      have e0 : b.drop b.length = [] := List.drop_eq_nil_of_le (Nat.le_refl _)
      have et : (b.drop st).take (b.length - st) = b.drop st := List.take_of_length_le (by rw [List.length_drop]; omega)
      rw [e0, et] at hgo
      have hr : Vaseda.readText b = if (b.drop st).isEmpty = true ∧ d.length ≤ 24 then some d else none := by
        rw [readText_is, ← hgo]
        rfl
      refine ⟨_, rfl, _, rfl, a, _, rfl, .inl (ex_l e1 hb), _, _, rfl, rfl, _, rfl, ?_⟩
      rw [ib_len]
      by_cases hs : st < b.length
      · rw [decide_eq_true (show (st : Int) < (b.length : Nat) by omega)]
        refine iteT (iteT (kE ?_ H1 e1))
        rw [hr, if_neg]
        rintro ⟨q, _⟩
        rw [List.isEmpty_iff, List.drop_eq_nil_iff] at q
        omega
      · rw [decide_eq_false (show ¬ (st : Int) < (b.length : Nat) by omega)]
        have hemp : (b.drop st).isEmpty = true := by
          rw [List.isEmpty_iff, List.drop_eq_nil_iff]
          omega
        refine iteF ⟨_, rfl, L, _, rfl, .inl (SqL.of hd), _, _, rfl, rfl, _, rfl, ?_⟩
        rw [tv_len]
        by_cases h24 : d.length ≤ 24
        · rw [decide_eq_false (show ¬ (24 : Int) < (d.length : Nat) by omega)]
          rw [if_pos ⟨hemp, h24⟩] at hr
          exact iteF ⟨_, rfl, k d hr L H1 hL e1 hd⟩
        · rw [decide_eq_true (show (24 : Int) < (d.length : Nat) by omega)]
          refine iteT (kE ?_ H1 e1)
          rw [hr, if_neg (fun q => h24 q.2)]
end LE

/-! LK: a list built by a comprehension, its values themselves known; join of it; letters_of with the text's identity. -/
namespace LE
open PySem PySem.Spec PyProof.Rows L2 Evl
open VasedBase (isLetter isDigit)
/-- the list at D holds just these values -/
def LstR (D : Addr) (us : List Value) : Heap → Prop := fun h => ∃ n, h.get? D = some { cls := .type "list", data := .seq us.toArray n }
theorem LstR.ob {P : Program} {w : World} {H : Hp} {h : Heap} {D : Addr} {us : List Value} (q : LstR D us h) : ObjOk P w H h D (.ext (LstR D us)) := by
  obtain ⟨n, e⟩ := id q
  exact ⟨q, ⟨_, e⟩, fun _ _ ⟨n1, z1⟩ z2 => ⟨n1, z2 _ z1⟩⟩
theorem lst_at {P : Program} {w : World} {H : Hp} {h : Heap} {D : Addr} {us : List Value} (hok : HOk P w H h) (e : H D = some (.ext (LstR D us))) : LstR D us h := (hok D _ e).1
section
variable {X : Cx} {pins : List (Addr × Obj)} {σ : L2.St} {H : Hp} {s : Shared}
theorem app_raw {E : Value → Shared → Prop} {D : Addr} {us : List Value} {v : Value} {Q : Value → Shared → Prop} (I : Inv X pins σ H s) (hD : H D = some (.ext (LstR D us))) (hz : us.length < sizeLine)
    (h : ∀ s', s'.toks = s.toks → Inv X pins σ (upd H D (.ext (LstR D (us ++ [v])))) s' → Q .none s') : wpAny (model X.prog X.w) X.A (call (.builtin "list.append") [.ref D, v]) Q E s := by
  obtain ⟨n, e⟩ := lst_at I.hok hD
  refine append_at (hsz := by rw [List.size_toArray]; exact Nat.le_of_lt hz) e fun h' sb ho' => ?_
  refine h { s with heap := h' } rfl (I.write (t' := s.toks) (by rw [hD]; trivial) (.inl rfl) (fun b o hb z => (sb.2 b hb).trans z) ⟨_, ho'⟩ (LstR.ob ⟨n + 1, ?_⟩))
  rw [ho']
  simp
theorem thmF {α : Type} {t : Sem α} {Q Q' : α → Shared → Prop} {M : Model} {A : Around} {E : Value → Shared → Prop} {s : Shared} {m : Nat} (hm : m ≤ s.toks) (h : wpAny M A t Q (fun _ _ => False) s) (hQ : ∀ a s', m ≤ s'.toks → Q a s' → Q' a s') : wpAny M A t Q' E s :=
  wpAny_mono (wpAny_toks_of hm h) (fun a s' z => hQ a s' z.1 z.2) fun _ _ z => z.2.elim
/-- [elt for target in iter], the list's values known -/
def nLc (wi : TI) (g : TG) (te : NE) (vs : List Nat) : NE := fun m σ H Q => wi σ H fun J H1 => ∀ D, H1 D = none → ∃ W : Nat → Nat → Nat → List Value → Hp → Prop, (∃ j, W 0 j m [] (upd H1 D (.ext (LstR D [])))) ∧ ∀ i j n us H, W i j n us H →
  (J.stop i H ∧ Q (.ref D) (.ref D) n H) ∨ (J.go i H ∧ ∀ x H', J.yld i H x H' → g x (wipe σ vs) H' fun σ2 H2 => wipe σ2 vs = wipe σ vs ∧ te n σ2 H2 fun u _ n' H4 =>
    H4 D = some (.ext (LstR D us)) ∧ us.length < sizeLine ∧ ∃ j', j' < j ∧ W (i + 1) j' n' (us ++ [u]) (upd H4 D (.ext (LstR D (us ++ [u])))))
theorem pen_lc {elt tg iter : Expr} {scope : Scope} {own : List (Str × Nat)} {pos : Pos} {wi : TI} {g : TG} {te : NE} (hc : X.calm = true) (nd : X.N.Nodup) (hi : PI X tg iter wi) (bk : BlkOk X.N X.env.scope scope own)
    (hg : ∀ (s : Shared) (H : Hp) (C : Addr) (cl : List (Str × Addr)) (fp : List Addr), PG (X.blk s H scope (compEnvC scope cl C X.env) fp) tg g)
    (he : ∀ (s : Shared) (H : Hp) (C : Addr) (cl : List (Str × Addr)) (fp : List Addr), PEN (X.blk s H scope (compEnvC scope cl C X.env) fp) elt te) (hs : ∀ x, foldedSetIterable iter X.env x = pure x := by intro _; rfl) :
    PEN X (.ListComp elt [⟨tg, iter, [], 0⟩] scope pos) (nLc wi g te (own.map (·.2))) := by
  refine ⟨fun m0 pins s σ H Q hm0 J h => ?_⟩
  rw [eval_ListComp]
  have frees : ∀ y ∈ scope.names, y.2 = .free → ∃ c, X.env.cells.lookup y.1 = some c := fun y hy z => J.ok.has _ (bk.free y hy z)
  refine wpAny_comprehension_free (use := none) rfl hs (closure_ok frees) bk.kind (fun y hy z => by rw [bk.uniq y hy, z])
    (thm hm0 (hi.run pins s σ H _ J h) fun xv s1 hk1 hx => thm hk1 hx fun itv s2 hk2 h2 => ?_)
  obtain ⟨it, fp, tn, IT, H2, eit, J2, T, st2, f2, q⟩ := h2
  subst eit
  refine wpAny_newObj_type (newEnv_comp ?_) (by show 0 ≤ sizeLine; decide)
  generalize hD : s2.heap.objs.size = D
  have nD : H2 D = none := J2.hok.fresh (Nat.le_of_eq hD)
  obtain ⟨W, ⟨j0, w0⟩, turn⟩ := q D nD
  generalize es3 : ({ s2 with heap := s2.heap.push { cls := .type "list", data := .seq ([] : List Value).toArray } } : Shared) = s3
  have J3 : Inv X pins σ (upd H2 D (.ext (LstR D []))) s3 := by
    rw [← es3]
    refine J2.laid (t' := s2.toks) (fun b o z => Heap.get?_push_of_some _ z) (Nat.le_of_eq hD) (LstR.ob ⟨0, ?_⟩)
    rw [← hD]
    exact Heap.get?_push_size _ rfl
  have hp3 : s3.heap = s2.heap.push { cls := .type "list", data := .seq ([] : List Value).toArray } := by rw [← es3]
  have hk3 : m0 ≤ s3.toks := by rw [← es3]; exact hk2
  have szs : ∀ b ∈ fp, b < s2.heap.objs.size := fun b hb => by
    obtain ⟨o, z, _⟩ := T.obj _ _ st2 b hb
    exact Heap.lt_size z
  have f3 : ∀ b ∈ fp, FpOk X pins (upd H2 D (.ext (LstR D []))) b ∧ b < s3.heap.objs.size := fun b hb => by
    have lt := szs b hb
    refine ⟨⟨?_, (f2 b hb).2⟩, by rw [hp3, Heap.size_push]; exact Nat.lt_succ_of_lt lt⟩
    rw [upd_ne (by rw [← hD]; exact Nat.ne_of_lt lt)]
    exact (f2 b hb).1
  have st3 : tn 0 s3.heap := T.keep _ _ _ st2 fun b _ o z => by rw [hp3]; exact Heap.get?_push_of_some _ z
  have J4 := block_start J3 bk nd f3
  have pg := hg s3 (upd H2 D (.ext (LstR D []))) s3.heap.objs.size (cellsFrom (s3.heap.objs.size + 1) scope.names (cloFrom X.env.cells scope.names [])) fp
  have pe := he s3 (upd H2 D (.ext (LstR D []))) s3.heap.objs.size (cellsFrom (s3.heap.objs.size + 1) scope.names (cloFrom X.env.cells scope.names [])) fp
  show codeAny _ _ (.compStart (.ListComp elt [⟨tg, iter, [], 0⟩] scope pos) 0 (.ref it) (.ref D) (compEnvC scope (cellsFrom (s3.heap.objs.size + 1) scope.names (cloFrom X.env.cells scope.names [])) s3.heap.objs.size X.env)) (compPost (model X.prog X.w) X.A X.xe none (EN X pins σ Q) (.ref D) s3.heap.objs.size) { s3 with heap := pushCells (s3.heap.push { cls := .type "dict", data := .dict #[] }) scope.names }
  have nfp : ∀ b ∈ fp, (upd H2 D (.ext (LstR D []))) b = none := fun b hb => (f3 b hb).1.1
  generalize hce : compEnvC scope (cellsFrom (s3.heap.objs.size + 1) scope.names (cloFrom X.env.cells scope.names [])) s3.heap.objs.size X.env = ce at J4 pg pe ⊢
  have cL : ce.locals = s3.heap.objs.size := by subst hce; rfl
  generalize eH3 : upd H2 D (.ext (LstR D [])) = H3 at J3 J4 pg pe w0 nfp f3
  generalize es4 : ({ s3 with heap := pushCells (s3.heap.push { cls := .type "dict", data := .dict #[] }) scope.names } : Shared) = s4 at J4 ⊢
  have st4 : tn 0 s4.heap := T.keep _ _ _ st3 fun b _ o z => by rw [← es4]; exact pushCells_keeps _ _ _ _ (Heap.get?_push_of_some _ z)
  have hk4 : m0 ≤ s4.toks := by rw [← es4]; exact hk3
  have stat : ∀ {σ' : L2.St} {H' : Hp} {s' : Shared}, Inv (X.blk s3 H3 scope ce fp) [] σ' H' s' → (∀ b ∈ fp, H' b = none) → ∀ b ∈ fp, FpOk (X.blk s3 H3 scope ce fp) [] H' b := fun {σ' H' s'} J' hn b hb =>
    ⟨hn b hb, (J'.ok.exf b hb).1, J'.ok.exfs b hb, .inl hb, fun x c z => (J'.ok.exf b hb).2 x c z, fun p hp => absurd (show p ∈ ([] : List (Addr × Obj)) ++ [] from hp) (by simp)⟩
  have loop : codeAny (model X.prog X.w) X.A (.compLoop (.ListComp elt [⟨tg, iter, [], 0⟩] scope pos) 0 (.ref it) (.ref D) ce) (compPost (model X.prog X.w) X.A X.xe none (EN X pins σ Q) (.ref D) s3.heap.objs.size) s4 := by
    refine compLoop_any (fun j s' => ∃ i n us H', n ≤ s'.toks ∧ Inv (X.blk s3 H3 scope ce fp) [] (wipe σ (own.map (·.2))) H' s' ∧ tn i s'.heap ∧ (∀ b ∈ fp, H' b = none) ∧ W i j n us H') ?_ j0 ⟨0, m0, [], H3, hk4, J4, st4, nfp, w0⟩
    rintro j s5 ⟨i, n, us, H5, hk5, J5, st5, n5, w5⟩
    rcases turn i j n us H5 w5 with ⟨stop, qq⟩ | ⟨go, step⟩
    · refine thmF hk5 (T.done (X.blk s3 H3 scope ce fp) rfl rfl rfl hc i [] s5 _ H5 (fun _ _ => False) J5 (stat J5 n5) st5 stop) fun r s6 hk6 ⟨hr, J6⟩ => ?_
      subst hr
      have J7 : Inv X pins σ H5 s6 := J3.call' (ch := fp) J6.os J6.base J6.hok J6.bare fun b hb => ⟨(f3 b hb).1.2.2.2.1, (f3 b hb).1.2.1, (f3 b hb).1.2.2.2.2.1, (f3 b hb).1.2.2.2.2.2⟩
      have nC : H5 s3.heap.objs.size = none := by
        have z : H5 ce.locals = none := J6.free
        rwa [cL] at z
      obtain ⟨mp, hn, _⟩ := J6.loc
      have hn : s6.heap.Ns ce.locals mp := hn
      rw [cL] at hn
      obtain ⟨g0, g1, g2, g3, g4, g5⟩ := J3.fpOk (Nat.le_refl _) nC
      refine ⟨mp, hn, fun h'' sb => ?_⟩
      exact ⟨.ref D, n, H5, hk6, J7.turned (t' := s6.toks) (fun b o hb z => (sb.2 b hb).trans z) g0 g1 g3 g4 g5, rfl, qq⟩
    · refine thmF hk5 (T.item (X.blk s3 H3 scope ce fp) rfl rfl rfl hc i [] s5 _ H5 (fun _ _ => False) J5 (stat J5 n5) st5 go) fun r s6 hk6 ⟨u, hr, h6⟩ => ?_
      subst hr
      refine thmF hk6 h6 fun _ s7 hk7 ⟨x, H7, J7, r7, y7, st7, n7⟩ => ?_
      have J7' := J7.pinned (stat J7 n7) (T.obj _ _ st7)
      refine thmF hk7 (pg.run _ s7 _ H7 x u _ J7' r7 (step x H7 y7)) fun _ s8 hk8 ⟨σ8, H8, J8, hw8, q8⟩ => ?_
      refine wpAny_tests_nil ?_
      rw [if_pos rfl]
      refine thnF (pe.run n _ s8 σ8 H8 _ hk8 J8 q8) fun z s10 ⟨yv, n', H10, hk10, J10, r10, hD10, hz10, j', hj', w'⟩ => ?_
      refine app_raw (X := X.blk s3 H3 scope ce fp) J10 hD10 hz10 fun s11 e11 J11 => ?_
      have pin' : ∀ b ∈ fp, ∀ o, s7.heap.get? b = some o → s11.heap.get? b = some o ∧ upd H10 D (.ext (LstR D (us ++ [z]))) b = none := fun b hb o e =>
        let q := J11.pin (b, o) (List.mem_append_right _ (List.mem_append_right _ (mem_pinsAt hb e)))
        ⟨q.1, q.2.1⟩
      refine ⟨j', hj', i + 1, n', us ++ [z], _, by rw [e11]; exact hk10, (J11.unpinned (pins := [])).weak (by rw [← hw8, wipe_length]) (fun k v e => ?_), T.keep _ _ _ st7 fun b hb o e => (pin' b hb o e).1, fun b hb => ?_, w'⟩
      · rw [← hw8] at e
        exact (wipe_some e).1
      · obtain ⟨o, e, _⟩ := T.obj _ _ st7 b hb
        exact (pin' b hb o e).2
  exact codeAny_compStart_list loop (T.self X.A 0 _ _ _ st4 loop)
end
end LE

/-! LK2: join and a text's sign with their identities; letters_of. -/
namespace LE
open PySem PySem.Spec PyProof.Rows L2 Evl
open VasedBase (isLetter isDigit)
section
variable {X : Cx} {a b o e : Expr} {ta tb to : TE} {te : NE} {pos apos : Pos}
theorem pen_ixS (ha : PE X a ta) (hb : PE X b tb) (hs : PlainIx b) :
    PEN X (.Subscript a b pos) (fun m σ H Q => ta σ H fun x H1 => tb σ H1 fun y H2 => ∃ z i c, x = .str z ∧ y = .int i ∧ z.length ≤ sizeLine ∧ atI z.cps.toList i = some c ∧ ∀ t, m ≤ t → Q (.str ⟨#[c]⟩ t) (.str ⟨#[c]⟩) (t + 1) H2) := by
  refine ⟨fun m pins s σ H Q hm I h => Subscript_ (thm hm (ha.run pins s σ H _ I h) fun v s1 hk1 ⟨x, H1, I1, r1, q1⟩ => thm hk1 (hb.run pins s1 σ H1 _ I1 q1) fun u s2 hk2 ⟨y, H2, I2, r2, z, i, c, ex, ey, hz, he, q⟩ => ?_)⟩
  subst ex ey
  obtain ⟨t, rfl⟩ := r1
  obtain ⟨t', rfl⟩ := r2
  obtain ⟨j, h1, h2, h3, h4, h5⟩ := atI_get he
  have hl : z.cps.toList.length = z.length := by simp [Str.length]
  rw [hl] at h1 h4 h5
  have hn := line63
  refine tail_any (typeIs_str s2 z t) slot_str_getitem.lookup (getItem_str (c := c) ?_ (by rw [h1]; simpa using h2) ⟨.str ⟨#[c]⟩, s2.toks + 1, H2, Nat.le_refl _, I2.tok _, ⟨_, rfl⟩, q s2.toks hk2⟩) (hs _ _)
  rw [decide_eq_false (show ¬ i < -(2 ^ 63 : Int) by omega), decide_eq_false (show ¬ i ≥ 2 ^ 63 by omega)]
  rfl
theorem join_raw {prog : Program} {w : World} {A : Around} {E : Value → Shared → Prop} {s : Shared} {x : Str} {t : Tok} {Q : Value → Shared → Prop} {D : Addr} (l : List (Str × Tok)) (hl : s.heap.IsList D (strValues l).toArray) (hok : JoinOk x (l.map (·.1)) = true)
    (h : ∀ t' k, ((∃ p, l = [p] ∧ t' = p.2 ∧ k = s.toks) ∨ (t' = s.toks ∧ k = s.toks + 1)) → Q (.str (Txt.join x (l.map (·.1))) t') { s with toks := k }) :
    wpAny (model prog w) A (call (.builtin "str.join") [.str x t, .ref D]) Q E s := by
  unfold JoinOk at hok
  rw [Bool.not_eq_true'] at hok
  refine call_meets F.slot_str_join (typeIs_str _ _ _) F.entry_str_join (F.args_str_join_2 _ _) (meets_str_join_list x t D l hok) ⟨hl, ?_⟩
  have hf := joinFit_length hok
  match l, h, hf with
  | [], h, hf => exact ⟨hf, h _ _ (.inr ⟨rfl, rfl⟩)⟩
  | [p], h, hf => exact h p.2 s.toks (.inl ⟨p, rfl, rfl, rfl⟩)
  | _ :: _ :: _, h, hf => exact ⟨hf, h _ _ (.inr ⟨rfl, rfl⟩)⟩
def nJoin (to : TE) (te : NE) : NE := fun m σ H Q => to σ H fun x H1 => ∃ a, x = .str a ∧ te m σ H1 fun _ y m' H2 => ∃ D l, y = .ref D ∧ H2 D = some (.ext (LstR D (strValues l))) ∧
  ((l.map (·.1)).map (·.length)).sum + (l.map (·.1)).length * a.length ≤ 16777216 ∧ ∀ t k, ((∃ p, l = [p] ∧ t = p.2 ∧ k = m') ∨ (m' ≤ t ∧ k = t + 1)) → Q (.str (Txt.join a (l.map (·.1))) t) (.str (Txt.join a (l.map (·.1)))) k H2
theorem pen_join (ho : PE X o to) (he : PEN X e te) (hs : starEach [e] X.env = [(false, eval e X.env)] := by rfl) (hbase : attributeBase o "join" X.env (eval o X.env) = eval o X.env := by rfl) (hline : (apos.endLine == pos.line) = true := by rfl) :
    PEN X (.Call (.Attribute o "join" apos) [e] [] pos) (nJoin to te) := by
  refine ⟨fun m pins s σ H Q hm I h => PySem.Call_method1 hbase hs hline ?_⟩
  refine thm hm (ho.run pins s σ H _ I h) fun v s1 hk1 ⟨x, H1, I1, r1, a, ea, q1⟩ => ?_
  subst ea
  obtain ⟨t, rfl⟩ := _root_.id r1
  refine ⟨"str", _, F.plainAttrs_str, F.slot_str_join, F.type_str_join, typeIs_str _ _ _, (fun _ e => nomatch e), Calls.callWith_builtin rfl (Calls.evalArgs_plain (Calls.spliced_cons ?_))⟩
  refine thn (he.run m pins s1 σ H1 _ hk1 I1 q1) fun u s2 ⟨y, m', H2, hk2, I2, r2, D, l, ey, hD, hz, q⟩ => Calls.spliced_nil ?_
  subst ey
  cases r2
  obtain ⟨n, hget⟩ := lst_at I2.hok hD
  refine join_raw l ⟨_, hget, rfl, n, rfl⟩ (joinOk_of hz) fun t' k hk => ?_
  rcases hk with ⟨p, el, et, ek⟩ | ⟨et, ek⟩
  · subst ek
    exact ⟨.str (Txt.join a (l.map (·.1))), m', H2, hk2, I2.tok _, ⟨_, rfl⟩, q t' m' (.inl ⟨p, el, et, rfl⟩)⟩
  · subst ek et
    exact ⟨.str (Txt.join a (l.map (·.1))), s2.toks + 1, H2, Nat.le_refl _, I2.tok _, ⟨_, rfl⟩, q _ _ (.inr ⟨hk2, rfl⟩)⟩
end
/-! ### letters_of, with the identity of what it gives -/
variable {P : Program} {w : World} {K : PySem.W.Frag} {mg : Str → Option Value} {base : Heap}
def spLettersN (K : PySem.W.Frag) : NSp := fun m vs H Q _ => ∃ (a : Addr) (b : List UInt8), vs = [.ref a] ∧ SqL K H a (ib b) ∧ b.length ≤ 10000 ∧ (∀ c ∈ b, isLetter c = true) ∧ ∀ H' t n, Ex H H' → m ≤ t → t < n → Q (.str (S b) t) (.str (S b)) n H'
theorem okN_letters_of {CX : CXT} {f : Addr} {fd : FuncData} (F : Fun K "letters_of" "letters_of" sLettersOf f fd) (T : TxtLetters mg) : FnN P w K mg base CX 1 f fd ["row"] (spLettersN K) := by
  refine fnN_ok F sc_letters_of (fun m vs H Q E h => ?_) (fun cdv m A outer s H vs Q E hr h => ⟨_, pssN_one (psN_ret (pen_join pe_str
    (pen_lc (own := [("byte", 1)]) (g := gName 1) rfl sc_letters_of.nd (pi_list (pv 0)) (blkOk_by (N := ["row", "byte"]) (sc := defScope sLettersOf) (by decide +kernel)) (fun _ _ _ _ _ => pg_name (i := 1) sc_letters_of.nd rfl (Or.inl rfl))
      (fun _ _ _ _ _ => pen_ixS (pe_gc T.alph) (pe_op op_sub (pv 1) (pe_gc T.ba)) (fun _ _ => rfl))))), ?_⟩)
  · obtain ⟨a, b, rfl, _⟩ := h
    rfl
  · obtain ⟨a, b, rfl, hb, hz, hl, k⟩ := h
    refine ⟨_, rfl, ?_⟩
    refine ⟨_, rfl, a, rfl, ⟨_, hb⟩, fun D hD => ?_⟩
    refine ⟨fun i j n us H' => ∃ l : List (Str × Tok), i ≤ b.length ∧ j = b.length - i ∧ us = strValues l ∧ l.map (·.1) = (b.take i).map S1 ∧ (∀ p ∈ l, m ≤ p.2 ∧ p.2 < n) ∧ m ≤ n ∧ H' D = some (.ext (LstR D us)) ∧ Ex H H',
      ⟨_, [], Nat.zero_le _, rfl, rfl, rfl, fun p hp => absurd hp (by simp), Nat.le_refl _, upd_same, Ex.new hD⟩, ?_⟩
    rintro i j n us H' ⟨l, hi, rfl, rfl, hl1, hl2, hmn, hDl, ex⟩
    have hb' := ex_l ex hb
    by_cases hlt : i < b.length
    · refine .inr ⟨⟨ib b, _, hb', by rw [List.getElem?_eq_getElem (by rw [ib_len]; exact hlt)]⟩, fun x H2 y => ?_⟩
      obtain ⟨e2, y⟩ := y
      subst e2
      obtain ⟨c, hc, rfl⟩ := ib_of (y _ hb')
      have hlc := hl c (List.mem_of_getElem? hc)
      refine ⟨rfl, _, rfl, _, _, rfl, rfl, _, _, _, rfl, rfl, by decide, alph_byte hlc, fun t ht => ⟨hDl, ?_, b.length - (i + 1), by omega, l ++ [(S1 c, t)], hlt, rfl, ?_, ?_, ?_, by omega, upd_same, ex.mut hD⟩⟩
      · show (l.map _).length < _
        have e : l.length = (l.map (·.1)).length := by simp
        rw [List.length_map, e, hl1, List.length_map, List.length_take]
        exact sizeLine_gt (by omega)
      · show strValues l ++ _ = _
        unfold strValues
        rw [List.map_append]
        rfl
      · rw [List.map_append, hl1, List.take_succ, hc]
        simp
      · intro p hp
        rcases List.mem_append.mp hp with h1 | h1
        · have z := hl2 p h1
          exact ⟨z.1, Nat.lt_succ_of_lt (Nat.lt_of_lt_of_le z.2 ht)⟩
        · have e : p = (S1 c, t) := by simpa using h1
          subst e
          show m ≤ t ∧ t < t + 1
          omega
    · have ei : i = b.length := by omega
      subst ei
      rw [List.take_length] at hl1
      refine .inl ⟨⟨_, hb', by rw [ib_len]; exact Nat.le_refl _⟩, D, l, rfl, hDl, ?_, fun t k' hk => ?_⟩
      · rw [hl1, ones_len, List.length_map]
        show b.length + b.length * 0 ≤ _
        omega
      · rw [hl1]
        have ej : Txt.join "" (b.map S1) = S b := join_ones b
        rw [ej]
        rcases hk with ⟨p, el, et, ek⟩ | ⟨et, ek⟩
        · subst el et ek
          have z := hl2 p (by simp)
          exact k _ _ _ ex z.1 z.2
        · subst ek
          exact k _ _ _ ex (by omega) (Nat.lt_succ_self _)
end LE

/-! LE1: the least patch's cost is what both lengths are without twice what the texts have in common; that is the same from either end. -/
namespace LE
open Vaseda (Line Text)
open Vasedc

def lcsRow (x : Line) (f : Text → Nat) : Text → Nat
  | [] => 0
  | y :: s => if x = y then f s + 1 else max (f (y :: s)) (lcsRow x f s)
def lcs : Text → Text → Nat
  | [] => fun _ => 0
  | x :: r => lcsRow x (lcs r)
theorem lcs_nil (b : Text) : lcs [] b = 0 := rfl
theorem lcs_cons_nil (x : Line) (r : Text) : lcs (x :: r) [] = 0 := rfl
theorem lcs_nil_right : ∀ a : Text, lcs a [] = 0
  | [] => rfl
  | _ :: _ => rfl
theorem lcs_eq {x y : Line} (h : x = y) (r s : Text) : lcs (x :: r) (y :: s) = lcs r s + 1 := if_pos h
theorem lcs_ne {x y : Line} (h : ¬ x = y) (r s : Text) : lcs (x :: r) (y :: s) = max (lcs r (y :: s)) (lcs (x :: r) s) := if_neg h

/-! ### what lcs is: the greatest length of a common sublist -/
theorem tail_sub {x z : Line} {l r : Text} (h : (z :: l).Sublist (x :: r)) : l.Sublist r := by
  cases h with
  | cons _ h => exact (List.sublist_cons_self z l).trans h
  | cons_cons _ h => exact h
theorem lcs_le : ∀ (a b l : Text), l.Sublist a → l.Sublist b → l.length ≤ lcs a b
  | [], b, l, h, _ => by
    cases h
    exact Nat.zero_le _
  | x :: r, [], l, _, h => by
    cases h
    exact Nat.zero_le _
  | x :: r, y :: s, l, h1, h2 => by
    by_cases e : x = y
    · rw [lcs_eq e]
      cases l with
      | nil => exact Nat.zero_le _
      | cons z l => exact Nat.succ_le_succ (lcs_le r s l (tail_sub h1) (tail_sub h2))
    · rw [lcs_ne e]
      cases h1 with
      | cons _ h1 => exact Nat.le_trans (lcs_le r (y :: s) l h1 h2) (Nat.le_max_left _ _)
      | cons_cons _ h1' =>
        cases h2 with
        | cons _ h2 => exact Nat.le_trans (lcs_le (x :: r) s _ (h1'.cons_cons x) h2) (Nat.le_max_right _ _)
        | cons_cons _ _ => exact absurd rfl e
theorem lcs_is : ∀ (a b : Text), ∃ l : Text, l.Sublist a ∧ l.Sublist b ∧ l.length = lcs a b
  | [], b => ⟨[], List.nil_sublist _, List.nil_sublist _, rfl⟩
  | x :: r, [] => ⟨[], List.nil_sublist _, List.nil_sublist _, rfl⟩
  | x :: r, y :: s => by
    by_cases e : x = y
    · obtain ⟨l, h1, h2, h3⟩ := lcs_is r s
      subst e
      refine ⟨x :: l, h1.cons_cons x, h2.cons_cons x, ?_⟩
      rw [lcs_eq rfl, ← h3]
      rfl
    · rw [lcs_ne e]
      by_cases m : lcs r (y :: s) ≤ lcs (x :: r) s
      · obtain ⟨l, h1, h2, h3⟩ := lcs_is (x :: r) s
        exact ⟨l, h1, h2.cons y, by rw [h3, Nat.max_eq_right m]⟩
      · obtain ⟨l, h1, h2, h3⟩ := lcs_is r (y :: s)
        exact ⟨l, h1.cons x, h2, by rw [h3, Nat.max_eq_left (Nat.le_of_not_le m)]⟩
theorem lcs_reverse_le (a b : Text) : lcs a b ≤ lcs a.reverse b.reverse := by
  obtain ⟨l, h1, h2, h3⟩ := lcs_is a b
  rw [← h3, ← List.length_reverse]
  exact lcs_le _ _ _ h1.reverse h2.reverse
theorem lcs_reverse (a b : Text) : lcs a.reverse b.reverse = lcs a b := by
  refine Nat.le_antisymm ?_ (lcs_reverse_le a b)
  have h := lcs_reverse_le a.reverse b.reverse
  rwa [List.reverse_reverse, List.reverse_reverse] at h
theorem lcs_le_left (a b : Text) : lcs a b ≤ a.length := by
  obtain ⟨l, h1, _, h3⟩ := lcs_is a b
  rw [← h3]
  exact h1.length_le
theorem lcs_le_right (a b : Text) : lcs a b ≤ b.length := by
  obtain ⟨l, _, h2, h3⟩ := lcs_is a b
  rw [← h3]
  exact h2.length_le

/-! ### the specification's table -/
def tl : Text → List Text
  | [] => [[]]
  | y :: s => (y :: s) :: tl s
theorem tl_head (f : Text → Nat) (s : Text) : ((tl s).map f).headD 0 = f s := by
  cases s <;> rfl
theorem tl_get : ∀ (b : Text) (j : Nat), j ≤ b.length → (tl b)[j]? = some (b.drop j)
  | [], 0, _ => rfl
  | [], j + 1, h => by simp at h
  | y :: s, 0, _ => rfl
  | y :: s, j + 1, h => by
    show (tl s)[j]? = some (s.drop j)
    exact tl_get s j (by simpa using h)
theorem rowOf_is (x : Line) (f : Text → Nat) : ∀ b : Text, rowOf x b ((tl b).map f) = (tl b).map (lcsRow x f)
  | [] => rfl
  | y :: s => by
    have ih := rowOf_is x f s
    show (if x = y then ((tl s).map f).headD 0 + 1 else Nat.max (f (y :: s)) ((rowOf x s ((tl s).map f)).headD 0)) :: rowOf x s ((tl s).map f) = lcsRow x f (y :: s) :: (tl s).map (lcsRow x f)
    rw [ih, tl_head, tl_head]
    rfl
theorem zeros : ∀ b : Text, List.replicate (b.length + 1) 0 = (tl b).map (lcs [])
  | [] => rfl
  | y :: s => by
    have ih := zeros s
    show 0 :: List.replicate (s.length + 1) 0 = 0 :: (tl s).map (lcs [])
    rw [ih]
theorem table_head : ∀ (a b : Text), (tableOf a b).headD [] = (tl b).map (lcs a)
  | [], b => zeros b
  | x :: r, b => by
    show rowOf x b ((tableOf r b).headD []) = (tl b).map (lcsRow x (lcs r))
    rw [table_head r b, rowOf_is]
theorem table_get : ∀ (a b : Text) (i : Nat), i ≤ a.length → (tableOf a b)[i]? = some ((tl b).map (lcs (a.drop i)))
  | [], b, 0, _ => by
    show some (List.replicate (b.length + 1) 0) = _
    rw [zeros]
    rfl
  | [], b, i + 1, h => by simp at h
  | x :: r, b, 0, _ => congrArg some (table_head (x :: r) b)
  | x :: r, b, i + 1, h => table_get r b i (by simpa using h)
theorem cell_is {a b : Text} {i j : Nat} (hi : i ≤ a.length) (hj : j ≤ b.length) : cell (tableOf a b) i j = lcs (a.drop i) (b.drop j) := by
  unfold cell
  rw [table_get a b i hi]
  show (((tl b).map (lcs (a.drop i)))[j]?).getD 0 = _
  rw [List.getElem?_map, tl_get b j hj]
  rfl

/-! ### what the least patch costs -/
theorem cost_cons (o : Op) (p : Patch) : costOf (o :: p) = (if isKeep o then 0 else 1) + costOf p := by
  unfold costOf
  cases o <;> simp [isKeep, Nat.add_comm]
theorem cost_puts : ∀ b : Text, costOf (b.map Op.put) = b.length
  | [] => rfl
  | y :: s => by
    rw [List.map_cons, cost_cons, cost_puts s]
    show 1 + s.length = s.length + 1
    omega
theorem cost_drops : ∀ b : Text, costOf (b.map Op.drop) = b.length
  | [] => rfl
  | y :: s => by
    rw [List.map_cons, cost_cons, cost_drops s]
    show 1 + s.length = s.length + 1
    omega
theorem drop_tail {A r : Text} {x : Line} {i : Nat} (h : A.drop i = x :: r) : A.drop (i + 1) = r ∧ i + 1 ≤ A.length := by
  constructor
  · rw [← List.drop_drop, h]
    rfl
  · have e := congrArg List.length h
    rw [List.length_drop, List.length_cons] at e
    omega
theorem patch_cost (A B : Text) : ∀ (f i j : Nat) (a b : Text), A.drop i = a → B.drop j = b → a.length + b.length < f → costOf (patchBy (tableOf A B) f i j a b) + 2 * lcs a b = a.length + b.length
  | 0, _, _, _, _, _, _, h => by omega
  | f + 1, i, j, [], b, ha, hb, h => by
    show costOf (b.map Op.put) + 2 * 0 = 0 + b.length
    rw [cost_puts]
    omega
  | f + 1, i, j, x :: r, [], ha, hb, h => by
    show costOf ((x :: r).map Op.drop) + 2 * 0 = (x :: r).length + 0
    rw [cost_drops]
  | f + 1, i, j, x :: r, y :: s, ha, hb, h => by
    obtain ⟨ha1, ha2⟩ := drop_tail ha
    obtain ⟨hb1, hb2⟩ := drop_tail hb
    have h' : r.length + s.length + 2 < f + 1 := by
      rw [List.length_cons, List.length_cons] at h
      omega
    show costOf (if x = y then .keep x :: patchBy (tableOf A B) f (i + 1) (j + 1) r s else if cell (tableOf A B) i (j + 1) ≤ cell (tableOf A B) (i + 1) j then .drop x :: patchBy (tableOf A B) f (i + 1) j r (y :: s) else .put y :: patchBy (tableOf A B) f i (j + 1) (x :: r) s) + 2 * lcs (x :: r) (y :: s) = r.length + 1 + (s.length + 1)
    by_cases e : x = y
    · rw [if_pos e, lcs_eq e, cost_cons]
      have ih := patch_cost A B f (i + 1) (j + 1) r s ha1 hb1 (by omega)
      simp only [isKeep, if_true]
      omega
    · rw [if_neg e, lcs_ne e, cell_is (by omega) hb2, cell_is ha2 (by omega), ha, hb, ha1, hb1]
      by_cases m : lcs (x :: r) s ≤ lcs r (y :: s)
      · rw [if_pos m, cost_cons, Nat.max_eq_left m]
        have ih := patch_cost A B f (i + 1) j r (y :: s) ha1 hb (by rw [List.length_cons]; omega)
        rw [List.length_cons] at ih
        simp only [isKeep, Bool.false_eq_true, if_false]
        omega
      · rw [if_neg m, cost_cons, Nat.max_eq_right (Nat.le_of_not_le m)]
        have ih := patch_cost A B f i (j + 1) (x :: r) s ha hb1 (by rw [List.length_cons]; omega)
        rw [List.length_cons] at ih
        simp only [isKeep, Bool.false_eq_true, if_false]
        omega
theorem cost_patch (a b : Text) : costOf (patch a b) + 2 * lcs a.reverse b.reverse = a.length + b.length := by
  rw [lcs_reverse]
  exact patch_cost a b (a.length + b.length + 1) 0 0 a b rfl rfl (Nat.lt_succ_self _)
end LE

/-! LP: patches. -/
namespace LE
open PySem PySem.Spec PyProof.Rows L2 Evl
variable {P : Program} {w : World} {K : PySem.W.Frag} {mg : Str → Option Value} {base : Heap}
structure TxtPatch (mg : Str → Option Value) : Prop where
  len : mg "len" = none
  enu : mg "enumerate" = none
  max : mg "max" = none
abbrev sCommon : Stmt := top 16
theorem sc_common : FnScope ["first", "second", "above", "line", "row", "k", "other"] ["first", "second"] (defScope sCommon) := ⟨rfl, rfl, rfl, by decide +kernel, rfl, by decide +kernel, by decide +kernel⟩
/-- the first n + 1 cells of the row behind the lines X -/
def cells (X B : List (List UInt8)) (n : Nat) : List V := (List.range n).map fun k => V.int ((lcs X.reverse (B.take k).reverse : Nat))
theorem cells_len (X B : List (List UInt8)) (n : Nat) : (cells X B n).length = n := by simp [cells]
theorem cells_get {X B : List (List UInt8)} {n k : Nat} (h : k < n) : (cells X B n)[k]? = some (.int ((lcs X.reverse (B.take k).reverse : Nat))) := by
  unfold cells
  rw [List.getElem?_map, List.getElem?_range h]
  rfl
theorem cells_more (X B : List (List UInt8)) (n : Nat) : cells X B (n + 1) = cells X B n ++ [.int ((lcs X.reverse (B.take n).reverse : Nat))] := by
  unfold cells
  rw [List.range_succ, List.map_append]
  rfl
theorem cells_nil (B : List (List UInt8)) (n : Nat) : (List.replicate n [V.int 0]).flatten = cells [] B n := by
  induction n with
  | zero => rfl
  | succ n ih =>
    rw [cells_more, ← ih, List.replicate_succ', List.flatten_append]
    rfl
theorem take_more {α : Type} {l : List α} {i : Nat} {x : α} (h : l[i]? = some x) : l.take (i + 1) = l.take i ++ [x] := by
  rw [List.take_succ, h]
  rfl
theorem rev_more {α : Type} {l : List α} {i : Nat} {x : α} (h : l[i]? = some x) : (l.take (i + 1)).reverse = x :: (l.take i).reverse := by
  rw [take_more h, List.reverse_append]
  rfl
theorem tv_of {t : List (List UInt8)} {i : Nat} {v : V} (h : (tv t)[i]? = some v) : ∃ x, t[i]? = some x ∧ v = .str (S x) := by
  unfold tv at h
  rw [List.getElem?_map] at h
  cases e : t[i]? with
  | none => rw [e] at h; cases h
  | some x =>
    rw [e] at h
    exact ⟨x, rfl, (Option.some.inj h).symm⟩
def spCommon (K : PySem.W.Frag) : Sp := fun vs H Q _ => ∃ (a b : Addr) (A B : List (List UInt8)), vs = [.ref a, .ref b] ∧ SqL K H a (tv A) ∧ SqL K H b (tv B) ∧ A.length ≤ 1000 ∧ B.length ≤ 1000 ∧ RetV (.int ((lcs A.reverse B.reverse : Nat))) H Q
theorem ok_common {f : Addr} {fd : FuncData} (F : Fun K "how_many_in_common" "how_many_in_common" sCommon f fd) (T : TxtPatch mg) : FnOk P w K mg base CX0 1 f fd ["first", "second"] (spCommon K) := by
  refine F.ok sc_common (fun vs H Q E h => ?_) (fun cdv A outer s H vs Q E hr h => ⟨_, pss_cons (ps_set (i := 2) sc_common.nd rfl (.inl rfl) (pe_op op_rep (pe_lst (pa_cons pe_int pa_nil)) (pe_op op_add (pe_callB call_len_seq (by rfl) T.len PySem.boot_len (pa_cons (pv 1) pa_nil)) pe_int)))
    (pss_cons (ps_for PassesOwn.never rfl (pi_list (pv 0)) (pg_name (i := 3) sc_common.nd rfl (.inl rfl))
      (pss_cons (ps_set (i := 4) sc_common.nd rfl (.inl rfl) (pe_lst (pa_cons pe_int pa_nil)))
      (pss_cons (ps_for PassesOwn.never rfl (pi_enum (by rfl) T.enu (pa_cons (pv 1) pa_nil)) (pg_tup rfl (pgs_cons (pg_name (i := 5) sc_common.nd rfl (.inl rfl)) (pgs_cons (pg_name (i := 6) sc_common.nd rfl (.inl rfl)) pgs_nil)))
        (pss_one (ps_if (pt_cmpR op_eq (pv 3) (pv 6) (nomark _))
          (pss_one (ps_expr (pe_bm PySem.F.plainAttrs_list PySem.F.slot_list_append PySem.F.type_list_append mt_append (pv 4) (pa_cons (pe_op op_add (pe_ix ix_list (pv 2) (pv 5) (fun _ _ => rfl)) pe_int) pa_nil))))
          (pss_one (ps_expr (pe_bm PySem.F.plainAttrs_list PySem.F.slot_list_append PySem.F.type_list_append mt_append (pv 4) (pa_cons (pe_callB (call_max2 rfl) (by rfl) T.max (by decide +kernel)
            (pa_cons (pe_ix ix_list (pv 4) (pv 5) (fun _ _ => rfl)) (pa_cons (pe_ix ix_list (pv 2) (pe_op op_add (pv 5) pe_int) (fun _ _ => rfl)) pa_nil))) pa_nil)))))))
      (pss_one (ps_set (i := 2) sc_common.nd rfl (.inl rfl) (pv 4))))))
    (pss_one (ps_ret (pe_ix ix_list (pv 2) (pe_callB call_len_seq (by rfl) T.len PySem.boot_len (pa_cons (pv 1) pa_nil)) (fun _ _ => rfl))))), ?_⟩)
  · obtain ⟨a, b, A, B, rfl, _⟩ := h
    rfl
  · obtain ⟨a, b, A, B, rfl, ha, hb, zA, zB, k⟩ := h
    refine ⟨by show 1 ≤ sizeLine; decide, fun p hp => ?_⟩
    have x1 : Ex H (upd H p (.lst [.int 0])) := Ex.new hp
    refine ⟨_, rfl, b, _, rfl, .inl (ex_l x1 hb), _, _, rfl, rfl, p, _, _, rfl, rfl, upd_same, ?_, ?_, ?_, fun T0 hT0 => ?_⟩
    · rw [tv_len]; omega
    · rw [tv_len]; omega
    · rw [tv_len]; exact sizeLine_ge (by show 1 * _ ≤ _; omega)
    have e0 : (((tv B).length : Nat) + 1 : Int).toNat = B.length + 1 := by rw [tv_len]; omega
    rw [e0, cells_nil B]
    have x2 : Ex H (upd (upd H p (.lst [.int 0])) T0 (.lst (cells [] B (B.length + 1)))) := x1.trans (Ex.new hT0)
    refine ⟨_, rfl, a, rfl, ⟨_, ex_l x2 ha⟩, for_list (K := K) (a := a) (xs := tv A) (fun i σ H' => ∃ (T1 : Addr) (v3 v4 v5 v6 : Option V), σ = [some (.ref a), some (.ref b), some (.ref T1), v3, v4, v5, v6] ∧ Ex H H' ∧ H' T1 = some (.lst (cells (A.take i) B (B.length + 1))))
      ⟨T0, none, none, none, none, rfl, x2, upd_same⟩ (fun i σ H' _ ⟨_, _, _, _, _, _, e, _⟩ => ex_l e ha) ?_ ?_⟩
    · rintro i v σ H1 hi ⟨T1, v3, v4, v5, v6, rfl, e1, h1⟩
      obtain ⟨x, hx, rfl⟩ := tv_of hi
      refine ⟨by show 1 ≤ sizeLine; decide, fun R hR => ?_⟩
      have hRH : H R = none := fresh_back e1 hR
      have hTR : T1 ≠ R := ne_of_none h1 hR
      have x3 : Ex H (upd H1 R (.lst [.int 0])) := e1.trans (Ex.new hR)
      refine ⟨_, rfl, b, _, rfl, ex_l x3 hb, ?_⟩
      refine for_it (walk_enum (xs := tv B)) (fun j σ H' => ∃ (v5 v6 : Option V), σ = [some (.ref a), some (.ref b), some (.ref T1), some (.str (S x)), some (.ref R), v5, v6] ∧ Ex H H' ∧ H' T1 = some (.lst (cells (A.take i) B (B.length + 1))) ∧ H' R = some (.lst (cells (A.take (i + 1)) B (j + 1))))
        ⟨v5, v6, rfl, x3, Ex.new hR T1 _ h1, ?_⟩ (fun j σ H' _ ⟨_, _, _, e, _⟩ => ex_l e hb) ?_ ?_
      · rw [upd_same]
        have z : lcs (A.take (i + 1)).reverse (B.take 0).reverse = 0 := lcs_nil_right _
        show some (HO.lst [V.int 0]) = some (HO.lst [V.int (lcs (A.take (i + 1)).reverse (B.take 0).reverse : Nat)])
        rw [z]
        rfl
      · rintro j y σ H2 H3 hj ⟨v5, v6, rfl, e2, h2, h3⟩ ⟨T', x', y', rfl, hT', rfl, hx', hy'⟩
        cases hx'
        obtain ⟨y, hy, rfl⟩ := tv_of hy'
        rw [tv_len] at hj
        have e3 : Ex H (upd H2 T' (.tup [.int (j : Nat), .str (S y)])) := e2.trans (Ex.new hT')
        have h2' := Ex.new (o := .tup [.int (j : Nat), .str (S y)]) hT' T1 _ h2
        have h3' := Ex.new (o := .tup [.int (j : Nat), .str (S y)]) hT' R _ h3
        refine ⟨T', _, rfl, SqT.of upd_same, rfl, _, _, rfl, _, _, rfl, rfl, _, rfl, _, rfl, rfl, _, rfl, ?_⟩
        have fin : ∀ (z : Int), z = ((lcs (A.take (i + 1)).reverse (B.take (j + 1)).reverse : Nat) : Int) → upd (upd H2 T' (.tup [.int (j : Nat), .str (S y)])) R (.lst (cells (A.take (i + 1)) B (j + 1) ++ [.int z])) R = some (.lst (cells (A.take (i + 1)) B (j + 1 + 1))) := fun z hz => by
          rw [upd_same, hz, cells_more _ _ (j + 1)]
        rw [S_dec]
        refine ite2 (fun hxy => ?_) (fun hxy => ?_)
        · have hxy := of_decide_eq_true hxy
          refine ⟨_, rfl, .inl ⟨rfl, _, SqL.of h3'⟩, _, rfl, _, rfl, T1, _, _, _, rfl, rfl, SqL.of h2', atI_nat (cells_get (by omega)), _, _, rfl, rfl, ?_⟩
          refine ⟨R, _, _, rfl, rfl, h3', sizeLine_gt (by rw [cells_len]; omega), ?_⟩
          refine ⟨_, _, rfl, Ex.mut e3 hRH, ?_, fin _ ?_⟩
          · rw [upd_ne hTR]
            exact h2'
          · rw [rev_more hx, rev_more hy, lcs_eq hxy]
            rfl
        · have hxy : ¬ x = y := fun z => hxy (decide_eq_true z)
          refine ⟨_, rfl, .inl ⟨rfl, _, SqL.of h3'⟩, _, rfl, _, rfl, R, _, _, _, rfl, rfl, SqL.of h3', atI_nat (cells_get (by omega)), ?_⟩
          refine ⟨_, rfl, _, rfl, _, _, rfl, rfl, T1, _, _, _, rfl, rfl, SqL.of h2', at_of (j := j + 1) (by omega) (cells_get (by omega)), _, _, rfl, R, _, _, rfl, rfl, h3', sizeLine_gt (by rw [cells_len]; omega), ?_⟩
          refine ⟨_, _, rfl, Ex.mut e3 hRH, ?_, fin _ ?_⟩
          · rw [upd_ne hTR]
            exact h2'
          · rw [rev_more hx, rev_more hy, lcs_ne hxy]
            split <;> omega
      · rintro σ H2 ⟨v5, v6, rfl, e2, h2, h3⟩
        rw [tv_len] at h3
        exact ⟨_, rfl, R, _, _, _, _, rfl, e2, h3⟩
    · rintro σ H1 ⟨T1, v3, v4, v5, v6, rfl, e1, h1⟩
      rw [tv_len, List.take_length] at h1
      refine ⟨_, rfl, _, rfl, b, _, rfl, .inl (ex_l e1 hb), T1, _, _, _, rfl, rfl, SqL.of h1, ?_, k H1 e1⟩
      rw [tv_len]
      refine atI_nat ?_
      rw [cells_get (Nat.lt_succ_self _), List.take_length]
abbrev sCost : Stmt := top 15
theorem sc_cost : FnScope ["first", "second"] ["first", "second"] (defScope sCost) := ⟨rfl, rfl, rfl, by decide +kernel, rfl, by decide +kernel, by decide +kernel⟩
def spCost (K : PySem.W.Frag) : Sp := fun vs H Q _ => ∃ (a b : Addr) (A B : List (List UInt8)), vs = [.ref a, .ref b] ∧ SqL K H a (tv A) ∧ SqL K H b (tv B) ∧ A.length ≤ 1000 ∧ B.length ≤ 1000 ∧ RetV (.int ((Vasedc.costOf (Vasedc.patch A B) : Nat))) H Q
theorem ok_cost {f : Addr} {fd : FuncData} (F : Fun K "patch_cost" "patch_cost" sCost f fd) (T : TxtPatch mg) (gc : Dn P w K mg base CX0 1 "how_many_in_common" (spCommon K) 2) : FnOk P w K mg base CX0 2 f fd ["first", "second"] (spCost K) := by
  refine F.ok sc_cost (fun vs H Q E h => ?_) (fun cdv A outer s H vs Q E hr h => ⟨_, pss_one (ps_ret (pe_op op_sub (pe_op op_add (pe_callB call_len_seq (by rfl) T.len PySem.boot_len (pa_cons (pv 0) pa_nil)) (pe_callB call_len_seq (by rfl) T.len PySem.boot_len (pa_cons (pv 1) pa_nil)))
    (pe_op op_mul pe_int (pe_dn gc hr pass0 (pa_cons (pv 0) (pa_cons (pv 1) pa_nil)))))), ?_⟩)
  · obtain ⟨a, b, A, B, rfl, _⟩ := h
    rfl
  · obtain ⟨a, b, A, B, rfl, ha, hb, zA, zB, k⟩ := h
    refine ⟨_, rfl, a, _, rfl, .inl ha, _, rfl, b, _, rfl, .inl hb, _, _, rfl, rfl, _, rfl, _, rfl, a, b, A, B, rfl, ha, hb, zA, zB, fun H1 e1 => ?_⟩
    refine ⟨_, _, rfl, rfl, .inl ⟨by decide, by decide⟩, _, _, rfl, rfl, ?_⟩
    have z := cost_patch A B
    rw [tv_len, tv_len]
    have e : ((A.length : Nat) + (B.length : Nat) - 2 * (lcs A.reverse B.reverse : Nat) : Int) = ((Vasedc.costOf (Vasedc.patch A B) : Nat) : Int) := by omega
    have q := k H1 e1
    rw [← e] at q
    exact q
end LE

/-! LS: letters in lines: in, replace. -/
namespace LE
open PySem PySem.Builtin PySem.Builtin.Str
open StrLaws (At occ_head found_iff subAt_eq replL replace_list)
theorem take_map {x : List UInt8} {n i : Nat} : ((S x).cps.toList.drop i).take n = ((x.drop i).take n).map UInt8.toNat := by
  rw [S_tl, ← List.map_drop, ← List.map_take]
theorem at_begins {w x : List UInt8} {i : Nat} : At (S x) (S w) (S x).length i ↔ (i + w.length ≤ x.length ∧ Vaseda.begins w (x.drop i) = true) := by
  unfold StrLaws.At
  rw [S_len, S_len, subAt_eq, take_map, S_tl, S_len]
  unfold Vaseda.begins
  rw [beq_iff_eq, beq_iff_eq]
  constructor
  · rintro ⟨h1, h2⟩
    exact ⟨h1, map_toNat_inj h2⟩
  · rintro ⟨h1, h2⟩
    exact ⟨h1, by rw [h2]⟩
theorem has_is (w x : List UInt8) : (!(occurrences (S x) (S w) 0 (S x).length 1).isEmpty) = Vaseda.hasIn w x := by
  rw [Bool.eq_iff_iff, found_iff]
  unfold Vaseda.hasIn
  rw [List.any_eq_true]
  constructor
  · rintro ⟨i, h1, h2⟩
    have h := (at_begins (w := w) (x := x) (i := i)).mp ⟨h1, h2⟩
    refine ⟨i, List.mem_range.mpr (by omega), ?_⟩
    rw [h.2, decide_eq_true (by omega)]
    rfl
  · rintro ⟨i, hi, h⟩
    rw [Bool.and_eq_true, decide_eq_true_eq] at h
    exact ⟨i, (at_begins (w := w) (x := x) (i := i)).mpr ⟨by omega, h.1⟩⟩
theorem begins_take {a x : List UInt8} : Vaseda.begins a x = true ↔ (x.map UInt8.toNat).take (a.map UInt8.toNat).length = a.map UInt8.toNat := by
  unfold Vaseda.begins
  rw [beq_iff_eq, List.length_map, ← List.map_take]
  exact ⟨fun h => by rw [h], map_toNat_inj⟩
theorem swap_is {a b : List UInt8} (ha : a ≠ []) : ∀ (n : Nat) (x : List UInt8), x.length < n → (Vaseda.swapBy a b false n x).map UInt8.toNat = replL (a.map UInt8.toNat) (b.map UInt8.toNat) (x.map UInt8.toNat)
  | 0, _, h => absurd h (Nat.not_lt_zero _)
  | n + 1, [], _ => (StrLaws.replL_nil).symm
  | n + 1, c :: r, h => by
    have ha' : a.map UInt8.toNat ≠ [] := fun z => ha (List.map_eq_nil_iff.mp z)
    have hal : 1 ≤ a.length := by
      cases a with
      | nil => exact absurd rfl ha
      | cons _ _ => simp
    rw [List.length_cons] at h
    show (if Vaseda.begins a (c :: r) = true then b ++ (if false = true then (c :: r).drop a.length else Vaseda.swapBy a b false n ((c :: r).drop a.length)) else c :: Vaseda.swapBy a b false n r).map UInt8.toNat = _
    rw [if_neg Bool.false_ne_true]
    by_cases hb : Vaseda.begins a (c :: r) = true
    · have hb' := begins_take.mp hb
      rw [List.map_cons] at hb' ⊢
      rw [if_pos hb, List.map_append, StrLaws.replL_hit ha' hb', swap_is ha n _ (by rw [List.length_drop, List.length_cons]; omega), List.map_drop, List.length_map]
      rfl
    · have hb' : ¬ ((c :: r).map UInt8.toNat).take (a.map UInt8.toNat).length = a.map UInt8.toNat := fun z => hb (begins_take.mpr z)
      rw [List.map_cons] at hb' ⊢
      rw [if_neg hb, List.map_cons, StrLaws.replL_miss hb', swap_is ha n r (by omega)]
theorem str_ext {a b : Str} (h : a.cps.toList = b.cps.toList) : a = b := by
  obtain ⟨⟨a⟩⟩ := a
  obtain ⟨⟨b⟩⟩ := b
  have e : a = b := h
  rw [e]
theorem replace_is {a b x : List UInt8} (ha : a ≠ []) : Txt.replace (S x) (S a) (S b) = S (Vaseda.swapIn a b false x) := by
  have hal : 1 ≤ (S a).length := by
    rw [S_len]
    cases a with
    | nil => exact absurd rfl ha
    | cons _ _ => simp
  refine str_ext ?_
  rw [replace_list hal, S_tl, S_tl, S_tl, S_tl]
  unfold Vaseda.swapIn
  rw [swap_is ha _ _ (Nat.lt_succ_self _)]
/-! ### the first one alone -/
/-- replace with a count of 1 -/
def rep1 (x y z : Str) : Str :=
  if ((occurrences x y 0 x.length 1).isEmpty || (y.length == 0 && z.length == 0)) = true then x else glued z (partsBetween x (occurrences x y 0 x.length 1) y.length)
theorem swap1_none {a b : List UInt8} : ∀ (n : Nat) (x : List UInt8), x.length < n → (∀ i, i + a.length ≤ x.length → Vaseda.begins a (x.drop i) = false) → (1 ≤ a.length) → Vaseda.swapBy a b true n x = x
  | 0, _, h, _, _ => absurd h (Nat.not_lt_zero _)
  | n + 1, [], _, _, _ => rfl
  | n + 1, c :: r, h, hn, ha => by
    rw [List.length_cons] at h
    have hb : ¬ Vaseda.begins a (c :: r) = true := fun z => by
      by_cases hl : a.length ≤ (c :: r).length
      · have := hn 0 (by omega)
        rw [List.drop_zero, z] at this
        cases this
      · unfold Vaseda.begins at z
        rw [beq_iff_eq] at z
        have := congrArg List.length z
        rw [List.length_take] at this
        omega
    show (if Vaseda.begins a (c :: r) = true then _ else c :: Vaseda.swapBy a b true n r) = _
    rw [if_neg hb, swap1_none n r (by omega) (fun i hi => by
      have := hn (i + 1) (by rw [List.length_cons]; omega)
      rwa [List.drop_succ_cons] at this) ha]
theorem swap1_at {a b : List UInt8} (ha : 1 ≤ a.length) : ∀ (i n : Nat) (x : List UInt8), x.length < n → i + a.length ≤ x.length → Vaseda.begins a (x.drop i) = true → (∀ k, k < i → Vaseda.begins a (x.drop k) = false) → Vaseda.swapBy a b true n x = x.take i ++ (b ++ x.drop (i + a.length))
  | _, 0, _, h, _, _, _ => absurd h (Nat.not_lt_zero _)
  | i, n + 1, [], _, h, _, _ => by
    rw [List.length_nil] at h
    omega
  | 0, n + 1, c :: r, h, hl, hb, _ => by
    rw [List.drop_zero] at hb
    show (if Vaseda.begins a (c :: r) = true then b ++ (if true = true then (c :: r).drop a.length else _) else _) = _
    rw [if_pos hb, if_pos rfl, List.take_zero, List.nil_append, Nat.zero_add]
  | i + 1, n + 1, c :: r, h, hl, hb, hn => by
    rw [List.length_cons] at h hl
    have h0 := hn 0 (by omega)
    rw [List.drop_zero] at h0
    show (if Vaseda.begins a (c :: r) = true then _ else c :: Vaseda.swapBy a b true n r) = _
    rw [if_neg (by rw [h0]; exact Bool.false_ne_true), swap1_at ha i n r (by omega) (by omega) hb (fun k hk => hn (k + 1) (by omega)), List.take_succ_cons, show i + 1 + a.length = (i + a.length) + 1 by omega, List.drop_succ_cons]
    rfl
theorem rep1_is {a b x : List UInt8} (ha : a ≠ []) : rep1 (S x) (S a) (S b) = S (Vaseda.swapIn a b true x) := by
  have hal : 1 ≤ a.length := by
    cases a with
    | nil => exact absurd rfl ha
    | cons _ _ => simp
  have h0 : ((S a).length == 0 && (S b).length == 0) = false := by
    rw [S_len]
    simp
    intro z
    rw [z] at ha
    exact absurd rfl ha
  unfold rep1 Vaseda.swapIn
  rw [h0, Bool.or_false]
  rcases occ_head (S x) (S a) 1 (Nat.le_refl 1) with ⟨e, hn⟩ | ⟨i, r, e, hA, hn⟩
  · rw [e, if_pos (show ([] : List Nat).isEmpty = true from rfl), swap1_none (a := a) (b := b) (x.length + 1) x (Nat.lt_succ_self _) (fun i hi => ?_) hal]
    cases hb : Vaseda.begins a (x.drop i) with
    | false => rfl
    | true => exact absurd (at_begins.mpr ⟨hi, hb⟩) (hn i)
  · have hr : r = [] := by
      have := StrLaws.occ_length_le (S x) (S a) 0 (S x).length 1
      rw [e, List.length_cons] at this
      exact List.length_eq_zero_iff.mp (by omega)
    subst hr
    rw [e, if_neg (show ¬ ([i] : List Nat).isEmpty = true from Bool.false_ne_true)]
    obtain ⟨h1, h2⟩ := at_begins.mp hA
    rw [swap1_at (b := b) hal i (x.length + 1) x (Nat.lt_succ_self _) h1 h2 (fun k hk => ?_)]
    · refine str_ext ?_
      rw [StrLaws.partsBetween_eq]
      show (glued (S b) [strSub (S x) 0 i, strSub (S x) (i + (S a).length) (S x).length]).cps.toList = _
      rw [StrLaws.glued_list]
      show (strSub (S x) 0 i).cps.toList ++ ((S b).cps.toList ++ ((strSub (S x) (i + (S a).length) (S x).length).cps.toList ++ [])) = _
      rw [StrLaws.strSub_toList, StrLaws.strSub_toList, List.append_nil, S_tl, S_tl, S_tl, S_len, S_len, List.map_append, List.map_append, List.drop_zero, Nat.sub_zero, List.map_take, List.map_drop]
      congr 2
      exact List.take_of_length_le (by rw [List.length_drop, List.length_map]; omega)
    · cases hb : Vaseda.begins a (x.drop k) with
      | false => rfl
      | true => exact absurd (at_begins.mpr ⟨by omega, hb⟩) (hn k hk)
end LE

/-! LRl: rules for replace where the two texts are known to be two objects. -/
namespace PySem
open Builtin Builtin.Str
namespace LE2
theorem gives1 (x y z : Str) (t u v k : Tok)
    (hf : ((occurrences x y 0 x.length 1).isEmpty || (y.length == 0 && z.length == 0)) = false → (u == 0 || v == 0) = false ∧ (u == v) = false ∧ tooLong (x.length + (occurrences x y 0 x.length 1).length * z.length) = false) :
    GivesAt (fun s => NoneBooked s.heap) («str.replace» ⟨[.str x t, .str y u, .str z v, .int 1 k], []⟩)
      (if ((occurrences x y 0 x.length 1).isEmpty || (y.length == 0 && z.length == 0)) = true then .val (.str x t)
       else if (y == z) = true then .either (.val (.str x t)) (.str (glued z (partsBetween x (occurrences x y 0 x.length 1) y.length)))
       else .str (glued z (partsBetween x (occurrences x y 0 x.length 1) y.length))) := by
  have e : «str.replace» ⟨[.str x t, .str y u, .str z v, .int 1 k], []⟩ = (if ((occurrences x y 0 x.length 1).isEmpty || (y.length == 0 && z.length == 0)) = true then (do rule "str.replace.nothing"; ret (.str x t)) else
          (do let same ← isSame (.str y u) (.str z v)
              if same = true then (do rule "str.replace.old-is-new"; ret (.str x t)) else
              if tooLong (x.length + (occurrences x y 0 x.length 1).length * z.length) = true then unsupported "str.replace:memory" else
              retStr (glued z (partsBetween x (occurrences x y 0 x.length 1) y.length)))) := by rfl
  rw [e]
  cases hc : ((occurrences x y 0 x.length 1).isEmpty || (y.length == 0 && z.length == 0))
  · obtain ⟨h0, huv, hl⟩ := hf hc
    rw [if_neg Bool.false_ne_true, if_neg Bool.false_ne_true, hl]
    cases hyz : (y == z)
    · rw [isSame_str_other y z u v h0 huv hyz]
      exact Gives.at (.of_eq rfl)
    · intro prog w A R s hb hq
      refine wpAny_bind (wpAny_isSame_str h0 hb fun b => ?_)
      cases b
      · exact wpAny_bind (wpAny_mkStr (wpAny_pure hq.2.2) hq.2.1)
      · exact wpAny_bind (wpAny_rule (wpAny_pure hq.1))
  · rw [if_pos rfl, if_pos rfl]
    exact Gives.at (.rule (.of_eq rfl))
theorem glued1_self (x y : Str) (n : Nat) : glued y (partsBetween x (occurrences x y 0 x.length n) y.length) = x := StrLaws.glued_between_self x y n
section
variable {prog : Program} {w : World} {A : Around} {E : Value → Shared → Prop} {s : Shared} {x y z : Str} {t u v k : Tok} {Q : Value → Shared → Prop}
theorem replace1 (hu : u ≠ 0) (hv : v ≠ 0) (huv : u ≠ v) (hb : x.length + z.length ≤ 1000000) (hnb : NoneBooked s.heap)
    (hq : ∀ t' k, Q (.str (LE.rep1 x y z) t') { s with toks := k }) : wpAny (model prog w) A (call (.builtin "str.replace") [.str x t, .str y u, .str z v, .int 1 k]) Q E s := by
  have h1 := StrLaws.occ_length_le x y 0 x.length 1
  have h2 : (occurrences x y 0 x.length 1).length * z.length ≤ 1 * z.length := Nat.mul_le_mul_right _ h1
  have hl : tooLong (x.length + (occurrences x y 0 x.length 1).length * z.length) = false := by
    unfold tooLong sizeLine
    exact decide_eq_false (by omega)
  refine call_givesAt F.slot_str_replace (typeIs_str _ _ _) F.entry_str_replace (F.args_str_replace_4 _ _ _ _) (gives1 x y z t u v k fun _ => ⟨by simp [hu, hv], by simp [huv], hl⟩) hnb ?_
  have hq' := hq
  unfold LE.rep1 at hq'
  have fits : ∀ z', z'.length = z.length → (glued z' (partsBetween x (occurrences x y 0 x.length 1) y.length)).length ≤ sizeLine := fun z' e => by
    have hy : (glued y (partsBetween x (occurrences x y 0 x.length 1) y.length)).length = x.length := by rw [glued1_self]
    rw [size_glued, length_partsBetween, Nat.add_sub_cancel] at hy
    rw [size_glued, length_partsBetween, Nat.add_sub_cancel, sizeLine_eq, e]
    omega
  cases hc : ((occurrences x y 0 x.length 1).isEmpty || (y.length == 0 && z.length == 0))
  · rw [hc] at hq'
    simp only [Bool.false_eq_true, if_false] at hq' ⊢
    cases hyz : (y == z)
    · simp only [Bool.false_eq_true, if_false]
      exact ⟨fits z rfl, hq' _ _⟩
    · simp only [if_true]
      have e : y = z := eq_of_beq hyz
      subst e
      have e2 := glued1_self x y 1
      rw [e2] at hq' ⊢
      dsimp only [Made.post]
      exact ⟨hq' t s.toks, by rw [sizeLine_eq]; omega, hq' _ _⟩
  · rw [hc] at hq'
    simp only [if_true] at hq' ⊢
    exact hq' t s.toks
end
end LE2
end PySem

namespace LE
open PySem PySem.Spec PyProof.Rows L2
/-- a tuple's object of a word and two texts that are two objects -/
def DeedTok (o : Obj) (y z : Str) : Prop := ∃ (w : Value) (t u : Tok) (n : Nat), o.cls = .type "tuple" ∧ o.data = .seq #[w, .str y t, .str z u] n ∧ t ≠ 0 ∧ u ≠ 0 ∧ t ≠ u
section
variable {X : Cx} {pins : List (Addr × Obj)} {σ : L2.St} {H : Hp} {s : Shared}
/-- an item of a tuple whose object is known -/
theorem raw_tup {i : Nat} {x : Str} {a : Addr} {o : Obj} {u : HO} {its : Array Value} {n : Nat} {k j : Nat} {w : Value} {p1 cp pos : Pos} {Q E : Value → Shared → Prop} (hN : X.N[i]? = some x) (hv : Vis X.env.scope x) (I : Inv X pins σ H s)
    (hs : σ[i]? = some (some (.ref a))) (ha : H a = some (.frz o u)) (hc : o.cls = .type "tuple") (hd : o.data = .seq its n) (hx : its[k]? = some w) (hk : k < 1000) (fin : ∀ tk, Q w { s with toks := tk })
    (hdb : (x == ("__debug__" : Str)) = false := by decide) (hcd : (x == ("__classdict__" : Str)) = false := by decide) :
    wpAny (model X.prog X.w) X.A (eval (.Subscript (.Name x p1) (.Constant (.int (k : Nat)) j cp) pos) X.env) Q E s := by
  refine Subscript_ (raw_name hN hv I hs (fun v r => ?_) hdb hcd)
  have e : v = Value.ref a := r
  subst e
  refine wpAny_Constant_int ?_
  have ho : s.heap.get? a = some o := (I.hok a _ ha).1
  have pl : IsTup s.heap a its := ⟨o, ho, hc, n, hd⟩
  have hlt : k < its.size := by
    by_cases h : k < its.size
    · exact h
    · rw [Array.getElem?_eq_none (by omega)] at hx
      cases hx
  have hj : seqIndex? ((k : Nat) : Int) its.size = some k := by
    have := seqIndex_of (k := ((k : Nat) : Int)) (n := its.size) (by omega) (by omega)
    simpa using this
  exact subscriptTail_builtinR (s := { s with toks := s.toks + 1 }) (x := w) pl.typeIs slot_tuple_getitem.lookup
    (getItem_tuple (j := k) (Q := fun r s' => r = w ∧ Q r s') pl (by omega) (by omega) hj hx ⟨rfl, fin _⟩) rfl
end
/-- what replacing reads: the text, the tuple at slot i -/
def tRepl (f : Str → Str → Str → Str) (to : TE) (i : Nat) : TE := fun σ H Q => to σ H fun x H1 => ∃ (z y y2 : Str) (a : Addr) (o : Obj) (w : V), x = .str z ∧ σ[i]? = some (some (.ref a)) ∧ H1 a = some (.frz o (.tup [w, .str y, .str y2])) ∧ DeedTok o y y2 ∧
  (z.length ≤ 1000 ∧ y2.length ≤ 1000) ∧ Q (.str (f z y y2)) H1
section
variable {X : Cx} {ol : Expr} {to : TE} {i : Nat} {px : Str} {j0 j1 j2 : Nat} {p2 p3 c0 c1 c2 q0 q1 apos pos : Pos}
theorem pe_rep2 (hnb : ∀ h, X.K.In h → NoneBooked h) (ho : PE X ol to) (hN : X.N[i]? = some px) (hv : Vis X.env.scope px)
    (hbase : attributeBase ol "replace" X.env (eval ol X.env) = eval ol X.env := by rfl) (hline : (apos.endLine == pos.line) = true := by rfl)
    (hst : starEach [.Subscript (.Name px p2) (.Constant (.int 1) j0 c0) q0, .Subscript (.Name px p3) (.Constant (.int 2) j1 c1) q1] X.env =
      [(false, eval (.Subscript (.Name px p2) (.Constant (.int 1) j0 c0) q0) X.env), (false, eval (.Subscript (.Name px p3) (.Constant (.int 2) j1 c1) q1) X.env)] := by rfl)
    (hdp : (px == ("__debug__" : Str)) = false := by decide) (hcp : (px == ("__classdict__" : Str)) = false := by decide) :
    PE X (.Call (.Attribute ol "replace" apos) [.Subscript (.Name px p2) (.Constant (.int 1) j0 c0) q0, .Subscript (.Name px p3) (.Constant (.int 2) j1 c1) q1] [] pos) (tRepl Txt.replace to i) := by
  refine ⟨fun pins s σ H Q I h => ?_⟩
  refine PySem.Call_method2 hbase hst hline (thn (ho.run pins s σ H _ I h) fun ov s1 ⟨x, H1, I1, rx, z, y, y2, a, o, w, ex, hs, ha, ⟨w0, t, u, n, hc, hd, ht, hu, htu⟩, hb, q⟩ => ?_)
  subst ex
  obtain ⟨tx, rfl⟩ := rx
  refine ⟨"str", _, PySem.F.plainAttrs_str, PySem.F.slot_str_replace, PySem.F.type_str_replace, typeIs_str _ _ _, (fun _ e => nomatch e), Calls.callWith_builtin rfl (Calls.evalArgs_plain (Calls.spliced_cons ?_))⟩
  refine raw_tup (k := 1) hN hv I1 hs ha hc hd rfl (by decide) (fun k1 => ?_) hdp hcp
  refine Calls.spliced_cons (raw_tup (k := 2) hN hv (I1.tok k1) hs ha hc hd rfl (by decide) (fun k2 => ?_) hdp hcp)
  refine Calls.spliced_nil ?_
  have hz : z.length + (z.length + 1) * y2.length ≤ 16777216 := by
    have : (z.length + 1) * y2.length ≤ 1001 * 1000 := Nat.mul_le_mul (by omega) hb.2
    omega
  exact PySem.SC.replaceA ht hu htu hz (fun t' k => ⟨.str (Txt.replace z y y2), H1, I1.tok k, ⟨t', rfl⟩, q⟩) (hnb _ (I1.tok k2).kIn)
theorem pe_rep3 (hnb : ∀ h, X.K.In h → NoneBooked h) (ho : PE X ol to) (hN : X.N[i]? = some px) (hv : Vis X.env.scope px)
    (hbase : attributeBase ol "replace" X.env (eval ol X.env) = eval ol X.env := by rfl) (hline : (apos.endLine == pos.line) = true := by rfl)
    (hst : starEach [.Subscript (.Name px p2) (.Constant (.int 1) j0 c0) q0, .Subscript (.Name px p3) (.Constant (.int 2) j1 c1) q1, .Constant (.int 1) j2 c2] X.env =
      [(false, eval (.Subscript (.Name px p2) (.Constant (.int 1) j0 c0) q0) X.env), (false, eval (.Subscript (.Name px p3) (.Constant (.int 2) j1 c1) q1) X.env), (false, eval (.Constant (.int 1) j2 c2) X.env)] := by rfl)
    (hdp : (px == ("__debug__" : Str)) = false := by decide) (hcp : (px == ("__classdict__" : Str)) = false := by decide) :
    PE X (.Call (.Attribute ol "replace" apos) [.Subscript (.Name px p2) (.Constant (.int 1) j0 c0) q0, .Subscript (.Name px p3) (.Constant (.int 2) j1 c1) q1, .Constant (.int 1) j2 c2] [] pos) (tRepl rep1 to i) := by
  refine ⟨fun pins s σ H Q I h => ?_⟩
  refine wpAny_Call_method_lateS hbase (by rw [hst]; rfl) hline ?_
  rw [hst]
  refine thn (ho.run pins s σ H _ I h) fun ov s1 ⟨x, H1, I1, rx, z, y, y2, a, o, w, ex, hs, ha, ⟨w0, t, u, n, hc, hd, ht, hu, htu⟩, hb, q⟩ => ?_
  subst ex
  obtain ⟨tx, rfl⟩ := rx
  refine ⟨"str", _, PySem.F.plainAttrs_str, PySem.F.slot_str_replace, PySem.F.type_str_replace, typeIs_str _ _ _, (fun _ e => nomatch e), Calls.callWith_builtin rfl (Calls.evalArgs_plain (Calls.spliced_cons ?_))⟩
  refine raw_tup (k := 1) hN hv I1 hs ha hc hd rfl (by decide) (fun k1 => ?_) hdp hcp
  refine Calls.spliced_cons (raw_tup (k := 2) hN hv (I1.tok k1) hs ha hc hd rfl (by decide) (fun k2 => ?_) hdp hcp)
  refine Calls.spliced_cons ?_
  refine wpAny_Constant_int (k := j2) (pos := c2) ?_
  refine Calls.spliced_nil ?_
  exact PySem.LE2.replace1 ht hu htu (by omega) (hnb _ (I1.tok _).kIn) (fun t' k => ⟨.str (rep1 z y y2), H1, I1.tok k, ⟨t', rfl⟩, q⟩)
end
end LE

/-! LEn: for k, x in enumerate(xs, start=c). -/
namespace LE
open PySem PySem.Spec PyProof.Rows L2
/-- as Ite, the number from c on -/
def ItS (K : PySem.W.Frag) (c : Nat) (a : Addr) : It where
  go := fun i H => ∃ (l : List V) (z : V), SqL K H a l ∧ l[i]? = some z
  yld := fun i H v H2 => ∃ (q : Addr) (z : V), v = .ref q ∧ H q = none ∧ H2 = upd H q (.tup [.int ((i + c : Nat) : Int), z]) ∧ ∀ l, SqL K H a l → l[i]? = some z
  stop := fun i H => ∃ l : List V, SqL K H a l ∧ l.length ≤ i
/-- e: the enumerate object, r: the list's iterator -/
structure StS (c : Nat) (a e r : Addr) (i : Nat) (h : Heap) : Prop where
  enu : ∃ v, IsEnum h e r ((i + c : Nat) : Int) v
  lit : h.IsListIter r a i
  dif : e ≠ r
theorem two_of {b e r : Addr} (h : b ∈ [e, r]) : b = e ∨ b = r := by simpa using h
theorem apart_of {h : Heap} {a e r : Addr} {its : Array Value} {c : Int} {v : Value} {i : Nat} (hl : h.IsList a its) (he : IsEnum h e r c v) (hr : h.IsListIter r a i) : a ≠ r ∧ a ≠ e := by
  obtain ⟨o, g1, g2, _⟩ := hl
  obtain ⟨o2, q1, q2, _⟩ := hr
  refine ⟨fun z => ?_, fun z => ?_⟩
  · subst z
    have z := Option.some.inj (g1.symm.trans q1)
    subst z
    have z := g2.symm.trans q2
    injection z with z
    exact absurd z (by decide)
  · subst z
    have z := Option.some.inj (g1.symm.trans he)
    subst z
    injection g2 with z
    exact absurd z (by decide)
theorem next_end {prog : Program} {w : World} {A : Around} {E : Value → Shared → Prop} {s : Shared} {e r l : Addr} {i : Nat} {c : Int} {its : Array Value} {v : Value} {Q : Option Value → Shared → Prop} (hh : A.handled = none) (he : IsEnum s.heap e r c v)
    (hr : s.heap.IsListIter r l i) (hl : s.heap.IsList l its) (hx : its[i]? = none) (q : ∀ h2, Heap.ExtBut r s.heap h2 → Q none { s with heap := h2 }) : wpAny (model prog w) A (pyNext (.ref e)) Q E s := by
  have ty : s.TypeIs (.ref e) "enumerate" := ⟨_, he, rfl⟩
  unfold pyNext
  refine wpAny_bind (wpAny_attempt (wpAny_callSpecial?_slot (name := Str.ofString "__next__") ty F.slot_enumerate_next ?_))
  refine wpAny_call_entry F.slot_enumerate_next ty F.entry_enumerate_next ?_ (F.args_enumerate_next_1 _)
  show wpAny _ _ (field (.ref e) 2 >>= _) _ _ s
  refine wpAny_bind (wpAny_field he rfl (x := .ref r) rfl (wpAny_bind (wpAny_nextOf_list_end hh hr hl hx fun h2 x1 k1 hx1 => ?_)))
  obtain ⟨o, g1, g2⟩ := hx1
  exact wpAny_bind (wpAny_isInstance (T := "StopIteration") (b := true) ⟨o, g1, g2⟩ isSubtype_stop (wpAny_pure (q _ k1)))
theorem turn_S {P : Program} {w : World} {K : PySem.W.Frag} {elts : List Expr} {kk : Nat} {tpos : Pos} (c : Nat) (a e r : Addr) : Turn P w K (.Tuple elts kk tpos) (ItS K c a) [e, r] e (StS c a e r) := by
  constructor
  · simp
  · intro i h st b hb
    obtain ⟨v, hv⟩ := st.enu
    obtain ⟨o, g1, _, g3⟩ := st.lit
    rcases two_of hb with rfl | rfl
    · exact ⟨_, hv, fun _ z => nomatch z⟩
    · refine ⟨o, g1, fun _ z => ?_⟩
      rw [g3] at z
      cases z
  · intro i h h2 st k
    obtain ⟨v, hv⟩ := st.enu
    exact ⟨⟨v, k e (by simp) _ hv⟩, st.lit.at fun o q => k r (by simp) o q, st.dif⟩
  · intro X eP ew eK hc i pins s σ H E I hf st ⟨l, z, hl, hz⟩
    subst eP ew eK
    obtain ⟨v, hv⟩ := st.enu
    obtain ⟨us, ru, pu, _⟩ := I.list hl
    obtain ⟨u, hu, rz⟩ := ru.get hz
    have ze : e < s.heap.objs.size := Heap.lt_size hv
    have zr : r < s.heap.objs.size := by
      obtain ⟨_, q, _⟩ := st.lit
      exact Heap.lt_size q
    have hl' := pu.isList
    obtain ⟨nar, nae⟩ := apart_of hl' hv st.lit
    have D := Draws.list (prog := X.prog) (w := X.w) (A := X.A.in1) (show X.A.in1.handled = none from I.ok.hd hc) r a nar us.toArray
    have hlt : i < us.toArray.size := by
      have := (List.getElem?_eq_some_iff.mp hu).1
      simpa using this
    refine wpAny_pyNext_enum_itemC D hv ⟨st.lit, hl'⟩ hlt st.dif (by simp [st.dif, Ne.symm nae]) fun x h1 tk px o1 ⟨l1, _⟩ t1 _ k1 => ⟨_, rfl, ?_⟩
    have ex : x = u := by
      have q : us[i]? = some x := by simpa using px
      exact Option.some.inj (q.symm.trans hu)
    subst ex
    refine wpAny_letOwnedTupleGo_enum (s := { s with heap := h1, toks := tk + 1 }) o1 fun h2 e2 sb => ?_
    have t2 := (sb.2 _ (Nat.ne_of_gt ze)).trans t1
    have new : ObjOk X.prog X.w (upd H s.heap.objs.size (.tup [.int ((i + c : Nat) : Int), z])) h2 s.heap.objs.size (.tup [.int ((i + c : Nat) : Int), z]) := by
      refine ⟨by show 2 ≤ sizeLine; decide, _, .cons ⟨_, rfl⟩ (.cons rz .nil), ⟨_, t2, rfl, _, rfl⟩⟩
    have fr : H s.heap.objs.size = none := I.hok.fresh (Nat.le_refl _)
    have J := I.turnedNew (t' := tk + 1) (ch := [e, r]) (fun b ob hb q => by
      have n1 : b ≠ e := fun z => hb (by simp [z])
      have n2 : b ≠ r := fun z => hb (by simp [z])
      exact (sb.2 b n1).trans (k1 b ob n1 n2 q)) hf (Nat.le_refl _) new
    refine ⟨.ref s.heap.objs.size, _, J, rfl, ⟨_, z, rfl, fr, rfl, fun m hm => ?_⟩, ⟨⟨x, ?_⟩, l1.at fun o q => (sb.2 r (Ne.symm st.dif)).trans q, st.dif⟩, fun b hb => ?_⟩
    · rw [I.list_inj hm hl]
      exact hz
    · have en : ((i + 1 + c : Nat) : Int) = ((i + c : Nat) : Int) + 1 := by omega
      rw [en]
      exact e2
    · have lt : b < s.heap.objs.size := by
        rcases two_of hb with rfl | rfl
        · exact ze
        · exact zr
      rw [upd_ne (Nat.ne_of_lt lt)]
      exact (hf b hb).1
  · intro X eP ew eK hc i pins s σ H E I hf st ⟨l, hl, hi⟩
    subst eP ew eK
    obtain ⟨v, hv⟩ := st.enu
    obtain ⟨us, ru, pu, _⟩ := I.list hl
    have el := ru.length
    obtain ⟨f0, f1, f2, f3, f4, f5⟩ := hf r (by simp)
    refine next_end (I.ok.hd hc) hv st.lit pu.isList (by simp; omega) fun h1 sb => ⟨rfl, ?_⟩
    exact I.turned (t' := s.toks) (fun b o hb q => sb b o hb q) f0 f1 f3 f4 f5
  · intro A i s Q E st q
    obtain ⟨v, hv⟩ := st.enu
    exact wpAny_pyIter_enum hv q
def iEnumS (K : PySem.W.Frag) (c : Nat) (ta : TA) : TI := fun σ H R => ta σ H fun vs H1 => ∃ (a : Addr) (l : List V), vs = [.ref a] ∧ SqL K H1 a l ∧ R (ItS K c a) H1
theorem pi_enumS {X : Cx} {ex : Expr} {ta : TA} {p pos tpos cp kp : Pos} {elts : List Expr} {kk j : Nat} {c : Nat} (hsm : c < 1000) (hm : X.mg "enumerate" = none) (ha : PA X [ex] ta) (hg : Gl X "enumerate" := by rfl)
    (hs : starEach [ex] X.env = [(false, eval ex X.env)] := by rfl) :
    PI X (.Tuple elts kk tpos) (.Call (.Name "enumerate" p) [ex] [⟨some (Str.ofString "start"), .Constant (.int (c : Nat)) j cp, kp⟩] pos) (iEnumS X.K c ta) := by
  refine ⟨fun pins s σ H R I h => ?_⟩
  refine wpAny_Call_Name_kw (ld_blt I hg hm boot_enumerate ?_)
  refine PySem.W.callWith_of (P := fun _ => True) (by rw [hs]; rfl) (fun _ _ => ⟨.machine, .inr (.inl rfl), .now⟩) ?_
  refine evalArgs_kw2 rfl (thn (ha.run pos pins s σ H _ I h) fun us s1 hh => ?_) hs
  obtain ⟨vs, H1, I1, r1, a, l, ev, hl, q⟩ := hh
  subst ev
  cases r1 with
  | cons r rr =>
    cases rr
    cases r
    obtain ⟨its, rv, pl, hz⟩ := I1.list hl
    show wpAny _ _ (evalAll ((do let v ← eval (.Constant (.int (c : Nat)) j cp) X.env; standAt pos; pure v) :: [])) _ _ _
    refine wpAny_evalAll_cons (wpAny_bind (wpAny_Constant_int (k := j) (pos := cp) (wpAny_bind (wpAny_standAt (wpAny_pure (wpAny_evalAll_nil ⟨trivial, ?_⟩))))))
    have I2 : Inv X pins σ H1 { s1 with toks := s1.toks + 1 } := I1.tok _
    refine enum_begins_start (begins_list a its.toArray) pl.isList (by omega) (by omega) fun h' he hit hsz hk => wpAny_pyIter_enum he ?_
    have I3 : Inv X pins σ H1 { s1 with heap := h', toks := s1.toks + 1 } := I2.kept (t' := s1.toks + 1) hk
    refine ⟨s1.heap.objs.size + 1, [s1.heap.objs.size + 1, s1.heap.objs.size], _, _, H1, rfl, I3, turn_S c a (s1.heap.objs.size + 1) s1.heap.objs.size, ⟨⟨.none, ?_⟩, ⟨_, hit, rfl, rfl⟩, Nat.succ_ne_self _⟩, fun b hb => ?_, q⟩
    · rw [Nat.zero_add]
      exact he
    · have hle : s1.heap.objs.size ≤ b := by
        rcases two_of hb with rfl | rfl
        · exact Nat.le_succ _
        · exact Nat.le_refl _
      exact I2.fpOk hle (I2.hok.fresh hle)
theorem walk_S {K : PySem.W.Frag} {c : Nat} {a : Addr} {xs : List V} : Walk (ItS K c a) xs.length (fun H => SqL K H a xs) (YPair (fun i => some (.int ((i + c : Nat) : Int))) (fun i => xs[i]?)) := by
  refine ⟨fun i H hi q => ⟨xs, xs[i], q, by simp [hi]⟩, fun H q => ⟨xs, q, Nat.le_refl _⟩, ?_⟩
  rintro i H v H2 _ q ⟨t, z, h1, h2, h3, h4⟩
  exact ⟨t, _, z, h1, h2, h3, rfl, h4 xs q⟩
end LE

/-! LH: readings that give a list, new or not; fields, methods. -/
namespace LE
open PySem PySem.Spec PyProof.Rows L2 Evl
section
variable {K : PySem.W.Frag} {σ : L2.St} {H H' : Hp} {ta tb te to : TE} {t : TT} {v : V} {xs ys : List V}
/-- a list, new or not -/
def EvR (te : TE) (σ : L2.St) (H : Hp) (xs : List V) : Prop := ∀ H1, Ex H H1 → ∀ Q : VK, (∀ p H2, Ex H1 H2 → H2 p = some (.lst xs) → Q (.ref p) H2) → te σ H1 Q
theorem EvR.mono (e : Ex H H') (h : EvR te σ H xs) : EvR te σ H' xs := fun H1 a Q q => h H1 (e.trans a) Q q
theorem er_l (h : EvL te σ H xs) : EvR te σ H xs := fun H1 e Q q => h H1 e Q fun p H2 _ e2 h2 => q p H2 e2 h2
theorem er_v {p : Addr} (h : Ev te σ H (.ref p)) (hp : H p = some (.lst xs)) : EvR te σ H xs := fun H1 e Q q => h H1 e Q fun H2 e2 => q p H2 e2 ((e.trans e2) _ _ hp)
theorem ev_fld {p C dx : Addr} {fs : List (Str × V)} {f : Str} (h : Ev to σ H (.ref p)) (hp : H p = some (.ins C dx fs)) (c : Cls K C) (n : NoAttr K C f) (l : fs.lookup f = some v) : Ev (tFld K to f) σ H v := fun H1 e Q q =>
  h H1 e _ fun H2 e2 => ⟨p, C, dx, fs, v, rfl, (e.trans e2) _ _ hp, c, n, l, q H2 e2⟩
theorem er_if {b : Bool} (h : EvT t σ H b) (h1 : b = true → EvR ta σ H xs) (h2 : b = false → EvR tb σ H xs) : EvR (tIf t ta tb) σ H xs := fun H1 e Q q => h H1 e _ fun H2 e2 => by
  cases b with
  | true => exact iteT (h1 rfl H2 (e.trans e2) Q fun p H3 e3 h3 => q p H3 (e2.trans e3) h3)
  | false => exact iteF (h2 rfl H2 (e.trans e2) Q fun p H3 e3 h3 => q p H3 (e2.trans e3) h3)
/-- xs + ys -/
theorem el_cat (ha : EvR ta σ H xs) (hb : EvR tb σ H ys) (hz : xs.length + ys.length ≤ 100000) : EvL (tOp rCat ta tb) σ H (xs ++ ys) := fun H1 e Q q =>
  ha H1 e _ fun p H2 e2 h2 => hb H2 (e.trans e2) _ fun r H3 e3 h3 => ⟨p, r, xs, ys, rfl, rfl, e3 _ _ h2, h3, sz_of hz, fun n hn => q n _ (fresh_back (e2.trans e3) hn) ((e2.trans e3).trans (Ex.new hn)) upd_same⟩
theorem rep_one (v : V) : ∀ n : Nat, (List.replicate n [v]).flatten = List.replicate n v
  | 0 => rfl
  | n + 1 => by
    rw [List.replicate_succ, List.flatten_cons, rep_one v n]
    rfl
/-- [v] * n -/
theorem el_rep {n : Nat} (ha : EvR ta σ H [v]) (hb : Ev tb σ H (.int (n : Nat))) (hz : n ≤ 100000) : EvL (tOp rRep ta tb) σ H (List.replicate n v) := fun H1 e Q q =>
  ha H1 e _ fun p H2 e2 h2 => hb H2 (e.trans e2) _ fun H3 e3 => ⟨p, (n : Nat), [v], rfl, rfl, e3 _ _ h2, by omega, by omega, sz_of (by simpa using hz), fun m hm => by
    rw [Int.toNat_natCast, rep_one]
    exact q m _ (fresh_back (e2.trans e3) hm) ((e2.trans e3).trans (Ex.new hm)) upd_same⟩
/-- len of a list -/
theorem ev_lenR (ha : EvR ta σ H xs) : Ev (tCB (rLenS K) (tCons ta tNil)) σ H (.int (xs.length : Nat)) := fun H1 e Q q =>
  ha H1 e _ fun p H2 e2 h2 => ⟨p, xs, rfl, .inl (SqL.of h2), q H2 e2⟩
/-- a method without arguments that gives a value | a new list -/
def SpV1 (sp : Sp) (vs : List V) (H : Hp) (z : V) : Prop := ∀ H1, Ex H H1 → ∀ Q : VK, (∀ H2, Ex H1 H2 → Q z H2) → ∀ E : XK, sp vs H1 Q E
theorem ev_meth {C p dx : Addr} {fs : List (Str × V)} {m : Str} {sp : Sp} {E : XK} (h : Ev to σ H (.ref p)) (hp : H p = some (.ins C dx fs)) (l : fs.lookup m = none) (hs : SpV sp [.ref p] H v) : Ev (tMeth C m sp [] E to tNil) σ H v := fun H1 e Q q =>
  h H1 e _ fun H2 e2 => ⟨p, dx, fs, rfl, (e.trans e2) _ _ hp, l, hs H2 (e.trans e2) Q (fun H3 e3 => q H3 (e2.trans e3)) E⟩
theorem el_meth {C p dx : Addr} {fs : List (Str × V)} {m : Str} {sp : Sp} {E : XK} (h : Ev to σ H (.ref p)) (hp : H p = some (.ins C dx fs)) (l : fs.lookup m = none) (hs : SpL sp [.ref p] H xs) : EvL (tMeth C m sp [] E to tNil) σ H xs := fun H1 e Q q =>
  h H1 e _ fun H2 e2 => ⟨p, dx, fs, rfl, (e.trans e2) _ _ hp, l, hs H2 (e.trans e2) Q (fun r H3 hr e3 h3 => q r H3 (fresh_back e2 hr) (e2.trans e3) h3) E⟩
end
end LE

/-! LRun: how a script runs over a text: a line's passage. -/
namespace LE
open PySem PySem.Spec PyProof.Rows L2 Evl
open Vaseda (Work Out Deed Cmd)
variable {P : Program} {w : World} {K : PySem.W.Frag} {mg : Str → Option Value} {base : Heap}
/-- all but what stands at l is as it was -/
def But (l : List Addr) (H H' : Hp) : Prop := ∀ b o, H b = some o → b ∉ l → H' b = some o
theorem But.of {l : List Addr} {H H' : Hp} (e : Ex H H') : But l H H' := fun b o h _ => e b o h
theorem But.trans {l : List Addr} {H H1 H2 : Hp} (a : But l H H1) (b : But l H1 H2) : But l H H2 := fun c o h n => b c o (a c o h n) n
theorem But.upd {l : List Addr} {H H' : Hp} {p : Addr} {o : HO} (e : But l H H') (h : p ∈ l) : But l H (upd H' p o) := fun b u hb n => by
  rw [upd_ne (show b ≠ p from fun z => n (by rw [z]; exact h))]
  exact e b u hb n
/-- what was new and changed leaves what was there -/
theorem But.ex {l : List Addr} {H0 H H' : Hp} (e : But l H H') (x : Ex H0 H) (n : ∀ a ∈ l, H0 a = none) : Ex H0 H' := fun b o h => e b o (x b o h) fun z => by
  rw [n b z] at h
  cases h
/-- a test of two texts whose answer the texts tell -/
theorem no {A B : Prop} {c : Bool} (h : B) (hc : c = false := by decide +kernel) : if c = true then A else B := by
  rw [hc]
  exact iteF h
theorem yes {A B : Prop} {c : Bool} (h : A) (hc : c = true := by decide +kernel) : if c = true then A else B := by
  rw [hc]
  exact iteT h

/-! ### a passage -/
def pF (k : Nat) (x l h : List UInt8) (la lb : Addr) (st : Bool) : List (Str × V) := [("number", .int (k : Nat)), ("found", .str (S x)), ("line", .str (S l)), ("held", .str (S h)), ("ahead", .ref la), ("behind", .ref lb), ("stays", .bl st)]
def outs (l : List Out) : List V := tv (l.map fun o => o.x)
theorem outs_len (l : List Out) : (outs l).length = l.length := by simp [outs, tv_len]
theorem outs_add (l : List Out) (o : Out) : outs (l ++ [o]) = outs l ++ [.str (S o.x)] := by simp [outs, tv]
structure PassAt (CP : Addr) (H : Hp) (p la lb : Addr) (k : Nat) (x : List UInt8) (w : Work) : Prop where
  ob : ∃ dx, H p = some (.ins CP dx (pF k x w.x w.held la lb (!w.gone)))
  pa : H la = some (.lst (outs w.pre))
  pb : H lb = some (.lst (outs w.post))
  ab : la ≠ lb
theorem PassAt.but {CP : Addr} {H H' : Hp} {p la lb : Addr} {k : Nat} {x : List UInt8} {w : Work} {l : List Addr} (h : PassAt CP H p la lb k x w) (e : But l H H') (h1 : p ∉ l) (h2 : la ∉ l) (h3 : lb ∉ l) : PassAt CP H' p la lb k x w := by
  obtain ⟨⟨dx, o⟩, a, b, n⟩ := h
  exact ⟨⟨dx, e _ _ o h1⟩, e _ _ a h2, e _ _ b h3, n⟩
theorem PassAt.ex {CP : Addr} {H H' : Hp} {p la lb : Addr} {k : Nat} {x : List UInt8} {w : Work} (h : PassAt CP H p la lb k x w) (e : Ex H H') : PassAt CP H' p la lb k x w := by
  obtain ⟨⟨dx, o⟩, a, b, n⟩ := h
  exact ⟨⟨dx, e _ _ o⟩, e _ _ a, e _ _ b, n⟩
theorem ins_lst {H : Hp} {p a : Addr} {C dx : Addr} {fs : List (Str × V)} {xs : List V} (h : H p = some (.ins C dx fs)) (g : H a = some (.lst xs)) : a ≠ p := ne_of g h (by intro z; cases z)
structure TxtPass (K : PySem.W.Frag) (CP : Addr) : Prop where
  cl : Cls K CP
  nNumber : NoAttr K CP "number"
  nFound : NoAttr K CP "found"
  nLine : NoAttr K CP "line"
  nHeld : NoAttr K CP "held"
  nAhead : NoAttr K CP "ahead"
  nBehind : NoAttr K CP "behind"
  nStays : NoAttr K CP "stays"
/-- a passage at its beginning -/
def fresh (x h : List UInt8) : Work := ⟨x, h, [], [], false, false, 0, [], false⟩
abbrev sPassInit : Stmt := inClass (top 32) 0
theorem sc_pass_init : FnScope ["self", "number", "found", "held"] ["self", "number", "found", "held"] (defScope sPassInit) := ⟨rfl, rfl, rfl, by decide +kernel, rfl, by decide +kernel, by decide +kernel⟩
def spPassInit (CP : Addr) : Sp := fun vs H Q _ => ∃ (p dx : Addr) (k : Nat) (x h : List UInt8), vs = [.ref p, .int (k : Nat), .str (S x), .str (S h)] ∧ H p = some (.ins CP dx []) ∧
  ∀ H' la lb, H la = none → H lb = none → PassAt CP H' p la lb k x (fresh x h) → But [p, la, lb] H H' → Q .non H'
theorem ok_pass_init {f CP : Addr} {fd : FuncData} (F : Fun K "__init__" "Passage.__init__" sPassInit f fd) (T : TxtPass K CP) : FnOk P w K mg base CX0 1 f fd ["self", "number", "found", "held"] (spPassInit CP) := by
  refine F.ok sc_pass_init (fun vs H Q E h => ?_) (fun cdv A outer s H vs Q E hr h => ⟨_, pss_cons (ps_fld (pv 0) (pv 1) rfl) (pss_cons (ps_fld (pv 0) (pv 2) rfl) (pss_cons (ps_fld (pv 0) (pv 2) rfl) (pss_cons (ps_fld (pv 0) (pv 3) rfl)
    (pss_cons (ps_fld (pv 0) (pe_lst pa_nil) rfl) (pss_cons (ps_fld (pv 0) (pe_lst pa_nil) rfl) (pss_one (ps_fld (pv 0) pe_bl rfl))))))), ?_⟩)
  · obtain ⟨p, dx, k, x, h, rfl, _⟩ := h
    rfl
  · obtain ⟨p, dx, k, x, h, rfl, hp, kk⟩ := h
    refine ⟨_, rfl, _, rfl, p, CP, dx, [], rfl, hp, T.cl, T.nNumber, by decide, ?_⟩
    refine ⟨_, rfl, _, rfl, p, CP, dx, _, rfl, upd_same, T.cl, T.nFound, by show 1 < 1000; decide, ?_⟩
    refine ⟨_, rfl, _, rfl, p, CP, dx, _, rfl, upd_same, T.cl, T.nLine, by show 2 < 1000; decide, ?_⟩
    refine ⟨_, rfl, _, rfl, p, CP, dx, _, rfl, upd_same, T.cl, T.nHeld, by show 3 < 1000; decide, ?_⟩
    rw [upd_upd, upd_upd, upd_upd]
    refine ⟨Nat.zero_le _, fun la hla => ⟨_, rfl, p, CP, dx, _, rfl, (Ex.new hla) p _ upd_same, T.cl, T.nAhead, by show 4 < 1000; decide, ?_⟩⟩
    have nla : la ≠ p := fun z => by
      rw [z, upd_same] at hla
      cases hla
    refine ⟨Nat.zero_le _, fun lb hlb => ⟨_, rfl, p, CP, dx, _, rfl, (Ex.new hlb) p _ upd_same, T.cl, T.nBehind, by show 5 < 1000; decide, ?_⟩⟩
    have nlb : lb ≠ p := fun z => by
      rw [z, upd_same] at hlb
      cases hlb
    have nab : la ≠ lb := fun z => by
      rw [← z, upd_ne nla, upd_same] at hlb
      cases hlb
    refine ⟨_, rfl, p, CP, dx, _, rfl, upd_same, T.cl, T.nStays, by show 6 < 1000; decide, ?_⟩
    rw [upd_upd]
    rw [upd_ne nla] at hla
    rw [upd_ne nlb, upd_ne (Ne.symm nab), upd_ne nlb] at hlb
    refine kk _ la lb hla hlb ⟨⟨dx, upd_same⟩, ?_, ?_, nab⟩ ?_
    · rw [upd_ne nla, upd_ne nab, upd_ne nla, upd_same]
      rfl
    · rw [upd_ne nlb, upd_same]
      rfl
    · exact ((((But.of (Ex.refl H)).upd (by simp)).upd (by simp)).upd (by simp) |>.upd (by simp)).upd (by simp)
/-! ### its methods -/
def asFound (x : List UInt8) (w : Work) : Bool := !w.gone && w.x == x
def changed (x : List UInt8) (w : Work) : Bool := !w.gone && w.x != x
abbrev sAsFound : Stmt := inClass (top 32) 1
abbrev sChanged : Stmt := inClass (top 32) 2
abbrev sComing : Stmt := inClass (top 32) 3
theorem sc_as_found : FnScope ["self"] ["self"] (defScope sAsFound) := ⟨rfl, rfl, rfl, by decide +kernel, rfl, by decide +kernel, by decide +kernel⟩
theorem sc_changed : FnScope ["self"] ["self"] (defScope sChanged) := ⟨rfl, rfl, rfl, by decide +kernel, rfl, by decide +kernel, by decide +kernel⟩
theorem sc_coming : FnScope ["self"] ["self"] (defScope sComing) := ⟨rfl, rfl, rfl, by decide +kernel, rfl, by decide +kernel, by decide +kernel⟩
/-- a method without arguments that reads the passage -/
def spPass (CP : Addr) (g : List UInt8 → Work → V) : Sp := fun vs H Q _ => ∃ (p la lb : Addr) (k : Nat) (x : List UInt8) (w : Work), vs = [.ref p] ∧ PassAt CP H p la lb k x w ∧ RetV (g x w) H Q
theorem beq_dec (a b : List UInt8) : (a == b) = decide (a = b) := by
  by_cases h : a = b
  · subst h; simp
  · rw [decide_eq_false h]; simpa using h
theorem ok_as_found {f CP : Addr} {fd : FuncData} (F : Fun K "is_as_found" "Passage.is_as_found" sAsFound f fd) (T : TxtPass K CP) : FnOk P w K mg base CX0 1 f fd ["self"] (spPass CP fun x w => .bl (asFound x w)) := by
  refine F.ok sc_as_found (fun vs H Q E h => ?_) (fun cdv A outer s H vs Q E hr h => ⟨_, pss_one (ps_ret (pe_and (pe_fld (pv 0) rfl) (pe_one (pe_cmpR op_eq (pe_fld (pv 0) rfl) (pe_fld (pv 0) rfl) (nomark _))))), ?_⟩)
  · obtain ⟨p, la, lb, k, x, w, rfl, _⟩ := h
    rfl
  · obtain ⟨p, la, lb, k, x, w, rfl, ⟨⟨dx, hp⟩, _⟩, kk⟩ := h
    refine ⟨_, rfl, p, CP, dx, _, _, rfl, hp, T.cl, T.nStays, rfl, _, rfl, ?_⟩
    replace kk : RetV (V.bl (!w.gone && w.x == x)) H Q := kk
    cases hg : w.gone with
    | true =>
      rw [hg] at kk
      exact iteF (kk H (Ex.refl H))
    | false =>
      refine iteT ⟨_, rfl, p, CP, dx, _, _, rfl, hp, T.cl, T.nLine, rfl, _, rfl, p, CP, dx, _, _, rfl, hp, T.cl, T.nFound, rfl, rfl, ?_⟩
      rw [hg, Bool.not_false, Bool.true_and, beq_dec, ← S_dec] at kk
      exact kk H (Ex.refl H)
theorem ok_changed {f CP : Addr} {fd : FuncData} (F : Fun K "is_changed" "Passage.is_changed" sChanged f fd) (T : TxtPass K CP) : FnOk P w K mg base CX0 1 f fd ["self"] (spPass CP fun x w => .bl (changed x w)) := by
  refine F.ok sc_changed (fun vs H Q E h => ?_) (fun cdv A outer s H vs Q E hr h => ⟨_, pss_one (ps_ret (pe_and (pe_fld (pv 0) rfl) (pe_one (pe_cmpR op_ne (pe_fld (pv 0) rfl) (pe_fld (pv 0) rfl) (nomark _))))), ?_⟩)
  · obtain ⟨p, la, lb, k, x, w, rfl, _⟩ := h
    rfl
  · obtain ⟨p, la, lb, k, x, w, rfl, ⟨⟨dx, hp⟩, _⟩, kk⟩ := h
    refine ⟨_, rfl, p, CP, dx, _, _, rfl, hp, T.cl, T.nStays, rfl, _, rfl, ?_⟩
    replace kk : RetV (V.bl (!w.gone && w.x != x)) H Q := kk
    cases hg : w.gone with
    | true =>
      rw [hg] at kk
      exact iteF (kk H (Ex.refl H))
    | false =>
      refine iteT ⟨_, rfl, p, CP, dx, _, _, rfl, hp, T.cl, T.nLine, rfl, _, rfl, p, CP, dx, _, _, rfl, hp, T.cl, T.nFound, rfl, rfl, ?_⟩
      have e : (w.x != x) = !decide (V.str (S w.x) = V.str (S x)) := by
        rw [S_dec, ← beq_dec]
        rfl
      rw [hg, Bool.not_false, Bool.true_and, e] at kk
      exact kk H (Ex.refl H)
def come (w : Work) : Nat := w.pre.length + (if w.gone = true then 0 else 1) + w.post.length
/-- the lines that come of a line -/
def outsL (w : Work) : List V := (outs w.pre ++ (if w.gone = true then [] else [.str (S w.x)])) ++ outs w.post
theorem outsL_len (w : Work) : (outsL w).length = come w := by
  unfold outsL come
  rw [List.length_append, List.length_append, outs_len, outs_len]
  split
  · rfl
  · rfl
def spComing (CP : Addr) : Sp := fun vs H Q _ => ∃ (p la lb : Addr) (k : Nat) (x : List UInt8) (w : Work), vs = [.ref p] ∧ PassAt CP H p la lb k x w ∧ come w ≤ 5000 ∧ RetL (outsL w) H Q
theorem ok_coming {f CP : Addr} {fd : FuncData} (F : Fun K "lines_coming" "Passage.lines_coming" sComing f fd) (T : TxtPass K CP) : FnOk P w K mg base CX0 1 f fd ["self"] (spComing CP) := by
  refine F.ok sc_coming (fun vs H Q E h => ?_) (fun cdv A outer s H vs Q E hr h => ⟨_, pss_one (ps_ret (pe_op op_cat (pe_op op_cat (pe_fld (pv 0) rfl) (pe_ifExp (pt_val (pe_fld (pv 0) rfl)) (pe_lst (pa_cons (pe_fld (pv 0) rfl) pa_nil)) (pe_lst pa_nil))) (pe_fld (pv 0) rfl))), ?_⟩)
  · obtain ⟨p, la, lb, k, x, w, rfl, _⟩ := h
    rfl
  · obtain ⟨p, la, lb, k, x, w, rfl, ⟨⟨dx, hp⟩, ha, hb, _⟩, hc, kk⟩ := h
    unfold come at hc
    have v0 : Ev (tVar 0) (L2.start ["self"] [V.ref p]) H (.ref p) := ev_var rfl
    have f1 := er_v (ev_fld v0 hp T.cl T.nAhead rfl) ha
    have f2 : EvR (tIf (tB (tFld K (tVar 0) "stays")) (tLst (tCons (tFld K (tVar 0) "line") tNil)) (tLst tNil)) (L2.start ["self"] [V.ref p]) H (if w.gone = true then [] else [.str (S w.x)]) := by
      refine er_if (b := !w.gone) (et_B (ev_fld v0 hp T.cl T.nStays rfl)) (fun hg => ?_) (fun hg => ?_)
      · have hg' : w.gone = false := by simpa using hg
        rw [hg', if_neg Bool.false_ne_true]
        exact er_l (el_lst (ea_cons (ev_fld v0 hp T.cl T.nLine rfl) ea_nil) (by show 1 ≤ 100000; decide))
      · have hg' : w.gone = true := by simpa using hg
        rw [hg', if_pos rfl]
        exact er_l (el_lst ea_nil (Nat.zero_le _))
    have f3 := er_v (ev_fld v0 hp T.cl T.nBehind rfl) hb
    have l2 : (if w.gone = true then [] else [V.str (S w.x)]).length ≤ 1 := by
      split
      · exact Nat.zero_le _
      · exact Nat.le_refl _
    exact el_cat (er_l (el_cat f1 f2 (by rw [outs_len]; omega))) f3 (by rw [List.length_append, outs_len, outs_len]; omega) H (Ex.refl H) _ fun q H2 hq e2 h2 => kk q H2 hq e2 h2

/-! ### not_too_long -/
structure TxtRun (K : PySem.W.Frag) (mg : Str → Option Value) (TM : Addr) : Prop where
  ml : Gc mg "MOST_LETTERS_texts" (.int 16)
  mc : Gc mg "MOST_LINES_COMING" (.int 60)
  len : mg "len" = none
  enu : mg "enumerate" = none
  sum : mg "sum" = none
  tm : ErrT K mg "TooMuch" TM
abbrev sNotLong : Stmt := top 39
theorem sc_not_long : FnScope ["line"] ["line"] (defScope sNotLong) := ⟨rfl, rfl, rfl, by decide +kernel, rfl, by decide +kernel, by decide +kernel⟩
def spNotLong (TM : Addr) : Sp := fun vs H Q E => ∃ y : List UInt8, vs = [.str (S y)] ∧ y.length ≤ 100000 ∧ (16 < y.length → ∀ H', Ex H H' → E (.ref TM) none H') ∧ (y.length ≤ 16 → RetV (.str (S y)) H Q)
theorem ok_not_long {f TM : Addr} {fd : FuncData} (F : Fun K "not_too_long" "not_too_long" sNotLong f fd) (T : TxtRun K mg TM) : FnOk P w K mg base (L2.CX P w) 1 f fd ["line"] (spNotLong TM) := by
  refine F.okX sc_not_long (fun vs H Q E h => ?_) (fun cdv A outer s H vs Q E hr h => ⟨_, pss_cons (ps_if (pt_cmpR op_gt (pe_callB call_len_str (by rfl) T.len PySem.boot_len (pa_cons (pv 0) pa_nil)) (pe_gc T.ml) (nomark _)) (pss_one (ps_raise0 T.tm (takes_of rfl rfl rfl rfl))) pss_nil)
    (pss_one (ps_ret (pv 0))), ?_⟩)
  · obtain ⟨y, rfl, _⟩ := h
    rfl
  · obtain ⟨y, rfl, hy, kE, k⟩ := h
    refine ⟨_, rfl, S y, rfl, sizeLine_ge (by rw [S_len]; exact hy), _, _, rfl, rfl, _, rfl, ?_⟩
    rw [S_len]
    by_cases h16 : y.length ≤ 16
    · rw [decide_eq_false (show ¬ (16 : Int) < (y.length : Nat) by omega)]
      exact iteF ⟨_, rfl, k h16 H (Ex.refl H)⟩
    · rw [decide_eq_true (show (16 : Int) < (y.length : Nat) by omega)]
      exact iteT (kE (by omega) H (Ex.refl H))

/-! ### holds -/
/-- an address without its nots, and whether they are even -/
def strip : Vaseda.Addr → Vaseda.Addr
  | .not a => strip a
  | a => a
def even : Vaseda.Addr → Bool
  | .not a => !even a
  | _ => true
def bare : Vaseda.Addr → Prop
  | .not _ => False
  | _ => True
theorem strip_bare : ∀ a : Vaseda.Addr, bare (strip a)
  | .not a => strip_bare a
  | .all => trivial
  | .line _ => trivial
  | .span _ _ => trivial
  | .last => trivial
  | .has _ => trivial
  | .is_ _ => trivial
theorem holds_strip (k : Nat) (last : Bool) (x : List UInt8) : ∀ a : Vaseda.Addr, decide (V.bl (Vaseda.holds k last x (strip a)) = V.bl (even a)) = Vaseda.holds k last x a
  | .not a => by
    have ih := holds_strip k last x a
    show decide (V.bl (Vaseda.holds k last x (strip a)) = V.bl (!even a)) = !Vaseda.holds k last x a
    rw [← ih]
    cases Vaseda.holds k last x (strip a) <;> cases even a <;> rfl
  | .all => rfl
  | .line n => by
    show decide (V.bl (k == n) = V.bl true) = (k == n)
    cases (k == n) <;> rfl
  | .span a b => by
    show decide (V.bl (decide (a ≤ k ∧ k ≤ b)) = V.bl true) = decide (a ≤ k ∧ k ≤ b)
    cases decide (a ≤ k ∧ k ≤ b) <;> rfl
  | .last => by
    show decide (V.bl last = V.bl true) = last
    cases last <;> rfl
  | .has w => by
    show decide (V.bl (Vaseda.hasIn w x) = V.bl true) = Vaseda.hasIn w x
    cases Vaseda.hasIn w x <;> rfl
  | .is_ w => by
    show decide (V.bl (x == w) = V.bl true) = (x == w)
    cases (x == w) <;> rfl
/-- an address as Python's tuple -/
def av : Vaseda.Addr → List V
  | .all => [.str "all"]
  | .line n => [.str "line", .int (n : Nat)]
  | .span a b => [.str "from", .int (a : Nat), .int (b : Nat)]
  | .last => [.str "last"]
  | .has w => [.str "has", .str (S w)]
  | .is_ w => [.str "is", .str (S w)]
  | .not _ => []
abbrev sHolds : Stmt := top 37
theorem sc_holds : FnScope ["address", "passage", "last", "word"] ["address", "passage", "last"] (defScope sHolds) := ⟨rfl, rfl, rfl, by decide +kernel, rfl, by decide +kernel, by decide +kernel⟩
def spHolds (K : PySem.W.Frag) (CP : Addr) : Sp := fun vs H Q _ => ∃ (ta p la lb : Addr) (a : Vaseda.Addr) (k n : Nat) (x : List UInt8) (w : Work), vs = [.ref ta, .ref p, .int (n : Nat)] ∧ bare a ∧ SqT K H ta (av a) ∧ PassAt CP H p la lb k x w ∧ RetV (.bl (Vaseda.holds k (decide (k = n)) w.x a)) H Q
theorem int_dec (a b : Nat) : decide (V.int (a : Nat) = V.int (b : Nat)) = decide (a = b) := by
  by_cases h : a = b
  · subst h; simp
  · rw [decide_eq_false h, decide_eq_false]
    intro z
    have z2 : ((a : Nat) : Int) = (b : Nat) := V.int.inj z
    exact h (by omega)
theorem nat_beq (a b : Nat) : (a == b) = decide (a = b) := by
  by_cases h : a = b
  · subst h; simp
  · rw [decide_eq_false h]; simpa using h
theorem ok_holds {f CP : Addr} {fd : FuncData} (F : Fun K "holds" "holds" sHolds f fd) (T : TxtPass K CP) : FnOk P w K mg base CX0 1 f fd ["address", "passage", "last"] (spHolds K CP) := by
  refine F.ok sc_holds (fun vs H Q E h => ?_) (fun cdv A outer s H vs Q E hr h => ⟨_, pss_cons (ps_set (i := 3) sc_holds.nd rfl (.inl rfl) (pe_ix ix_tup (pv 0) pe_int (fun _ _ => rfl)))
    (pss_cons (ps_if (pt_cmpR op_eq (pv 3) pe_str (nomark _)) (pss_one (ps_ret (pe_cmpR op_eq (pe_fld (pv 1) rfl) (pe_ix ix_tup (pv 0) pe_int (fun _ _ => rfl)) (nomark _)))) pss_nil)
    (pss_cons (ps_if (pt_cmpR op_eq (pv 3) pe_str (nomark _)) (pss_one (ps_ret (pe_chain op_le op_le (pe_ix ix_tup (pv 0) pe_int (fun _ _ => rfl)) (pe_fld (pv 1) rfl) (pe_ix ix_tup (pv 0) pe_int (fun _ _ => rfl))))) pss_nil)
    (pss_cons (ps_if (pt_cmpR op_eq (pv 3) pe_str (nomark _)) (pss_one (ps_ret (pe_cmpR op_eq (pe_fld (pv 1) rfl) (pv 2) (nomark _)))) pss_nil)
    (pss_cons (ps_if (pt_cmpR op_eq (pv 3) pe_str (nomark _)) (pss_one (ps_ret (pe_cmpR op_in_str (pe_ix ix_tup (pv 0) pe_int (fun _ _ => rfl)) (pe_fld (pv 1) rfl) (by rfl)))) pss_nil)
    (pss_cons (ps_if (pt_cmpR op_eq (pv 3) pe_str (nomark _)) (pss_one (ps_ret (pe_cmpR op_eq (pe_fld (pv 1) rfl) (pe_ix ix_tup (pv 0) pe_int (fun _ _ => rfl)) (nomark _)))) pss_nil)
    (pss_one (ps_ret pe_bl))))))), ?_⟩)
  · obtain ⟨ta, p, la, lb, a, k, n, x, w, rfl, _⟩ := h
    rfl
  · obtain ⟨ta, p, la, lb, a, k, n, x, w, rfl, hb, ht, ⟨⟨dx, hp⟩, _⟩, kk⟩ := h
    have kk := kk H (Ex.refl H)
    cases a with
    | not a => exact hb.elim
    | all =>
      refine ⟨_, rfl, ta, _, 0, _, rfl, rfl, ht, rfl, _, rfl, rfl, _, rfl, no ?_⟩
      refine ⟨_, rfl, rfl, _, rfl, no ⟨_, rfl, rfl, _, rfl, no ⟨_, rfl, rfl, _, rfl, no ⟨_, rfl, rfl, _, rfl, no kk⟩⟩⟩⟩
    | line m =>
      refine ⟨_, rfl, ta, _, 0, _, rfl, rfl, ht, rfl, _, rfl, rfl, _, rfl, yes ?_⟩
      refine ⟨_, rfl, p, CP, dx, _, _, rfl, hp, T.cl, T.nNumber, rfl, _, rfl, ta, _, 1, _, rfl, rfl, ht, rfl, rfl, ?_⟩
      rw [int_dec, ← nat_beq]
      exact kk
    | span a b =>
      refine ⟨_, rfl, ta, _, 0, _, rfl, rfl, ht, rfl, _, rfl, rfl, _, rfl, no ⟨_, rfl, rfl, _, rfl, yes ?_⟩⟩
      refine ⟨_, rfl, ta, _, 1, _, rfl, rfl, ht, rfl, _, rfl, p, CP, dx, _, _, rfl, hp, T.cl, T.nNumber, rfl, _, _, rfl, rfl, _, rfl, ?_⟩
      replace kk : Q (.bl (decide (a ≤ k ∧ k ≤ b))) H := kk
      by_cases h1 : a ≤ k
      · rw [decide_eq_true (show ((a : Nat) : Int) ≤ (k : Nat) by omega)]
        refine iteT ⟨_, rfl, ta, _, 2, _, rfl, rfl, ht, rfl, _, _, rfl, rfl, ?_⟩
        have e : decide (a ≤ k ∧ k ≤ b) = decide (((k : Nat) : Int) ≤ (b : Nat)) := by
          congr 1
          apply propext
          constructor <;> intro z <;> omega
        rw [e] at kk
        exact kk
      · rw [decide_eq_false (show ¬ ((a : Nat) : Int) ≤ (k : Nat) by omega)]
        rw [decide_eq_false (fun z => h1 z.1)] at kk
        exact iteF kk
    | last =>
      refine ⟨_, rfl, ta, _, 0, _, rfl, rfl, ht, rfl, _, rfl, rfl, _, rfl, no ⟨_, rfl, rfl, _, rfl, no ⟨_, rfl, rfl, _, rfl, yes ?_⟩⟩⟩
      refine ⟨_, rfl, p, CP, dx, _, _, rfl, hp, T.cl, T.nNumber, rfl, _, rfl, rfl, ?_⟩
      rw [int_dec]
      exact kk
    | has m =>
      refine ⟨_, rfl, ta, _, 0, _, rfl, rfl, ht, rfl, _, rfl, rfl, _, rfl, no ⟨_, rfl, rfl, _, rfl, no ⟨_, rfl, rfl, _, rfl, no ⟨_, rfl, rfl, _, rfl, yes ?_⟩⟩⟩⟩
      refine ⟨_, rfl, ta, _, 1, _, rfl, rfl, ht, rfl, _, rfl, p, CP, dx, _, _, rfl, hp, T.cl, T.nLine, rfl, _, _, rfl, rfl, ?_⟩
      rw [has_is]
      exact kk
    | is_ m =>
      refine ⟨_, rfl, ta, _, 0, _, rfl, rfl, ht, rfl, _, rfl, rfl, _, rfl, no ⟨_, rfl, rfl, _, rfl, no ⟨_, rfl, rfl, _, rfl, no ⟨_, rfl, rfl, _, rfl, no ⟨_, rfl, rfl, _, rfl, yes ?_⟩⟩⟩⟩⟩
      refine ⟨_, rfl, p, CP, dx, _, _, rfl, hp, T.cl, T.nLine, rfl, _, rfl, ta, _, 1, _, rfl, rfl, ht, rfl, rfl, ?_⟩
      rw [S_dec, ← beq_dec]
      exact kk
end LE

/-! LTk: tokens, their fields' values known. -/
namespace LE
open PySem PySem.Spec PyProof.Rows L2 Evl
def PObj (p C dx : Addr) : Heap → Prop := fun h => h.get? p = some (PySem.W.instObj C dx)
def PMap (dx : Addr) (mA : Str → Option Value) : Heap → Prop := fun h => h.Ns1 dx mA
section
variable {P : Program} {w : World} {H : Hp} {h : Heap} {p C dx : Addr} {mA : Str → Option Value}
theorem PObj.ob (q : PObj p C dx h) : ObjOk P w H h p (.ext (PObj p C dx)) := ⟨q, ⟨_, q⟩, fun _ _ z1 z2 => z2 _ z1⟩
theorem PMap.ob (q : PMap dx mA h) : ObjOk P w H h dx (.ext (PMap dx mA)) := by
  obtain ⟨o, es, ep, e, _⟩ := id q
  exact ⟨q, ⟨o, e⟩, fun h1 h2 z1 z2 => Heap.Ns1.at (show h1.Ns1 dx mA from z1) z2⟩
end
/-- an instance of the class at C whose attributes' values are known -/
def ObR (C : Addr) (H : Hp) (p dx : Addr) (mA : Str → Option Value) : Prop := dx ≠ p ∧ H p = some (.ext (PObj p C dx)) ∧ H dx = some (.ext (PMap dx mA))
theorem ObR.ex {C : Addr} {H H' : Hp} {p dx : Addr} {mA : Str → Option Value} (h : ObR C H p dx mA) (e : Ex H H') : ObR C H' p dx mA := ⟨h.1, e _ _ h.2.1, e _ _ h.2.2⟩
theorem ObR.m {P : Program} {w : World} {C : Addr} {H : Hp} {h : Heap} {p dx : Addr} {mA : Str → Option Value} (hok : HOk P w H h) (q : ObR C H p dx mA) : ObjM h p dx C mA := ⟨(hok p _ q.2.1).1, (hok dx _ q.2.2).1, q.1⟩
section
variable {X : Cx} {pins : List (Addr × Obj)} {σ : L2.St} {H : Hp} {s : Shared} {C p dx : Addr} {mA : Str → Option Value} {f : Str}
theorem setR {Q : Unit → Shared → Prop} {u : Value} {ns : List Str} {A : Around} {E : Value → Shared → Prop} (I : Inv X pins σ H s) (q : ObR C H p dx mA) (c : Cls X.K C) (n : NoAttr X.K C f) (hw : PySem.Within mA ns) (hz : ns.length ≤ 1000)
    (h : ∀ s', s.toks ≤ s'.toks → Heap.SameBut dx s.heap s'.heap → Inv X pins σ (upd H dx (.ext (PMap dx fun y => if y = f then some u else mA y))) s' → Q () s') : wpAny (model X.prog X.w) A (setAttr (.ref p) f u) Q E s := by
  have O := q.m I.hok
  refine set_map I.kIn O c.sa c.po n.taker c.hd hw (sizeLine_ge (Nat.le_trans hz (by decide))) fun h' O' sb => h _ (Nat.le_add_right _ 2) sb ?_
  have hd : ∃ o, h'.get? dx = some o := let ⟨o, _, _, e', _⟩ := O'.ns; ⟨o, e'⟩
  exact I.write (x := dx) (e := dx) (by rw [q.2.2]; exact True.intro) (.inl rfl) (fun b o hb z => (sb.2 b hb).trans z) hd (PMap.ob O'.ns)
theorem getR {Q : Value → Shared → Prop} {u : Value} {v : V} {b : Bool} {A : Around} {E : Value → Shared → Prop} (I : Inv X pins σ H s) (q : ObR C H p dx mA) (c : Cls X.K C) (n : NoAttr X.K C f) (hu : mA f = some u) (r : RelV v u)
    (h : Q u { s with toks := s.toks + 1 }) : wpAny (model X.prog X.w) A (getAttr (.ref p) f b) Q E s :=
  get_map I.kIn (q.m I.hok) (c.get f) c.hd n hu (handed_of r) h
theorem Inv.madeR (I : Inv X pins σ H s) : Inv X pins σ (upd (upd H s.heap.objs.size (.ext (PMap s.heap.objs.size fun _ => none))) (s.heap.objs.size + 1) (.ext (PObj (s.heap.objs.size + 1) C s.heap.objs.size)))
    { s with heap := (s.heap.push PySem.W.emptyDict).push (PySem.W.instObj C s.heap.objs.size) } := by
  have z1 : (s.heap.push PySem.W.emptyDict).get? s.heap.objs.size = some PySem.W.emptyDict := Heap.get?_push_size s.heap rfl
  have z2 : ((s.heap.push PySem.W.emptyDict).push (PySem.W.instObj C s.heap.objs.size)).get? (s.heap.objs.size + 1) = some (PySem.W.instObj C s.heap.objs.size) := by
    have q := Heap.get?_push_size (s.heap.push PySem.W.emptyDict) (o := PySem.W.instObj C s.heap.objs.size) rfl
    rwa [Heap.size_push] at q
  have z3 : (s.heap.push PySem.W.emptyDict).Ns s.heap.objs.size (fun _ => none) := ⟨PySem.W.emptyDict, #[], _, z1, rfl, (fun e he => absurd he (by simp)), fun _ => rfl⟩
  have J := I.laid (a := s.heap.objs.size) (o := .ext (PMap s.heap.objs.size fun _ => none)) (h' := s.heap.push PySem.W.emptyDict) (t' := s.toks) (fun b u q => Heap.get?_push_of_some _ q) (Nat.le_refl _) (PMap.ob (Heap.Ns1.of_empty z3))
  exact J.laid (a := s.heap.objs.size + 1) (o := .ext (PObj (s.heap.objs.size + 1) C s.heap.objs.size)) (t' := s.toks) (fun b u q => Heap.get?_push_of_some _ q) (Nat.le_of_eq (Heap.size_push _ _)) (PObj.ob z2)
/-- self.f = x, both locals whose values are known -/
theorem set_step {mL : Str → Option Value} {sn x : Str} {u : Value} {ns : List Str} {p1 p2 pos' pos : Pos} (I : Inv X pins σ H s) (q : ObR C H p dx mA) (c : Cls X.K C) (n : NoAttr X.K C f) (hw : PySem.Within mA ns) (hz : ns.length ≤ 1000)
    (hn : s.heap.Ns X.env.locals mL) (ks : X.env.kindOf sn = some .local) (kx : X.env.kindOf x = some .local) (es : mL sn = some (.ref p)) (ex : mL x = some u) (ds : (sn == ("__debug__" : Str)) = false := by decide) (dxx : (x == ("__debug__" : Str)) = false := by decide)
    (hs : swapsWith (.Name x p2) (some (.Attribute (.Name sn p1) f pos')) pos.line X.env = pure false := by rfl) :
    wpAny (model X.prog X.w) X.A (exec (.Assign [.Attribute (.Name sn p1) f pos'] (.Name x p2) pos) X.env)
      (fun fl s' => fl = .next ∧ s.toks ≤ s'.toks ∧ s'.heap.Ns X.env.locals mL ∧ Inv X pins σ (upd H dx (.ext (PMap dx fun y => if y = f then some u else mA y))) s') X.xe s := by
  refine plainObj_wpAny_Assign_Attribute (wpAny_Name (wpAny_loadName_local I.ok.kind kx hn ex (wpAny_Name (wpAny_loadName_local I.ok.kind ks hn es ?_) ds)) dxx) hs
  refine setR I q c n hw hz fun s' hk sb I' => ⟨rfl, hk, hn.sameBut sb ?_, I'⟩
  intro e
  have z := I.free
  rw [e, q.2.2] at z
  cases z
end
/-! ### Token -/
def tokMap (a b c d : Value) : Str → Option Value := fun y => if y = "behind" then some d else if y = "place" then some c else if y = "value" then some b else if y = "kind" then some a else none
def TokR (CT : Addr) (H : Hp) (p : Addr) (a b c d : Value) : Prop := ∃ dx, ObR CT H p dx (tokMap a b c d)
theorem TokR.ex {CT : Addr} {H H' : Hp} {p : Addr} {a b c d : Value} (h : TokR CT H p a b c d) (e : Ex H H') : TokR CT H' p a b c d := let ⟨dx, q⟩ := h; ⟨dx, q.ex e⟩
structure TxtTok (K : PySem.W.Frag) (CT : Addr) : Prop where
  cl : Cls K CT
  nK : NoAttr K CT "kind"
  nV : NoAttr K CT "value"
  nP : NoAttr K CT "place"
  nB : NoAttr K CT "behind"
abbrev sTokInit : Stmt := inClass (top 56) 0
theorem sc_tok_init : FnScope ["self", "kind", "value", "place", "behind"] ["self", "kind", "value", "place", "behind"] (defScope sTokInit) := ⟨rfl, rfl, rfl, by decide +kernel, rfl, by decide +kernel, by decide +kernel⟩
theorem ObR.set {C : Addr} {H : Hp} {p dx : Addr} {mA mB : Str → Option Value} (q : ObR C H p dx mA) : ObR C (upd H dx (.ext (PMap dx mB))) p dx mB :=
  ⟨q.1, by rw [upd_ne (Ne.symm q.1)]; exact q.2.1, upd_same⟩
theorem within_if {mA : Str → Option Value} {ns : List Str} {f : Str} {u : Value} (h : PySem.Within mA ns) : PySem.Within (fun y => if y = f then some u else mA y) (f :: ns) := fun g hg => by
  by_cases e : g = f
  · subst e; exact List.mem_cons_self
  · refine List.mem_cons_of_mem _ (h g fun z => hg ?_)
    show (if g = f then some u else mA g) = none
    rw [if_neg e]; exact z
theorem tok_init {P : Program} {w : World} {K : PySem.W.Frag} {mg : Str → Option Value} {base : Heap} {f CT : Addr} {fd : FuncData} (F : Fun K "__init__" "Token.__init__" sTokInit f fd) (T : TxtTok K CT) {m : Nat} {A : Around} {outer : List Env} {s : Shared} {H : Hp} {args : Args} {p dx : Addr} {a b c d : Value} {va vb vc vd : V} {Q : Hp → Prop}
    (hm : m ≤ s.toks) (hr : Room 1 A) (e0 : Env0 P w K mg base A outer s H) (hb : BindsTo s fd args ((["self", "kind", "value", "place", "behind"] : List Str).zip [.ref p, a, b, c, d])) (ra : RelV va a) (rb : RelV vb b) (rc : RelV vc c) (rd : RelV vd d)
    (q : ObR CT H p dx fun _ => none) (k : Q (upd H dx (.ext (PMap dx (tokMap a b c d))))) :
    codeAny (model P w) A (.call (.ref f) args) (CRN CX0 outer P w H s (fun u _ m' H' => u = .none ∧ m' = m ∧ Q H') E0) s := by
  refine body_raw (k := 0) (vs := [.ref p, va, vb, vc, vd]) F sc_tok_init rfl hm hr e0 hb (.cons rfl (.cons ra (.cons rb (.cons rc (.cons rd .nil))))) fun cdv s1 hr' hm1 hn I => ?_
  have nd : (["self", "kind", "value", "place", "behind"] : List Str).Nodup := by decide +kernel
  have g : ∀ (i : Nat) (x : Str) (u : Value), (["self", "kind", "value", "place", "behind"] : List Str)[i]? = some x → [Value.ref p, a, b, c, d][i]? = some u → (envOfC "Token.__init__" (defScope sTokInit) s.heap.objs.size f cdv).kindOf x = some .local →
      bindL (envOfC "Token.__init__" (defScope sTokInit) s.heap.objs.size f cdv).kindOf ((["self", "kind", "value", "place", "behind"] : List Str).zip [.ref p, a, b, c, d]) (fun _ => none) x = some u := fun i x u h1 h2 h3 => bindL_get nd h1 h2 h3
  have w0 : PySem.Within (fun _ => none) ([] : List Str) := fun f hf => absurd rfl hf
  have w1 := within_if (f := "kind") (u := a) w0
  have w2 := within_if (f := "value") (u := b) w1
  have w3 := within_if (f := "place") (u := c) w2
  refine wpAny_execs_cons (thn (set_step I q T.cl T.nK w0 (by decide) hn rfl rfl (g 0 "self" _ rfl rfl rfl) (g 1 "kind" _ rfl rfl rfl)) fun fl s2 ⟨e2, k2, n2, I2⟩ => ?_)
  subst e2
  refine wpAny_execs_cons (thn (set_step I2 q.set T.cl T.nV w1 (by decide) n2 rfl rfl (g 0 "self" _ rfl rfl rfl) (g 2 "value" _ rfl rfl rfl)) fun fl s3 ⟨e3, k3, n3, I3⟩ => ?_)
  subst e3
  rw [upd_upd] at I3
  refine wpAny_execs_cons (thn (set_step I3 q.set T.cl T.nP w2 (by decide) n3 rfl rfl (g 0 "self" _ rfl rfl rfl) (g 3 "place" _ rfl rfl rfl)) fun fl s4 ⟨e4, k4, n4, I4⟩ => ?_)
  subst e4
  rw [upd_upd] at I4
  refine wpAny_execs_cons (thn (set_step I4 q.set T.cl T.nB w3 (by decide) n4 rfl rfl (g 0 "self" _ rfl rfl rfl) (g 4 "behind" _ rfl rfl rfl)) fun fl s5 ⟨e5, k5, n5, I5⟩ => ?_)
  subst e5
  rw [upd_upd] at I5
  exact wpAny_execs_nil ⟨m, _, _, Nat.le_trans hm1 (Nat.le_trans k2 (Nat.le_trans k3 (Nat.le_trans k4 k5))), I5, rfl, rfl, k⟩
/-- what the top has written of Token -/
structure TokK (P : Program) (w : World) (K : PySem.W.Frag) (mg : Str → Option Value) (base : Heap) (CT : Addr) : Prop where
  ex : ∃ (f : Addr) (fd : FuncData), Mk K CT f ∧ Fun K "__init__" "Token.__init__" sTokInit f fd ∧ Binds K fd ["self", "kind", "value", "place", "behind"] []
  t : TxtTok K CT
  ge : mg "Token" = some (.ref CT)
section
variable {X : Cx} {CT : Addr} {j m : Nat} {pins : List (Addr × Obj)} {σ : L2.St} {H : Hp} {s : Shared}
theorem run_tok {a b c d : Value} {va vb vc vd : V} {Q : NK} (T : TokK X.prog X.w X.K X.mg X.base CT) (hr : Room j X.A) (hj : 2 ≤ j) (hm : m ≤ s.toks) (I : Inv X pins σ H s) (ra : RelV va a) (rb : RelV vb b) (rc : RelV vc c) (rd : RelV vd d)
    (h : ∀ p H', Ex H H' → H p = none → TokR CT H' p a b c d → Q (.ref p) (.ref p) m H') : wpAny (model X.prog X.w) X.A (call (.ref CT) [a, b, c, d]) (EN X pins σ Q) X.xe s := by
  obtain ⟨f, fd, M, F, B⟩ := T.ex
  have I2 := Inv.madeR (C := CT) I
  generalize hd : s.heap.objs.size = dx at I2
  have nd : H dx = none := I.hok.fresh (Nat.le_of_eq hd)
  have np : H (dx + 1) = none := I.hok.fresh (by omega)
  have q : ObR CT (upd (upd H dx (.ext (PMap dx fun _ => none))) (dx + 1) (.ext (PObj (dx + 1) CT dx))) (dx + 1) dx fun _ => none :=
    ⟨Nat.ne_of_lt (Nat.lt_succ_self dx), upd_same, by rw [upd_ne (Nat.ne_of_lt (Nat.lt_succ_self dx)), upd_same]⟩
  have hr2 : Room 1 (X.A.under (.builtin "type.__call__" ⟨.ref CT :: [a, b, c, d], []⟩)) := (hr.mono hj).make CT [a, b, c, d] []
  have hb := B { s with heap := (s.heap.push PySem.W.emptyDict).push (PySem.W.instObj CT dx) } [.ref (dx + 1), a, b, c, d] I2.kIn rfl
  rw [List.append_nil] at hb
  have run := tok_init (m := m) (s := { s with heap := (s.heap.push PySem.W.emptyDict).push (PySem.W.instObj CT dx) }) (Q := fun H' => Q (.ref (dx + 1)) (.ref (dx + 1)) m H') F T.t hm hr2 (I2.env0.make CT [a, b, c, d] []) hb ra rb rc rd q
    (h (dx + 1) _ (Ex.mut ((Ex.new nd).mut np) nd) np ⟨dx, q.set⟩)
  refine wpAny_call (make_map (f := f) I.kIn M.makes M.init (beq_iff_eq.mp M.fn) ?_)
  rw [hd]
  refine codeAny_mono run fun r s' hq' => ?_
  cases r with
  | error e => exact hq'.elim
  | ok fl =>
    cases fl with
    | ret u =>
      have hq2 : CEN X.stack X.prog X.w _ _ (fun u _ m' H' => u = Value.none ∧ m' = m ∧ Q (Value.ref (dx + 1)) (V.ref (dx + 1)) m H') u s' := hq'
      obtain ⟨v, m', H', hk, I3, rv, eu, em, q3⟩ := LE.Inv.afterN I2 hq2
      subst eu em
      exact ⟨rfl, V.ref (dx + 1), _, H', hk, I3, rfl, q3⟩
    | next => exact False.elim hq'
    | brk => exact False.elim hq'
    | cont => exact False.elim hq'
def nTok (CT : Addr) (t : TA) : NE := fun m σ H Q => t σ H fun vs H1 => ∃ va vb vc vd, vs = [va, vb, vc, vd] ∧ ∀ a b c d p H', RelV va a → RelV vb b → RelV vc c → RelV vd d → Ex H1 H' → H1 p = none → TokR CT H' p a b c d → Q (.ref p) (.ref p) m H'
theorem pen_tok {e : Expr} {es : List Expr} {p pos : Pos} {t : TA} (T : TokK X.prog X.w X.K X.mg X.base CT) (hr : Room j X.A) (ha : PA X (e :: es) t) (hj : 2 ≤ j := by decide) (hg : Gl X "Token" := by rfl)
    (he : starEach (e :: es) X.env = (false, eval e X.env) :: starEach es X.env := by rfl) (hpl : (backTo pos (starEach es X.env)).any (·.1) = false := by rfl) : PEN X (.Call (.Name "Token" p) (e :: es) [] pos) (nTok CT t) := by
  refine ⟨fun m pins s σ H Q hm I h => wpAny_Call_Name_kw (ld_glob I hg T.ge ?_ (by decide))⟩
  obtain ⟨f, fd, M, _⟩ := T.ex
  refine PySem.W.callWith_K (h₀ := X.base) I.ok.mod.kin M.kp (thm hm (ha.run pos pins s σ H _ I h) fun us s1 hk1 ⟨vs, H1, I1, r, va, vb, vc, vd, ev, q⟩ => ⟨I1.kIn, ?_⟩) he hpl
  subst ev
  cases r with
  | cons ra r =>
    cases r with
    | cons rb r =>
      cases r with
      | cons rc r =>
        cases r with
        | cons rd r =>
          cases r
          exact run_tok T hr hj hk1 I1 ra rb rc rd fun p H' e n z => q _ _ _ _ p H' ra rb rc rd e n z
/-- token.f -/
theorem pe_tf {C : Addr} {e : Expr} {f : Str} {pos : Pos} {te : TE} (c : Cls X.K C) (n : NoAttr X.K C f) (he : PE X e te) (hb : attributeBase e f X.env (eval e X.env) = eval e X.env := by rfl) :
    PE X (.Attribute e f pos) (fun σ H Q => te σ H fun x H1 => ∃ p dx mA u v, x = .ref p ∧ ObR C H1 p dx mA ∧ mA f = some u ∧ RelV v u ∧ Q v H1) := by
  refine ⟨fun pins s σ H Q I h => attr_of hb (thn (he.run pins s σ H _ I h) fun u0 s1 ⟨x, H1, I1, rx, p, dx, mA, u, v, ex, eo, eu, ru, q⟩ => ?_)⟩
  subst ex
  cases rx
  exact getR I1 eo c n eu ru ⟨v, H1, I1.tok _, ru, q⟩
theorem pen_tf {C : Addr} {e : Expr} {f : Str} {pos : Pos} {te : TE} (c : Cls X.K C) (n : NoAttr X.K C f) (he : PE X e te) (hb : attributeBase e f X.env (eval e X.env) = eval e X.env := by rfl) :
    PEN X (.Attribute e f pos) (fun m σ H Q => te σ H fun x H1 => ∃ p dx mA u v, x = .ref p ∧ ObR C H1 p dx mA ∧ mA f = some u ∧ RelV v u ∧ Q u v m H1) := by
  refine ⟨fun m pins s σ H Q hm I h => attr_of hb (thm hm (he.run pins s σ H _ I h) fun u0 s1 hk ⟨x, H1, I1, rx, p, dx, mA, u, v, ex, eo, eu, ru, q⟩ => ?_)⟩
  subst ex
  cases rx
  exact getR I1 eo c n eu ru ⟨v, m, H1, Nat.le_succ_of_le hk, I1.tok _, ru, q⟩
end
end LE

/-! LF: Fault, an own error over Exception with two fields. -/
namespace PySem
namespace FLT
open PySem.W PySem.Calls PyProof.Rows PySem.HandSPX PySem.OEX
abbrev exTl : List Value := [.type "Exception", .type "BaseException", .type "object"]
section
open Builtin Builtin.ObjectAttr
variable {prog : Program} {w : World} {A : Around} {E : Value → Shared → Prop} {R : Result → Shared → Prop} {hp : Heap} {ga : Array GenState} {dr : Drawn} {tks : Nat} {osS : OsState}
theorem passes_ex (self : Value) (C : Addr) : refuseLoop self "__setattr__" (.ref C :: exTl) = pure () := by
  rw [refuseLoop_ref]
  exact F.store_Exception.passes self
/-- an exception of such a class without a dict gets its first field -/
theorem osa_fst {Kf : W.Frag} {fn : Str} {tk : Tok} {u : Value} {x C : Addr} {fv : Array Value} {cd : ClassData} (X : Kf.In hp) (hx : hp.get? x = some { cls := .ref C, data := .fields fv }) (hcd : W.clsIn Kf C = some cd) (hm : cd.mro = .ref C :: exTl) (hh : cd.hasDict = true) (ha : W.findIn Kf (.ref C) fn = some none)
    (hq : ∀ h' tk' dx, (∀ b o, b ≠ x → hp.get? b = some o → h'.get? b = some o) → hp.objs.size ≤ dx → dx ≠ x → h'.get? x = some { cls := .ref C, dict := some dx, data := .fields fv } → h'.Ns1 dx (fun y => if y = fn then some u else none) → R (.ok (.ret .none)) ⟨h', ga, dr, tk', osS⟩) :
    codeAny (model prog w) A (.call (.builtin "object.__setattr__") ⟨[.ref x, .str fn tk, u], []⟩) R ⟨hp, ga, dr, tks, osS⟩ := by
  have J : W.InstAt hp x { cls := .ref C, data := .fields fv } C none := ⟨hx, rfl, rfl, trivial⟩
  have ST := F.store_object
  have hxs : x ≠ hp.objs.size := Nat.ne_of_lt (Heap.lt_size hx)
  have hob : cd.mro.contains (.type "object") = true := by rw [hm]; rfl
  have isob : W.Looks (model prog w) hp (isInstance (.ref x) (.type "object")) true := J.type.andThen (W.looks_mroIn X (by unfold W.mroIn; rw [hcd, Option.bind_some, if_neg (by rw [hm]; simp), hob]))
  refine codeAny_call_builtin ST.slot.plain ST.entry (@W.check_slot (model prog w) _ _ ⟨hp, ga, dr, tks, osS⟩ "object.__setattr__" "object" "__setattr__" (.ref x) [.str fn tk, u] [] _ ST.kind ST.split isob (ST.args (.ref x) (.str fn tk) u) ?_)
  have lm : W.Looks (model prog w) hp (mroOf (.ref C)) cd.mro := (W.looks_clsIn X hcd).andThen .now
  have lt : W.Looks (model prog w) hp (storeTaker? none) none := .now
  have lc : W.Looks (model prog w) hp (classData C) cd := W.looks_clsIn X hcd
  rw [W.osa_eq, refuse_eq]
  refine wpAny_bind (wpAny_bind (J.type.at (wpAny_bind (lm.at ?_))))
  rw [hm, passes_ex]
  refine wpAny_pure (wpAny_bind (J.type.at (wpAny_bind ((W.looks_findIn X ha).at (wpAny_bind (lt.at ?_))))))
  show wpAny _ _ (storeInOwnDict (.ref x) (.ref C) (.str fn tk) fn u false) _ _ _
  obtain ⟨c1, c2, c3, c4, c5, c6, c7, c8, c9, c10, c11⟩ := cd
  dsimp only at hh
  subst hh
  unfold storeInOwnDict ownDictForStores
  repeat (first | with_reducible refine store_in_new ?_ ?_ | with_reducible refine wpAny_loadPart_at hx ?_ | with_reducible refine lc.at ?_ | wp_step)
  · exact ⟨_, #[], _, (Heap.get?_update_ne _ _ _ _ hxs.symm).trans (Heap.get?_push_at rfl rfl), rfl, fun z hz => absurd hz (by simp), fun _ => rfl⟩
  · intro h' tk' hn' hs
    have hx1 := Heap.get?_push_of_some ({ cls := .type "dict", data := .dict #[] } : Obj) hx
    refine hq h' tk' hp.objs.size (fun b o hb ho => ?_) (Nat.le_refl _) hxs.symm ?_ hn'
    · exact (hs.2 b (Nat.ne_of_lt (Heap.lt_size ho))).trans ((Heap.get?_update_ne _ _ _ _ hb).trans (Heap.get?_push_of_some _ ho))
    · exact (hs.2 x hxs).trans (Heap.get?_update_self _ hx1 rfl)
/-- .. a further one -/
theorem osa_more {Kf : W.Frag} {fn : Str} {tk : Tok} {u : Value} {x C dx : Addr} {fv : Array Value} {cd : ClassData} {m0 : Str → Option Value} {nl : List Str} (X : Kf.In hp) (hx : hp.get? x = some { cls := .ref C, dict := some dx, data := .fields fv }) (hns : hp.Ns1 dx m0) (hw : Within m0 nl) (hz : nl.length ≤ 1000)
    (hcd : W.clsIn Kf C = some cd) (hm : cd.mro = .ref C :: exTl) (hh : cd.hasDict = true) (ha : W.findIn Kf (.ref C) fn = some none)
    (hq : ∀ h' tk', (∀ b o, b ≠ dx → hp.get? b = some o → h'.get? b = some o) → h'.Ns1 dx (fun y => if y = fn then some u else m0 y) → R (.ok (.ret .none)) ⟨h', ga, dr, tk', osS⟩) :
    codeAny (model prog w) A (.call (.builtin "object.__setattr__") ⟨[.ref x, .str fn tk, u], []⟩) R ⟨hp, ga, dr, tks, osS⟩ := by
  obtain ⟨oD, e1, e2, hoD, hdD, _⟩ := hns.count hw
  have J : W.InstAt hp x { cls := .ref C, dict := some dx, data := .fields fv } C (some oD) := ⟨hx, rfl, rfl, hoD⟩
  have ST := F.store_object
  have hob : cd.mro.contains (.type "object") = true := by rw [hm]; rfl
  have isob : W.Looks (model prog w) hp (isInstance (.ref x) (.type "object")) true := J.type.andThen (W.looks_mroIn X (by unfold W.mroIn; rw [hcd, Option.bind_some, if_neg (by rw [hm]; simp), hob]))
  refine codeAny_call_builtin ST.slot.plain ST.entry (@W.check_slot (model prog w) _ _ ⟨hp, ga, dr, tks, osS⟩ "object.__setattr__" "object" "__setattr__" (.ref x) [.str fn tk, u] [] _ ST.kind ST.split isob (ST.args (.ref x) (.str fn tk) u) ?_)
  have lm : W.Looks (model prog w) hp (mroOf (.ref C)) cd.mro := (W.looks_clsIn X hcd).andThen .now
  have lt : W.Looks (model prog w) hp (storeTaker? none) none := .now
  have lc : W.Looks (model prog w) hp (classData C) cd := W.looks_clsIn X hcd
  rw [W.osa_eq, refuse_eq]
  refine wpAny_bind (wpAny_bind (J.type.at (wpAny_bind (lm.at ?_))))
  rw [hm, passes_ex]
  refine wpAny_pure (wpAny_bind (J.type.at (wpAny_bind ((W.looks_findIn X ha).at (wpAny_bind (lt.at ?_))))))
  show wpAny _ _ (storeInOwnDict (.ref x) (.ref C) (.str fn tk) fn u false) _ _ _
  obtain ⟨c1, c2, c3, c4, c5, c6, c7, c8, c9, c10, c11⟩ := cd
  dsimp only at hh
  subst hh
  unfold storeInOwnDict ownDictForStores
  repeat (first | with_reducible refine store_in_old hns hw hz ?_ | with_reducible refine wpAny_loadPart_at hx ?_ | with_reducible refine lc.at ?_ | wp_step)
  intro h' tk' hn' hs
  exact hq h' tk' (fun b o hb ho => (hs.2 b hb).trans ho) hn'
end
end FLT
end PySem
namespace LE
open PySem PySem.Spec PyProof.Rows L2
/-- what the written part says of the class -/
structure FltC (K : PySem.W.Frag) (C : Addr) : Prop where
  cls : ∃ nm q N bs sn sub ab col dd k0 k1 k2 k3 k5, K.lookup C = some (excClassObj nm q C N bs PySem.FLT.exTl true sn sub ab col dd k0 k1 k2 k3 k5 "Exception.__new__")
  sa : PySem.W.findIn K (.ref C) "__setattr__" = some (some (.builtin "object.__setattr__"))
  exC : PySem.W.subIn K (.ref C) (.type "BaseException") = some true
  tyC : PySem.W.typeIn K (.ref C) = some (.type "type")
  kC : PySem.W.keepIn K (.ref C) = true
section
variable {X : Cx} {pins : List (Addr × Obj)} {σ : L2.St} {H : Hp} {s : Shared} {a C dx : Addr} {fn : Str} {y : V} {u : Value} {fs : List (Str × V)} {Q : Unit → Shared → Prop} {E : Value → Shared → Prop} {A : Around}
theorem flt_new (T : FltC X.K C) (I : Inv X pins σ H s) (e : H a = some (exo a C none)) (hno : PySem.W.findIn X.K (.ref C) fn = some none) (ry : RelV y u)
    (h : ∀ dx s', H dx = none → dx ≠ a → Inv X pins σ (upd (upd H dx (exd dx [(fn, y)])) a (exo a C (some dx))) s' → Q () s') : wpAny (model X.prog X.w) A (setAttr (.ref a) fn u) Q E s := by
  obtain ⟨nm, q, N, bs, sn, sub, ab, col, dd, k0, k1, k2, k3, k5, hC⟩ := T.cls
  have hcl : PySem.W.clsIn X.K C = some { name := nm, bases := bs, mro := .ref C :: PySem.FLT.exTl, ns := N, qualname := q, hasDict := true, slotNames := sn, subclasses := sub, abstract := ab, collection := col, hasDel := false } := by unfold PySem.W.clsIn; rw [hC] <;> rfl
  obtain ⟨t1, ho⟩ := exo_at I.hok e
  obtain ⟨hp, ga, dr, tks, osS⟩ := s
  refine PySem.W.set_plain I.kIn (ox := { cls := .ref C, dict := none, data := .fields #[.ref t1, .none, .none, .none, .bool false, .none] }) (od := none) ⟨ho, rfl, rfl, trivial⟩ T.sa ?_
  refine PySem.FLT.osa_fst I.kIn ho hcl rfl rfl hno fun h' tk' dx k dn dne hx hn => ?_
  have nH : H dx = none := I.hok.fresh dn
  have nd : ∀ {b : Addr} {o : Obj}, hp.get? b = some o → b ≠ dx := fun {b o} z => Nat.ne_of_lt (Nat.lt_of_lt_of_le (Heap.lt_size z) dn)
  have na : ∀ {b : Addr}, H b = none → b ≠ a := fun {b} n z => by
    rw [z, e] at n
    cases n
  refine h dx _ nH dne (I.un (t' := tk') ⟨fun b o z n _ _ => k b o (na n) z, fun b o z n _ _ => ⟨o.slots, k b o (na n) z⟩, fun b o z n _ => ?_, fun b o z _ => ?_, fun b xs z => ?_, fun b o v z => ?_, fun b ps z => ⟨#[], ?_⟩⟩ fun b o z => ?_)
  · rw [upd_ne (na n), upd_ne (nd z)]
    exact n
  · by_cases hb : b = a
    · subst hb
      exact ⟨_, hx⟩
    · exact ⟨o, k b o hb z⟩
  · rw [upd_ne (at_ne e z exo_tup), upd_ne (ne_of_none z nH)]
    exact z
  · rw [upd_ne (at_ne e z exo_frz), upd_ne (ne_of_none z nH)]
    exact z
  · rw [upd_ne (at_ne e z exo_tbl), upd_ne (ne_of_none z nH), z]
    simp
  · by_cases hb : b = a
    · subst hb
      rw [upd_same] at z
      cases z
      exact exo_ok hx
    · rw [upd_ne hb] at z
      by_cases hd : b = dx
      · subst hd
        rw [upd_same] at z
        cases z
        exact exd_ok hn (relO_put (fs := []) ry fun g => True.intro)
      · rw [upd_ne hd] at z
        refine (I.hok b o z).stay (fun c v hc q => k c v ?_ q) (fun c hc => ?_) fun c xs hc => ?_
        · exact hc.elim (fun hc => by rw [hc]; exact hb) fun hc => at_ne e hc exo_own
        · rw [upd_ne (at_ne e hc exo_own), upd_ne (ne_of_none hc nH)]
          exact hc
        · rw [upd_ne (at_ne e hc exo_tup), upd_ne (ne_of_none hc nH)]
          exact hc
theorem flt_old (T : FltC X.K C) (I : Inv X pins σ H s) (e : H a = some (exo a C (some dx))) (ed : H dx = some (exd dx fs)) (hl : fs.length ≤ 900) (hno : PySem.W.findIn X.K (.ref C) fn = some none) (ry : RelV y u)
    (h : ∀ s', Inv X pins σ (upd H dx (exd dx ((fn, y) :: fs))) s' → Q () s') : wpAny (model X.prog X.w) A (setAttr (.ref a) fn u) Q E s := by
  obtain ⟨nm, q, N, bs, sn, sub, ab, col, dd, k0, k1, k2, k3, k5, hC⟩ := T.cls
  have hcl : PySem.W.clsIn X.K C = some { name := nm, bases := bs, mro := .ref C :: PySem.FLT.exTl, ns := N, qualname := q, hasDict := true, slotNames := sn, subclasses := sub, abstract := ab, collection := col, hasDel := false } := by unfold PySem.W.clsIn; rw [hC] <;> rfl
  obtain ⟨t1, ho⟩ := exo_at I.hok e
  obtain ⟨mA, hns, rel⟩ := exd_at I.hok ed
  have hw := within_of rel
  obtain ⟨hp, ga, dr, tks, osS⟩ := s
  obtain ⟨oD, _, _, hoD, _, _⟩ := hns.count hw
  refine PySem.W.set_plain I.kIn (ox := { cls := .ref C, dict := some dx, data := .fields #[.ref t1, .none, .none, .none, .bool false, .none] }) (od := some oD) ⟨ho, rfl, rfl, hoD⟩ T.sa ?_
  refine PySem.FLT.osa_more I.kIn ho hns hw (by rw [List.length_map]; omega) hcl rfl rfl hno fun h' tk' k hn => ?_
  obtain ⟨od, _, _, e', _⟩ := id hn
  exact h _ (I.write (t' := tk') (x := dx) (e := dx) (o := exd dx ((fn, y) :: fs)) (by rw [ed]; exact True.intro) (.inl rfl) k ⟨od, e'⟩ (exd_ok hn (relO_put ry rel)))
end
def sFlt (K : PySem.W.Frag) (fn : Str) (to te : TE) : TS := fun D σ H => te σ H fun y H1 => to σ H1 fun x H2 => ∃ a C : Addr, x = .ref a ∧ FltC K C ∧ PySem.W.findIn K (.ref C) fn = some none ∧
  ((H2 a = some (exo a C none) ∧ ∀ dx, H2 dx = none → dx ≠ a → D.nx σ (upd (upd H2 dx (exd dx [(fn, y)])) a (exo a C (some dx)))) ∨
    ∃ (dx : Addr) (fs : List (Str × V)), H2 a = some (exo a C (some dx)) ∧ H2 dx = some (exd dx fs) ∧ fs.length ≤ 900 ∧ D.nx σ (upd H2 dx (exd dx ((fn, y) :: fs))))
theorem ps_flt {X : Cx} {o e : Expr} {fn : Str} {to te : TE} {p' pos : Pos} (ho : PE X o to) (he : PE X e te) (hs : swapsWith e (some (.Attribute o fn p')) pos.line X.env = pure false := by rfl) : PS X (.Assign [.Attribute o fn p'] e pos) (sFlt X.K fn to te) := by
  refine ⟨fun pins s σ H D I h => plainObj_wpAny_Assign_Attribute (thn (he.run pins s σ H _ I h) fun v s1 ⟨y, H1, I1, r1, q1⟩ => thn (ho.run pins s1 σ H1 _ I1 q1) fun u s2 ⟨x, H2, I2, r2, a, C, ex, T, hno, q⟩ => ?_) hs⟩
  subst ex
  cases r2
  rcases q with ⟨ea, q⟩ | ⟨dx, fs, ea, ed, hl, q⟩
  · exact flt_new T I2 ea hno r1 fun dx s' n ne J => ⟨σ, _, J, q dx n ne⟩
  · exact flt_old T I2 ea ed hl hno r1 fun s' J => ⟨σ, _, J, q⟩
abbrev sFltInit : Stmt := inClass (top 6) 0
theorem sc_flt_init : FnScope ["self", "code", "place"] ["self", "code", "place"] (defScope sFltInit) := ⟨rfl, rfl, rfl, by decide +kernel, rfl, by decide +kernel, by decide +kernel⟩
/-- what the top has written of Fault -/
structure FltT (K : PySem.W.Frag) (mg : Str → Option Value) (CF : Addr) : Prop where
  c : FltC K CF
  ge : mg "Fault" = some (.ref CF)
  nC : PySem.W.findIn K (.ref CF) "code" = some none
  nP : PySem.W.findIn K (.ref CF) "place" = some none
  xf : XfC K CF
  ex : ∃ (f : Addr) (fd : FuncData), Fun K "__init__" "Fault.__init__" sFltInit f fd ∧ PySem.W.findIn K (.ref CF) "__init__" = some (some (.ref f)) ∧ PySem.W.typeIn K (.ref f) = some (.type "function") ∧ Binds K fd ["self", "code", "place"] []
section
variable {P : Program} {w : World} {K : PySem.W.Frag} {mg : Str → Option Value} {base : Heap}
/-- the fields of a fault -/
def fltF (c p : V) : List (Str × V) := [("place", p), ("code", c)]
def spFltInit (CF : Addr) : Sp := fun vs H Q _ => ∃ (a : Addr) (c p : V), vs = [.ref a, c, p] ∧ H a = some (exo a CF none) ∧ ∀ dx, H dx = none → dx ≠ a → Q .non (upd (upd (upd H dx (exd dx [("code", c)])) a (exo a CF (some dx))) dx (exd dx (fltF c p)))
theorem ok_flt_init {CF f : Addr} {fd : FuncData} (F : Fun K "__init__" "Fault.__init__" sFltInit f fd) (T : FltT K mg CF) : FnOk P w K mg base CX0 1 f fd ["self", "code", "place"] (spFltInit CF) := by
  refine F.ok sc_flt_init (fun vs H Q E h => ?_) (fun cdv A outer s H vs Q E hr h => ⟨_, pss_cons (ps_flt (pv 0) (pv 1)) (pss_one (ps_flt (pv 0) (pv 2))), ?_⟩)
  · obtain ⟨a, c, p, rfl, _⟩ := h
    rfl
  · obtain ⟨a, c, p, rfl, ha, k⟩ := h
    refine ⟨_, rfl, _, rfl, a, CF, rfl, T.c, T.nC, .inl ⟨ha, fun dx n ne => ?_⟩⟩
    refine ⟨_, rfl, _, rfl, a, CF, rfl, T.c, T.nP, .inr ⟨dx, _, upd_same, by rw [upd_ne ne, upd_same], by show 1 ≤ 900; decide, k dx n ne⟩⟩
end
/-- Fault(e, ..) -/
def tMkF (CF : Addr) (ta : TA) : L2.St → Hp → XK → Prop := fun σ H Q => ta σ H fun vs H1 => ∃ c p, vs = [c, p] ∧ ∀ d, H1 d = none → Q (.ref CF) (some d) (upd H1 d (.xd (fltF c p)))
theorem pmk_flt {X : Cx} {CF : Addr} {j : Nat} {e : Expr} {es : List Expr} {ta : TA} {p pos : Pos} (T : FltT X.K X.mg CF) (hr : Room j X.A) (ha : PA X (e :: es) ta) (hj : 2 ≤ j := by decide) (hg : Gl X "Fault" := by rfl)
    (he : starEach (e :: es) X.env = (false, eval e X.env) :: starEach es X.env := by rfl) (hpl : (backTo pos (starEach es X.env)).any (·.1) = false := by rfl) : PMk X (.Call (.Name "Fault" p) (e :: es) [] pos) (tMkF CF ta) := by
  intro pins s σ H Q I h
  obtain ⟨nm, q, N, bs, sn, sub, ab, col, dd, k0, k1, k2, k3, k5, hC⟩ := T.c.cls
  obtain ⟨fI, fd, F, iC, tI, B⟩ := T.ex
  have F1 := ok_flt_init (P := X.prog) (w := X.w) (base := X.base) F T
  refine wpAny_Call_Name_kw (ld_glob I hg T.ge ?_ (by decide))
  refine PySem.W.callWith_K (h₀ := X.base) I.ok.mod.kin T.c.kC (thn (ha.run pos pins s σ H _ I h) fun us s1 ⟨vs, H1, I1, r1, c, pl, ev, q1⟩ => ⟨I1.kIn, ?_⟩) he hpl
  show wpAny _ _ (call (.ref CF) us) _ _ _
  subst ev
  obtain ⟨hp, ga, dr, tks, osS⟩ := s1
  generalize hn : hp.objs.size + 1 = a
  have hsz : hp.objs.size ≤ a := by rw [← hn]; exact Nat.le_succ _
  have nA : H1 a = none := I1.hok.fresh hsz
  have kk : ∀ b o, hp.get? b = some o → ((hp.push (PySem.W.kdv_tup us)).push (PySem.HandSPX.excO CF hp.objs.size)).get? b = some o := fun b o z => Heap.get?_push_of_some _ (Heap.get?_push_of_some _ z)
  have hget : ((hp.push (PySem.W.kdv_tup us)).push (PySem.HandSPX.excO CF hp.objs.size)).get? a = some (PySem.HandSPX.excO CF hp.objs.size) := by
    rw [← hn]
    heap_get
  have I2 : Inv X pins σ (upd H1 a (exo a CF none)) ⟨(hp.push (PySem.W.kdv_tup us)).push (PySem.HandSPX.excO CF hp.objs.size), ga, dr, tks, osS⟩ :=
    I1.laid (t' := tks) (o := exo a CF none) kk hsz (exo_ok hget)
  have r2 : Vals [V.ref a, c, pl] (Value.ref a :: us) := .cons rfl r1
  have hl : (Value.ref a :: us).length = 3 := by rw [← r2.length]; rfl
  have hus : us.length ≤ sizeLine := by
    rw [← Paired.length r1]
    exact sizeLine_ge (by show 2 ≤ 100000; decide)
  have hb := B ⟨(hp.push (PySem.W.kdv_tup us)).push (PySem.HandSPX.excO CF hp.objs.size), ga, dr, tks, osS⟩ (Value.ref a :: us) I2.kIn (by rw [List.append_nil]; exact hl)
  rw [List.append_nil] at hb
  have hsp : spFltInit CF [V.ref a, c, pl] (upd H1 a (exo a CF none)) (fun v H2 => v = .non ∧ ∃ (d : Addr) (fs : List (Str × V)), H2 a = some (exo a CF (some d)) ∧ H2 d = some (exd d fs) ∧ H1 d = none ∧ Q (.ref CF) (some d) (upd (L2.del H2 a) d (.xd fs))) (fun _ _ _ => False) := by
    refine ⟨a, c, pl, rfl, upd_same, fun dx n ne => ⟨rfl, dx, fltF c pl, ?_, upd_same, ?_, ?_⟩⟩
    · rw [upd_ne (Ne.symm ne), upd_same]
    · rw [upd_ne ne] at n
      exact n
    · rw [upd_ne ne] at n
      have z := q1 dx n
      have e2 : upd (L2.del (upd (upd (upd (upd H1 a (exo a CF none)) dx (exd dx [("code", c)])) a (exo a CF (some dx))) dx (exd dx (fltF c pl))) a) dx (.xd (fltF c pl)) = upd H1 dx (.xd (fltF c pl)) := by
        funext b
        by_cases h1 : b = dx
        · subst h1
          rw [upd_same, upd_same]
        · rw [upd_ne h1, upd_ne h1]
          by_cases h2 : b = a
          · subst h2
            rw [L2.del_same, nA]
          · rw [L2.del_ne h2, upd_ne h1, upd_ne h2, upd_ne h1, upd_ne h2]
      rw [e2]
      exact z
  have hr2 : Room 1 (X.A.under (.builtin "type.__call__" ⟨.ref CF :: us, []⟩)) := (hr.mono hj).make CF us []
  have run := F1.run _ X.stack _ _ ⟨Value.ref a :: us, []⟩ (Value.ref a :: us) [V.ref a, c, pl] _ (fun _ _ _ => False) hr2 (I2.env0.make CF us []) hb r2 hsp
  refine wpAny_call (PySem.HandSPX.call_own PySem.F.excBase_Exception (fun _ => rfl) (I1.kIn _ _ hC) (PySem.W.looks_findIn I1.kIn iC) (fun self => PySem.W.bind_fn I1.kIn self tI) hus ?_)
  rw [hn]
  refine codeAny_mono run fun r s' hq' => ?_
  cases r with
  | error er => exact hq'.elim
  | ok fl =>
    cases fl with
    | ret u =>
      obtain ⟨v, H2, os2, bare2, un2, hok2, rv, ev, d, fs, ea, ed, hd1, q2⟩ := hq'
      subst ev
      obtain ⟨h2, g2, d2, t2, os'⟩ := s'
      exact ⟨rv, mk_end (raises_own T.c.exC T.c.tyC) I1 hsz kk un2 hok2 os2 bare2 ea ed hd1 q2⟩
    | next => exact False.elim hq'
    | brk => exact False.elim hq'
    | cont => exact False.elim hq'
/-- raise Fault(e, ..) in a def that raises -/
theorem ps_flt_raise {X : Cx} {CF : Addr} {j : Nat} {e : Expr} {es : List Expr} {ta : TA} {p pos pos2 : Pos} {EE : XK} (T : FltT X.K X.mg CF) (hr : Room j X.A) (tk : Takes X (fun cls d _ H => EE cls d H)) (ha : PA X (e :: es) ta) (hj : 2 ≤ j := by decide) (hc : X.calm = true := by rfl) (hg : Gl X "Fault" := by rfl)
    (he : starEach (e :: es) X.env = (false, eval e X.env) :: starEach es X.env := by rfl) (hpl : (backTo pos (starEach es X.env)).any (·.1) = false := by rfl) : PS X (.Raise (some (.Call (.Name "Fault" p) (e :: es) [] pos)) none pos2) (fun _ σ H => tMkF CF ta σ H fun cls d H' => EE cls d H') :=
  ps_raise hc tk (pmk_flt T hr ha hj hg he hpl)
end LE

/-! LW: a word's token. -/
namespace LE
open PySem PySem.Spec PyProof.Rows L2 Evl
open VasedBase (isLetter isDigit Tok PTok)
section
variable {X : Cx} {pins : List (Addr × Obj)} {σ : L2.St} {H : Hp} {s : Shared}
/-- a local is stored: its value itself is known behind it -/
theorem store_raw {M : Model} {A : Around} {E : Value → Shared → Prop} {i : Nat} {x : Str} {v : V} {u : Value} {Q : Unit → Shared → Prop} (I : Inv X pins σ H s) (nd : X.N.Nodup) (hi : X.N[i]? = some x) (hx : X.env.kindOf x = some .local) (r : RelV v u)
    (h : ∀ s' m', s.toks ≤ s'.toks → Inv X pins (σ.set i (some v)) H s' → s'.heap.Ns X.env.locals m' → m' x = some u → Q () s') : wpAny M A (storeName X.env x u) Q E s := by
  obtain ⟨mp, hn, hl⟩ := id I.loc
  have iσ : i < σ.length := by rw [I.len]; exact (List.getElem?_eq_some_iff.mp hi).1
  have hcls : (X.env.scope.kind == .class || (X.env.scope.kind == .module && X.env.locals != X.env.globals)) = false := by rw [I.ok.kind]; rfl
  refine wpAny_storeName_local hx hn (fun h' hn' hs => h _ _ (Nat.le_succ _) ?_ hn' (by simp)) hcls
  have cne := I.cne
  have low : ∀ {b : Addr} {o : Obj}, X.s_0.heap.get? b = some o → b ≠ X.env.locals := fun {b o} z => Nat.ne_of_lt (Nat.lt_of_lt_of_le (Heap.lt_size z) I.ok.above)
  refine ⟨I.ok, I.os, I.bare, ⟨fun b o e n hb hx => (hs.2 b (low e)).trans (I.base.keep b o e n hb hx), fun b o e n hb hx => ?_, I.base.free, fun b o e hx => ?_, I.base.tups, I.base.frzs, I.base.tbls⟩, ⟨_, hn', fun j y v' e1 e2 e3 => ?_⟩, fun y c e => ?_, I.free, I.freeC, fun p hp => ?_, fun b ob e => ?_, by simpa using I.len⟩
  · obtain ⟨sl, z⟩ := I.base.slot b o e n hb hx
    exact ⟨sl, (hs.2 b (low e)).trans z⟩
  · obtain ⟨o', z⟩ := I.base.there b o e hx
    exact ⟨o', (hs.2 b (low e)).trans z⟩
  · by_cases hj : j = i
    · subst hj
      rw [hi] at e1
      cases e1
      rw [List.getElem?_set_self iσ] at e2
      cases e2
      exact ⟨u, r, .inl ⟨hx, by simp⟩⟩
    · rw [List.getElem?_set_ne (Ne.symm hj)] at e2
      obtain ⟨u', r', q⟩ := hl j y v' e1 e2 e3
      refine ⟨u', r', q.imp (fun ⟨k, e⟩ => ⟨k, ?_⟩) fun ⟨k, c, e, z⟩ => ⟨k, c, e, z.sameBut hs (cne y c e)⟩⟩
      have ne : y ≠ x := fun e => hj (nodup_ix nd e1 (e ▸ hi))
      simp [ne, e]
  · obtain ⟨z, q⟩ := I.cell y c e
    exact ⟨z, q.sameBut hs (cne y c e)⟩
  · obtain ⟨e, n, ne, nf, d⟩ := I.pin p hp
    exact ⟨(hs.2 p.1 ne).trans e, n, ne, nf, d⟩
  · refine (I.hok b ob e).stay (fun c o' hc q => (hs.2 c ?_).trans q) (fun _ q => q) fun _ _ q => q
    rintro rfl
    have nf := I.free
    rcases hc with rfl | hc
    · rw [nf] at e; cases e
    · rw [nf] at hc; cases hc
/-- a name's value is known -/
theorem ld_known {E : Value → Shared → Prop} {mp : Str → Option Value} {x : Str} {u : Value} {pos : Pos} {Q : Value → Shared → Prop} (I : Inv X pins σ H s) (hn : s.heap.Ns X.env.locals mp) (hk : X.env.kindOf x = some .local) (hx : mp x = some u) (q : Q u s)
    (hd : (x == ("__debug__" : Str)) = false := by decide) : wpAny (model X.prog X.w) X.A (eval (.Name x pos) X.env) Q E s := wpAny_Name (wpAny_loadName_local I.ok.kind hk hn hx q) hd
end
theorem pssN_word {X : Cx} {CT W : Addr} {j i ip ib : Nat} {e : Expr} {te : NE} {xs : List V} {p1 p2 p3 p4 p5 p6 p7 p8 p9 p10 p11 p12 : Pos} (T : TokK X.prog X.w X.K X.mg X.base CT) (hr : Room j X.A) (hj : 2 ≤ j) (nd : X.N.Nodup) (hi : X.N[i]? = some "word") (kw : X.env.kindOf "word" = some .local) (hne1 : i ≠ ip) (hne2 : i ≠ ib)
    (hp : X.N[ip]? = some "place") (hpv : Vis X.env.scope "place") (hb : X.N[ib]? = some "behind") (hbv : Vis X.env.scope "behind") (he : PEN X e te)
    (gW : X.mg "OWN_WORDS" = some (.ref W)) (sW : ∀ H, SqT X.K H W xs) (fW : xs.all flatV = true) (gO : Gc X.mg "OWN" (.str "own")) (gL : Gc X.mg "LETTERS" (.str "letters"))
    (hg1 : Gl X "OWN_WORDS" := by rfl) (hg2 : Gl X "OWN" := by rfl) (hg3 : Gl X "LETTERS" := by rfl) (hg4 : Gl X "Token" := by rfl) (hs : swapsWith e (some (.Name "word" p1)) p2.line X.env = pure false := by rfl)
    (hs2 : starEach [.IfExp (.Compare (.Name "word" p3) [.In] [.Name "OWN_WORDS" p4] p5) (.Name "OWN" p6) (.Name "LETTERS" p7) p8, .Name "word" p9, .Name "place" p10, .Name "behind" p11] X.env =
      [(false, eval (.IfExp (.Compare (.Name "word" p3) [.In] [.Name "OWN_WORDS" p4] p5) (.Name "OWN" p6) (.Name "LETTERS" p7) p8) X.env), (false, eval (.Name "word" p9) X.env), (false, eval (.Name "place" p10) X.env), (false, eval (.Name "behind" p11) X.env)] := by rfl) {p13 p14 : Pos} :
    PSsN X [.Assign [.Name "word" p1] e p2, .Return (some (.Call (.Name "Token" p12) [.IfExp (.Compare (.Name "word" p3) [.In] [.Name "OWN_WORDS" p4] p5) (.Name "OWN" p6) (.Name "LETTERS" p7) p8, .Name "word" p9, .Name "place" p10, .Name "behind" p11] [] p13)) p14]
      (fun D m σ H => te m σ H fun u v m' H1 => ∃ x vp vb, v = .str x ∧ σ[ip]? = some (some vp) ∧ σ[ib]? = some (some vb) ∧
        ∀ a c d p H', RelV (.str (if inV (.str x) xs = true then "own" else "letters")) a → RelV vp c → RelV vb d → Ex H1 H' → H1 p = none → TokR CT H' p a u c d → D.rt (.ref p) (.ref p) m' H') := by
  refine ⟨fun m pins s σ H D hm I h => wpAny_execs_cons (wpAny_Assign_Name (thn (he.run m pins s σ H _ hm I h) fun u s1 ⟨v, m', H1, hk1, I1, r, x, vp, vb, ev, e1, e2, q⟩ => ?_) hs)⟩
  subst ev
  refine store_raw I1 nd hi kw r fun s2 mp hk2 I2 hn hx => ?_
  have hk3 : m' ≤ s2.toks := Nat.le_trans hk1 hk2
  refine wpAny_execs_cons (wpAny_Return_some (thn (Q := EN X pins (σ.set i (some (.str x))) D.rt) (wpAny_Call_Name_kw (ld_glob I2 hg4 T.ge ?_ (by decide))) fun u s' ⟨v', m2, H2, hk, I', rv, z⟩ => ⟨v', m2, _, H2, hk, I', rv, z⟩))
  obtain ⟨f0, fd0, M, _⟩ := id T.ex
  refine PySem.W.callWith_K (h₀ := X.base) I2.ok.mod.kin M.kp ?_ (by rw [hs2]; rfl) (by first | rfl | assumption)
  rw [hs2]
  refine Calls.spliced_cons ?_
  obtain ⟨its, rW, pl, _⟩ := I2.tuple (sW H1)
  have last : ∀ a : Value, RelV (.str (if inV (.str x) xs = true then "own" else "letters")) a → wpAny (model X.prog X.w) X.A (spliced (backTo p13 [(false, eval (.Name "word" p9) X.env), (false, eval (.Name "place" p10) X.env), (false, eval (.Name "behind" p11) X.env)])) (fun vs s₁ => X.K.In s₁.heap ∧ wpAny (model X.prog X.w) X.A (call (.ref CT) ([] ++ (a :: vs))) (EN X pins (σ.set i (some (.str x))) D.rt) X.xe s₁) X.xe s2 := fun a ra => by
    refine Calls.spliced_cons (ld_known I2 hn kw hx ?_)
    refine Calls.spliced_cons (raw_name hp hpv I2 (by rw [List.getElem?_set_ne hne1]; exact e1) fun c rc => ?_)
    refine Calls.spliced_cons (raw_name hb hbv I2 (by rw [List.getElem?_set_ne hne2]; exact e2) fun d rd => Calls.spliced_nil ?_)
    exact ⟨I2.kIn, run_tok T hr hj hk3 I2 ra r rc rd fun p H' ex n z => q a c d p H' ra rc rd ex n z⟩
  refine wpAny_IfExp (pos := p8) (wpAny_isTrue_Compare1 (pos := p5) (ld_known I2 hn kw hx (ld_glob I2 hg1 gW ?_ (by decide))))
  refine SeqAt.in_tupleAt (eqU (.str x)) pl (fun w hw => mem_eqAt r rfl rW fW w (by simpa using hw)) (wpAny_truthy_bool ?_)
  rw [show its.toArray.any (eqU (.str x)) = its.any (eqU (.str x)) by simp, any_eqU rW fW]
  show if inV (.str x) xs = true then _ else _
  cases hin : inV (.str x) xs with
  | true =>
    rw [if_pos rfl]
    obtain ⟨a, ga, ra⟩ := gO
    exact ld_glob I2 hg2 ga (last a (by rw [hin]; exact ra)) (by decide)
  | false =>
    rw [if_neg Bool.false_ne_true]
    obtain ⟨a, ga, ra⟩ := gL
    exact ld_glob I2 hg3 ga (last a (by rw [hin]; exact ra)) (by decide)
end LE

/-! LX: tokens of a script. -/
namespace LE
open PySem PySem.Spec PyProof.Rows L2 Evl
open VasedBase (isLetter isDigit PTok Toks RESERVED)
variable {P : Program} {w : World} {K : PySem.W.Frag} {mg : Str → Option Value} {base : Heap}
/-! ### a token in the heap -/
def pkind : VasedBase.Tok → Str
  | .name w => if RESERVED.contains w = true then "own" else "letters"
  | .num _ => "number"
  | .sign _ => "own"
  | .last => "own"
def pval : VasedBase.Tok → V
  | .name w => .str (S w)
  | .num n => .int (n : Nat)
  | .sign c => .str ⟨#[c]⟩
  | .last => .str ""
theorem sgn59 : (⟨#[59]⟩ : Str) = ";" := by decide +kernel
/-- the token's object stands at p; id: the identity of a word's text -/
def TokAt (CT : Addr) (H : Hp) (p : Addr) (x : PTok) (be id : Nat) : Prop := ∃ a b c d, TokR CT H p a b c d ∧ RelV (.str (pkind x.tok)) a ∧ RelV (pval x.tok) b ∧ RelV (.int (x.place : Nat)) c ∧ RelV (.int (be : Nat)) d ∧ ∀ w, x.tok = .name w → b = .str (S w) id
theorem TokAt.ex {CT : Addr} {H H' : Hp} {p : Addr} {x : PTok} {be id : Nat} (h : TokAt CT H p x be id) (e : Ex H H') : TokAt CT H' p x be id := by
  obtain ⟨a, b, c, d, q, r⟩ := h
  exact ⟨a, b, c, d, q.ex e, r⟩
/-- a fault goes out -/
def FaultE (CF : Addr) (code place : Nat) (H : Hp) (E : XK) : Prop := ∀ (d : Addr) (H' : Hp), Ex H H' → H' d = some (.xd (fltF (.int (code : Nat)) (.int (place : Nat)))) → E (.ref CF) (some d) H'
structure TxtToks (P : Program) (w : World) (K : PySem.W.Frag) (mg : Str → Option Value) (base : Heap) (CT CF WO gL gD : Addr) : Prop where
  tk : TokK P w K mg base CT
  ft : FltT K mg CF
  l : TxtLetters mg
  sW : ∀ H, SqT K H WO (RESERVED.map fun w => V.str (S w))
  gW : mg "OWN_WORDS" = some (.ref WO)
  own : Gc mg "OWN" (.str "own")
  lets : Gc mg "LETTERS" (.str "letters")
  num : Gc mg "NUMBER" (.str "number")
  sign : Gc mg "SIGN" (.str ";")
  end_ : Gc mg "END" (.str "")
  semi : Gc mg "SEMICOLON" (.int 59)
  ml : Gc mg "MOST_LETTERS_tokens" (.int 8)
  md : Gc mg "MOST_DIGITS" (.int 10)
  gn : Gc mg "GREATEST_NUMBER" (.int 1000000000)
  nt : Gc mg "NO_TOKEN" (.int 2)
  isL : Gc mg "is_letter" (.ref gL)
  isD : Gc mg "is_digit" (.ref gD)
theorem inV_words (x : List UInt8) : ∀ ws : List (List UInt8), inV (.str (S x)) (ws.map fun w => V.str (S w)) = ws.contains x
  | [] => rfl
  | y :: ws => by
    have ih := inV_words x ws
    unfold inV at ih ⊢
    rw [List.map_cons, List.any_cons, ih, List.contains_cons]
    congr 1
    show (S y == S x) = (x == y)
    by_cases h : y = x
    · subst h; simp
    · have z : ¬ S y = S x := fun q => h (S_inj q)
      rw [beq_eq_false_iff_ne.mpr z, beq_eq_false_iff_ne.mpr (Ne.symm h)]
theorem flat_words (ws : List (List UInt8)) : (ws.map fun w => V.str (S w)).all flatV = true := by
  rw [List.all_map]
  exact List.all_eq_true.mpr fun _ _ => rfl
/-! ### word_at -/
abbrev sWordAt : Stmt := top 62
theorem sc_word_at : FnScope ["script", "place", "behind", "word"] ["script", "place"] (defScope sWordAt) := ⟨rfl, rfl, rfl, by decide +kernel, rfl, by decide +kernel, by decide +kernel⟩
/-- the letters from the n-th byte on -/
def tw (p : UInt8 → Bool) (b : List UInt8) (n : Nat) : List UInt8 := (b.drop n).takeWhile p
def spWordN (K : PySem.W.Frag) (CT CF : Addr) : NSp := fun m vs H Q E => ∃ (a : Addr) (b : List UInt8) (n : Nat), vs = [.ref a, .int (n : Nat)] ∧ SqL K H a (ib b) ∧ b.length ≤ 10000 ∧ n ≤ b.length ∧
  (8 < (tw isLetter b n).length → FaultE CF 2 n H E) ∧
  ((tw isLetter b n).length ≤ 8 → ∀ H' p t m', Ex H H' → m ≤ t → t < m' → TokAt CT H' p ⟨n, .name (tw isLetter b n)⟩ (n + (tw isLetter b n).length) t → Q (.ref p) (.ref p) m' H')
theorem tw_sub {p : UInt8 → Bool} {b : List UInt8} {n : Nat} : (b.drop n).take (n + (tw p b n).length - n) = tw p b n := by
  rw [Nat.add_sub_cancel_left]
  exact (List.prefix_iff_eq_take.mp (List.takeWhile_prefix p)).symm
theorem tw_all {p : UInt8 → Bool} {b : List UInt8} {n : Nat} : ∀ c ∈ tw p b n, p c = true := fun c hc => List.all_eq_true.mp (List.all_takeWhile (p := p) (l := b.drop n)) c hc
theorem tw_le {p : UInt8 → Bool} {b : List UInt8} {n : Nat} (h : n ≤ b.length) : n + (tw p b n).length ≤ b.length := by
  have z := (List.takeWhile_sublist (l := b.drop n) p).length_le
  rw [List.length_drop] at z
  unfold tw
  omega
theorem okN_word_at {f CT CF WO gL gD : Addr} {fd : FuncData} (F : Fun K "word_at" "word_at" sWordAt f fd) (T : TxtToks P w K mg base CT CF WO gL gD) (gb : Dn P w K mg base CX0 2 "behind_all" (spBehind K gL isLetter) 3) (gl : DnN P w K mg base CX0 1 "letters_of" (spLettersN K)) :
    FnN P w K mg base (L2.CX P w) 4 f fd ["script", "place"] (spWordN K CT CF) := by
  refine fnN_ok F sc_word_at (fun m vs H Q E h => ?_) (fun cdv m A outer s H vs Q E hr h => ⟨_, pssN_cons (psN_of (ps_set (i := 2) sc_word_at.nd rfl (.inl rfl) (pe_dn gb hr pass0 (pa_cons (pv 0) (pa_cons (pv 1) (pa_cons (pe_gc T.isL) pa_nil))))))
    (pssN_cons (psN_of (ps_if (pt_cmpR op_gt (pe_op op_sub (pv 2) (pv 1)) (pe_gc T.ml) (nomark _)) (pss_one (ps_flt_raise T.ft hr (takes_of rfl rfl rfl rfl) (pa_cons (pe_gc T.nt) (pa_cons (pv 1) pa_nil)))) pss_nil))
    (pssN_word (i := 3) (ip := 1) (ib := 2) T.tk hr (by decide) sc_word_at.nd rfl rfl (by decide) (by decide) rfl (.inl rfl) rfl (.inl rfl) (pen_dn gl hr pass0 (pa_cons (pe_slice sl_list (pv 0) (po_some (pv 1)) (po_some (pv 2))) pa_nil)) T.gW T.sW (flat_words _) T.own T.lets)), ?_⟩)
  · obtain ⟨a, b, n, rfl, _⟩ := h
    rfl
  · obtain ⟨a, b, n, rfl, hb, hz, hn, kE, k⟩ := h
    have le := tw_le (p := isLetter) hn
    refine ⟨_, rfl, _, rfl, a, b, n, rfl, hb, hn, fun H1 e1 => ?_⟩
    refine ⟨_, rfl, _, rfl, _, _, rfl, rfl, _, _, rfl, rfl, _, rfl, ?_⟩
    have hb1 := ex_l e1 hb
    have ef : far isLetter b n = n + (tw isLetter b n).length := rfl
    rw [ef]
    by_cases h8 : (tw isLetter b n).length ≤ 8
    · rw [decide_eq_false (show ¬ (8 : Int) < ((n + (tw isLetter b n).length : Nat) : Int) - (n : Nat) by omega)]
      refine iteF ?_
      refine ⟨_, rfl, _, rfl, _, rfl, _, rfl, _, rfl, a, _, rfl, hb1, fun q hq => ?_⟩
      rw [cut_ib hn le, tw_sub]
      refine ⟨q, tw isLetter b n, rfl, SqL.of upd_same, by omega, fun c hc => ?_, fun H2 t m' e2 h1 h2 => ?_⟩
      · exact tw_all c hc
      · refine ⟨S (tw isLetter b n), _, _, rfl, rfl, rfl, fun a' c d p H' ra rc rd e3 np htk => ?_⟩
        rw [inV_words] at ra
        refine k h8 H' p t m' (((e1.trans (Ex.new hq)).trans e2).trans e3) h1 h2 ⟨a', _, c, d, htk, ra, ⟨_, rfl⟩, rc, rd, fun w hw => ?_⟩
        have ew : tw isLetter b n = w := VasedBase.Tok.name.inj hw
        rw [ew]
    · rw [decide_eq_true (show (8 : Int) < ((n + (tw isLetter b n).length : Nat) : Int) - (n : Nat) by omega)]
      refine iteT ⟨_, rfl, _, _, rfl, fun d hd => ?_⟩
      exact kE (by omega) d _ (e1.trans (Ex.new hd)) upd_same
end LE

/-! LY: numbers, one token, all tokens. -/
namespace LE
open PySem PySem.Spec PyProof.Rows L2 Evl
open VasedBase (isLetter isDigit PTok Toks RESERVED numberOf decimal token)
variable {P : Program} {w : World} {K : PySem.W.Frag} {mg : Str → Option Value} {base : Heap}
/-! ### number_at -/
abbrev sNumberAt : Stmt := top 63
theorem sc_number_at : FnScope ["script", "place", "behind", "size", "number", "byte"] ["script", "place"] (defScope sNumberAt) := ⟨rfl, rfl, rfl, by decide +kernel, rfl, by decide +kernel, by decide +kernel⟩
def spNumberN (K : PySem.W.Frag) (CT CF : Addr) : NSp := fun m vs H Q E => ∃ (a : Addr) (b : List UInt8) (n : Nat) (c : UInt8), vs = [.ref a, .int (n : Nat)] ∧ SqL K H a (ib b) ∧ b.length ≤ 10000 ∧ b[n]? = some c ∧ isDigit c = true ∧
  (numberOf (tw isDigit b n) = none → FaultE CF 2 n H E) ∧
  (∀ v, numberOf (tw isDigit b n) = some v → ∀ H' p, Ex H H' → TokAt CT H' p ⟨n, .num v⟩ (n + (tw isDigit b n).length) 0 → Q (.ref p) (.ref p) m H')
theorem decimal_more {l : List UInt8} {i : Nat} {c : UInt8} (h : l[i]? = some c) : decimal (l.take (i + 1)) = 10 * decimal (l.take i) + (c.toNat - 48) := by
  unfold decimal
  rw [List.take_succ, h, List.foldl_append]
  rfl
theorem digit_range {c : UInt8} (h : isDigit c = true) : 48 ≤ c.toNat ∧ c.toNat ≤ 57 := by
  unfold isDigit at h
  exact of_decide_eq_true h
theorem okN_number_at {f CT CF WO gL gD : Addr} {fd : FuncData} (F : Fun K "number_at" "number_at" sNumberAt f fd) (T : TxtToks P w K mg base CT CF WO gL gD) (gb : Dn P w K mg base CX0 2 "behind_all" (spBehind K gD isDigit) 3) :
    FnN P w K mg base (L2.CX P w) 4 f fd ["script", "place"] (spNumberN K CT CF) := by
  refine fnN_ok F sc_number_at (fun m vs H Q E h => ?_) (fun cdv m A outer s H vs Q E hr h => ⟨_, pssN_cons (psN_of (ps_set (i := 2) sc_number_at.nd rfl (.inl rfl) (pe_dn gb hr pass0 (pa_cons (pv 0) (pa_cons (pv 1) (pa_cons (pe_gc T.isD) pa_nil))))))
    (pssN_cons (psN_of (ps_set (i := 3) sc_number_at.nd rfl (.inl rfl) (pe_op op_sub (pv 2) (pv 1))))
    (pssN_cut (psN_of (ps_if (PW.pt (pw_or (pt_cmpR op_gt (pv 3) (pe_gc T.md) (nomark _)) (pw_or1 (PW.pt (pw_and (pt_cmpR op_gt (pv 3) pe_int (nomark _)) (pw_and1 (pt_cmpR op_eq (pe_ix ix_list (pv 0) (pv 1) (fun _ _ => rfl)) (pe_gc T.l.d0) (nomark _))))))))
      (pss_one (ps_flt_raise T.ft hr (takes_of rfl rfl rfl rfl) (pa_cons (pe_gc T.nt) (pa_cons (pv 1) pa_nil)))) pss_nil))
    (pssN_cons (psN_of (ps_set (i := 4) sc_number_at.nd rfl (.inl rfl) pe_int))
    (pssN_cons (psN_of (ps_for (passes_of rfl) rfl (pi_list (pe_slice sl_list (pv 0) (po_some (pv 1)) (po_some (pv 2)))) (pg_name (i := 5) sc_number_at.nd rfl (.inl rfl))
      (pss_one (ps_set (i := 4) sc_number_at.nd rfl (.inl rfl) (pe_op op_sub (pe_op op_add (pe_op op_mul (pv 4) pe_int) (pv 5)) (pe_gc T.l.d0))))))
    (pssN_cons (psN_of (ps_if (pt_cmpR op_gt (pv 4) (pe_gc T.gn) (nomark _)) (pss_one (ps_flt_raise T.ft hr (takes_of rfl rfl rfl rfl) (pa_cons (pe_gc T.nt) (pa_cons (pv 1) pa_nil)))) pss_nil))
    (pssN_one (psN_ret (pen_tok T.tk hr (pa_cons (pe_gc T.num) (pa_cons (pv 4) (pa_cons (pv 1) (pa_cons (pv 2) pa_nil)))))))))))), ?_⟩)
  · obtain ⟨a, b, n, c, rfl, _⟩ := h
    rfl
  · obtain ⟨a, b, n, c, rfl, hb, hz, hc, hd, kE, k⟩ := h
    have hlt : n < b.length := (List.getElem?_eq_some_iff.mp hc).1
    have hn : n ≤ b.length := Nat.le_of_lt hlt
    have le := tw_le (p := isDigit) hn
    have h1 : 1 ≤ (tw isDigit b n).length := by
      unfold tw
      rw [drop_get hc, List.takeWhile_cons_of_pos hd]
      simp
    have hne : tw isDigit b n ≠ [] := fun e => by rw [e] at h1; simp at h1
    have hhd : (tw isDigit b n).head? = some c := by
      unfold tw
      rw [drop_get hc, List.takeWhile_cons_of_pos hd]
      rfl
    have ef : far isDigit b n = n + (tw isDigit b n).length := rfl
    have num : numberOf (tw isDigit b n) = if 10 < (tw isDigit b n).length ∨ (1 < (tw isDigit b n).length ∧ c = 48) ∨ 1000000000 < decimal (tw isDigit b n) then none else some (decimal (tw isDigit b n)) := by
      unfold numberOf
      rw [hhd]
      simp only [hne, false_or, Option.some.injEq]
      rfl
    generalize hL : tw isDigit b n = l at *
    refine ⟨_, rfl, _, rfl, a, b, n, rfl, hb, hn, fun H1 e1 => ?_⟩
    have hb1 := ex_l e1 hb
    rw [ef]
    refine ⟨_, rfl, _, rfl, _, _, rfl, rfl, ?_⟩
    have fault : numberOf l = none → ∀ d, H1 d = none → E (.ref CF) (some d) (upd H1 d (.xd (fltF (.int 2) (.int (n : Nat))))) := fun e d hd => kE e d _ (e1.trans (Ex.new hd)) upd_same
    have es : ((n + l.length : Nat) : Int) - (n : Nat) = (l.length : Nat) := by omega
    dsimp only [gName]
    rw [es]
    refine ⟨fun m' σ H' => m' = m ∧ H' = H1 ∧ σ = [some (.ref a), some (.int (n : Nat)), some (.int ((n + l.length : Nat) : Int)), some (.int (l.length : Nat)), none, none] ∧ l.length ≤ 10 ∧ ¬ (1 < l.length ∧ c = 48), ?_, ?_⟩
    · rintro m' σ H' ⟨rfl, rfl, rfl, h10, h48⟩
      refine ⟨_, rfl, _, rfl, _, rfl, _, rfl, _, rfl, a, _, rfl, hb1, fun q hq => ?_⟩
      rw [cut_ib hn le, ← hL, tw_sub, hL]
      have e2 := e1.trans (Ex.new (o := HO.lst (ib l)) hq)
      refine ⟨q, rfl, ⟨_, SqL.of upd_same⟩, ?_⟩
      refine for_list (fun i σ H2 => ∃ v : Option V, σ = [some (.ref a), some (.int (n : Nat)), some (.int ((n + l.length : Nat) : Int)), some (.int (l.length : Nat)), some (.int (decimal (l.take i) : Nat)), v] ∧ H2 = upd H' q (.lst (ib l)))
        ⟨none, rfl, rfl⟩ (fun i σ H2 _ ⟨_, _, eh⟩ => by rw [eh]; exact SqL.of upd_same) ?_ ?_
      · rintro i x σ H2 hi ⟨v, rfl, rfl⟩
        obtain ⟨c', hc', rfl⟩ := ib_of hi
        have hd' := digit_range (tw_all (p := isDigit) (b := b) (n := n) c' (by rw [hL]; exact List.mem_of_getElem? hc'))
        refine ⟨_, rfl, _, _, rfl, rfl, .inr ⟨by decide, by decide⟩, _, rfl, _, _, rfl, rfl, _, _, rfl, rfl, some (.int (c'.toNat : Nat)), ?_, rfl⟩
        rw [decimal_more hc']
        have ez : ((decimal (l.take i) : Nat) : Int) * 10 + (c'.toNat : Nat) - 48 = ((10 * decimal (l.take i) + (c'.toNat - 48) : Nat) : Int) := by omega
        rw [← ez]
        rfl
      · rintro σ H2 ⟨v, rfl, rfl⟩
        rw [ib_len, List.take_length]
        refine ⟨_, rfl, _, _, rfl, rfl, _, rfl, ?_⟩
        by_cases hg : decimal l ≤ 1000000000
        · rw [decide_eq_false (show ¬ (1000000000 : Int) < (decimal l : Nat) by omega)]
          refine iteF ⟨_, rfl, _, rfl, _, rfl, _, _, _, _, rfl, fun a' b' c' d' p H3 ra rb rc rd e3 np htk => ?_⟩
          refine k (decimal l) ?_ H3 p (e2.trans e3) ⟨a', b', c', d', htk, ra, rb, rc, rd, fun w hw => nomatch hw⟩
          rw [num, if_neg]
          rintro (h | h | h)
          · omega
          · exact h48 h
          · omega
        · rw [decide_eq_true (show (1000000000 : Int) < (decimal l : Nat) by omega)]
          refine iteT ⟨_, rfl, _, _, rfl, fun d hd => kE ?_ d _ (e2.trans (Ex.new hd)) upd_same⟩
          rw [num, if_pos (.inr (.inr (by omega)))]
    · refine ⟨_, rfl, _, _, rfl, rfl, _, rfl, ?_⟩
      have go : numberOf l = none → ∀ d, H1 d = none → E (.ref CF) (some d) (upd H1 d (.xd (fltF (.int 2) (.int (n : Nat))))) := fault
      by_cases h10 : l.length ≤ 10
      · rw [decide_eq_false (show ¬ (10 : Int) < (l.length : Nat) by omega)]
        refine iteF ⟨_, rfl, _, _, rfl, rfl, _, rfl, ?_⟩
        by_cases hl1 : 1 < l.length
        · rw [decide_eq_true (show (1 : Int) < (l.length : Nat) by omega)]
          refine iteT ⟨_, rfl, _, rfl, a, _, _, _, rfl, rfl, hb1, atI_nat (ib_get hc), rfl, _, rfl, ?_⟩
          cases d48 : decide (V.int (c.toNat : Nat) = V.int 48) with
          | true =>
            refine iteT ⟨_, rfl, _, _, rfl, go ?_⟩
            rw [num, if_pos (.inr (.inl ⟨hl1, byt_t 48 d48⟩))]
          | false => exact iteF ⟨rfl, rfl, rfl, h10, fun z => byt_f 48 d48 rfl z.2⟩
        · rw [decide_eq_false (show ¬ (1 : Int) < (l.length : Nat) by omega)]
          exact iteF (iteF ⟨rfl, rfl, rfl, h10, fun z => hl1 z.1⟩)
      · rw [decide_eq_true (show (10 : Int) < (l.length : Nat) by omega)]
        refine iteT (iteT ⟨_, rfl, _, _, rfl, go ?_⟩)
        rw [num, if_pos (.inl (by omega))]

/-! ### token_at -/
abbrev sTokenAt : Stmt := top 59
theorem sc_token_at : FnScope ["script", "place", "byte"] ["script", "place"] (defScope sTokenAt) := ⟨rfl, rfl, rfl, by decide +kernel, rfl, by decide +kernel, by decide +kernel⟩
def spTokenN (K : PySem.W.Frag) (CT CF : Addr) : NSp := fun m vs H Q E => ∃ (a : Addr) (b : List UInt8) (n : Nat), vs = [.ref a, .int (n : Nat)] ∧ SqL K H a (ib b) ∧ b.length ≤ 10000 ∧ n < b.length ∧
  (token (b.drop n) = none → FaultE CF 2 n H E) ∧
  (∀ x, token (b.drop n) = some x → ∀ H' p id m', Ex H H' → m ≤ m' → (∀ w, x.1 = .name w → m ≤ id ∧ id < m') → TokAt CT H' p ⟨n, x.1⟩ (n + x.2) id → Q (.ref p) (.ref p) m' H')
theorem okN_token_at {f CT CF WO gL gD : Addr} {fd : FuncData} (F : Fun K "token_at" "token_at" sTokenAt f fd) (T : TxtToks P w K mg base CT CF WO gL gD) (gl : Dn P w K mg base CX0 1 "is_letter" (spByte isLetter) 1) (gd : Dn P w K mg base CX0 1 "is_digit" (spByte isDigit) 1)
    (gw : DnN P w K mg base (L2.CX P w) 4 "word_at" (spWordN K CT CF)) (gn : DnN P w K mg base (L2.CX P w) 4 "number_at" (spNumberN K CT CF)) : FnN P w K mg base (L2.CX P w) 5 f fd ["script", "place"] (spTokenN K CT CF) := by
  refine fnN_ok F sc_token_at (fun m vs H Q E h => ?_) (fun cdv m A outer s H vs Q E hr h => ⟨_, pssN_cons (psN_of (ps_set (i := 2) sc_token_at.nd rfl (.inl rfl) (pe_ix ix_list (pv 0) (pv 1) (fun _ _ => rfl))))
    (pssN_cons (psN_if (pt_val (pe_dn gl hr pass0 (pa_cons (pv 2) pa_nil))) (pssN_one (psN_ret (pen_dn gw hr (pass1 rfl rfl rfl rfl) (pa_cons (pv 0) (pa_cons (pv 1) pa_nil))))) pssN_nil)
    (pssN_cons (psN_if (pt_val (pe_dn gd hr pass0 (pa_cons (pv 2) pa_nil))) (pssN_one (psN_ret (pen_dn gn hr (pass1 rfl rfl rfl rfl) (pa_cons (pv 0) (pa_cons (pv 1) pa_nil))))) pssN_nil)
    (pssN_cons (psN_if (pt_cmpR op_eq (pv 2) (pe_gc T.semi) (nomark _)) (pssN_one (psN_ret (pen_tok T.tk hr (pa_cons (pe_gc T.own) (pa_cons (pe_gc T.sign) (pa_cons (pv 1) (pa_cons (pe_op op_add (pv 1) pe_int) pa_nil))))))) pssN_nil)
    (pssN_one (psN_of (ps_flt_raise T.ft hr (takes_of rfl rfl rfl rfl) (pa_cons (pe_gc T.nt) (pa_cons (pv 1) pa_nil)))))))), ?_⟩)
  · obtain ⟨a, b, n, rfl, _⟩ := h
    rfl
  · obtain ⟨a, b, n, rfl, hb, hz, hn, kE, k⟩ := h
    obtain ⟨c, hc⟩ : ∃ c, b[n]? = some c := ⟨_, List.getElem?_eq_getElem hn⟩
    have hdr := drop_get hc
    have tk : token (b.drop n) = if isLetter c = true then (if 8 < (tw isLetter b n).length then none else some (.name (tw isLetter b n), (tw isLetter b n).length))
        else if isDigit c = true then (numberOf (tw isDigit b n)).map fun v => (.num v, (tw isDigit b n).length) else if c = 59 then some (.sign 59, 1) else none := by
      unfold tw
      rw [hdr]
      show (if isLetter c = true then _ else if isDigit c = true then _ else if VasedBase.SIGNS.contains c = true then some (VasedBase.Tok.sign c.toNat, 1) else none) = _
      have e : (VasedBase.SIGNS.contains c = true) ↔ c = 59 := by
        unfold VasedBase.SIGNS
        simp
      by_cases h59 : c = 59
      · subst h59
        rfl
      · rw [if_neg h59, if_neg (fun z => h59 (e.mp z))]
        rfl
    refine ⟨_, rfl, _, rfl, a, _, _, _, rfl, rfl, hb, atI_nat (ib_get hc), ?_⟩
    refine ⟨_, rfl, c, rfl, fun H1 e1 => ?_⟩
    have hb1 := ex_l e1 hb
    refine ⟨_, rfl, ?_⟩
    cases hL : isLetter c with
    | true =>
      rw [hL, if_pos rfl] at tk
      refine iteT ⟨_, rfl, _, rfl, a, b, n, rfl, hb1, hz, Nat.le_of_lt hn, fun h8 d H' e2 hx => kE ?_ d H' (e1.trans e2) hx, fun h8 H' p t m' e2 h1 h2 ht => ?_⟩
      · rw [tk, if_pos h8]
      · exact k _ (by rw [tk, if_neg (by omega)]) H' p t m' (e1.trans e2) (Nat.le_of_lt (Nat.lt_of_le_of_lt h1 h2)) (fun w _ => ⟨h1, h2⟩) ht
    | false =>
      rw [hL, if_neg Bool.false_ne_true] at tk
      refine iteF ⟨_, rfl, c, rfl, fun H2 e2 => ⟨_, rfl, ?_⟩⟩
      have hb2 := ex_l e2 hb1
      cases hD : isDigit c with
      | true =>
        rw [hD, if_pos rfl] at tk
        refine iteT ⟨_, rfl, _, rfl, a, b, n, c, rfl, hb2, hz, hc, hD, fun hv d H' e3 hx => kE ?_ d H' ((e1.trans e2).trans e3) hx, fun v hv H' p e3 ht => ?_⟩
        · rw [tk, hv]
          rfl
        · exact k (.num v, _) (by rw [tk, hv]; rfl) H' p 0 m ((e1.trans e2).trans e3) (Nat.le_refl _) (fun w hw => nomatch hw) ht
      | false =>
        rw [hD, if_neg Bool.false_ne_true] at tk
        refine iteF ⟨_, rfl, rfl, _, rfl, ?_⟩
        cases d59 : decide (V.int (c.toNat : Nat) = V.int 59) with
        | true =>
          rw [if_pos (byt_t 59 d59)] at tk
          refine iteT ⟨_, rfl, _, rfl, _, _, rfl, rfl, _, _, _, _, rfl, fun a' b' c' d' p H' ra rb rc rd e3 np htk => ?_⟩
          exact k _ tk H' p 0 m ((e1.trans e2).trans e3) (Nat.le_refl _) (fun w hw => nomatch hw) ⟨a', b', c', d', htk, ra, rb, rc, rd, fun w hw => nomatch hw⟩
        | false =>
          rw [if_neg (byt_f 59 d59)] at tk
          exact iteF ⟨_, rfl, _, _, rfl, fun d hd => kE tk d _ ((e1.trans e2).trans (Ex.new hd)) upd_same⟩
end LE

/-! LZ: all tokens. -/
namespace LE
open PySem PySem.Spec PyProof.Rows L2 Evl
open VasedBase (isLetter isDigit PTok Toks RESERVED numberOf decimal token)
variable {P : Program} {w : World} {K : PySem.W.Frag} {mg : Str → Option Value} {base : Heap}
section
variable {X : Cx} {e : Expr} {pos p : Pos} {x : Str}
theorem pe_ofN {t : NE} (h : PEN X e t) : PE X e (fun σ H Q => t 0 σ H fun _ v _ H' => Q v H') :=
  ⟨fun pins s σ H Q I q => thn (h.run 0 pins s σ H _ (Nat.zero_le _) I q) fun u s' ⟨v, _, H', _, I', r, z⟩ => ⟨v, H', I', r, z⟩⟩
/-- f(e, a written int): an identity is out behind it -/
theorem pen_dnZ {CX : CXT} {k j n jj : Nat} {z : Int} {cp : Pos} {sp : Sp} {E : XK} {te : TE} (c : Dn X.prog X.w X.K X.mg X.base CX k x sp n) (hr : Room j X.A) (hx : Passes CX X E) (he : PE X e te) (hk : k ≤ j := by decide) (hg : Gl X x := by rfl)
    (hdb : (x == ("__debug__" : Str)) = false := by decide) (hs : starEach (e :: [.Constant (.int z) jj cp]) X.env = (false, eval e X.env) :: starEach [.Constant (.int z) jj cp] X.env := by rfl) (hpl : (backTo pos (starEach [.Constant (.int z) jj cp] X.env)).any (·.1) = false := by rfl) :
    PEN X (.Call (.Name x p) [e, .Constant (.int z) jj cp] [] pos) (fun m σ H Q => te σ H fun v H1 => sp [v, .int z] H1 (fun r H2 => ∀ u, RelV r u → Q u r (max m 1) H2) E) := by
  obtain ⟨f, fd, ps, F, hm, kp, b, _⟩ := c.ex
  refine ⟨fun m pins s σ H Q hn I h => wpAny_Call_Name_kw (ld_glob I hg hm ?_ hdb)⟩
  refine PySem.W.callWith_K (h₀ := X.base) I.ok.mod.kin kp ?_ hs hpl
  rw [hs]
  refine Calls.spliced_cons (thm hn (he.run pins s σ H _ I h) fun u s1 hk1 ⟨v, H1, I1, r, q⟩ => ?_)
  show wpAny _ _ (spliced ((false, eval (.Constant (.int z) jj cp) X.env) :: backTo pos (starEach [] X.env))) _ _ s1
  refine Calls.spliced_cons (wpAny_Constant_int (Calls.spliced_nil ⟨I1.kIn, ?_⟩))
  have hk2 : max m 1 ≤ s1.toks + 1 := Nat.max_le.mpr ⟨Nat.le_succ_of_le hk1, Nat.le_add_left _ _⟩
  have I2 : Inv X pins σ H1 { s1 with toks := s1.toks + 1 } := I1.tok _
  refine thm (s := { s1 with toks := s1.toks + 1 }) hk2 (run_fn (Q := fun r H2 => ∀ u, RelV r u → Q u r (max m 1) H2) (vs := [v, .int z]) (dvs := []) (ds := []) F (hr.mono hk) b .nil hx I2 (.cons r (.cons ⟨_, rfl⟩ .nil)) (by rw [List.append_nil]; exact q)) fun u' s' hk' ⟨r', H2, I', rr, z'⟩ => ⟨r', _, H2, hk', I', rr, z' u' rr⟩
end
def TokSeq (CT : Addr) (H : Hp) (hi : Nat) (l : Toks) (ps : List Addr) : Prop := ps.length = l.length ∧ ∃ ids : Nat → Nat, (∀ i x p, l[i]? = some x → ps[i]? = some p → ∃ be, TokAt CT H p x be (ids i)) ∧
  (∀ i x w, l[i]? = some x → x.tok = .name w → 1 ≤ ids i ∧ ids i < hi) ∧ (∀ i j x y w w', i < j → l[i]? = some x → x.tok = .name w → l[j]? = some y → y.tok = .name w' → ids i < ids j)
theorem TokSeq.ex {CT : Addr} {H H' : Hp} {hi : Nat} {l : Toks} {ps : List Addr} (h : TokSeq CT H hi l ps) (e : Ex H H') : TokSeq CT H' hi l ps := by
  obtain ⟨h1, ids, h2, h3, h4⟩ := h
  exact ⟨h1, ids, fun i x p a b => let ⟨be, z⟩ := h2 i x p a b; ⟨be, z.ex e⟩, h3, h4⟩
theorem TokSeq.nil (CT : Addr) (H : Hp) (hi : Nat) : TokSeq CT H hi [] [] := ⟨rfl, fun _ => 0, fun i x p a => by simp at a, fun i x w a => by simp at a, fun i j x y w w' _ a => by simp at a⟩
theorem TokSeq.add {CT : Addr} {H : Hp} {hi hi' id be : Nat} {l : Toks} {ps : List Addr} {x : PTok} {p : Addr} (h : TokSeq CT H hi l ps) (a : TokAt CT H p x be id) (le : hi ≤ hi') (h1 : 1 ≤ hi) (hx : ∀ w, x.tok = .name w → hi ≤ id ∧ id < hi') : TokSeq CT H hi' (l ++ [x]) (ps ++ [p]) := by
  obtain ⟨q1, ids, q2, q3, q4⟩ := h
  have at_ : ∀ {i : Nat} {y : PTok}, (l ++ [x])[i]? = some y → (l[i]? = some y ∧ i < l.length) ∨ (i = l.length ∧ y = x) := fun {i y} e => by
    by_cases hi : i < l.length
    · rw [List.getElem?_append_left hi] at e
      exact .inl ⟨e, hi⟩
    · rw [List.getElem?_append_right (by omega)] at e
      by_cases hz : i - l.length = 0
      · rw [hz] at e
        exact .inr ⟨by omega, (Option.some.inj e).symm⟩
      · rw [List.getElem?_eq_none (by simp; omega)] at e
        cases e
  refine ⟨by simp [q1], fun i => if i < l.length then ids i else id, fun i y r e1 e2 => ?_, fun i y w e hw => ?_, fun i j y y' w w' hij e1 hw e2 hw' => ?_⟩
  · rcases at_ e1 with ⟨e, hl⟩ | ⟨e, ey⟩
    · rw [List.getElem?_append_left (by omega)] at e2
      simp only [hl, if_true]
      exact q2 i y r e e2
    · subst e ey
      rw [List.getElem?_append_right (by omega), q1, Nat.sub_self] at e2
      obtain rfl : p = r := Option.some.inj e2
      simp only [Nat.lt_irrefl, if_false]
      exact ⟨be, a⟩
  · rcases at_ e with ⟨e, hl⟩ | ⟨e, ey⟩
    · simp only [hl, if_true]
      have z := q3 i y w e hw
      exact ⟨z.1, Nat.lt_of_lt_of_le z.2 le⟩
    · subst e ey
      simp only [Nat.lt_irrefl, if_false]
      have z := hx w hw
      exact ⟨Nat.le_trans h1 z.1, z.2⟩
  · rcases at_ e1 with ⟨g1, hl1⟩ | ⟨g1, ey1⟩
    · rcases at_ e2 with ⟨g2, hl2⟩ | ⟨g2, ey2⟩
      · simp only [hl1, hl2, if_true]
        exact q4 i j y y' w w' hij g1 hw g2 hw'
      · subst g2 ey2
        simp only [hl1, if_true, Nat.lt_irrefl, if_false]
        exact Nat.lt_of_lt_of_le (q3 i y w g1 hw).2 (hx w' hw').1
    · rcases at_ e2 with ⟨g2, hl2⟩ | ⟨g2, ey2⟩ <;> omega
theorem ObR.upd {C : Addr} {H : Hp} {p dx L : Addr} {mA : Str → Option Value} {xs : List V} {o : HO} (h : ObR C H p dx mA) (hL : H L = some (.lst xs)) : ObR C (L2.upd H L o) p dx mA :=
  ⟨h.1, by rw [upd_ne (ne_of h.2.1 hL (fun z => by cases z))]; exact h.2.1, by rw [upd_ne (ne_of h.2.2 hL (fun z => by cases z))]; exact h.2.2⟩
theorem TokAt.upd {CT : Addr} {H : Hp} {p L : Addr} {x : PTok} {be id : Nat} {xs : List V} {o : HO} (h : TokAt CT H p x be id) (hL : H L = some (.lst xs)) : TokAt CT (L2.upd H L o) p x be id := by
  obtain ⟨a, b, c, d, ⟨dx, q⟩, r⟩ := h
  exact ⟨a, b, c, d, ⟨dx, q.upd hL⟩, r⟩
theorem TokSeq.upd {CT : Addr} {H : Hp} {hi : Nat} {l : Toks} {ps : List Addr} {L : Addr} {xs : List V} {o : HO} (h : TokSeq CT H hi l ps) (hL : H L = some (.lst xs)) : TokSeq CT (L2.upd H L o) hi l ps := by
  obtain ⟨h1, ids, h2, h3, h4⟩ := h
  exact ⟨h1, ids, fun i x p a b => let ⟨be, z⟩ := h2 i x p a b; ⟨be, z.upd hL⟩, h3, h4⟩
/-! ### tokens_of -/
abbrev sTokensOf : Stmt := top 57
theorem sc_tokens_of : FnScope ["script", "tokens", "place", "token"] ["script"] (defScope sTokensOf) := ⟨rfl, rfl, rfl, by decide +kernel, rfl, by decide +kernel, by decide +kernel⟩
def spToksN (K : PySem.W.Frag) (CT CF : Addr) : NSp := fun m vs H Q E => ∃ (a : Addr) (b : List UInt8), vs = [.ref a] ∧ SqL K H a (ib b) ∧ b.length ≤ 10000 ∧ (∀ f, lx 0 b = .error f → FaultE CF f.code f.place H E) ∧
  (∀ l, lx 0 b = .ok l → ∀ H' L ps m', Ex H H' → H L = none → H' L = some (.lst (ps.map V.ref)) → TokSeq CT H' m' l ps → Q (.ref L) (.ref L) m' H')
theorem okN_tokens_of {f CT CF WO gL gD : Addr} {fd : FuncData} (F : Fun K "tokens_of" "tokens_of" sTokensOf f fd) (T : TxtToks P w K mg base CT CF WO gL gD) (gb : Dn P w K mg base CX0 1 "behind_blanks" (spBlanks K) 2)
    (gt : DnN P w K mg base (L2.CX P w) 5 "token_at" (spTokenN K CT CF)) : FnN P w K mg base (L2.CX P w) 6 f fd ["script"] (spToksN K CT CF) := by
  refine fnN_ok F sc_tokens_of (fun m vs H Q E h => ?_) (fun cdv m A outer s H vs Q E hr h => ⟨_, pssN_cons (psN_of (ps_set (i := 1) sc_tokens_of.nd rfl (.inl rfl) (pe_lst pa_nil)))
    (pssN_cons (psN_set (i := 2) sc_tokens_of.nd rfl (.inl rfl) (pen_dnZ gb hr pass0 (pv 0)))
    (pssN_cons (psN_while (passes_of rfl) (pt_cmpR op_lt (pv 2) (pe_callB call_len_seq (by rfl) T.l.len PySem.boot_len (pa_cons (pv 0) pa_nil)) (nomark _))
      (pssN_cons (psN_set (i := 3) sc_tokens_of.nd rfl (.inl rfl) (pen_dn gt hr (pass1 rfl rfl rfl rfl) (pa_cons (pv 0) (pa_cons (pv 2) pa_nil))))
      (pssN_cons (psN_of (ps_expr (pe_bm PySem.F.plainAttrs_list PySem.F.slot_list_append PySem.F.type_list_append mt_append (pv 1) (pa_cons (pv 3) pa_nil))))
      (pssN_one (psN_of (ps_set (i := 2) sc_tokens_of.nd rfl (.inl rfl) (pe_dn gb hr pass0 (pa_cons (pv 0) (pa_cons (pe_tf T.tk.t.cl T.tk.t.nB (pv 3)) pa_nil)))))))))
    (pssN_cons (psN_of (ps_expr (pe_bm PySem.F.plainAttrs_list PySem.F.slot_list_append PySem.F.type_list_append mt_append (pv 1) (pa_cons (pe_ofN (pen_tok T.tk hr (pa_cons (pe_gc T.own) (pa_cons (pe_gc T.end_) (pa_cons (pv 2) (pa_cons (pv 2) pa_nil)))))) pa_nil))))
    (pssN_one (psN_of (ps_ret (pv 1))))))), ?_⟩)
  · obtain ⟨a, b, rfl, _⟩ := h
    rfl
  · obtain ⟨a, b, rfl, hb, hz, kE, k⟩ := h
    have p0 := plain_sk b.length b (Nat.le_refl _)
    have s0 := lx_sk b.length 0 b (Nat.le_refl _)
    have l0 := sk_le false b
    rw [Nat.zero_add] at s0
    refine ⟨Nat.zero_le _, fun L hL => ?_⟩
    refine ⟨_, rfl, a, b, 0, rfl, ex_l (Ex.new hL) hb, Nat.zero_le _, fun H1 e1 u _ => ?_⟩
    rw [List.drop_zero, Nat.zero_add]
    have e1' : Ex H H1 := (Ex.new hL).trans e1
    refine ⟨fun j m' σ H' => ∃ (n : Nat) (l : Toks) (ps : List Addr) (v : Option V), σ = [some (.ref a), some (.ref L), some (.int (n : Nat)), v] ∧ n ≤ b.length ∧ j = b.length - n ∧ 1 ≤ m' ∧ Plain (b.drop n) ∧ lx 0 b = (lx n (b.drop n)).map (fun r => l ++ r) ∧
      Ex H H' ∧ H' L = some (.lst (ps.map V.ref)) ∧ TokSeq CT H' m' l ps ∧ ps.length ≤ n, ⟨_, sk false b, [], [], none, rfl, l0, rfl, Nat.le_max_right _ _, p0, ?_, e1', e1 L _ upd_same, TokSeq.nil _ _ _, Nat.zero_le _⟩, ?_⟩
    · rw [s0]
      cases lx (sk false b) (b.drop (sk false b)) <;> rfl
    · rintro j m' σ H' ⟨n, l, ps, v, rfl, hn, rfl, hm', hpl, hlx, ex, hLl, hseq, hpn⟩
      have hb' := ex_l ex hb
      refine ⟨_, rfl, _, rfl, a, _, rfl, .inl hb', _, _, rfl, rfl, _, rfl, ?_⟩
      rw [ib_len]
      by_cases hlt : n < b.length
      · rw [decide_eq_true (show (n : Int) < (b.length : Nat) by omega)]
        obtain ⟨c, hc⟩ : ∃ c, b[n]? = some c := ⟨_, List.getElem?_eq_getElem hlt⟩
        have hdr := drop_get hc
        have hlt2 := hpl
        rw [hdr] at hlt2
        have step := lx_tok (a := n) hlt2
        rw [← hdr] at step
        refine iteT ⟨_, rfl, _, rfl, a, b, n, rfl, hb', hz, hlt, fun hno d H2 e2 hx => ?_, fun x hx H2 p id m2 e2 hm2 hid htk => ?_⟩
        · refine kE ⟨2, n⟩ ?_ d H2 (ex.trans e2) hx
          rw [hlx, step, hno]
          rfl
        · have hp := token_pos (by rw [← hdr]; exact hx)
          rw [← hdr, List.length_drop] at hp
          have hL2 := e2 L _ hLl
          refine ⟨_, rfl, .inl ⟨rfl, _, SqL.of hL2⟩, _, rfl, L, _, _, rfl, rfl, hL2, sizeLine_gt (by rw [List.length_map]; omega), ?_⟩
          have add := ((hseq.ex e2).add htk hm2 hm' (fun w hw => hid w hw)).upd (o := .lst (ps.map V.ref ++ [.ref p])) hL2
          have htk' := htk.upd (o := .lst (ps.map V.ref ++ [.ref p])) hL2
          have ex3 : Ex H (L2.upd H2 L (.lst (ps.map V.ref ++ [.ref p]))) := Ex.mut (ex.trans e2) hL
          obtain ⟨ta, tb, tc, td, ⟨dx, hob⟩, ra, rb, rc, rd, _⟩ := htk'
          refine ⟨_, rfl, _, rfl, p, dx, _, td, .int ((n + x.2 : Nat) : Int), rfl, hob, rfl, rd, a, b, n + x.2, rfl, ex_l ex3 hb, by omega, fun H3 e3 => ?_⟩
          have sl := sk_le false (b.drop (n + x.2))
          rw [List.length_drop] at sl
          refine ⟨b.length - (n + x.2 + sk false (b.drop (n + x.2))), by omega, n + x.2 + sk false (b.drop (n + x.2)), l ++ [⟨n, x.1⟩], ps ++ [p], _, rfl, by omega, rfl, Nat.le_trans hm' hm2, ?_, ?_, ex3.trans e3, ?_, add.ex e3, by simp; omega⟩
          · have z := plain_sk _ (b.drop (n + x.2)) (Nat.le_refl _)
            rw [List.drop_drop] at z
            exact z
          · have z := lx_sk _ (n + x.2) (b.drop (n + x.2)) (Nat.le_refl _)
            rw [List.drop_drop] at z
            rw [hlx, step, hx]
            show ((lx (n + x.2) ((b.drop n).drop x.2)).map _).map _ = _
            rw [List.drop_drop, z]
            cases lx (n + x.2 + sk false (b.drop (n + x.2))) (b.drop (n + x.2 + sk false (b.drop (n + x.2)))) with
            | error f => rfl
            | ok r =>
              show Except.ok (l ++ (⟨n, x.1⟩ :: r)) = Except.ok ((l ++ [⟨n, x.1⟩]) ++ r)
              simp
          · rw [List.map_append]
            exact e3 L _ upd_same
      · rw [decide_eq_false (show ¬ (n : Int) < (b.length : Nat) by omega)]
        have en : n = b.length := by omega
        refine iteF ⟨_, rfl, .inl ⟨rfl, _, SqL.of hLl⟩, _, rfl, _, rfl, _, _, _, _, rfl, fun a' b' c' d' p H2 ra rb rc rd e2 np htk => ?_⟩
        have hL2 := e2 L _ hLl
        refine ⟨L, _, _, rfl, rfl, hL2, sizeLine_gt (by rw [List.length_map]; omega), _, rfl, fun u hu => ?_⟩
        cases hu
        have tat : TokAt CT H2 p ⟨n, .last⟩ n 0 := ⟨a', b', c', d', htk, ra, rb, rc, rd, fun w hw => nomatch hw⟩
        refine k (l ++ [⟨n, .last⟩]) ?_ _ L (ps ++ [p]) m' (Ex.mut (ex.trans e2) hL) hL ?_ (((hseq.ex e2).add tat (Nat.le_refl _) hm' (fun w hw => nomatch hw)).upd hL2)
        · rw [hlx, List.drop_eq_nil_of_le (by omega), lx_nil]
          rfl
        · rw [upd_same, List.map_append]
          rfl
end LE

/-! LQ: the reader of tokens. -/
namespace LE
open PySem PySem.Spec PyProof.Rows L2 Evl
open VasedBase (isLetter isDigit PTok Toks RESERVED tokEq here)
variable {P : Program} {w : World} {K : PySem.W.Frag} {mg : Str → Option Value} {base : Heap}
def rdF (L : Addr) (i : Nat) : List (Str × V) := [("tokens", .ref L), ("at", .int (i : Nat))]
/-- the reader at rd stands ahead of the i-th token of l -/
def Rd (CR CT : Addr) (H : Hp) (rd : Addr) (ids : Nat → Nat) (l : Toks) (i : Nat) : Prop := ∃ (dx L : Addr) (ps : List Addr), H rd = some (.ins CR dx (rdF L i)) ∧ H L = some (.lst (ps.map V.ref)) ∧ ps.length = l.length ∧ ∀ j x p, l[j]? = some x → ps[j]? = some p → ∃ be, TokAt CT H p x be (ids j)
theorem Rd.ex {CR CT : Addr} {H H' : Hp} {rd : Addr} {ids : Nat → Nat} {l : Toks} {i : Nat} (h : Rd CR CT H rd ids l i) (e : Ex H H') : Rd CR CT H' rd ids l i := by
  obtain ⟨dx, L, ps, h1, h2, h3, h4⟩ := h
  exact ⟨dx, L, ps, e _ _ h1, e _ _ h2, h3, fun j x p a b => let ⟨be, z⟩ := h4 j x p a b; ⟨be, z.ex e⟩⟩
theorem ObR.upN {C : Addr} {H : Hp} {p dx L : Addr} {mA : Str → Option Value} {o o' : HO} (h : ObR C H p dx mA) (hL : H L = some o') (ne : ∀ φ, o' ≠ .ext φ) : ObR C (L2.upd H L o) p dx mA :=
  ⟨h.1, by rw [upd_ne (ne_of h.2.1 hL (fun z => ne _ z.symm))]; exact h.2.1, by rw [upd_ne (ne_of h.2.2 hL (fun z => ne _ z.symm))]; exact h.2.2⟩
theorem TokAt.upN {CT : Addr} {H : Hp} {p L : Addr} {x : PTok} {be id : Nat} {o o' : HO} (h : TokAt CT H p x be id) (hL : H L = some o') (ne : ∀ φ, o' ≠ .ext φ) : TokAt CT (L2.upd H L o) p x be id := by
  obtain ⟨a, b, c, d, ⟨dx, q⟩, r⟩ := h
  exact ⟨a, b, c, d, ⟨dx, q.upN hL ne⟩, r⟩
theorem putF_at (L : Addr) (i j : Nat) : putF "at" (.int (j : Nat)) (rdF L i) = rdF L j := rfl
/-- the reader goes on -/
theorem Rd.step {CR CT : Addr} {H : Hp} {rd dx L : Addr} {ids : Nat → Nat} {l : Toks} {i : Nat} {ps : List Addr} (h1 : H rd = some (.ins CR dx (rdF L i))) (h2 : H L = some (.lst (ps.map V.ref))) (h3 : ps.length = l.length) (h4 : ∀ j x p, l[j]? = some x → ps[j]? = some p → ∃ be, TokAt CT H p x be (ids j)) (j : Nat) :
    Rd CR CT (upd H rd (.ins CR dx (rdF L j))) rd ids l j :=
  ⟨dx, L, ps, upd_same, by rw [upd_ne (ins_lst h1 h2)]; exact h2, h3, fun k x p a b => let ⟨be, z⟩ := h4 k x p a b; ⟨be, z.upN h1 fun φ z => by cases z⟩⟩
structure TxtRd (P : Program) (w : World) (K : PySem.W.Frag) (mg : Str → Option Value) (base : Heap) (CR CT CF : Addr) : Prop where
  cl : Cls K CR
  nT : NoAttr K CR "tokens"
  nA : NoAttr K CR "at"
  t : TxtTok K CT
  ft : FltT K mg CF
  own : Gc mg "OWN" (.str "own")
  lets : Gc mg "LETTERS" (.str "letters")
  num : Gc mg "NUMBER" (.str "number")
  na : Gc mg "NOT_ALLOWED" (.int 3)
  ob : Gc mg "OUT_OF_BOUNDS" (.int 7)
  mH : NoAttr K CR "here" → True
/-! ### here -/
abbrev sRdHere : Stmt := inClass (top 74) 1
theorem sc_rd_here : FnScope ["self"] ["self"] (defScope sRdHere) := ⟨rfl, rfl, rfl, by decide +kernel, rfl, by decide +kernel, by decide +kernel⟩
def spHere (CR CT : Addr) : Sp := fun vs H Q _ => ∃ (rd : Addr) (ids : Nat → Nat) (l : Toks) (i : Nat) (x : PTok), vs = [.ref rd] ∧ Rd CR CT H rd ids l i ∧ l[i]? = some x ∧ ∀ H' p be, Ex H H' → TokAt CT H' p x be (ids i) → Q (.ref p) H'
theorem ok_rd_here {f CR CT CF : Addr} {fd : FuncData} (F : Fun K "here" "Reader.here" sRdHere f fd) (T : TxtRd P w K mg base CR CT CF) : FnOk P w K mg base CX0 1 f fd ["self"] (spHere CR CT) := by
  refine F.ok sc_rd_here (fun vs H Q E h => ?_) (fun cdv A outer s H vs Q E hr h => ⟨_, pss_one (ps_ret (pe_ix ix_list (pe_fld (pv 0) rfl) (pe_fld (pv 0) rfl) (fun _ _ => rfl))), ?_⟩)
  · obtain ⟨rd, ids, l, i, x, rfl, _⟩ := h
    rfl
  · obtain ⟨rd, ids, l, i, x, rfl, ⟨dx, L, ps, h1, h2, h3, h4⟩, hx, k⟩ := h
    have hi : i < ps.length := by rw [h3]; exact (List.getElem?_eq_some_iff.mp hx).1
    obtain ⟨p, hp⟩ : ∃ p, ps[i]? = some p := ⟨_, List.getElem?_eq_getElem hi⟩
    obtain ⟨be, ht⟩ := h4 i x p hx hp
    refine ⟨_, rfl, rd, CR, dx, _, _, rfl, h1, T.cl, T.nT, rfl, _, rfl, rd, CR, dx, _, _, rfl, h1, T.cl, T.nA, rfl, ?_⟩
    refine ⟨L, _, _, .ref p, rfl, rfl, SqL.of h2, atI_nat ?_, k H p be (Ex.refl H) ht⟩
    rw [List.getElem?_map, hp]
    rfl
/-! ### stands -/
abbrev sRdStands : Stmt := inClass (top 74) 2
theorem sc_rd_stands : FnScope ["self", "value", "token"] ["self", "value"] (defScope sRdStands) := ⟨rfl, rfl, rfl, by decide +kernel, rfl, by decide +kernel, by decide +kernel⟩
/-- whether the token is the script's own one that is told so -/
def standsB (t : VasedBase.Tok) (v : Str) : Bool := pkind t == "own" && decide (pval t = .str v)
def spStands (CR CT : Addr) : Sp := fun vs H Q _ => ∃ (rd : Addr) (ids : Nat → Nat) (l : Toks) (i : Nat) (x : PTok) (v : Str), vs = [.ref rd, .str v] ∧ Rd CR CT H rd ids l i ∧ l[i]? = some x ∧ RetV (.bl (standsB x.tok v)) H Q
theorem tokMap_k (a b c d : Value) : tokMap a b c d "kind" = some a := rfl
theorem tokMap_v (a b c d : Value) : tokMap a b c d "value" = some b := rfl
theorem tokMap_p (a b c d : Value) : tokMap a b c d "place" = some c := rfl
theorem scal_pval (t : VasedBase.Tok) (v : Str) : scal (pval t) (.str v) = true := by cases t <;> rfl
theorem str_dec (a b : Str) : decide (V.str a = V.str b) = (a == b) := dec_str
theorem ok_rd_stands {f CR CT CF : Addr} {fd : FuncData} (F : Fun K "stands" "Reader.stands" sRdStands f fd) (T : TxtRd P w K mg base CR CT CF) (gh : Mn P w K mg base CX0 1 CR "here" (spHere CR CT)) : FnOk P w K mg base CX0 2 f fd ["self", "value"] (spStands CR CT) := by
  refine F.ok sc_rd_stands (fun vs H Q E h => ?_) (fun cdv A outer s H vs Q E hr h => ⟨_, pss_cons (ps_set (i := 2) sc_rd_stands.nd rfl (.inl rfl) (pe_mn0 gh hr pass0 (pv 0)))
    (pss_one (ps_ret (pe_and (pe_cmpR op_eq (pe_tf T.t.cl T.t.nK (pv 2)) (pe_gc T.own) (nomark _)) (pe_one (pe_cmpR op_eq (pe_tf T.t.cl T.t.nV (pv 2)) (pv 1) (nomark _)))))), ?_⟩)
  · obtain ⟨rd, ids, l, i, x, v, rfl, _⟩ := h
    rfl
  · obtain ⟨rd, ids, l, i, x, v, rfl, hR, hx, k⟩ := h
    obtain ⟨dx, L, ps, h1, h2, h3, h4⟩ := id hR
    refine ⟨_, rfl, rd, dx, _, rfl, h1, rfl, rd, ids, l, i, x, rfl, hR, hx, fun H' p be e ht => ?_⟩
    obtain ⟨a, b, c, d, ⟨dt, ob⟩, ra, rb, rc, rd', _⟩ := ht
    refine ⟨_, rfl, p, dt, _, a, _, rfl, ob, tokMap_k a b c d, ra, rfl, _, rfl, ?_⟩
    cases hk : decide (V.str (pkind x.tok) = V.str "own") with
    | false =>
      refine iteF ?_
      have z : standsB x.tok v = false := by
        unfold standsB
        rw [str_dec] at hk
        rw [hk, Bool.false_and]
      rw [z] at k
      exact k H' e
    | true =>
      refine iteT ⟨_, rfl, p, dt, _, b, _, rfl, ob, tokMap_v a b c d, rb, _, rfl, scal_pval _ _, ?_⟩
      have z : standsB x.tok v = decide (pval x.tok = .str v) := by
        unfold standsB
        rw [str_dec] at hk
        rw [hk, Bool.true_and]
      rw [z] at k
      exact k H' e
/-! ### refuse -/
abbrev sRdRefuse : Stmt := inClass (top 74) 3
theorem sc_rd_refuse : FnScope ["self", "code"] ["self", "code"] (defScope sRdRefuse) := ⟨rfl, rfl, rfl, by decide +kernel, rfl, by decide +kernel, by decide +kernel⟩
def spRefuse (CR CT CF : Addr) : Sp := fun vs H _ E => ∃ (rd : Addr) (ids : Nat → Nat) (l : Toks) (i code : Nat) (x : PTok), vs = [.ref rd, .int (code : Nat)] ∧ Rd CR CT H rd ids l i ∧ l[i]? = some x ∧ FaultE CF code x.place H E
theorem ok_rd_refuse {f CR CT CF : Addr} {fd : FuncData} (F : Fun K "refuse" "Reader.refuse" sRdRefuse f fd) (T : TxtRd P w K mg base CR CT CF) (gh : Mn P w K mg base CX0 1 CR "here" (spHere CR CT)) : FnOk P w K mg base (L2.CX P w) 3 f fd ["self", "code"] (spRefuse CR CT CF) := by
  refine F.okX sc_rd_refuse (fun vs H Q E h => ?_) (fun cdv A outer s H vs Q E hr h => ⟨_, pss_one (ps_flt_raise T.ft hr (takes_of rfl rfl rfl rfl) (pa_cons (pv 1) (pa_cons (pe_tf T.t.cl T.t.nP (pe_mn0 gh hr pass0 (pv 0))) pa_nil))), ?_⟩)
  · obtain ⟨rd, ids, l, i, code, x, rfl, _⟩ := h
    rfl
  · obtain ⟨rd, ids, l, i, code, x, rfl, hR, hx, kE⟩ := h
    obtain ⟨dx, L, ps, h1, h2, h3, h4⟩ := id hR
    refine ⟨_, rfl, _, rfl, rd, dx, _, rfl, h1, rfl, rd, ids, l, i, x, rfl, hR, hx, fun H' p be e ht => ?_⟩
    obtain ⟨a, b, c, d, ⟨dt, ob⟩, ra, rb, rc, rd', _⟩ := ht
    refine ⟨p, dt, _, c, _, rfl, ob, tokMap_p a b c d, rc, _, _, rfl, fun d hd => kE d _ (e.trans (Ex.new hd)) upd_same⟩
/-! ### take -/
abbrev sRdTake : Stmt := inClass (top 74) 4
theorem sc_rd_take : FnScope ["self", "token"] ["self"] (defScope sRdTake) := ⟨rfl, rfl, rfl, by decide +kernel, rfl, by decide +kernel, by decide +kernel⟩
def spTakeN (CR CT : Addr) : NSp := fun m vs H Q _ => ∃ (rd : Addr) (ids : Nat → Nat) (l : Toks) (i : Nat) (x : PTok), vs = [.ref rd] ∧ Rd CR CT H rd ids l i ∧ l[i]? = some x ∧
  ∀ H' u, Rd CR CT H' rd ids l (i + 1) → But [rd] H H' → RelV (pval x.tok) u → (∀ w, x.tok = .name w → u = .str (S w) (ids i)) → Q u (pval x.tok) m H'
theorem okN_rd_take {f CR CT CF : Addr} {fd : FuncData} {CX : CXT} (F : Fun K "take" "Reader.take" sRdTake f fd) (T : TxtRd P w K mg base CR CT CF) (gh : Mn P w K mg base CX0 1 CR "here" (spHere CR CT)) : FnN P w K mg base CX 2 f fd ["self"] (spTakeN CR CT) := by
  refine fnN_ok F sc_rd_take (fun m vs H Q E h => ?_) (fun cdv m A outer s H vs Q E hr h => ⟨_, pssN_cons (psN_of (ps_set (i := 1) sc_rd_take.nd rfl (.inl rfl) (pe_mn0 gh hr pass0 (pv 0))))
    (pssN_cons (psN_of (ps_fldaug (pv 0) pe_int in_add)) (pssN_one (psN_ret (pen_tf T.t.cl T.t.nV (pv 1))))), ?_⟩)
  · obtain ⟨rd, ids, l, i, x, rfl, _⟩ := h
    rfl
  · obtain ⟨rd, ids, l, i, x, rfl, hR, hx, k⟩ := h
    obtain ⟨dx, L, ps, h1, h2, h3, h4⟩ := id hR
    refine ⟨_, rfl, rd, dx, _, rfl, h1, rfl, rd, ids, l, i, x, rfl, hR, hx, fun H' p be e ht => ?_⟩
    have h1' := e _ _ h1
    have h2' := e _ _ h2
    have ht2 := ht.upN (o := .ins CR dx (rdF L (i + 1))) h1' fun φ z => by cases z
    obtain ⟨a, b, c, d, ⟨dt, ob⟩, ra, rb, rc, rd', hn⟩ := ht2
    refine ⟨_, rfl, rd, CR, dx, _, _, rfl, h1', T.cl, T.nA, rfl, _, _, rfl, rfl, dx, _, h1', by show 2 < 1000; decide, ?_⟩
    refine ⟨_, rfl, p, dt, _, b, _, rfl, ob, tokMap_v a b c d, rb, ?_⟩
    exact k _ b (Rd.step h1' h2' h3 (fun j x p a b => let ⟨be, z⟩ := h4 j x p a b; ⟨be, z.ex e⟩) (i + 1)) ((But.of e).upd (by simp)) rb hn
end LE

/-! LQ2: what the reader takes. -/
namespace LE
open PySem PySem.Spec PyProof.Rows L2 Evl
open VasedBase (isLetter isDigit PTok Toks RESERVED tokEq here)
open Vaseda (takeNum takeLetters)
variable {P : Program} {w : World} {K : PySem.W.Frag} {mg : Str → Option Value} {base : Heap}
/-- what tokens a script has -/
def LexOk (l : Toks) : Prop := ∃ (l0 : Toks) (p : Nat), l = l0 ++ [⟨p, .last⟩] ∧ ∀ x ∈ l0, x.tok = .sign 59 ∨ (∃ w, x.tok = .name w ∧ w ≠ [] ∧ w.length ≤ 8) ∨ ∃ n, x.tok = .num n
theorem LexOk.tok {l : Toks} (h : LexOk l) {i : Nat} {x : PTok} (e : l[i]? = some x) : x.tok = .last ∨ x.tok = .sign 59 ∨ (∃ w, x.tok = .name w ∧ w ≠ [] ∧ w.length ≤ 8) ∨ ∃ n, x.tok = .num n := by
  obtain ⟨l0, p, rfl, h⟩ := h
  rcases List.mem_append.mp (List.mem_of_getElem? e) with z | z
  · exact .inr (h x z)
  · have : x = ⟨p, .last⟩ := by simpa using z
    exact .inl (by rw [this])
theorem LexOk.next {l : Toks} (h : LexOk l) {i : Nat} {x : PTok} (e : l[i]? = some x) (n : x.tok ≠ .last) : ∃ y, l[i + 1]? = some y := by
  obtain ⟨l0, p, rfl, h⟩ := h
  have hi := (List.getElem?_eq_some_iff.mp e).1
  rw [List.length_append, List.length_singleton] at hi
  by_cases hl : i < l0.length
  · exact ⟨_, List.getElem?_eq_getElem (by rw [List.length_append, List.length_singleton]; omega)⟩
  · have ei : i = l0.length := by omega
    subst ei
    rw [List.getElem?_append_right (Nat.le_refl _), Nat.sub_self] at e
    obtain rfl : (⟨p, .last⟩ : PTok) = x := Option.some.inj e
    exact absurd rfl n
/-! ### take_own -/
abbrev sRdOwn : Stmt := inClass (top 74) 5
theorem sc_rd_own : FnScope ["self", "value"] ["self", "value"] (defScope sRdOwn) := ⟨rfl, rfl, rfl, by decide +kernel, rfl, by decide +kernel, by decide +kernel⟩
def spTakeOwn (CR CT CF : Addr) : Sp := fun vs H Q E => ∃ (rd : Addr) (ids : Nat → Nat) (l : Toks) (i : Nat) (x : PTok) (v : Str), vs = [.ref rd, .str v] ∧ Rd CR CT H rd ids l i ∧ l[i]? = some x ∧ (standsB x.tok v = false → FaultE CF 3 x.place H E) ∧
  (standsB x.tok v = true → ∀ H', Rd CR CT H' rd ids l (i + 1) → But [rd] H H' → Q (pval x.tok) H')
theorem FaultE.ex {CF : Addr} {c p : Nat} {H H' : Hp} {E : XK} (h : FaultE CF c p H E) (e : Ex H H') : FaultE CF c p H' E := fun d H2 e2 hd => h d H2 (e.trans e2) hd
structure RdK (P : Program) (w : World) (K : PySem.W.Frag) (mg : Str → Option Value) (base : Heap) (CR CT CF : Addr) : Prop where
  t : TxtRd P w K mg base CR CT CF
  here : Mn P w K mg base CX0 1 CR "here" (spHere CR CT)
  stands : Mn P w K mg base CX0 2 CR "stands" (spStands CR CT)
  refuse : Mn P w K mg base (L2.CX P w) 3 CR "refuse" (spRefuse CR CT CF)
  take : MnN P w K mg base CX0 2 CR "take" (spTakeN CR CT)
theorem ok_rd_own {f CR CT CF : Addr} {fd : FuncData} (F : Fun K "take_own" "Reader.take_own" sRdOwn f fd) (R : RdK P w K mg base CR CT CF) : FnOk P w K mg base (L2.CX P w) 4 f fd ["self", "value"] (spTakeOwn CR CT CF) := by
  refine F.okX sc_rd_own (fun vs H Q E h => ?_) (fun cdv A outer s H vs Q E hr h => ⟨_, pss_cons (ps_if (pt_not (pt_val (pe_mn R.stands hr pass0 (pv 0) (pa_cons (pv 1) pa_nil)))) (pss_one (ps_expr (pe_mn R.refuse hr (pass1 rfl rfl rfl rfl) (pv 0) (pa_cons (pe_gc R.t.na) pa_nil)))) pss_nil)
    (pss_one (ps_ret (pe_ofN (pen_mn0 R.take hr pass0 (pv 0))))), ?_⟩)
  · obtain ⟨rd, ids, l, i, x, v, rfl, _⟩ := h
    rfl
  · obtain ⟨rd, ids, l, i, x, v, rfl, hR, hx, kE, k⟩ := h
    obtain ⟨dx, L, ps, h1, h2, h3, h4⟩ := id hR
    refine ⟨_, rfl, rd, dx, _, rfl, h1, rfl, _, rfl, rd, ids, l, i, x, v, rfl, hR, hx, fun H1 e1 => ⟨_, rfl, ?_⟩⟩
    have hR1 := hR.ex e1
    have h11 := e1 _ _ h1
    cases hs : standsB x.tok v with
    | true => exact iteF ⟨_, rfl, rd, dx, _, rfl, h11, rfl, rd, ids, l, i, x, rfl, hR1, hx, fun H' u hR' hb _ _ => k hs H' hR' ((But.of e1).trans hb)⟩
    | false => exact iteT ⟨_, rfl, rd, dx, _, rfl, h11, rfl, rd, ids, l, i, 3, x, rfl, hR1, hx, (kE hs).ex e1⟩
/-! ### take_one_of -/
abbrev sRdOne : Stmt := inClass (top 74) 6
theorem sc_rd_one : FnScope ["self", "choices"] ["self", "choices"] (defScope sRdOne) := ⟨rfl, rfl, rfl, by decide +kernel, rfl, by decide +kernel, by decide +kernel⟩
def oneOf (t : VasedBase.Tok) (ws : List (List UInt8)) : Bool := match t with
  | .name w => RESERVED.contains w && ws.contains w
  | _ => false
def spTakeOne (K : PySem.W.Frag) (CR CT CF : Addr) : Sp := fun vs H Q E => ∃ (rd c : Addr) (ids : Nat → Nat) (l : Toks) (i : Nat) (x : PTok) (ws : List (List UInt8)), vs = [.ref rd, .ref c] ∧ Rd CR CT H rd ids l i ∧ l[i]? = some x ∧ LexOk l ∧ SqL K H c (ws.map fun w => V.str (S w)) ∧
  ws.contains [] = false ∧ ws.contains [59] = false ∧ (oneOf x.tok ws = false → FaultE CF 3 x.place H E) ∧ (oneOf x.tok ws = true → ∀ H', Rd CR CT H' rd ids l (i + 1) → But [rd] H H' → Q (pval x.tok) H')
theorem S_emp : S [] = "" := rfl
theorem S_59 : S [59] = ⟨#[59]⟩ := rfl
theorem ok_rd_one {f CR CT CF : Addr} {fd : FuncData} (F : Fun K "take_one_of" "Reader.take_one_of" sRdOne f fd) (R : RdK P w K mg base CR CT CF) : FnOk P w K mg base (L2.CX P w) 4 f fd ["self", "choices"] (spTakeOne K CR CT CF) := by
  refine F.okX sc_rd_one (fun vs H Q E h => ?_) (fun cdv A outer s H vs Q E hr h => ⟨_, pss_cons (ps_if (PW.pt (pw_or (pt_cmpR op_ne (pe_tf R.t.t.cl R.t.t.nK (pe_mn0 R.here hr pass0 (pv 0))) (pe_gc R.t.own) (nomark _)) (pw_or1 (pt_cmpR op_notIn_seq (pe_tf R.t.t.cl R.t.t.nV (pe_mn0 R.here hr pass0 (pv 0))) (pv 1) (by with_unfolding_all rfl)))))
    (pss_one (ps_expr (pe_mn R.refuse hr (pass1 rfl rfl rfl rfl) (pv 0) (pa_cons (pe_gc R.t.na) pa_nil)))) pss_nil) (pss_one (ps_ret (pe_ofN (pen_mn0 R.take hr pass0 (pv 0))))), ?_⟩)
  · obtain ⟨rd, c, ids, l, i, x, ws, rfl, _⟩ := h
    rfl
  · obtain ⟨rd, c, ids, l, i, x, ws, rfl, hR, hx, hl, hc, n0, n59, kE, k⟩ := h
    obtain ⟨dx, L, ps, h1, h2, h3, h4⟩ := id hR
    refine ⟨_, rfl, rd, dx, _, rfl, h1, rfl, rd, ids, l, i, x, rfl, hR, hx, fun H1 p be e1 ht => ?_⟩
    obtain ⟨a, b, c', d, ⟨dt, ob⟩, ra, rb, rc, rd', _⟩ := id ht
    have hR1 := hR.ex e1
    have h11 := e1 _ _ h1
    refine ⟨p, dt, _, a, _, rfl, ob, tokMap_k a b c' d, ra, rfl, _, rfl, ?_⟩
    cases hk : decide (V.str (pkind x.tok) = V.str "own") with
    | false =>
      refine iteT (iteT ⟨_, rfl, rd, dx, _, rfl, h11, rfl, rd, ids, l, i, 3, x, rfl, hR1, hx, (kE ?_).ex e1⟩)
      rw [str_dec] at hk
      unfold oneOf
      split
      · rename_i w' ew
        rw [ew] at hk
        unfold pkind at hk
        cases hr' : RESERVED.contains w' with
        | false => rfl
        | true =>
          simp only [hr', if_true] at hk
          exact absurd hk (by decide)
      · rfl
    | true =>
      refine iteF ⟨_, rfl, rd, dx, _, rfl, h11, rfl, rd, ids, l, i, x, rfl, hR1, hx, fun H2 p2 be2 e2 ht2 => ?_⟩
      obtain ⟨a2, b2, c2, d2, ⟨dt2, ob2⟩, ra2, rb2, rc2, rd2, _⟩ := ht2
      have hR2 := hR1.ex e2
      have h12 := e2 _ _ h11
      have fl : flatV (pval x.tok) = true := by cases x.tok <;> rfl
      refine ⟨p2, dt2, _, b2, _, rfl, ob2, tokMap_v a2 b2 c2 d2, rb2, _, rfl, c, _, rfl, .inl (ex_l (e1.trans e2) hc), fl, flat_words ws, _, rfl, ?_⟩
      have key : inV (pval x.tok) (ws.map fun w => V.str (S w)) = oneOf x.tok ws := by
        rw [str_dec] at hk
        rcases hl.tok hx with e | e | ⟨w', e, _⟩ | ⟨n, e⟩
        · rw [e]
          show inV (.str "") _ = false
          rw [← S_emp, inV_words, n0]
        · rw [e]
          show inV (.str ⟨#[59]⟩) _ = false
          rw [← S_59, inV_words, n59]
        · rw [e] at hk ⊢
          show inV (.str (S w')) _ = (RESERVED.contains w' && ws.contains w')
          rw [inV_words]
          unfold pkind at hk
          cases hr' : RESERVED.contains w' with
          | true => rw [Bool.true_and]
          | false =>
            simp only [hr', Bool.false_eq_true, if_false] at hk
            exact absurd hk (by decide)
        · rw [e] at hk
          exact absurd (show (("number" : Str) == "own") = true from hk) (by decide)
      show if (!inV _ _) = true then _ else _
      rw [key]
      cases ho : oneOf x.tok ws with
      | true => exact iteF ⟨_, rfl, rd, dx, _, rfl, h12, rfl, rd, ids, l, i, x, rfl, hR2, hx, fun H' u hR' hb _ _ => k ho H' hR' ((But.of (e1.trans e2)).trans hb)⟩
      | false => exact iteT ⟨_, rfl, rd, dx, _, rfl, h12, rfl, rd, ids, l, i, 3, x, rfl, hR2, hx, (kE ho).ex (e1.trans e2)⟩

/-! ### take_letters -/
theorem drop_at {l : Toks} {i : Nat} {x : PTok} (h : l[i]? = some x) : l.drop i = x :: l.drop (i + 1) := drop_get h
theorem here_at {l : Toks} {i : Nat} {x : PTok} (h : l[i]? = some x) : here (l.drop i) = x.place := by rw [drop_at h]; rfl
theorem letters_at {l : Toks} {i : Nat} {x : PTok} (h : l[i]? = some x) : takeLetters (l.drop i) = match x.tok with
    | .name w => if RESERVED.contains w = true then .error ⟨3, x.place⟩ else .ok (w, l.drop (i + 1))
    | _ => .error ⟨3, x.place⟩ := by
  rw [drop_at h]
  obtain ⟨p, t⟩ := x
  unfold takeLetters VasedBase.takeName
  cases t with
  | name w =>
    show Except.map _ (if RESERVED.contains w = true then _ else _) = (if RESERVED.contains w = true then _ else _)
    by_cases hr : RESERVED.contains w = true
    · rw [if_pos hr, if_pos hr]; rfl
    · rw [if_neg hr, if_neg hr]; rfl
  | num n => rfl
  | sign c => rfl
  | last => rfl
abbrev sRdLetters : Stmt := inClass (top 74) 7
theorem sc_rd_letters : FnScope ["self"] ["self"] (defScope sRdLetters) := ⟨rfl, rfl, rfl, by decide +kernel, rfl, by decide +kernel, by decide +kernel⟩
def spLettN (CR CT CF : Addr) : NSp := fun m vs H Q E => ∃ (rd : Addr) (ids : Nat → Nat) (l : Toks) (i : Nat) (x : PTok), vs = [.ref rd] ∧ Rd CR CT H rd ids l i ∧ l[i]? = some x ∧ (∀ f, takeLetters (l.drop i) = .error f → FaultE CF f.code f.place H E) ∧
  (∀ w r, takeLetters (l.drop i) = .ok (w, r) → x.tok = .name w → r = l.drop (i + 1) → ∀ H', Rd CR CT H' rd ids l (i + 1) → But [rd] H H' → Q (.str (S w) (ids i)) (.str (S w)) m H')
theorem okN_rd_letters {f CR CT CF : Addr} {fd : FuncData} (F : Fun K "take_letters" "Reader.take_letters" sRdLetters f fd) (R : RdK P w K mg base CR CT CF) : FnN P w K mg base (L2.CX P w) 4 f fd ["self"] (spLettN CR CT CF) := by
  refine fnN_ok F sc_rd_letters (fun m vs H Q E h => ?_) (fun cdv m A outer s H vs Q E hr h => ⟨_, pssN_cons (psN_of (ps_if (pt_cmpR op_ne (pe_tf R.t.t.cl R.t.t.nK (pe_mn0 R.here hr pass0 (pv 0))) (pe_gc R.t.lets) (nomark _))
    (pss_one (ps_expr (pe_mn R.refuse hr (pass1 rfl rfl rfl rfl) (pv 0) (pa_cons (pe_gc R.t.na) pa_nil)))) pss_nil)) (pssN_one (psN_ret (pen_mn0 R.take hr pass0 (pv 0)))), ?_⟩)
  · obtain ⟨rd, ids, l, i, x, rfl, _⟩ := h
    rfl
  · obtain ⟨rd, ids, l, i, x, rfl, hR, hx, kE, k⟩ := h
    obtain ⟨dx, L, ps, h1, h2, h3, h4⟩ := id hR
    refine ⟨_, rfl, rd, dx, _, rfl, h1, rfl, rd, ids, l, i, x, rfl, hR, hx, fun H1 p be e1 ht => ?_⟩
    obtain ⟨a, b, c', d, ⟨dt, ob⟩, ra, rb, rc, rd', _⟩ := id ht
    have hR1 := hR.ex e1
    have h11 := e1 _ _ h1
    rw [letters_at hx] at kE k
    refine ⟨p, dt, _, a, _, rfl, ob, tokMap_k a b c' d, ra, rfl, _, rfl, ?_⟩
    have bad : (∀ w, x.tok = .name w → RESERVED.contains w = true) → FaultE CF 3 x.place H E := fun hb => kE ⟨3, x.place⟩ (by
      split
      · rename_i w' ew
        rw [if_pos (hb w' ew)]
      · rfl)
    cases hk : decide (V.str (pkind x.tok) = V.str "letters") with
    | false =>
      refine iteT ⟨_, rfl, rd, dx, _, rfl, h11, rfl, rd, ids, l, i, 3, x, rfl, hR1, hx, (bad fun w' ew => ?_).ex e1⟩
      rw [str_dec, ew] at hk
      unfold pkind at hk
      cases hr' : RESERVED.contains w' with
      | true => rfl
      | false =>
        simp only [hr', Bool.false_eq_true, if_false] at hk
        exact absurd hk (by decide)
    | true =>
      rw [str_dec] at hk
      have nm : ∃ w', x.tok = .name w' ∧ RESERVED.contains w' = false := by
        cases ex : x.tok with
        | name w' =>
          rw [ex] at hk
          unfold pkind at hk
          cases hr' : RESERVED.contains w' with
          | false => exact ⟨w', rfl, hr'⟩
          | true =>
            simp only [hr', if_true] at hk
            exact absurd hk (by decide)
        | num n => rw [ex] at hk; exact absurd (show (("number" : Str) == "letters") = true from hk) (by decide)
        | sign c => rw [ex] at hk; exact absurd (show (("own" : Str) == "letters") = true from hk) (by decide)
        | last => rw [ex] at hk; exact absurd (show (("own" : Str) == "letters") = true from hk) (by decide)
      obtain ⟨w', ew, hr'⟩ := nm
      refine iteF ⟨_, rfl, rd, dx, _, rfl, h11, rfl, rd, ids, l, i, x, rfl, hR1, hx, fun H' u hR' hb ru hn => ?_⟩
      have eu := hn w' ew
      subst eu
      rw [ew] at k
      have z := k w' _ (by show (if RESERVED.contains w' = true then _ else _) = _; rw [if_neg (by rw [hr']; exact Bool.false_ne_true)]) rfl rfl H' hR' ((But.of e1).trans hb)
      rw [ew]
      exact z
/-! ### take_number -/
theorem num_at {l : Toks} {i lo hi : Nat} {x : PTok} (h : l[i]? = some x) : takeNum lo hi (l.drop i) = match x.tok with
    | .num n => if n < lo ∨ hi < n then .error ⟨7, x.place⟩ else .ok (n, l.drop (i + 1))
    | _ => .error ⟨3, x.place⟩ := by
  rw [drop_at h]
  obtain ⟨p, t⟩ := x
  cases t <;> rfl
abbrev sRdNumber : Stmt := inClass (top 74) 8
theorem sc_rd_number : FnScope ["self", "least", "greatest"] ["self", "least", "greatest"] (defScope sRdNumber) := ⟨rfl, rfl, rfl, by decide +kernel, rfl, by decide +kernel, by decide +kernel⟩
def spNum (CR CT CF : Addr) : Sp := fun vs H Q E => ∃ (rd : Addr) (ids : Nat → Nat) (l : Toks) (i lo hi : Nat) (x : PTok), vs = [.ref rd, .int (lo : Nat), .int (hi : Nat)] ∧ Rd CR CT H rd ids l i ∧ l[i]? = some x ∧ (∀ f, takeNum lo hi (l.drop i) = .error f → FaultE CF f.code f.place H E) ∧
  (∀ n r, takeNum lo hi (l.drop i) = .ok (n, r) → x.tok = .num n → r = l.drop (i + 1) → ∀ H', Rd CR CT H' rd ids l (i + 1) → But [rd] H H' → Q (.int (n : Nat)) H')
theorem ok_rd_number {f CR CT CF : Addr} {fd : FuncData} (F : Fun K "take_number" "Reader.take_number" sRdNumber f fd) (R : RdK P w K mg base CR CT CF) : FnOk P w K mg base (L2.CX P w) 4 f fd ["self", "least", "greatest"] (spNum CR CT CF) := by
  refine F.okX sc_rd_number (fun vs H Q E h => ?_) (fun cdv A outer s H vs Q E hr h => ⟨_, pss_cons (ps_if (pt_cmpR op_ne (pe_tf R.t.t.cl R.t.t.nK (pe_mn0 R.here hr pass0 (pv 0))) (pe_gc R.t.num) (nomark _))
      (pss_one (ps_expr (pe_mn R.refuse hr (pass1 rfl rfl rfl rfl) (pv 0) (pa_cons (pe_gc R.t.na) pa_nil)))) pss_nil)
    (pss_cons (ps_if (pt_not (pt_chain op_le op_le (pv 1) (pe_tf R.t.t.cl R.t.t.nV (pe_mn0 R.here hr pass0 (pv 0))) (pv 2))) (pss_one (ps_expr (pe_mn R.refuse hr (pass1 rfl rfl rfl rfl) (pv 0) (pa_cons (pe_gc R.t.ob) pa_nil)))) pss_nil)
    (pss_one (ps_ret (pe_ofN (pen_mn0 R.take hr pass0 (pv 0)))))), ?_⟩)
  · obtain ⟨rd, ids, l, i, lo, hi, x, rfl, _⟩ := h
    rfl
  · obtain ⟨rd, ids, l, i, lo, hi, x, rfl, hR, hx, kE, k⟩ := h
    obtain ⟨dx, L, ps, h1, h2, h3, h4⟩ := id hR
    refine ⟨_, rfl, rd, dx, _, rfl, h1, rfl, rd, ids, l, i, x, rfl, hR, hx, fun H1 p be e1 ht => ?_⟩
    obtain ⟨a, b, c', d, ⟨dt, ob⟩, ra, rb, rc, rd', _⟩ := id ht
    have hR1 := hR.ex e1
    have h11 := e1 _ _ h1
    rw [num_at hx] at kE k
    refine ⟨p, dt, _, a, _, rfl, ob, tokMap_k a b c' d, ra, rfl, _, rfl, ?_⟩
    cases hk : decide (V.str (pkind x.tok) = V.str "number") with
    | false =>
      refine iteT ⟨_, rfl, rd, dx, _, rfl, h11, rfl, rd, ids, l, i, 3, x, rfl, hR1, hx, (kE ⟨3, x.place⟩ ?_).ex e1⟩
      split
      · rename_i n ew
        rw [str_dec, ew] at hk
        exact absurd (show (("number" : Str) == "number") = false from hk) (by decide)
      · rfl
    | true =>
      rw [str_dec] at hk
      have nm : ∃ n, x.tok = .num n := by
        cases ex : x.tok with
        | num n => exact ⟨n, rfl⟩
        | name w' =>
          rw [ex] at hk
          unfold pkind at hk
          cases hr' : RESERVED.contains w' with
          | false =>
            simp only [hr', Bool.false_eq_true, if_false] at hk
            exact absurd hk (by decide)
          | true =>
            simp only [hr', if_true] at hk
            exact absurd hk (by decide)
        | sign c => rw [ex] at hk; exact absurd (show (("own" : Str) == "number") = true from hk) (by decide)
        | last => rw [ex] at hk; exact absurd (show (("own" : Str) == "number") = true from hk) (by decide)
      obtain ⟨n, en⟩ := nm
      rw [en] at kE k
      refine iteF ⟨_, rfl, _, rfl, rd, dx, _, rfl, h11, rfl, rd, ids, l, i, x, rfl, hR1, hx, fun H2 p2 be2 e2 ht2 => ?_⟩
      obtain ⟨a2, b2, c2, d2, ⟨dt2, ob2⟩, ra2, rb2, rc2, rd2, _⟩ := ht2
      have hR2 := hR1.ex e2
      have h12 := e2 _ _ h11
      rw [en] at rb2
      have e02 := e1.trans e2
      refine ⟨p2, dt2, _, b2, .int (n : Nat), rfl, ob2, tokMap_v a2 b2 c2 d2, rb2, _, _, rfl, rfl, _, rfl, ?_⟩
      have out : ¬ (lo ≤ n ∧ n ≤ hi) → FaultE CF 7 x.place H E := fun hb => kE ⟨7, x.place⟩ (by
        show (if n < lo ∨ hi < n then _ else _) = _
        rw [if_pos (by omega)])
      have refuse7 : ¬ (lo ≤ n ∧ n ≤ hi) → FaultE CF 7 x.place H2 E := fun hb => (out hb).ex e02
      by_cases hlo : lo ≤ n
      · rw [decide_eq_true (show (lo : Int) ≤ (n : Nat) by omega)]
        refine iteT ⟨_, rfl, _, _, rfl, rfl, _, rfl, ?_⟩
        by_cases hhi : n ≤ hi
        · rw [decide_eq_true (show (n : Int) ≤ (hi : Nat) by omega)]
          refine iteF ⟨_, rfl, rd, dx, _, rfl, h12, rfl, rd, ids, l, i, x, rfl, hR2, hx, fun H' u hR' hb _ _ => ?_⟩
          have z := k n _ (by
            show (if n < lo ∨ hi < n then _ else _) = _
            rw [if_neg (by omega)]) rfl rfl H' hR' ((But.of e02).trans hb)
          rw [en]
          exact z
        · rw [decide_eq_false (show ¬ (n : Int) ≤ (hi : Nat) by omega)]
          exact iteT ⟨_, rfl, rd, dx, _, rfl, h12, rfl, rd, ids, l, i, 7, x, rfl, hR2, hx, refuse7 (fun z => hhi z.2)⟩
      · rw [decide_eq_false (show ¬ (lo : Int) ≤ (n : Nat) by omega)]
        refine iteF ⟨_, rfl, ?_⟩
        exact iteT ⟨_, rfl, rd, dx, _, rfl, h12, rfl, rd, ids, l, i, 7, x, rfl, hR2, hx, refuse7 (fun z => hlo z.1)⟩
end LE

/-! LP1: what stands, in the specification's words; addresses without their nots. -/
namespace LE
open PySem PySem.Spec PyProof.Rows L2 Evl
open VasedBase (isLetter isDigit PTok Toks RESERVED tokEq here nextWord next word wrong Fault)
open Vaseda (takeNum takeLetters takeAddr)
theorem stands_word {t : VasedBase.Tok} {v : List UInt8} (hr : RESERVED.contains v = true) (h2 : 2 ≤ v.length) : standsB t (S v) = tokEq t (.name v) := by
  unfold standsB
  cases t with
  | name w =>
    show ((if RESERVED.contains w = true then ("own" : Str) else "letters") == "own" && decide (V.str (S w) = V.str (S v))) = (w == v)
    rw [S_dec]
    by_cases e : w = v
    · subst e
      rw [hr]
      simp
    · rw [decide_eq_false e, Bool.and_false]
      exact (beq_eq_false_iff_ne.mpr e).symm
  | num n =>
    show ((("number" : Str) == "own") && _) = false
    rw [show (("number" : Str) == "own") = false by decide, Bool.false_and]
  | sign c =>
    show ((("own" : Str) == "own") && decide (V.str ⟨#[c]⟩ = V.str (S v))) = false
    rw [decide_eq_false, Bool.and_false]
    intro e
    have z := congrArg Str.length (V.str.inj e)
    rw [S_len] at z
    have z2 : 1 = v.length := z
    omega
  | last =>
    show ((("own" : Str) == "own") && decide (V.str "" = V.str (S v))) = false
    rw [decide_eq_false, Bool.and_false]
    intro e
    have z := congrArg Str.length (V.str.inj e)
    rw [S_len] at z
    have z2 : 0 = v.length := z
    omega
theorem stands_sign {t : VasedBase.Tok} : standsB t ";" = tokEq t (.sign 59) := by
  unfold standsB
  have es : (";" : Str) = S [59] := by decide +kernel
  rw [es]
  cases t with
  | name w =>
    show ((if RESERVED.contains w = true then ("own" : Str) else "letters") == "own" && decide (V.str (S w) = V.str (S [59]))) = false
    rw [S_dec]
    by_cases e : w = [59]
    · subst e
      decide +kernel
    · rw [decide_eq_false e, Bool.and_false]
  | num n =>
    show ((("number" : Str) == "own") && _) = false
    rw [show (("number" : Str) == "own") = false by decide, Bool.false_and]
  | sign c =>
    show ((("own" : Str) == "own") && decide (V.str ⟨#[c]⟩ = V.str (S [59]))) = (c == 59)
    rw [show (("own" : Str) == "own") = true by decide, Bool.true_and]
    by_cases e : c = 59
    · subst e
      rfl
    · rw [decide_eq_false, beq_eq_false_iff_ne.mpr e]
      intro z
      have z1 := congrArg (fun s : Str => s.cps.toList) (V.str.inj z)
      have z2 : [c] = [59] := z1
      exact e (by simpa using z2)
  | last =>
    show ((("own" : Str) == "own") && decide (V.str "" = V.str (S [59]))) = false
    decide +kernel
theorem stands_end {t : VasedBase.Tok} : standsB t "" = tokEq t .last := by
  unfold standsB
  have es : ("" : Str) = S [] := rfl
  rw [es]
  cases t with
  | name w =>
    show ((if RESERVED.contains w = true then ("own" : Str) else "letters") == "own" && decide (V.str (S w) = V.str (S []))) = false
    rw [S_dec]
    by_cases e : w = []
    · subst e
      decide +kernel
    · rw [decide_eq_false e, Bool.and_false]
  | num n =>
    show ((("number" : Str) == "own") && _) = false
    rw [show (("number" : Str) == "own") = false by decide, Bool.false_and]
  | sign c =>
    show ((("own" : Str) == "own") && decide (V.str ⟨#[c]⟩ = V.str (S []))) = false
    rw [decide_eq_false, Bool.and_false]
    intro e
    have z : 1 = 0 := congrArg Str.length (V.str.inj e)
    cases z
  | last =>
    show ((("own" : Str) == "own") && decide (V.str "" = V.str (S []))) = true
    decide +kernel
theorem next_at {l : Toks} {i : Nat} {x : PTok} {t : VasedBase.Tok} (h : l[i]? = some x) : next t (l.drop i) = tokEq x.tok t := by rw [drop_at h]; rfl
theorem nextWord_at {l : Toks} {i : Nat} {x : PTok} {s : String} (h : l[i]? = some x) : nextWord s (l.drop i) = tokEq x.tok (.name (word s)) := next_at h
theorem drop1 {l : Toks} {i : Nat} : (l.drop i).drop 1 = l.drop (i + 1) := List.drop_drop
/-- an address that does not begin with not -/
def takeBase (l : Toks) : Except Fault (Vaseda.Addr × Toks) :=
    if nextWord "all" l = true then .ok (.all, l.drop 1)
    else if nextWord "line" l = true then (takeNum 1 Vaseda.LINE (l.drop 1)).map fun x => (.line x.1, x.2)
    else if nextWord "from" l = true then (takeNum 1 Vaseda.LINE (l.drop 1)).bind fun x => (VasedBase.takeWord "to" x.2).bind fun l => (takeNum x.1 Vaseda.LINE l).map fun y => (.span x.1 y.1, y.2)
    else if nextWord "last" l = true then .ok (.last, l.drop 1)
    else if nextWord "has" l = true then (takeLetters (l.drop 1)).map fun x => (.has x.1, x.2)
    else if nextWord "is" l = true then (takeLetters (l.drop 1)).map fun x => (.is_ x.1, x.2)
    else wrong l
def notN : Nat → Vaseda.Addr × Toks → Vaseda.Addr × Toks
  | 0, x => x
  | n + 1, x => (.not (notN n x).1, (notN n x).2)
theorem tokEq_name {t : VasedBase.Tok} {v : List UInt8} (h : tokEq t (.name v) = true) : t = .name v := by
  cases t with
  | name w => rw [show w = v from eq_of_beq h]
  | num n => exact absurd h (by simp [tokEq])
  | sign c => exact absurd h (by simp [tokEq])
  | last => exact absurd h (by simp [tokEq])
theorem nw_ne {l : Toks} {a b : String} (h : nextWord a l = true) (n : word a ≠ word b := by decide +kernel) : nextWord b l = false := by
  cases l with
  | nil => rfl
  | cons x r =>
    have e := tokEq_name (show tokEq x.tok (.name (word a)) = true from h)
    show tokEq x.tok (.name (word b)) = false
    rw [e]
    exact beq_eq_false_iff_ne.mpr n
theorem addr_base {f n : Nat} {l : Toks} (h : nextWord "not" l = false) : takeAddr (f + 1) n l = takeBase l := by
  unfold takeBase
  rw [takeAddr, h]
  simp only [Bool.false_eq_true, if_false]
theorem addr_not {f n : Nat} {l : Toks} (h : nextWord "not" l = true) : takeAddr (f + 1) n l = if 3 ≤ n then .error ⟨4, here l⟩ else (takeAddr f (n + 1) (l.drop 1)).map fun x => (.not x.1, x.2) := by
  rw [takeAddr, nw_ne (b := "all") h, nw_ne (b := "line") h, nw_ne (b := "from") h, nw_ne (b := "last") h, nw_ne (b := "has") h, nw_ne (b := "is") h, h]
  simp only [Bool.false_eq_true, if_false, if_true]
  rfl
theorem strip_notN (n : Nat) (x : Vaseda.Addr × Toks) : strip (notN n x).1 = strip x.1 := by
  induction n with
  | zero => rfl
  | succ n ih =>
    show strip (notN n x).1 = _
    exact ih
end LE

/-! LDo: one deed on a line. -/
namespace LE
open PySem PySem.Spec PyProof.Rows L2 Evl
open Vaseda (Work Out Deed Cmd)
variable {P : Program} {w : World} {K : PySem.W.Frag} {mg : Str → Option Value} {base : Heap}
/-- a deed as Python's tuple -/
def dv : Deed → List V
  | .delete => [.str "delete"]
  | .before y => [.str "before", .str (S y)]
  | .after y => [.str "after", .str (S y)]
  | .change y => [.str "change", .str (S y)]
  | .swap a b => [.str "swap", .str (S a), .str (S b)]
  | .first a b => [.str "first", .str (S a), .str (S b)]
  | .keep => [.str "keep"]
  | .bring => [.str "bring"]
  | .trade => [.str "trade"]
  | .skip n => [.str "skip", .int (n : Nat)]
  | .halt_ => [.str "stop"]
def dtok (o : Obj) : Deed → Prop
  | .swap a b => DeedTok o (S a) (S b)
  | .first a b => DeedTok o (S a) (S b)
  | _ => True
/-- the deed's tuple stands at t, and its object is known -/
def DeedAt (H : Hp) (t : Addr) (d : Deed) : Prop := ∃ o, H t = some (.frz o (.tup (dv d))) ∧ dtok o d
theorem DeedAt.ex {H H' : Hp} {t : Addr} {d : Deed} (h : DeedAt H t d) (e : Ex H H') : DeedAt H' t d := by
  obtain ⟨o, a, b⟩ := h
  exact ⟨o, e _ _ a, b⟩
theorem DeedAt.sq {H : Hp} {t : Addr} {d : Deed} (h : DeedAt H t d) : SqT K H t (dv d) := by
  obtain ⟨o, a, _⟩ := h
  exact .inl (.inr ⟨o, a⟩)
/-- letters that a script can tell -/
def wl (y : List UInt8) : Prop := y ≠ [] ∧ y.length ≤ 8
def wfD : Deed → Prop
  | .before y => wl y
  | .after y => wl y
  | .change y => wl y
  | .swap a b => wl a ∧ b.length ≤ 8
  | .first a b => wl a ∧ b.length ≤ 8
  | _ => True
/-- a deed that is done by do -/
def plainD : Deed → Bool
  | .delete => false
  | .skip _ => false
  | .halt_ => false
  | _ => true
/-- what a line may be while it is worked -/
structure WkOk (w : Work) : Prop where
  x : w.x.length ≤ 16
  h : w.held.length ≤ 16
  g : w.gone = false
  b : w.bad = false
theorem swap_len (a b : List UInt8) (once : Bool) (ha : a ≠ []) (hb : b.length ≤ 8) : ∀ (n : Nat) (x : List UInt8), (Vaseda.swapBy a b once n x).length ≤ 8 * x.length + x.length
  | 0, x => by
    show x.length ≤ _
    omega
  | n + 1, [] => Nat.zero_le _
  | n + 1, c :: r => by
    have hal : 1 ≤ a.length := by
      cases a with
      | nil => exact absurd rfl ha
      | cons _ _ => simp
    show (if Vaseda.begins a (c :: r) = true then b ++ (if once = true then (c :: r).drop a.length else Vaseda.swapBy a b once n ((c :: r).drop a.length)) else c :: Vaseda.swapBy a b once n r).length ≤ _
    have h1 := swap_len a b once ha hb n ((c :: r).drop a.length)
    have h2 := swap_len a b once ha hb n r
    have h3 : ((c :: r).drop a.length).length ≤ r.length := by
      rw [List.length_drop, List.length_cons]
      omega
    rw [List.length_cons]
    split
    · rw [List.length_append]
      split <;> omega
    · rw [List.length_cons]
      omega
structure TxtDo (K : PySem.W.Frag) (CP : Addr) : Prop where
  tp : TxtPass K CP
  nb : ∀ h, K.In h → NoneBooked h
abbrev sDo : Stmt := top 38
theorem sc_do : FnScope ["deed", "passage", "word", "held"] ["deed", "passage"] (defScope sDo) := ⟨rfl, rfl, rfl, by decide +kernel, rfl, by decide +kernel, by decide +kernel⟩
def spDo (CP TM : Addr) : Sp := fun vs H Q E => ∃ (td p la lb : Addr) (d : Deed) (k c : Nat) (x : List UInt8) (w : Work), vs = [.ref td, .ref p] ∧ DeedAt H td d ∧ wfD d ∧ plainD d = true ∧ PassAt CP H p la lb k x w ∧ WkOk w ∧ (w.pre.length ≤ 1000 ∧ w.post.length ≤ 1000) ∧
  ((Vaseda.deed k c w d).bad = true → ∀ H', But [p, la, lb] H H' → E (.ref TM) none H') ∧
  ((Vaseda.deed k c w d).bad = false → ∀ H', PassAt CP H' p la lb k x (Vaseda.deed k c w d) → But [p, la, lb] H H' → Q .non H')
theorem ok_do {f CP TM : Addr} {fd : FuncData} (F : Fun K "do" "do" sDo f fd) (T : TxtDo K CP) (gl : Dn P w K mg base (L2.CX P w) 1 "not_too_long" (spNotLong TM) 1) : FnOk P w K mg base (L2.CX P w) 2 f fd ["deed", "passage"] (spDo CP TM) := by
  refine F.okX sc_do (fun vs H Q E h => ?_) (fun cdv A outer s H vs Q E hr h => ⟨_, pss_cons (ps_set (i := 2) sc_do.nd rfl (.inl rfl) (pe_ix ix_tup (pv 0) pe_int (fun _ _ => rfl)))
    (pss_one (ps_if (pt_cmpR op_eq (pv 2) pe_str (nomark _)) (pss_one (ps_expr (pe_bm PySem.F.plainAttrs_list PySem.F.slot_list_append PySem.F.type_list_append mt_append (pe_fld (pv 1) rfl) (pa_cons (pe_ix ix_tup (pv 0) pe_int (fun _ _ => rfl)) pa_nil))))
    (pss_one (ps_if (pt_cmpR op_eq (pv 2) pe_str (nomark _)) (pss_one (ps_expr (pe_bm PySem.F.plainAttrs_list PySem.F.slot_list_append PySem.F.type_list_append mt_append (pe_fld (pv 1) rfl) (pa_cons (pe_ix ix_tup (pv 0) pe_int (fun _ _ => rfl)) pa_nil))))
    (pss_one (ps_if (pt_cmpR op_eq (pv 2) pe_str (nomark _)) (pss_one (ps_expr (pe_bm PySem.F.plainAttrs_list PySem.F.slot_list_append PySem.F.type_list_append mt_append (pe_fld (pv 1) rfl) (pa_cons (pe_fld (pv 1) rfl) pa_nil))))
    (pss_one (ps_if (pt_cmpR op_eq (pv 2) pe_str (nomark _)) (pss_one (ps_fld (pv 1) (pe_fld (pv 1) rfl) rfl))
    (pss_one (ps_if (pt_cmpR op_eq (pv 2) pe_str (nomark _)) (pss_cons (ps_set (i := 3) sc_do.nd rfl (.inl rfl) (pe_fld (pv 1) rfl)) (pss_cons (ps_fld (pv 1) (pe_fld (pv 1) rfl) rfl) (pss_one (ps_fld (pv 1) (pv 3) rfl))))
    (pss_one (ps_if (pt_cmpR op_eq (pv 2) pe_str (nomark _)) (pss_one (ps_fld (pv 1) (pe_ix ix_tup (pv 0) pe_int (fun _ _ => rfl)) rfl))
    (pss_one (ps_if (pt_cmpR op_eq (pv 2) pe_str (nomark _)) (pss_one (ps_fld (pv 1) (pe_dn gl hr (pass1 rfl rfl rfl rfl) (pa_cons (pe_rep2 (i := 0) T.nb (pe_fld (pv 1) rfl) rfl (.inl rfl)) pa_nil)) rfl))
    (pss_one (ps_if (pt_cmpR op_eq (pv 2) pe_str (nomark _)) (pss_one (ps_fld (pv 1) (pe_dn gl hr (pass1 rfl rfl rfl rfl) (pa_cons (pe_rep3 (i := 0) T.nb (pe_fld (pv 1) rfl) rfl (.inl rfl)) pa_nil)) rfl))
    pss_nil)))))))))))))))), ?_⟩)
  · obtain ⟨td, p, la, lb, d, k, c, x, w, rfl, _⟩ := h
    rfl
  · obtain ⟨td, p, la, lb, d, k, c, x, w, rfl, hd, wf, pl, hP, ok, hz, kE, kk⟩ := h
    obtain ⟨⟨dx, hp⟩, ha, hb, nab⟩ := id hP
    have nap : la ≠ p := ins_lst hp ha
    have nbp : lb ≠ p := ins_lst hp hb
    have B0 : But [p, la, lb] H H := But.of (Ex.refl H)
    have sq := hd.sq (K := K)
    have TP := T.tp
    have hg := ok.g
    have hbad := ok.b
    cases d with
    | delete => cases pl
    | skip n => cases pl
    | halt_ => cases pl
    | before y =>
      refine ⟨_, rfl, td, _, 0, _, rfl, rfl, sq, rfl, _, rfl, rfl, _, rfl, yes ?_⟩
      refine ⟨_, rfl, p, CP, dx, _, _, rfl, hp, TP.cl, TP.nAhead, rfl, .inl ⟨rfl, _, SqL.of ha⟩, ?_⟩
      refine ⟨_, rfl, td, _, 1, _, rfl, rfl, sq, rfl, la, _, _, rfl, rfl, ha, sizeLine_gt (by rw [outs_len]; omega), ?_⟩
      refine kk hbad _ ⟨⟨dx, ?_⟩, ?_, ?_, nab⟩ (B0.upd (by simp))
      · rw [upd_ne (Ne.symm nap)]
        exact hp
      · rw [upd_same]
        exact congrArg (fun z => some (HO.lst z)) (outs_add w.pre ⟨y, k, some c⟩).symm
      · rw [upd_ne (Ne.symm nab)]
        exact hb
    | after y =>
      refine ⟨_, rfl, td, _, 0, _, rfl, rfl, sq, rfl, _, rfl, rfl, _, rfl, no ⟨_, rfl, rfl, _, rfl, yes ?_⟩⟩
      refine ⟨_, rfl, p, CP, dx, _, _, rfl, hp, TP.cl, TP.nBehind, rfl, .inl ⟨rfl, _, SqL.of hb⟩, ?_⟩
      refine ⟨_, rfl, td, _, 1, _, rfl, rfl, sq, rfl, lb, _, _, rfl, rfl, hb, sizeLine_gt (by rw [outs_len]; omega), ?_⟩
      refine kk hbad _ ⟨⟨dx, ?_⟩, ?_, ?_, nab⟩ (B0.upd (by simp))
      · rw [upd_ne (Ne.symm nbp)]
        exact hp
      · rw [upd_ne nab]
        exact ha
      · rw [upd_same]
        exact congrArg (fun z => some (HO.lst z)) (outs_add w.post ⟨y, k, some c⟩).symm
    | bring =>
      refine ⟨_, rfl, td, _, 0, _, rfl, rfl, sq, rfl, _, rfl, rfl, _, rfl, no ⟨_, rfl, rfl, _, rfl, no ⟨_, rfl, rfl, _, rfl, yes ?_⟩⟩⟩
      refine ⟨_, rfl, p, CP, dx, _, _, rfl, hp, TP.cl, TP.nBehind, rfl, .inl ⟨rfl, _, SqL.of hb⟩, ?_⟩
      refine ⟨_, rfl, p, CP, dx, _, _, rfl, hp, TP.cl, TP.nHeld, rfl, lb, _, _, rfl, rfl, hb, sizeLine_gt (by rw [outs_len]; omega), ?_⟩
      refine kk hbad _ ⟨⟨dx, ?_⟩, ?_, ?_, nab⟩ (B0.upd (by simp))
      · rw [upd_ne (Ne.symm nbp)]
        exact hp
      · rw [upd_ne nab]
        exact ha
      · rw [upd_same]
        exact congrArg (fun z => some (HO.lst z)) (outs_add w.post ⟨w.held, k, some c⟩).symm
    | keep =>
      refine ⟨_, rfl, td, _, 0, _, rfl, rfl, sq, rfl, _, rfl, rfl, _, rfl, no ⟨_, rfl, rfl, _, rfl, no ⟨_, rfl, rfl, _, rfl, no ⟨_, rfl, rfl, _, rfl, yes ?_⟩⟩⟩⟩
      refine ⟨_, rfl, p, CP, dx, _, _, rfl, hp, TP.cl, TP.nLine, rfl, _, rfl, p, CP, dx, _, rfl, hp, TP.cl, TP.nHeld, by show 7 < 1000; decide, ?_⟩
      refine kk hbad _ ⟨⟨dx, upd_same⟩, ?_, ?_, nab⟩ (B0.upd (by simp))
      · rw [upd_ne nap]
        exact ha
      · rw [upd_ne nbp]
        exact hb
    | trade =>
      refine ⟨_, rfl, td, _, 0, _, rfl, rfl, sq, rfl, _, rfl, rfl, _, rfl, no ⟨_, rfl, rfl, _, rfl, no ⟨_, rfl, rfl, _, rfl, no ⟨_, rfl, rfl, _, rfl, no ⟨_, rfl, rfl, _, rfl, yes ?_⟩⟩⟩⟩⟩
      refine ⟨_, rfl, p, CP, dx, _, _, rfl, hp, TP.cl, TP.nHeld, rfl, ?_⟩
      refine ⟨_, rfl, p, CP, dx, _, _, rfl, hp, TP.cl, TP.nLine, rfl, _, rfl, p, CP, dx, _, rfl, hp, TP.cl, TP.nHeld, by show 7 < 1000; decide, ?_⟩
      refine ⟨_, rfl, _, rfl, p, CP, dx, _, rfl, upd_same, TP.cl, TP.nLine, by show 7 < 1000; decide, ?_⟩
      rw [upd_upd]
      refine kk hbad _ ⟨⟨dx, upd_same⟩, ?_, ?_, nab⟩ (B0.upd (by simp))
      · rw [upd_ne nap]
        exact ha
      · rw [upd_ne nbp]
        exact hb
    | change y =>
      refine ⟨_, rfl, td, _, 0, _, rfl, rfl, sq, rfl, _, rfl, rfl, _, rfl, no ⟨_, rfl, rfl, _, rfl, no ⟨_, rfl, rfl, _, rfl, no ⟨_, rfl, rfl, _, rfl, no ⟨_, rfl, rfl, _, rfl, no ⟨_, rfl, rfl, _, rfl, yes ?_⟩⟩⟩⟩⟩⟩
      refine ⟨_, rfl, td, _, 1, _, rfl, rfl, sq, rfl, _, rfl, p, CP, dx, _, rfl, hp, TP.cl, TP.nLine, by show 7 < 1000; decide, ?_⟩
      refine kk hbad _ ⟨⟨dx, upd_same⟩, ?_, ?_, nab⟩ (B0.upd (by simp))
      · rw [upd_ne nap]
        exact ha
      · rw [upd_ne nbp]
        exact hb
    | swap a b =>
      obtain ⟨o, ho, hto⟩ := hd
      obtain ⟨⟨wa, wa8⟩, wb⟩ := wf
      have hl := swap_len a b false wa wb (w.x.length + 1) w.x
      have ox := ok.x
      refine ⟨_, rfl, td, _, 0, _, rfl, rfl, sq, rfl, _, rfl, rfl, _, rfl, no ⟨_, rfl, rfl, _, rfl, no ⟨_, rfl, rfl, _, rfl, no ⟨_, rfl, rfl, _, rfl, no ⟨_, rfl, rfl, _, rfl, no ⟨_, rfl, rfl, _, rfl, no ⟨_, rfl, rfl, _, rfl, yes ?_⟩⟩⟩⟩⟩⟩⟩
      refine ⟨_, rfl, p, CP, dx, _, _, rfl, hp, TP.cl, TP.nLine, rfl, S w.x, S a, S b, td, o, _, rfl, rfl, ho, hto, ⟨by rw [S_len]; omega, by rw [S_len]; omega⟩, ?_⟩
      rw [replace_is wa]
      refine ⟨Vaseda.swapIn a b false w.x, rfl, by show (Vaseda.swapBy a b false (w.x.length + 1) w.x).length ≤ _; omega, fun h16 H1 e1 => ?_, fun h16 H1 e1 => ?_⟩
      · refine kE ?_ H1 (But.of e1)
        show (w.bad || decide (Vaseda.LONG < (Vaseda.swapIn a b false w.x).length)) = true
        rw [hbad, Bool.false_or]
        exact decide_eq_true h16
      · refine ⟨_, rfl, p, CP, dx, _, rfl, e1 p _ hp, TP.cl, TP.nLine, by show 7 < 1000; decide, ?_⟩
        refine kk ?_ _ ⟨⟨dx, upd_same⟩, ?_, ?_, nab⟩ ((But.of e1).upd (by simp))
        · show (w.bad || decide (Vaseda.LONG < (Vaseda.swapIn a b false w.x).length)) = false
          rw [hbad, Bool.false_or]
          exact decide_eq_false (show ¬ 16 < _ by omega)
        · rw [upd_ne nap]
          exact e1 la _ ha
        · rw [upd_ne nbp]
          exact e1 lb _ hb
    | first a b =>
      obtain ⟨o, ho, hto⟩ := hd
      obtain ⟨⟨wa, wa8⟩, wb⟩ := wf
      have hl := swap_len a b true wa wb (w.x.length + 1) w.x
      have ox := ok.x
      refine ⟨_, rfl, td, _, 0, _, rfl, rfl, sq, rfl, _, rfl, rfl, _, rfl, no ⟨_, rfl, rfl, _, rfl, no ⟨_, rfl, rfl, _, rfl, no ⟨_, rfl, rfl, _, rfl, no ⟨_, rfl, rfl, _, rfl, no ⟨_, rfl, rfl, _, rfl, no ⟨_, rfl, rfl, _, rfl, no ⟨_, rfl, rfl, _, rfl, yes ?_⟩⟩⟩⟩⟩⟩⟩⟩
      refine ⟨_, rfl, p, CP, dx, _, _, rfl, hp, TP.cl, TP.nLine, rfl, S w.x, S a, S b, td, o, _, rfl, rfl, ho, hto, ⟨by rw [S_len]; omega, by rw [S_len]; omega⟩, ?_⟩
      rw [rep1_is wa]
      refine ⟨Vaseda.swapIn a b true w.x, rfl, by show (Vaseda.swapBy a b true (w.x.length + 1) w.x).length ≤ _; omega, fun h16 H1 e1 => ?_, fun h16 H1 e1 => ?_⟩
      · refine kE ?_ H1 (But.of e1)
        show (w.bad || decide (Vaseda.LONG < (Vaseda.swapIn a b true w.x).length)) = true
        rw [hbad, Bool.false_or]
        exact decide_eq_true h16
      · refine ⟨_, rfl, p, CP, dx, _, rfl, e1 p _ hp, TP.cl, TP.nLine, by show 7 < 1000; decide, ?_⟩
        refine kk ?_ _ ⟨⟨dx, upd_same⟩, ?_, ?_, nab⟩ ((But.of e1).upd (by simp))
        · show (w.bad || decide (Vaseda.LONG < (Vaseda.swapIn a b true w.x).length)) = false
          rw [hbad, Bool.false_or]
          exact decide_eq_false (show ¬ 16 < _ by omega)
        · rw [upd_ne nap]
          exact e1 la _ ha
        · rw [upd_ne nbp]
          exact e1 lb _ hb
end LE

/-! LV: rules for lists and tuples whose values are known; a for around such; list() of a dict of the module. -/
namespace LE
open PySem PySem.Spec PyProof.Rows L2 Evl
section
variable {X : Cx} {e o : Expr} {pos apos p : Pos} {te : TE}
/-- [e] -/
theorem pe_lstR (he : PE X e te) (hs : starEach [e] X.env = (false, eval e X.env) :: starEach [] X.env := by rfl) : PE X (.List [e] pos) (fun σ H Q => te σ H fun v H1 => ∀ D u, RelV v u → H1 D = none → Q (.ref D) (upd H1 D (.ext (LstR D [u])))) := by
  refine ⟨fun pins s σ H Q I h => wpAny_List_spliced ?_⟩
  rw [hs]
  refine Calls.spliced_cons (thn (he.run pins s σ H _ I h) fun u s1 ⟨v, H1, I1, r, q⟩ => Calls.spliced_nil ⟨by show 1 ≤ sizeLine; decide, ?_⟩)
  exact ⟨.ref s1.heap.objs.size, _, I1.laid (t' := s1.toks) (fun b o z => Heap.get?_push_of_some _ z) (Nat.le_refl _) (LstR.ob ⟨0, Heap.get?_push_size _ rfl⟩), rfl, q _ u r (I1.hok.fresh (Nat.le_refl _))⟩
/-- l.append(e), l's values known -/
def nApp (to : TE) (te : NE) : NE := fun m σ H Q => to σ H fun x H1 => ∃ D us0, x = .ref D ∧ H1 D = some (.ext (LstR D us0)) ∧ te m σ H1 fun u _ m' H2 => ∃ us, H2 D = some (.ext (LstR D us)) ∧ us.length < sizeLine ∧ Q .none .non m' (upd H2 D (.ext (LstR D (us ++ [u]))))
theorem pen_append {te : NE} {to : TE} (ho : PE X o to) (he : PEN X e te) (hbase : attributeBase o "append" X.env (eval o X.env) = eval o X.env := by rfl)
    (hfew : ((backTo pos (starEach [e] X.env)).all (fun x => !x.1) && (backToKw pos (keywordEach [] X.env)).all (fun x => x.1.isSome) && decide (([e] : List Expr).length + ([] : List Keyword).length + (if ([] : List Keyword).isEmpty then 0 else 1) < 30)) = true := by rfl)
    (hline : (apos.endLine == pos.line) = true := by rfl) (hs : starEach [e] X.env = [(false, eval e X.env)] := by rfl) : PEN X (.Call (.Attribute o "append" apos) [e] [] pos) (nApp to te) := by
  refine ⟨fun m pins s σ H Q hm I h => wpAny_Call_method_late hbase hfew hline rfl (thm hm (ho.run pins s σ H _ I h) fun v s1 hk1 ⟨x, H1, I1, r1, D, us0, ex, hD, q⟩ => ?_)⟩
  subst ex
  cases r1
  obtain ⟨n, hg⟩ := lst_at I1.hok hD
  refine ⟨"list", _, PySem.F.plainAttrs_list, PySem.F.slot_list_append, PySem.F.type_list_append, ⟨_, hg, rfl⟩, (fun a ea => ⟨_, by cases ea; exact hg, rfl⟩), ?_⟩
  rw [hs]
  refine Calls.callWith_builtin rfl (Calls.evalArgs_plain (Calls.spliced_cons ?_))
  refine thn (he.run m pins s1 σ H1 _ hk1 I1 q) fun u s2 ⟨v', m', H2, hk2, I2, r2, us, hD2, hz, q2⟩ => Calls.spliced_nil ?_
  exact app_raw I2 hD2 hz fun s3 e3 I3 => ⟨.non, m', _, by rw [e3]; exact hk2, I3, rfl, q2⟩
def tupO (us : List Value) : Obj := { cls := .type "tuple", data := .seq us.toArray }
theorem ob_tupO {P : Program} {w : World} {H : Hp} {h : Heap} {t : Addr} {us : List Value} {ys : List V} (hg : h.get? t = some (tupO us)) (r : Vals ys us) (hz : ys.length ≤ 1000) : ObjOk P w H h t (.frz (tupO us) (.tup ys)) :=
  ⟨hg, sizeLine_ge (Nat.le_trans hz (by decide)), us, r, ⟨_, hg, rfl, _, rfl⟩⟩
/-- tuple(l), l's values known -/
theorem pe_tupR (hg : Gl X "tuple") (hm : X.mg "tuple" = none) (he : PE X e te) (hs : starEach [e] X.env = (false, eval e X.env) :: starEach [] X.env := by rfl) : PE X (.Call (.Name "tuple" p) [e] [] pos)
    (fun σ H Q => te σ H fun x H1 => ∃ D us ys, x = .ref D ∧ H1 D = some (.ext (LstR D us)) ∧ Vals ys us ∧ ys.length ≤ 1000 ∧ ∀ t, H1 t = none → Q (.ref t) (upd H1 t (.frz (tupO us) (.tup ys)))) := by
  refine ⟨fun pins s σ H Q I h => wpAny_Call_Name_kw (ld_blt I hg hm PyProof.Rows.boot_tuple ?_ (by decide) (by decide))⟩
  refine PyProof.Rows.callWith_type1 ?_ hs rfl
  rw [hs]
  refine Calls.spliced_cons (thn (he.run pins s σ H _ I h) fun u s1 ⟨x, H1, I1, r1, D, us, ys, ex, hD, r, hz, q⟩ => Calls.spliced_nil ?_)
  subst ex
  cases r1
  obtain ⟨n, hgD⟩ := lst_at I1.hok hD
  refine call_tuple_list (items := us.toArray) ⟨_, hgD, rfl, n, rfl⟩ (fun h' kp => ?_) (by rw [List.size_toArray, ← r.length]; exact sizeLine_ge (Nat.le_trans hz (by decide)))
  have I2 : Inv X pins σ H1 { s1 with heap := h' } := I1.kept (t' := s1.toks) kp
  have I3 : Inv X pins σ (upd H1 h'.objs.size (.frz (tupO us) (.tup ys))) { s1 with heap := h'.push (tupO us) } :=
    I2.laid (t' := s1.toks) (fun b o z => Heap.get?_push_of_some _ z) (Nat.le_refl _) (ob_tupO (Heap.get?_push_size _ rfl) r hz)
  exact ⟨.ref h'.objs.size, _, I3, rfl, q _ (I2.hok.fresh (Nat.le_refl _))⟩
/-- what the top has written of a dict: its keys -/
structure KKeys (K : PySem.W.Frag) (a : Addr) (ys : List V) : Prop where
  ex : ∃ (es : Array DictEntry) (n : Nat), K.lookup a = some ⟨.type "dict", none, .dict es n, #[]⟩ ∧ Vals ys (es.toList.map (·.key)) ∧ ys.length ≤ 1000
  ns : (a == sysModules) = false
theorem call_list_kd (hc : X.calm = true) : CallR X (.type "list") (fun xs H Q => ∃ a ys, xs = [.ref a] ∧ KKeys X.K a ys ∧ ∀ q, H q = none → Q (.ref q) (upd H q (.lst ys))) := by
  intro pins s σ H xs us Q I r h
  obtain ⟨a, ys, ex, ⟨⟨es, n, lk, rk, hz⟩, ns⟩, q⟩ := h
  subst ex
  obtain ⟨u, eu, rx⟩ := vals1 r
  subst eu
  cases rx
  have hsz : es.size = ys.length := by rw [rk.length, List.length_map]; simp
  refine PySem.W.kdl_call (kdl_raw (prog := X.prog) (w := X.w) ns ⟨rfl, rfl, rfl⟩ rfl) (I.ok.hd hc) (I.kIn _ _ lk) (by rw [hsz]; exact sizeLine_ge (Nat.le_trans hz (by decide))) fun h' tk acc' c' hk hS hacc => ?_
  refine ⟨.ref s.heap.objs.size, _, I.laid hk (Nat.le_refl _) (show ObjOk X.prog X.w _ _ _ (.lst ys) from ⟨sizeLine_ge (Nat.le_trans hz (by decide)), acc'.toList, c', ?_, by rw [Array.toArray_toList]; exact hS⟩), rfl, q _ (I.hok.fresh (Nat.le_refl _))⟩
  have el : acc'.toList.length = acc'.size := by simp
  refine vals_of_at (by rw [el, hacc.1, hsz]) fun j y v h1 h2 => ?_
  obtain ⟨en, he, hv⟩ := hacc.2 j v (by rw [← Array.getElem?_toList]; exact h2)
  obtain ⟨u, hu, ru⟩ := rk.get h1
  rw [List.getElem?_map, Array.getElem?_toList, he] at hu
  obtain rfl : en.key = u := Option.some.inj hu
  rw [hv]
  exact ru
/-- for, its body with identities -/
def nFor (wi : TI) (g : TG) (tb : NS) : NS := fun D m σ H => wi σ H fun J H1 => ∃ W : Nat → Nat → Nat → L2.St → Hp → Prop, (∃ j, W 0 j m σ H1) ∧ ∀ i j m σ H, W i j m σ H →
  (J.stop i H ∧ D.nx m σ H) ∨ (J.go i H ∧ ∀ x H', J.yld i H x H' → g x σ H' fun σ2 H2 => tb { D with nx := fun m' σ' H' => ∃ j', j' < j ∧ W (i + 1) j' m' σ' H', ct := fun m' σ' H' => ∃ j', j' < j ∧ W (i + 1) j' m' σ' H', bk := D.nx } m σ2 H2)
theorem psN_for {tg iter : Expr} {body : List Stmt} {wi : TI} {g : TG} {tb : NS} (hp : PassesOwn (model X.prog X.w) X.A X.env X.xe) (hc : X.calm = true) (hi : PI X tg iter wi) (hg : PG X tg g) (hb : PSsN X body tb)
    (hs : ∀ x, foldedSetIterable iter X.env x = pure x := by intro _; rfl) : PSN X (.For tg iter body [] pos) (nFor wi g tb) := by
  refine ⟨fun m0 pins s σ H D hm0 I h => wpAny_For (thm hm0 (hi.run pins s σ H _ I h) fun v s1 hk1 h1 => thm hk1 h1 fun itv s2 hk2 h2 => ?_) hs⟩
  obtain ⟨it, fp, tn, J, H2, ei, I2, T, st2, f2, W, ⟨j0, w0⟩, turn⟩ := h2
  subst ei
  have stat : ∀ {H' : Hp}, (∀ b ∈ fp, H' b = none) → ∀ b ∈ fp, FpOk X pins H' b := fun hn b hb => ⟨hn b hb, (f2 b hb).2⟩
  refine codeAny_forLoop_any (fun j s' => ∃ i m' a b, m' ≤ s'.toks ∧ Inv X pins a b s' ∧ tn i s'.heap ∧ (∀ z ∈ fp, b z = none) ∧ W i j m' a b) ?_ j0 ⟨0, m0, σ, H2, hk2, I2, st2, fun b hb => (f2 b hb).1, w0⟩
  rintro j s3 ⟨i, m3, σ3, H3, hk3, I3, st3, fr3, w3⟩
  rcases turn i j m3 σ3 H3 w3 with ⟨stop, qn⟩ | ⟨go, step⟩
  · refine wpAny_passesOwn hp (thm hk3 (T.done X rfl rfl rfl hc i pins s3 σ3 H3 X.xe I3 (stat fr3) st3 stop) fun r s4 hk4 ⟨hr, I4⟩ => ?_)
    subst hr
    exact wpAny_execs_nil ⟨m3, σ3, H3, hk4, I4, qn⟩
  · refine wpAny_passesOwn hp (thm hk3 (T.item X rfl rfl rfl hc i pins s3 σ3 H3 X.xe I3 (stat fr3) st3 go) fun r s4 hk4 ⟨u, hr, h4⟩ => ?_)
    subst hr
    refine wpAny_passesOwn hp (thm hk4 h4 fun _ s5 hk5 ⟨x, H5, I5, r5, y5, st5, fr5⟩ => ?_)
    have J5 := I5.pinned (stat fr5) (T.obj _ _ st5)
    refine wpAny_passesOwn hp (thm hk5 (hg.run _ s5 σ3 H5 x u _ J5 r5 (step x H5 y5)) fun _ s6 hk6 ⟨σ6, H6, I6, q6⟩ => ?_)
    refine wpAny_passesOwn hp (thn (hb.run m3 _ s6 σ6 H6 _ hk6 I6 q6) fun fl s7 q7 => ?_)
    have again : ∀ {m7 : Nat} {a : L2.St} {b : Hp}, m7 ≤ s7.toks → Inv X (pins ++ pinsAt fp s5.heap) a b s7 → (∃ j', j' < j ∧ W (i + 1) j' m7 a b) → ∃ j', j' < j ∧ ∃ i m' a b, m' ≤ s7.toks ∧ Inv X pins a b s7 ∧ tn i s7.heap ∧ (∀ z ∈ fp, b z = none) ∧ W i j' m' a b := fun {m7 a b} hk7 I7 ⟨j', hj, w7⟩ => by
      have at_ : ∀ z ∈ fp, ∀ o, s5.heap.get? z = some o → s7.heap.get? z = some o ∧ b z = none := fun z hz o ez =>
        let q := I7.pin (z, o) (List.mem_append_right _ (List.mem_append_right _ (mem_pinsAt hz ez)))
        ⟨q.1, q.2.1⟩
      refine ⟨j', hj, i + 1, m7, a, b, hk7, I7.unpinned, T.keep _ _ _ st5 fun z hz o ez => (at_ z hz o ez).1, fun z hz => ?_, w7⟩
      obtain ⟨o, ez, _⟩ := T.obj _ _ st5 z hz
      exact (at_ z hz o ez).2
    cases fl with
    | next => obtain ⟨m7, a, b, hk7, I7, n7⟩ := q7; exact again hk7 I7 n7
    | cont => obtain ⟨m7, a, b, hk7, I7, n7⟩ := q7; exact again hk7 I7 n7
    | brk => obtain ⟨m7, a, b, hk7, I7, z7⟩ := q7; exact ⟨m7, a, b, hk7, I7.unpinned, z7⟩
    | ret v => obtain ⟨x7, m7, a, b, hk7, I7, r7, z7⟩ := q7; exact ⟨x7, m7, a, b, hk7, I7.unpinned, r7, z7⟩
end
end LE

/-! LGo: all commands on a line. -/
namespace LE
open PySem PySem.Spec PyProof.Rows L2 Evl
open Vaseda (Work Out Deed Cmd work)
variable {P : Program} {w : World} {K : PySem.W.Frag} {mg : Str → Option Value} {base : Heap}
/-! ### the mathematics: skip, stop -/
/-- alike but for what is left out and what was done -/
structure Eqv (a b : Work) : Prop where
  x : a.x = b.x
  h : a.held = b.held
  p : a.pre = b.pre
  q : a.post = b.post
  g : a.gone = b.gone
  b : a.bad = b.bad
theorem Eqv.refl (a : Work) : Eqv a a := ⟨rfl, rfl, rfl, rfl, rfl, rfl⟩
theorem Eqv.trans {a b c : Work} (e : Eqv a b) (f : Eqv b c) : Eqv a c := ⟨e.x.trans f.x, e.h.trans f.h, e.p.trans f.p, e.q.trans f.q, e.g.trans f.g, e.b.trans f.b⟩
theorem PassAt.eqv {CP : Addr} {H : Hp} {p la lb : Addr} {k : Nat} {x : List UInt8} {a b : Work} (h : PassAt CP H p la lb k x a) (e : Eqv a b) : PassAt CP H p la lb k x b := by
  obtain ⟨o, pa, pb, ab⟩ := h
  refine ⟨?_, ?_, ?_, ab⟩
  · rw [← e.x, ← e.h, ← e.g]
    exact o
  · rw [← e.p]
    exact pa
  · rw [← e.q]
    exact pb
section
variable {k : Nat} {last : Bool}
theorem fold_stop : ∀ (l : List (Cmd × Nat)) (w : Work), (w.halt || w.bad) = true → l.foldl (work k last) w = w
  | [], _, _ => rfl
  | c :: r, w, h => by
    have e : work k last w c = w := if_pos h
    rw [List.foldl_cons, e]
    exact fold_stop r w h
theorem fold_skip : ∀ (n : Nat) (l : List (Cmd × Nat)) (w : Work), w.halt = false → w.bad = false → w.left = n → Eqv (l.foldl (work k last) w) ((l.drop n).foldl (work k last) { w with left := 0 })
  | 0, l, w, h1, h2, h3 => by
    have e : { w with left := 0 } = w := by
      obtain ⟨a1, a2, a3, a4, a5, a6, a7, a8, a9⟩ := w
      have h3 : a7 = 0 := h3
      subst h3
      rfl
    rw [e]
    exact Eqv.refl _
  | n + 1, [], w, _, _, _ => ⟨rfl, rfl, rfl, rfl, rfl, rfl⟩
  | n + 1, c :: r, w, h1, h2, h3 => by
    have e : work k last w c = { w with left := n } := by
      show (if (w.halt || w.bad) = true then w else if 0 < w.left then { w with left := w.left - 1 } else _) = _
      rw [h1, h2, if_neg (show ¬ (false || false) = true from Bool.false_ne_true), if_pos (by omega), h3]
      rfl
    rw [List.foldl_cons, e, List.drop_succ_cons]
    exact fold_skip n r { w with left := n } h1 h2 rfl
theorem work_go {w : Work} {c : Cmd} {i : Nat} (h1 : w.halt = false) (h2 : w.bad = false) (h3 : w.left = 0) : work k last w (c, i) = if Vaseda.holds k last w.x c.a = true then Vaseda.deed k i { w with did := w.did ++ [i] } c.d else w := by
  show (if (w.halt || w.bad) = true then w else if 0 < w.left then _ else _) = _
  rw [h1, h2, if_neg (show ¬ (false || false) = true from Bool.false_ne_true), if_neg (by omega)]
theorem zip_drop {cs : List Cmd} {i : Nat} {c : Cmd} (h : cs[i]? = some c) : cs.zipIdx.drop i = (c, i) :: cs.zipIdx.drop (i + 1) := by
  refine drop_get ?_
  rw [List.getElem?_zipIdx, h, Nat.zero_add]
  rfl
theorem swapIn_ok {a b x : List UInt8} {once bad : Bool} (h : (bad || decide (Vaseda.LONG < (Vaseda.swapIn a b once x).length)) = false) : (Vaseda.swapIn a b once x).length ≤ 16 := by
  rw [Bool.or_eq_false_iff] at h
  have := of_decide_eq_false h.2
  have e : Vaseda.LONG = 16 := rfl
  omega
/-- what one plain deed leaves -/
theorem deed_ok {w : Work} {d : Deed} {i : Nat} (ok : WkOk w) (wf : wfD d) (pl : plainD d = true) (hb : (Vaseda.deed k i w d).bad = false) : WkOk (Vaseda.deed k i w d) ∧ (Vaseda.deed k i w d).halt = w.halt ∧ (Vaseda.deed k i w d).left = w.left ∧
    (Vaseda.deed k i w d).pre.length ≤ w.pre.length + 1 ∧ (Vaseda.deed k i w d).post.length ≤ w.post.length + 1 := by
  obtain ⟨o1, o2, o3, o4⟩ := ok
  cases d with
  | delete => cases pl
  | skip n => cases pl
  | halt_ => cases pl
  | before y => exact ⟨⟨o1, o2, o3, o4⟩, rfl, rfl, by show (w.pre ++ [_]).length ≤ _; simp, Nat.le_succ _⟩
  | after y => exact ⟨⟨o1, o2, o3, o4⟩, rfl, rfl, Nat.le_succ _, by show (w.post ++ [_]).length ≤ _; simp⟩
  | bring => exact ⟨⟨o1, o2, o3, o4⟩, rfl, rfl, Nat.le_succ _, by show (w.post ++ [_]).length ≤ _; simp⟩
  | keep => exact ⟨⟨o1, o1, o3, o4⟩, rfl, rfl, Nat.le_succ _, Nat.le_succ _⟩
  | trade => exact ⟨⟨o2, o1, o3, o4⟩, rfl, rfl, Nat.le_succ _, Nat.le_succ _⟩
  | change y =>
    have h8 : y.length ≤ 16 := Nat.le_trans wf.2 (by decide)
    exact ⟨⟨h8, o2, o3, o4⟩, rfl, rfl, Nat.le_succ _, Nat.le_succ _⟩
  | swap a b => exact ⟨⟨swapIn_ok hb, o2, o3, hb⟩, rfl, rfl, Nat.le_succ _, Nat.le_succ _⟩
  | first a b => exact ⟨⟨swapIn_ok hb, o2, o3, hb⟩, rfl, rfl, Nat.le_succ _, Nat.le_succ _⟩
end
/-! ### commands -/
def cF (wanted : Bool) (ta td : Addr) : List (Str × V) := [("wanted", .bl wanted), ("address", .ref ta), ("deed", .ref td)]
structure CmdAt (CC : Addr) (H : Hp) (c : Addr) (cmd : Cmd) : Prop where
  ex : ∃ dx ta td, H c = some (.ins CC dx (cF (even cmd.a) ta td)) ∧ H ta = some (.tup (av (strip cmd.a))) ∧ DeedAt H td cmd.d
theorem CmdAt.of {CC : Addr} {H H' : Hp} {c : Addr} {cmd : Cmd} (h : CmdAt CC H c cmd) (e : Ex H H') : CmdAt CC H' c cmd := by
  obtain ⟨dx, ta, td, a, b, d⟩ := h.ex
  exact ⟨dx, ta, td, e _ _ a, e _ _ b, d.ex e⟩
structure CmdsAt (CC : Addr) (H : Hp) (cm : Addr) (cs : List Cmd) : Prop where
  ex : ∃ xs : List V, H cm = some (.lst xs) ∧ xs.length = cs.length ∧ ∀ (i : Nat) (cmd : Cmd), cs[i]? = some cmd → ∃ c : Addr, xs[i]? = some (.ref c) ∧ CmdAt CC H c cmd
theorem CmdsAt.of {CC : Addr} {H H' : Hp} {cm : Addr} {cs : List Cmd} (h : CmdsAt CC H cm cs) (e : Ex H H') : CmdsAt CC H' cm cs := by
  obtain ⟨xs, a, b, f⟩ := h.ex
  refine ⟨xs, e _ _ a, b, fun i cmd hi => ?_⟩
  obtain ⟨c, g, d⟩ := f i cmd hi
  exact ⟨c, g, d.of e⟩
structure TxtGo (K : PySem.W.Frag) (mg : Str → Option Value) (CP CC : Addr) : Prop where
  tp : TxtPass K CP
  cc : Cls K CC
  cw : NoAttr K CC "wanted"
  ca : NoAttr K CC "address"
  cd : NoAttr K CC "deed"
  len : mg "len" = none
abbrev sGo : Stmt := top 36
theorem sc_go : FnScope ["commands", "passage", "last", "at", "command", "word"] ["commands", "passage", "last"] (defScope sGo) := ⟨rfl, rfl, rfl, by decide +kernel, rfl, by decide +kernel, by decide +kernel⟩
def spGo (CP CC TM : Addr) : Sp := fun vs H Q E => ∃ (cm p la lb : Addr) (cs : List Cmd) (n k : Nat) (x : List UInt8) (w0 : Work) (H0 : Hp), vs = [.ref cm, .ref p, .int (n : Nat)] ∧ CmdsAt CC H0 cm cs ∧ Ex H0 H ∧ (∀ a ∈ [p, la, lb], H0 a = none) ∧ cs.length ≤ 16 ∧ (∀ c ∈ cs, wfD c.d) ∧
  PassAt CP H p la lb k x w0 ∧ WkOk w0 ∧ w0.halt = false ∧ w0.left = 0 ∧ (w0.pre = [] ∧ w0.post = []) ∧
  ((cs.zipIdx.foldl (work k (decide (k = n))) w0).bad = true → ∀ H', But [p, la, lb] H H' → E (.ref TM) none H') ∧
  ((cs.zipIdx.foldl (work k (decide (k = n))) w0).bad = false → ∀ H', PassAt CP H' p la lb k x (cs.zipIdx.foldl (work k (decide (k = n))) w0) → But [p, la, lb] H H' → Q .non H')
theorem ok_go {f CP CC TM : Addr} {fd : FuncData} (F : Fun K "go_through" "go_through" sGo f fd) (T : TxtGo K mg CP CC) (gh : Dn P w K mg base CX0 1 "holds" (spHolds K CP) 3) (gd : Dn P w K mg base (L2.CX P w) 2 "do" (spDo CP TM) 2) :
    FnOk P w K mg base (L2.CX P w) 3 f fd ["commands", "passage", "last"] (spGo CP CC TM) := by
  refine F.okX sc_go (fun vs H Q E h => ?_) (fun cdv A outer s H vs Q E hr h => ⟨_, pss_cons (ps_set (i := 3) sc_go.nd rfl (.inl rfl) pe_int)
    (pss_one (ps_while (passes_of rfl) (pt_cmpR op_lt (pv 3) (pe_callB call_len_seq (by rfl) T.len PySem.boot_len (pa_cons (pv 0) pa_nil)) (nomark _))
      (pss_cons (ps_set (i := 4) sc_go.nd rfl (.inl rfl) (pe_ix ix_list (pv 0) (pv 3) (fun _ _ => rfl)))
      (pss_cons (ps_aug (i := 3) sc_go.nd rfl (.inl rfl) pe_int ip_add)
      (pss_one (ps_if (pt_cmpR op_eq (pe_dn gh hr pass0 (pa_cons (pe_fld (pv 4) rfl) (pa_cons (pv 1) (pa_cons (pv 2) pa_nil)))) (pe_fld (pv 4) rfl) (nomark _))
        (pss_cons (ps_set (i := 5) sc_go.nd rfl (.inl rfl) (pe_ix ix_tup (pe_fld (pv 4) rfl) pe_int (fun _ _ => rfl)))
        (pss_one (ps_if (pt_cmpR op_eq (pv 5) pe_str (nomark _)) (pss_one (ps_aug (i := 3) sc_go.nd rfl (.inl rfl) (pe_ix ix_tup (pe_fld (pv 4) rfl) pe_int (fun _ _ => rfl)) ip_add))
          (pss_one (ps_if (pt_cmpR op_eq (pv 5) pe_str (nomark _)) (pss_one ps_retN)
          (pss_one (ps_if (pt_cmpR op_eq (pv 5) pe_str (nomark _)) (pss_cons (ps_fld (pv 1) pe_bl rfl) (pss_one ps_retN))
          (pss_one (ps_expr (pe_dn gd hr (pass1 rfl rfl rfl rfl) (pa_cons (pe_fld (pv 4) rfl) (pa_cons (pv 1) pa_nil)))))))))))) pss_nil)))))), ?_⟩)
  · obtain ⟨cm, p, la, lb, cs, n, k, x, w0, H0, rfl, _⟩ := h
    rfl
  · obtain ⟨cm, p, la, lb, cs, n, k, x, w0, H0, rfl, hc, e0, fr, h16, wf, hP, ok, hh, hl, ⟨hp0, hq0⟩, kE, kk⟩ := h
    generalize hW : cs.zipIdx.foldl (work k (decide (k = n))) w0 = W at kE kk
    refine ⟨fun m σ H' => ∃ (i : Nat) (v4 v5 : Option V) (wi : Work), σ = [some (.ref cm), some (.ref p), some (.int (n : Nat)), some (.int (i : Nat)), v4, v5] ∧ m = cs.length - i ∧ But [p, la, lb] H H' ∧ PassAt CP H' p la lb k x wi ∧ WkOk wi ∧ wi.halt = false ∧ wi.left = 0 ∧
      (wi.pre.length ≤ i ∧ wi.post.length ≤ i) ∧ Eqv ((cs.zipIdx.drop i).foldl (work k (decide (k = n))) wi) W,
      ⟨_, 0, none, none, w0, rfl, rfl, But.of (Ex.refl H), hP, ok, hh, hl, by rw [hp0, hq0]; exact ⟨Nat.le_refl _, Nat.le_refl _⟩, by rw [List.drop_zero, hW]; exact Eqv.refl _⟩, ?_⟩
    rintro m σ H1 ⟨i, v4, v5, wi, rfl, rfl, b1, hP1, ok1, hh1, hl1, ⟨hp1, hq1⟩, hE⟩
    have e1 : Ex H0 H1 := b1.ex e0 fr
    have hc1 := hc.of e1
    obtain ⟨xs, hx, hxl, hxs⟩ := hc1.ex
    refine ⟨_, rfl, _, rfl, cm, _, rfl, .inl (SqL.of hx), _, _, rfl, rfl, _, rfl, ?_⟩
    by_cases hi : i < cs.length
    · rw [decide_eq_true (show ((i : Nat) : Int) < (xs.length : Nat) by omega)]
      obtain ⟨c, hci⟩ : ∃ c, cs[i]? = some c := ⟨_, List.getElem?_eq_getElem hi⟩
      obtain ⟨ca, hca, hcm⟩ := hxs i c hci
      obtain ⟨dx, ta, td, ho, hta, htd⟩ := hcm.ex
      have wfc := wf c (List.mem_of_getElem? hci)
      rw [zip_drop hci, List.foldl_cons, work_go hh1 ok1.b hl1] at hE
      refine iteT ⟨fun σ' H' => ∃ m', m' < cs.length - i ∧ ∃ (j : Nat) (v4 v5 : Option V) (wi : Work), σ' = [some (.ref cm), some (.ref p), some (.int (n : Nat)), some (.int (j : Nat)), v4, v5] ∧ m' = cs.length - j ∧ But [p, la, lb] H H' ∧ PassAt CP H' p la lb k x wi ∧ WkOk wi ∧ wi.halt = false ∧ wi.left = 0 ∧
        (wi.pre.length ≤ j ∧ wi.post.length ≤ j) ∧ Eqv ((cs.zipIdx.drop j).foldl (work k (decide (k = n))) wi) W, fun _ _ h => h, ?_⟩
      refine ⟨_, rfl, _, rfl, cm, _, _, _, rfl, rfl, SqL.of hx, atI_nat hca, ?_⟩
      refine ⟨_, rfl, _, _, rfl, rfl, ?_⟩
      refine ⟨_, rfl, ca, CC, dx, _, _, rfl, ho, T.cc, T.ca, rfl, _, rfl, _, rfl, ta, p, la, lb, strip c.a, k, n, x, wi, rfl, strip_bare _, SqT.of hta, hP1, fun H2 e2 => ?_⟩
      have b2 : But [p, la, lb] H H2 := b1.trans (But.of e2)
      refine ⟨_, rfl, ca, CC, dx, _, _, rfl, e2 _ _ ho, T.cc, T.cw, rfl, rfl, _, rfl, ?_⟩
      rw [holds_strip]
      cases hhold : Vaseda.holds k (decide (k = n)) wi.x c.a with
      | false =>
        rw [hhold, if_neg Bool.false_ne_true] at hE
        exact iteF ⟨_, by omega, i + 1, _, _, wi, rfl, rfl, b2, hP1.ex e2, ok1, hh1, hl1, ⟨by omega, by omega⟩, hE⟩
      | true =>
        rw [hhold, if_pos rfl] at hE
        have htd2 := htd.ex e2
        have sq := htd2.sq (K := K)
        have hP2 : PassAt CP H2 p la lb k x { wi with did := wi.did ++ [i] } := ⟨(hP1.ex e2).ob, (hP1.ex e2).pa, (hP1.ex e2).pb, (hP1.ex e2).ab⟩
        have plain : plainD c.d = true → Q = Q → ∀ (v5' : Option V), spDo CP TM [.ref td, .ref p] H2 (fun _ H' => ∃ m', m' < cs.length - i ∧ ∃ (j : Nat) (v4 v5 : Option V) (wi : Work), [some (V.ref cm), some (.ref p), some (.int (n : Nat)), some (.int ((i : Int) + 1)), some (.ref ca), v5'] = [some (.ref cm), some (.ref p), some (.int (n : Nat)), some (.int (j : Nat)), v4, v5] ∧ m' = cs.length - j ∧ But [p, la, lb] H H' ∧ PassAt CP H' p la lb k x wi ∧ WkOk wi ∧ wi.halt = false ∧ wi.left = 0 ∧
            (wi.pre.length ≤ j ∧ wi.post.length ≤ j) ∧ Eqv ((cs.zipIdx.drop j).foldl (work k (decide (k = n))) wi) W) E := fun pl _ v5' => by
          refine ⟨td, p, la, lb, c.d, k, i, x, _, rfl, htd2, wfc, pl, hP2, ⟨ok1.x, ok1.h, ok1.g, ok1.b⟩, ⟨by show wi.pre.length ≤ _; omega, by show wi.post.length ≤ _; omega⟩, fun hb H3 b3 => ?_, fun hb H3 hP3 b3 => ?_⟩
          · rw [fold_stop _ _ (by rw [hb, Bool.or_true])] at hE
            exact kE (by rw [← hE.b]; exact hb) H3 (b2.trans b3)
          · obtain ⟨o3, o4, o5, o6, o7⟩ := deed_ok (w := { wi with did := wi.did ++ [i] }) ⟨ok1.x, ok1.h, ok1.g, ok1.b⟩ wfc pl hb
            have o6' : (Vaseda.deed k i { wi with did := wi.did ++ [i] } c.d).pre.length ≤ wi.pre.length + 1 := o6
            have o7' : (Vaseda.deed k i { wi with did := wi.did ++ [i] } c.d).post.length ≤ wi.post.length + 1 := o7
            exact ⟨_, by omega, i + 1, _, _, _, rfl, rfl, b2.trans b3, hP3, o3, o4.trans hh1, o5.trans hl1, ⟨by omega, by omega⟩, hE⟩
        refine iteT ⟨_, rfl, ca, CC, dx, _, _, rfl, e2 _ _ ho, T.cc, T.cd, rfl, td, dv c.d, 0, ?_⟩
        cases hdd : c.d with
        | skip j =>
          rw [hdd] at hE sq
          refine ⟨_, rfl, rfl, sq, rfl, _, rfl, rfl, _, rfl, yes ?_⟩
          refine ⟨_, rfl, _, rfl, ca, CC, dx, _, _, rfl, e2 _ _ ho, T.cc, T.cd, rfl, td, _, 1, _, rfl, rfl, sq, rfl, _, _, rfl, rfl, ?_⟩
          have hs := fold_skip (k := k) (last := decide (k = n)) j (cs.zipIdx.drop (i + 1)) (Vaseda.deed k i { wi with did := wi.did ++ [i] } (.skip j)) hh1 ok1.b rfl
          rw [List.drop_drop] at hs
          refine ⟨_, ?_, i + 1 + j, _, _, { wi with did := wi.did ++ [i] }, rfl, rfl, b2, hP2, ⟨ok1.x, ok1.h, ok1.g, ok1.b⟩, hh1, hl1, ⟨by show wi.pre.length ≤ _; omega, by show wi.post.length ≤ _; omega⟩, ?_⟩
          · omega
          · have e3 : ({ Vaseda.deed k i { wi with did := wi.did ++ [i] } (.skip j) with left := 0 } : Work) = { wi with did := wi.did ++ [i] } := by
              show ({ { wi with did := wi.did ++ [i] } with left := 0 } : Work) = _
              rw [← hl1]
            rw [e3] at hs
            exact Eqv.trans ⟨hs.x.symm, hs.h.symm, hs.p.symm, hs.q.symm, hs.g.symm, hs.b.symm⟩ hE
        | halt_ =>
          rw [hdd] at hE sq
          refine ⟨_, rfl, rfl, sq, rfl, _, rfl, rfl, _, rfl, no ⟨_, rfl, rfl, _, rfl, yes ?_⟩⟩
          rw [fold_stop _ _ (by rfl)] at hE
          have hE' : Eqv wi W := ⟨hE.x, hE.h, hE.p, hE.q, hE.g, hE.b⟩
          exact kk (by rw [← hE'.b]; exact ok1.b) H2 ((hP1.ex e2).eqv hE') b2
        | delete =>
          rw [hdd] at hE sq
          refine ⟨_, rfl, rfl, sq, rfl, _, rfl, rfl, _, rfl, no ⟨_, rfl, rfl, _, rfl, no ⟨_, rfl, rfl, _, rfl, yes ?_⟩⟩⟩
          rw [fold_stop _ _ (by rfl)] at hE
          obtain ⟨⟨dp, hp⟩, ha, hb, nab⟩ := hP1.ex e2
          refine ⟨_, rfl, p, CP, dp, _, rfl, hp, T.tp.cl, T.tp.nStays, by show 7 < 1000; decide, ?_⟩
          have hP3 : PassAt CP (upd H2 p (.ins CP dp (pF k x wi.x wi.held la lb false))) p la lb k x { wi with gone := true } :=
            ⟨⟨dp, upd_same⟩, by rw [upd_ne (ins_lst hp ha)]; exact ha, by rw [upd_ne (ins_lst hp hb)]; exact hb, nab⟩
          have hE' : Eqv { wi with gone := true } W := ⟨hE.x, hE.h, hE.p, hE.q, hE.g, hE.b⟩
          exact kk (by rw [← hE'.b]; exact ok1.b) _ (hP3.eqv hE') (b2.upd (by simp))
        | before y =>
          rw [hdd] at sq
          exact ⟨_, rfl, rfl, sq, rfl, _, rfl, rfl, _, rfl, no ⟨_, rfl, rfl, _, rfl, no ⟨_, rfl, rfl, _, rfl, no ⟨_, rfl, ca, CC, dx, _, _, rfl, e2 _ _ ho, T.cc, T.cd, rfl, _, rfl, plain (by rw [hdd]; rfl) rfl _⟩⟩⟩⟩
        | after y =>
          rw [hdd] at sq
          exact ⟨_, rfl, rfl, sq, rfl, _, rfl, rfl, _, rfl, no ⟨_, rfl, rfl, _, rfl, no ⟨_, rfl, rfl, _, rfl, no ⟨_, rfl, ca, CC, dx, _, _, rfl, e2 _ _ ho, T.cc, T.cd, rfl, _, rfl, plain (by rw [hdd]; rfl) rfl _⟩⟩⟩⟩
        | change y =>
          rw [hdd] at sq
          exact ⟨_, rfl, rfl, sq, rfl, _, rfl, rfl, _, rfl, no ⟨_, rfl, rfl, _, rfl, no ⟨_, rfl, rfl, _, rfl, no ⟨_, rfl, ca, CC, dx, _, _, rfl, e2 _ _ ho, T.cc, T.cd, rfl, _, rfl, plain (by rw [hdd]; rfl) rfl _⟩⟩⟩⟩
        | swap a b =>
          rw [hdd] at sq
          exact ⟨_, rfl, rfl, sq, rfl, _, rfl, rfl, _, rfl, no ⟨_, rfl, rfl, _, rfl, no ⟨_, rfl, rfl, _, rfl, no ⟨_, rfl, ca, CC, dx, _, _, rfl, e2 _ _ ho, T.cc, T.cd, rfl, _, rfl, plain (by rw [hdd]; rfl) rfl _⟩⟩⟩⟩
        | first a b =>
          rw [hdd] at sq
          exact ⟨_, rfl, rfl, sq, rfl, _, rfl, rfl, _, rfl, no ⟨_, rfl, rfl, _, rfl, no ⟨_, rfl, rfl, _, rfl, no ⟨_, rfl, ca, CC, dx, _, _, rfl, e2 _ _ ho, T.cc, T.cd, rfl, _, rfl, plain (by rw [hdd]; rfl) rfl _⟩⟩⟩⟩
        | keep =>
          rw [hdd] at sq
          exact ⟨_, rfl, rfl, sq, rfl, _, rfl, rfl, _, rfl, no ⟨_, rfl, rfl, _, rfl, no ⟨_, rfl, rfl, _, rfl, no ⟨_, rfl, ca, CC, dx, _, _, rfl, e2 _ _ ho, T.cc, T.cd, rfl, _, rfl, plain (by rw [hdd]; rfl) rfl _⟩⟩⟩⟩
        | bring =>
          rw [hdd] at sq
          exact ⟨_, rfl, rfl, sq, rfl, _, rfl, rfl, _, rfl, no ⟨_, rfl, rfl, _, rfl, no ⟨_, rfl, rfl, _, rfl, no ⟨_, rfl, ca, CC, dx, _, _, rfl, e2 _ _ ho, T.cc, T.cd, rfl, _, rfl, plain (by rw [hdd]; rfl) rfl _⟩⟩⟩⟩
        | trade =>
          rw [hdd] at sq
          exact ⟨_, rfl, rfl, sq, rfl, _, rfl, rfl, _, rfl, no ⟨_, rfl, rfl, _, rfl, no ⟨_, rfl, rfl, _, rfl, no ⟨_, rfl, ca, CC, dx, _, _, rfl, e2 _ _ ho, T.cc, T.cd, rfl, _, rfl, plain (by rw [hdd]; rfl) rfl _⟩⟩⟩⟩
    · rw [decide_eq_false (show ¬ ((i : Nat) : Int) < (xs.length : Nat) by omega)]
      rw [List.drop_eq_nil_of_le (by rw [List.length_zipIdx]; omega)] at hE
      have hE' : Eqv wi W := hE
      exact iteF (kk (by rw [← hE'.b]; exact ok1.b) H1 (hP1.eqv hE') b1)
end LE

/-! LU: nots, addresses. -/
namespace LE
open PySem PySem.Spec PyProof.Rows L2 Evl
open VasedBase (isLetter isDigit PTok Toks RESERVED tokEq here nextWord next word wrong Fault)
open Vaseda (takeNum takeLetters takeAddr)
variable {P : Program} {w : World} {K : PySem.W.Frag} {mg : Str → Option Value} {base : Heap}
theorem notN_not (n : Nat) (x : Vaseda.Addr × Toks) : notN n (.not x.1, x.2) = notN (n + 1) x := by
  induction n with
  | zero => rfl
  | succ n ih =>
    show (Vaseda.Addr.not (notN n (.not x.1, x.2)).1, (notN n (.not x.1, x.2)).2) = _
    rw [ih]
    rfl
structure RdM (P : Program) (w : World) (K : PySem.W.Frag) (mg : Str → Option Value) (base : Heap) (CR CT CF : Addr) : Prop where
  k : RdK P w K mg base CR CT CF
  own : Mn P w K mg base (L2.CX P w) 4 CR "take_own" (spTakeOwn CR CT CF)
  one : Mn P w K mg base (L2.CX P w) 4 CR "take_one_of" (spTakeOne K CR CT CF)
  let_ : MnN P w K mg base (L2.CX P w) 4 CR "take_letters" (spLettN CR CT CF)
  num : Mn P w K mg base (L2.CX P w) 4 CR "take_number" (spNum CR CT CF)
  mn : Gc mg "MOST_NOTS" (.int 3)
  tm : Gc mg "TOO_MANY" (.int 4)
  gl : Gc mg "GREATEST_LINE" (.int 99)
  gs : Gc mg "GREATEST_SKIP" (.int 9)
  list : mg "list" = none
  tuple : mg "tuple" = none
  len : mg "len" = none
/-- a fault goes out, the reader wherever it stands -/
def FaultB (CF : Addr) (rd : Addr) (code place : Nat) (H : Hp) (E : XK) : Prop := ∀ (d : Addr) (H' : Hp), But [rd] H H' → H' d = some (.xd (fltF (.int (code : Nat)) (.int (place : Nat)))) → E (.ref CF) (some d) H'
theorem FaultB.e {CF rd : Addr} {c p : Nat} {H H1 : Hp} {E : XK} (h : FaultB CF rd c p H E) (b : But [rd] H H1) : FaultE CF c p H1 E := fun d H' e hd => h d H' (b.trans (But.of e)) hd
theorem FaultB.b {CF rd : Addr} {c p : Nat} {H H1 : Hp} {E : XK} (h : FaultB CF rd c p H E) (b : But [rd] H H1) : FaultB CF rd c p H1 E := fun d H' e hd => h d H' (b.trans e) hd
/-! ### read_nots -/
abbrev sNots : Stmt := top 77
theorem sc_nots : FnScope ["reader", "nots"] ["reader"] (defScope sNots) := ⟨rfl, rfl, rfl, by decide +kernel, rfl, by decide +kernel, by decide +kernel⟩
def spNots (CR CT CF : Addr) : Sp := fun vs H Q E => ∃ (rd : Addr) (ids : Nat → Nat) (l : Toks) (i F : Nat), vs = [.ref rd] ∧ Rd CR CT H rd ids l i ∧ i < l.length ∧ LexOk l ∧ (l.drop i).length < F ∧ (∀ p, takeAddr F 0 (l.drop i) = .error ⟨4, p⟩ → FaultB CF rd 4 p H E) ∧
  (∀ n H', takeAddr F 0 (l.drop i) = (takeBase (l.drop (i + n))).map (notN n) → i + n < l.length → Rd CR CT H' rd ids l (i + n) → But [rd] H H' → Q (.int (n : Nat)) H')
theorem ok_nots {f CR CT CF : Addr} {fd : FuncData} (F : Fun K "read_nots" "read_nots" sNots f fd) (R : RdM P w K mg base CR CT CF) : FnOk P w K mg base (L2.CX P w) 4 f fd ["reader"] (spNots CR CT CF) := by
  refine F.okX sc_nots (fun vs H Q E h => ?_) (fun cdv A outer s H vs Q E hr h => ⟨_, pss_cons (ps_set (i := 1) sc_nots.nd rfl (.inl rfl) pe_int)
    (pss_cons (ps_while (passes_of rfl) (pt_val (pe_mn R.k.stands hr pass0 (pv 0) (pa_cons pe_str pa_nil)))
      (pss_cons (ps_if (pt_cmpR op_eq (pv 1) (pe_gc R.mn) (nomark _)) (pss_one (ps_expr (pe_mn R.k.refuse hr (pass1 rfl rfl rfl rfl) (pv 0) (pa_cons (pe_gc R.tm) pa_nil)))) pss_nil)
      (pss_cons (ps_expr (pe_ofN (pen_mn0 R.k.take hr pass0 (pv 0)))) (pss_one (ps_aug (i := 1) sc_nots.nd rfl (.inl rfl) pe_int ip_add)))))
    (pss_one (ps_ret (pv 1)))), ?_⟩)
  · obtain ⟨rd, ids, l, i, F, rfl, _⟩ := h
    rfl
  · obtain ⟨rd, ids, l, i, F, rfl, hR, hi, hl, hF, kE, k⟩ := h
    have hld : (l.drop i).length = l.length - i := List.length_drop
    refine ⟨fun j σ H' => ∃ n : Nat, σ = [some (.ref rd), some (.int (n : Nat))] ∧ n ≤ 3 ∧ j = 4 - n ∧ i + n < l.length ∧ Rd CR CT H' rd ids l (i + n) ∧ But [rd] H H' ∧ takeAddr F 0 (l.drop i) = (takeAddr (F - n) n (l.drop (i + n))).map (notN n),
      ⟨4, 0, rfl, by omega, rfl, hi, hR, But.of (Ex.refl H), ?_⟩, ?_⟩
    · show takeAddr F 0 (l.drop i) = (takeAddr F 0 (l.drop i)).map (fun x => x)
      cases takeAddr F 0 (l.drop i) <;> rfl
    · rintro j σ H1 ⟨n, rfl, hn, rfl, hlt, hR1, hb, hA⟩
      obtain ⟨x, hx⟩ : ∃ x, l[i + n]? = some x := ⟨_, List.getElem?_eq_getElem hlt⟩
      obtain ⟨f', hf⟩ : ∃ f', F - n = f' + 1 := ⟨F - n - 1, by omega⟩
      rw [hf] at hA
      obtain ⟨dx, L, ps, h1, h2, h3, h4⟩ := id hR1
      refine ⟨_, rfl, rd, dx, _, rfl, h1, rfl, rd, ids, l, i + n, x, "not", rfl, hR1, hx, fun H2 e2 => ⟨_, rfl, ?_⟩⟩
      have hR2 := hR1.ex e2
      have hb2 := hb.trans (But.of e2)
      have es : standsB x.tok "not" = nextWord "not" (l.drop (i + n)) := by
        rw [nextWord_at hx]
        exact stands_word (v := word "not") (by decide +kernel) (by decide +kernel)
      rw [es]
      cases hw : nextWord "not" (l.drop (i + n)) with
      | true =>
        have hnl : x.tok ≠ .last := fun z => by
          rw [nextWord_at hx, z] at hw
          cases hw
        obtain ⟨y, hy⟩ := hl.next hx hnl
        have hlt' := (List.getElem?_eq_some_iff.mp hy).1
        rw [addr_not hw, drop1, here_at hx] at hA
        refine iteT ⟨fun σ' H' => ∃ m', m' < 4 - n ∧ ∃ n' : Nat, σ' = [some (.ref rd), some (.int (n' : Nat))] ∧ n' ≤ 3 ∧ m' = 4 - n' ∧ i + n' < l.length ∧ Rd CR CT H' rd ids l (i + n') ∧ But [rd] H H' ∧ takeAddr F 0 (l.drop i) = (takeAddr (F - n') n' (l.drop (i + n'))).map (notN n'), fun _ _ z => z, ?_⟩
        refine ⟨_, rfl, rfl, _, rfl, ?_⟩
        by_cases h3' : n = 3
        · subst h3'
          rw [if_pos (Nat.le_refl 3)] at hA
          refine iteT ⟨_, rfl, rd, dx, _, rfl, e2 _ _ h1, rfl, rd, ids, l, i + 3, 4, x, rfl, hR2, hx, (kE x.place hA).e hb2⟩
        · rw [if_neg (by omega)] at hA
          have d3 : decide (V.int (n : Nat) = V.int 3) = false := decide_eq_false fun z => h3' (by have := V.int.inj z; omega)
          rw [d3]
          refine iteF ⟨_, rfl, rd, dx, _, rfl, e2 _ _ h1, rfl, rd, ids, l, i + n, x, rfl, hR2, hx, fun H3 u hR3 hb3 _ _ => ?_⟩
          refine ⟨_, rfl, _, _, rfl, rfl, 4 - (n + 1), by omega, n + 1, rfl, by omega, rfl, hlt', hR3, hb2.trans hb3, ?_⟩
          have ef : F - (n + 1) = f' := by omega
          rw [ef, hA]
          show Except.map (notN n) (Except.map _ (takeAddr f' (n + 1) (l.drop (i + n + 1)))) = _
          cases takeAddr f' (n + 1) (l.drop (i + n + 1)) with
          | error f => rfl
          | ok z => exact congrArg Except.ok (notN_not n z)
      | false =>
        rw [addr_base hw] at hA
        exact iteF ⟨_, rfl, k n H2 hA hlt hR2 hb2⟩
end LE

/-! LAd: an address is read. -/
namespace LE
open PySem PySem.Spec PyProof.Rows L2 Evl
open VasedBase (isLetter isDigit PTok Toks RESERVED tokEq here nextWord next word wrong Fault)
open Vaseda (takeNum takeLetters takeAddr)
variable {P : Program} {w : World} {K : PySem.W.Frag} {mg : Str → Option Value} {base : Heap}
def wsA : List (List UInt8) := ["all", "line", "from", "last", "has", "is"].map word
theorem oneOf_name {t : VasedBase.Tok} {ws : List (List UInt8)} (h : oneOf t ws = true) : ∃ v, t = .name v ∧ v ∈ ws := by
  unfold oneOf at h
  split at h
  · rename_i v
    rw [Bool.and_eq_true] at h
    exact ⟨v, rfl, by simpa using h.2⟩
  · cases h
theorem nw_no {l : Toks} {i : Nat} {x : PTok} {ws : List (List UInt8)} (hx : l[i]? = some x) (h : oneOf x.tok ws = false) (s : String) (hs : (RESERVED.contains (word s) && ws.contains (word s)) = true := by decide +kernel) : nextWord s (l.drop i) = false := by
  rw [nextWord_at hx]
  cases e : tokEq x.tok (.name (word s)) with
  | false => rfl
  | true =>
    rw [tokEq_name e] at h
    have z : (RESERVED.contains (word s) && ws.contains (word s)) = false := h
    rw [hs] at z
    cases z
theorem wrong_at {A : Type} {l : Toks} {i : Nat} {x : PTok} (hx : l[i]? = some x) : (wrong (l.drop i) : Except Fault A) = .error ⟨3, x.place⟩ := by
  unfold wrong
  rw [here_at hx]
theorem base_bad {l : Toks} {i : Nat} {x : PTok} (hx : l[i]? = some x) (h : oneOf x.tok wsA = false) : takeBase (l.drop i) = .error ⟨3, x.place⟩ := by
  unfold takeBase
  rw [nw_no hx h "all", nw_no hx h "line", nw_no hx h "from", nw_no hx h "last", nw_no hx h "has", nw_no hx h "is"]
  simp only [Bool.false_eq_true, if_false]
  exact wrong_at hx
theorem nw_is {l : Toks} {i : Nat} {x : PTok} {v : List UInt8} (hx : l[i]? = some x) (e : x.tok = .name v) (s : String) {c : Bool} (hc : (v == word s) = c := by decide +kernel) : nextWord s (l.drop i) = c := by
  rw [nextWord_at hx, e]
  exact hc
section
variable {l : Toks} {i : Nat} {x : PTok} (hx : l[i]? = some x)
include hx
theorem base_all (e : x.tok = .name (word "all")) : takeBase (l.drop i) = .ok (.all, l.drop (i + 1)) := by
  unfold takeBase
  rw [nw_is hx e "all" (c := true), if_pos rfl, drop1]
theorem base_line (e : x.tok = .name (word "line")) : takeBase (l.drop i) = (takeNum 1 99 (l.drop (i + 1))).map fun x => (.line x.1, x.2) := by
  unfold takeBase
  rw [nw_is hx e "all" (c := false), if_neg Bool.false_ne_true, nw_is hx e "line" (c := true), if_pos rfl, drop1]
  rfl
theorem base_from (e : x.tok = .name (word "from")) : takeBase (l.drop i) = (takeNum 1 99 (l.drop (i + 1))).bind fun x => (VasedBase.takeWord "to" x.2).bind fun l => (takeNum x.1 99 l).map fun y => (.span x.1 y.1, y.2) := by
  unfold takeBase
  rw [nw_is hx e "all" (c := false), if_neg Bool.false_ne_true, nw_is hx e "line" (c := false), if_neg Bool.false_ne_true, nw_is hx e "from" (c := true), if_pos rfl, drop1]
  rfl
theorem base_last (e : x.tok = .name (word "last")) : takeBase (l.drop i) = .ok (.last, l.drop (i + 1)) := by
  unfold takeBase
  rw [nw_is hx e "all" (c := false), if_neg Bool.false_ne_true, nw_is hx e "line" (c := false), if_neg Bool.false_ne_true, nw_is hx e "from" (c := false), if_neg Bool.false_ne_true, nw_is hx e "last" (c := true), if_pos rfl, drop1]
theorem base_has (e : x.tok = .name (word "has")) : takeBase (l.drop i) = (takeLetters (l.drop (i + 1))).map fun x => (.has x.1, x.2) := by
  unfold takeBase
  rw [nw_is hx e "all" (c := false), if_neg Bool.false_ne_true, nw_is hx e "line" (c := false), if_neg Bool.false_ne_true, nw_is hx e "from" (c := false), if_neg Bool.false_ne_true, nw_is hx e "last" (c := false), if_neg Bool.false_ne_true,
    nw_is hx e "has" (c := true), if_pos rfl, drop1]
theorem base_is (e : x.tok = .name (word "is")) : takeBase (l.drop i) = (takeLetters (l.drop (i + 1))).map fun x => (.is_ x.1, x.2) := by
  unfold takeBase
  rw [nw_is hx e "all" (c := false), if_neg Bool.false_ne_true, nw_is hx e "line" (c := false), if_neg Bool.false_ne_true, nw_is hx e "from" (c := false), if_neg Bool.false_ne_true, nw_is hx e "last" (c := false), if_neg Bool.false_ne_true,
    nw_is hx e "has" (c := false), if_neg Bool.false_ne_true, nw_is hx e "is" (c := true), if_pos rfl, drop1]
theorem to_at : VasedBase.takeWord "to" (l.drop i) = if tokEq x.tok (.name (word "to")) = true then .ok (l.drop (i + 1)) else .error ⟨3, x.place⟩ := by
  unfold VasedBase.takeWord VasedBase.taken
  rw [next_at hx, drop1, wrong_at hx]
end
abbrev sAddr : Stmt := top 78
theorem sc_addr : FnScope ["reader", "word", "least"] ["reader"] (defScope sAddr) := ⟨rfl, rfl, rfl, by decide +kernel, rfl, by decide +kernel, by decide +kernel⟩
def spAddr (CR CT CF : Addr) : Sp := fun vs H Q E => ∃ (rd : Addr) (ids : Nat → Nat) (l : Toks) (i : Nat) (x : PTok), vs = [.ref rd] ∧ Rd CR CT H rd ids l i ∧ l[i]? = some x ∧ LexOk l ∧ (∀ f, takeBase (l.drop i) = .error f → FaultB CF rd f.code f.place H E) ∧
  (∀ a i' H' t, takeBase (l.drop i) = .ok (a, l.drop i') → i < i' → bare a → i' < l.length → H' t = some (.tup (av a)) → Rd CR CT H' rd ids l i' → But [rd] H H' → Q (.ref t) H')
structure TxtAd (K : PySem.W.Frag) (mg : Str → Option Value) (AD : Addr) : Prop where
  g : Gc mg "ADDRESSES" (.ref AD)
  s : ∀ H, SqT K H AD (wsA.map fun w => V.str (S w))
theorem Rd.tup {CR CT : Addr} {H : Hp} {rd t : Addr} {ids : Nat → Nat} {l : Toks} {i : Nat} {xs : List V} (h : Rd CR CT H rd ids l i) (n : H t = none) : Rd CR CT (upd H t (.tup xs)) rd ids l i := h.ex (Ex.new n)
theorem ok_addr {f CR CT CF AD : Addr} {fd : FuncData} (F : Fun K "read_address" "read_address" sAddr f fd) (R : RdM P w K mg base CR CT CF) (T : TxtAd K mg AD) : FnOk P w K mg base (L2.CX P w) 5 f fd ["reader"] (spAddr CR CT CF) := by
  refine F.okX sc_addr (fun vs H Q E h => ?_) (fun cdv A outer s H vs Q E hr h => ⟨_, pss_cons (ps_set (i := 1) sc_addr.nd rfl (.inl rfl) (pe_mn R.one hr (pass1 rfl rfl rfl rfl) (pv 0) (pa_cons (pe_callTy call_list_of (by rfl) R.list boot_list (pa_cons (pe_gc T.g) pa_nil)) pa_nil)))
    (pss_cons (ps_if (pt_cmpR op_eq (pv 1) pe_str (nomark _)) (pss_one (ps_ret (pe_tup (pa_cons (pv 1) (pa_cons (pe_mn R.num hr (pass1 rfl rfl rfl rfl) (pv 0) (pa_cons pe_int (pa_cons (pe_gc R.gl) pa_nil))) pa_nil))))) pss_nil)
    (pss_cons (ps_if (pt_cmpR op_eq (pv 1) pe_str (nomark _)) (pss_cons (ps_set (i := 2) sc_addr.nd rfl (.inl rfl) (pe_mn R.num hr (pass1 rfl rfl rfl rfl) (pv 0) (pa_cons pe_int (pa_cons (pe_gc R.gl) pa_nil))))
      (pss_cons (ps_expr (pe_mn R.own hr (pass1 rfl rfl rfl rfl) (pv 0) (pa_cons pe_str pa_nil)))
      (pss_one (ps_ret (pe_tup (pa_cons (pv 1) (pa_cons (pv 2) (pa_cons (pe_mn R.num hr (pass1 rfl rfl rfl rfl) (pv 0) (pa_cons (pv 2) (pa_cons (pe_gc R.gl) pa_nil))) pa_nil)))))))) pss_nil)
    (pss_cons (ps_if (pt_cmpR op_in_seq (pv 1) (pe_tup (pa_cons pe_str (pa_cons pe_str pa_nil))) (by rfl)) (pss_one (ps_ret (pe_tup (pa_cons (pv 1) (pa_cons (pe_ofN (pen_mn0 R.let_ hr (pass1 rfl rfl rfl rfl) (pv 0))) pa_nil))))) pss_nil)
    (pss_one (ps_ret (pe_tup (pa_cons (pv 1) pa_nil))))))), ?_⟩)
  · obtain ⟨rd, ids, l, i, x, rfl, _⟩ := h
    rfl
  · obtain ⟨rd, ids, l, i, x, rfl, hR, hx, hl, kE, k⟩ := h
    obtain ⟨dx, L, ps, h1, h2, h3, h4⟩ := id hR
    refine ⟨_, rfl, rd, dx, _, rfl, h1, rfl, AD, _, rfl, .inr (T.s _), fun lc hlc => ?_⟩
    have e0 : Ex H (upd H lc (.lst (wsA.map fun w => V.str (S w)))) := Ex.new hlc
    have hR0 := hR.ex e0
    refine ⟨rd, lc, ids, l, i, x, wsA, rfl, hR0, hx, hl, SqL.of upd_same, by decide +kernel, by decide +kernel, fun hb => (kE _ (base_bad hx hb)).e (But.of e0), fun ho H1 hR1 hb1 => ?_⟩
    obtain ⟨v, ev, hv⟩ := oneOf_name ho
    have hbt : But [rd] H H1 := (But.of e0).trans hb1
    have hnl : x.tok ≠ .last := fun z => by rw [ev] at z; cases z
    obtain ⟨y, hy⟩ := hl.next hx hnl
    have hlt := (List.getElem?_eq_some_iff.mp hy).1
    have hpv : pval x.tok = .str (S v) := by rw [ev]; rfl
    rw [hpv]
    refine ⟨_, rfl, rfl, _, rfl, ?_⟩
    obtain ⟨dx1, L1, ps1, g1, g2, g3, g4⟩ := id hR1
    have tup : ∀ {H' : Hp} {t : Addr} {a : Vaseda.Addr} {i' : Nat}, takeBase (l.drop i) = .ok (a, l.drop i') → i < i' → bare a → i' < l.length → H' t = none → Rd CR CT H' rd ids l i' → But [rd] H H' → Q (.ref t) (upd H' t (.tup (av a))) := fun {H' t a i'} h1 h0 h2 h3 h4 h5 h6 =>
      k a i' _ t h1 h0 h2 h3 upd_same (h5.tup h4) (h6.trans (But.of (Ex.new h4)))
    -- the number behind line, from; letters behind has, is
    have numOk : ∀ {H' : Hp} {lo j : Nat} {z : PTok}, l[j]? = some z → z.tok ≠ .last → j + 1 < l.length := fun hz hn => by
      obtain ⟨y', hy'⟩ := hl.next hz hn
      exact (List.getElem?_eq_some_iff.mp hy').1
    simp only [wsA, List.map_cons, List.map_nil, List.mem_cons, List.not_mem_nil, or_false] at hv
    rcases hv with rfl | rfl | rfl | rfl | rfl | rfl
    · refine no ⟨_, rfl, rfl, _, rfl, no ⟨_, rfl, (by decide), fun t1 n1 => ⟨t1, _, rfl, .inr (SqT.of upd_same), rfl, rfl, _, rfl, no ⟨_, rfl, (by decide), fun t n => ?_⟩⟩⟩⟩
      exact tup (base_all hx ev) (by omega) trivial hlt n (hR1.tup n1) (hbt.trans (But.of (Ex.new n1)))
    · rw [base_line hx ev] at kE
      refine yes ⟨_, rfl, _, rfl, rd, dx1, _, rfl, g1, rfl, rd, ids, l, i + 1, 1, 99, y, rfl, hR1, hy, fun f hf => (kE f (by rw [hf]; rfl)).e hbt, fun n r hn ey er H2 hR2 hb2 => ⟨sizeLine_ge (Nat.le_of_ble_eq_true rfl), fun t nt => ?_⟩⟩
      subst er
      exact tup (a := .line n) (i' := i + 2) (by rw [base_line hx ev, hn]; rfl) (by omega) trivial (numOk (H' := H) (lo := 0) hy (by rw [ey]; exact fun z => by cases z)) nt hR2 (hbt.trans hb2)
    · rw [base_from hx ev] at kE
      refine no ⟨_, rfl, rfl, _, rfl, yes ⟨_, rfl, rd, dx1, _, rfl, g1, rfl, rd, ids, l, i + 1, 1, 99, y, rfl, hR1, hy, fun f hf => (kE f (by rw [hf]; rfl)).e hbt, fun n r hn ey er H2 hR2 hb2 => ?_⟩⟩
      subst er
      have hlt2 : i + 1 + 1 < l.length := numOk (H' := H) (lo := 0) hy (by rw [ey]; exact fun z => by cases z)
      obtain ⟨y2, hy2⟩ : ∃ y2, l[i + 1 + 1]? = some y2 := ⟨_, List.getElem?_eq_getElem hlt2⟩
      have hbt2 := hbt.trans hb2
      obtain ⟨dx2, L2', ps2, f1, f2, f3, f4⟩ := id hR2
      have est : standsB y2.tok "to" = tokEq y2.tok (.name (word "to")) := stands_word (v := word "to") (by decide +kernel) (by decide +kernel)
      rw [hn] at kE
      refine ⟨_, rfl, rd, dx2, _, rfl, f1, rfl, rd, ids, l, i + 1 + 1, y2, "to", rfl, hR2, hy2, fun hs => (kE ⟨3, y2.place⟩ ?_).e hbt2, fun hs H3 hR3 hb3 => ?_⟩
      · show ((VasedBase.takeWord "to" (l.drop (i + 1 + 1))).bind _) = _
        rw [to_at hy2, if_neg (by rw [← est, hs]; exact Bool.false_ne_true)]
        rfl
      · have ht := to_at hy2
        rw [if_pos (by rw [← est]; exact hs)] at ht
        have e2 := tokEq_name (est ▸ hs)
        have hlt3 : i + 1 + 1 + 1 < l.length := numOk (H' := H) (lo := 0) hy2 (by rw [e2]; exact fun z => by cases z)
        obtain ⟨y3, hy3⟩ : ∃ y3, l[i + 1 + 1 + 1]? = some y3 := ⟨_, List.getElem?_eq_getElem hlt3⟩
        have hbt3 := hbt2.trans hb3
        obtain ⟨dx3, L3', ps3, q1, q2, q3, q4⟩ := id hR3
        refine ⟨_, rfl, _, rfl, _, rfl, rd, dx3, _, rfl, q1, rfl, _, rfl, rd, ids, l, i + 1 + 1 + 1, n, 99, y3, rfl, hR3, hy3, fun f hf => (kE f ?_).e hbt3, fun n2 r2 hn2 ey3 er2 H4 hR4 hb4 => ⟨sizeLine_ge (Nat.le_of_ble_eq_true rfl), fun t nt => ?_⟩⟩
        · show ((VasedBase.takeWord "to" (l.drop (i + 1 + 1))).bind _) = _
          rw [ht]
          show ((takeNum n 99 (l.drop (i + 1 + 1 + 1))).map _) = _
          rw [hf]
          rfl
        · subst er2
          refine tup (a := .span n n2) (i' := i + 1 + 1 + 1 + 1) ?_ (by omega) trivial (numOk (H' := H) (lo := 0) hy3 (by rw [ey3]; exact fun z => by cases z)) nt hR4 (hbt3.trans hb4)
          rw [base_from hx ev, hn]
          show ((VasedBase.takeWord "to" (l.drop (i + 1 + 1))).bind _) = _
          rw [ht]
          show ((takeNum n 99 (l.drop (i + 1 + 1 + 1))).map _) = _
          rw [hn2]
          rfl
    · refine no ⟨_, rfl, rfl, _, rfl, no ⟨_, rfl, (by decide), fun t1 n1 => ⟨t1, _, rfl, .inr (SqT.of upd_same), rfl, rfl, _, rfl, no ⟨_, rfl, (by decide), fun t n => ?_⟩⟩⟩⟩
      exact tup (base_last hx ev) (by omega) trivial hlt n (hR1.tup n1) (hbt.trans (But.of (Ex.new n1)))
    · rw [base_has hx ev] at kE
      refine no ⟨_, rfl, rfl, _, rfl, no ⟨_, rfl, (by decide), fun t1 n1 => ⟨t1, _, rfl, .inr (SqT.of upd_same), rfl, rfl, _, rfl, yes ?_⟩⟩⟩
      have e1 : Ex H1 (upd H1 t1 (.tup [.str "has", .str "is"])) := Ex.new n1
      have hb1' := hbt.trans (But.of e1)
      refine ⟨_, rfl, _, rfl, rd, dx1, _, rfl, e1 _ _ g1, rfl, rd, ids, l, i + 1, y, rfl, hR1.ex e1, hy, fun f hf => (kE f (by rw [hf]; rfl)).e hb1', fun w' r hw ey er H2 hR2 hb2 => ⟨sizeLine_ge (Nat.le_of_ble_eq_true rfl), fun t nt => ?_⟩⟩
      subst er
      exact tup (a := .has w') (i' := i + 2) (by rw [base_has hx ev, hw]; rfl) (by omega) trivial (numOk (H' := H) (lo := 0) hy (by rw [ey]; exact fun z => by cases z)) nt hR2 (hb1'.trans hb2)
    · rw [base_is hx ev] at kE
      refine no ⟨_, rfl, rfl, _, rfl, no ⟨_, rfl, (by decide), fun t1 n1 => ⟨t1, _, rfl, .inr (SqT.of upd_same), rfl, rfl, _, rfl, yes ?_⟩⟩⟩
      have e1 : Ex H1 (upd H1 t1 (.tup [.str "has", .str "is"])) := Ex.new n1
      have hb1' := hbt.trans (But.of e1)
      refine ⟨_, rfl, _, rfl, rd, dx1, _, rfl, e1 _ _ g1, rfl, rd, ids, l, i + 1, y, rfl, hR1.ex e1, hy, fun f hf => (kE f (by rw [hf]; rfl)).e hb1', fun w' r hw ey er H2 hR2 hb2 => ⟨sizeLine_ge (Nat.le_of_ble_eq_true rfl), fun t nt => ?_⟩⟩
      subst er
      exact tup (a := .is_ w') (i' := i + 2) (by rw [base_is hx ev, hw]; rfl) (by omega) trivial (numOk (H' := H) (lo := 0) hy (by rw [ey]; exact fun z => by cases z)) nt hR2 (hb1'.trans hb2)
end LE

/-! LDu: what is due behind a deed's word. -/
namespace LE
open PySem PySem.Spec PyProof.Rows L2 Evl
open VasedBase (isLetter isDigit PTok Toks RESERVED tokEq here nextWord next word wrong Fault)
open Vaseda (takeNum takeLetters takeAddr takeInstead takeTwo takeDeed)
variable {P : Program} {w : World} {K : PySem.W.Frag} {mg : Str → Option Value} {base : Heap}
inductive Due where
  | num | lets | non
  deriving DecidableEq
def dueS : Due → Str
  | .num => "number"
  | .lets => "letters"
  | .non => "letters or none"
abbrev sDue : Stmt := top 80
theorem sc_due : FnScope ["reader", "due"] ["reader", "due"] (defScope sDue) := ⟨rfl, rfl, rfl, by decide +kernel, rfl, by decide +kernel, by decide +kernel⟩
def dueQ (CR CT CF : Addr) (rd : Addr) (ids : Nat → Nat) (l : Toks) (i m : Nat) (x : PTok) (H : Hp) (Q : NK) (E : XK) : Due → Prop
  | .num => (∀ f, takeNum 1 9 (l.drop i) = .error f → FaultE CF f.code f.place H E) ∧ ∀ n H' u, takeNum 1 9 (l.drop i) = .ok (n, l.drop (i + 1)) → i + 1 < l.length → Rd CR CT H' rd ids l (i + 1) → But [rd] H H' → RelV (.int (n : Nat)) u → Q u (.int (n : Nat)) m H'
  | .lets => (∀ f, takeLetters (l.drop i) = .error f → FaultE CF f.code f.place H E) ∧ ∀ v H', takeLetters (l.drop i) = .ok (v, l.drop (i + 1)) → x.tok = .name v → i + 1 < l.length → Rd CR CT H' rd ids l (i + 1) → But [rd] H H' → Q (.str (S v) (ids i)) (.str (S v)) m H'
  | .non => (∀ f, takeInstead (l.drop i) = .error f → FaultE CF f.code f.place H E) ∧ ∀ v H' t m', takeInstead (l.drop i) = .ok (v, l.drop (i + 1)) → ((t = ids i ∧ x.tok = .name v) ∨ (v = [] ∧ m ≤ t)) → i + 1 < l.length → Rd CR CT H' rd ids l (i + 1) → But [rd] H H' → Q (.str (S v) t) (.str (S v)) m' H'
def spDueN (CR CT CF : Addr) : NSp := fun m vs H Q E => ∃ (rd : Addr) (ids : Nat → Nat) (l : Toks) (i : Nat) (x : PTok) (d : Due), vs = [.ref rd, .str (dueS d)] ∧ Rd CR CT H rd ids l i ∧ l[i]? = some x ∧ LexOk l ∧ dueQ CR CT CF rd ids l i m x H Q E d
structure TxtDue (mg : Str → Option Value) : Prop where
  num : Gc mg "NUMBER" (.str "number")
  non : Gc mg "LETTERS_OR_NONE" (.str "letters or none")
theorem okN_due {f CR CT CF : Addr} {fd : FuncData} (F : Fun K "read_due" "read_due" sDue f fd) (R : RdM P w K mg base CR CT CF) (T : TxtDue mg) : FnN P w K mg base (L2.CX P w) 5 f fd ["reader", "due"] (spDueN CR CT CF) := by
  refine fnN_ok F sc_due (fun m vs H Q E h => ?_) (fun cdv m A outer s H vs Q E hr h => ⟨_, pssN_cons (psN_if (pt_cmpR op_eq (pv 1) (pe_gc T.num) (nomark _)) (pssN_one (psN_ret (pen_of (pe_mn R.num hr (pass1 rfl rfl rfl rfl) (pv 0) (pa_cons pe_int (pa_cons (pe_gc R.gs) pa_nil)))))) pssN_nil)
    (pssN_cons (psN_if (PW.pt (pw_and (pt_cmpR op_eq (pv 1) (pe_gc T.non) (nomark _)) (pw_and1 (pt_val (pe_mn R.k.stands hr pass0 (pv 0) (pa_cons pe_str pa_nil)))))) (pssN_cons (psN_of (ps_expr (pe_ofN (pen_mn0 R.k.take hr pass0 (pv 0))))) (pssN_one (psN_ret pen_str))) pssN_nil)
    (pssN_one (psN_ret (pen_mn0 R.let_ hr (pass1 rfl rfl rfl rfl) (pv 0))))), ?_⟩)
  · obtain ⟨rd, ids, l, i, x, d, rfl, _⟩ := h
    rfl
  · obtain ⟨rd, ids, l, i, x, d, rfl, hR, hx, hl, hd⟩ := h
    obtain ⟨dx, L, ps, h1, h2, h3, h4⟩ := id hR
    have numOk : ∀ {z : PTok} {j : Nat}, l[j]? = some z → z.tok ≠ .last → j + 1 < l.length := fun hz hn => by
      obtain ⟨y', hy'⟩ := hl.next hz hn
      exact (List.getElem?_eq_some_iff.mp hy').1
    cases d with
    | num =>
      obtain ⟨kE, k⟩ := hd
      refine ⟨_, rfl, rfl, _, rfl, yes ⟨_, rfl, rd, dx, _, rfl, h1, rfl, rd, ids, l, i, 1, 9, x, rfl, hR, hx, kE, fun n r hn ex er H' hR' hb u ru => ?_⟩⟩
      subst er
      exact k n H' u hn (numOk hx (by rw [ex]; exact fun z => by cases z)) hR' hb ru
    | lets =>
      obtain ⟨kE, k⟩ := hd
      refine ⟨_, rfl, rfl, _, rfl, no ⟨_, rfl, rfl, _, rfl, no (iteF ⟨_, rfl, rd, dx, _, rfl, h1, rfl, rd, ids, l, i, x, rfl, hR, hx, kE, fun v r hv ex er H' hR' hb => ?_⟩)⟩⟩
      subst er
      exact k v H' hv ex (numOk hx (by rw [ex]; exact fun z => by cases z)) hR' hb
    | non =>
      obtain ⟨kE, k⟩ := hd
      refine ⟨_, rfl, rfl, _, rfl, no ⟨_, rfl, rfl, _, rfl, yes ⟨_, rfl, rd, dx, _, rfl, h1, rfl, rd, ids, l, i, x, "none", rfl, hR, hx, fun H1 e1 => ⟨_, rfl, ?_⟩⟩⟩⟩
      have es : standsB x.tok "none" = nextWord "none" (l.drop i) := by
        rw [nextWord_at hx]
        exact stands_word (v := word "none") (by decide +kernel) (by decide +kernel)
      have hR1 := hR.ex e1
      have h11 := e1 _ _ h1
      rw [es]
      have ti : takeInstead (l.drop i) = if nextWord "none" (l.drop i) = true then .ok ([], l.drop (i + 1)) else takeLetters (l.drop i) := by
        unfold takeInstead
        rw [drop1]
      cases hw : nextWord "none" (l.drop i) with
      | true =>
        have hnl : x.tok ≠ .last := fun z => by
          rw [nextWord_at hx, z] at hw
          cases hw
        rw [hw, if_pos rfl] at ti
        refine iteT ⟨_, rfl, rd, dx, _, rfl, h11, rfl, rd, ids, l, i, x, rfl, hR1, hx, fun H' u hR' hb _ _ t ht => ?_⟩
        exact k [] H' t _ ti (.inr ⟨rfl, ht⟩) (numOk hx hnl) hR' ((But.of e1).trans hb)
      | false =>
        rw [hw, if_neg Bool.false_ne_true] at ti
        rw [ti] at kE k
        refine iteF ⟨_, rfl, rd, dx, _, rfl, h11, rfl, rd, ids, l, i, x, rfl, hR1, hx, fun f hf => (kE f hf).ex e1, fun v r hv ex er H' hR' hb => ?_⟩
        subst er
        exact k v H' (ids i) m hv (.inl ⟨rfl, ex⟩) (numOk hx (by rw [ex]; exact fun z => by cases z)) hR' ((But.of e1).trans hb)
end LE

/-! LDe: a deed is read. -/
namespace LE
open PySem PySem.Spec PyProof.Rows L2 Evl
open VasedBase (isLetter isDigit PTok Toks RESERVED tokEq here nextWord next word wrong Fault)
open Vaseda (takeNum takeLetters takeAddr takeInstead takeTwo takeDeed Deed)
variable {P : Program} {w : World} {K : PySem.W.Frag} {mg : Str → Option Value} {base : Heap}
/-! ### a list whose values are known is no token -/
theorem heap_at (o : Obj) (ho : o.isFreed = false := by rfl) : ∀ a : Addr, ∃ h : Heap, h.get? a = some o := by
  have sz : ∀ n : Nat, ∃ h : Heap, h.objs.size = n := fun n => by
    induction n with
    | zero => exact ⟨({ } : Heap), rfl⟩
    | succ n ih =>
      obtain ⟨h, e⟩ := ih
      exact ⟨h.push o, by rw [Heap.size_push, e]⟩
  intro a
  obtain ⟨h, e⟩ := sz a
  subst e
  exact ⟨h.push o, Heap.get?_push_size _ ho⟩
theorem lst_ne_obj {D C dx : Addr} {us : List Value} : LstR D us ≠ PObj D C dx := fun e => by
  obtain ⟨h, hg⟩ := heap_at { cls := .type "list", data := .seq us.toArray 0 } rfl D
  have z : PObj D C dx h := by rw [← e]; exact ⟨0, hg⟩
  have z2 : h.get? D = some (PySem.W.instObj C dx) := z
  rw [hg] at z2
  cases Option.some.inj z2
theorem lst_ne_map {D : Addr} {us : List Value} {mA : Str → Option Value} : LstR D us ≠ PMap D mA := fun e => by
  obtain ⟨h, hg⟩ := heap_at { cls := .type "list", data := .seq us.toArray 0 } rfl D
  have z : PMap D mA h := by rw [← e]; exact ⟨0, hg⟩
  obtain ⟨o, es, ep, h1, h2, _⟩ := (show h.Ns1 D mA from z)
  rw [hg] at h1
  cases h1
  cases h2
theorem TokAt.updR {CT : Addr} {H : Hp} {p D : Addr} {x : PTok} {be id : Nat} {o : HO} {us : List Value} (h : TokAt CT H p x be id) (hD : H D = some (.ext (LstR D us))) : TokAt CT (L2.upd H D o) p x be id := by
  obtain ⟨a, b, c, d, ⟨dx, n, h1, h2⟩, r⟩ := h
  refine ⟨a, b, c, d, ⟨dx, n, ?_, ?_⟩, r⟩
  · rw [upd_ne]
    · exact h1
    · rintro rfl
      rw [h1] at hD
      exact lst_ne_obj (HO.ext.inj (Option.some.inj hD)).symm
  · rw [upd_ne]
    · exact h2
    · rintro rfl
      rw [h2] at hD
      exact lst_ne_map (HO.ext.inj (Option.some.inj hD)).symm
theorem Rd.updR {CR CT : Addr} {H : Hp} {rd D : Addr} {ids : Nat → Nat} {l : Toks} {i : Nat} {o : HO} {us : List Value} (h : Rd CR CT H rd ids l i) (hD : H D = some (.ext (LstR D us))) : Rd CR CT (upd H D o) rd ids l i := by
  obtain ⟨dx, L, ps, h1, h2, h3, h4⟩ := h
  exact ⟨dx, L, ps, by rw [upd_ne (ne_of h1 hD fun z => by cases z)]; exact h1, by rw [upd_ne (ne_of h2 hD fun z => by cases z)]; exact h2, h3, fun j x p a b => let ⟨be, z⟩ := h4 j x p a b; ⟨be, z.updR hD⟩⟩
theorem But.fresh {rd D : Addr} {H H1 H' : Hp} {o : HO} (b1 : But [rd] H H1) (n : H1 D = none) (b2 : But [rd] H H') : But [rd] H (L2.upd H' D o) := fun c u hc hn => by
  by_cases e : c = D
  · subst e
    have z := b1 c u hc hn
    rw [n] at z
    cases z
  · rw [upd_ne e]
    exact b2 c u hc hn
/-- for over a tuple of the module -/
theorem for_tupN {a : Addr} {xs : List V} {g : TG} {tb : NS} {D : NEnd} {m : Nat} {σ : L2.St} {H : Hp} (Pv : Nat → Nat → L2.St → Hp → Prop) (h0 : Pv 0 m σ H) (hl : ∀ H, SqT K H a xs)
    (hs : ∀ i x m σ H, xs[i]? = some x → Pv i m σ H → g x σ H fun σ2 H2 => tb { D with nx := fun m' σ' H' => ∃ j', j' < xs.length - i ∧ j' = xs.length - (i + 1) ∧ i + 1 ≤ xs.length ∧ Pv (i + 1) m' σ' H', ct := fun m' σ' H' => ∃ j', j' < xs.length - i ∧ j' = xs.length - (i + 1) ∧ i + 1 ≤ xs.length ∧ Pv (i + 1) m' σ' H', bk := D.nx } m σ2 H2)
    (hd : ∀ m σ H, Pv xs.length m σ H → D.nx m σ H) : ∃ W : Nat → Nat → Nat → L2.St → Hp → Prop, (∃ j, W 0 j m σ H) ∧ ∀ i j m σ H, W i j m σ H →
      ((Itt K a).stop i H ∧ D.nx m σ H) ∨ ((Itt K a).go i H ∧ ∀ x H', (Itt K a).yld i H x H' → g x σ H' fun σ2 H2 => tb { D with nx := fun m' σ' H' => ∃ j', j' < j ∧ W (i + 1) j' m' σ' H', ct := fun m' σ' H' => ∃ j', j' < j ∧ W (i + 1) j' m' σ' H', bk := D.nx } m σ2 H2) := by
  refine ⟨fun i j m σ H => j = xs.length - i ∧ i ≤ xs.length ∧ Pv i m σ H, ⟨_, rfl, Nat.zero_le _, h0⟩, ?_⟩
  rintro i j m σ H ⟨rfl, hi, p⟩
  by_cases hlt : i < xs.length
  · refine .inr ⟨⟨xs, xs[i], hl H, by simp [hlt]⟩, fun x H' y => ?_⟩
    obtain ⟨e, y⟩ := y
    subst e
    exact hs i x m σ _ (y xs (hl _)) p
  · have e : i = xs.length := by omega
    subst e
    exact .inl ⟨⟨xs, hl H, Nat.le_refl _⟩, hd m σ H p⟩
/-! ### read_deed -/
def wsD : List (List UInt8) := ["delete", "before", "after", "change", "swap", "first", "keep", "bring", "trade", "skip", "stop"].map word
def duesOf (v : List UInt8) : List Due := if v = word "before" ∨ v = word "after" ∨ v = word "change" then [.lets] else if v = word "swap" ∨ v = word "first" then [.lets, .non] else if v = word "skip" then [.num] else []
structure TxtDe (K : PySem.W.Frag) (w : World) (mg : Str → Option Value) (DA : Addr) : Prop where
  g : Gc mg "DEEDS" (.ref DA)
  keys : KKeys K DA (wsD.map fun w => V.str (S w))
  it : ∀ v ∈ wsD, ∃ T, KDct K w DA (S v) (.ref T) ∧ ∀ H, SqT K H T ((duesOf v).map fun d => V.str (dueS d))
def IdsOk (m : Nat) (ids : Nat → Nat) (l : Toks) : Prop := (∀ i x w, l[i]? = some x → x.tok = .name w → 1 ≤ ids i ∧ ids i < m) ∧ (∀ i j x y w w', i < j → l[i]? = some x → x.tok = .name w → l[j]? = some y → y.tok = .name w' → ids i < ids j)
abbrev sDeed : Stmt := top 79
theorem sc_deed : FnScope ["reader", "word", "deed", "due"] ["reader"] (defScope sDeed) := ⟨rfl, rfl, rfl, by decide +kernel, rfl, by decide +kernel, by decide +kernel⟩
def spDeedN (CR CT CF : Addr) : NSp := fun m vs H Q E => ∃ (rd : Addr) (ids : Nat → Nat) (l : Toks) (i : Nat) (x : PTok), vs = [.ref rd] ∧ Rd CR CT H rd ids l i ∧ l[i]? = some x ∧ LexOk l ∧ IdsOk m ids l ∧ (∀ f, takeDeed (l.drop i) = .error f → FaultB CF rd f.code f.place H E) ∧
  (∀ d i' H' t m', takeDeed (l.drop i) = .ok (d, l.drop i') → i < i' → wfD d → i' < l.length → DeedAt H' t d → Rd CR CT H' rd ids l i' → But [rd] H H' → Q (.ref t) (.ref t) m' H')
theorem deed_bad {l : Toks} {i : Nat} {x : PTok} (hx : l[i]? = some x) (h : oneOf x.tok wsD = false) : takeDeed (l.drop i) = .error ⟨3, x.place⟩ := by
  unfold takeDeed
  rw [nw_no hx h "delete", nw_no hx h "before", nw_no hx h "after", nw_no hx h "change", nw_no hx h "swap", nw_no hx h "first", nw_no hx h "keep", nw_no hx h "bring", nw_no hx h "trade", nw_no hx h "skip", nw_no hx h "stop"]
  simp only [Bool.false_eq_true, if_false]
  exact wrong_at hx
section
variable {l : Toks} {i : Nat} {x : PTok} (hx : l[i]? = some x)
include hx
theorem deed_delete (e : x.tok = .name (word "delete")) : takeDeed (l.drop i) = .ok (.delete, l.drop (i + 1)) := by
  unfold takeDeed
  rw [nw_is hx e "delete" (c := true), if_pos rfl, drop1]
theorem deed_before (e : x.tok = .name (word "before")) : takeDeed (l.drop i) = (takeLetters (l.drop (i + 1))).map fun x => (.before x.1, x.2) := by
  unfold takeDeed
  rw [nw_is hx e "delete" (c := false), if_neg Bool.false_ne_true]
  rw [nw_is hx e "before" (c := true), if_pos rfl, drop1]
theorem deed_after (e : x.tok = .name (word "after")) : takeDeed (l.drop i) = (takeLetters (l.drop (i + 1))).map fun x => (.after x.1, x.2) := by
  unfold takeDeed
  rw [nw_is hx e "delete" (c := false), if_neg Bool.false_ne_true]
  rw [nw_is hx e "before" (c := false), if_neg Bool.false_ne_true]
  rw [nw_is hx e "after" (c := true), if_pos rfl, drop1]
theorem deed_change (e : x.tok = .name (word "change")) : takeDeed (l.drop i) = (takeLetters (l.drop (i + 1))).map fun x => (.change x.1, x.2) := by
  unfold takeDeed
  rw [nw_is hx e "delete" (c := false), if_neg Bool.false_ne_true]
  rw [nw_is hx e "before" (c := false), if_neg Bool.false_ne_true]
  rw [nw_is hx e "after" (c := false), if_neg Bool.false_ne_true]
  rw [nw_is hx e "change" (c := true), if_pos rfl, drop1]
theorem deed_swap (e : x.tok = .name (word "swap")) : takeDeed (l.drop i) = takeTwo .swap (l.drop (i + 1)) := by
  unfold takeDeed
  rw [nw_is hx e "delete" (c := false), if_neg Bool.false_ne_true]
  rw [nw_is hx e "before" (c := false), if_neg Bool.false_ne_true]
  rw [nw_is hx e "after" (c := false), if_neg Bool.false_ne_true]
  rw [nw_is hx e "change" (c := false), if_neg Bool.false_ne_true]
  rw [nw_is hx e "swap" (c := true), if_pos rfl, drop1]
theorem deed_first (e : x.tok = .name (word "first")) : takeDeed (l.drop i) = takeTwo .first (l.drop (i + 1)) := by
  unfold takeDeed
  rw [nw_is hx e "delete" (c := false), if_neg Bool.false_ne_true]
  rw [nw_is hx e "before" (c := false), if_neg Bool.false_ne_true]
  rw [nw_is hx e "after" (c := false), if_neg Bool.false_ne_true]
  rw [nw_is hx e "change" (c := false), if_neg Bool.false_ne_true]
  rw [nw_is hx e "swap" (c := false), if_neg Bool.false_ne_true]
  rw [nw_is hx e "first" (c := true), if_pos rfl, drop1]
theorem deed_keep (e : x.tok = .name (word "keep")) : takeDeed (l.drop i) = .ok (.keep, l.drop (i + 1)) := by
  unfold takeDeed
  rw [nw_is hx e "delete" (c := false), if_neg Bool.false_ne_true]
  rw [nw_is hx e "before" (c := false), if_neg Bool.false_ne_true]
  rw [nw_is hx e "after" (c := false), if_neg Bool.false_ne_true]
  rw [nw_is hx e "change" (c := false), if_neg Bool.false_ne_true]
  rw [nw_is hx e "swap" (c := false), if_neg Bool.false_ne_true]
  rw [nw_is hx e "first" (c := false), if_neg Bool.false_ne_true]
  rw [nw_is hx e "keep" (c := true), if_pos rfl, drop1]
theorem deed_bring (e : x.tok = .name (word "bring")) : takeDeed (l.drop i) = .ok (.bring, l.drop (i + 1)) := by
  unfold takeDeed
  rw [nw_is hx e "delete" (c := false), if_neg Bool.false_ne_true]
  rw [nw_is hx e "before" (c := false), if_neg Bool.false_ne_true]
  rw [nw_is hx e "after" (c := false), if_neg Bool.false_ne_true]
  rw [nw_is hx e "change" (c := false), if_neg Bool.false_ne_true]
  rw [nw_is hx e "swap" (c := false), if_neg Bool.false_ne_true]
  rw [nw_is hx e "first" (c := false), if_neg Bool.false_ne_true]
  rw [nw_is hx e "keep" (c := false), if_neg Bool.false_ne_true]
  rw [nw_is hx e "bring" (c := true), if_pos rfl, drop1]
theorem deed_trade (e : x.tok = .name (word "trade")) : takeDeed (l.drop i) = .ok (.trade, l.drop (i + 1)) := by
  unfold takeDeed
  rw [nw_is hx e "delete" (c := false), if_neg Bool.false_ne_true]
  rw [nw_is hx e "before" (c := false), if_neg Bool.false_ne_true]
  rw [nw_is hx e "after" (c := false), if_neg Bool.false_ne_true]
  rw [nw_is hx e "change" (c := false), if_neg Bool.false_ne_true]
  rw [nw_is hx e "swap" (c := false), if_neg Bool.false_ne_true]
  rw [nw_is hx e "first" (c := false), if_neg Bool.false_ne_true]
  rw [nw_is hx e "keep" (c := false), if_neg Bool.false_ne_true]
  rw [nw_is hx e "bring" (c := false), if_neg Bool.false_ne_true]
  rw [nw_is hx e "trade" (c := true), if_pos rfl, drop1]
theorem deed_skip (e : x.tok = .name (word "skip")) : takeDeed (l.drop i) = (takeNum 1 9 (l.drop (i + 1))).map fun x => (.skip x.1, x.2) := by
  unfold takeDeed
  rw [nw_is hx e "delete" (c := false), if_neg Bool.false_ne_true]
  rw [nw_is hx e "before" (c := false), if_neg Bool.false_ne_true]
  rw [nw_is hx e "after" (c := false), if_neg Bool.false_ne_true]
  rw [nw_is hx e "change" (c := false), if_neg Bool.false_ne_true]
  rw [nw_is hx e "swap" (c := false), if_neg Bool.false_ne_true]
  rw [nw_is hx e "first" (c := false), if_neg Bool.false_ne_true]
  rw [nw_is hx e "keep" (c := false), if_neg Bool.false_ne_true]
  rw [nw_is hx e "bring" (c := false), if_neg Bool.false_ne_true]
  rw [nw_is hx e "trade" (c := false), if_neg Bool.false_ne_true]
  rw [nw_is hx e "skip" (c := true), if_pos rfl, drop1]
  rfl
theorem deed_stop (e : x.tok = .name (word "stop")) : takeDeed (l.drop i) = .ok (.halt_, l.drop (i + 1)) := by
  unfold takeDeed
  rw [nw_is hx e "delete" (c := false), if_neg Bool.false_ne_true]
  rw [nw_is hx e "before" (c := false), if_neg Bool.false_ne_true]
  rw [nw_is hx e "after" (c := false), if_neg Bool.false_ne_true]
  rw [nw_is hx e "change" (c := false), if_neg Bool.false_ne_true]
  rw [nw_is hx e "swap" (c := false), if_neg Bool.false_ne_true]
  rw [nw_is hx e "first" (c := false), if_neg Bool.false_ne_true]
  rw [nw_is hx e "keep" (c := false), if_neg Bool.false_ne_true]
  rw [nw_is hx e "bring" (c := false), if_neg Bool.false_ne_true]
  rw [nw_is hx e "trade" (c := false), if_neg Bool.false_ne_true]
  rw [nw_is hx e "skip" (c := false), if_neg Bool.false_ne_true]
  rw [nw_is hx e "stop" (c := true), if_pos rfl, drop1]
end
theorem one_lt : 1 < sizeLine := sizeLine_gt (by decide)
theorem two_lt : 2 < sizeLine := sizeLine_gt (by decide)
theorem okN_deed {f CR CT CF DA : Addr} {fd : FuncData} (F : Fun K "read_deed" "read_deed" sDeed f fd) (R : RdM P w K mg base CR CT CF) (T : TxtDe K w mg DA) (gd : DnN P w K mg base (L2.CX P w) 5 "read_due" (spDueN CR CT CF)) : FnN P w K mg base (L2.CX P w) 6 f fd ["reader"] (spDeedN CR CT CF) := by
  refine fnN_ok F sc_deed (fun m vs H Q E h => ?_) (fun cdv m A outer s H vs Q E hr h => ⟨_, pssN_cons (psN_of (ps_set (i := 1) sc_deed.nd rfl (.inl rfl) (pe_mn R.one hr (pass1 rfl rfl rfl rfl) (pv 0) (pa_cons (pe_callTy (call_list_kd rfl) (by rfl) R.list boot_list (pa_cons (pe_gc T.g) pa_nil)) pa_nil))))
    (pssN_cons (psN_of (ps_set (i := 2) sc_deed.nd rfl (.inl rfl) (pe_lstR (pv 1))))
    (pssN_cons (psN_for (passes_of rfl) rfl (pi_tup (pe_ix ix_kdict (pe_gc T.g) (pv 1) (fun _ _ => rfl))) (pg_name (i := 3) sc_deed.nd rfl (.inl rfl)) (pssN_one (psN_expr (pen_append (pv 2) (pen_dn gd hr (pass1 rfl rfl rfl rfl) (pa_cons (pv 0) (pa_cons (pv 3) pa_nil)))))))
    (pssN_one (psN_of (ps_ret (pe_tupR (by rfl) R.tuple (pv 2))))))), ?_⟩)
  · obtain ⟨rd, ids, l, i, x, rfl, _⟩ := h
    rfl
  · obtain ⟨rd, ids, l, i, x, rfl, hR, hx, hl, hids, kE, k⟩ := h
    obtain ⟨dx, L, ps, h1, h2, h3, h4⟩ := id hR
    refine ⟨_, rfl, rd, dx, _, rfl, h1, rfl, DA, _, rfl, T.keys, fun lc hlc => ?_⟩
    have e0 : Ex H (upd H lc (.lst (wsD.map fun w => V.str (S w)))) := Ex.new hlc
    have hR0 := hR.ex e0
    refine ⟨rd, lc, ids, l, i, x, wsD, rfl, hR0, hx, hl, SqL.of upd_same, by decide +kernel, by decide +kernel, fun hb => (kE _ (deed_bad hx hb)).e (But.of e0), fun ho H1 hR1 hb1 => ?_⟩
    obtain ⟨v, ev, hv⟩ := oneOf_name ho
    have hbt : But [rd] H H1 := (But.of e0).trans hb1
    have hpv : pval x.tok = .str (S v) := by rw [ev]; rfl
    obtain ⟨y, hy⟩ := hl.next hx (fun z => by rw [ev] at z; cases z)
    have hlt := (List.getElem?_eq_some_iff.mp hy).1
    rw [hpv]
    refine ⟨_, rfl, fun D u ru nD => ?_⟩
    obtain ⟨TV, kd, sT⟩ := T.it v hv
    refine ⟨_, rfl, DA, S v, .ref TV, rfl, rfl, kd, TV, rfl, ⟨_, sT _⟩, ?_⟩
    have eD : Ex H1 (upd H1 D (.ext (LstR D [u]))) := Ex.new nD
    have hR2 := hR1.ex eD
    have hb2 := hbt.trans (But.of eD)
    have nDr : D ≠ rd := fun z => by
      obtain ⟨dy, L1, ps1, g1, _⟩ := hR1
      rw [z, g1] at nD
      cases nD
    have nmOk : ∀ {j : Nat} {z : PTok} {w2 : List UInt8}, l[j]? = some z → z.tok = .name w2 → wl w2 := fun hz ez => by
      rcases hl.tok hz with e | e | ⟨w3, e, h1, h2⟩ | ⟨n, e⟩
      · rw [ez] at e; cases e
      · rw [ez] at e; cases e
      · rw [ez] at e
        cases e
        exact ⟨h1, h2⟩
      · rw [ez] at e; cases e
    simp only [wsD, List.map_cons, List.map_nil, List.mem_cons, List.not_mem_nil, or_false] at hv
    rcases hv with rfl | rfl | rfl | rfl | rfl | rfl | rfl | rfl | rfl | rfl | rfl
    · have es : S (word "delete") = "delete" := by decide +kernel
      have ru1 : RelV (.str "delete") u := by rw [← es]; exact ru
      have ed : duesOf (word "delete") = [] := by decide +kernel
      rw [ed] at sT
      have hd1 := deed_delete hx ev
      refine for_tupN (xs := []) (fun n m1 σ H2 => σ = [some (.ref rd), some (.str (S (word "delete"))), some (.ref D), none] ∧ H2 = upd H1 D (.ext (LstR D [u]))) ⟨rfl, rfl⟩ sT (fun n z m1 σ H2 hz => absurd hz (by simp)) ?_
      rintro m1 σ H2 ⟨rfl, rfl⟩
      refine ⟨_, rfl, D, [u], [.str "delete"], rfl, upd_same, .cons ru1 .nil, Nat.le_of_ble_eq_true rfl, fun t nt u1 hu1 => ?_⟩
      cases hu1
      exact k .delete (i + 1) _ t m1 hd1 (by omega) trivial hlt ⟨tupO [u], upd_same, trivial⟩ (hR2.ex (Ex.new nt)) (hb2.trans (But.of (Ex.new nt)))
    · have es : S (word "before") = "before" := by decide +kernel
      have ru1 : RelV (.str "before") u := by rw [← es]; exact ru
      have ed : duesOf (word "before") = [.lets] := by decide +kernel
      rw [ed] at sT
      have hd1 := deed_before hx ev
      rw [hd1] at kE
      refine for_tupN (xs := [.str "letters"]) (fun n m1 σ H2 => (n = 0 ∧ m1 = m ∧ σ = [some (.ref rd), some (.str (S (word "before"))), some (.ref D), none] ∧ H2 = upd H1 D (.ext (LstR D [u]))) ∨ (n = 1 ∧ ∃ (w2 : List UInt8) (vd : V), takeLetters (l.drop (i + 1)) = .ok (w2, l.drop (i + 1 + 1)) ∧ y.tok = .name w2 ∧ i + 1 + 1 < l.length ∧
        σ = [some (.ref rd), some (.str (S (word "before"))), some (.ref D), some vd] ∧ H2 D = some (.ext (LstR D [u, .str (S w2) (ids (i + 1))])) ∧ Rd CR CT H2 rd ids l (i + 1 + 1) ∧ But [rd] H H2)) (.inl ⟨rfl, rfl, rfl, rfl⟩) sT ?_ ?_
      · rintro n z m1 σ H2 hz (⟨rfl, rfl, rfl, rfl⟩ | ⟨rfl, _⟩)
        · cases hz
          refine ⟨_, rfl, D, [u], rfl, upd_same, _, rfl, _, rfl, rd, ids, l, i + 1, y, .lets, rfl, hR2, hy, hl, fun f hf => (kE f (by rw [hf]; rfl)).e hb2, fun v2 H3 hv2 ey hlt2 hR3 hb3 => ?_⟩
          have hD3 := hb3 D _ upd_same (by simp [nDr])
          exact ⟨[u], hD3, one_lt, 0, Nat.zero_lt_one, rfl, Nat.le_refl _, .inr ⟨rfl, v2, _, hv2, ey, hlt2, rfl, upd_same, hR3.updR hD3, But.fresh hbt nD (hb2.trans hb3)⟩⟩
        · simp at hz
      · rintro m1 σ H2 (⟨h, _⟩ | ⟨_, w2, vd, hw2, ey, hlt2, rfl, hD1, hR1x, hb1x⟩)
        · cases h
        · refine ⟨_, rfl, D, _, [.str "before", .str (S w2)], rfl, hD1, .cons ru1 (.cons ⟨_, rfl⟩ .nil), Nat.le_of_ble_eq_true rfl, fun t nt u1 hu1 => ?_⟩
          cases hu1
          exact k (.before w2) (i + 1 + 1) _ t m1 (by rw [hd1, hw2]; rfl) (by omega) (nmOk hy ey) hlt2 ⟨tupO _, upd_same, trivial⟩ (hR1x.ex (Ex.new nt)) (hb1x.trans (But.of (Ex.new nt)))
    · have es : S (word "after") = "after" := by decide +kernel
      have ru1 : RelV (.str "after") u := by rw [← es]; exact ru
      have ed : duesOf (word "after") = [.lets] := by decide +kernel
      rw [ed] at sT
      have hd1 := deed_after hx ev
      rw [hd1] at kE
      refine for_tupN (xs := [.str "letters"]) (fun n m1 σ H2 => (n = 0 ∧ m1 = m ∧ σ = [some (.ref rd), some (.str (S (word "after"))), some (.ref D), none] ∧ H2 = upd H1 D (.ext (LstR D [u]))) ∨ (n = 1 ∧ ∃ (w2 : List UInt8) (vd : V), takeLetters (l.drop (i + 1)) = .ok (w2, l.drop (i + 1 + 1)) ∧ y.tok = .name w2 ∧ i + 1 + 1 < l.length ∧
        σ = [some (.ref rd), some (.str (S (word "after"))), some (.ref D), some vd] ∧ H2 D = some (.ext (LstR D [u, .str (S w2) (ids (i + 1))])) ∧ Rd CR CT H2 rd ids l (i + 1 + 1) ∧ But [rd] H H2)) (.inl ⟨rfl, rfl, rfl, rfl⟩) sT ?_ ?_
      · rintro n z m1 σ H2 hz (⟨rfl, rfl, rfl, rfl⟩ | ⟨rfl, _⟩)
        · cases hz
          refine ⟨_, rfl, D, [u], rfl, upd_same, _, rfl, _, rfl, rd, ids, l, i + 1, y, .lets, rfl, hR2, hy, hl, fun f hf => (kE f (by rw [hf]; rfl)).e hb2, fun v2 H3 hv2 ey hlt2 hR3 hb3 => ?_⟩
          have hD3 := hb3 D _ upd_same (by simp [nDr])
          exact ⟨[u], hD3, one_lt, 0, Nat.zero_lt_one, rfl, Nat.le_refl _, .inr ⟨rfl, v2, _, hv2, ey, hlt2, rfl, upd_same, hR3.updR hD3, But.fresh hbt nD (hb2.trans hb3)⟩⟩
        · simp at hz
      · rintro m1 σ H2 (⟨h, _⟩ | ⟨_, w2, vd, hw2, ey, hlt2, rfl, hD1, hR1x, hb1x⟩)
        · cases h
        · refine ⟨_, rfl, D, _, [.str "after", .str (S w2)], rfl, hD1, .cons ru1 (.cons ⟨_, rfl⟩ .nil), Nat.le_of_ble_eq_true rfl, fun t nt u1 hu1 => ?_⟩
          cases hu1
          exact k (.after w2) (i + 1 + 1) _ t m1 (by rw [hd1, hw2]; rfl) (by omega) (nmOk hy ey) hlt2 ⟨tupO _, upd_same, trivial⟩ (hR1x.ex (Ex.new nt)) (hb1x.trans (But.of (Ex.new nt)))
    · have es : S (word "change") = "change" := by decide +kernel
      have ru1 : RelV (.str "change") u := by rw [← es]; exact ru
      have ed : duesOf (word "change") = [.lets] := by decide +kernel
      rw [ed] at sT
      have hd1 := deed_change hx ev
      rw [hd1] at kE
      refine for_tupN (xs := [.str "letters"]) (fun n m1 σ H2 => (n = 0 ∧ m1 = m ∧ σ = [some (.ref rd), some (.str (S (word "change"))), some (.ref D), none] ∧ H2 = upd H1 D (.ext (LstR D [u]))) ∨ (n = 1 ∧ ∃ (w2 : List UInt8) (vd : V), takeLetters (l.drop (i + 1)) = .ok (w2, l.drop (i + 1 + 1)) ∧ y.tok = .name w2 ∧ i + 1 + 1 < l.length ∧
        σ = [some (.ref rd), some (.str (S (word "change"))), some (.ref D), some vd] ∧ H2 D = some (.ext (LstR D [u, .str (S w2) (ids (i + 1))])) ∧ Rd CR CT H2 rd ids l (i + 1 + 1) ∧ But [rd] H H2)) (.inl ⟨rfl, rfl, rfl, rfl⟩) sT ?_ ?_
      · rintro n z m1 σ H2 hz (⟨rfl, rfl, rfl, rfl⟩ | ⟨rfl, _⟩)
        · cases hz
          refine ⟨_, rfl, D, [u], rfl, upd_same, _, rfl, _, rfl, rd, ids, l, i + 1, y, .lets, rfl, hR2, hy, hl, fun f hf => (kE f (by rw [hf]; rfl)).e hb2, fun v2 H3 hv2 ey hlt2 hR3 hb3 => ?_⟩
          have hD3 := hb3 D _ upd_same (by simp [nDr])
          exact ⟨[u], hD3, one_lt, 0, Nat.zero_lt_one, rfl, Nat.le_refl _, .inr ⟨rfl, v2, _, hv2, ey, hlt2, rfl, upd_same, hR3.updR hD3, But.fresh hbt nD (hb2.trans hb3)⟩⟩
        · simp at hz
      · rintro m1 σ H2 (⟨h, _⟩ | ⟨_, w2, vd, hw2, ey, hlt2, rfl, hD1, hR1x, hb1x⟩)
        · cases h
        · refine ⟨_, rfl, D, _, [.str "change", .str (S w2)], rfl, hD1, .cons ru1 (.cons ⟨_, rfl⟩ .nil), Nat.le_of_ble_eq_true rfl, fun t nt u1 hu1 => ?_⟩
          cases hu1
          exact k (.change w2) (i + 1 + 1) _ t m1 (by rw [hd1, hw2]; rfl) (by omega) (nmOk hy ey) hlt2 ⟨tupO _, upd_same, trivial⟩ (hR1x.ex (Ex.new nt)) (hb1x.trans (But.of (Ex.new nt)))
    · have es : S (word "swap") = "swap" := by decide +kernel
      have ru1 : RelV (.str "swap") u := by rw [← es]; exact ru
      have ed : duesOf (word "swap") = [.lets, .non] := by decide +kernel
      rw [ed] at sT
      have hd1 := deed_swap hx ev
      rw [hd1] at kE
      have kE1 : ∀ f, takeLetters (l.drop (i + 1)) = .error f → FaultB CF rd f.code f.place H E := fun f hf => kE f (by unfold takeTwo; rw [hf]; rfl)
      have kE2 : ∀ (a : List UInt8) f, takeLetters (l.drop (i + 1)) = .ok (a, l.drop (i + 1 + 1)) → takeInstead (l.drop (i + 1 + 1)) = .error f → FaultB CF rd f.code f.place H E := fun a f ha hf => kE f (by
        unfold takeTwo
        rw [ha]
        show (takeInstead (l.drop (i + 1 + 1))).map _ = _
        rw [hf]
        rfl)
      refine for_tupN (xs := [.str "letters", .str "letters or none"]) (fun n m1 σ H2 => (n = 0 ∧ m1 = m ∧ σ = [some (.ref rd), some (.str (S (word "swap"))), some (.ref D), none] ∧ H2 = upd H1 D (.ext (LstR D [u]))) ∨
        (n = 1 ∧ m1 = m ∧ ∃ (w2 : List UInt8) (vd : V), takeLetters (l.drop (i + 1)) = .ok (w2, l.drop (i + 1 + 1)) ∧ y.tok = .name w2 ∧ i + 1 + 1 < l.length ∧ σ = [some (.ref rd), some (.str (S (word "swap"))), some (.ref D), some vd] ∧ H2 D = some (.ext (LstR D [u, .str (S w2) (ids (i + 1))])) ∧ Rd CR CT H2 rd ids l (i + 1 + 1) ∧ But [rd] H H2) ∨
        (n = 2 ∧ ∃ (w2 w3 : List UInt8) (t3 : Nat) (vd : V), takeLetters (l.drop (i + 1)) = .ok (w2, l.drop (i + 1 + 1)) ∧ y.tok = .name w2 ∧ takeInstead (l.drop (i + 1 + 1)) = .ok (w3, l.drop (i + 1 + 1 + 1)) ∧ i + 1 + 1 + 1 < l.length ∧ ((t3 = ids (i + 1 + 1) ∧ ∃ y2, l[i + 1 + 1]? = some y2 ∧ y2.tok = .name w3) ∨ (w3 = [] ∧ m ≤ t3)) ∧
          σ = [some (.ref rd), some (.str (S (word "swap"))), some (.ref D), some vd] ∧ H2 D = some (.ext (LstR D [u, .str (S w2) (ids (i + 1)), .str (S w3) t3])) ∧ Rd CR CT H2 rd ids l (i + 1 + 1 + 1) ∧ But [rd] H H2)) (.inl ⟨rfl, rfl, rfl, rfl⟩) sT ?_ ?_
      · rintro n z m1 σ H2 hz (⟨rfl, rfl, rfl, rfl⟩ | ⟨rfl, rfl, w2, vd, hw2, ey, hlt2, rfl, hD1, hR1x, hb1x⟩ | ⟨rfl, _⟩)
        · cases hz
          refine ⟨_, rfl, D, [u], rfl, upd_same, _, rfl, _, rfl, rd, ids, l, i + 1, y, .lets, rfl, hR2, hy, hl, fun f hf => (kE1 f hf).e hb2, fun v2 H3 hv2 ey hlt2 hR3 hb3 => ?_⟩
          have hD3 := hb3 D _ upd_same (by simp [nDr])
          exact ⟨[u], hD3, one_lt, 1, Nat.le_refl _, rfl, Nat.le_succ _, .inr (.inl ⟨rfl, rfl, v2, _, hv2, ey, hlt2, rfl, upd_same, hR3.updR hD3, But.fresh hbt nD (hb2.trans hb3)⟩)⟩
        · cases hz
          obtain ⟨y2, hy2⟩ : ∃ y2, l[i + 1 + 1]? = some y2 := ⟨_, List.getElem?_eq_getElem hlt2⟩
          refine ⟨_, rfl, D, _, rfl, hD1, _, rfl, _, rfl, rd, ids, l, i + 1 + 1, y2, .non, rfl, hR1x, hy2, hl, fun f hf => (kE2 w2 f hw2 hf).e hb1x, fun v3 H3 t3 m3 hv3 ht3 hlt3 hR3 hb3 => ?_⟩
          have hD3 := hb3 D _ hD1 (by simp [nDr])
          exact ⟨_, hD3, two_lt, 0, Nat.zero_lt_one, rfl, Nat.le_refl _, .inr (.inr ⟨rfl, w2, v3, t3, _, hw2, ey, hv3, hlt3, ht3.imp (fun q => ⟨q.1, y2, hy2, q.2⟩) id, rfl, upd_same, hR3.updR hD3, But.fresh hbt nD (hb1x.trans hb3)⟩)⟩
        · simp at hz
      · rintro m1 σ H2 (⟨h, _⟩ | ⟨h, _⟩ | ⟨_, w2, w3, t3, vd, hw2, ey, hw3, hlt3, ht3, rfl, hD1, hR1x, hb1x⟩)
        · cases h
        · cases h
        · refine ⟨_, rfl, D, _, [.str "swap", .str (S w2), .str (S w3)], rfl, hD1, .cons ru1 (.cons ⟨_, rfl⟩ (.cons ⟨_, rfl⟩ .nil)), Nat.le_of_ble_eq_true rfl, fun t nt u1 hu1 => ?_⟩
          cases hu1
          have i1 := hids.1 _ _ _ hy ey
          have t3p : 1 ≤ t3 ∧ ids (i + 1) < t3 ∧ w3.length ≤ 8 := by
            rcases ht3 with ⟨e3, y2, hy2, ey2⟩ | ⟨e3, h3⟩
            · rw [e3]
              have i2 := hids.2 (i + 1) (i + 1 + 1) _ _ _ _ (Nat.lt_succ_self _) hy ey hy2 ey2
              exact ⟨(hids.1 _ _ _ hy2 ey2).1, i2, (nmOk hy2 ey2).2⟩
            · rw [e3]
              exact ⟨by omega, by omega, Nat.zero_le _⟩
          have tok : DeedTok (tupO [u, .str (S w2) (ids (i + 1)), .str (S w3) t3]) (S w2) (S w3) := ⟨u, ids (i + 1), t3, 0, rfl, rfl, by have := i1.1; exact Nat.ne_of_gt this, Nat.ne_of_gt t3p.1, Nat.ne_of_lt t3p.2.1⟩
          refine k (.swap w2 w3) (i + 1 + 1 + 1) _ t m1 ?_ (by omega) ⟨nmOk hy ey, t3p.2.2⟩ hlt3 ⟨tupO _, upd_same, tok⟩ (hR1x.ex (Ex.new nt)) (hb1x.trans (But.of (Ex.new nt)))
          rw [hd1]
          unfold takeTwo
          rw [hw2]
          show (takeInstead (l.drop (i + 1 + 1))).map _ = _
          rw [hw3]
          rfl
    · have es : S (word "first") = "first" := by decide +kernel
      have ru1 : RelV (.str "first") u := by rw [← es]; exact ru
      have ed : duesOf (word "first") = [.lets, .non] := by decide +kernel
      rw [ed] at sT
      have hd1 := deed_first hx ev
      rw [hd1] at kE
      have kE1 : ∀ f, takeLetters (l.drop (i + 1)) = .error f → FaultB CF rd f.code f.place H E := fun f hf => kE f (by unfold takeTwo; rw [hf]; rfl)
      have kE2 : ∀ (a : List UInt8) f, takeLetters (l.drop (i + 1)) = .ok (a, l.drop (i + 1 + 1)) → takeInstead (l.drop (i + 1 + 1)) = .error f → FaultB CF rd f.code f.place H E := fun a f ha hf => kE f (by
        unfold takeTwo
        rw [ha]
        show (takeInstead (l.drop (i + 1 + 1))).map _ = _
        rw [hf]
        rfl)
      refine for_tupN (xs := [.str "letters", .str "letters or none"]) (fun n m1 σ H2 => (n = 0 ∧ m1 = m ∧ σ = [some (.ref rd), some (.str (S (word "first"))), some (.ref D), none] ∧ H2 = upd H1 D (.ext (LstR D [u]))) ∨
        (n = 1 ∧ m1 = m ∧ ∃ (w2 : List UInt8) (vd : V), takeLetters (l.drop (i + 1)) = .ok (w2, l.drop (i + 1 + 1)) ∧ y.tok = .name w2 ∧ i + 1 + 1 < l.length ∧ σ = [some (.ref rd), some (.str (S (word "first"))), some (.ref D), some vd] ∧ H2 D = some (.ext (LstR D [u, .str (S w2) (ids (i + 1))])) ∧ Rd CR CT H2 rd ids l (i + 1 + 1) ∧ But [rd] H H2) ∨
        (n = 2 ∧ ∃ (w2 w3 : List UInt8) (t3 : Nat) (vd : V), takeLetters (l.drop (i + 1)) = .ok (w2, l.drop (i + 1 + 1)) ∧ y.tok = .name w2 ∧ takeInstead (l.drop (i + 1 + 1)) = .ok (w3, l.drop (i + 1 + 1 + 1)) ∧ i + 1 + 1 + 1 < l.length ∧ ((t3 = ids (i + 1 + 1) ∧ ∃ y2, l[i + 1 + 1]? = some y2 ∧ y2.tok = .name w3) ∨ (w3 = [] ∧ m ≤ t3)) ∧
          σ = [some (.ref rd), some (.str (S (word "first"))), some (.ref D), some vd] ∧ H2 D = some (.ext (LstR D [u, .str (S w2) (ids (i + 1)), .str (S w3) t3])) ∧ Rd CR CT H2 rd ids l (i + 1 + 1 + 1) ∧ But [rd] H H2)) (.inl ⟨rfl, rfl, rfl, rfl⟩) sT ?_ ?_
      · rintro n z m1 σ H2 hz (⟨rfl, rfl, rfl, rfl⟩ | ⟨rfl, rfl, w2, vd, hw2, ey, hlt2, rfl, hD1, hR1x, hb1x⟩ | ⟨rfl, _⟩)
        · cases hz
          refine ⟨_, rfl, D, [u], rfl, upd_same, _, rfl, _, rfl, rd, ids, l, i + 1, y, .lets, rfl, hR2, hy, hl, fun f hf => (kE1 f hf).e hb2, fun v2 H3 hv2 ey hlt2 hR3 hb3 => ?_⟩
          have hD3 := hb3 D _ upd_same (by simp [nDr])
          exact ⟨[u], hD3, one_lt, 1, Nat.le_refl _, rfl, Nat.le_succ _, .inr (.inl ⟨rfl, rfl, v2, _, hv2, ey, hlt2, rfl, upd_same, hR3.updR hD3, But.fresh hbt nD (hb2.trans hb3)⟩)⟩
        · cases hz
          obtain ⟨y2, hy2⟩ : ∃ y2, l[i + 1 + 1]? = some y2 := ⟨_, List.getElem?_eq_getElem hlt2⟩
          refine ⟨_, rfl, D, _, rfl, hD1, _, rfl, _, rfl, rd, ids, l, i + 1 + 1, y2, .non, rfl, hR1x, hy2, hl, fun f hf => (kE2 w2 f hw2 hf).e hb1x, fun v3 H3 t3 m3 hv3 ht3 hlt3 hR3 hb3 => ?_⟩
          have hD3 := hb3 D _ hD1 (by simp [nDr])
          exact ⟨_, hD3, two_lt, 0, Nat.zero_lt_one, rfl, Nat.le_refl _, .inr (.inr ⟨rfl, w2, v3, t3, _, hw2, ey, hv3, hlt3, ht3.imp (fun q => ⟨q.1, y2, hy2, q.2⟩) id, rfl, upd_same, hR3.updR hD3, But.fresh hbt nD (hb1x.trans hb3)⟩)⟩
        · simp at hz
      · rintro m1 σ H2 (⟨h, _⟩ | ⟨h, _⟩ | ⟨_, w2, w3, t3, vd, hw2, ey, hw3, hlt3, ht3, rfl, hD1, hR1x, hb1x⟩)
        · cases h
        · cases h
        · refine ⟨_, rfl, D, _, [.str "first", .str (S w2), .str (S w3)], rfl, hD1, .cons ru1 (.cons ⟨_, rfl⟩ (.cons ⟨_, rfl⟩ .nil)), Nat.le_of_ble_eq_true rfl, fun t nt u1 hu1 => ?_⟩
          cases hu1
          have i1 := hids.1 _ _ _ hy ey
          have t3p : 1 ≤ t3 ∧ ids (i + 1) < t3 ∧ w3.length ≤ 8 := by
            rcases ht3 with ⟨e3, y2, hy2, ey2⟩ | ⟨e3, h3⟩
            · rw [e3]
              have i2 := hids.2 (i + 1) (i + 1 + 1) _ _ _ _ (Nat.lt_succ_self _) hy ey hy2 ey2
              exact ⟨(hids.1 _ _ _ hy2 ey2).1, i2, (nmOk hy2 ey2).2⟩
            · rw [e3]
              exact ⟨by omega, by omega, Nat.zero_le _⟩
          have tok : DeedTok (tupO [u, .str (S w2) (ids (i + 1)), .str (S w3) t3]) (S w2) (S w3) := ⟨u, ids (i + 1), t3, 0, rfl, rfl, by have := i1.1; exact Nat.ne_of_gt this, Nat.ne_of_gt t3p.1, Nat.ne_of_lt t3p.2.1⟩
          refine k (.first w2 w3) (i + 1 + 1 + 1) _ t m1 ?_ (by omega) ⟨nmOk hy ey, t3p.2.2⟩ hlt3 ⟨tupO _, upd_same, tok⟩ (hR1x.ex (Ex.new nt)) (hb1x.trans (But.of (Ex.new nt)))
          rw [hd1]
          unfold takeTwo
          rw [hw2]
          show (takeInstead (l.drop (i + 1 + 1))).map _ = _
          rw [hw3]
          rfl
    · have es : S (word "keep") = "keep" := by decide +kernel
      have ru1 : RelV (.str "keep") u := by rw [← es]; exact ru
      have ed : duesOf (word "keep") = [] := by decide +kernel
      rw [ed] at sT
      have hd1 := deed_keep hx ev
      refine for_tupN (xs := []) (fun n m1 σ H2 => σ = [some (.ref rd), some (.str (S (word "keep"))), some (.ref D), none] ∧ H2 = upd H1 D (.ext (LstR D [u]))) ⟨rfl, rfl⟩ sT (fun n z m1 σ H2 hz => absurd hz (by simp)) ?_
      rintro m1 σ H2 ⟨rfl, rfl⟩
      refine ⟨_, rfl, D, [u], [.str "keep"], rfl, upd_same, .cons ru1 .nil, Nat.le_of_ble_eq_true rfl, fun t nt u1 hu1 => ?_⟩
      cases hu1
      exact k .keep (i + 1) _ t m1 hd1 (by omega) trivial hlt ⟨tupO [u], upd_same, trivial⟩ (hR2.ex (Ex.new nt)) (hb2.trans (But.of (Ex.new nt)))
    · have es : S (word "bring") = "bring" := by decide +kernel
      have ru1 : RelV (.str "bring") u := by rw [← es]; exact ru
      have ed : duesOf (word "bring") = [] := by decide +kernel
      rw [ed] at sT
      have hd1 := deed_bring hx ev
      refine for_tupN (xs := []) (fun n m1 σ H2 => σ = [some (.ref rd), some (.str (S (word "bring"))), some (.ref D), none] ∧ H2 = upd H1 D (.ext (LstR D [u]))) ⟨rfl, rfl⟩ sT (fun n z m1 σ H2 hz => absurd hz (by simp)) ?_
      rintro m1 σ H2 ⟨rfl, rfl⟩
      refine ⟨_, rfl, D, [u], [.str "bring"], rfl, upd_same, .cons ru1 .nil, Nat.le_of_ble_eq_true rfl, fun t nt u1 hu1 => ?_⟩
      cases hu1
      exact k .bring (i + 1) _ t m1 hd1 (by omega) trivial hlt ⟨tupO [u], upd_same, trivial⟩ (hR2.ex (Ex.new nt)) (hb2.trans (But.of (Ex.new nt)))
    · have es : S (word "trade") = "trade" := by decide +kernel
      have ru1 : RelV (.str "trade") u := by rw [← es]; exact ru
      have ed : duesOf (word "trade") = [] := by decide +kernel
      rw [ed] at sT
      have hd1 := deed_trade hx ev
      refine for_tupN (xs := []) (fun n m1 σ H2 => σ = [some (.ref rd), some (.str (S (word "trade"))), some (.ref D), none] ∧ H2 = upd H1 D (.ext (LstR D [u]))) ⟨rfl, rfl⟩ sT (fun n z m1 σ H2 hz => absurd hz (by simp)) ?_
      rintro m1 σ H2 ⟨rfl, rfl⟩
      refine ⟨_, rfl, D, [u], [.str "trade"], rfl, upd_same, .cons ru1 .nil, Nat.le_of_ble_eq_true rfl, fun t nt u1 hu1 => ?_⟩
      cases hu1
      exact k .trade (i + 1) _ t m1 hd1 (by omega) trivial hlt ⟨tupO [u], upd_same, trivial⟩ (hR2.ex (Ex.new nt)) (hb2.trans (But.of (Ex.new nt)))
    · have es : S (word "skip") = "skip" := by decide +kernel
      have ru1 : RelV (.str "skip") u := by rw [← es]; exact ru
      have ed : duesOf (word "skip") = [.num] := by decide +kernel
      rw [ed] at sT
      have hd1 := deed_skip hx ev
      rw [hd1] at kE
      refine for_tupN (xs := [.str "number"]) (fun n m1 σ H2 => (n = 0 ∧ m1 = m ∧ σ = [some (.ref rd), some (.str (S (word "skip"))), some (.ref D), none] ∧ H2 = upd H1 D (.ext (LstR D [u]))) ∨ (n = 1 ∧ ∃ (n2 : Nat) (un : Value) (vd : V), takeNum 1 9 (l.drop (i + 1)) = .ok (n2, l.drop (i + 1 + 1)) ∧ RelV (.int (n2 : Nat)) un ∧ i + 1 + 1 < l.length ∧
        σ = [some (.ref rd), some (.str (S (word "skip"))), some (.ref D), some vd] ∧ H2 D = some (.ext (LstR D [u, un])) ∧ Rd CR CT H2 rd ids l (i + 1 + 1) ∧ But [rd] H H2)) (.inl ⟨rfl, rfl, rfl, rfl⟩) sT ?_ ?_
      · rintro n z m1 σ H2 hz (⟨rfl, rfl, rfl, rfl⟩ | ⟨rfl, _⟩)
        · cases hz
          refine ⟨_, rfl, D, [u], rfl, upd_same, _, rfl, _, rfl, rd, ids, l, i + 1, y, .num, rfl, hR2, hy, hl, fun f hf => (kE f (by rw [hf]; rfl)).e hb2, fun n2 H3 un hn2 hlt2 hR3 hb3 run => ?_⟩
          have hD3 := hb3 D _ upd_same (by simp [nDr])
          exact ⟨[u], hD3, one_lt, 0, Nat.zero_lt_one, rfl, Nat.le_refl _, .inr ⟨rfl, n2, un, _, hn2, run, hlt2, rfl, upd_same, hR3.updR hD3, But.fresh hbt nD (hb2.trans hb3)⟩⟩
        · simp at hz
      · rintro m1 σ H2 (⟨h, _⟩ | ⟨_, n2, un, vd, hn2, run, hlt2, rfl, hD1, hR1x, hb1x⟩)
        · cases h
        · refine ⟨_, rfl, D, _, [.str "skip", .int (n2 : Nat)], rfl, hD1, .cons ru1 (.cons run .nil), Nat.le_of_ble_eq_true rfl, fun t nt u1 hu1 => ?_⟩
          cases hu1
          exact k (.skip n2) (i + 1 + 1) _ t m1 (by rw [hd1, hn2]; rfl) (by omega) trivial hlt2 ⟨tupO _, upd_same, trivial⟩ (hR1x.ex (Ex.new nt)) (hb1x.trans (But.of (Ex.new nt)))
    · have es : S (word "stop") = "stop" := by decide +kernel
      have ru1 : RelV (.str "stop") u := by rw [← es]; exact ru
      have ed : duesOf (word "stop") = [] := by decide +kernel
      rw [ed] at sT
      have hd1 := deed_stop hx ev
      refine for_tupN (xs := []) (fun n m1 σ H2 => σ = [some (.ref rd), some (.str (S (word "stop"))), some (.ref D), none] ∧ H2 = upd H1 D (.ext (LstR D [u]))) ⟨rfl, rfl⟩ sT (fun n z m1 σ H2 hz => absurd hz (by simp)) ?_
      rintro m1 σ H2 ⟨rfl, rfl⟩
      refine ⟨_, rfl, D, [u], [.str "stop"], rfl, upd_same, .cons ru1 .nil, Nat.le_of_ble_eq_true rfl, fun t nt u1 hu1 => ?_⟩
      cases hu1
      exact k .halt_ (i + 1) _ t m1 hd1 (by omega) trivial hlt ⟨tupO [u], upd_same, trivial⟩ (hR2.ex (Ex.new nt)) (hb2.trans (But.of (Ex.new nt)))
end LE

/-! LCm: a command is read. -/
namespace LE
open PySem PySem.Spec PyProof.Rows L2 Evl
open VasedBase (isLetter isDigit PTok Toks RESERVED tokEq here nextWord next word wrong Fault takeSign)
open Vaseda (takeNum takeLetters takeAddr takeInstead takeTwo takeDeed takeCmd Deed Cmd)
variable {P : Program} {w : World} {K : PySem.W.Frag} {mg : Str → Option Value} {base : Heap}
/-! ### Command -/
structure TxtCmd (K : PySem.W.Frag) (CC : Addr) : Prop where
  cl : Cls K CC
  nW : NoAttr K CC "wanted"
  nA : NoAttr K CC "address"
  nD : NoAttr K CC "deed"
abbrev sCmdInit : Stmt := inClass (top 73) 0
theorem sc_cmd_init : FnScope ["self", "wanted", "address", "deed"] ["self", "wanted", "address", "deed"] (defScope sCmdInit) := ⟨rfl, rfl, rfl, by decide +kernel, rfl, by decide +kernel, by decide +kernel⟩
def spCmdInit (CC : Addr) : Sp := fun vs H Q _ => ∃ (p dx ta td : Addr) (b : Bool), vs = [.ref p, .bl b, .ref ta, .ref td] ∧ H p = some (.ins CC dx []) ∧ Q .non (upd H p (.ins CC dx (cF b ta td)))
theorem ok_cmd_init {f CC : Addr} {fd : FuncData} (F : Fun K "__init__" "Command.__init__" sCmdInit f fd) (T : TxtCmd K CC) : FnOk P w K mg base CX0 1 f fd ["self", "wanted", "address", "deed"] (spCmdInit CC) := by
  refine F.ok sc_cmd_init (fun vs H Q E h => ?_) (fun cdv A outer s H vs Q E hr h => ⟨_, pss_cons (ps_fld (pv 0) (pv 1) rfl) (pss_cons (ps_fld (pv 0) (pv 2) rfl) (pss_one (ps_fld (pv 0) (pv 3) rfl))), ?_⟩)
  · obtain ⟨p, dx, ta, td, b, rfl, _⟩ := h
    rfl
  · obtain ⟨p, dx, ta, td, b, rfl, hp, k⟩ := h
    refine ⟨_, rfl, _, rfl, p, CC, dx, [], rfl, hp, T.cl, T.nW, by decide, ?_⟩
    refine ⟨_, rfl, _, rfl, p, CC, dx, _, rfl, upd_same, T.cl, T.nA, by show 1 < 1000; decide, ?_⟩
    refine ⟨_, rfl, _, rfl, p, CC, dx, _, rfl, upd_same, T.cl, T.nD, by show 2 < 1000; decide, ?_⟩
    rw [upd_upd, upd_upd]
    exact k
/-! ### read_command -/
theorem even_notN (n : Nat) (x : Vaseda.Addr × Toks) (h : even x.1 = true) : even (notN n x).1 = decide ((n : Int) % 2 = 0) := by
  induction n with
  | zero => exact h
  | succ n ih =>
    show (!even (notN n x).1) = _
    rw [ih]
    by_cases e : (n : Int) % 2 = 0
    · rw [decide_eq_true e, decide_eq_false (by omega)]
      rfl
    · rw [decide_eq_false e, decide_eq_true (by omega)]
      rfl
theorem strip_of {a : Vaseda.Addr} (h : bare a) : strip a = a := by cases a <;> first | rfl | exact h.elim
theorem even_of {a : Vaseda.Addr} (h : bare a) : even a = true := by cases a <;> first | rfl | exact h.elim
theorem notN_rest (n : Nat) (x : Vaseda.Addr × Toks) : (notN n x).2 = x.2 := by
  induction n with
  | zero => rfl
  | succ n ih => exact ih
abbrev sCommand : Stmt := top 76
theorem sc_command : FnScope ["reader", "wanted", "address", "deed"] ["reader"] (defScope sCommand) := ⟨rfl, rfl, rfl, by decide +kernel, rfl, by decide +kernel, by decide +kernel⟩
def spCommandN (CR CT CF CC : Addr) : NSp := fun m vs H Q E => ∃ (rd : Addr) (ids : Nat → Nat) (l : Toks) (i : Nat) (x : PTok), vs = [.ref rd] ∧ Rd CR CT H rd ids l i ∧ l[i]? = some x ∧ LexOk l ∧ IdsOk m ids l ∧ (∀ f, takeCmd (l.drop i) = .error f → FaultB CF rd f.code f.place H E) ∧
  (∀ cmd i' H' c m', takeCmd (l.drop i) = .ok (cmd, l.drop i') → i < i' → wfD cmd.d → i' < l.length → CmdAt CC H' c cmd → Rd CR CT H' rd ids l i' → But [rd] H H' → Q (.ref c) (.ref c) m' H')
theorem okN_command {f CR CT CF CC : Addr} {fd : FuncData} (F : Fun K "read_command" "read_command" sCommand f fd) (R : RdM P w K mg base CR CT CF) (gn : Dn P w K mg base (L2.CX P w) 4 "read_nots" (spNots CR CT CF) 1) (ga : Dn P w K mg base (L2.CX P w) 5 "read_address" (spAddr CR CT CF) 1)
    (gd : DnN P w K mg base (L2.CX P w) 6 "read_deed" (spDeedN CR CT CF)) (gc : Kn P w K mg base 1 "Command" CC (spCmdInit CC)) (gs : Gc mg "SIGN" (.str ";")) : FnN P w K mg base (L2.CX P w) 7 f fd ["reader"] (spCommandN CR CT CF CC) := by
  refine fnN_ok F sc_command (fun m vs H Q E h => ?_) (fun cdv m A outer s H vs Q E hr h => ⟨_, pssN_cons (psN_of (ps_set (i := 1) sc_command.nd rfl (.inl rfl) pe_bl))
    (pssN_cons (psN_of (ps_set (i := 2) sc_command.nd rfl (.inl rfl) (pe_tup (pa_cons pe_str pa_nil))))
    (pssN_cut (psN_of (ps_if (pt_val (pe_mn R.k.stands hr pass0 (pv 0) (pa_cons pe_str pa_nil))) (pss_cons (ps_expr (pe_ofN (pen_mn0 R.k.take hr pass0 (pv 0))))
      (pss_cons (ps_set (i := 1) sc_command.nd rfl (.inl rfl) (pe_cmpR op_eq (pe_op op_mod (pe_dn gn hr (pass1 rfl rfl rfl rfl) (pa_cons (pv 0) pa_nil)) pe_int) pe_int (nomark _)))
      (pss_one (ps_set (i := 2) sc_command.nd rfl (.inl rfl) (pe_dn ga hr (pass1 rfl rfl rfl rfl) (pa_cons (pv 0) pa_nil)))))) pss_nil))
    (pssN_cons (psN_set (i := 3) sc_command.nd rfl (.inl rfl) (pen_dn gd hr (pass1 rfl rfl rfl rfl) (pa_cons (pv 0) pa_nil)))
    (pssN_cons (psN_of (ps_expr (pe_mn R.own hr (pass1 rfl rfl rfl rfl) (pv 0) (pa_cons (pe_gc gs) pa_nil))))
    (pssN_one (psN_of (ps_ret (pe_kn gc hr (pa_cons (pv 1) (pa_cons (pv 2) (pa_cons (pv 3) pa_nil))))))))))), ?_⟩)
  · obtain ⟨rd, ids, l, i, x, rfl, _⟩ := h
    rfl
  · obtain ⟨rd, ids, l, i, x, rfl, hR, hx, hl, hids, kE, k⟩ := h
    have hi := (List.getElem?_eq_some_iff.mp hx).1
    refine ⟨by decide, fun t0 nt0 => ?_⟩
    have eT : Ex H (upd H t0 (.tup [.str "all"])) := Ex.new nt0
    have hR0 := hR.ex eT
    obtain ⟨dx0, L0, ps0, h1, h2, h3, h4⟩ := id hR0
    -- behind the condition: the address a (its nots counted), the reader at i1
    refine ⟨fun m' σ H1 => ∃ (a : Vaseda.Addr) (ta : Addr) (i1 : Nat), m' = m ∧ σ = [some (.ref rd), some (.bl (even a)), some (.ref ta), none] ∧ H1 ta = some (.tup (av (strip a))) ∧ i ≤ i1 ∧ i1 < l.length ∧ Rd CR CT H1 rd ids l i1 ∧ But [rd] H H1 ∧
      takeCmd (l.drop i) = (takeDeed (l.drop i1)).bind fun d => (takeSign 59 d.2).map fun m => (⟨a, d.1⟩, m), ?_, ?_⟩
    · rintro m' σ H1 ⟨a, ta, i1, rfl, rfl, hta, hi1, hlt1, hR1, hb1, hC⟩
      obtain ⟨x1, hx1⟩ : ∃ x1, l[i1]? = some x1 := ⟨_, List.getElem?_eq_getElem hlt1⟩
      refine ⟨_, rfl, rd, ids, l, i1, x1, rfl, hR1, hx1, hl, hids, fun f hf => (kE f ?_).b hb1, fun d i2 H2 td m2 hd hi2 wd hlt2 hdt hR2 hb2 => ?_⟩
      · rw [hC, hf]
        rfl
      · have hbt := hb1.trans hb2
        obtain ⟨x2, hx2⟩ : ∃ x2, l[i2]? = some x2 := ⟨_, List.getElem?_eq_getElem hlt2⟩
        obtain ⟨dx2, L2', ps2, f1, f2, f3, f4⟩ := id hR2
        have ts : takeSign 59 (l.drop i2) = if tokEq x2.tok (.sign 59) = true then .ok (l.drop (i2 + 1)) else .error ⟨3, x2.place⟩ := by
          unfold takeSign VasedBase.taken
          rw [next_at hx2, drop1, wrong_at hx2]
        rw [hd] at hC
        have hC2 : takeCmd (l.drop i) = (takeSign 59 (l.drop i2)).map fun m => (⟨a, d⟩, m) := hC
        rw [ts] at hC2
        refine ⟨_, rfl, rd, dx2, _, rfl, f1, rfl, rd, ids, l, i2, x2, ";", rfl, hR2, hx2, fun hs => (kE ⟨3, x2.place⟩ ?_).e hbt, fun hs H3 hR3 hb3 => ?_⟩
        · rw [stands_sign] at hs
          rw [hC2, if_neg (by rw [hs]; exact Bool.false_ne_true)]
          rfl
        · rw [stands_sign] at hs
          rw [if_pos hs] at hC2
          have hnl : x2.tok ≠ .last := fun z => by
            rw [z] at hs
            cases hs
          obtain ⟨y, hy⟩ := hl.next hx2 hnl
          have hlt3 := (List.getElem?_eq_some_iff.mp hy).1
          have hbt3 := hbt.trans hb3
          have nta : ta ∉ [rd] := by
            obtain ⟨dx1, L1, ps1, g1, _⟩ := hR1
            have : ta ≠ rd := ne_of hta g1 fun z => by cases z
            simpa using this
          have hta2 := hb2 ta _ hta nta
          have hta3 := hb3 ta _ hta2 nta
          have ntd : td ∉ [rd] := by
            obtain ⟨o, ho, _⟩ := hdt
            have : td ≠ rd := ne_of ho f1 fun z => by cases z
            simpa using this
          have hdt3 : DeedAt H3 td d := by
            obtain ⟨o, ho, r⟩ := hdt
            exact ⟨o, hb3 td _ ho ntd, r⟩
          refine ⟨_, rfl, _, rfl, _, rfl, fun c dxc nc ndc nec => ?_⟩
          have ec : Ex H3 (upd (upd H3 dxc (.own c)) c (.ins CC dxc [])) := (Ex.new ndc).mut nc
          refine ⟨c, dxc, ta, td, even a, rfl, upd_same, rfl, fun u hu => ?_⟩
          cases hu
          have ec2 : Ex H3 (upd (upd (upd H3 dxc (.own c)) c (.ins CC dxc [])) c (.ins CC dxc (cF (even a) ta td))) := ec.mut nc
          exact k ⟨a, d⟩ (i2 + 1) _ c m2 hC2 (by omega) wd hlt3 ⟨⟨dxc, ta, td, upd_same, ec2 _ _ hta3, hdt3.ex ec2⟩⟩ (hR3.ex ec2) (hbt3.trans (But.of ec2))
    · refine ⟨_, rfl, rd, dx0, _, rfl, h1, rfl, rd, ids, l, i, x, "if", rfl, hR0, hx, fun H1 e1 => ⟨_, rfl, ?_⟩⟩
      have es : standsB x.tok "if" = nextWord "if" (l.drop i) := by
        rw [nextWord_at hx]
        exact stands_word (v := word "if") (by decide +kernel) (by decide +kernel)
      have e01 := eT.trans e1
      have hR1 := hR0.ex e1
      rw [es]
      cases hw : nextWord "if" (l.drop i) with
      | false =>
        refine iteF ⟨.all, t0, i, rfl, rfl, e1 _ _ upd_same, Nat.le_refl _, hi, hR1, But.of e01, ?_⟩
        unfold takeCmd
        rw [hw, if_neg Bool.false_ne_true]
        rfl
      | true =>
        have hnl : x.tok ≠ .last := fun z => by
          rw [nextWord_at hx, z] at hw
          cases hw
        obtain ⟨y, hy⟩ := hl.next hx hnl
        have hlt1 := (List.getElem?_eq_some_iff.mp hy).1
        have hC : takeCmd (l.drop i) = (takeAddr ((l.drop i).length + 1) 0 (l.drop (i + 1))).bind fun a => (takeDeed a.2).bind fun d => (takeSign 59 d.2).map fun m => (⟨a.1, d.1⟩, m) := by
          unfold takeCmd
          rw [hw, if_pos rfl, drop1]
        refine iteT ⟨_, rfl, rd, dx0, _, rfl, e1 _ _ h1, rfl, rd, ids, l, i, x, rfl, hR1, hx, fun H2 u hR2 hb2 _ _ => ?_⟩
        have hbt2 := (But.of (l := [rd]) e01).trans hb2
        have hld : ((l.drop (i + 1)).length) < (l.drop i).length + 1 := by rw [List.length_drop, List.length_drop]; omega
        refine ⟨_, rfl, rd, ids, l, i + 1, (l.drop i).length + 1, rfl, hR2, hlt1, hl, hld, fun p hp => (kE ⟨4, p⟩ (by rw [hC, hp]; rfl)).b hbt2, fun n H3 hA hltn hR3 hb3 => ?_⟩
        have hbt3 := hbt2.trans hb3
        rw [hA] at hC
        refine ⟨_, _, rfl, rfl, (show (0 : Int) < 2 by decide), rfl, ?_⟩
        obtain ⟨x3, hx3⟩ : ∃ x3, l[i + 1 + n]? = some x3 := ⟨_, List.getElem?_eq_getElem hltn⟩
        refine ⟨_, rfl, rd, ids, l, i + 1 + n, x3, rfl, hR3, hx3, hl, fun f hf => (kE f (by rw [hC, hf]; rfl)).b hbt3, fun a i' H4 t4 ha hi' hba hlt4 ht4 hR4 hb4 => ?_⟩
        rw [ha] at hC
        refine ⟨(notN n (a, l.drop i')).1, t4, i', rfl, ?_, ?_, by omega, hlt4, hR4, hbt3.trans hb4, ?_⟩
        · rw [even_notN n (a, l.drop i') (even_of hba)]
          have e0 : decide (V.int ((n : Int) % 2) = V.int 0) = decide ((n : Int) % 2 = 0) := by
            by_cases z : (n : Int) % 2 = 0
            · rw [z]; rfl
            · rw [decide_eq_false z, decide_eq_false]
              exact fun q => z (V.int.inj q)
          rw [← e0]
          rfl
        · rw [strip_notN, strip_of hba]
          exact ht4
        · rw [hC]
          show (takeDeed (notN n (a, l.drop i')).2).bind _ = _
          rw [notN_rest]
end LE

/-! LCs: a script is read. -/
namespace LE
open PySem PySem.Spec PyProof.Rows L2 Evl
open VasedBase (isLetter isDigit PTok Toks RESERVED tokEq here nextWord next word wrong Fault takeSign token)
open Vaseda (takeCmd takeCmds Deed Cmd)
variable {P : Program} {w : World} {K : PySem.W.Frag} {mg : Str → Option Value} {base : Heap}
/-! ### what the lexer gives -/
theorem token_ok {c : UInt8} {r : List UInt8} {x : VasedBase.Tok × Nat} (h : token (c :: r) = some x) : x.1 = .sign 59 ∨ (∃ w, x.1 = .name w ∧ w ≠ [] ∧ w.length ≤ 8) ∨ ∃ n, x.1 = .num n := by
  have e : token (c :: r) = if isLetter c = true then (if 8 < ((c :: r).takeWhile isLetter).length then none else some (.name ((c :: r).takeWhile isLetter), ((c :: r).takeWhile isLetter).length))
      else if isDigit c = true then (VasedBase.numberOf ((c :: r).takeWhile isDigit)).map fun n => (.num n, ((c :: r).takeWhile isDigit).length) else if VasedBase.SIGNS.contains c = true then some (.sign c.toNat, 1) else none := rfl
  rw [e] at h
  by_cases hL : isLetter c = true
  · rw [if_pos hL] at h
    by_cases h8 : 8 < ((c :: r).takeWhile isLetter).length
    · rw [if_pos h8] at h
      cases h
    · rw [if_neg h8] at h
      have ex := Option.some.inj h
      subst ex
      refine .inr (.inl ⟨_, rfl, ?_, by omega⟩)
      rw [List.takeWhile_cons_of_pos hL]
      simp
  · rw [if_neg hL] at h
    by_cases hD : isDigit c = true
    · rw [if_pos hD] at h
      cases en : VasedBase.numberOf ((c :: r).takeWhile isDigit) with
      | none => rw [en] at h; cases h
      | some n =>
        rw [en] at h
        have ex := Option.some.inj h
        subst ex
        exact .inr (.inr ⟨n, rfl⟩)
    · rw [if_neg hD] at h
      by_cases hs : VasedBase.SIGNS.contains c = true
      · rw [if_pos hs] at h
        have ex := Option.some.inj h
        subst ex
        have ec : c = 59 := by
          have z : c ∈ VasedBase.SIGNS := by simpa using hs
          simpa [VasedBase.SIGNS] using z
        rw [ec]
        exact .inl rfl
      · rw [if_neg hs] at h
        cases h
theorem lx_ok : ∀ (k a : Nat) (b : List UInt8) (l : Toks), b.length ≤ k → lx a b = .ok l → LexOk l := by
  intro k
  induction k with
  | zero =>
    intro a b l hk h
    have e : b = [] := List.length_eq_zero_iff.mp (Nat.le_zero.mp hk)
    subst e
    rw [lx_nil] at h
    cases h
    exact ⟨[], a, rfl, fun x hx => absurd hx (by simp)⟩
  | succ k ih =>
    intro a b l hk h
    have s := lx_sk b.length a b (Nat.le_refl _)
    have pl := plain_sk b.length b (Nat.le_refl _)
    rw [s] at h
    generalize hb : b.drop (sk false b) = b' at h pl
    have hle : b'.length ≤ b.length := by rw [← hb, List.length_drop]; omega
    cases b' with
    | nil =>
      rw [lx_nil] at h
      cases h
      exact ⟨[], _, rfl, fun x hx => absurd hx (by simp)⟩
    | cons c r =>
      rw [lx_tok pl] at h
      cases ht : token (c :: r) with
      | none => rw [ht] at h; cases h
      | some x =>
        rw [ht] at h
        have hp := token_pos ht
        have h' : (lx (a + sk false b + x.2) ((c :: r).drop x.2)).map (fun l => ⟨a + sk false b, x.1⟩ :: l) = .ok l := h
        cases hr : lx (a + sk false b + x.2) ((c :: r).drop x.2) with
        | error f => rw [hr] at h'; cases h'
        | ok l1 =>
          rw [hr] at h'
          cases h'
          obtain ⟨l0, p, e, f⟩ := ih _ _ l1 (by rw [List.length_drop]; omega) hr
          subst e
          refine ⟨⟨a + sk false b, x.1⟩ :: l0, p, rfl, fun z hz => ?_⟩
          rcases List.mem_cons.mp hz with e | e
          · subst e
            exact token_ok ht
          · exact f z e
/-! ### rules -/
section
variable {X : Cx} {e o : Expr} {pos apos p : Pos} {x : Str}
/-- C(e): e with its bound -/
def nMake1 (C : Addr) (sp : Sp) (te : NE) : NE := fun m σ H Q => te m σ H fun _ v m' H1 => ∀ q dx, H1 q = none → H1 dx = none → dx ≠ q → sp [.ref q, v] (upd (upd H1 dx (.own q)) q (.ins C dx [])) (fun r H2 => r = .non ∧ Q (.ref q) (.ref q) m' H2) E0
theorem pen_kn1 {k j : Nat} {C : Addr} {sp : Sp} {te : NE} (c : Kn X.prog X.w X.K X.mg X.base k x C sp) (hr : Room j X.A) (he : PEN X e te) (hk : k + 1 ≤ j := by decide) (hg : Gl X x := by rfl) (hdb : (x == ("__debug__" : Str)) = false := by decide)
    (hs : starEach (e :: []) X.env = (false, eval e X.env) :: starEach [] X.env := by rfl) : PEN X (.Call (.Name x p) [e] [] pos) (nMake1 C sp te) := by
  obtain ⟨f, fd, ps, M, F, hm, b⟩ := c.ex
  refine ⟨fun m pins s σ H Q hn I h => wpAny_Call_Name_kw (ld_glob I hg hm ?_ hdb)⟩
  refine PySem.W.callWith_K (h₀ := X.base) I.ok.mod.kin M.kp ?_ hs rfl
  rw [hs]
  refine Calls.spliced_cons (thn (he.run m pins s σ H _ hn I h) fun u s1 ⟨v, m', H1, hk1, I1, r, q⟩ => Calls.spliced_nil ⟨I1.kIn, ?_⟩)
  refine thm hk1 (run_make (vs := [v]) (dvs := []) (ds := []) (Q := fun z H2 => match z with
    | .ref a => Q (.ref a) (.ref a) m' H2
    | _ => False) M F (hr.mono hk) b .nil pass0 I1 (.cons r .nil) fun q' dx n1 n2 n3 => q q' dx n1 n2 n3) fun u' s' hk' ⟨z, H2, I2, rz, q2⟩ => ?_
  cases z with
  | ref a =>
    cases rz
    exact ⟨.ref a, m', H2, hk', I2, rfl, q2⟩
  | _ => exact q2.elim
/-- l.append(e), the list tracked -/
def nAppL (to : TE) (te : NE) : NE := fun m σ H Q => to σ H fun x H1 => ∃ D xs0, x = .ref D ∧ H1 D = some (.lst xs0) ∧ te m σ H1 fun _ v m' H2 => ∃ xs, H2 D = some (.lst xs) ∧ xs.length < sizeLine ∧ Q .none .non m' (upd H2 D (.lst (xs ++ [v])))
theorem pen_appL {te : NE} {to : TE} (ho : PE X o to) (he : PEN X e te) (hbase : attributeBase o "append" X.env (eval o X.env) = eval o X.env := by rfl)
    (hfew : ((backTo pos (starEach [e] X.env)).all (fun x => !x.1) && (backToKw pos (keywordEach [] X.env)).all (fun x => x.1.isSome) && decide (([e] : List Expr).length + ([] : List Keyword).length + (if ([] : List Keyword).isEmpty then 0 else 1) < 30)) = true := by rfl)
    (hline : (apos.endLine == pos.line) = true := by rfl) (hs : starEach [e] X.env = [(false, eval e X.env)] := by rfl) : PEN X (.Call (.Attribute o "append" apos) [e] [] pos) (nAppL to te) := by
  refine ⟨fun m pins s σ H Q hm I h => wpAny_Call_method_late hbase hfew hline rfl (thm hm (ho.run pins s σ H _ I h) fun v s1 hk1 ⟨x, H1, I1, r1, D, xs0, ex, hD, q⟩ => ?_)⟩
  subst ex
  cases r1
  obtain ⟨_, its, n, _, hg⟩ := I1.hok D _ hD
  refine ⟨"list", _, PySem.F.plainAttrs_list, PySem.F.slot_list_append, PySem.F.type_list_append, ⟨_, hg, rfl⟩, (fun a ea => ⟨_, by cases ea; exact hg, rfl⟩), ?_⟩
  rw [hs]
  refine Calls.callWith_builtin rfl (Calls.evalArgs_plain (Calls.spliced_cons ?_))
  refine thn (he.run m pins s1 σ H1 _ hk1 I1 q) fun u s2 ⟨v', m', H2, hk2, I2, r2, xs, hD2, hz, q2⟩ => Calls.spliced_nil ?_
  exact thm hk2 (app_ok (Q := fun z s3 => z = .none ∧ Inv X pins σ (upd H2 D (.lst (xs ++ [v']))) s3) I2 hD2 hz r2 fun s3 I3 => ⟨rfl, I3⟩) fun z s3 hk3 ⟨ez, I3⟩ => by
    subst ez
    exact ⟨.non, m', _, hk3, I3, rfl, q2⟩
end
/-! ### Reader -/
abbrev sRdInit : Stmt := inClass (top 74) 0
theorem sc_rd_init : FnScope ["self", "tokens"] ["self", "tokens"] (defScope sRdInit) := ⟨rfl, rfl, rfl, by decide +kernel, rfl, by decide +kernel, by decide +kernel⟩
def spRdInit (CR : Addr) : Sp := fun vs H Q _ => ∃ (p dx L : Addr), vs = [.ref p, .ref L] ∧ H p = some (.ins CR dx []) ∧ Q .non (upd H p (.ins CR dx (rdF L 0)))
theorem ok_rd_init {f CR CT CF : Addr} {fd : FuncData} (F : Fun K "__init__" "Reader.__init__" sRdInit f fd) (T : TxtRd P w K mg base CR CT CF) : FnOk P w K mg base CX0 1 f fd ["self", "tokens"] (spRdInit CR) := by
  refine F.ok sc_rd_init (fun vs H Q E h => ?_) (fun cdv A outer s H vs Q E hr h => ⟨_, pss_cons (ps_fld (pv 0) (pv 1) rfl) (pss_one (ps_fld (pv 0) pe_int rfl)), ?_⟩)
  · obtain ⟨p, dx, L, rfl, _⟩ := h
    rfl
  · obtain ⟨p, dx, L, rfl, hp, k⟩ := h
    refine ⟨_, rfl, _, rfl, p, CR, dx, [], rfl, hp, T.cl, T.nT, by decide, ?_⟩
    refine ⟨_, rfl, p, CR, dx, _, rfl, upd_same, T.cl, T.nA, by show 1 < 1000; decide, ?_⟩
    rw [upd_upd]
    exact k
/-! ### commands_of -/
abbrev sCommands : Stmt := top 75
theorem sc_commands : FnScope ["script", "reader", "commands"] ["script"] (defScope sCommands) := ⟨rfl, rfl, rfl, by decide +kernel, rfl, by decide +kernel, by decide +kernel⟩
structure TxtCs (mg : Str → Option Value) : Prop where
  mb : Gc mg "MOST_BYTES" (.int 4096)
  mc : Gc mg "MOST_COMMANDS" (.int 16)
  tl : Gc mg "TOO_LONG" (.int 1)
  en : Gc mg "END" (.str "")
  sg : Gc mg "SIGN" (.str ";")
def spCommands (K : PySem.W.Frag) (CF CC : Addr) : Sp := fun vs H Q E => ∃ (a : Addr) (b : List UInt8), vs = [.ref a] ∧ SqL K H a (ib b) ∧ b.length ≤ 10000 ∧ (∀ f, Vaseda.read b = .error f → FaultE CF f.code f.place H E) ∧
  (∀ cs, Vaseda.read b = .ok cs → ∀ H' L, Ex H H' → H L = none → CmdsAt CC H' L cs → cs.length ≤ 16 → (∀ c ∈ cs, wfD c.d) → Q (.ref L) H')
theorem mem1 {α : Type} {z a : α} (h : z ∈ [a]) : z = a := by simpa using h
theorem CmdAt.but {CC : Addr} {H H' : Hp} {c : Addr} {cmd : Cmd} {l : List Addr} (h : CmdAt CC H c cmd) (e : But l H H') (hl : ∀ a ∈ l, (∃ C dx fs, H a = some (.ins C dx fs) ∧ C ≠ CC) ∨ ∃ xs, H a = some (.lst xs)) : CmdAt CC H' c cmd := by
  obtain ⟨dx, ta, td, h1, h2, o, h3, h4⟩ := h.ex
  have no : ∀ {b : Addr} {u : HO}, H b = some u → (∀ C dx fs, C ≠ CC → u ≠ .ins C dx fs) → (∀ xs, u ≠ .lst xs) → b ∉ l := fun {b u} hb n1 n2 hm => by
    rcases hl b hm with ⟨C, dx, fs, e1, e2⟩ | ⟨xs, e1⟩
    · rw [hb] at e1
      exact n1 C dx fs e2 (Option.some.inj e1)
    · rw [hb] at e1
      exact n2 xs (Option.some.inj e1)
  refine ⟨⟨dx, ta, td, e _ _ h1 (no h1 (fun C dx fs n z => ?_) fun xs z => by cases z), e _ _ h2 (no h2 (fun C dx fs n z => by cases z) fun xs z => by cases z), o, e _ _ h3 (no h3 (fun C dx fs n z => by cases z) fun xs z => by cases z), h4⟩⟩
  cases z
  exact n rfl
theorem okN_commands {f CR CT CF CC : Addr} {fd : FuncData} (F : Fun K "commands_of" "commands_of" sCommands f fd) (R : RdM P w K mg base CR CT CF) (T : TxtCs mg) (ne : CR ≠ CC) (gt : DnN P w K mg base (L2.CX P w) 6 "tokens_of" (spToksN K CT CF)) (gr : Kn P w K mg base 1 "Reader" CR (spRdInit CR))
    (gc : DnN P w K mg base (L2.CX P w) 7 "read_command" (spCommandN CR CT CF CC)) : FnOk P w K mg base (L2.CX P w) 8 f fd ["script"] (spCommands K CF CC) := by
  refine FnN.ok (sp := fun m => spCommands K CF CC |> fun sp vs H Q E => sp vs H (fun v H' => ∀ u m', RelV v u → Q u v m' H') E) (fnN_ok F sc_commands (fun m vs H Q E h => ?_) (fun cdv m A outer s H vs Q E hr h => ⟨_, pssN_cons (psN_of (ps_if (pt_cmpR op_gt (pe_callB call_len_seq (by rfl) R.len PySem.boot_len (pa_cons (pv 0) pa_nil)) (pe_gc T.mb) (nomark _))
      (pss_one (ps_flt_raise R.k.t.ft hr (takes_of rfl rfl rfl rfl) (pa_cons (pe_gc T.tl) (pa_cons (pe_gc T.mb) pa_nil)))) pss_nil))
    (pssN_cons (psN_set (i := 1) sc_commands.nd rfl (.inl rfl) (pen_kn1 gr hr (pen_dn gt hr (pass1 rfl rfl rfl rfl) (pa_cons (pv 0) pa_nil))))
    (pssN_cons (psN_of (ps_set (i := 2) sc_commands.nd rfl (.inl rfl) (pe_lst pa_nil)))
    (pssN_cons (psN_while (passes_of rfl) (pt_not (pt_val (pe_mn R.k.stands hr pass0 (pv 1) (pa_cons (pe_gc T.en) pa_nil))))
      (pssN_cons (psN_of (ps_if (pt_cmpR op_eq (pe_callB call_len_seq (by rfl) R.len PySem.boot_len (pa_cons (pv 2) pa_nil)) (pe_gc T.mc) (nomark _)) (pss_one (ps_expr (pe_mn R.k.refuse hr (pass1 rfl rfl rfl rfl) (pv 1) (pa_cons (pe_gc R.tm) pa_nil)))) pss_nil))
      (pssN_one (psN_expr (pen_appL (pv 2) (pen_keep (pen_dn gc hr (pass1 rfl rfl rfl rfl) (pa_cons (pv 1) pa_nil))))))))
    (pssN_one (psN_of (ps_ret (pv 2))))))), ?_⟩)) ?_
  · obtain ⟨a, b, rfl, _⟩ := h
    rfl
  · obtain ⟨a, b, rfl, hb, hz, kE, k⟩ := h
    have rd_ : Vaseda.read b = (if 4096 < b.length then .error ⟨1, 4096⟩ else lx 0 b : Except Fault Toks).bind fun l => takeCmds (l.length + 1) [] l := rfl
    refine ⟨_, rfl, a, _, rfl, .inl hb, _, _, rfl, rfl, _, rfl, ?_⟩
    rw [ib_len]
    by_cases h4 : 4096 < b.length
    · rw [decide_eq_true (show (4096 : Int) < (b.length : Nat) by omega)]
      refine iteT ⟨_, _, rfl, fun d hd => kE ⟨1, 4096⟩ ?_ d _ (Ex.new hd) upd_same⟩
      rw [rd_, if_pos h4]
      rfl
    · rw [decide_eq_false (show ¬ (4096 : Int) < (b.length : Nat) by omega)]
      rw [if_neg h4] at rd_
      refine iteF ⟨_, rfl, a, b, rfl, hb, hz, fun f hf => kE f (by rw [rd_, hf]; rfl), fun l hl H1 L ps m1 e1 nL hL hseq rd dx n1 n2 n3 => ?_⟩
      rw [hl] at rd_
      have rd1 : Vaseda.read b = takeCmds (l.length + 1) [] l := rd_
      obtain ⟨hlen, ids, q2, q3, q4⟩ := hseq
      have lok := lx_ok _ 0 b l (Nat.le_refl _) hl
      have hids : IdsOk m1 ids l := ⟨q3, q4⟩
      have eR : Ex H1 (L2.upd (L2.upd (L2.upd H1 dx (.own rd)) rd (.ins CR dx [])) rd (.ins CR dx (rdF L 0))) := ((Ex.new n2).mut n1).mut n1
      refine ⟨rd, dx, L, rfl, upd_same, rfl, Nat.zero_le _, fun D nD => ?_⟩
      have hRd0 : Rd CR CT (L2.upd (L2.upd (L2.upd H1 dx (.own rd)) rd (.ins CR dx [])) rd (.ins CR dx (rdF L 0))) rd ids l 0 := ⟨dx, L, ps, upd_same, eR _ _ hL, hlen, fun j x p hx hp => let ⟨be, z⟩ := q2 j x p hx hp; ⟨be, z.ex eR⟩⟩
      generalize hHr : L2.upd (L2.upd (L2.upd H1 dx (.own rd)) rd (.ins CR dx [])) rd (.ins CR dx (rdF L 0)) = Hr at eR nD hRd0
      have nrd : H rd = none := by
        cases z : H rd with
        | none => rfl
        | some o => rw [e1 rd o z] at n1; cases n1
      have nDH : H D = none := by
        cases z : H D with
        | none => rfl
        | some o => rw [eR D o (e1 D o z)] at nD; cases nD
      have l0 : 0 < l.length := by
        obtain ⟨l0, p, e, _⟩ := lok
        rw [e, List.length_append, List.length_singleton]
        omega
      refine ⟨fun j m' σ H' => ∃ (i f : Nat) (cs : List Cmd), m' = m1 ∧ σ = [some (.ref a), some (.ref rd), some (.ref D)] ∧ j = l.length - i ∧ i < l.length ∧ cs.length ≤ 16 ∧ (∀ c ∈ cs, wfD c.d) ∧ Rd CR CT H' rd ids l i ∧ CmdsAt CC H' D cs ∧ Ex H H' ∧ (l.drop i).length < f ∧
        Vaseda.read b = takeCmds f cs (l.drop i), ⟨_, 0, l.length + 1, [], rfl, rfl, rfl, l0, Nat.zero_le _, fun c hc => absurd hc (by simp), hRd0.ex (Ex.new nD), ⟨⟨[], upd_same, rfl, fun i c hc => by simp at hc⟩⟩, (e1.trans eR).trans (Ex.new nD), Nat.lt_succ_self _, rd1⟩, ?_⟩
      rintro j m' σ H' ⟨i, f, cs, rfl, rfl, rfl, hi, h16, hwf, hR', hC, ex, hf, hrd⟩
      obtain ⟨x, hx⟩ : ∃ x, l[i]? = some x := ⟨_, List.getElem?_eq_getElem hi⟩
      obtain ⟨f1, rfl⟩ : ∃ f1, f = f1 + 1 := ⟨f - 1, by omega⟩
      obtain ⟨dy, L1, ps1, g1, g2, g3, g4⟩ := id hR'
      refine ⟨_, rfl, rd, dy, _, rfl, g1, rfl, rd, ids, l, i, x, "", rfl, hR', hx, fun H2 e2 => ⟨_, rfl, ?_⟩⟩
      have es : standsB x.tok "" = next .last (l.drop i) := by rw [next_at hx, stands_end]
      rw [es]
      have hst : takeCmds (f1 + 1) cs (l.drop i) = if next .last (l.drop i) = true then .ok cs else if 16 ≤ cs.length then .error ⟨4, here (l.drop i)⟩ else (takeCmd (l.drop i)).bind fun x => takeCmds f1 (cs ++ [x.1]) x.2 := rfl
      rw [hst] at hrd
      have ex2 := ex.trans e2
      have hR2 := hR'.ex e2
      have hC2 := hC.of e2
      cases hn : next .last (l.drop i) with
      | true =>
        rw [hn, if_pos rfl] at hrd
        refine iteF ⟨_, rfl, fun u hu => ?_⟩
        cases hu
        exact k cs hrd H2 D ex2 nDH hC2 h16 hwf _ _ rfl
      | false =>
        rw [hn, if_neg Bool.false_ne_true] at hrd
        obtain ⟨xs, hD, hxl, hxs⟩ := hC2.ex
        refine iteT ⟨_, rfl, D, _, rfl, .inl (SqL.of hD), rfl, _, rfl, ?_⟩
        rw [hxl]
        by_cases h16' : 16 ≤ cs.length
        · rw [if_pos h16', here_at hx] at hrd
          have e16 : cs.length = 16 := by omega
          rw [e16]
          exact iteT ⟨_, rfl, rd, dy, _, rfl, e2 _ _ g1, rfl, rd, ids, l, i, 4, x, rfl, hR2, hx, (kE _ hrd).ex ex2⟩
        · rw [if_neg h16'] at hrd
          have d16 : decide (V.int (cs.length : Nat) = V.int 16) = false := decide_eq_false fun z => h16' (by have := V.int.inj z; omega)
          rw [d16]
          refine iteF ⟨_, rfl, D, xs, rfl, hD, _, rfl, rd, ids, l, i, x, rfl, hR2, hx, lok, hids, fun f hf2 d H3 hb3 hd => kE f (by rw [hrd, hf2]; rfl) d H3 (hb3.ex ex2 (by simpa using nrd)) hd, fun cmd i2 H3 c m3 hc hi2 wd hlt2 hcat hR3 hb3 => ?_⟩
          have nDr : D ∉ [rd] := by
            have : D ≠ rd := ne_of hD (e2 _ _ g1) fun z => by cases z
            simpa using this
          have hD3 := hb3 D _ hD nDr
          have ex3 := hb3.ex ex2 (by simpa using nrd)
          refine ⟨xs, hD3, sizeLine_gt (by omega), l.length - i2, by omega, i2, f1, cs ++ [cmd], rfl, rfl, rfl, hlt2, by rw [List.length_append, List.length_singleton]; omega, ?_, ?_, ⟨⟨xs ++ [.ref c], upd_same, by simp [hxl], ?_⟩⟩, ex3.mut nDH, by rw [List.length_drop] at hf ⊢; omega, ?_⟩
          · intro c' hc'
            rcases List.mem_append.mp hc' with z | z
            · exact hwf c' z
            · have : c' = cmd := by simpa using z
              rw [this]; exact wd
          · obtain ⟨dz, L3, ps3, r1, r2, r3, r4⟩ := id hR3
            have nL3 : L3 ≠ D := fun z => by
              rw [z, hD3] at r2
              have ex0 : xs = ps3.map V.ref := HO.lst.inj (Option.some.inj r2)
              have hlen0 : cs.length = l.length := by rw [← hxl, ex0, List.length_map, r3]
              obtain ⟨c0, hc0⟩ : ∃ c0, cs[0]? = some c0 := ⟨_, List.getElem?_eq_getElem (by omega)⟩
              obtain ⟨x0, hx0⟩ : ∃ x0, l[0]? = some x0 := ⟨_, List.getElem?_eq_getElem l0⟩
              obtain ⟨p0, hp0⟩ : ∃ p0, ps3[0]? = some p0 := ⟨_, List.getElem?_eq_getElem (by omega)⟩
              obtain ⟨a0, h0, hat0⟩ := hxs 0 c0 hc0
              have hat3 := hat0.but hb3 fun z hz => .inl ⟨CR, dy, rdF L1 i, by rw [mem1 hz]; exact e2 _ _ g1, ne⟩
              rw [ex0, List.getElem?_map, hp0] at h0
              have e0 : p0 = a0 := by cases h0; rfl
              obtain ⟨be, ta, tb, tc, td, ⟨dt, _, o1, _⟩, _⟩ := r4 0 x0 p0 hx0 hp0
              obtain ⟨dx', _, _, o2, _⟩ := hat3.ex
              rw [e0, o2] at o1
              cases o1
            exact ⟨dz, L3, ps3, by rw [upd_ne (ne_of r1 hD3 fun z => by cases z)]; exact r1, by rw [upd_ne nL3]; exact r2, r3, fun j x p hx hp => let ⟨be, z⟩ := r4 j x p hx hp; ⟨be, z.upN hD3 fun φ z => by cases z⟩⟩
          · intro n c' hc'
            have bD : But [D] H3 (L2.upd H3 D (.lst (xs ++ [.ref c]))) := fun b o hb hn => by rw [upd_ne (by simpa using hn)]; exact hb
            by_cases hlt' : n < cs.length
            · rw [List.getElem?_append_left hlt'] at hc'
              obtain ⟨c0, h0, hat0⟩ := hxs n c' hc'
              refine ⟨c0, by rw [List.getElem?_append_left (by omega)]; exact h0, ?_⟩
              exact (hat0.but hb3 fun z hz => .inl ⟨CR, dy, rdF L1 i, by rw [mem1 hz]; exact e2 _ _ g1, ne⟩).but bD fun z hz => .inr ⟨xs, by rw [mem1 hz]; exact hD3⟩
            · rw [List.getElem?_append_right (by omega)] at hc'
              by_cases hz' : n - cs.length = 0
              · rw [hz'] at hc'
                obtain rfl : cmd = c' := Option.some.inj hc'
                refine ⟨c, by rw [List.getElem?_append_right (by omega), hxl, hz']; rfl, hcat.but bD fun z hz => .inr ⟨xs, by rw [mem1 hz]; exact hD3⟩⟩
              · rw [List.getElem?_eq_none (by simp; omega)] at hc'
                cases hc'
          · rw [hrd, hc]
            rfl
  · intro vs H Q E ⟨a, b, ev, hb, hz, kE, k⟩
    exact ⟨a, b, ev, hb, hz, kE, fun cs hcs H' L e n hc h1 h2 u m' _ => k cs hcs H' L e n hc h1 h2⟩
end LE

/-! LRu: a run over all lines. -/
namespace LE
open PySem PySem.Spec PyProof.Rows L2 Evl
open Vaseda (Work Out Deed Cmd work works worksBy lineRun)
variable {P : Program} {w : World} {K : PySem.W.Frag} {mg : Str → Option Value} {base : Heap}
/-! ### the mathematics -/
theorem works_len (s : List Cmd) : ∀ (t : List (List UInt8)) (k : Nat) (h : List UInt8), (worksBy s k h t).length = t.length
  | [], _, _ => rfl
  | x :: r, k, h => by
    show (worksBy s (k + 1) _ r).length + 1 = r.length + 1
    rw [works_len s r]
/-- the i-th line's work, where the first i are told -/
theorem works_step {s : List Cmd} {t : List (List UInt8)} {i : Nat} {h x : List UInt8} {W : List Work} (hx : t[i]? = some x) (e : W.drop i = worksBy s (i + 1) h (t.drop i)) :
    W[i]? = some (lineRun s (i + 1) (decide (i + 1 = t.length)) x h) ∧ W.drop (i + 1) = worksBy s (i + 1 + 1) (lineRun s (i + 1) (decide (i + 1 = t.length)) x h).held (t.drop (i + 1)) := by
  have hl : (t.drop (i + 1)).isEmpty = decide (i + 1 = t.length) := by
    have hlt := (List.getElem?_eq_some_iff.mp hx).1
    by_cases z : i + 1 = t.length
    · rw [decide_eq_true z, List.isEmpty_iff, List.drop_eq_nil_iff]
      omega
    · rw [decide_eq_false z, List.isEmpty_eq_false_iff]
      intro q
      rw [List.drop_eq_nil_iff] at q
      omega
  rw [drop_get hx] at e
  have e : W.drop i = lineRun s (i + 1) (t.drop (i + 1)).isEmpty x h :: worksBy s (i + 1 + 1) (lineRun s (i + 1) (t.drop (i + 1)).isEmpty x h).held (t.drop (i + 1)) := e
  rw [hl] at e
  constructor
  · have := congrArg (fun l => l[0]?) e
    rw [List.getElem?_drop] at this
    simpa using this
  · have := congrArg (List.drop 1) e
    rw [List.drop_drop] at this
    simpa using this
theorem work_ok {k : Nat} {last : Bool} : ∀ (l : List (Cmd × Nat)) (w : Work), (∀ c ∈ l, wfD c.1.d) → w.x.length ≤ 16 → w.held.length ≤ 16 → (l.foldl (work k last) w).bad = false → w.bad = false ∧ (l.foldl (work k last) w).x.length ≤ 16 ∧ (l.foldl (work k last) w).held.length ≤ 16
  | [], w, _, h1, h2, hb => ⟨hb, h1, h2⟩
  | c :: r, w, wf, h1, h2, hb => by
    rw [List.foldl_cons] at hb ⊢
    have wfr : ∀ c ∈ r, wfD c.1.d := fun c hc => wf c (List.mem_cons_of_mem _ hc)
    by_cases hs : (w.halt || w.bad) = true
    · have e : work k last w c = w := if_pos hs
      rw [e] at hb ⊢
      exact work_ok r w wfr h1 h2 hb
    · have hs' : w.halt = false ∧ w.bad = false := by
        rw [← Bool.or_eq_false_iff]
        simpa using hs
      by_cases hl : 0 < w.left
      · have e : work k last w c = { w with left := w.left - 1 } := by
          show (if (w.halt || w.bad) = true then w else if 0 < w.left then { w with left := w.left - 1 } else _) = _
          rw [if_neg hs, if_pos hl]
        rw [e] at hb ⊢
        exact work_ok r { w with left := w.left - 1 } wfr h1 h2 hb
      · obtain ⟨c, i⟩ := c
        rw [work_go hs'.1 hs'.2 (by omega)] at hb ⊢
        split at hb
        · rename_i hh
          rw [if_pos hh]
          have wfc : wfD c.d := wf (c, i) (List.mem_cons_self ..)
          have one : (Vaseda.deed k i { w with did := w.did ++ [i] } c.d).bad = false → (Vaseda.deed k i { w with did := w.did ++ [i] } c.d).x.length ≤ 16 ∧ (Vaseda.deed k i { w with did := w.did ++ [i] } c.d).held.length ≤ 16 := fun hb' => by
            cases hd : c.d with
            | delete => exact ⟨h1, h2⟩
            | skip n => exact ⟨h1, h2⟩
            | halt_ => exact ⟨h1, h2⟩
            | before y => exact ⟨h1, h2⟩
            | after y => exact ⟨h1, h2⟩
            | bring => exact ⟨h1, h2⟩
            | keep => exact ⟨h1, h1⟩
            | trade => exact ⟨h2, h1⟩
            | change y =>
              rw [hd] at wfc
              exact ⟨Nat.le_trans wfc.2 (by decide), h2⟩
            | swap a b =>
              rw [hd] at hb'
              exact ⟨swapIn_ok hb', h2⟩
            | first a b =>
              rw [hd] at hb'
              exact ⟨swapIn_ok hb', h2⟩
          by_cases hb2 : (Vaseda.deed k i { w with did := w.did ++ [i] } c.d).bad = true
          · rw [fold_stop _ _ (by rw [hb2, Bool.or_true])] at hb
            rw [hb2] at hb
            cases hb
          · have hb3 : (Vaseda.deed k i { w with did := w.did ++ [i] } c.d).bad = false := by simpa using hb2
            obtain ⟨x1, x2⟩ := one hb3
            obtain ⟨_, y2, y3⟩ := work_ok r _ wfr x1 x2 hb
            exact ⟨hs'.2, y2, y3⟩
        · rename_i hh
          rw [if_neg hh]
          exact work_ok r _ wfr h1 h2 hb
/-- how many lines come of all -/
def total (W : List Work) : Nat := (W.map come).sum
theorem come_out (k : Nat) (w : Work) : (Vaseda.outOf k w).length = come w := by
  unfold Vaseda.outOf come
  rw [List.length_append, List.length_append]
  split
  · rw [List.length_nil]
    omega
  · rw [List.length_singleton]
    omega
theorem total_out : ∀ (W : List Work) (n : Nat), ((W.zipIdx n).flatMap fun w => Vaseda.outOf (w.2 + 1) w.1).length = total W
  | [], n => rfl
  | w :: W, n => by
    rw [List.zipIdx_cons, List.flatMap_cons, List.length_append, come_out, total_out W (n + 1)]
    rfl
/-- a run is too much just so -/
theorem run_none {s : List Cmd} {t : List (List UInt8)} : Vaseda.run s t = none ↔ ((works s t).any (fun w => w.bad) = true ∨ 60 < total (works s t)) := by
  unfold Vaseda.run
  dsimp only
  rw [total_out]
  have e : Vaseda.OUTS = 60 := rfl
  rw [e]
  constructor
  · intro h
    split at h
    · assumption
    · cases h
  · intro h
    rw [if_pos h]
theorem run_some {s : List Cmd} {t : List (List UInt8)} (h1 : (works s t).any (fun w => w.bad) = false) (h2 : total (works s t) ≤ 60) : ∃ r, Vaseda.run s t = some r ∧ r.outs = (works s t).zipIdx.flatMap fun w => Vaseda.outOf (w.2 + 1) w.1 := by
  unfold Vaseda.run
  dsimp only
  rw [total_out, if_neg (by
    have e : Vaseda.OUTS = 60 := rfl
    rw [h1, e]
    intro z
    rcases z with z | z
    · cases z
    · omega)]
  exact ⟨_, rfl, rfl⟩

/-! ### comprehensions by places -/
theorem el_ix {σ : L2.St} {H : Hp} {a : Addr} {xs : List V} {tl te : TE} {j : Nat} {vs : List Nat} (v : Nat → V) (h : Ev tl σ H (.ref a)) (hx : SqL K H a xs) (hz : xs.length ≤ 40000) (hw : ∀ x, wipe ((wipe σ vs).set j (some x)) vs = wipe σ vs)
    (he : ∀ (i : Nat) (x : V) H1, Ex H H1 → xs[i]? = some x → Ev te ((wipe σ vs).set j (some x)) H1 (v i)) : EvL (tLc (iList K tl) (gName j) tYes te vs) σ H ((List.range xs.length).map v) := by
  have e : (List.range xs.length).map v = given xs.length (fun _ => true) v := by
    unfold given
    rw [List.filter_eq_self.mpr (fun _ _ => rfl)]
  rw [e]
  exact el_lcL (fun _ => true) v h hx hz hw (fun i x H1 e hi H2 e2 Q q => q H2 (Ex.refl H2)) (fun i x H1 e hi _ => he i x H1 e hi)
theorem range_map {α : Type} (f : α → Int) (d : α) (W : List α) : (List.range W.length).map (fun i => f (W.getD i d)) = W.map f := by
  apply List.ext_getElem?
  intro i
  rw [List.getElem?_map, List.getElem?_map]
  by_cases h : i < W.length
  · rw [List.getElem?_range h, List.getElem?_eq_getElem h]
    simp [List.getD, h]
  · rw [List.getElem?_eq_none (by simpa using h), List.getElem?_eq_none (by simpa using h)]
    rfl

/-! ### the passages of a text -/
structure PassesAt (CP : Addr) (H : Hp) (a : Addr) (t : List (List UInt8)) (W : List Work) : Prop where
  ex : ∃ xs : List V, H a = some (.lst xs) ∧ xs.length = t.length ∧ W.length = t.length ∧ ∀ (i : Nat) (x : List UInt8) (w : Work), t[i]? = some x → W[i]? = some w → ∃ p la lb : Addr, xs[i]? = some (.ref p) ∧ PassAt CP H p la lb (i + 1) x w
theorem PassesAt.of {CP : Addr} {H H' : Hp} {a : Addr} {t : List (List UInt8)} {W : List Work} (h : PassesAt CP H a t W) (e : Ex H H') : PassesAt CP H' a t W := by
  obtain ⟨xs, h1, h2, h3, h4⟩ := h.ex
  refine ⟨xs, e _ _ h1, h2, h3, fun i x w hx hw => ?_⟩
  obtain ⟨p, la, lb, q1, q2⟩ := h4 i x w hx hw
  exact ⟨p, la, lb, q1, q2.ex e⟩
theorem upd_none' {H : Hp} {a b : Addr} {o : HO} (h : upd H a o b = none) : b ≠ a ∧ H b = none := by
  by_cases z : b = a
  · rw [z, upd_same] at h
    cases h
  · rw [upd_ne z] at h
    exact ⟨z, h⟩
/-! ### result_of -/
def resV (W : List Work) : List V := W.flatMap outsL
theorem resV_len (W : List Work) : (resV W).length = total W := by
  unfold resV total
  rw [List.length_flatMap]
  congr 1
  exact List.map_congr_left fun w _ => outsL_len w
theorem take_more' {α : Type} {l : List α} {i : Nat} {x : α} (h : l[i]? = some x) : l.take (i + 1) = l.take i ++ [x] := by
  rw [List.take_succ, h]
  rfl
theorem resV_more {W : List Work} {i : Nat} {w : Work} (h : W[i]? = some w) : resV (W.take (i + 1)) = resV (W.take i) ++ outsL w := by
  unfold resV
  rw [take_more' h, List.flatMap_append]
  simp
theorem total_split (W : List Work) (i : Nat) {w : Work} (hw : W[i]? = some w) : total (W.take i) + come w ≤ total W := by
  have h : total (W.take (i + 1)) = total (W.take i) + come w := by
    unfold total
    rw [take_more' hw, List.map_append, List.sum_append]
    simp
  rw [← h]
  have e : total W = total (W.take (i + 1)) + total (W.drop (i + 1)) := by
    unfold total
    rw [← List.sum_append, ← List.map_append, List.take_append_drop]
  omega
abbrev sResult : Stmt := top 34
theorem sc_result : FnScope ["passages", "lines", "passage"] ["passages"] (defScope sResult) := ⟨rfl, rfl, rfl, by decide +kernel, rfl, by decide +kernel, by decide +kernel⟩
def spResult (CP : Addr) : Sp := fun vs H Q _ => ∃ (pa : Addr) (t : List (List UInt8)) (W : List Work), vs = [.ref pa] ∧ PassesAt CP H pa t W ∧ total W ≤ 5000 ∧ RetL (resV W) H Q
theorem ok_result {f CP : Addr} {fd : FuncData} (F : Fun K "result_of" "result_of" sResult f fd) (gl : Mn P w K mg base CX0 1 CP "lines_coming" (spComing CP)) : FnOk P w K mg base CX0 2 f fd ["passages"] (spResult CP) := by
  refine F.ok sc_result (fun vs H Q E h => ?_) (fun cdv A outer s H vs Q E hr h => ⟨_, pss_cons (ps_set (i := 1) sc_result.nd rfl (.inl rfl) (pe_lst pa_nil))
    (pss_cons (ps_for PassesOwn.never rfl (pi_list (pv 0)) (pg_name (i := 2) sc_result.nd rfl (.inl rfl))
      (pss_one (ps_expr (pe_bm PySem.F.plainAttrs_list PySem.F.slot_list_extend PySem.F.type_list_extend mt_extend (pv 1) (pa_cons (pe_mn0 gl hr pass0 (pv 2)) pa_nil)))))
    (pss_one (ps_ret (pv 1)))), ?_⟩)
  · obtain ⟨pa, t, W, rfl, _⟩ := h
    rfl
  · obtain ⟨pa, t, W, rfl, hp, hz, k⟩ := h
    obtain ⟨ps, hp1, hp2, hp3, hp4⟩ := hp.ex
    refine ⟨Nat.zero_le _, fun L hL => ?_⟩
    refine ⟨_, rfl, pa, rfl, ⟨_, SqL.of (Ex.new hL _ _ hp1)⟩, for_list (K := K) (a := pa) (xs := ps) (fun i σ H' => ∃ v : Option V, σ = [some (.ref pa), some (.ref L), v] ∧ Ex H H' ∧ H' L = some (.lst (resV (W.take i)))) ⟨none, rfl, Ex.new hL, upd_same⟩ (fun i σ H' _ ⟨_, _, e, _⟩ => SqL.of (e _ _ hp1)) ?_ ?_⟩
    · rintro i x σ H1 hi ⟨v, rfl, e1, hl⟩
      have hlt := (List.getElem?_eq_some_iff.mp hi).1
      have h1 : t[i]? = some t[i] := List.getElem?_eq_getElem (by omega)
      have h2 : W[i]? = some W[i] := List.getElem?_eq_getElem (by omega)
      obtain ⟨p, la, lb, q1, q2⟩ := hp4 i _ _ h1 h2
      rw [hi] at q1
      cases q1
      have hs := total_split W i h2
      have hP := q2.ex e1
      obtain ⟨⟨dp, hpo⟩, _⟩ := id hP
      refine ⟨_, rfl, .inl ⟨rfl, _, SqL.of hl⟩, _, rfl, p, dp, _, rfl, hpo, rfl, p, la, lb, i + 1, _, _, rfl, hP, by omega, fun q H2 hq e2 h2' => ?_⟩
      refine ⟨L, q, _, _, rfl, rfl, e2 _ _ hl, h2', sizeLine_ge (by rw [resV_len, outsL_len]; omega), _, rfl, Ex.mut (e1.trans e2) hL, ?_⟩
      rw [resV_more h2]
      exact upd_same
    · rintro σ H1 ⟨v, rfl, e1, hl⟩
      rw [List.take_of_length_le (by omega)] at hl
      exact ⟨_, rfl, k L H1 hL e1 hl⟩
/-! ### a bound of what comes -/
theorem deed_puts (k c : Nat) (w : Work) (d : Deed) : (Vaseda.deed k c w d).pre.length + (Vaseda.deed k c w d).post.length ≤ w.pre.length + w.post.length + 1 := by
  have h : ∀ (l : List Out) (o : Out), (l ++ [o]).length = l.length + 1 := fun l o => by rw [List.length_append, List.length_singleton]
  cases d with
  | before y =>
    show (w.pre ++ [_]).length + w.post.length ≤ _
    rw [h]
    omega
  | after y =>
    show w.pre.length + (w.post ++ [_]).length ≤ _
    rw [h]
    omega
  | bring =>
    show w.pre.length + (w.post ++ [_]).length ≤ _
    rw [h]
    omega
  | _ => exact Nat.le_succ _
theorem work_puts (k : Nat) (last : Bool) (w : Work) (c : Cmd × Nat) : (work k last w c).pre.length + (work k last w c).post.length ≤ w.pre.length + w.post.length + 1 := by
  unfold work
  split
  · exact Nat.le_succ _
  · split
    · exact Nat.le_succ _
    · split
      · exact deed_puts k c.2 _ c.1.d
      · exact Nat.le_succ _
theorem fold_puts (k : Nat) (last : Bool) : ∀ (l : List (Cmd × Nat)) (w : Work), (l.foldl (work k last) w).pre.length + (l.foldl (work k last) w).post.length ≤ w.pre.length + w.post.length + l.length
  | [], w => Nat.le_refl _
  | c :: r, w => by
    have h1 := fold_puts k last r (work k last w c)
    have h2 := work_puts k last w c
    rw [List.foldl_cons, List.length_cons]
    omega
theorem come_le (s : List Cmd) (k : Nat) (last : Bool) (x h : List UInt8) : come (lineRun s k last x h) ≤ s.length + 1 := by
  have q := fold_puts k last s.zipIdx (fresh x h)
  rw [List.length_zipIdx] at q
  have q : (lineRun s k last x h).pre.length + (lineRun s k last x h).post.length ≤ 0 + 0 + s.length := q
  unfold come
  split <;> omega
theorem total_le (s : List Cmd) : ∀ (t : List (List UInt8)) (k : Nat) (h : List UInt8), total (worksBy s k h t) ≤ t.length * (s.length + 1)
  | [], _, _ => Nat.zero_le _
  | x :: r, k, h => by
    have q := total_le s r (k + 1) (lineRun s k r.isEmpty x h).held
    have q2 := come_le s k r.isEmpty x h
    show (come _ :: (worksBy s (k + 1) _ r).map come).sum ≤ (r.length + 1) * (s.length + 1)
    rw [List.sum_cons, Nat.add_mul, Nat.one_mul]
    have q : ((worksBy s (k + 1) (lineRun s k r.isEmpty x h).held r).map come).sum ≤ r.length * (s.length + 1) := q
    omega
abbrev sRun : Stmt := top 33
theorem sc_run : FnScope ["commands", "lines", "passages", "held", "number", "line", "passage"] ["commands", "lines"] (defScope sRun) := ⟨rfl, rfl, rfl, by decide +kernel, rfl, by decide +kernel, by decide +kernel⟩
def spRun (K : PySem.W.Frag) (CP CC TM : Addr) : Sp := fun vs H Q E => ∃ (cm ta : Addr) (cs : List Cmd) (t : List (List UInt8)), vs = [.ref cm, .ref ta] ∧ CmdsAt CC H cm cs ∧ SqL K H ta (tv t) ∧ cs.length ≤ 16 ∧ (∀ c ∈ cs, wfD c.d) ∧ t.length ≤ 60 ∧ (∀ x ∈ t, x.length ≤ 16) ∧
  (Vaseda.run cs t = none → ∀ H', Ex H H' → E (.ref TM) none H') ∧
  ((works cs t).any (fun w => w.bad) = false → total (works cs t) ≤ 60 → ∀ H' a, H a = none → Ex H H' → PassesAt CP H' a t (works cs t) → Q (.ref a) H')
theorem ok_run {f CP CC TM : Addr} {fd : FuncData} (F : Fun K "run" "run" sRun f fd) (T : TxtRun K mg TM) (TP : TxtPass K CP) (kp : Kn P w K mg base 1 "Passage" CP (spPassInit CP)) (gg : Dn P w K mg base (L2.CX P w) 3 "go_through" (spGo CP CC TM) 3)
    (gm : Dn P w K mg base CX0 2 "result_of" (spResult CP) 1) : FnOk P w K mg base (L2.CX P w) 4 f fd ["commands", "lines"] (spRun K CP CC TM) := by
  refine F.okX sc_run (fun vs H Q E h => ?_) (fun cdv A outer s H vs Q E hr h => ⟨_, pss_cons (ps_set (i := 2) sc_run.nd rfl (.inl rfl) (pe_lst pa_nil)) (pss_cons (ps_set (i := 3) sc_run.nd rfl (.inl rfl) pe_str)
    (pss_cons (ps_for (passes_of rfl) rfl (pi_enumS (c := 1) (by decide) T.enu (pa_cons (pv 1) pa_nil)) (pg_tup rfl (pgs_cons (pg_name (i := 4) sc_run.nd rfl (.inl rfl)) (pgs_cons (pg_name (i := 5) sc_run.nd rfl (.inl rfl)) pgs_nil)))
      (pss_cons (ps_set (i := 6) sc_run.nd rfl (.inl rfl) (pe_kn kp hr (pa_cons (pv 4) (pa_cons (pv 5) (pa_cons (pv 3) pa_nil)))))
      (pss_cons (ps_expr (pe_dn gg hr (pass1 rfl rfl rfl rfl) (pa_cons (pv 0) (pa_cons (pv 6) (pa_cons (pe_callB call_len_seq (by rfl) T.len PySem.boot_len (pa_cons (pv 1) pa_nil)) pa_nil)))))
      (pss_cons (ps_expr (pe_bm PySem.F.plainAttrs_list PySem.F.slot_list_append PySem.F.type_list_append mt_append (pv 2) (pa_cons (pv 6) pa_nil)))
      (pss_one (ps_set (i := 3) sc_run.nd rfl (.inl rfl) (pe_fld (pv 6) rfl)))))))
    (pss_cons (ps_if (pt_cmpR op_gt (pe_callB call_len_seq (by rfl) T.len PySem.boot_len (pa_cons (pe_dn gm hr pass0 (pa_cons (pv 2) pa_nil)) pa_nil)) (pe_gc T.mc) (nomark _)) (pss_one (ps_raise0 T.tm (takes_of rfl rfl rfl rfl))) pss_nil)
    (pss_one (ps_ret (pv 2)))))), ?_⟩)
  · obtain ⟨cm, ta, cs, t, rfl, _⟩ := h
    rfl
  · obtain ⟨cm, ta, cs, t, rfl, hc, ht, h16, wf, h60, hx16, kE, kk⟩ := h
    generalize hW : works cs t = W at kk
    have hWl : W.length = t.length := by rw [← hW]; exact works_len cs t 1 []
    refine ⟨Nat.zero_le _, fun L hL => ?_⟩
    have exL : Ex H (upd H L (.lst [])) := Ex.new hL
    refine ⟨_, rfl, ta, _, rfl, ex_l exL ht, ?_⟩
    refine for_it (walk_S (c := 1) (xs := tv t)) (fun i σ H' => ∃ (xs : List V) (hd : List UInt8) (v4 v5 v6 : Option V), σ = [some (.ref cm), some (.ref ta), some (.ref L), some (.str (S hd)), v4, v5, v6] ∧ Ex H H' ∧ H' L = some (.lst xs) ∧ xs.length = i ∧ hd.length ≤ 16 ∧
        W.drop i = worksBy cs (i + 1) hd (t.drop i) ∧ ∀ (j : Nat) (x : List UInt8) (w : Work), j < i → t[j]? = some x → W[j]? = some w → w.bad = false ∧ ∃ p la lb : Addr, xs[j]? = some (.ref p) ∧ PassAt CP H' p la lb (j + 1) x w ∧ (p ≠ L ∧ la ≠ L ∧ lb ≠ L))
      ⟨[], [], none, none, none, rfl, exL, upd_same, rfl, Nat.zero_le _, hW.symm, fun j _ _ hj => absurd hj (Nat.not_lt_zero j)⟩ (fun i σ H' _ ⟨_, _, _, _, _, _, e, _⟩ => ex_l e ht) ?_ ?_
    · rintro i v σ H1 H2 hi ⟨xs, hd, v4, v5, v6, rfl, e1, hl, hxl, hd16, hdr, hall⟩ ⟨T', n', x', rfl, hT', rfl, hn', hx'⟩
      cases hn'
      obtain ⟨x, hx, rfl⟩ := tv_of hx'
      rw [tv_len] at hi
      have eT : Ex H1 (upd H1 T' (.tup [.int ((i + 1 : Nat) : Int), .str (S x)])) := Ex.new hT'
      generalize hH2 : upd H1 T' (.tup [.int ((i + 1 : Nat) : Int), .str (S x)]) = H2 at eT
      have hT2 : H2 T' = some (.tup [.int ((i + 1 : Nat) : Int), .str (S x)]) := by rw [← hH2]; exact upd_same
      have e2 : Ex H H2 := e1.trans eT
      have hl2 := eT L _ hl
      refine ⟨T', _, rfl, SqT.of hT2, rfl, _, _, rfl, _, _, rfl, rfl, ?_⟩
      obtain ⟨hWi, hdr'⟩ := works_step hx hdr
      refine ⟨_, rfl, _, rfl, _, rfl, fun p dx np nd ndp => ?_⟩
      have e3 : Ex H2 (upd (upd H2 dx (.own p)) p (.ins CP dx [])) := (Ex.new nd).trans (Ex.new (by rw [upd_ne (Ne.symm ndp)]; exact np))
      refine ⟨p, dx, i + 1, x, hd, rfl, upd_same, fun H3 la lb nla nlb hP b3 => ⟨rfl, ?_⟩⟩
      have nla2 : H2 la = none := (upd_none' (upd_none' nla).2).2
      have nlb2 : H2 lb = none := (upd_none' (upd_none' nlb).2).2
      have fr : ∀ a ∈ [p, la, lb], H2 a = none := fun a ha => by
        simp only [List.mem_cons, List.not_mem_nil, or_false] at ha
        rcases ha with rfl | rfl | rfl
        · exact np
        · exact nla2
        · exact nlb2
      have e4 : Ex H2 H3 := b3.ex e3 fr
      refine ⟨_, rfl, _, rfl, _, rfl, ta, _, rfl, .inl (ex_l (e2.trans e4) ht), ?_⟩
      have hx16' : x.length ≤ 16 := hx16 x (List.mem_of_getElem? hx)
      refine ⟨cm, p, la, lb, cs, t.length, i + 1, x, fresh x hd, H2, by rw [tv_len]; rfl, hc.of e2, e4, fr, h16, wf, hP, ⟨hx16', hd16, rfl, rfl⟩, rfl, rfl, ⟨rfl, rfl⟩, fun hb H4 b4 => ?_, fun hb H4 hP4 b4 => ?_⟩
      · refine kE (run_none.mpr (.inl ?_)) H4 (e2.trans (b4.ex e4 fr))
        rw [hW, List.any_eq_true]
        exact ⟨_, List.mem_of_getElem? hWi, hb⟩
      · have e5 : Ex H2 H4 := b4.ex e4 fr
        have hl4 := e5 L _ hl2
        have hwok := work_ok cs.zipIdx (fresh x hd) (fun c hc => wf c.1 (by
          obtain ⟨c, j⟩ := c
          have := List.mem_zipIdx' hc
          rw [this.2]
          exact List.getElem_mem _)) hx16' hd16 hb
        obtain ⟨⟨dp, hp4⟩, _⟩ := id hP4
        have nL : ∀ a, H2 a = none → a ≠ L := fun a ha z => by
          rw [z, hl2] at ha
          cases ha
        refine ⟨_, rfl, .inl ⟨rfl, _, SqL.of hl4⟩, _, rfl, L, xs, _, rfl, rfl, hl4, sizeLine_gt (by omega), ?_⟩
        have bL : But [L] H4 (upd H4 L (.lst (xs ++ [.ref p]))) := (But.of (Ex.refl H4)).upd (by simp)
        have hP5 := hP4.but bL (by simpa using nL p np) (by simpa using nL la nla2) (by simpa using nL lb nlb2)
        obtain ⟨⟨dp5, hp5⟩, _⟩ := id hP5
        refine ⟨_, rfl, p, CP, dp5, _, _, rfl, hp5, TP.cl, TP.nHeld, rfl, ?_⟩
        refine ⟨xs ++ [.ref p], _, _, _, _, rfl, Ex.mut (e2.trans e5) hL, upd_same, by rw [List.length_append, List.length_singleton]; omega, hwok.2.2, hdr', ?_⟩
        intro j x1 w1 hj hx1 hw1
        by_cases hji : j < i
        · obtain ⟨q1, q, qa, qb, q2, q3, n1, n2, n3⟩ := hall j x1 w1 hji hx1 hw1
          exact ⟨q1, q, qa, qb, by rw [List.getElem?_append_left (by omega)]; exact q2, (q3.ex (eT.trans e5)).but bL (by simpa using n1) (by simpa using n2) (by simpa using n3), n1, n2, n3⟩
        · have ej : j = i := by omega
          subst ej
          have ex1 : x1 = x := Option.some.inj (hx1.symm.trans hx)
          have ew1 := Option.some.inj (hw1.symm.trans hWi)
          subst ex1
          subst ew1
          exact ⟨hb, p, la, lb, by rw [List.getElem?_append_right (by omega), hxl, Nat.sub_self]; rfl, hP5, nL p np, nL la nla2, nL lb nlb2⟩
    · rintro σ H1 ⟨xs, hd, v4, v5, v6, rfl, e1, hl, hxl, hd16, hdr, hall⟩
      rw [tv_len] at hxl
      have hnb : W.any (fun w => w.bad) = false := by
        rw [List.any_eq_false]
        intro w hw
        obtain ⟨j, hj⟩ := List.getElem?_of_mem hw
        have hjl := (List.getElem?_eq_some_iff.mp hj).1
        obtain ⟨q, _⟩ := hall j _ w (by rw [tv_len]; omega) (List.getElem?_eq_getElem (by omega)) hj
        rw [q]
        exact Bool.false_ne_true
      have hPs : PassesAt CP H1 L t W := ⟨xs, hl, hxl, hWl, fun i x w hx hw => by
        obtain ⟨_, p, la, lb, hp, hP, _⟩ := hall i x w (by rw [tv_len]; exact (List.getElem?_eq_some_iff.mp hx).1) hx hw
        exact ⟨p, la, lb, hp, hP⟩⟩
      have hbound : total W ≤ 5000 := by
        have q := total_le cs t 1 []
        have q2 : worksBy cs 1 [] t = W := hW
        rw [q2] at q
        have q3 : t.length * (cs.length + 1) ≤ 60 * 17 := Nat.mul_le_mul h60 (by omega)
        omega
      refine ⟨_, rfl, L, t, W, rfl, hPs, hbound, fun q H2 hq e2 h2 => ?_⟩
      refine ⟨q, _, rfl, .inl (SqL.of h2), ?_⟩
      rw [resV_len]
      refine ⟨_, _, rfl, rfl, _, rfl, ?_⟩
      by_cases h60 : total W ≤ 60
      · rw [decide_eq_false (show ¬ (60 : Int) < ((total W : Nat) : Int) by omega)]
        exact iteF ⟨_, rfl, kk hnb h60 H2 L hL (e1.trans e2) (hPs.of e2)⟩
      · rw [decide_eq_true (show (60 : Int) < ((total W : Nat) : Int) by omega)]
        refine iteT (kE (run_none.mpr (.inr ?_)) H2 (e1.trans e2))
        rw [hW]
        omega
end LE

/-! LSt: versions of a text, what a step makes of them. -/
namespace LE
open PySem PySem.Spec PyProof.Rows L2 Evl
open Vaseda (Work Out Cmd works)
open Vasedz (Tag tagged tagOut)
variable {P : Program} {w : World} {K : PySem.W.Frag} {mg : Str → Option Value} {base : Heap}
def orgN (g : Tag) : Nat := g.from_.getD 0
structure OrgAt (H : Hp) (os : List V) (l : List Tag) : Prop where
  len : os.length = l.length
  at_ : ∀ (i : Nat) (g : Tag), l[i]? = some g → ∃ r : Addr, os[i]? = some (.ref r) ∧ H r = some (.tup [.int (orgN g : Nat), .int (g.by_ : Nat)])
theorem OrgAt.ex {H H' : Hp} {os : List V} {l : List Tag} (h : OrgAt H os l) (e : Ex H H') : OrgAt H' os l :=
  ⟨h.len, fun i g hg => by
    obtain ⟨r, a, b⟩ := h.at_ i g hg
    exact ⟨r, a, e _ _ b⟩⟩
theorem OrgAt.but {H H' : Hp} {os : List V} {l : List Tag} {p : Addr} {xs : List V} (h : OrgAt H os l) (hp : H p = some (.lst xs)) (e : But [p] H H') : OrgAt H' os l :=
  ⟨h.len, fun i g hg => by
    obtain ⟨r, a, b⟩ := h.at_ i g hg
    refine ⟨r, a, e _ _ b ?_⟩
    simp only [List.mem_singleton]
    rintro rfl
    rw [hp] at b
    cases b⟩
theorem OrgAt.nil {H : Hp} : OrgAt H [] [] := ⟨rfl, fun i g hg => by simp at hg⟩
theorem OrgAt.app {H : Hp} {os os2 : List V} {l l2 : List Tag} (h : OrgAt H os l) (h2 : OrgAt H os2 l2) : OrgAt H (os ++ os2) (l ++ l2) := by
  refine ⟨by rw [List.length_append, List.length_append, h.len, h2.len], fun i g hg => ?_⟩
  by_cases hi : i < l.length
  · rw [List.getElem?_append_left hi] at hg
    obtain ⟨r, a, b⟩ := h.at_ i g hg
    exact ⟨r, by rw [List.getElem?_append_left (by rw [h.len]; exact hi)]; exact a, b⟩
  · rw [List.getElem?_append_right (by omega)] at hg
    obtain ⟨r, a, b⟩ := h2.at_ _ g hg
    exact ⟨r, by rw [List.getElem?_append_right (by rw [h.len]; omega), h.len]; exact a, b⟩
theorem OrgAt.rep {H : Hp} {r : Addr} {n : Nat} (hr : H r = some (.tup [.int 0, .int (n : Nat)])) (f : Out → Tag) (hf : ∀ o, (f o).from_ = none ∧ (f o).by_ = n) (l : List Out) : OrgAt H (List.replicate l.length (.ref r)) (l.map f) := by
  refine ⟨by rw [List.length_replicate, List.length_map], fun i g hg => ?_⟩
  rw [List.getElem?_map] at hg
  cases e : l[i]? with
  | none =>
    rw [e] at hg
    cases hg
  | some o =>
    rw [e] at hg
    cases hg
    refine ⟨r, ?_, ?_⟩
    · rw [List.getElem?_replicate, if_pos (List.getElem?_eq_some_iff.mp e).1]
    · unfold orgN
      rw [(hf o).1, (hf o).2]
      exact hr
theorem OrgAt.one {H : Hp} {r : Addr} {g : Tag} (hr : H r = some (.tup [.int (orgN g : Nat), .int (g.by_ : Nat)])) : OrgAt H [.ref r] [g] := by
  refine ⟨rfl, fun i g' hg => ?_⟩
  cases i with
  | zero =>
    cases hg
    exact ⟨r, rfl, hr⟩
  | succ i => simp at hg
def vF (a b : Addr) : List (Str × V) := [("lines", .ref a), ("origins", .ref b)]
structure VerAt (CV : Addr) (H : Hp) (v : Addr) (l : List Tag) : Prop where
  ex : ∃ dx a b os, H v = some (.ins CV dx (vF a b)) ∧ H a = some (.lst (tv (Vasedz.textOf l))) ∧ H b = some (.lst os) ∧ OrgAt H os l
theorem VerAt.of {CV : Addr} {H H' : Hp} {v : Addr} {l : List Tag} (h : VerAt CV H v l) (e : Ex H H') : VerAt CV H' v l := by
  obtain ⟨dx, a, b, os, h1, h2, h3, h4⟩ := h.ex
  exact ⟨dx, a, b, os, e _ _ h1, e _ _ h2, e _ _ h3, h4.ex e⟩
/-- .. its lists by their addresses -/
structure VerX (CV : Addr) (H : Hp) (v a b : Addr) (l : List Tag) : Prop where
  ex : ∃ dx os, H v = some (.ins CV dx (vF a b)) ∧ H a = some (.lst (tv (Vasedz.textOf l))) ∧ H b = some (.lst os) ∧ OrgAt H os l
theorem VerX.at {CV : Addr} {H : Hp} {v a b : Addr} {l : List Tag} (h : VerX CV H v a b l) : VerAt CV H v l := by
  obtain ⟨dx, os, h1, h2, h3, h4⟩ := h.ex
  exact ⟨dx, a, b, os, h1, h2, h3, h4⟩
theorem VerX.of {CV : Addr} {H H' : Hp} {v a b : Addr} {l : List Tag} (h : VerX CV H v a b l) (e : Ex H H') : VerX CV H' v a b l := by
  obtain ⟨dx, os, h1, h2, h3, h4⟩ := h.ex
  exact ⟨dx, os, e _ _ h1, e _ _ h2, e _ _ h3, h4.ex e⟩
structure TxtVer (K : PySem.W.Frag) (mg : Str → Option Value) (CV : Addr) : Prop where
  cl : Cls K CV
  nLines : NoAttr K CV "lines"
  nOrigins : NoAttr K CV "origins"
  len : mg "len" = none
  range : mg "range" = none
  zip : mg "zip" = none
  sum : mg "sum" = none
abbrev sVerInit : Stmt := inClass (top 82) 0
theorem sc_ver_init : FnScope ["self", "lines", "origins"] ["self", "lines", "origins"] (defScope sVerInit) := ⟨rfl, rfl, rfl, by decide +kernel, rfl, by decide +kernel, by decide +kernel⟩
def spVerInit (CV : Addr) : Sp := fun vs H Q _ => ∃ (p dx a b : Addr), vs = [.ref p, .ref a, .ref b] ∧ H p = some (.ins CV dx []) ∧ Q .non (upd H p (.ins CV dx (vF a b)))
theorem ok_ver_init {f CV : Addr} {fd : FuncData} (F : Fun K "__init__" "Version.__init__" sVerInit f fd) (T : TxtVer K mg CV) : FnOk P w K mg base CX0 1 f fd ["self", "lines", "origins"] (spVerInit CV) := by
  refine F.ok sc_ver_init (fun vs H Q E h => ?_) (fun cdv A outer s H vs Q E hr h => ⟨_, pss_cons (ps_fld (pv 0) (pv 1) rfl) (pss_one (ps_fld (pv 0) (pv 2) rfl)), ?_⟩)
  · obtain ⟨p, dx, a, b, rfl, _⟩ := h
    rfl
  · obtain ⟨p, dx, a, b, rfl, hp, k⟩ := h
    refine ⟨_, rfl, _, rfl, p, CV, dx, [], rfl, hp, T.cl, T.nLines, by show 0 < 1000; decide, ?_⟩
    refine ⟨_, rfl, _, rfl, p, CV, dx, _, rfl, upd_same, T.cl, T.nOrigins, by show 1 < 1000; decide, ?_⟩
    rw [upd_upd]
    exact k
/-- a new version of these lines -/
theorem ver_made {CV : Addr} {H H1 : Hp} {p dx a b : Addr} {os : List V} {l : List Tag} (e : Ex H H1) (np : H1 p = none) (nd : H1 dx = none) (ndp : dx ≠ p) (ha : H1 a = some (.lst (tv (Vasedz.textOf l)))) (hb : H1 b = some (.lst os)) (ho : OrgAt H1 os l) :
    H p = none ∧ Ex H (upd (upd (upd H1 dx (.own p)) p (.ins CV dx [])) p (.ins CV dx (vF a b))) ∧ VerX CV (upd (upd (upd H1 dx (.own p)) p (.ins CV dx [])) p (.ins CV dx (vF a b))) p a b l := by
  rw [upd_upd]
  have e2 : Ex H1 (upd (upd H1 dx (.own p)) p (.ins CV dx (vF a b))) := (Ex.new nd).trans (Ex.new (by rw [upd_ne (Ne.symm ndp)]; exact np))
  exact ⟨fresh_back e np, e.trans e2, ⟨dx, os, upd_same, e2 _ _ ha, e2 _ _ hb, ho.ex e2⟩⟩

/-! ### first_version -/
abbrev sFirstVer : Stmt := top 83
theorem sc_first_ver : FnScope ["lines", "number"] ["lines"] (defScope sFirstVer) := ⟨rfl, rfl, rfl, by decide +kernel, rfl, by decide +kernel, by decide +kernel⟩
def spFirstVer (CV : Addr) : Sp := fun vs H Q _ => ∃ (a : Addr) (t : List (List UInt8)), vs = [.ref a] ∧ H a = some (.lst (tv t)) ∧ t.length ≤ 1000 ∧ ∀ v b H', H v = none → H b = none → Ex H H' → VerX CV H' v a b (tagged t) → Q (.ref v) H'
theorem text_tagged (t : List (List UInt8)) : Vasedz.textOf (tagged t) = t := by
  unfold Vasedz.textOf tagged
  rw [List.map_map]
  show t.zipIdx.map (fun x => x.1) = t
  exact List.zipIdx_map_fst ..
theorem tagged_get {t : List (List UInt8)} {i : Nat} {g : Tag} (h : (tagged t)[i]? = some g) : ∃ x, t[i]? = some x ∧ g = ⟨x, some (i + 1), 0⟩ := by
  unfold tagged at h
  rw [List.getElem?_map, List.getElem?_zipIdx] at h
  cases e : t[i]? with
  | none => rw [e] at h; cases h
  | some x =>
    rw [e, Nat.zero_add] at h
    exact ⟨x, rfl, (Option.some.inj h).symm⟩
theorem ok_first_ver {f CV : Addr} {fd : FuncData} (F : Fun K "first_version" "first_version" sFirstVer f fd) (T : TxtVer K mg CV) (kv : Kn P w K mg base 1 "Version" CV (spVerInit CV)) : FnOk P w K mg base CX0 3 f fd ["lines"] (spFirstVer CV) := by
  refine F.ok sc_first_ver (fun vs H Q E h => ?_) (fun cdv A outer s H vs Q E hr h => ⟨_, pss_one (ps_ret (pe_kn kv hr (pa_cons (pv 0) (pa_cons
    (pe_lc (own := [("number", 1)]) (g := gName 1) (tt := tYes) rfl sc_first_ver.nd (pi_range2 (by rfl) T.range (pa_cons pe_int (pa_cons (pe_op op_add (pe_callB call_len_seq (by rfl) T.len PySem.boot_len (pa_cons (pv 0) pa_nil)) pe_int) pa_nil)))
      (blkOk_by (N := ["lines", "number"]) (sc := defScope sFirstVer) (by decide +kernel)) (fun _ _ _ _ _ => pg_name (i := 1) sc_first_ver.nd rfl (Or.inl rfl)) (fun _ _ _ _ _ => pts_nil) (fun _ _ _ _ _ => pe_tup (pa_cons (pv 1) (pa_cons pe_int pa_nil)))) pa_nil)))), ?_⟩)
  · obtain ⟨a, t, rfl, _⟩ := h
    rfl
  · obtain ⟨a, t, rfl, ha, hz, k⟩ := h
    refine ⟨_, rfl, _, rfl, a, _, rfl, .inl (SqL.of ha), _, _, rfl, rfl, 1, _, rfl, ?_, fun D hD => ?_⟩
    · rw [tv_len]
      omega
    have en : (((tv t).length : Nat) + 1 - 1 : Int).toNat = t.length := by rw [tv_len]; omega
    rw [en]
    refine lc_range (lo := 1) (n := t.length) (fun i H' => ∃ os : List V, Ex H H' ∧ H' D = some (.lst os) ∧ os.length = i ∧ ∀ j, j < i → ∃ r : Addr, os[j]? = some (.ref r) ∧ H' r = some (.tup [.int ((j + 1 : Nat) : Int), .int 0]))
      ⟨[], Ex.new hD, upd_same, rfl, fun j hj => absurd hj (Nat.not_lt_zero j)⟩ (fun i H1 hi ⟨os, e1, h1, hl, hall⟩ => ?_) (fun H1 ⟨os, e1, h1, hl, hall⟩ => ?_)
    · refine ⟨rfl, ?_⟩
      unfold tYes
      refine iteT ?_
      refine ⟨_, rfl, by show 2 ≤ sizeLine; decide, fun p hp => ⟨os, Ex.new hp D _ h1, sizeLine_gt (by omega), ?_⟩⟩
      refine ⟨os ++ [.ref p], Ex.mut (e1.trans (Ex.new hp)) hD, upd_same, by rw [List.length_append, List.length_singleton]; omega, fun j hj => ?_⟩
      by_cases hji : j < i
      · obtain ⟨r, q1, q2⟩ := hall j hji
        have q3 : r ≠ D := fun z => by
          rw [z, h1] at q2
          cases q2
        exact ⟨r, by rw [List.getElem?_append_left (by omega)]; exact q1, by rw [upd_ne q3]; exact Ex.new hp _ _ q2⟩
      · have ej : j = i := by omega
        subst ej
        have q3 : p ≠ D := fun z => by
          rw [z, h1] at hp
          cases hp
        refine ⟨p, by rw [List.getElem?_append_right (by omega), hl, Nat.sub_self]; rfl, ?_⟩
        rw [upd_ne q3, upd_same]
        have e : (1 + (j : Nat) : Int) = ((j + 1 : Nat) : Int) := by omega
        rw [e]
    · intro p dx np nd ndp
      have hO : OrgAt H1 os (tagged t) := by
        refine ⟨by rw [hl]; simp [tagged], fun i g hg => ?_⟩
        obtain ⟨x, hx, rfl⟩ := tagged_get hg
        obtain ⟨r, q1, q2⟩ := hall i (List.getElem?_eq_some_iff.mp hx).1
        exact ⟨r, q1, q2⟩
      have m := ver_made (CV := CV) e1 np nd ndp (a := a) (b := D) (l := tagged t) (by rw [text_tagged]; exact e1 _ _ ha) h1 hO
      exact ⟨p, dx, a, D, rfl, upd_same, rfl, k p D _ m.1 hD m.2.1 m.2.2⟩

def putTag (n : Nat) (o : Out) : Tag := ⟨o.x, none, n⟩
def rowTags (n : Nat) (g : Tag) (w : Work) : List Tag := w.pre.map (putTag n) ++ ((if w.gone = true then [] else [⟨w.x, g.from_, if w.x = g.x then g.by_ else n⟩]) ++ w.post.map (putTag n))
def allTags (n : Nat) (l : List Tag) (W : List Work) : List Tag := (l.zip W).flatMap fun p => rowTags n p.1 p.2
theorem row_len (n : Nat) (g : Tag) (w : Work) : (rowTags n g w).length = come w := by
  unfold rowTags come
  rw [List.length_append, List.length_append, List.length_map, List.length_map]
  split
  · rw [List.length_nil]
    omega
  · rw [List.length_singleton]
    omega
theorem all_len (n : Nat) : ∀ (l : List Tag) (W : List Work), (allTags n l W).length ≤ total W
  | [], W => Nat.zero_le _
  | g :: l, [] => Nat.zero_le _
  | g :: l, w :: W => by
    have ih := all_len n l W
    unfold allTags at ih ⊢
    rw [List.zip_cons_cons, List.flatMap_cons, List.length_append, row_len]
    show _ ≤ (List.map come (w :: W)).sum
    rw [List.map_cons, List.sum_cons]
    have e1 : total W = (List.map come W).sum := rfl
    have e2 : come (g, w).snd = come w := rfl
    omega
theorem all_more {n : Nat} {l : List Tag} {W : List Work} {i : Nat} {g : Tag} {w : Work} (hg : l[i]? = some g) (hw : W[i]? = some w) : allTags n (l.take (i + 1)) (W.take (i + 1)) = allTags n (l.take i) (W.take i) ++ rowTags n g w := by
  unfold allTags
  rw [take_more hg, take_more hw, List.zip_append, List.flatMap_append]
  · simp
  · rw [List.length_take, List.length_take]
    have h1 := (List.getElem?_eq_some_iff.mp hg).1
    have h2 := (List.getElem?_eq_some_iff.mp hw).1
    omega
theorem total_take (W : List Work) (i : Nat) {w : Work} (hw : W[i]? = some w) : total (W.take i) + come w ≤ total W := by
  have h : total (W.take (i + 1)) = total (W.take i) + come w := by
    unfold total
    rw [take_more hw, List.map_append, List.sum_append]
    simp
  rw [← h]
  have e : total W = total (W.take (i + 1)) + total (W.drop (i + 1)) := by
    unfold total
    rw [← List.sum_append, ← List.map_append, List.take_append_drop]
  omega
theorem tv_app (a b : List (List UInt8)) : tv (a ++ b) = tv a ++ tv b := List.map_append ..
theorem text_app (a b : List Tag) : Vasedz.textOf (a ++ b) = Vasedz.textOf a ++ Vasedz.textOf b := List.map_append ..
theorem text_put (n : Nat) (l : List Out) : tv (Vasedz.textOf (l.map (putTag n))) = outs l := by
  unfold Vasedz.textOf outs
  rw [List.map_map]
  rfl
theorem text_get {l : List Tag} {i : Nat} {g : Tag} (h : l[i]? = some g) : (Vasedz.textOf l)[i]? = some g.x := by
  unfold Vasedz.textOf
  rw [List.getElem?_map, h]
  rfl
theorem text_row (n : Nat) (g : Tag) (w : Work) : tv (Vasedz.textOf (rowTags n g w)) = outsL w := by
  unfold rowTags outsL
  rw [text_app, text_app, tv_app, tv_app, text_put, text_put, List.append_assoc]
  congr 2
  split <;> rfl
theorem text_all (n : Nat) : ∀ (l : List Tag) (W : List Work), l.length = W.length → tv (Vasedz.textOf (allTags n l W)) = resV W
  | [], [], _ => rfl
  | [], _ :: _, h => by simp at h
  | _ :: _, [], h => by simp at h
  | g :: l, w :: W, h => by
    have ih := text_all n l W (by simpa using h)
    unfold allTags resV at ih ⊢
    rw [List.zip_cons_cons, List.flatMap_cons, List.flatMap_cons, text_app, tv_app, ih]
    show tv (Vasedz.textOf (rowTags n g w)) ++ _ = _
    rw [text_row]
/-! ### origins_coming -/
abbrev sOrgs : Stmt := top 85
theorem sc_orgs : FnScope ["passage", "origin", "step", "itself", "put"] ["passage", "origin", "step"] (defScope sOrgs) := ⟨rfl, rfl, rfl, by decide +kernel, rfl, by decide +kernel, by decide +kernel⟩
def spOrgs (CP : Addr) : Sp := fun vs H Q _ => ∃ (p r la lb : Addr) (n k : Nat) (g : Tag) (w : Work), vs = [.ref p, .ref r, .int (n : Nat)] ∧ PassAt CP H p la lb k g.x w ∧ come w ≤ 5000 ∧ H r = some (.tup [.int (orgN g : Nat), .int (g.by_ : Nat)]) ∧
  ∀ q H' os, H q = none → Ex H H' → H' q = some (.lst os) → OrgAt H' os (rowTags n g w) → Q (.ref q) H'
theorem ok_orgs {f CP : Addr} {fd : FuncData} (F : Fun K "origins_coming" "origins_coming" sOrgs f fd) (TP : TxtPass K CP) (hl : mg "len" = none)
    (gc : Mn P w K mg base CX0 1 CP "is_changed" (spPass CP fun x w => .bl (changed x w))) : FnOk P w K mg base CX0 2 f fd ["passage", "origin", "step"] (spOrgs CP) := by
  refine F.ok sc_orgs (fun vs H Q E h => ?_) (fun cdv A outer s H vs Q E hr h => ⟨_, pss_cons (ps_set (i := 3) sc_orgs.nd rfl (.inl rfl) (pe_lst pa_nil))
    (pss_cons (ps_if (pt_val (pe_fld (pv 0) rfl)) (pss_one (ps_set (i := 3) sc_orgs.nd rfl (.inl rfl) (pe_lst (pa_cons (pe_ifExp (pt_val (pe_mn0 gc hr pass0 (pv 0))) (pe_tup (pa_cons (pe_ix ix_tup (pv 1) pe_int (fun _ _ => rfl)) (pa_cons (pv 2) pa_nil))) (pv 1)) pa_nil)))) pss_nil)
    (pss_cons (ps_set (i := 4) sc_orgs.nd rfl (.inl rfl) (pe_tup (pa_cons pe_int (pa_cons (pv 2) pa_nil))))
    (pss_one (ps_ret (pe_op op_cat (pe_op op_cat (pe_op op_rep (pe_lst (pa_cons (pv 4) pa_nil)) (pe_callB call_len_seq (by rfl) hl PySem.boot_len (pa_cons (pe_fld (pv 0) rfl) pa_nil))) (pv 3))
      (pe_op op_rep (pe_lst (pa_cons (pv 4) pa_nil)) (pe_callB call_len_seq (by rfl) hl PySem.boot_len (pa_cons (pe_fld (pv 0) rfl) pa_nil)))))))), ?_⟩)
  · obtain ⟨p, r, la, lb, n, k, g, w, rfl, _⟩ := h
    rfl
  · obtain ⟨p, r, la, lb, n, k, g, w, rfl, hP, hc, hr0, kk⟩ := h
    unfold come at hc
    refine ⟨Nat.zero_le _, fun L0 hL0 => ?_⟩
    have e0 := Ex.new (o := .lst []) hL0
    have hP0 := hP.ex e0
    obtain ⟨⟨dp, hpo⟩, hpa, hpb, _⟩ := id hP0
    -- behind the if: itself holds the line's own origin
    have fin : ∀ (L : Addr) (H1 : Hp) (oi : List V), Ex H H1 → H1 L = some (.lst oi) → OrgAt H1 oi (if w.gone = true then [] else [⟨w.x, g.from_, if w.x = g.x then g.by_ else n⟩]) → oi.length ≤ 1 →
        (tSeq (tAsg (tTup (tCons (tC (.int 0)) (tCons (tVar 2) tNil))) (gName 4)) (tRet (tOp rCat (tOp rCat (tOp rRep (tLst (tCons (tVar 4) tNil)) (tCB (rLenS K) (tCons (tFld K (tVar 0) "ahead") tNil))) (tVar 3)) (tOp rRep (tLst (tCons (tVar 4) tNil)) (tCB (rLenS K) (tCons (tFld K (tVar 0) "behind") tNil))))))
          { nx := fun _ H' => Q .non H', rt := Q } [some (.ref p), some (.ref r), some (.int (n : Nat)), some (.ref L), none] H1 := fun L H1 oi e1 hl ho hz => by
      refine q_asgU (eu_tup (ea_cons ev_c (ea_cons (ev_var rfl) ea_nil)) (by show 2 ≤ 100000; decide)) fun u H2 nu e2 hu => ?_
      have hP2 := hP.ex (e1.trans e2)
      obtain ⟨⟨dq, hqo⟩, hqa, hqb, _⟩ := id hP2
      have v0 : Ev (tVar 0) [some (.ref p), some (.ref r), some (.int (n : Nat)), some (.ref L), some (.ref u)] H2 (.ref p) := ev_var rfl
      have lA := ev_lenR (K := K) (er_v (ev_fld v0 hqo TP.cl TP.nAhead rfl) hqa)
      have lB := ev_lenR (K := K) (er_v (ev_fld v0 hqo TP.cl TP.nBehind rfl) hqb)
      rw [outs_len] at lA lB
      have uu : EvR (tLst (tCons (tVar 4) tNil)) [some (.ref p), some (.ref r), some (.int (n : Nat)), some (.ref L), some (.ref u)] H2 [.ref u] := er_l (el_lst (ea_cons (ev_var rfl) ea_nil) (by show 1 ≤ 100000; decide))
      have all := el_cat (er_l (el_cat (er_l (el_rep uu lA (by omega))) (er_v (ev_var (i := 3) rfl) (e2 _ _ hl)) (by rw [List.length_replicate]; omega))) (er_l (el_rep uu lB (by omega))) (by rw [List.length_append, List.length_replicate, List.length_replicate]; omega)
      refine s_retL all fun q H3 nq e3 h3 => ?_
      refine kk q H3 _ (fresh_back (e1.trans e2) nq) ((e1.trans e2).trans e3) h3 ?_
      unfold rowTags
      rw [List.append_assoc]
      exact (OrgAt.rep (e3 _ _ hu) (putTag n) (fun _ => ⟨rfl, rfl⟩) w.pre).app ((ho.ex (e2.trans e3)).app (OrgAt.rep (e3 _ _ hu) (putTag n) (fun _ => ⟨rfl, rfl⟩) w.post))
    refine ⟨_, rfl, p, CP, dp, _, _, rfl, hpo, TP.cl, TP.nStays, rfl, _, rfl, ?_⟩
    cases hg : w.gone with
    | true =>
      rw [hg, if_pos rfl] at fin
      exact iteF (fin L0 _ [] e0 upd_same OrgAt.nil (Nat.zero_le _))
    | false =>
      rw [hg, if_neg Bool.false_ne_true] at fin
      refine iteT ⟨_, rfl, p, dp, _, rfl, hpo, rfl, p, la, lb, k, g.x, w, rfl, hP0, fun H1 e1 => ⟨_, rfl, ?_⟩⟩
      have e01 := e0.trans e1
      have hr1 := e01 _ _ hr0
      have ec : changed g.x w = !decide (w.x = g.x) := by
        show (!w.gone && w.x != g.x) = _
        rw [hg, Bool.not_false, Bool.true_and, ← beq_dec]
        rfl
      rw [ec]
      by_cases hx : w.x = g.x
      · rw [decide_eq_true hx]
        rw [if_pos hx] at fin
        refine iteF ⟨_, rfl, by show 1 ≤ sizeLine; decide, fun L hL => ?_⟩
        exact fin L _ _ (e01.trans (Ex.new hL)) upd_same (OrgAt.one (Ex.new hL _ _ hr1)) (Nat.le_refl _)
      · rw [decide_eq_false hx]
        rw [if_neg hx] at fin
        refine iteT ⟨_, rfl, r, _, 0, _, rfl, rfl, SqT.of hr1, rfl, _, rfl, by show 2 ≤ sizeLine; decide, fun q hq => ?_⟩
        refine ⟨by show 1 ≤ sizeLine; decide, fun L hL => ?_⟩
        exact fin L _ _ ((e01.trans (Ex.new hq)).trans (Ex.new hL)) upd_same (OrgAt.one (g := ⟨w.x, g.from_, n⟩) (Ex.new hL _ _ upd_same)) (Nat.le_refl _)
/-! ### version_behind -/
abbrev sVerBehind : Stmt := top 84
theorem sc_ver_behind : FnScope ["version", "passages", "step", "origins", "passage", "origin"] ["version", "passages", "step"] (defScope sVerBehind) := ⟨rfl, rfl, rfl, by decide +kernel, rfl, by decide +kernel, by decide +kernel⟩
def spVerBehind (CV CP : Addr) : Sp := fun vs H Q _ => ∃ (v pa : Addr) (n : Nat) (l : List Tag) (W : List Work), vs = [.ref v, .ref pa, .int (n : Nat)] ∧ VerAt CV H v l ∧ PassesAt CP H pa (Vasedz.textOf l) W ∧ total W ≤ 1000 ∧ ∀ v' a b H', H v' = none → H a = none → H b = none → Ex H H' → VerX CV H' v' a b (allTags n l W) → Q (.ref v') H'
theorem ok_ver_behind {f CV CP : Addr} {fd : FuncData} (F : Fun K "version_behind" "version_behind" sVerBehind f fd) (T : TxtVer K mg CV) (kv : Kn P w K mg base 1 "Version" CV (spVerInit CV))
    (go : Dn P w K mg base CX0 2 "origins_coming" (spOrgs CP) 3) (gr : Dn P w K mg base CX0 2 "result_of" (spResult CP) 1) : FnOk P w K mg base CX0 3 f fd ["version", "passages", "step"] (spVerBehind CV CP) := by
  refine F.ok sc_ver_behind (fun vs H Q E h => ?_) (fun cdv A outer s H vs Q E hr h => ⟨_, pss_cons (ps_set (i := 3) sc_ver_behind.nd rfl (.inl rfl) (pe_lst pa_nil))
    (pss_cons (ps_for PassesOwn.never rfl (pi_zip (by rfl) T.zip (pa_cons (pv 1) (pa_cons (pe_fld (pv 0) rfl) pa_nil))) (pg_tup rfl (pgs_cons (pg_name (i := 4) sc_ver_behind.nd rfl (.inl rfl)) (pgs_cons (pg_name (i := 5) sc_ver_behind.nd rfl (.inl rfl)) pgs_nil)))
      (pss_one (ps_expr (pe_bm PySem.F.plainAttrs_list PySem.F.slot_list_extend PySem.F.type_list_extend mt_extend (pv 3) (pa_cons (pe_dn go hr pass0 (pa_cons (pv 4) (pa_cons (pv 5) (pa_cons (pv 2) pa_nil)))) pa_nil)))))
    (pss_one (ps_ret (pe_kn kv hr (pa_cons (pe_dn gr hr pass0 (pa_cons (pv 1) pa_nil)) (pa_cons (pv 3) pa_nil)))))), ?_⟩)
  · obtain ⟨v, pa, n, l, W, rfl, _⟩ := h
    rfl
  · obtain ⟨v, pa, n, l, W, rfl, hv, hpa, h60, k⟩ := h
    obtain ⟨dv, va, vb, os, hv1, hv2, hv3, hO⟩ := hv.ex
    obtain ⟨ps, hp1, hp2, hp3, hp4⟩ := hpa.ex
    have etl : (Vasedz.textOf l).length = l.length := by simp [Vasedz.textOf]
    refine ⟨Nat.zero_le _, fun O hO' => ?_⟩
    have eO : Ex H (upd H O (.lst [])) := Ex.new hO'
    refine ⟨_, rfl, _, rfl, v, CV, dv, _, _, rfl, eO _ _ hv1, T.cl, T.nOrigins, rfl, pa, vb, ps, os, rfl, SqL.of (eO _ _ hp1), SqL.of (eO _ _ hv3), ?_⟩
    have hmin : l.length = min ps.length os.length := by rw [hp2, hO.len, etl, Nat.min_self]
    refine for_it (walk_zip (xs := ps) (ys := os) hmin) (fun i σ H' => ∃ (ox : List V) (v5 v6 : Option V), σ = [some (.ref v), some (.ref pa), some (.int (n : Nat)), some (.ref O), v5, v6] ∧ Ex H H' ∧ H' O = some (.lst ox) ∧ OrgAt H' ox (allTags n (l.take i) (W.take i)))
      ⟨[], none, none, rfl, eO, upd_same, OrgAt.nil⟩ (fun i σ H' _ ⟨_, _, _, _, e, _⟩ => ⟨SqL.of (e _ _ hp1), SqL.of (e _ _ hv3)⟩) ?_ ?_
    · rintro i x σ H1 H2 hi ⟨ox, v5, v6, rfl, e1, ho, hox⟩ ⟨T', p', o', rfl, hT', rfl, hp', ho'⟩
      obtain ⟨g, hg⟩ : ∃ g, l[i]? = some g := ⟨_, List.getElem?_eq_getElem hi⟩
      obtain ⟨w, hw⟩ : ∃ w, W[i]? = some w := ⟨_, List.getElem?_eq_getElem (by omega)⟩
      obtain ⟨p, la, lb, q1, hP⟩ := hp4 i g.x w (text_get hg) hw
      have q1' : some (V.ref p) = some p' := q1.symm.trans hp'
      cases q1'
      obtain ⟨r, q2, hr0⟩ := hO.at_ i g hg
      have q2' : some (V.ref r) = some o' := q2.symm.trans ho'
      cases q2'
      have hsum := total_take W i hw
      have hlen := all_len n (l.take i) (W.take i)
      rw [all_more hg hw]
      generalize allTags n (l.take i) (W.take i) = G at hox hlen
      have eT : Ex H1 (upd H1 T' (.tup [.ref p, .ref r])) := Ex.new hT'
      have hT2 : upd H1 T' (.tup [.ref p, .ref r]) T' = some (.tup [.ref p, .ref r]) := upd_same
      generalize upd H1 T' (.tup [.ref p, .ref r]) = H2 at eT hT2
      have e2 : Ex H H2 := e1.trans eT
      refine ⟨T', _, rfl, SqT.of hT2, rfl, _, _, rfl, _, _, rfl, rfl, ?_⟩
      refine ⟨_, rfl, .inl ⟨rfl, _, SqL.of (eT _ _ ho)⟩, ?_⟩
      refine ⟨_, rfl, _, rfl, _, rfl, p, r, la, lb, n, i + 1, g, w, rfl, hP.ex e2, by omega, e2 _ _ hr0, fun q H3 oz nq e3 h3 hoz => ?_⟩
      have ho3 := (eT.trans e3) _ _ ho
      have hozl := hoz.len
      rw [row_len] at hozl
      refine ⟨O, q, _, _, rfl, rfl, ho3, h3, sizeLine_ge (by rw [hox.len]; omega), ?_⟩
      refine ⟨_, _, _, rfl, Ex.mut (e2.trans e3) hO', upd_same, ?_⟩
      exact ((hox.ex (eT.trans e3)).app hoz).but ho3 ((But.of (Ex.refl H3)).upd (by simp))
    · rintro σ H1 ⟨ox, v5, v6, rfl, e1, ho, hox⟩
      rw [List.take_length, List.take_of_length_le (show W.length ≤ l.length by omega)] at hox
      refine ⟨_, rfl, pa, _, W, rfl, hpa.of e1, by omega, fun L H2 nL e2 hL => ?_⟩
      refine ⟨_, rfl, fun p dx np nd ndp => ?_⟩
      have hL' : H2 L = some (.lst (tv (Vasedz.textOf (allTags n l W)))) := by
        rw [text_all n l W (by omega)]
        exact hL
      have m := ver_made (CV := CV) (e1.trans e2) np nd ndp hL' (e2 _ _ ho) (hox.ex e2)
      exact ⟨p, dx, L, O, rfl, upd_same, rfl, k p L O _ m.1 (fresh_back e1 nL) hO' m.2.1 m.2.2⟩
end LE

/-! LSe: what a step does, the first guarded line it harms; the step against the specification. -/
namespace LE
open PySem PySem.Spec PyProof.Rows L2 Evl
open Vaseda (Work Out Cmd works)
open Vasedz (Tag tagged tagOut)
variable {P : Program} {w : World} {K : PySem.W.Frag} {mg : Str → Option Value} {base : Heap}
/-! ### counts -/
theorem given_count {n : Nat} {f : Nat → Bool} {v : Nat → V} : (given n f v).length = ((List.range n).filter f).length := by
  unfold given
  rw [List.length_map]
theorem range_count {α : Type} (f : α → Bool) (d : α) (W : List α) : ((List.range W.length).filter fun i => f (W.getD i d)).length = (W.filter f).length := by
  have h : (List.range W.length).map (fun i => W.getD i d) = W := by
    apply List.ext_getElem?
    intro i
    rw [List.getElem?_map]
    by_cases h : i < W.length
    · rw [List.getElem?_range h, List.getElem?_eq_getElem h]
      simp [List.getD, h]
    · rw [List.getElem?_eq_none (by simpa using h), List.getElem?_eq_none (by simpa using h)]
      rfl
  conv => rhs; rw [← h]
  rw [List.filter_map, List.length_map]
  rfl
abbrev sEffect : Stmt := top 86
theorem sc_effect : FnScope ["passages", "passage"] ["passages"] (defScope sEffect) := ⟨rfl, rfl, rfl, by decide +kernel, rfl, by decide +kernel, by decide +kernel⟩
/-- what a step does, by the lines and their works -/
def effect (t : List (List UInt8)) (W : List Work) : List Nat :=
  [((t.zip W).filter fun x => asFound x.1 x.2).length, ((t.zip W).filter fun x => changed x.1 x.2).length, ((t.zip W).filter fun x => x.2.gone).length, ((t.zip W).map fun x => x.2.pre.length + x.2.post.length).sum]
def nv (l : List Nat) : List V := l.map fun n => V.int (n : Nat)
def spEffect (CP : Addr) : Sp := fun vs H Q _ => ∃ (pa : Addr) (t : List (List UInt8)) (W : List Work), vs = [.ref pa] ∧ PassesAt CP H pa t W ∧ t.length ≤ 1000 ∧ RetL (nv (effect t W)) H Q
theorem ok_effect {f CP : Addr} {fd : FuncData} (F : Fun K "effect_of" "effect_of" sEffect f fd) (TP : TxtPass K CP) (hl : mg "len" = none) (hs : mg "sum" = none) (ga : Mn P w K mg base CX0 1 CP "is_as_found" (spPass CP fun x w => .bl (asFound x w)))
    (gc : Mn P w K mg base CX0 1 CP "is_changed" (spPass CP fun x w => .bl (changed x w))) : FnOk P w K mg base CX0 2 f fd ["passages"] (spEffect CP) := by
  refine F.ok sc_effect (fun vs H Q E h => ?_) (fun cdv A outer s H vs Q E hr h => ⟨_, pss_one (ps_ret (pe_lst
    (pa_cons (pe_callB call_len_seq (by rfl) hl PySem.boot_len (pa_cons (pe_lc (own := [("passage", 1)]) (g := gName 1) rfl sc_effect.nd (pi_list (pv 0)) (blkOk_by (N := ["passages", "passage"]) (sc := defScope sEffect) (by decide +kernel)) (fun _ _ _ _ _ => pg_name (i := 1) sc_effect.nd rfl (Or.inl rfl))
      (fun _ _ _ _ _ => pts_one (pt_val (pe_mn0 ga (hr.mono (Nat.le_refl 1)) pass0 (pv 1)))) (fun _ _ _ _ _ => pe_int)) pa_nil))
    (pa_cons (pe_callB call_len_seq (by rfl) hl PySem.boot_len (pa_cons (pe_lc (own := [("passage", 1)]) (g := gName 1) rfl sc_effect.nd (pi_list (pv 0)) (blkOk_by (N := ["passages", "passage"]) (sc := defScope sEffect) (by decide +kernel)) (fun _ _ _ _ _ => pg_name (i := 1) sc_effect.nd rfl (Or.inl rfl))
      (fun _ _ _ _ _ => pts_one (pt_val (pe_mn0 gc (hr.mono (Nat.le_refl 1)) pass0 (pv 1)))) (fun _ _ _ _ _ => pe_int)) pa_nil))
    (pa_cons (pe_callB call_len_seq (by rfl) hl PySem.boot_len (pa_cons (pe_lc (own := [("passage", 1)]) (g := gName 1) (tt := tNot (tB (tFld K (tVar 1) "stays"))) rfl sc_effect.nd (pi_list (pv 0)) (blkOk_by (N := ["passages", "passage"]) (sc := defScope sEffect) (by decide +kernel)) (fun _ _ _ _ _ => pg_name (i := 1) sc_effect.nd rfl (Or.inl rfl))
      (fun _ _ _ _ _ => pts_one (pt_not (pt_val (pe_fld (pv 1) (by rfl))))) (fun _ _ _ _ _ => pe_int)) pa_nil))
    (pa_cons (pe_callB (cr_sum rfl) (by rfl) hs (by decide +kernel) (pa_cons (pe_lc (own := [("passage", 1)]) (g := gName 1) (tt := tYes) (te := tOp (rI0 fun i j => .int (i + j)) (tCB (rLenS K) (tCons (tFld K (tVar 1) "ahead") tNil)) (tCB (rLenS K) (tCons (tFld K (tVar 1) "behind") tNil))) rfl sc_effect.nd (pi_list (pv 0)) (blkOk_by (N := ["passages", "passage"]) (sc := defScope sEffect) (by decide +kernel)) (fun _ _ _ _ _ => pg_name (i := 1) sc_effect.nd rfl (Or.inl rfl))
      (fun _ _ _ _ _ => pts_nil) (fun _ _ _ _ _ => pe_op op_add (pe_callB call_len_seq (by rfl) hl PySem.boot_len (pa_cons (pe_fld (pv 1) (by rfl)) pa_nil)) (pe_callB call_len_seq (by rfl) hl PySem.boot_len (pa_cons (pe_fld (pv 1) (by rfl)) pa_nil)))) pa_nil)) pa_nil)))))), ?_⟩)
  · obtain ⟨pa, t, W, rfl, _⟩ := h
    rfl
  · obtain ⟨pa, t, W, rfl, hp, hz, k⟩ := h
    obtain ⟨ps, hp1, hp2, hp3, hp4⟩ := hp.ex
    have hzl : (t.zip W).length = ps.length := by rw [List.length_zip, hp2, hp3, Nat.min_self]
    -- the i-th passage
    have pass : ∀ (i : Nat) (x : V), ps[i]? = some x → ∃ p la lb, x = .ref p ∧ PassAt CP H p la lb (i + 1) ((t.zip W).getD i ([], fresh [] [])).1 ((t.zip W).getD i ([], fresh [] [])).2 := fun i x hi => by
      have hlt := (List.getElem?_eq_some_iff.mp hi).1
      have h1 : t[i]? = some t[i] := List.getElem?_eq_getElem (by omega)
      have h2 : W[i]? = some W[i] := List.getElem?_eq_getElem (by omega)
      obtain ⟨p, la, lb, q1, q2⟩ := hp4 i _ _ h1 h2
      have e : (t.zip W).getD i ([], fresh [] []) = (t[i], W[i]) := by
        rw [List.getD, List.getElem?_eq_getElem (by omega)]
        simp
      rw [e]
      rw [hi] at q1
      cases q1
      exact ⟨p, la, lb, rfl, q2⟩
    have hst : L2.start ["passages", "passage"] [V.ref pa] = [some (.ref pa), none] := rfl
    have count : ∀ (g : List UInt8 → Work → Bool) (tt : TT), (∀ (p la lb : Addr) (k : Nat) (x : List UInt8) (w : Work) (H1 : Hp), PassAt CP H1 p la lb k x w → EvT tt [some (.ref pa), some (.ref p)] H1 (g x w)) →
        Ev (tCB (fun xs H Q => ∃ p ys, xs = [.ref p] ∧ (SqL K H p ys ∨ SqT K H p ys) ∧ Q (.int ys.length) H) (tCons (tLc (iList K (tVar 0)) (gName 1) tt (tC (.int 1)) [1]) tNil)) (L2.start ["passages", "passage"] [.ref pa]) H (.int ((((t.zip W).filter fun x => g x.1 x.2).length : Nat))) := fun g tt ht => by
      have hL : EvL (tLc (iList K (tVar 0)) (gName 1) tt (tC (.int 1)) [1]) (L2.start ["passages", "passage"] [.ref pa]) H (given ps.length (fun i => g ((t.zip W).getD i ([], fresh [] [])).1 ((t.zip W).getD i ([], fresh [] [])).2) fun _ => .int 1) :=
        el_lcL _ _ (ev_var rfl) (SqL.of hp1) (by omega) (fun _ => rfl) (fun i x H1 e hi => by
          obtain ⟨p, la, lb, rfl, hP⟩ := pass i x hi
          exact ht p la lb _ _ _ H1 (hP.ex e)) (fun i x H1 e hi _ => ev_c)
      have hlen : (given ps.length (fun i => g ((t.zip W).getD i ([], fresh [] [])).1 ((t.zip W).getD i ([], fresh [] [])).2) fun _ => V.int 1).length = ((t.zip W).filter fun x => g x.1 x.2).length := by
        rw [given_count, ← hzl]
        exact range_count (fun x => g x.1 x.2) ([], fresh [] []) (t.zip W)
      rw [← hlen]
      exact ev_lenN hL
    have c1 := count asFound (tB (tMeth CP "is_as_found" (spPass CP fun x w => .bl (asFound x w)) [] E0 (tVar 1) tNil)) (fun p la lb kk x w H1 hP => et_B (fun H2 e2 Q2 q2 => by
      have hP2 := hP.ex e2
      obtain ⟨⟨dp, hpo⟩, _⟩ := id hP2
      exact ⟨_, rfl, p, dp, _, rfl, hpo, rfl, p, la, lb, kk, x, w, rfl, hP2, fun H4 e4 => q2 H4 e4⟩))
    have c2 := count changed (tB (tMeth CP "is_changed" (spPass CP fun x w => .bl (changed x w)) [] E0 (tVar 1) tNil)) (fun p la lb kk x w H1 hP => et_B (fun H2 e2 Q2 q2 => by
      have hP2 := hP.ex e2
      obtain ⟨⟨dp, hpo⟩, _⟩ := id hP2
      exact ⟨_, rfl, p, dp, _, rfl, hpo, rfl, p, la, lb, kk, x, w, rfl, hP2, fun H4 e4 => q2 H4 e4⟩))
    have c3 := count (fun _ w => w.gone) (tNot (tB (tFld K (tVar 1) "stays"))) (fun p la lb kk x w H1 hP => et_is (a := !(!w.gone)) (et_not (et_B (fun H2 e2 Q2 q2 => by
      have hP2 := hP.ex e2
      obtain ⟨⟨dp, hpo⟩, _⟩ := id hP2
      exact ⟨_, rfl, p, CP, dp, _, _, rfl, hpo, TP.cl, TP.nStays, rfl, q2 H2 (Ex.refl H2)⟩))) (Bool.not_not _))
    have c4 : EvL (tLc (iList K (tVar 0)) (gName 1) tYes (tOp (rI0 fun i j => .int (i + j)) (tCB (rLenS K) (tCons (tFld K (tVar 1) "ahead") tNil)) (tCB (rLenS K) (tCons (tFld K (tVar 1) "behind") tNil))) [1]) (L2.start ["passages", "passage"] [.ref pa]) H
        ((List.range ps.length).map fun i => .int (((((t.zip W).getD i ([], fresh [] [])).2.pre.length + ((t.zip W).getD i ([], fresh [] [])).2.post.length : Nat)) : Int)) := by
      refine el_ix _ (ev_var rfl) (SqL.of hp1) (by omega) (fun _ => rfl) (fun i x H1 e hi => ?_)
      obtain ⟨p, la, lb, rfl, hP⟩ := pass i x hi
      intro H2 e2 Q2 q2
      have hP2 := hP.ex (e.trans e2)
      obtain ⟨⟨dp, hpo⟩, ha, hb, _⟩ := id hP2
      refine ⟨_, rfl, p, CP, dp, _, _, rfl, hpo, TP.cl, TP.nAhead, rfl, la, _, rfl, .inl (SqL.of ha), _, rfl, p, CP, dp, _, _, rfl, hpo, TP.cl, TP.nBehind, rfl, lb, _, rfl, .inl (SqL.of hb), _, _, rfl, rfl, ?_⟩
      have q := q2 H2 (Ex.refl H2)
      rw [outs_len, outs_len]
      exact q
    have c5 : Ev (tCB (rSum K) (tCons (tLc (iList K (tVar 0)) (gName 1) tYes (tOp (rI0 fun i j => .int (i + j)) (tCB (rLenS K) (tCons (tFld K (tVar 1) "ahead") tNil)) (tCB (rLenS K) (tCons (tFld K (tVar 1) "behind") tNil))) [1]) tNil)) (L2.start ["passages", "passage"] [.ref pa]) H
        (.int ((((t.zip W).map fun x => x.2.pre.length + x.2.post.length).sum : Nat))) := fun H1 e Q1 q1 => by
      dsimp only [tCB, tCons, tNil]
      refine c4 H1 e _ fun p H2 _ e2 h2 => ⟨p, (t.zip W).map fun x => (((x.2.pre.length + x.2.post.length : Nat)) : Int), rfl, SqL.of (h2.trans ?_), ?_⟩
      · have hr := range_map (fun x : List UInt8 × Work => (((x.2.pre.length + x.2.post.length : Nat)) : Int)) ([], fresh [] []) (t.zip W)
        rw [← hr, List.map_map, hzl]
        rfl
      · have hsum : ∀ l : List (List UInt8 × Work), (l.map fun x => (((x.2.pre.length + x.2.post.length : Nat)) : Int)).sum = (((l.map fun x => x.2.pre.length + x.2.post.length).sum : Nat) : Int) := fun l => by
          induction l with
          | nil => rfl
          | cons w W ih =>
            rw [List.map_cons, List.map_cons, List.sum_cons, List.sum_cons, ih]
            omega
        rw [hsum]
        exact q1 H2 e2
    exact (el_lst (ea_cons c1 (ea_cons c2 (ea_cons c3 (ea_cons c5 ea_nil)))) (by show 4 ≤ 100000; decide)) H (Ex.refl H) _ fun p H2 hp2' e2 h2 => k p H2 hp2' e2 h2
/-! ### is_guarded, first_harmed -/
abbrev sIsG : Stmt := top 87
theorem sc_is_g : FnScope ["line", "guarded"] ["line", "guarded"] (defScope sIsG) := ⟨rfl, rfl, rfl, by decide +kernel, rfl, by decide +kernel, by decide +kernel⟩
def isG (g x : List UInt8) : Bool := !decide (g = []) && Vaseda.hasIn g x
def spIsG : Sp := fun vs H Q _ => ∃ (x g : List UInt8), vs = [.str (S x), .str (S g)] ∧ RetV (.bl (isG g x)) H Q
theorem S_nil : S [] = ("" : Str) := rfl
theorem ok_is_g {f : Addr} {fd : FuncData} (F : Fun K "is_guarded" "is_guarded" sIsG f fd) : FnOk P w K mg base CX0 1 f fd ["line", "guarded"] spIsG := by
  refine F.ok sc_is_g (fun vs H Q E h => ?_) (fun cdv A outer s H vs Q E hr h => ⟨_, pss_one (ps_ret (pe_and (pe_cmpR op_ne (pv 1) pe_str (nomark _)) (pe_one (pe_cmpR op_in_str (pv 1) (pv 0) (by rfl))))), ?_⟩)
  · obtain ⟨x, g, rfl, _⟩ := h
    rfl
  · obtain ⟨x, g, rfl, k⟩ := h
    refine ⟨_, rfl, rfl, _, rfl, ?_⟩
    have e0 : decide (V.str (S g) = V.str ("" : Str)) = decide (g = []) := S_dec g []
    rw [e0]
    replace k : RetV (V.bl (!decide (g = []) && Vaseda.hasIn g x)) H Q := k
    by_cases hg : g = []
    · rw [decide_eq_true hg] at k ⊢
      exact iteF (k H (Ex.refl H))
    · rw [decide_eq_false hg] at k ⊢
      refine iteT ⟨_, rfl, _, rfl, _, _, rfl, rfl, ?_⟩
      rw [has_is]
      exact k H (Ex.refl H)
abbrev sHarmed : Stmt := top 88
theorem sc_harmed : FnScope ["passages", "guarded", "passage"] ["passages", "guarded"] (defScope sHarmed) := ⟨rfl, rfl, rfl, by decide +kernel, rfl, by decide +kernel, by decide +kernel⟩
/-- the first guarded line that is harmed, from 1 on; 0: none -/
def harmedBy (g : List UInt8) : Nat → List (List UInt8 × Work) → Nat
  | _, [] => 0
  | n, x :: r => if (Vaseda.hasIn g x.1 && !asFound x.1 x.2) = true then n else harmedBy g (n + 1) r
def harmed (g : List UInt8) (t : List (List UInt8)) (W : List Work) : Nat := if g = [] then 0 else harmedBy g 1 (t.zip W)
def harmedG (g : List UInt8) : Nat → List (List UInt8 × Work) → Nat
  | _, [] => 0
  | n, x :: r => if (isG g x.1 && !asFound x.1 x.2) = true then n else harmedG g (n + 1) r
theorem harmed_is (g : List UInt8) (t : List (List UInt8)) (W : List Work) : harmedG g 1 (t.zip W) = harmed g t W := by
  unfold harmed
  by_cases hg : g = []
  · rw [if_pos hg]
    have h : ∀ (n : Nat) (l : List (List UInt8 × Work)), harmedG g n l = 0 := fun n l => by
      induction l generalizing n with
      | nil => rfl
      | cons x r ih =>
        have e : isG g x.1 = false := by
          unfold isG
          rw [decide_eq_true hg]
          rfl
        show (if (isG g x.1 && !asFound x.1 x.2) = true then n else harmedG g (n + 1) r) = 0
        rw [e, Bool.false_and, if_neg Bool.false_ne_true]
        exact ih (n + 1)
    exact h 1 _
  · rw [if_neg hg]
    have h : ∀ (n : Nat) (l : List (List UInt8 × Work)), harmedG g n l = harmedBy g n l := fun n l => by
      induction l generalizing n with
      | nil => rfl
      | cons x r ih =>
        have e : isG g x.1 = Vaseda.hasIn g x.1 := by
          unfold isG
          rw [decide_eq_false hg]
          exact Bool.true_and _
        show (if (isG g x.1 && !asFound x.1 x.2) = true then n else harmedG g (n + 1) r) = (if (Vaseda.hasIn g x.1 && !asFound x.1 x.2) = true then n else harmedBy g (n + 1) r)
        rw [e, ih (n + 1)]
    exact h 1 _
def spHarmed (CP : Addr) : Sp := fun vs H Q _ => ∃ (pa : Addr) (t : List (List UInt8)) (W : List Work) (g : List UInt8), vs = [.ref pa, .str (S g)] ∧ PassesAt CP H pa t W ∧ RetV (.int (harmed g t W : Nat)) H Q
theorem ok_harmed {f CP : Addr} {fd : FuncData} (F : Fun K "first_harmed" "first_harmed" sHarmed f fd) (TP : TxtPass K CP) (ga : Mn P w K mg base CX0 1 CP "is_as_found" (spPass CP fun x w => .bl (asFound x w))) (gg : Dn P w K mg base CX0 1 "is_guarded" spIsG 2) :
    FnOk P w K mg base CX0 2 f fd ["passages", "guarded"] (spHarmed CP) := by
  refine F.ok sc_harmed (fun vs H Q E h => ?_) (fun cdv A outer s H vs Q E hr h => ⟨_, 
    (pss_cons (ps_for PassesOwn.never rfl (pi_list (pv 0)) (pg_name (i := 2) sc_harmed.nd rfl (.inl rfl))
      (pss_one (ps_if (PW.pt (pw_and (pt_val (pe_dn gg hr pass0 (pa_cons (pe_fld (pv 2) rfl) (pa_cons (pv 1) pa_nil)))) (pw_and1 (pt_not (pt_val (pe_mn0 ga hr pass0 (pv 2))))))) (pss_one (ps_ret (pe_fld (pv 2) rfl))) pss_nil)))
    (pss_one (ps_ret pe_int))), ?_⟩)
  · obtain ⟨pa, t, W, g, rfl, _⟩ := h
    rfl
  · obtain ⟨pa, t, W, g, rfl, hp, k⟩ := h
    obtain ⟨ps, hp1, hp2, hp3, hp4⟩ := hp.ex
    rw [← harmed_is] at k
    refine ⟨_, rfl, pa, rfl, ⟨_, SqL.of hp1⟩, for_list (K := K) (a := pa) (xs := ps) (fun i σ H' => ∃ v : Option V, σ = [some (.ref pa), some (.str (S g)), v] ∧ Ex H H' ∧ harmedG g (i + 1) ((t.zip W).drop i) = harmedG g 1 (t.zip W)) ⟨none, rfl, Ex.refl H, rfl⟩ (fun i σ H' _ ⟨_, _, e, _⟩ => SqL.of (e _ _ hp1)) ?_ ?_⟩
    · rintro i x σ H1 hi ⟨v, rfl, e1, hr1⟩
      have hlt := (List.getElem?_eq_some_iff.mp hi).1
      have h1 : t[i]? = some t[i] := List.getElem?_eq_getElem (by omega)
      have h2 : W[i]? = some W[i] := List.getElem?_eq_getElem (by omega)
      obtain ⟨p, la, lb, q1, q2⟩ := hp4 i _ _ h1 h2
      rw [hi] at q1
      cases q1
      have hz : (t.zip W)[i]? = some (t[i], W[i]) := by
        rw [List.getElem?_zip_eq_some]
        exact ⟨h1, h2⟩
      rw [drop_get hz] at hr1
      have hr1 : (if (isG g t[i] && !asFound t[i] W[i]) = true then i + 1 else harmedG g (i + 1 + 1) ((t.zip W).drop (i + 1))) = harmedG g 1 (t.zip W) := hr1
      have hP := q2.ex e1
      obtain ⟨⟨dp, hpo⟩, _⟩ := id hP
      refine ⟨_, rfl, p, CP, dp, _, _, rfl, hpo, TP.cl, TP.nFound, rfl, _, rfl, _, g, rfl, fun H2 e2 => ⟨_, rfl, ?_⟩⟩
      cases hh : isG g t[i] with
      | false =>
        rw [hh, Bool.false_and, if_neg Bool.false_ne_true] at hr1
        exact iteF (iteF ⟨_, rfl, e1.trans e2, hr1⟩)
      | true =>
        rw [hh, Bool.true_and] at hr1
        refine iteT ⟨_, rfl, p, dp, _, rfl, e2 _ _ hpo, rfl, p, la, lb, i + 1, _, _, rfl, hP.ex e2, fun H3 e3 => ⟨_, rfl, ?_⟩⟩
        cases ha : asFound t[i] W[i] with
        | true =>
          rw [ha, if_neg (by decide)] at hr1
          exact iteF ⟨_, rfl, (e1.trans e2).trans e3, hr1⟩
        | false =>
          rw [ha, if_pos (by decide)] at hr1
          refine iteT ⟨_, rfl, p, CP, dp, _, _, rfl, (e2.trans e3) _ _ hpo, TP.cl, TP.nNumber, rfl, ?_⟩
          rw [← hr1] at k
          exact k H3 ((e1.trans e2).trans e3)
    · rintro σ H1 ⟨v, rfl, e1, hr1⟩
      rw [List.drop_eq_nil_of_le (by rw [List.length_zip]; omega)] at hr1
      rw [← hr1] at k
      exact k H1 e1
end LE

/-! LM: the step against the specification. -/
namespace LE
open Vaseda (Work Out Cmd works worksBy lineRun work)
open Vasedz (Tag tagged tagOut stepBy doesOf guardOff)
/-- what is put has its command -/
def putOk (w : Work) : Prop := (∀ o ∈ w.pre, o.c.isSome = true) ∧ (∀ o ∈ w.post, o.c.isSome = true)
theorem deed_put {k c : Nat} {w : Work} {d : Vaseda.Deed} (h : putOk w) : putOk (Vaseda.deed k c w d) := by
  have app : ∀ (l : List Out) (o : Out), (∀ o ∈ l, o.c.isSome = true) → o.c.isSome = true → ∀ o' ∈ l ++ [o], o'.c.isSome = true := fun l o hl ho o' ho' => by
    rcases List.mem_append.mp ho' with h | h
    · exact hl o' h
    · simp only [List.mem_singleton] at h
      rw [h]
      exact ho
  cases d with
  | before y => exact ⟨app _ _ h.1 rfl, h.2⟩
  | after y => exact ⟨h.1, app _ _ h.2 rfl⟩
  | bring => exact ⟨h.1, app _ _ h.2 rfl⟩
  | _ => exact h
theorem work_put {k : Nat} {last : Bool} {w : Work} {c : Cmd × Nat} (h : putOk w) : putOk (work k last w c) := by
  unfold work
  split
  · exact h
  · split
    · exact h
    · split
      · exact deed_put h
      · exact h
theorem fold_put {k : Nat} {last : Bool} : ∀ (l : List (Cmd × Nat)) (w : Work), putOk w → putOk (l.foldl (work k last) w)
  | [], _, h => h
  | c :: r, w, h => fold_put r _ (work_put h)
theorem works_put (s : List Cmd) : ∀ (t : List (List UInt8)) (k : Nat) (h : List UInt8), ∀ w ∈ worksBy s k h t, putOk w
  | [], _, _, w, hw => by cases hw
  | x :: r, k, h, w, hw => by
    have hw : w ∈ lineRun s k r.isEmpty x h :: worksBy s (k + 1) (lineRun s k r.isEmpty x h).held r := hw
    rcases List.mem_cons.mp hw with rfl | hw
    · exact fold_put _ _ ⟨(fun _ h => nomatch h), (fun _ h => nomatch h)⟩
    · exact works_put s r _ _ w hw
theorem tag_put {l : List Tag} {n : Nat} {o : Out} (h : o.c.isSome = true) : tagOut l n o = putTag n o := by
  unfold tagOut putTag
  cases e : o.c with
  | none => rw [e] at h; cases h
  | some c => rfl
theorem row_is {l : List Tag} {n i : Nat} {g : Tag} {w : Work} (hg : l[i]? = some g) (h : putOk w) : (Vaseda.outOf (i + 1) w).map (tagOut l n) = rowTags n g w := by
  unfold Vaseda.outOf rowTags
  rw [List.map_append, List.map_append]
  congr 1
  · exact List.map_congr_left fun o ho => tag_put (h.1 o ho)
  · congr 1
    · split
      · rfl
      · show [tagOut l n ⟨w.x, i + 1, none⟩] = _
        unfold tagOut
        dsimp only
        rw [Nat.add_sub_cancel, hg]
    · exact List.map_congr_left fun o ho => tag_put (h.2 o ho)
theorem all_is (l0 : List Tag) (n : Nat) : ∀ (l : List Tag) (W : List Work) (i : Nat), l0.drop i = l → l.length = W.length → (∀ w ∈ W, putOk w) → ((W.zipIdx i).flatMap fun w => Vaseda.outOf (w.2 + 1) w.1).map (tagOut l0 n) = allTags n l W
  | [], [], _, _, _, _ => rfl
  | [], _ :: _, _, _, h, _ => by simp at h
  | _ :: _, [], _, _, h, _ => by simp at h
  | g :: l, w :: W, i, hd, hl, hw => by
    have hg : l0[i]? = some g := by
      have := congrArg (fun z => z[0]?) hd
      rw [List.getElem?_drop] at this
      simpa using this
    have hd' : l0.drop (i + 1) = l := by
      have := congrArg (List.drop 1) hd
      rw [List.drop_drop] at this
      simpa using this
    rw [List.zipIdx_cons, List.flatMap_cons, List.map_append, row_is hg (hw w (List.mem_cons_self ..)), all_is l0 n l W (i + 1) hd' (by simpa using hl) (fun v hv => hw v (List.mem_cons_of_mem _ hv))]
    unfold allTags
    rw [List.zip_cons_cons, List.flatMap_cons]
/-- a step of the specification -/
theorem step_none {s : List Cmd} {n : Nat} {l : List Tag} (h : Vaseda.run s (Vasedz.textOf l) = none) : stepBy s n l = none := by
  unfold stepBy
  rw [h]
  rfl
theorem step_some {s : List Cmd} {n : Nat} {l : List Tag} (h1 : (works s (Vasedz.textOf l)).any (fun w => w.bad) = false) (h2 : total (works s (Vasedz.textOf l)) ≤ 60) :
    stepBy s n l = if 24 < (allTags n l (works s (Vasedz.textOf l))).length then none else some (allTags n l (works s (Vasedz.textOf l))) := by
  obtain ⟨r, hr, ho⟩ := run_some h1 h2
  have hl : l.length = (works s (Vasedz.textOf l)).length := by
    rw [show works s (Vasedz.textOf l) = worksBy s 1 [] (Vasedz.textOf l) from rfl, works_len]
    simp [Vasedz.textOf]
  have ha := all_is l n l (works s (Vasedz.textOf l)) 0 rfl hl (works_put s _ 1 [])
  rw [← ho] at ha
  unfold stepBy
  rw [hr]
  show (if Vaseda.LINES < r.outs.length then none else some (r.outs.map (tagOut l n))) = _
  rw [ha]
  have e : r.outs.length = (allTags n l (works s (Vasedz.textOf l))).length := by rw [← ha, List.length_map]
  rw [e]
  rfl
theorem does_is (s : List Cmd) (t : List (List UInt8)) : Vasedz.doesRow (doesOf s t) = (effect t (works s t)).map fun n => ((n : Nat) : Int) := rfl
def gf (g : List UInt8) : (List UInt8 × Work) × Nat → Option Nat := fun x => if (Vaseda.hasIn g x.1.1 && (x.1.2.gone || x.1.2.x != x.1.1)) = true then some (x.2 + 1) else none
theorem gf_is (g : List UInt8) (x : List UInt8 × Work) (n : Nat) : gf g (x, n) = if (Vaseda.hasIn g x.1 && !asFound x.1 x.2) = true then some (n + 1) else none := by
  have e : (x.2.gone || x.2.x != x.1) = !asFound x.1 x.2 := by
    unfold asFound
    cases x.2.gone <;> cases h : (x.2.x == x.1) <;> simp [bne, h]
  rw [← e]
  rfl
theorem harmed_find (g : List UInt8) : ∀ (z : List (List UInt8 × Work)) (n : Nat), ((z.zipIdx n).findSome? (gf g)).getD 0 = harmedBy g (n + 1) z ∧ (((z.zipIdx n).findSome? (gf g)).isSome = true ↔ 0 < harmedBy g (n + 1) z)
  | [], n => ⟨rfl, by show (false = true ↔ 0 < 0); simp⟩
  | x :: r, n => by
    have ih := harmed_find g r (n + 1)
    have eh : harmedBy g (n + 1) (x :: r) = if (Vaseda.hasIn g x.1 && !asFound x.1 x.2) = true then n + 1 else harmedBy g (n + 1 + 1) r := rfl
    rw [List.zipIdx_cons, List.findSome?_cons, gf_is, eh]
    by_cases c : (Vaseda.hasIn g x.1 && !asFound x.1 x.2) = true
    · rw [if_pos c, if_pos c]
      exact ⟨rfl, by simp⟩
    · rw [if_neg c, if_neg c]
      exact ih
theorem guard_is (s : List Cmd) (t : List (List UInt8)) (g : List UInt8) : (guardOff s t g).getD 0 = harmed g t (works s t) ∧ ((guardOff s t g).isSome = true ↔ 0 < harmed g t (works s t)) := by
  unfold guardOff harmed
  cases g with
  | nil =>
    rw [if_pos (show ([] : List UInt8).isEmpty = true from rfl), if_pos rfl]
    exact ⟨rfl, by simp⟩
  | cons c r =>
    rw [if_neg (show ¬ (c :: r).isEmpty = true from Bool.false_ne_true), if_neg (by simp)]
    exact harmed_find (c :: r) (t.zip (works s t)) 0
end LE

/-! LSs: the object of the calls. -/
namespace LE
open PySem PySem.Spec PyProof.Rows L2 Evl
open VasedBase (isLetter isDigit)
open Vaseda (Cmd)
open Vasedz (Held Tag Tagged stepBy guardOff doesOf doesRow tagged)
variable {P : Program} {w : World} {K : PySem.W.Frag} {mg : Str → Option Value} {base : Heap}
def sF (vl ul : Addr) (g : List UInt8) : List (Str × V) := [("versions", .ref vl), ("undone", .ref ul), ("guarded", .str (S g))]
def vers : Option Held → List Tagged
  | none => []
  | some z => z.past.reverse ++ [z.now]
def und : Option Held → List Tagged
  | none => []
  | some z => z.future.reverse
def grd : Option Held → List UInt8
  | none => []
  | some z => z.guard
/-- versions stand in the list at a, none of their lists among F -/
def VersAt (CV : Addr) (F : List Addr) (H : Hp) (a : Addr) (ts : List Tagged) : Prop := ∃ ps : List Addr, H a = some (.lst (ps.map V.ref)) ∧ ps.length = ts.length ∧ ∀ (i : Nat) (p : Addr) (t : Tagged), ps[i]? = some p → ts[i]? = some t → ∃ va vb, VerX CV H p va vb t ∧ va ∉ F ∧ vb ∉ F
/-- the object at ss -/
structure SesAt (CS CV : Addr) (X : List Addr) (H : Hp) (ss vl ul : Addr) (o : Option Held) : Prop where
  ob : ∃ dx, H ss = some (.ins CS dx (sF vl ul (grd o)))
  vs : VersAt CV (ss :: vl :: ul :: X) H vl (vers o)
  us : VersAt CV (ss :: vl :: ul :: X) H ul (und o)
  ne : vl ≠ ul
  al : ∀ c ∈ X, ∃ u, H c = some u
theorem VersAt.ex {CV : Addr} {F : List Addr} {H H' : Hp} {a : Addr} {ts : List Tagged} (h : VersAt CV F H a ts) (e : Ex H H') : VersAt CV F H' a ts := by
  obtain ⟨ps, h1, h2, h3⟩ := h
  exact ⟨ps, e _ _ h1, h2, fun i p t a b => let ⟨va, vb, z, n1, n2⟩ := h3 i p t a b; ⟨va, vb, z.of e, n1, n2⟩⟩
theorem SesAt.ex {CS CV : Addr} {H H' : Hp} {ss vl ul : Addr} {o : Option Held} (h : SesAt CS CV X H ss vl ul o) (e : Ex H H') : SesAt CS CV X H' ss vl ul o := by
  obtain ⟨dx, h1⟩ := h.ob
  exact ⟨⟨dx, e _ _ h1⟩, h.vs.ex e, h.us.ex e, h.ne, fun c hc => let ⟨u, hu⟩ := h.al c hc; ⟨u, e _ _ hu⟩⟩
/-- what a text may be -/
def okText (t : List (List UInt8)) : Prop := t.length ≤ 24 ∧ ∀ x ∈ t, x.length ≤ 16
structure Wf (z : Held) : Prop where
  now : okText (Vasedz.textOf z.now)
  past : ∀ t ∈ z.past, okText (Vasedz.textOf t)
  fut : ∀ t ∈ z.future, okText (Vasedz.textOf t)
  n : z.past.length + z.future.length ≤ 20
  g : z.guard.length ≤ 16
structure TxtSes (K : PySem.W.Frag) (mg : Str → Option Value) (CS CV : Addr) : Prop where
  cl : Cls K CS
  nV : NoAttr K CS "versions"
  nU : NoAttr K CS "undone"
  nG : NoAttr K CS "guarded"
  tv : TxtVer K mg CV
  len : mg "len" = none
theorem vers_len {z : Held} : (vers (some z)).length = z.past.length + 1 := by
  show (z.past.reverse ++ [z.now]).length = _
  rw [List.length_append, List.length_reverse, List.length_singleton]
theorem vers_last {z : Held} : (vers (some z))[z.past.length]? = some z.now := by
  show (z.past.reverse ++ [z.now])[z.past.length]? = _
  rw [List.getElem?_append_right (by rw [List.length_reverse]; exact Nat.le_refl _), List.length_reverse, Nat.sub_self]
  rfl
/-! ### has_text, now, how_many_steps -/
abbrev sHas : Stmt := inClass (top 91) 1
theorem sc_has : FnScope ["self"] ["self"] (defScope sHas) := ⟨rfl, rfl, rfl, by decide +kernel, rfl, by decide +kernel, by decide +kernel⟩
def spHas (CS CV : Addr) : Sp := fun vs H Q _ => ∃ (X : List Addr) (ss vl ul : Addr) (o : Option Held), vs = [.ref ss] ∧ SesAt CS CV X H ss vl ul o ∧ RetV (.bl o.isSome) H Q
theorem ok_has {f CS CV : Addr} {fd : FuncData} (F : Fun K "has_text" "Session.has_text" sHas f fd) (T : TxtSes K mg CS CV) : FnOk P w K mg base CX0 1 f fd ["self"] (spHas CS CV) := by
  refine F.ok sc_has (fun vs H Q E h => ?_) (fun cdv A outer s H vs Q E hr h => ⟨_, pss_one (ps_ret (pe_cmpR op_gt (pe_callB call_len_seq (by rfl) T.len PySem.boot_len (pa_cons (pe_fld (pv 0) rfl) pa_nil)) pe_int (nomark _))), ?_⟩)
  · obtain ⟨X, ss, vl, ul, o, rfl, _⟩ := h
    rfl
  · obtain ⟨X, ss, vl, ul, o, rfl, hS, k⟩ := h
    obtain ⟨dx, h1⟩ := hS.ob
    obtain ⟨ps, h2, h3, _⟩ := hS.vs
    refine ⟨_, rfl, ss, CS, dx, _, _, rfl, h1, T.cl, T.nV, rfl, vl, _, rfl, .inl (SqL.of h2), _, _, rfl, rfl, ?_⟩
    rw [List.length_map, h3]
    cases o with
    | none => exact k H (Ex.refl H)
    | some z =>
      rw [vers_len]
      have e : decide ((0 : Int) < ((z.past.length + 1 : Nat) : Int)) = true := decide_eq_true (by omega)
      show Q (.bl (decide ((0 : Int) < ((z.past.length + 1 : Nat) : Int)))) H
      rw [e]
      exact k H (Ex.refl H)
abbrev sNow : Stmt := inClass (top 91) 2
theorem sc_now : FnScope ["self"] ["self"] (defScope sNow) := ⟨rfl, rfl, rfl, by decide +kernel, rfl, by decide +kernel, by decide +kernel⟩
def spNow (CS CV : Addr) : Sp := fun vs H Q _ => ∃ (X : List Addr) (ss vl ul : Addr) (z : Held), vs = [.ref ss] ∧ SesAt CS CV X H ss vl ul (some z) ∧ ∀ H' p va vb, Ex H H' → VerX CV H' p va vb z.now → va ∉ ss :: vl :: ul :: X → vb ∉ ss :: vl :: ul :: X → Q (.ref p) H'
theorem ok_now {f CS CV : Addr} {fd : FuncData} (F : Fun K "now" "Session.now" sNow f fd) (T : TxtSes K mg CS CV) : FnOk P w K mg base CX0 1 f fd ["self"] (spNow CS CV) := by
  refine F.ok sc_now (fun vs H Q E h => ?_) (fun cdv A outer s H vs Q E hr h => ⟨_, pss_one (ps_ret (pe_ix ix_list (pe_fld (pv 0) rfl) (pe_op op_sub (pe_callB call_len_seq (by rfl) T.len PySem.boot_len (pa_cons (pe_fld (pv 0) rfl) pa_nil)) pe_int) (fun _ _ => rfl))), ?_⟩)
  · obtain ⟨X, ss, vl, ul, z, rfl, _⟩ := h
    rfl
  · obtain ⟨X, ss, vl, ul, z, rfl, hS, k⟩ := h
    obtain ⟨dx, h1⟩ := hS.ob
    obtain ⟨ps, h2, h3, h4⟩ := hS.vs
    rw [vers_len] at h3
    obtain ⟨p, hp⟩ : ∃ p, ps[z.past.length]? = some p := ⟨_, List.getElem?_eq_getElem (by omega)⟩
    obtain ⟨va, vb, hv, n1, n2⟩ := h4 _ _ _ hp vers_last
    refine ⟨_, rfl, ss, CS, dx, _, _, rfl, h1, T.cl, T.nV, rfl, _, rfl, ss, CS, dx, _, _, rfl, h1, T.cl, T.nV, rfl, vl, _, rfl, .inl (SqL.of h2), _, _, rfl, rfl, ?_⟩
    refine ⟨vl, _, _, .ref p, rfl, rfl, SqL.of h2, ?_, k H p va vb (Ex.refl H) hv n1 n2⟩
    rw [List.length_map, h3]
    have e : ((z.past.length + 1 : Nat) : Int) - 1 = (z.past.length : Nat) := by omega
    rw [e]
    exact atI_nat (by rw [List.getElem?_map, hp]; rfl)
abbrev sSteps : Stmt := inClass (top 91) 3
theorem sc_steps : FnScope ["self"] ["self"] (defScope sSteps) := ⟨rfl, rfl, rfl, by decide +kernel, rfl, by decide +kernel, by decide +kernel⟩
def spSteps (CS CV : Addr) : Sp := fun vs H Q _ => ∃ (X : List Addr) (ss vl ul : Addr) (z : Held), vs = [.ref ss] ∧ SesAt CS CV X H ss vl ul (some z) ∧ RetV (.int (z.past.length : Nat)) H Q
theorem ok_steps {f CS CV : Addr} {fd : FuncData} (F : Fun K "how_many_steps" "Session.how_many_steps" sSteps f fd) (T : TxtSes K mg CS CV) : FnOk P w K mg base CX0 1 f fd ["self"] (spSteps CS CV) := by
  refine F.ok sc_steps (fun vs H Q E h => ?_) (fun cdv A outer s H vs Q E hr h => ⟨_, pss_one (ps_ret (pe_op op_sub (pe_callB call_len_seq (by rfl) T.len PySem.boot_len (pa_cons (pe_fld (pv 0) rfl) pa_nil)) pe_int)), ?_⟩)
  · obtain ⟨X, ss, vl, ul, z, rfl, _⟩ := h
    rfl
  · obtain ⟨X, ss, vl, ul, z, rfl, hS, k⟩ := h
    obtain ⟨dx, h1⟩ := hS.ob
    obtain ⟨ps, h2, h3, _⟩ := hS.vs
    refine ⟨_, rfl, ss, CS, dx, _, _, rfl, h1, T.cl, T.nV, rfl, vl, _, rfl, .inl (SqL.of h2), _, _, rfl, rfl, ?_⟩
    rw [List.length_map, h3, vers_len]
    have e : ((z.past.length + 1 : Nat) : Int) - 1 = (z.past.length : Nat) := by omega
    show Q (.int (((z.past.length + 1 : Nat) : Int) - 1)) H
    rw [e]
    exact k H (Ex.refl H)
/-! ### where_it_stands -/
abbrev sWhere : Stmt := inClass (top 91) 10
theorem sc_where : FnScope ["self"] ["self"] (defScope sWhere) := ⟨rfl, rfl, rfl, by decide +kernel, rfl, by decide +kernel, by decide +kernel⟩
def spWhere (CS CV : Addr) : Sp := fun vs H Q _ => ∃ (X : List Addr) (ss vl ul : Addr) (z : Held), vs = [.ref ss] ∧ SesAt CS CV X H ss vl ul (some z) ∧ RetL [.int 1, .int (z.now.length : Nat), .int (z.past.length : Nat)] H Q
structure SesM (P : Program) (w : World) (K : PySem.W.Frag) (mg : Str → Option Value) (base : Heap) (CS CV : Addr) : Prop where
  t : TxtSes K mg CS CV
  now : Mn P w K mg base CX0 1 CS "now" (spNow CS CV)
  steps : Mn P w K mg base CX0 1 CS "how_many_steps" (spSteps CS CV)
theorem text_len (l : Tagged) : (tv (Vasedz.textOf l)).length = l.length := by simp [tv, Vasedz.textOf]
theorem ok_where {f CS CV : Addr} {fd : FuncData} (F : Fun K "where_it_stands" "Session.where_it_stands" sWhere f fd) (M : SesM P w K mg base CS CV) : FnOk P w K mg base CX0 2 f fd ["self"] (spWhere CS CV) := by
  refine F.ok sc_where (fun vs H Q E h => ?_) (fun cdv A outer s H vs Q E hr h => ⟨_, pss_one (ps_ret (pe_lst (pa_cons pe_int (pa_cons (pe_callB call_len_seq (by rfl) M.t.len PySem.boot_len (pa_cons (pe_fld (pe_mn0 M.now hr pass0 (pv 0)) rfl) pa_nil)) (pa_cons (pe_mn0 M.steps hr pass0 (pv 0)) pa_nil))))), ?_⟩)
  · obtain ⟨X, ss, vl, ul, z, rfl, _⟩ := h
    rfl
  · obtain ⟨X, ss, vl, ul, z, rfl, hS, k⟩ := h
    obtain ⟨dx, h1⟩ := hS.ob
    refine ⟨_, rfl, ss, dx, _, rfl, h1, rfl, X, ss, vl, ul, z, rfl, hS, fun H1 p va vb e1 hv n1 n2 => ?_⟩
    obtain ⟨dv, os, v1, v2, v3, v4⟩ := hv.ex
    refine ⟨p, CV, dv, _, _, rfl, v1, M.t.tv.cl, M.t.tv.nLines, rfl, va, _, rfl, .inl (SqL.of v2), ?_⟩
    rw [text_len]
    refine ⟨_, rfl, ss, dx, _, rfl, e1 _ _ h1, rfl, X, ss, vl, ul, z, rfl, hS.ex e1, fun H2 e2 => ?_⟩
    refine ⟨by show 3 ≤ sizeLine; decide, fun q hq => k q _ (fresh_back (e1.trans e2) hq) ((e1.trans e2).trans (Ex.new hq)) upd_same⟩
end LE

/-! LS2: load, undo, redo. -/
namespace LE
open PySem PySem.Spec PyProof.Rows L2 Evl
open VasedBase (isLetter isDigit)
open Vaseda (Cmd)
open Vasedz (Held Tag Tagged stepBy guardOff doesOf doesRow tagged)
variable {P : Program} {w : World} {K : PySem.W.Frag} {mg : Str → Option Value} {base : Heap}
/-- no tuple stands in F -/
def NoTup (F : List Addr) (H : Hp) : Prop := ∀ c ∈ F, ∀ xs, H c ≠ some (.tup xs)
theorem VerX.but {CV : Addr} {F : List Addr} {H H' : Hp} {v a b : Addr} {l : List Tag} (h : VerX CV H v a b l) (e : But F H H') (hv : v ∉ F) (ha : a ∉ F) (hb : b ∉ F) (ht : NoTup F H) : VerX CV H' v a b l := by
  obtain ⟨dx, os, h1, h2, h3, h4⟩ := h.ex
  refine ⟨⟨dx, os, e _ _ h1 hv, e _ _ h2 ha, e _ _ h3 hb, h4.len, fun i g hg => ?_⟩⟩
  obtain ⟨r, q1, q2⟩ := h4.at_ i g hg
  exact ⟨r, q1, e _ _ q2 fun z => ht r z _ q2⟩
/-- what a call leaves of the object, and what it gives -/
def SesRet (CS CV : Addr) (X : List Addr) (H : Hp) (ss vl ul : Addr) (o' : Option Held) (ans : List V) (Q : VK) : Prop := ∀ H' vl' ul' p, SesAt CS CV X H' ss vl' ul' o' → (vl' ∈ [vl, ul] ∨ H vl' = none) → (ul' ∈ [vl, ul] ∨ H ul' = none) → But [ss, vl, ul] H H' → H p = none → H' p = some (.lst ans) → Q (.ref p) H'
theorem SesAt.noTup {CS CV : Addr} {H : Hp} {ss vl ul : Addr} {o : Option Held} (h : SesAt CS CV X H ss vl ul o) : NoTup [ss, vl, ul] H := by
  obtain ⟨dx, h1⟩ := h.ob
  obtain ⟨ps, h2, _⟩ := h.vs
  obtain ⟨qs, h3, _⟩ := h.us
  intro c hc xs e
  simp only [List.mem_cons, List.not_mem_nil, or_false] at hc
  rcases hc with rfl | rfl | rfl
  · rw [h1] at e; cases e
  · rw [h2] at e; cases e
  · rw [h3] at e; cases e
theorem SesAt.nes {CS CV : Addr} {H : Hp} {ss vl ul : Addr} {o : Option Held} (h : SesAt CS CV X H ss vl ul o) : vl ≠ ss ∧ ul ≠ ss := by
  obtain ⟨dx, h1⟩ := h.ob
  obtain ⟨ps, h2, _⟩ := h.vs
  obtain ⟨qs, h3, _⟩ := h.us
  exact ⟨ne_of h2 h1 (fun z => by cases z), ne_of h3 h1 (fun z => by cases z)⟩
theorem al_but {X F : List Addr} {H H' : Hp} (al : ∀ c ∈ X, ∃ u, H c = some u) (b : But F H H') (hF : ∀ c ∈ F, ∃ u, H' c = some u) : ∀ c ∈ X, ∃ u, H' c = some u := fun c hc => by
  obtain ⟨u, hu⟩ := al c hc
  by_cases hm : c ∈ F
  · exact hF c hm
  · exact ⟨u, b _ _ hu hm⟩
theorem VersAt.got {CV : Addr} {F : List Addr} {H : Hp} {a : Addr} {ts : List Tagged} (h : VersAt CV F H a ts) : ∃ u, H a = some u := by
  obtain ⟨ps, h1, _⟩ := h
  exact ⟨_, h1⟩
theorem al_three {X : List Addr} {ss vl ul : Addr} {H H' : Hp} (al : ∀ c ∈ X, ∃ u, H c = some u) (b : But [ss, vl, ul] H H') (h1 : ∃ u, H' ss = some u) (h2 : ∃ u, H' vl = some u) (h3 : ∃ u, H' ul = some u) : ∀ c ∈ X, ∃ u, H' c = some u :=
  al_but al b fun c hc => by
    simp only [List.mem_cons, List.not_mem_nil, or_false] at hc
    rcases hc with rfl | rfl | rfl
    · exact h1
    · exact h2
    · exact h3
theorem VersAt.nil {CV : Addr} {F : List Addr} {H : Hp} {a : Addr} (h : H a = some (.lst [])) : VersAt CV F H a [] := ⟨[], h, rfl, fun i p t hp => by simp at hp⟩
/-! ### load -/
abbrev sLoad : Stmt := inClass (top 91) 4
theorem sc_load : FnScope ["self", "row", "lines"] ["self", "row"] (defScope sLoad) := ⟨rfl, rfl, rfl, by decide +kernel, rfl, by decide +kernel, by decide +kernel⟩
def loaded (t : List (List UInt8)) : Held := ⟨tagged t, [], [], []⟩
def spLoad (K : PySem.W.Frag) (CS CV NR : Addr) : Sp := fun vs H Q E => ∃ (X : List Addr) (ss vl ul a : Addr) (o : Option Held) (b : List UInt8), vs = [.ref ss, .ref a] ∧ SesAt CS CV X H ss vl ul o ∧ SqL K H a (ib b) ∧ b.length ≤ 10000 ∧ (Vaseda.readText b = none → ∀ H', Ex H H' → E (.ref NR) none H') ∧
  (∀ t, Vaseda.readText b = some t → SesRet CS CV X H ss vl ul (some (loaded t)) [.int 1, .int (t.length : Nat)] Q)
theorem read_len {b : List UInt8} {t : List (List UInt8)} (h : Vaseda.readText b = some t) : t.length ≤ 24 ∧ ∀ x ∈ t, x.length ≤ 16 := by
  unfold Vaseda.readText at h
  cases e : Vaseda.textOf b with
  | none => rw [e] at h; cases h
  | some t0 =>
    rw [e] at h
    have h' : (if Vaseda.LINES < t0.length ∨ t0.any (fun x => decide (Vaseda.LONG < x.length)) = true then none else some t0) = some t := h
    by_cases c : Vaseda.LINES < t0.length ∨ t0.any (fun x => decide (Vaseda.LONG < x.length)) = true
    · rw [if_pos c] at h'
      cases h'
    · rw [if_neg c] at h'
      obtain rfl : t0 = t := Option.some.inj h'
      have c1 := fun z => c (.inl z)
      have c2 := fun z => c (.inr z)
      refine ⟨Nat.le_of_not_lt c1, fun x hx => Nat.le_of_not_lt fun z => c2 ?_⟩
      rw [List.any_eq_true]
      exact ⟨x, hx, decide_eq_true z⟩
theorem ok_load {f CS CV NR : Addr} {fd : FuncData} (F : Fun K "load" "Session.load" sLoad f fd) (T : TxtSes K mg CS CV) (gl : Dn P w K mg base (L2.CX P w) 3 "lines_of" (spLinesOf K NR) 1) (gf : Dn P w K mg base CX0 3 "first_version" (spFirstVer CV) 1) :
    FnOk P w K mg base (L2.CX P w) 4 f fd ["self", "row"] (spLoad K CS CV NR) := by
  refine F.okX sc_load (fun vs H Q E h => ?_) (fun cdv A outer s H vs Q E hr h => ⟨_, pss_cons (ps_set (i := 2) sc_load.nd rfl (.inl rfl) (pe_dn gl hr (pass1 rfl rfl rfl rfl) (pa_cons (pv 1) pa_nil)))
    (pss_cons (ps_fld (pv 0) (pe_lst (pa_cons (pe_dn gf hr pass0 (pa_cons (pv 2) pa_nil)) pa_nil)) rfl) (pss_cons (ps_fld (pv 0) (pe_lst pa_nil) rfl) (pss_cons (ps_fld (pv 0) pe_str rfl)
    (pss_one (ps_ret (pe_lst (pa_cons pe_int (pa_cons (pe_callB call_len_seq (by rfl) T.len PySem.boot_len (pa_cons (pv 2) pa_nil)) pa_nil)))))))), ?_⟩)
  · obtain ⟨X, ss, vl, ul, a, o, b, rfl, _⟩ := h
    rfl
  · obtain ⟨X, ss, vl, ul, a, o, b, rfl, hS, hb, hz, kE, k⟩ := h
    obtain ⟨dx, h1⟩ := hS.ob
    refine ⟨_, rfl, a, b, rfl, hb, hz, kE, fun t ht a0 H1 na0 e1 ha0 => ?_⟩
    obtain ⟨hl24, _⟩ := read_len ht
    refine ⟨_, rfl, a0, t, rfl, ha0, by omega, fun v b0 H2 nv nb0 e2 hv => ?_⟩
    have h12 := e2 _ _ (e1 _ _ h1)
    have v2 := hv.ex
    refine ⟨by show 1 ≤ sizeLine; decide, fun vl' nvl => ⟨_, rfl, ss, CS, dx, _, rfl, Ex.new nvl _ _ h12, T.cl, T.nV, by show 3 < 1000; decide, ?_⟩⟩
    have nvs : ss ≠ vl' := ne_of_none h12 nvl
    refine ⟨Nat.zero_le _, fun ul' nul => ?_⟩
    have nul1 : ul' ≠ ss := (upd_none' nul).1
    have nul2 := (upd_none' nul).2
    have nul3 : ul' ≠ vl' := (upd_none' nul2).1
    have nul4 : H2 ul' = none := (upd_none' nul2).2
    refine ⟨_, rfl, ss, CS, dx, _, rfl, Ex.new nul _ _ upd_same, T.cl, T.nU, by show 3 < 1000; decide, ?_⟩
    refine ⟨_, rfl, ss, CS, dx, _, rfl, upd_same, T.cl, T.nG, by show 3 < 1000; decide, ?_⟩
    rw [upd_upd]
    have bb : But [ss] H2 (upd (upd (upd (upd H2 vl' (.lst [.ref v])) ss (.ins CS dx (putF "versions" (.ref vl') (sF vl ul (grd o))))) ul' (.lst [])) ss (.ins CS dx (putF "guarded" (.str "") (putF "undone" (.ref ul') (putF "versions" (.ref vl') (sF vl ul (grd o))))))) :=
      ((((But.of (Ex.new nvl)).upd (by simp)).trans (But.of (Ex.new nul))).upd (by simp))
    have eF : putF "guarded" (.str "") (putF "undone" (.ref ul') (putF "versions" (.ref vl') (sF vl ul (grd o)))) = sF vl' ul' (grd (some (loaded t))) := rfl
    rw [eF] at bb ⊢
    generalize hG : upd (upd (upd (upd H2 vl' (.lst [.ref v])) ss (.ins CS dx (putF "versions" (.ref vl') (sF vl ul (grd o))))) ul' (.lst [])) ss (.ins CS dx (sF vl' ul' (grd (some (loaded t))))) = H3 at bb
    have g1 : H3 ss = some (.ins CS dx (sF vl' ul' (grd (some (loaded t))))) := by rw [← hG]; exact upd_same
    have g2 : H3 ul' = some (.lst []) := by rw [← hG, upd_ne nul1]; exact upd_same
    have g3 : H3 vl' = some (.lst [.ref v]) := by rw [← hG, upd_ne (Ne.symm nvs), upd_ne (Ne.symm nul3), upd_ne (Ne.symm nvs)]; exact upd_same
    have ha3 := bb a0 _ (e2 _ _ ha0) (by have : a0 ≠ ss := ne_of ha0 (e1 _ _ h1) (fun z => by cases z); simpa using this)
    refine ⟨_, rfl, a0, _, rfl, .inl (SqL.of ha3), ?_⟩
    rw [tv_len]
    refine ⟨by show 2 ≤ sizeLine; decide, fun p np => ?_⟩
    have np2 : H2 p = none := by
      cases z : H2 p with
      | none => rfl
      | some u =>
        by_cases hp : p = ss
        · rw [hp, g1] at np; cases np
        · rw [bb p u z (by simpa using hp)] at np; cases np
    obtain ⟨dv, os, w1, w2, w3, w4⟩ := v2
    have e12 := e1.trans e2
    have back : ∀ {c : Addr}, H2 c = none → H c = none := fun hc => fresh_back e12 hc
    have nF : ∀ {c : Addr} {u : HO}, H2 c = some u → c ≠ ss → c ∉ X → c ∉ ss :: vl' :: ul' :: X := fun {c u} hc hn hX => by
      simp only [List.mem_cons, not_or]
      exact ⟨hn, ne_of_none hc nvl, ne_of_none hc nul4, hX⟩
    have nX : ∀ {c : Addr}, H c = none → c ∉ X := fun {c} hc hm => by
      obtain ⟨u, hu⟩ := hS.al c hm
      rw [hu] at hc
      cases hc
    have va : a0 ∉ ss :: vl' :: ul' :: X := nF (e2 _ _ ha0) (ne_of ha0 (e1 _ _ h1) fun z => by cases z) (nX na0)
    have vb : b0 ∉ ss :: vl' :: ul' :: X := nF w3 (ne_of w3 h12 fun z => by cases z) (nX (fresh_back e1 nb0))
    have vv : v ≠ ss := by
      rintro rfl
      rw [w1] at h12
      cases h12
    have hv3 : VerX CV H3 v a0 b0 (tagged t) := hv.but bb (by simpa using vv) (by have := ne_of ha0 (e1 _ _ h1) (fun z => by cases z); simpa using this) (by have := ne_of w3 h12 (fun z => by cases z); simpa using this) fun c hc xs e => by
      rw [mem1 hc, h12] at e
      cases e
    refine k t ht _ vl' ul' p (SesAt.ex ⟨⟨dx, g1⟩, ⟨[v], g3, rfl, fun i q t' hq ht' => ?_⟩, VersAt.nil g2, Ne.symm nul3, al_but (F := [ss]) hS.al ((But.of e12).trans bb) fun c hc => ⟨_, (congrArg H3 (mem1 hc)).trans g1⟩⟩ (Ex.new np)) (.inr (back nvl)) (.inr (back nul4)) ?_ (back np2) upd_same
    · cases i with
      | zero =>
        cases hq
        cases ht'
        exact ⟨a0, b0, hv3, va, vb⟩
      | succ i => simp at hq
    · exact (((But.of e12).trans (fun c u hc hn => bb c u hc (by simpa using fun z => hn (by rw [z]; simp)))).trans (But.of (Ex.new np)))
end LE

/-! LS3: undo, redo. -/
namespace LE
open PySem PySem.Spec PyProof.Rows L2 Evl
open VasedBase (isLetter isDigit)
open Vaseda (Cmd)
open Vasedz (Held Tag Tagged stepBy guardOff doesOf doesRow tagged)
variable {P : Program} {w : World} {K : PySem.W.Frag} {mg : Str → Option Value} {base : Heap}
/-- a list of the object's own is written -/
theorem VerX.lst {CV : Addr} {H : Hp} {v a b c : Addr} {l : List Tag} {xs ys : List V} (h : VerX CV H v a b l) (hc : H c = some (.lst xs)) (ha : a ≠ c) (hb : b ≠ c) : VerX CV (L2.upd H c (.lst ys)) v a b l := by
  have bb : But [c] H (L2.upd H c (.lst ys)) := (But.of (Ex.refl H)).upd (by simp)
  obtain ⟨dx, os, h1, _⟩ := h.ex
  refine h.but bb (by have := ne_of h1 hc (fun z => by cases z); simpa using this) (by simpa using ha) (by simpa using hb) fun d hd zs e => ?_
  rw [mem1 hd, hc] at e
  cases e
theorem VersAt.lst {CV : Addr} {F : List Addr} {H : Hp} {a c : Addr} {ts : List Tagged} {xs ys : List V} (h : VersAt CV F H a ts) (hc : H c = some (.lst xs)) (hF : c ∈ F) (hac : a ≠ c) : VersAt CV F (L2.upd H c (.lst ys)) a ts := by
  obtain ⟨ps, h1, h2, h3⟩ := h
  refine ⟨ps, by rw [upd_ne hac]; exact h1, h2, fun i p t hp ht => ?_⟩
  obtain ⟨va, vb, z, n1, n2⟩ := h3 i p t hp ht
  exact ⟨va, vb, z.lst hc (fun e => n1 (e ▸ hF)) (fun e => n2 (e ▸ hF)), n1, n2⟩
theorem VersAt.pop {CV : Addr} {F : List Addr} {H : Hp} {a : Addr} {ts : List Tagged} {t : Tagged} (h : VersAt CV F H a (ts ++ [t])) (hF : a ∈ F) : ∃ (xs : List V) (p va vb : Addr), H a = some (.lst xs) ∧ xs[xs.length - 1]? = some (.ref p) ∧ VerX CV H p va vb t ∧ va ∉ F ∧ vb ∉ F ∧ VersAt CV F (L2.upd H a (.lst xs.dropLast)) a ts := by
  obtain ⟨ps, h1, h2, h3⟩ := h
  rw [List.length_append, List.length_singleton] at h2
  obtain ⟨p, hp⟩ : ∃ p, ps[ts.length]? = some p := ⟨_, List.getElem?_eq_getElem (by omega)⟩
  obtain ⟨va, vb, z, n1, n2⟩ := h3 _ p t hp (by rw [List.getElem?_append_right (Nat.le_refl _), Nat.sub_self]; rfl)
  refine ⟨ps.map V.ref, p, va, vb, h1, ?_, z, n1, n2, ps.dropLast, ?_, by rw [List.length_dropLast]; omega, fun i q t' hq ht' => ?_⟩
  · rw [List.length_map, h2, Nat.add_sub_cancel, List.getElem?_map, hp]
    rfl
  · rw [upd_same, List.map_dropLast]
  · have hi : i < ps.length - 1 := by
      have := (List.getElem?_eq_some_iff.mp hq).1
      rwa [List.length_dropLast] at this
    rw [List.getElem?_dropLast, if_pos hi] at hq
    obtain ⟨wa, wb, y, m1, m2⟩ := h3 i q t' hq (by rw [List.getElem?_append_left (by omega)]; exact ht')
    exact ⟨wa, wb, y.lst h1 (fun e => m1 (e ▸ hF)) (fun e => m2 (e ▸ hF)), m1, m2⟩
theorem VersAt.add {CV : Addr} {F : List Addr} {H : Hp} {a p va vb : Addr} {ts : List Tagged} {t : Tagged} (h : VersAt CV F H a ts) (hF : a ∈ F) (hv : VerX CV H p va vb t) (n1 : va ∉ F) (n2 : vb ∉ F) : ∃ xs : List V, H a = some (.lst xs) ∧ xs.length = ts.length ∧ VersAt CV F (L2.upd H a (.lst (xs ++ [.ref p]))) a (ts ++ [t]) := by
  obtain ⟨ps, h1, h2, h3⟩ := h
  refine ⟨ps.map V.ref, h1, by rw [List.length_map]; exact h2, ps ++ [p], ?_, by simp [h2], fun i q t' hq ht' => ?_⟩
  · rw [upd_same, List.map_append]
    rfl
  · by_cases hi : i < ps.length
    · rw [List.getElem?_append_left hi] at hq
      rw [List.getElem?_append_left (by omega)] at ht'
      obtain ⟨wa, wb, y, m1, m2⟩ := h3 i q t' hq ht'
      exact ⟨wa, wb, y.lst h1 (fun e => m1 (e ▸ hF)) (fun e => m2 (e ▸ hF)), m1, m2⟩
    · rw [List.getElem?_append_right (by omega)] at hq ht'
      rw [h2] at hq
      by_cases h0 : i - ts.length = 0
      · rw [h0] at hq ht'
        cases hq
        cases ht'
        exact ⟨va, vb, hv.lst h1 (fun e => n1 (e ▸ hF)) (fun e => n2 (e ▸ hF)), n1, n2⟩
      · rw [List.getElem?_eq_none (by simp; omega)] at hq
        cases hq
def undone (z : Held) (l : Tagged) (r : List Tagged) : Held := { z with now := l, past := r, future := z.now :: z.future }
def redone (z : Held) (l : Tagged) (r : List Tagged) : Held := { z with now := l, past := z.now :: z.past, future := r }
abbrev sUndo : Stmt := inClass (top 91) 8
abbrev sRedo : Stmt := inClass (top 91) 9
theorem sc_undo : FnScope ["self"] ["self"] (defScope sUndo) := ⟨rfl, rfl, rfl, by decide +kernel, rfl, by decide +kernel, by decide +kernel⟩
theorem sc_redo : FnScope ["self"] ["self"] (defScope sRedo) := ⟨rfl, rfl, rfl, by decide +kernel, rfl, by decide +kernel, by decide +kernel⟩
def ans3 (l : Tagged) (n : Nat) : List V := [.int 1, .int (l.length : Nat), .int (n : Nat)]
def spUndo (CS CV NS : Addr) : Sp := fun vs H Q E => ∃ (X : List Addr) (ss vl ul : Addr) (z : Held), vs = [.ref ss] ∧ SesAt CS CV X H ss vl ul (some z) ∧ z.past.length + z.future.length ≤ 1000 ∧ (z.past = [] → ∀ H', Ex H H' → E (.ref NS) none H') ∧
  (∀ l r, z.past = l :: r → SesRet CS CV X H ss vl ul (some (undone z l r)) (ans3 l r.length) Q)
def spRedo (CS CV NS : Addr) : Sp := fun vs H Q E => ∃ (X : List Addr) (ss vl ul : Addr) (z : Held), vs = [.ref ss] ∧ SesAt CS CV X H ss vl ul (some z) ∧ z.past.length + z.future.length ≤ 1000 ∧ (z.future = [] → ∀ H', Ex H H' → E (.ref NS) none H') ∧
  (∀ l r, z.future = l :: r → SesRet CS CV X H ss vl ul (some (redone z l r)) (ans3 l (z.past.length + 1)) Q)
theorem ok_undo {f CS CV NS : Addr} {fd : FuncData} (F : Fun K "undo" "Session.undo" sUndo f fd) (M : SesM P w K mg base CS CV) (gw : Mn P w K mg base CX0 2 CS "where_it_stands" (spWhere CS CV)) (er : ErrT K mg "NoStepLeft" NS) : FnOk P w K mg base (L2.CX P w) 3 f fd ["self"] (spUndo CS CV NS) := by
  refine F.okX sc_undo (fun vs H Q E h => ?_) (fun cdv A outer s H vs Q E hr h => ⟨_, pss_cons (ps_if (pt_cmpR op_eq (pe_mn0 M.steps hr pass0 (pv 0)) pe_int (nomark _)) (pss_one (ps_raise0 er (takes_of rfl rfl rfl rfl))) pss_nil)
    (pss_cons (ps_expr (pe_bm PySem.F.plainAttrs_list PySem.F.slot_list_append PySem.F.type_list_append mt_append (pe_fld (pv 0) rfl) (pa_cons (pe_bm0 PySem.F.plainAttrs_list PySem.F.slot_list_pop PySem.F.type_list_pop mt_pop (pe_fld (pv 0) rfl)) pa_nil)))
    (pss_one (ps_ret (pe_mn0 gw hr pass0 (pv 0))))), ?_⟩)
  · obtain ⟨X, ss, vl, ul, z, rfl, _⟩ := h
    rfl
  · obtain ⟨X, ss, vl, ul, z, rfl, hS, hz, kE, k⟩ := h
    obtain ⟨dx, h1⟩ := hS.ob
    refine ⟨_, rfl, ss, dx, _, rfl, h1, rfl, X, ss, vl, ul, z, rfl, hS, fun H1 e1 => ⟨rfl, _, rfl, ?_⟩⟩
    have hS1 := hS.ex e1
    have h11 := e1 _ _ h1
    obtain ⟨nvs, nus⟩ := hS1.nes
    cases hp : z.past with
    | nil => exact iteT (kE hp H1 e1)
    | cons l r =>
      have d0 : decide (V.int ((l :: r).length : Nat) = V.int 0) = false := decide_eq_false fun q => by
        have := V.int.inj q
        rw [List.length_cons] at this
        omega
      rw [d0]
      have ev : vers (some z) = (r.reverse ++ [l]) ++ [z.now] := by
        show z.past.reverse ++ [z.now] = _
        rw [hp, List.reverse_cons]
      have hvs := hS1.vs
      rw [ev] at hvs
      obtain ⟨xs, p, va, vb, g1, g2, g3, n1, n2, g4⟩ := hvs.pop (by simp)
      have hus := hS1.us.lst (ys := xs.dropLast) g1 (by simp) (Ne.symm hS1.ne)
      obtain ⟨ys, q1, q2, q3⟩ := hus.add (by simp) (g3.lst (ys := xs.dropLast) g1 (fun e => n1 (by rw [e]; simp)) (fun e => n2 (by rw [e]; simp))) n1 n2
      obtain ⟨qs, u1, _⟩ := hS1.us
      refine iteF ⟨_, rfl, ss, CS, dx, _, _, rfl, h11, M.t.cl, M.t.nU, rfl, .inl ⟨rfl, _, SqL.of u1⟩, ?_⟩
      refine ⟨_, rfl, ss, CS, dx, _, _, rfl, h11, M.t.cl, M.t.nV, rfl, .inl ⟨rfl, _, SqL.of g1⟩, ?_⟩
      refine ⟨vl, xs, .ref p, rfl, rfl, g1, g2, ul, ys, _, rfl, rfl, q1, sizeLine_gt (by rw [q2]; show z.future.reverse.length ≤ _; rw [List.length_reverse]; omega), ?_⟩
      have g5 := g4.lst (ys := ys ++ [.ref p]) q1 (by simp) hS1.ne
      generalize hH2 : L2.upd (L2.upd H1 vl (.lst xs.dropLast)) ul (.lst (ys ++ [.ref p])) = H2 at q3 g5
      have bb : But [ss, vl, ul] H1 H2 := by
        rw [← hH2]
        exact ((But.of (Ex.refl H1)).upd (by simp)).upd (by simp)
      have h12 : H2 ss = some (.ins CS dx (sF vl ul (grd (some z)))) := by rw [← hH2, upd_ne (Ne.symm nus), upd_ne (Ne.symm nvs)]; exact h11
      have hS2 : SesAt CS CV X H2 ss vl ul (some (undone z l r)) := by
        refine ⟨⟨dx, h12⟩, g5, ?_, hS1.ne, al_three hS1.al bb ⟨_, h12⟩ g5.got q3.got⟩
        have eu : und (some (undone z l r)) = und (some z) ++ [z.now] := by
          show (z.now :: z.future).reverse = _
          rw [List.reverse_cons]
          rfl
        rw [eu]
        exact q3
      refine ⟨_, rfl, ss, dx, _, rfl, h12, rfl, X, ss, vl, ul, undone z l r, rfl, hS2, fun a H3 na e3 ha => ?_⟩
      refine k l r hp H3 vl ul a (hS2.ex e3) (.inl (by simp)) (.inl (by simp)) (((But.of e1).trans bb).trans (But.of e3)) ?_ ha
      cases ea : H a with
      | none => rfl
      | some u =>
        have ea1 := e1 a u ea
        by_cases hm : a ∈ [ss, vl, ul]
        · simp only [List.mem_cons, List.not_mem_nil, or_false] at hm
          rcases hm with rfl | rfl | rfl
          · rw [h12] at na; cases na
          · obtain ⟨ps, w1, _⟩ := g5; rw [w1] at na; cases na
          · obtain ⟨ps, w1, _⟩ := q3; rw [w1] at na; cases na
        · rw [bb a u ea1 hm] at na; cases na
theorem ok_redo {f CS CV NS : Addr} {fd : FuncData} (F : Fun K "redo" "Session.redo" sRedo f fd) (M : SesM P w K mg base CS CV) (gw : Mn P w K mg base CX0 2 CS "where_it_stands" (spWhere CS CV)) (er : ErrT K mg "NoStepLeft" NS) : FnOk P w K mg base (L2.CX P w) 3 f fd ["self"] (spRedo CS CV NS) := by
  refine F.okX sc_redo (fun vs H Q E h => ?_) (fun cdv A outer s H vs Q E hr h => ⟨_, pss_cons (ps_if (pt_cmpR op_eq (pe_callB call_len_seq (by rfl) M.t.len PySem.boot_len (pa_cons (pe_fld (pv 0) rfl) pa_nil)) pe_int (nomark _)) (pss_one (ps_raise0 er (takes_of rfl rfl rfl rfl))) pss_nil)
    (pss_cons (ps_expr (pe_bm PySem.F.plainAttrs_list PySem.F.slot_list_append PySem.F.type_list_append mt_append (pe_fld (pv 0) rfl) (pa_cons (pe_bm0 PySem.F.plainAttrs_list PySem.F.slot_list_pop PySem.F.type_list_pop mt_pop (pe_fld (pv 0) rfl)) pa_nil)))
    (pss_one (ps_ret (pe_mn0 gw hr pass0 (pv 0))))), ?_⟩)
  · obtain ⟨X, ss, vl, ul, z, rfl, _⟩ := h
    rfl
  · obtain ⟨X, ss, vl, ul, z, rfl, hS, hz, kE, k⟩ := h
    obtain ⟨dx, h1⟩ := hS.ob
    obtain ⟨qs, u1, u2, _⟩ := hS.us
    obtain ⟨nvs, nus⟩ := hS.nes
    refine ⟨_, rfl, ss, CS, dx, _, _, rfl, h1, M.t.cl, M.t.nU, rfl, ul, _, rfl, .inl (SqL.of u1), rfl, _, rfl, ?_⟩
    have lu : (qs.map V.ref).length = z.future.length := by
      rw [List.length_map, u2]
      exact List.length_reverse
    rw [lu]
    cases hp : z.future with
    | nil => exact iteT (kE hp H (Ex.refl H))
    | cons l r =>
      have d0 : decide (V.int ((l :: r).length : Nat) = V.int 0) = false := decide_eq_false fun q => by
        have := V.int.inj q
        rw [List.length_cons] at this
        omega
      rw [d0]
      have eu : und (some z) = r.reverse ++ [l] := by
        show z.future.reverse = _
        rw [hp, List.reverse_cons]
      have hus := hS.us
      rw [eu] at hus
      obtain ⟨xs, p, va, vb, g1, g2, g3, n1, n2, g4⟩ := hus.pop (by simp)
      have hvs := hS.vs.lst (ys := xs.dropLast) g1 (by simp) hS.ne
      obtain ⟨ys, q1, q2, q3⟩ := hvs.add (by simp) (g3.lst (ys := xs.dropLast) g1 (fun e => n1 (by rw [e]; simp)) (fun e => n2 (by rw [e]; simp))) n1 n2
      obtain ⟨ps, v1, _⟩ := hS.vs
      refine iteF ⟨_, rfl, ss, CS, dx, _, _, rfl, h1, M.t.cl, M.t.nV, rfl, .inl ⟨rfl, _, SqL.of v1⟩, ?_⟩
      refine ⟨_, rfl, ss, CS, dx, _, _, rfl, h1, M.t.cl, M.t.nU, rfl, .inl ⟨rfl, _, SqL.of g1⟩, ?_⟩
      refine ⟨ul, xs, .ref p, rfl, rfl, g1, g2, vl, ys, _, rfl, rfl, q1, sizeLine_gt (by rw [q2, vers_len]; omega), ?_⟩
      have g5 := g4.lst (ys := ys ++ [.ref p]) q1 (by simp) (Ne.symm hS.ne)
      generalize hH2 : L2.upd (L2.upd H ul (.lst xs.dropLast)) vl (.lst (ys ++ [.ref p])) = H2 at q3 g5
      have bb : But [ss, vl, ul] H H2 := by
        rw [← hH2]
        exact ((But.of (Ex.refl H)).upd (by simp)).upd (by simp)
      have h12 : H2 ss = some (.ins CS dx (sF vl ul (grd (some z)))) := by rw [← hH2, upd_ne (Ne.symm nvs), upd_ne (Ne.symm nus)]; exact h1
      have hS2 : SesAt CS CV X H2 ss vl ul (some (redone z l r)) := by
        refine ⟨⟨dx, h12⟩, ?_, g5, hS.ne, al_three hS.al bb ⟨_, h12⟩ q3.got g5.got⟩
        have ev : vers (some (redone z l r)) = vers (some z) ++ [l] := by
          show (z.now :: z.past).reverse ++ [l] = (z.past.reverse ++ [z.now]) ++ [l]
          rw [List.reverse_cons]
        rw [ev]
        exact q3
      refine ⟨_, rfl, ss, dx, _, rfl, h12, rfl, X, ss, vl, ul, redone z l r, rfl, hS2, fun a H3 na e3 ha => ?_⟩
      refine k l r hp H3 vl ul a (hS2.ex e3) (.inl (by simp)) (.inl (by simp)) (bb.trans (But.of e3)) ?_ ha
      cases ea : H a with
      | none => rfl
      | some u =>
        by_cases hm : a ∈ [ss, vl, ul]
        · simp only [List.mem_cons, List.not_mem_nil, or_false] at hm
          rcases hm with rfl | rfl | rfl
          · rw [h12] at na; cases na
          · obtain ⟨ps, w1, _⟩ := q3; rw [w1] at na; cases na
          · obtain ⟨ps, w1, _⟩ := g5; rw [w1] at na; cases na
        · rw [bb a u ea hm] at na; cases na
end LE

/-! LS4: a step is tried. -/
namespace LE
open PySem PySem.Spec PyProof.Rows L2 Evl
open VasedBase (isLetter isDigit)
open Vaseda (Cmd works)
open Vasedz (Held Tag Tagged stepBy guardOff doesOf doesRow tagged)
variable {P : Program} {w : World} {K : PySem.W.Frag} {mg : Str → Option Value} {base : Heap}
def triF (v e : Addr) (n : Nat) : List (Str × V) := [("version", .ref v), ("effect", .ref e), ("harmed", .int (n : Nat))]
structure TxtTri (K : PySem.W.Frag) (CTr : Addr) : Prop where
  cl : Cls K CTr
  nV : NoAttr K CTr "version"
  nE : NoAttr K CTr "effect"
  nH : NoAttr K CTr "harmed"
abbrev sTriInit : Stmt := inClass (top 92) 0
theorem sc_tri_init : FnScope ["self", "version", "effect", "harmed"] ["self", "version", "effect", "harmed"] (defScope sTriInit) := ⟨rfl, rfl, rfl, by decide +kernel, rfl, by decide +kernel, by decide +kernel⟩
def spTriInit (CTr : Addr) : Sp := fun vs H Q _ => ∃ (p dx v e : Addr) (n : Nat), vs = [.ref p, .ref v, .ref e, .int (n : Nat)] ∧ H p = some (.ins CTr dx []) ∧ Q .non (upd H p (.ins CTr dx (triF v e n)))
theorem ok_tri_init {f CTr : Addr} {fd : FuncData} (F : Fun K "__init__" "Trial.__init__" sTriInit f fd) (T : TxtTri K CTr) : FnOk P w K mg base CX0 1 f fd ["self", "version", "effect", "harmed"] (spTriInit CTr) := by
  refine F.ok sc_tri_init (fun vs H Q E h => ?_) (fun cdv A outer s H vs Q E hr h => ⟨_, pss_cons (ps_fld (pv 0) (pv 1) rfl) (pss_cons (ps_fld (pv 0) (pv 2) rfl) (pss_one (ps_fld (pv 0) (pv 3) rfl))), ?_⟩)
  · obtain ⟨p, dx, v, e, n, rfl, _⟩ := h
    rfl
  · obtain ⟨p, dx, v, e, n, rfl, hp, k⟩ := h
    refine ⟨_, rfl, _, rfl, p, CTr, dx, [], rfl, hp, T.cl, T.nV, by decide, ?_⟩
    refine ⟨_, rfl, _, rfl, p, CTr, dx, _, rfl, upd_same, T.cl, T.nE, by show 1 < 1000; decide, ?_⟩
    refine ⟨_, rfl, _, rfl, p, CTr, dx, _, rfl, upd_same, T.cl, T.nH, by show 2 < 1000; decide, ?_⟩
    rw [upd_upd, upd_upd]
    exact k
/-- what a step would come to -/
structure TriX (CTr CV : Addr) (H : Hp) (t v a b e : Addr) (l : Tagged) (ef : List Nat) (n : Nat) : Prop where
  ob : ∃ dx, H t = some (.ins CTr dx (triF v e n))
  ve : VerX CV H v a b l
  ef : H e = some (.lst (nv ef))
theorem TriX.of {CTr CV : Addr} {H H' : Hp} {t v a b e : Addr} {l : Tagged} {ef : List Nat} {n : Nat} (h : TriX CTr CV H t v a b e l ef n) (x : Ex H H') : TriX CTr CV H' t v a b e l ef n := by
  obtain ⟨dx, h1⟩ := h.ob
  exact ⟨⟨dx, x _ _ h1⟩, h.ve.of x, x _ _ h.ef⟩
abbrev sAttempt : Stmt := inClass (top 91) 7
theorem sc_attempt : FnScope ["self", "commands", "before", "passages", "version"] ["self", "commands"] (defScope sAttempt) := ⟨rfl, rfl, rfl, by decide +kernel, rfl, by decide +kernel, by decide +kernel⟩
def efOf (z : Held) (s : List Cmd) : List Nat := effect (Vasedz.textOf z.now) (works s (Vasedz.textOf z.now))
def hmOf (z : Held) (s : List Cmd) : Nat := harmed z.guard (Vasedz.textOf z.now) (works s (Vasedz.textOf z.now))
def spAttempt (CS CV CC CTr TM : Addr) : Sp := fun vs H Q E => ∃ (X : List Addr) (ss vl ul cm : Addr) (z : Held) (s : List Cmd), vs = [.ref ss, .ref cm] ∧ SesAt CS CV X H ss vl ul (some z) ∧ okText (Vasedz.textOf z.now) ∧ CmdsAt CC H cm s ∧ s.length ≤ 16 ∧ (∀ c ∈ s, wfD c.d) ∧
  (stepBy s (z.past.length + 1) z.now = none → ∀ H', Ex H H' → E (.ref TM) none H') ∧
  (∀ l, stepBy s (z.past.length + 1) z.now = some l → ∀ H' t v a b e, Ex H H' → H v = none → H a = none → H b = none → TriX CTr CV H' t v a b e l (efOf z s) (hmOf z s) → l.length ≤ 24 → Q (.ref t) H')
theorem ok_attempt {f CS CV CP CC CTr TM : Addr} {fd : FuncData} (F : Fun K "attempt" "Session.attempt" sAttempt f fd) (M : SesM P w K mg base CS CV) (ml : Gc mg "MOST_LINES" (.int 24)) (er : ErrT K mg "TooMuch" TM)
    (gr : Dn P w K mg base (L2.CX P w) 4 "run" (spRun K CP CC TM) 2) (gv : Dn P w K mg base CX0 3 "version_behind" (spVerBehind CV CP) 3) (ge : Dn P w K mg base CX0 2 "effect_of" (spEffect CP) 1) (gh : Dn P w K mg base CX0 2 "first_harmed" (spHarmed CP) 2)
    (gt : Kn P w K mg base 1 "Trial" CTr (spTriInit CTr)) : FnOk P w K mg base (L2.CX P w) 5 f fd ["self", "commands"] (spAttempt CS CV CC CTr TM) := by
  refine F.okX sc_attempt (fun vs H Q E h => ?_) (fun cdv A outer s H vs Q E hr h => ⟨_, pss_cons (ps_set (i := 2) sc_attempt.nd rfl (.inl rfl) (pe_mn0 M.now hr pass0 (pv 0)))
    (pss_cons (ps_set (i := 3) sc_attempt.nd rfl (.inl rfl) (pe_dn gr hr (pass1 rfl rfl rfl rfl) (pa_cons (pv 1) (pa_cons (pe_fld (pv 2) rfl) pa_nil))))
    (pss_cons (ps_set (i := 4) sc_attempt.nd rfl (.inl rfl) (pe_dn gv hr pass0 (pa_cons (pv 2) (pa_cons (pv 3) (pa_cons (pe_op op_add (pe_mn0 M.steps hr pass0 (pv 0)) pe_int) pa_nil)))))
    (pss_cons (ps_if (pt_cmpR op_gt (pe_callB call_len_seq (by rfl) M.t.len PySem.boot_len (pa_cons (pe_fld (pv 4) rfl) pa_nil)) (pe_gc ml) (nomark _)) (pss_one (ps_raise0 er (takes_of rfl rfl rfl rfl))) pss_nil)
    (pss_one (ps_ret (pe_kn gt hr (pa_cons (pv 4) (pa_cons (pe_dn ge hr pass0 (pa_cons (pv 3) pa_nil)) (pa_cons (pe_dn gh hr pass0 (pa_cons (pv 3) (pa_cons (pe_fld (pv 0) rfl) pa_nil))) pa_nil))))))))), ?_⟩)
  · obtain ⟨X, ss, vl, ul, cm, z, s, rfl, _⟩ := h
    rfl
  · obtain ⟨X, ss, vl, ul, cm, z, sc, rfl, hS, ⟨hl24, hx16⟩, hC, h16, hwf, kE, k⟩ := h
    obtain ⟨dx, h1⟩ := hS.ob
    refine ⟨_, rfl, ss, dx, _, rfl, h1, rfl, X, ss, vl, ul, z, rfl, hS, fun H1 p va vb e1 hv n1 n2 => ?_⟩
    obtain ⟨dv, os, v1, v2, v3, v4⟩ := id hv.ex
    have T := M.t
    refine ⟨_, rfl, _, rfl, p, CV, dv, _, _, rfl, v1, T.tv.cl, T.tv.nLines, rfl, cm, va, sc, _, rfl, hC.of e1, .inl (.inl v2), h16, hwf, by omega, hx16, fun hn H' e2 => kE (step_none hn) H' (e1.trans e2), fun hbad htot H2 pa npa e2 hP => ?_⟩
    have e12 := e1.trans e2
    have hst := step_some (n := z.past.length + 1) hbad htot
    refine ⟨_, rfl, _, rfl, _, rfl, ss, dx, _, rfl, e12 _ _ h1, rfl, X, ss, vl, ul, z, rfl, hS.ex e12, fun H3 e3 => ?_⟩
    refine ⟨_, _, rfl, rfl, p, pa, z.past.length + 1, z.now, _, ?_, (hv.of (e2.trans e3)).at, hP.of e3, by omega, fun v a b H4 nv' na nb e4 hv4 => ?_⟩
    · rfl
    have e14 := (e12.trans e3).trans e4
    obtain ⟨dv4, os4, x1, x2, x3, x4⟩ := id hv4.ex
    refine ⟨_, rfl, v, CV, dv4, _, _, rfl, x1, T.tv.cl, T.tv.nLines, rfl, a, _, rfl, .inl (SqL.of x2), _, _, rfl, rfl, _, rfl, ?_⟩
    rw [text_len]
    by_cases hg : 24 < (allTags (z.past.length + 1) z.now (works sc (Vasedz.textOf z.now))).length
    · rw [decide_eq_true (show (24 : Int) < ((allTags (z.past.length + 1) z.now (works sc (Vasedz.textOf z.now))).length : Nat) by omega)]
      rw [if_pos hg] at hst
      exact iteT (kE hst H4 e14)
    · rw [decide_eq_false (show ¬ (24 : Int) < ((allTags (z.past.length + 1) z.now (works sc (Vasedz.textOf z.now))).length : Nat) by omega)]
      rw [if_neg hg] at hst
      have nH : ∀ {c : Addr}, H3 c = none → H c = none := fun hc => fresh_back (e12.trans e3) hc
      have hP4 := (hP.of e3).of e4
      refine iteF ⟨_, rfl, _, rfl, pa, _, _, rfl, hP4, by omega, fun e H5 ne e5 he => ?_⟩
      have e15 := e14.trans e5
      refine ⟨_, rfl, _, rfl, ss, CS, dx, _, _, rfl, e15 _ _ h1, T.cl, T.nG, rfl, pa, _, _, z.guard, rfl, hP4.of e5, fun H6 e6 => ?_⟩
      refine fun t dt nt ndt ndtt => ?_
      have e67 : Ex H6 (upd (upd H6 dt (.own t)) t (.ins CTr dt [])) := (Ex.new ndt).mut nt
      refine ⟨t, dt, v, e, _, rfl, upd_same, rfl, ?_⟩
      have e68 : Ex H6 (upd (upd (upd H6 dt (.own t)) t (.ins CTr dt [])) t (.ins CTr dt (triF v e (hmOf z sc)))) := e67.mut nt
      exact k _ hst _ t v a b e ((e15.trans e6).trans e68) (nH nv') (nH na) (nH nb) ⟨⟨dt, upd_same⟩, hv4.of ((e5.trans e6).trans e68), e68 _ _ (e6 _ _ he)⟩ (by omega)
end LE

/-! LS5: apply, dry. -/
namespace LE
open PySem PySem.Spec PyProof.Rows L2 Evl
open VasedBase (isLetter isDigit)
open Vaseda (Cmd works)
open Vasedz (Held Tag Tagged stepBy guardOff doesOf doesRow tagged)
variable {P : Program} {w : World} {K : PySem.W.Frag} {mg : Str → Option Value} {base : Heap}
theorem VersAt.newF {CV : Addr} {F F' : List Addr} {H : Hp} {a : Addr} {ts : List Tagged} (h : VersAt CV F H a ts) (hF : ∀ c ∈ F', c ∈ F ∨ H c = none) : VersAt CV F' H a ts := by
  obtain ⟨ps, h1, h2, h3⟩ := h
  refine ⟨ps, h1, h2, fun i p t hp ht => ?_⟩
  obtain ⟨va, vb, z, n1, n2⟩ := h3 i p t hp ht
  obtain ⟨dx, os, z1, z2, z3, z4⟩ := id z.ex
  refine ⟨va, vb, z, fun hm => ?_, fun hm => ?_⟩
  · rcases hF _ hm with q | q
    · exact n1 q
    · rw [z2] at q; cases q
  · rcases hF _ hm with q | q
    · exact n2 q
    · rw [z3] at q; cases q
/-- the object's own instance is written -/
theorem VersAt.ins {CV C dx ss : Addr} {fs gs : List (Str × V)} {F : List Addr} {H : Hp} {a : Addr} {ts : List Tagged} (h : VersAt CV F H a ts) (hs : H ss = some (.ins C dx fs)) (hF : ss ∈ F) (nv : ∀ v dv a b, H v = some (.ins CV dv (vF a b)) → v ≠ ss) : VersAt CV F (L2.upd H ss (.ins C dx gs)) a ts := by
  have bb : But [ss] H (L2.upd H ss (.ins C dx gs)) := (But.of (Ex.refl H)).upd (by simp)
  obtain ⟨ps, h1, h2, h3⟩ := h
  refine ⟨ps, bb _ _ h1 (by have := ne_of h1 hs (fun z => by cases z); simpa using this), h2, fun i p t hp ht => ?_⟩
  obtain ⟨va, vb, z, n1, n2⟩ := h3 i p t hp ht
  obtain ⟨dv, os, z1, _⟩ := id z.ex
  refine ⟨va, vb, z.but bb (by have := nv _ _ _ _ z1; simpa using this) (by have : va ≠ ss := fun e => n1 (e ▸ hF); simpa using this) (by have : vb ≠ ss := fun e => n2 (e ▸ hF); simpa using this) fun c hc xs e => ?_, n1, n2⟩
  rw [mem1 hc, hs] at e
  cases e
theorem ver_ne {CS CV dx ss vl ul : Addr} {g : List UInt8} {H : Hp} (hs : H ss = some (.ins CS dx (sF vl ul g))) : ∀ v dv a b, H v = some (.ins CV dv (vF a b)) → v ≠ ss := fun v dv a b hv e => by
  rw [e, hs] at hv
  cases hv
def made (z : Held) (l : Tagged) : Held := { z with now := l, past := z.now :: z.past, future := [] }
abbrev sApply : Stmt := inClass (top 91) 5
theorem sc_apply : FnScope ["self", "script", "commands", "trial"] ["self", "script"] (defScope sApply) := ⟨rfl, rfl, rfl, by decide +kernel, rfl, by decide +kernel, by decide +kernel⟩
def spApply (K : PySem.W.Frag) (CS CV CF TM RM HG : Addr) : Sp := fun vs H Q E => ∃ (X : List Addr) (ss vl ul a : Addr) (z : Held) (b : List UInt8), vs = [.ref ss, .ref a] ∧ SesAt CS CV X H ss vl ul (some z) ∧ okText (Vasedz.textOf z.now) ∧ z.past.length ≤ 20 ∧ SqL K H a (ib b) ∧ b.length ≤ 10000 ∧
  (∀ f, Vaseda.read b = .error f → FaultE CF f.code f.place H E) ∧
  (∀ s, Vaseda.read b = .ok s → 20 ≤ z.past.length → ∀ H', Ex H H' → E (.ref RM) none H') ∧
  (∀ s, Vaseda.read b = .ok s → z.past.length < 20 → stepBy s (z.past.length + 1) z.now = none → ∀ H', Ex H H' → E (.ref TM) none H') ∧
  (∀ s l, Vaseda.read b = .ok s → z.past.length < 20 → stepBy s (z.past.length + 1) z.now = some l → (guardOff s (Vasedz.textOf z.now) z.guard).isSome = true → ∀ H', Ex H H' → E (.ref HG) none H') ∧
  (∀ s l, Vaseda.read b = .ok s → z.past.length < 20 → stepBy s (z.past.length + 1) z.now = some l → ¬ (guardOff s (Vasedz.textOf z.now) z.guard).isSome = true → SesRet CS CV X H ss vl ul (some (made z l)) ([.int 1, .int (l.length : Nat)] ++ nv (efOf z s)) Q)
structure SesT (P : Program) (w : World) (K : PySem.W.Frag) (mg : Str → Option Value) (base : Heap) (CS CV CF CC CTr TM : Addr) : Prop where
  m : SesM P w K mg base CS CV
  tri : TxtTri K CTr
  cs : Dn P w K mg base (L2.CX P w) 8 "commands_of" (spCommands K CF CC) 1
  at_ : Mn P w K mg base (L2.CX P w) 5 CS "attempt" (spAttempt CS CV CC CTr TM)
theorem nv_len (l : List Nat) : (nv l).length = l.length := by simp [nv]
theorem ef_len (z : Held) (s : List Cmd) : (efOf z s).length = 4 := rfl
theorem ok_apply {f CS CV CF CC CTr TM RM HG : Addr} {fd : FuncData} (F : Fun K "apply" "Session.apply" sApply f fd) (S : SesT P w K mg base CS CV CF CC CTr TM) (ms : Gc mg "MOST_STEPS" (.int 20)) (er : ErrT K mg "NoRoomForStep" RM) (eh : ErrT K mg "HarmsGuarded" HG) :
    FnOk P w K mg base (L2.CX P w) 9 f fd ["self", "script"] (spApply K CS CV CF TM RM HG) := by
  refine F.okX sc_apply (fun vs H Q E h => ?_) (fun cdv A outer s H vs Q E hr h => ⟨_, pss_cons (ps_set (i := 2) sc_apply.nd rfl (.inl rfl) (pe_dn S.cs hr (pass1 rfl rfl rfl rfl) (pa_cons (pv 1) pa_nil)))
    (pss_cons (ps_if (pt_cmpR op_eq (pe_mn0 S.m.steps hr pass0 (pv 0)) (pe_gc ms) (nomark _)) (pss_one (ps_raise0 er (takes_of rfl rfl rfl rfl))) pss_nil)
    (pss_cons (ps_set (i := 3) sc_apply.nd rfl (.inl rfl) (pe_mn S.at_ hr (pass1 rfl rfl rfl rfl) (pv 0) (pa_cons (pv 2) pa_nil)))
    (pss_cons (ps_if (pt_cmpR op_gt (pe_fld (pv 3) rfl) pe_int (nomark _)) (pss_one (ps_raise0 eh (takes_of rfl rfl rfl rfl))) pss_nil)
    (pss_cons (ps_expr (pe_bm PySem.F.plainAttrs_list PySem.F.slot_list_append PySem.F.type_list_append mt_append (pe_fld (pv 0) rfl) (pa_cons (pe_fld (pv 3) rfl) pa_nil)))
    (pss_cons (ps_fld (pv 0) (pe_lst pa_nil) rfl)
    (pss_one (ps_ret (pe_op op_cat (pe_lst (pa_cons pe_int (pa_cons (pe_callB call_len_seq (by rfl) S.m.t.len PySem.boot_len (pa_cons (pe_fld (pe_fld (pv 3) rfl) rfl) pa_nil)) pa_nil))) (pe_fld (pv 3) rfl))))))))), ?_⟩)
  · obtain ⟨X, ss, vl, ul, a, z, b, rfl, _⟩ := h
    rfl
  · obtain ⟨X, ss, vl, ul, a, z, b, rfl, hS, hT, h20, hb, hz, kF, kR, kT, kG, k⟩ := h
    obtain ⟨dx, h1⟩ := hS.ob
    have T := S.m.t
    refine ⟨_, rfl, a, b, rfl, hb, hz, kF, fun cs hcs H1 L e1 nL hC h16 hwf => ?_⟩
    refine ⟨_, rfl, ss, dx, _, rfl, e1 _ _ h1, rfl, X, ss, vl, ul, z, rfl, hS.ex e1, fun H2 e2 => ⟨rfl, _, rfl, ?_⟩⟩
    have e12 := e1.trans e2
    by_cases hp : z.past.length = 20
    · have d : decide (V.int (z.past.length : Nat) = V.int 20) = true := decide_eq_true (by rw [hp]; rfl)
      rw [d]
      exact iteT (kR cs hcs (by omega) H2 e12)
    · have d : decide (V.int (z.past.length : Nat) = V.int 20) = false := decide_eq_false fun q => hp (by have := V.int.inj q; omega)
      rw [d]
      have hlt : z.past.length < 20 := by omega
      have hS2 := hS.ex e12
      refine iteF ⟨_, rfl, ss, dx, _, rfl, e12 _ _ h1, rfl, _, rfl, X, ss, vl, ul, L, z, cs, rfl, hS2, hT, hC.of e2, h16, hwf, fun hn H' e => kT cs hcs hlt hn H' (e12.trans e), fun l hl H3 t v va vb e e3 nv' na nb ht hl24 => ?_⟩
      have e13 := e12.trans e3
      obtain ⟨dt, t1⟩ := ht.ob
      refine ⟨_, rfl, t, CTr, dt, _, _, rfl, t1, S.tri.cl, S.tri.nH, rfl, _, _, rfl, rfl, _, rfl, ?_⟩
      have gi := guard_is cs (Vasedz.textOf z.now) z.guard
      by_cases hg : 0 < hmOf z cs
      · rw [decide_eq_true (show (0 : Int) < (hmOf z cs : Nat) by omega)]
        exact iteT (kG cs l hcs hlt hl (gi.2.mpr hg) H3 e13)
      · rw [decide_eq_false (show ¬ (0 : Int) < (hmOf z cs : Nat) by omega)]
        have hng : ¬ (guardOff cs (Vasedz.textOf z.now) z.guard).isSome = true := fun q => hg (gi.2.mp q)
        have hS3 := hS.ex e13
        obtain ⟨nvs, nus⟩ := hS3.nes
        have g1 := e13 _ _ h1
        have freshF : ∀ {c : Addr}, H2 c = none → c ∉ ss :: vl :: ul :: X := fun {c} hc hm => by
          obtain ⟨dx2, y1⟩ := hS2.ob
          obtain ⟨ps2, y2, _⟩ := hS2.vs
          obtain ⟨qs2, y3, _⟩ := hS2.us
          simp only [List.mem_cons] at hm
          rcases hm with rfl | rfl | rfl | hm
          · rw [y1] at hc; cases hc
          · rw [y2] at hc; cases hc
          · rw [y3] at hc; cases hc
          · obtain ⟨u, y4⟩ := hS2.al c hm
            rw [y4] at hc; cases hc
        obtain ⟨xs, q1, q2, q3⟩ := hS3.vs.add (by simp) ht.ve (freshF na) (freshF nb)
        obtain ⟨ps3, q0, _⟩ := hS3.vs
        refine iteF ⟨_, rfl, ss, CS, dx, _, _, rfl, g1, T.cl, T.nV, rfl, .inl ⟨rfl, _, SqL.of q1⟩, ?_⟩
        refine ⟨_, rfl, t, CTr, dt, _, _, rfl, t1, S.tri.cl, S.tri.nV, rfl, vl, xs, _, rfl, rfl, q1, sizeLine_gt (by rw [q2, vers_len]; omega), ?_⟩
        have hus := hS3.us.lst (ys := xs ++ [.ref v]) q1 (by simp) (Ne.symm hS3.ne)
        have bb4 : But [ss, vl, ul] H3 (L2.upd H3 vl (.lst (xs ++ [.ref v]))) := (But.of (Ex.refl H3)).upd (by simp)
        have g4 : L2.upd H3 vl (.lst (xs ++ [.ref v])) ss = some (.ins CS dx (sF vl ul (grd (some z)))) := by rw [upd_ne (Ne.symm nvs)]; exact g1
        have nte : ∀ {c : Addr} {u : HO}, H3 c = some u → (∀ ys, u ≠ .lst ys) → L2.upd H3 vl (.lst (xs ++ [.ref v])) c = some u := fun {c u} hc hn => by rw [upd_ne (ne_of hc q1 (hn _))]; exact hc
        have t4 := nte t1 (fun ys z => by cases z)
        have hve4 := ht.ve.lst (ys := xs ++ [.ref v]) q1 (fun e => freshF na (by rw [e]; simp)) (fun e => freshF nb (by rw [e]; simp))
        have hef : e ≠ vl := fun z4 => by
          have y := ht.ef
          rw [z4, q1] at y
          have y2 := HO.lst.inj (Option.some.inj y)
          have y3 := congrArg List.length y2
          obtain ⟨ps5, w1, w2, _⟩ := hS3.vs
          rw [q1] at w1
          have w3 := HO.lst.inj (Option.some.inj w1)
          rw [w3] at y2
          cases ps5 with
          | nil => rw [vers_len] at w2; simp at w2
          | cons p5 r5 =>
            have y5 : V.ref p5 :: r5.map V.ref = V.int _ :: _ := y2
            cases y5
        have ef4 : L2.upd H3 vl (.lst (xs ++ [.ref v])) e = some (.lst (nv (efOf z cs))) := by rw [upd_ne hef]; exact ht.ef
        generalize L2.upd H3 vl (.lst (xs ++ [.ref v])) = H4 at q3 hus bb4 g4 t4 hve4 ef4
        refine ⟨Nat.zero_le _, fun ul' nul => ?_⟩
        have e45 : Ex H4 (L2.upd H4 ul' (.lst [])) := Ex.new nul
        refine ⟨_, rfl, ss, CS, dx, _, rfl, e45 _ _ g4, T.cl, T.nU, by show 3 < 1000; decide, ?_⟩
        have eF : putF "undone" (.ref ul') (sF vl ul (grd (some z))) = sF vl ul' (grd (some (made z l))) := rfl
        rw [eF]
        have q5 := ((q3.ex e45).ins (gs := sF vl ul' (grd (some (made z l)))) (e45 _ _ g4) (by simp) (ver_ne (e45 _ _ g4)))
        have nul1 : ul' ≠ ss := fun e => by rw [e, g4] at nul; cases nul
        have bb6 : But [ss, vl, ul] H4 (L2.upd (L2.upd H4 ul' (.lst [])) ss (.ins CS dx (sF vl ul' (grd (some (made z l)))))) := (But.of e45).upd (by simp)
        have u6 : L2.upd (L2.upd H4 ul' (.lst [])) ss (.ins CS dx (sF vl ul' (grd (some (made z l))))) ul' = some (.lst []) := by rw [upd_ne nul1]; exact upd_same
        have s6 : L2.upd (L2.upd H4 ul' (.lst [])) ss (.ins CS dx (sF vl ul' (grd (some (made z l))))) ss = some (.ins CS dx (sF vl ul' (grd (some (made z l))))) := upd_same
        have nts : ∀ {c : Addr} {u : HO}, H4 c = some u → c ≠ ss → L2.upd (L2.upd H4 ul' (.lst [])) ss (.ins CS dx (sF vl ul' (grd (some (made z l))))) c = some u := fun {c u} hc hn => by rw [upd_ne hn]; exact e45 _ _ hc
        have t6 := nts t4 (fun z5 => by rw [z5, g4] at t4; cases t4)
        obtain ⟨dv, os, x1, x2, x3, x4⟩ := id hve4.ex
        have x16 := nts x1 (fun z5 => by rw [z5, g4] at x1; cases x1)
        have x26 := nts x2 (fun z5 => by rw [z5, g4] at x2; cases x2)
        have ef6 := nts ef4 (fun z5 => by rw [z5, g4] at ef4; cases ef4)
        obtain ⟨pu, yu, _⟩ := id hus
        have u46 := nts yu nus
        have nul4 : vl ≠ ul' := fun z5 => by
          obtain ⟨ps6, y1, _⟩ := q3
          rw [← z5, y1] at nul
          cases nul
        have vs6 : VersAt CV (ss :: vl :: ul' :: X) (L2.upd (L2.upd H4 ul' (.lst [])) ss (.ins CS dx (sF vl ul' (grd (some (made z l)))))) vl (vers (some (made z l))) := by
          have ev : vers (some (made z l)) = vers (some z) ++ [l] := by
            show (z.now :: z.past).reverse ++ [l] = (z.past.reverse ++ [z.now]) ++ [l]
            rw [List.reverse_cons]
          rw [ev]
          -- the new list is none of the versions' own: it was not there
          have q7 := q3.newF (F' := ss :: vl :: ul :: ul' :: X) (fun c hc => by
            simp only [List.mem_cons] at hc ⊢
            rcases hc with rfl | rfl | rfl | rfl | hc
            · exact .inl (.inl rfl)
            · exact .inl (.inr (.inl rfl))
            · exact .inl (.inr (.inr (.inl rfl)))
            · exact .inr nul
            · exact .inl (.inr (.inr (.inr hc))))
          have q8 := (q7.ex e45).ins (gs := sF vl ul' (grd (some (made z l)))) (e45 _ _ g4) (by simp) (ver_ne (e45 _ _ g4))
          exact q8.newF fun c hc => by
            simp only [List.mem_cons] at hc ⊢
            rcases hc with rfl | rfl | rfl | hc
            · exact .inl (.inl rfl)
            · exact .inl (.inr (.inl rfl))
            · exact .inl (.inr (.inr (.inr (.inl rfl))))
            · exact .inl (.inr (.inr (.inr (.inr hc))))
        generalize L2.upd (L2.upd H4 ul' (.lst [])) ss (.ins CS dx (sF vl ul' (grd (some (made z l))))) = H6 at q5 bb6 u6 s6 t6 x16 x26 ef6 vs6 u46
        refine ⟨_, rfl, t, CTr, dt, _, _, rfl, t6, S.tri.cl, S.tri.nV, rfl, v, CV, dv, _, _, rfl, x16, T.tv.cl, T.tv.nLines, rfl, va, _, rfl, .inl (SqL.of x26), ?_⟩
        rw [text_len]
        refine ⟨by show 2 ≤ sizeLine; decide, fun r nr => ?_⟩
        have er : Ex H6 (L2.upd H6 r (.lst [.int 1, .int (l.length : Nat)])) := Ex.new nr
        refine ⟨_, rfl, t, CTr, dt, _, _, rfl, er _ _ t6, S.tri.cl, S.tri.nE, rfl, r, e, _, _, rfl, rfl, upd_same, er _ _ ef6, sizeLine_ge (by rw [nv_len, ef_len]; exact Nat.le_of_ble_eq_true rfl), fun p np => ?_⟩
        have ep : Ex H6 (L2.upd (L2.upd H6 r (.lst [.int 1, .int (l.length : Nat)])) p (.lst ([.int 1, .int (l.length : Nat)] ++ nv (efOf z cs)))) := er.trans (Ex.new np)
        have np6 : H6 p = none := (upd_none' np).2
        have bball : But [ss, vl, ul] H H6 := ((But.of e13).trans bb4).trans bb6
        refine k cs l hcs hlt hl hng _ vl ul' p (SesAt.ex ⟨⟨dx, s6⟩, vs6, VersAt.nil u6, nul4, al_three hS.al bball ⟨_, s6⟩ vs6.got ⟨_, u46⟩⟩ ep) (.inl (by simp)) (.inr ?_) (bball.trans (But.of ep)) ?_ upd_same
        · cases c : H ul' with
          | none => rfl
          | some u =>
            have c3 := e13 _ _ c
            by_cases hm : ul' ∈ [ss, vl, ul]
            · simp only [List.mem_cons, List.not_mem_nil, or_false] at hm
              rcases hm with hm | hm | hm
              · exact absurd hm nul1
              · exact absurd hm.symm nul4
              · obtain ⟨ps7, y1, _⟩ := hus
                rw [hm, y1] at nul
                cases nul
            · rw [bb4 _ _ c3 hm] at nul
              cases nul
        · cases c : H p with
          | none => rfl
          | some u =>
            by_cases hm : p ∈ [ss, vl, ul]
            · simp only [List.mem_cons, List.not_mem_nil, or_false] at hm
              rcases hm with hm | hm | hm
              · rw [hm, s6] at np6; cases np6
              · obtain ⟨ps7, y1, _⟩ := vs6
                rw [hm, y1] at np6; cases np6
              · rw [hm, u46] at np6; cases np6
            · rw [bball _ _ c hm] at np6
              cases np6
end LE

/-! LS6: dry. -/
namespace LE
open PySem PySem.Spec PyProof.Rows L2 Evl
open VasedBase (isLetter isDigit)
open Vaseda (Cmd works)
open Vasedz (Held Tag Tagged stepBy guardOff doesOf doesRow tagged)
variable {P : Program} {w : World} {K : PySem.W.Frag} {mg : Str → Option Value} {base : Heap}
abbrev sDry : Stmt := inClass (top 91) 6
theorem sc_dry : FnScope ["self", "script", "trial", "cost"] ["self", "script"] (defScope sDry) := ⟨rfl, rfl, rfl, by decide +kernel, rfl, by decide +kernel, by decide +kernel⟩
def costN (z : Held) (l : Tagged) : Nat := Vasedc.costOf (Vasedc.patch (Vasedz.textOf z.now) (Vasedz.textOf l))
def dryAns (z : Held) (s : List Cmd) (l : Tagged) : List V := ([.int 1, .int (l.length : Nat)] ++ nv (efOf z s)) ++ [.int (hmOf z s : Nat), .int (costN z l : Nat)]
def spDry (K : PySem.W.Frag) (CS CV CF TM : Addr) : Sp := fun vs H Q E => ∃ (X : List Addr) (ss vl ul a : Addr) (z : Held) (b : List UInt8), vs = [.ref ss, .ref a] ∧ SesAt CS CV X H ss vl ul (some z) ∧ okText (Vasedz.textOf z.now) ∧ SqL K H a (ib b) ∧ b.length ≤ 10000 ∧
  (∀ f, Vaseda.read b = .error f → FaultE CF f.code f.place H E) ∧
  (∀ s, Vaseda.read b = .ok s → stepBy s (z.past.length + 1) z.now = none → ∀ H', Ex H H' → E (.ref TM) none H') ∧
  (∀ s l, Vaseda.read b = .ok s → stepBy s (z.past.length + 1) z.now = some l → RetL (dryAns z s l) H Q)
theorem ok_dry {f CS CV CF CC CTr TM : Addr} {fd : FuncData} (F : Fun K "dry" "Session.dry" sDry f fd) (S : SesT P w K mg base CS CV CF CC CTr TM) (gc : Dn P w K mg base CX0 2 "patch_cost" (spCost K) 2) : FnOk P w K mg base (L2.CX P w) 9 f fd ["self", "script"] (spDry K CS CV CF TM) := by
  refine F.okX sc_dry (fun vs H Q E h => ?_) (fun cdv A outer s H vs Q E hr h => ⟨_, pss_cons (ps_set (i := 2) sc_dry.nd rfl (.inl rfl) (pe_mn S.at_ hr (pass1 rfl rfl rfl rfl) (pv 0) (pa_cons (pe_dn S.cs hr (pass1 rfl rfl rfl rfl) (pa_cons (pv 1) pa_nil)) pa_nil)))
    (pss_cons (ps_set (i := 3) sc_dry.nd rfl (.inl rfl) (pe_dn gc hr pass0 (pa_cons (pe_fld (pe_mn0 S.m.now hr pass0 (pv 0)) rfl) (pa_cons (pe_fld (pe_fld (pv 2) rfl) rfl) pa_nil))))
    (pss_one (ps_ret (pe_op op_cat (pe_op op_cat (pe_lst (pa_cons pe_int (pa_cons (pe_callB call_len_seq (by rfl) S.m.t.len PySem.boot_len (pa_cons (pe_fld (pe_fld (pv 2) rfl) rfl) pa_nil)) pa_nil))) (pe_fld (pv 2) rfl)) (pe_lst (pa_cons (pe_fld (pv 2) rfl) (pa_cons (pv 3) pa_nil))))))), ?_⟩)
  · obtain ⟨X, ss, vl, ul, a, z, b, rfl, _⟩ := h
    rfl
  · obtain ⟨X, ss, vl, ul, a, z, b, rfl, hS, hT, hb, hz, kF, kT, k⟩ := h
    obtain ⟨dx, h1⟩ := hS.ob
    have T := S.m.t
    refine ⟨_, rfl, ss, dx, _, rfl, h1, rfl, _, rfl, a, b, rfl, hb, hz, kF, fun cs hcs H1 L e1 nL hC h16 hwf => ?_⟩
    refine ⟨X, ss, vl, ul, L, z, cs, rfl, hS.ex e1, hT, hC, h16, hwf, fun hn H' e => kT cs hcs hn H' (e1.trans e), fun l hl H3 t v va vb e e3 nv' na nb ht hl24 => ?_⟩
    have e13 := e1.trans e3
    obtain ⟨dt, t1⟩ := ht.ob
    obtain ⟨dv, os, x1, x2, x3, x4⟩ := id ht.ve.ex
    refine ⟨_, rfl, ss, dx, _, rfl, e13 _ _ h1, rfl, X, ss, vl, ul, z, rfl, hS.ex e13, fun H4 p pa pb e4 hv _ _ => ?_⟩
    obtain ⟨dp, op, y1, y2, y3, y4⟩ := id hv.ex
    refine ⟨p, CV, dp, _, _, rfl, y1, T.tv.cl, T.tv.nLines, rfl, _, rfl, t, CTr, dt, _, _, rfl, e4 _ _ t1, S.tri.cl, S.tri.nV, rfl, v, CV, dv, _, _, rfl, e4 _ _ x1, T.tv.cl, T.tv.nLines, rfl, ?_⟩
    have l24 := hT.1
    have ll : (Vasedz.textOf l).length = l.length := by simp [Vasedz.textOf]
    refine ⟨pa, va, _, _, rfl, SqL.of y2, SqL.of (e4 _ _ x2), by omega, by omega, fun H5 e5 => ?_⟩
    have e35 := e4.trans e5
    refine ⟨_, rfl, t, CTr, dt, _, _, rfl, e35 _ _ t1, S.tri.cl, S.tri.nV, rfl, v, CV, dv, _, _, rfl, e35 _ _ x1, T.tv.cl, T.tv.nLines, rfl, va, _, rfl, .inl (SqL.of (e35 _ _ x2)), ?_⟩
    rw [text_len]
    refine ⟨by show 2 ≤ sizeLine; decide, fun r nr => ?_⟩
    have e6 : Ex H5 (L2.upd H5 r (.lst [.int 1, .int (l.length : Nat)])) := Ex.new nr
    have e36 := e35.trans e6
    refine ⟨_, rfl, t, CTr, dt, _, _, rfl, e36 _ _ t1, S.tri.cl, S.tri.nE, rfl, r, e, _, _, rfl, rfl, upd_same, e36 _ _ ht.ef, sizeLine_ge (by rw [nv_len, ef_len]; exact Nat.le_of_ble_eq_true rfl), fun q nq => ?_⟩
    have e7 := Ex.new (o := .lst ([.int 1, .int (l.length : Nat)] ++ nv (efOf z cs))) nq
    have e37 := e36.trans e7
    refine ⟨_, rfl, t, CTr, dt, _, _, rfl, e37 _ _ t1, S.tri.cl, S.tri.nH, rfl, _, rfl, by show 2 ≤ sizeLine; decide, fun r2 nr2 => ?_⟩
    have e8 := Ex.new (o := .lst [.int (hmOf z cs : Nat), .int (costN z l : Nat)]) nr2
    refine ⟨q, r2, _, _, rfl, rfl, e8 _ _ upd_same, upd_same, sizeLine_ge (by rw [List.length_append, nv_len, ef_len]; exact Nat.le_of_ble_eq_true rfl), fun g ng => ?_⟩
    have eall := (e13.trans e37).trans e8
    exact k cs l hcs hl g _ (fresh_back eall ng) (eall.trans (Ex.new ng)) upd_same
end LE

/-! LTo: letters and texts told as bytes. -/
namespace LE
open PySem PySem.Spec PyProof.Rows L2 Evl
variable {P : Program} {w : World} {K : PySem.W.Frag} {mg : Str → Option Value} {base : Heap}
abbrev sBytesOf : Stmt := top 23
theorem sc_bytes_of : FnScope ["letters", "letter"] ["letters"] (defScope sBytesOf) := ⟨rfl, rfl, rfl, by decide +kernel, rfl, by decide +kernel, by decide +kernel⟩
def spBytesOf : Sp := fun vs H Q _ => ∃ b : List UInt8, vs = [.str (S b)] ∧ b.length ≤ 1000 ∧ RetL (ib b) H Q
theorem S_at {b : List UInt8} {i c : Nat} (h : (S b).cps[i]? = some c) : ∃ u, b[i]? = some u ∧ c = u.toNat := by
  unfold S at h
  rw [List.getElem?_toArray, List.getElem?_map] at h
  cases e : b[i]? with
  | none => rw [e] at h; cases h
  | some u =>
    rw [e] at h
    exact ⟨u, rfl, (Option.some.inj h).symm⟩
theorem S_size (b : List UInt8) : (S b).cps.size = b.length := by simp [S]
theorem ib_take {b : List UInt8} {i : Nat} {u : UInt8} (h : b[i]? = some u) : ib (b.take (i + 1)) = ib (b.take i) ++ [.int (u.toNat : Nat)] := by
  rw [List.take_succ, h]
  unfold ib
  rw [List.map_append]
  rfl
theorem ok_bytes_of {f : Addr} {fd : FuncData} (F : Fun K "bytes_of" "bytes_of" sBytesOf f fd) (ho : mg "ord" = none) : FnOk P w K mg base CX0 1 f fd ["letters"] spBytesOf := by
  refine F.ok sc_bytes_of (fun vs H Q E h => ?_) (fun cdv A outer s H vs Q E hr h => ⟨_, pss_one (ps_ret
    (pe_lc (own := [("letter", 1)]) (g := gName 1) (tt := tYes) rfl sc_bytes_of.nd (pi_str (pv 0)) (blkOk_by (N := ["letters", "letter"]) (sc := defScope sBytesOf) (by decide +kernel)) (fun _ _ _ _ _ => pg_name (i := 1) sc_bytes_of.nd rfl (Or.inl rfl)) (fun _ _ _ _ _ => pts_nil)
      (fun _ _ _ _ _ => pe_callB call_ord (by rfl) ho (by decide +kernel) (pa_cons (pv 1) pa_nil)))), ?_⟩)
  · obtain ⟨b, rfl, _⟩ := h
    rfl
  · obtain ⟨b, rfl, hz, k⟩ := h
    refine ⟨_, rfl, S b, rfl, fun D hD => ?_⟩
    refine lc_it (walk_str (z := S b)) (fun i H' => Ex H H' ∧ H' D = some (.lst (ib (b.take i)))) ⟨Ex.new hD, upd_same⟩ (fun _ _ _ _ => trivial) ?_ ?_
    · rintro i x H1 H1' hi ⟨e1, h1⟩ ⟨rfl, c, hc, rfl⟩
      obtain ⟨u, hu, rfl⟩ := S_at hc
      refine ⟨rfl, ?_⟩
      unfold tYes
      refine iteT ⟨_, rfl, _, rfl, rfl, _, h1, sizeLine_gt (by rw [ib_len, List.length_take]; omega), Ex.mut e1 hD, ?_⟩
      rw [ib_take hu]
      exact upd_same
    · rintro H1 ⟨e1, h1⟩
      rw [S_size, List.take_length] at h1
      exact k D H1 hD e1 h1
abbrev sTold : Stmt := top 29
theorem sc_told : FnScope ["lines", "told", "line"] ["lines"] (defScope sTold) := ⟨rfl, rfl, rfl, by decide +kernel, rfl, by decide +kernel, by decide +kernel⟩
def spTold : Sp := fun vs H Q _ => ∃ (a : Addr) (t : List (List UInt8)), vs = [.ref a] ∧ H a = some (.lst (tv t)) ∧ t.length ≤ 100 ∧ (∀ x ∈ t, x.length ≤ 16) ∧ RetL (ib (Vaseda.showText t)) H Q
theorem show_take {t : List (List UInt8)} {i : Nat} {x : List UInt8} (h : t[i]? = some x) : Vaseda.showText (t.take (i + 1)) = (Vaseda.showText (t.take i) ++ x) ++ [10] := by
  rw [List.take_succ, h]
  unfold Vaseda.showText
  rw [List.flatMap_append, List.append_assoc]
  simp
theorem show_len : ∀ (t : List (List UInt8)), (∀ x ∈ t, x.length ≤ 16) → (Vaseda.showText t).length ≤ t.length * 17
  | [], _ => Nat.zero_le _
  | x :: t, h => by
    have ih := show_len t fun y hy => h y (List.mem_cons_of_mem _ hy)
    have hx := h x List.mem_cons_self
    show ((x ++ [10]) ++ Vaseda.showText t).length ≤ (t.length + 1) * 17
    rw [List.length_append, List.length_append, List.length_singleton]
    omega
theorem ib_app (a b : List UInt8) : ib (a ++ b) = ib a ++ ib b := List.map_append ..
theorem ok_told {f : Addr} {fd : FuncData} (F : Fun K "told_as_bytes" "told_as_bytes" sTold f fd) (hl : Gc mg "LINE_FEED" (.int 10)) (gb : Dn P w K mg base CX0 1 "bytes_of" spBytesOf 1) : FnOk P w K mg base CX0 2 f fd ["lines"] spTold := by
  refine F.ok sc_told (fun vs H Q E h => ?_) (fun cdv A outer s H vs Q E hr h => ⟨_, pss_cons (ps_set (i := 1) sc_told.nd rfl (.inl rfl) (pe_lst pa_nil))
    (pss_cons (ps_for PassesOwn.never rfl (pi_list (pv 0)) (pg_name (i := 2) sc_told.nd rfl (.inl rfl))
      (pss_cons (ps_expr (pe_bm PySem.F.plainAttrs_list PySem.F.slot_list_extend PySem.F.type_list_extend mt_extend (pv 1) (pa_cons (pe_dn gb hr pass0 (pa_cons (pv 2) pa_nil)) pa_nil)))
      (pss_one (ps_expr (pe_bm PySem.F.plainAttrs_list PySem.F.slot_list_append PySem.F.type_list_append mt_append (pv 1) (pa_cons (pe_gc hl) pa_nil))))))
    (pss_one (ps_ret (pv 1)))), ?_⟩)
  · obtain ⟨a, t, rfl, _⟩ := h
    rfl
  · obtain ⟨a, t, rfl, ha, hz, hx16, k⟩ := h
    refine ⟨Nat.zero_le _, fun L hL => ?_⟩
    refine ⟨_, rfl, a, rfl, ⟨_, SqL.of (Ex.new hL _ _ ha)⟩, for_list (K := K) (a := a) (xs := tv t) (fun i σ H' => ∃ v : Option V, σ = [some (.ref a), some (.ref L), v] ∧ Ex H H' ∧ H' L = some (.lst (ib (Vaseda.showText (t.take i))))) ⟨none, rfl, Ex.new hL, upd_same⟩ (fun i σ H' _ ⟨_, _, e, _⟩ => SqL.of (e _ _ ha)) ?_ ?_⟩
    · rintro i v σ H1 hi ⟨v2, rfl, e1, hl1⟩
      obtain ⟨x, hx, rfl⟩ := tv_of hi
      have hxl := hx16 x (List.mem_of_getElem? hx)
      have hlt := (List.getElem?_eq_some_iff.mp hx).1
      have hsl : (Vaseda.showText (t.take i)).length ≤ (t.take i).length * 17 := show_len _ fun y hy => hx16 y (List.mem_of_mem_take hy)
      rw [List.length_take] at hsl
      refine ⟨_, rfl, .inl ⟨rfl, _, SqL.of hl1⟩, _, rfl, x, rfl, by omega, fun p H2 hp e2 h2 => ?_⟩
      refine ⟨L, p, _, _, rfl, rfl, e2 _ _ hl1, h2, sizeLine_ge (by rw [ib_len, ib_len]; omega), ?_⟩
      refine ⟨_, rfl, .inl ⟨rfl, _, SqL.of upd_same⟩, L, _, _, rfl, rfl, upd_same, sizeLine_gt (by rw [List.length_append, ib_len, ib_len]; omega), ?_⟩
      refine ⟨_, rfl, ?_, ?_⟩
      · rw [upd_upd]
        exact Ex.mut (e1.trans e2) hL
      · rw [upd_same, show_take hx, ib_app, ib_app]
        rfl
    · rintro σ H1 ⟨v, rfl, e1, hl1⟩
      rw [tv_len, List.take_length] at hl1
      exact ⟨_, rfl, k L H1 hL e1 hl1⟩
end LE

/-! LS7: shown, origins, history, guard. -/
namespace LE
open PySem PySem.Spec PyProof.Rows L2 Evl
open VasedBase (isLetter isDigit)
open Vaseda (Cmd works)
open Vasedz (Held Tag Tagged)
variable {P : Program} {w : World} {K : PySem.W.Frag} {mg : Str → Option Value} {base : Heap}
/-! ### shown -/
abbrev sShown : Stmt := inClass (top 91) 11
theorem sc_shown : FnScope ["self", "told"] ["self"] (defScope sShown) := ⟨rfl, rfl, rfl, by decide +kernel, rfl, by decide +kernel, by decide +kernel⟩
def shownAns (z : Held) : List V := [.int (z.now.length : Nat), .int ((Vaseda.showText (Vasedz.textOf z.now)).length : Nat)] ++ ib (Vaseda.showText (Vasedz.textOf z.now))
def spShown (CS CV : Addr) : Sp := fun vs H Q _ => ∃ (X : List Addr) (ss vl ul : Addr) (z : Held), vs = [.ref ss] ∧ SesAt CS CV X H ss vl ul (some z) ∧ okText (Vasedz.textOf z.now) ∧ RetL (shownAns z) H Q
theorem ok_shown {f CS CV : Addr} {fd : FuncData} (F : Fun K "shown" "Session.shown" sShown f fd) (M : SesM P w K mg base CS CV) (gt : Dn P w K mg base CX0 2 "told_as_bytes" spTold 1) : FnOk P w K mg base CX0 3 f fd ["self"] (spShown CS CV) := by
  refine F.ok sc_shown (fun vs H Q E h => ?_) (fun cdv A outer s H vs Q E hr h => ⟨_, pss_cons (ps_set (i := 1) sc_shown.nd rfl (.inl rfl) (pe_dn gt hr pass0 (pa_cons (pe_fld (pe_mn0 M.now hr pass0 (pv 0)) rfl) pa_nil)))
    (pss_one (ps_ret (pe_op op_cat (pe_lst (pa_cons (pe_callB call_len_seq (by rfl) M.t.len PySem.boot_len (pa_cons (pe_fld (pe_mn0 M.now hr pass0 (pv 0)) rfl) pa_nil)) (pa_cons (pe_callB call_len_seq (by rfl) M.t.len PySem.boot_len (pa_cons (pv 1) pa_nil)) pa_nil))) (pv 1)))), ?_⟩)
  · obtain ⟨X, ss, vl, ul, z, rfl, _⟩ := h
    rfl
  · obtain ⟨X, ss, vl, ul, z, rfl, hS, hT, k⟩ := h
    obtain ⟨dx, h1⟩ := hS.ob
    have T := M.t
    refine ⟨_, rfl, ss, dx, _, rfl, h1, rfl, X, ss, vl, ul, z, rfl, hS, fun H1 p va vb e1 hv _ _ => ?_⟩
    obtain ⟨dv, os, v1, v2, v3, v4⟩ := hv.ex
    refine ⟨p, CV, dv, _, _, rfl, v1, T.tv.cl, T.tv.nLines, rfl, va, _, rfl, v2, by have := hT.1; omega, hT.2, fun L H2 nL e2 hL => ?_⟩
    have e12 := e1.trans e2
    refine ⟨_, rfl, ss, dx, _, rfl, e12 _ _ h1, rfl, X, ss, vl, ul, z, rfl, hS.ex e12, fun H3 p3 va3 vb3 e3 hv3 _ _ => ?_⟩
    obtain ⟨dv3, os3, x1, x2, x3, x4⟩ := hv3.ex
    refine ⟨p3, CV, dv3, _, _, rfl, x1, T.tv.cl, T.tv.nLines, rfl, va3, _, rfl, .inl (SqL.of x2), ?_⟩
    rw [text_len]
    refine ⟨_, rfl, L, _, rfl, .inl (SqL.of (e3 _ _ hL)), ?_⟩
    rw [ib_len]
    refine ⟨by show 2 ≤ sizeLine; decide, fun r nr => ?_⟩
    have er := Ex.new (o := .lst [.int (z.now.length : Nat), .int ((Vaseda.showText (Vasedz.textOf z.now)).length : Nat)]) nr
    have hsl := show_len _ hT.2
    have h24 := hT.1
    refine ⟨_, rfl, r, L, _, _, rfl, rfl, upd_same, er _ _ (e3 _ _ hL), sizeLine_ge (by rw [ib_len]; show 2 + _ ≤ _; omega), fun q nq => ?_⟩
    have eall := (e12.trans e3).trans er
    exact k q _ (fresh_back eall nq) (eall.trans (Ex.new nq)) upd_same
/-! ### origins -/
abbrev sOrigins : Stmt := inClass (top 91) 12
theorem sc_origins : FnScope ["self", "told", "origin"] ["self"] (defScope sOrigins) := ⟨rfl, rfl, rfl, by decide +kernel, rfl, by decide +kernel, by decide +kernel⟩
def orgAns (l : Tagged) : List V := l.flatMap fun g => [.int (orgN g : Nat), .int (g.by_ : Nat)]
theorem org_take {l : Tagged} {i : Nat} {g : Tag} (h : l[i]? = some g) : orgAns (l.take (i + 1)) = orgAns (l.take i) ++ [.int (orgN g : Nat), .int (g.by_ : Nat)] := by
  unfold orgAns
  rw [take_more' h, List.flatMap_append]
  simp
theorem org_len (l : Tagged) : (orgAns l).length = 2 * l.length := by
  unfold orgAns
  induction l with
  | nil => rfl
  | cons g l ih =>
    rw [List.flatMap_cons, List.length_append, ih]
    show 2 + 2 * l.length = 2 * (l.length + 1)
    omega
def spOrigins (CS CV : Addr) : Sp := fun vs H Q _ => ∃ (X : List Addr) (ss vl ul : Addr) (z : Held), vs = [.ref ss] ∧ SesAt CS CV X H ss vl ul (some z) ∧ okText (Vasedz.textOf z.now) ∧ RetL (.int (z.now.length : Nat) :: orgAns z.now) H Q
theorem ok_origins {f CS CV : Addr} {fd : FuncData} (F : Fun K "origins_now" "Session.origins_now" sOrigins f fd) (M : SesM P w K mg base CS CV) (hl : mg "list" = none) : FnOk P w K mg base CX0 2 f fd ["self"] (spOrigins CS CV) := by
  refine F.ok sc_origins (fun vs H Q E h => ?_) (fun cdv A outer s H vs Q E hr h => ⟨_, pss_cons (ps_set (i := 1) sc_origins.nd rfl (.inl rfl) (pe_lst (pa_cons (pe_callB call_len_seq (by rfl) M.t.len PySem.boot_len (pa_cons (pe_fld (pe_mn0 M.now hr pass0 (pv 0)) rfl) pa_nil)) pa_nil)))
    (pss_cons (ps_for PassesOwn.never rfl (pi_list (pe_fld (pe_mn0 M.now hr pass0 (pv 0)) rfl)) (pg_name (i := 2) sc_origins.nd rfl (.inl rfl))
      (pss_one (ps_expr (pe_bm PySem.F.plainAttrs_list PySem.F.slot_list_extend PySem.F.type_list_extend mt_extend (pv 1) (pa_cons (pe_callTy call_list_of (by rfl) hl boot_list (pa_cons (pv 2) pa_nil)) pa_nil)))))
    (pss_one (ps_ret (pv 1)))), ?_⟩)
  · obtain ⟨X, ss, vl, ul, z, rfl, _⟩ := h
    rfl
  · obtain ⟨X, ss, vl, ul, z, rfl, hS, hT, k⟩ := h
    obtain ⟨dx, h1⟩ := hS.ob
    have T := M.t
    refine ⟨_, rfl, ss, dx, _, rfl, h1, rfl, X, ss, vl, ul, z, rfl, hS, fun H1 p va vb e1 hv _ _ => ?_⟩
    obtain ⟨dv, os, v1, v2, v3, v4⟩ := hv.ex
    refine ⟨p, CV, dv, _, _, rfl, v1, T.tv.cl, T.tv.nLines, rfl, va, _, rfl, .inl (SqL.of v2), ?_⟩
    rw [text_len]
    refine ⟨by show 1 ≤ sizeLine; decide, fun L hL => ?_⟩
    have nLH := fresh_back e1 hL
    have e2 := e1.trans (Ex.new (o := .lst [.int (z.now.length : Nat)]) hL)
    refine ⟨_, rfl, ss, dx, _, rfl, e2 _ _ h1, rfl, X, ss, vl, ul, z, rfl, hS.ex e2, fun H3 p3 va3 vb3 e3 hv3 _ _ => ?_⟩
    obtain ⟨dv3, os3, x1, x2, x3, x4⟩ := hv3.ex
    have hL3 := e3 L _ upd_same
    have h24 : z.now.length ≤ 24 := by
      have := hT.1
      simpa [Vasedz.textOf] using this
    have nvL : vb3 ≠ L := fun e => by
      rw [e, hL3] at x3
      have z1 : [V.int (z.now.length : Nat)] = os3 := HO.lst.inj (Option.some.inj x3)
      have z2 := x4.len
      rw [← z1] at z2
      obtain ⟨g, hg⟩ : ∃ g, z.now[0]? = some g := ⟨_, List.getElem?_eq_getElem (by rw [← z2]; exact Nat.zero_lt_one)⟩
      obtain ⟨r, q1, _⟩ := x4.at_ 0 g hg
      rw [← z1] at q1
      cases q1
    refine ⟨p3, CV, dv3, _, _, rfl, x1, T.tv.cl, T.tv.nOrigins, rfl, vb3, rfl, ⟨_, SqL.of x3⟩, for_list (K := K) (a := vb3) (xs := os3) (fun i σ H' => ∃ v : Option V, σ = [some (.ref ss), some (.ref L), v] ∧ Ex H H' ∧ But [L] H3 H' ∧ H' L = some (.lst (.int (z.now.length : Nat) :: orgAns (z.now.take i)))) ⟨none, rfl, e2.trans e3, But.of (Ex.refl _), hL3⟩ (fun i σ H' _ ⟨_, _, _, b, _⟩ => SqL.of (b _ _ x3 (by simpa using nvL))) ?_ ?_⟩
    · rintro i x σ H4 hi ⟨v, rfl, e4, b4, hl4⟩
      have hlt := (List.getElem?_eq_some_iff.mp hi).1
      obtain ⟨g, hg⟩ : ∃ g, z.now[i]? = some g := ⟨_, List.getElem?_eq_getElem (by rw [← x4.len]; exact hlt)⟩
      obtain ⟨r, q1, q2⟩ := x4.at_ i g hg
      rw [hi] at q1
      cases q1
      have nrL : r ≠ L := ne_of q2 hL3 (fun z => by cases z)
      have q3 := b4 _ _ q2 (by simpa using nrL)
      have hlen := org_len (z.now.take i)
      rw [List.length_take] at hlen
      refine ⟨_, rfl, .inl ⟨rfl, _, SqL.of hl4⟩, _, rfl, r, _, rfl, .inr (SqT.of q3), fun m nm => ?_⟩
      refine ⟨L, m, _, _, rfl, rfl, Ex.new nm _ _ hl4, upd_same, sizeLine_ge (by rw [List.length_cons]; show _ + 1 + 2 ≤ _; omega), ?_⟩
      refine ⟨_, rfl, Ex.mut (e4.trans (Ex.new nm)) nLH, (b4.trans (But.of (Ex.new nm))).upd (by simp), ?_⟩
      rw [upd_same, org_take hg]
      rfl
    · rintro σ H4 ⟨v, rfl, e4, b4, hl4⟩
      rw [List.take_of_length_le (by rw [x4.len]; exact Nat.le_refl _)] at hl4
      exact ⟨_, rfl, k L H4 nLH e4 hl4⟩
/-! ### history -/
abbrev sHistory : Stmt := inClass (top 91) 15
theorem sc_history : FnScope ["self", "sizes", "version"] ["self"] (defScope sHistory) := ⟨rfl, rfl, rfl, by decide +kernel, rfl, by decide +kernel, by decide +kernel⟩
def histAns (z : Held) : List V := [.int (z.past.length : Nat), .int (z.future.length : Nat)] ++ (vers (some z)).map fun l => .int (l.length : Nat)
def spHistory (CS CV : Addr) : Sp := fun vs H Q _ => ∃ (X : List Addr) (ss vl ul : Addr) (z : Held), vs = [.ref ss] ∧ SesAt CS CV X H ss vl ul (some z) ∧ z.past.length ≤ 1000 ∧ RetL (histAns z) H Q
theorem ok_history {f CS CV : Addr} {fd : FuncData} (F : Fun K "history" "Session.history" sHistory f fd) (M : SesM P w K mg base CS CV) : FnOk P w K mg base CX0 2 f fd ["self"] (spHistory CS CV) := by
  refine F.ok sc_history (fun vs H Q E h => ?_) (fun cdv A outer s H vs Q E hr h => ⟨_, pss_cons (ps_setLc (i := 1) (own := [("version", 2)]) (g := gName 2) (tt := tYes) (te := tCB (rLenS K) (tCons (tFld K (tVar 2) "lines") tNil)) rfl sc_history.nd rfl rfl (sw_true rfl rfl rfl (by decide +kernel)) (pi_list (pe_fld (pv 0) rfl))
      (blkOk_by (N := ["self", "sizes", "version"]) (sc := defScope sHistory) (by decide +kernel)) (fun _ _ _ _ _ => pg_name (i := 2) sc_history.nd rfl (Or.inl rfl)) (fun _ _ _ _ _ => pts_nil) (fun _ _ _ _ _ => pe_callB call_len_seq (by rfl) M.t.len PySem.boot_len (pa_cons (pe_fld (pv 2) (by rfl)) pa_nil)))
    (pss_one (ps_ret (pe_op op_cat (pe_lst (pa_cons (pe_mn0 M.steps hr pass0 (pv 0)) (pa_cons (pe_callB call_len_seq (by rfl) M.t.len PySem.boot_len (pa_cons (pe_fld (pv 0) rfl) pa_nil)) pa_nil))) (pv 1)))), ?_⟩)
  · obtain ⟨X, ss, vl, ul, z, rfl, _⟩ := h
    rfl
  · obtain ⟨X, ss, vl, ul, z, rfl, hS, hz, k⟩ := h
    obtain ⟨dx, h1⟩ := hS.ob
    obtain ⟨ps, h2, h3, h4⟩ := hS.vs
    have T := M.t
    have hlen : (ps.map V.ref).length = z.past.length + 1 := by rw [List.length_map, h3, vers_len]
    have hL : EvL (tLc (iList K (tFld K (tVar 0) "versions")) (gName 2) tYes (tCB (rLenS K) (tCons (tFld K (tVar 2) "lines") tNil)) [2]) (L2.start ["self", "sizes", "version"] [.ref ss]) H ((List.range (ps.map V.ref).length).map fun i => .int (((vers (some z)).getD i []).length : Nat)) := by
      refine el_ix _ (ev_fld (ev_var rfl) h1 T.cl T.nV rfl) (SqL.of h2) (by omega) (fun _ => rfl) (fun i x H1 e hi => ?_)
      rw [List.getElem?_map] at hi
      cases ep : ps[i]? with
      | none => rw [ep] at hi; cases hi
      | some p =>
        rw [ep] at hi
        cases hi
        have hlt := (List.getElem?_eq_some_iff.mp ep).1
        have ht : (vers (some z))[i]? = some ((vers (some z)).getD i []) := by
          rw [List.getD, List.getElem?_eq_getElem (by omega)]
          rfl
        obtain ⟨va, vb, hv, _, _⟩ := h4 i p _ ep ht
        obtain ⟨dv, os, v1, v2, v3, v4⟩ := (hv.of e).ex
        have q := ev_lenR (K := K) (er_v (ev_fld (K := K) (σ := (wipe (L2.start ["self", "sizes", "version"] [V.ref ss]) [2]).set 2 (some (.ref p))) (to := tVar 2) (ev_var rfl) v1 T.tv.cl T.tv.nLines rfl) v2)
        rw [text_len] at q
        exact q
    refine q_asgL hL fun D H1 hD e1 h1' => ?_
    have hmap : ((List.range (ps.map V.ref).length).map fun i => V.int (((vers (some z)).getD i []).length : Nat)) = (vers (some z)).map fun l => V.int (l.length : Nat) := by
      have hr2 := range_map (fun l : Tagged => ((l.length : Nat) : Int)) [] (vers (some z))
      have e5 : (ps.map V.ref).length = (vers (some z)).length := by rw [List.length_map, h3]
      rw [e5]
      have := congrArg (List.map V.int) hr2
      rw [List.map_map, List.map_map] at this
      exact this
    rw [hmap] at h1'
    obtain ⟨qs, u1, u2, _⟩ := (hS.ex e1).us
    refine ⟨_, rfl, ss, dx, _, rfl, e1 _ _ h1, rfl, X, ss, vl, ul, z, rfl, hS.ex e1, fun H2 e2 => ?_⟩
    refine ⟨_, rfl, ss, CS, dx, _, _, rfl, e2 _ _ (e1 _ _ h1), T.cl, T.nU, rfl, ul, _, rfl, .inl (SqL.of (e2 _ _ u1)), ?_⟩
    have lu : (qs.map V.ref).length = z.future.length := by
      rw [List.length_map, u2]
      exact List.length_reverse
    rw [lu]
    refine ⟨by show 2 ≤ sizeLine; decide, fun r nr => ?_⟩
    have er := Ex.new (o := .lst [.int (z.past.length : Nat), .int (z.future.length : Nat)]) nr
    refine ⟨_, rfl, r, D, _, _, rfl, rfl, upd_same, er _ _ (e2 _ _ h1'), sizeLine_ge (by rw [List.length_map, vers_len]; show 2 + _ ≤ _; omega), fun q nq => ?_⟩
    have eall := (e1.trans e2).trans er
    exact k q _ (fresh_back eall nq) (eall.trans (Ex.new nq)) upd_same
end LE

/-! LS8: guard. -/
namespace LE
open PySem PySem.Spec PyProof.Rows L2 Evl
open VasedBase (isLetter isDigit)
open Vaseda (Cmd works)
open Vasedz (Held Tag Tagged)
section
variable {K : PySem.W.Frag} {σ : L2.St} {H : Hp} {te to : TE} {t : TT}
/-- a comprehension over a list, new or not -/
theorem el_lcR {xs : List V} {tl : TE} {j : Nat} {vs : List Nat} (f : Nat → Bool) (v : Nat → V) (h : EvR tl σ H xs) (hz : xs.length ≤ 30000)
    (hw : ∀ x, wipe ((wipe σ vs).set j (some x)) vs = wipe σ vs) (ht : ∀ (i : Nat) (x : V) H1, Ex H H1 → xs[i]? = some x → EvT t ((wipe σ vs).set j (some x)) H1 (f i))
    (he : ∀ (i : Nat) (x : V) H1, Ex H H1 → xs[i]? = some x → f i = true → Ev te ((wipe σ vs).set j (some x)) H1 (v i)) : EvL (tLc (iList K tl) (gName j) t te vs) σ H (given xs.length f v) := by
  intro H0 e Q q
  refine h H0 e _ fun a H1 e1 hx => ⟨a, rfl, ⟨xs, sq_of hx⟩, fun Dl hD => ?_⟩
  refine lc_list (xs := xs) (Cw H1 f v Dl) ⟨hD, Ex.new hD, upd_same⟩ (fun i H' _ p => sq_of (p.2.1 a _ hx)) (fun i x H' hi p => ?_) fun H' p => ?_
  · have hlt := (List.getElem?_eq_some_iff.mp hi).1
    have ee := e.trans e1
    exact ⟨hw x, cw_turn p (by omega) (ht i x H1 ee hi) fun hf => he i x H1 ee hi hf⟩
  · exact q Dl H' (fresh_back e1 p.1) (e1.trans p.2.1) p.2.2
/-- self.now().lines -/
theorem er_now {mg : Str → Option Value} {CS CV ss vl ul : Addr} {z : Held} (T : TxtSes K mg CS CV) (ho : Ev to σ H (.ref ss)) (hS : SesAt CS CV X H ss vl ul (some z)) : EvR (tFld K (tMeth CS "now" (spNow CS CV) [] E0 to tNil) "lines") σ H (tv (Vasedz.textOf z.now)) := fun H1 e Q q =>
  ho H1 e _ fun H2 e2 => by
    obtain ⟨dx, h1⟩ := hS.ob
    refine ⟨ss, dx, _, rfl, (e.trans e2) _ _ h1, rfl, X, ss, vl, ul, z, rfl, hS.ex (e.trans e2), fun H3 p va vb e3 hv _ _ => ?_⟩
    obtain ⟨dv, os, v1, v2, v3, v4⟩ := hv.ex
    exact ⟨p, CV, dv, _, _, rfl, v1, T.tv.cl, T.tv.nLines, rfl, q va H3 (e2.trans e3) v2⟩
end
variable {P : Program} {w : World} {K : PySem.W.Frag} {mg : Str → Option Value} {base : Heap}
/-! ### guard -/
abbrev sGuard : Stmt := inClass (top 91) 14
theorem sc_guard : FnScope ["self", "row", "line"] ["self", "row"] (defScope sGuard) := ⟨rfl, rfl, rfl, by decide +kernel, rfl, by decide +kernel, by decide +kernel⟩
def guarded (z : Held) (b : List UInt8) : Held := { z with guard := b }
def spGuard (K : PySem.W.Frag) (CS CV NR : Addr) : Sp := fun vs H Q E => ∃ (X : List Addr) (ss vl ul a : Addr) (z : Held) (b : List UInt8), vs = [.ref ss, .ref a] ∧ SesAt CS CV X H ss vl ul (some z) ∧ okText (Vasedz.textOf z.now) ∧ SqL K H a (ib b) ∧ b.length ≤ 10000 ∧
  (lineOk b = false → ∀ H', Ex H H' → E (.ref NR) none H') ∧ (lineOk b = true → SesRet CS CV X H ss vl ul (some (guarded z b)) [.int 1, .int (((Vasedz.textOf z.now).filter (isG b)).length : Nat)] Q)
theorem ok_guard {f CS CV NR : Addr} {fd : FuncData} (F : Fun K "guard" "Session.guard" sGuard f fd) (M : SesM P w K mg base CS CV) (gl : Dn P w K mg base (L2.CX P w) 2 "letters_told" (spLineOf K NR) 1) (gg : Dn P w K mg base CX0 1 "is_guarded" spIsG 2) :
    FnOk P w K mg base (L2.CX P w) 3 f fd ["self", "row"] (spGuard K CS CV NR) := by
  refine F.okX sc_guard (fun vs H Q E h => ?_) (fun cdv A outer s H vs Q E hr h => ⟨_, pss_cons (ps_fld (pv 0) (pe_dn gl hr (pass1 rfl rfl rfl rfl) (pa_cons (pv 1) pa_nil)) rfl)
    (pss_one (ps_ret (pe_lst (pa_cons pe_int (pa_cons (pe_callB call_len_seq (by rfl) M.t.len PySem.boot_len (pa_cons (pe_lc (own := [("line", 2)]) (g := gName 2) (tt := tB (tCall spIsG [] E0 (tCons (tVar 2) (tCons (tFld K (tVar 0) "guarded") tNil)))) rfl sc_guard.nd (pi_list (pe_fld (pe_mn0 M.now hr pass0 (pv 0)) rfl))
      (blkOk_by (N := ["self", "row", "line"]) (sc := defScope sGuard) (by decide +kernel)) (fun _ _ _ _ _ => pg_name (i := 2) sc_guard.nd rfl (Or.inl rfl)) (fun _ _ _ _ _ => pts_one (pt_val (pe_dn gg (hr.mono (Nat.le_refl 2)) pass0 (pa_cons (pv 2) (pa_cons (pe_fld (pv 0) (by rfl)) pa_nil))))) (fun _ _ _ _ _ => pe_int)) pa_nil)) pa_nil))))), ?_⟩)
  · obtain ⟨X, ss, vl, ul, a, z, b, rfl, _⟩ := h
    rfl
  · obtain ⟨X, ss, vl, ul, a, z, b, rfl, hS, hT, hb, hz, kE, k⟩ := h
    obtain ⟨dx, h1⟩ := hS.ob
    have T := M.t
    refine ⟨_, rfl, a, b, rfl, hb, hz, kE, fun lo H1 e1 => ?_⟩
    refine ⟨_, rfl, ss, CS, dx, _, rfl, e1 _ _ h1, T.cl, T.nG, by show 3 < 1000; decide, ?_⟩
    have eF : putF "guarded" (.str (S b)) (sF vl ul (grd (some z))) = sF vl ul (grd (some (guarded z b))) := rfl
    rw [eF]
    have hS1 := hS.ex e1
    have h11 := e1 _ _ h1
    have hS2 : SesAt CS CV X (upd H1 ss (.ins CS dx (sF vl ul (grd (some (guarded z b)))))) ss vl ul (some (guarded z b)) :=
      ⟨⟨dx, upd_same⟩, hS1.vs.ins h11 (by simp) (ver_ne h11), hS1.us.ins h11 (by simp) (ver_ne h11), hS1.ne, al_but (F := [ss]) hS1.al ((But.of (Ex.refl H1)).upd (by simp)) fun c hc => ⟨_, (congrArg (upd H1 ss (.ins CS dx (sF vl ul (grd (some (guarded z b)))))) (mem1 hc)).trans upd_same⟩⟩
    have h2 : upd H1 ss (.ins CS dx (sF vl ul (grd (some (guarded z b))))) ss = some (.ins CS dx (sF vl ul (grd (some (guarded z b))))) := upd_same
    have b2 : But [ss, vl, ul] H1 (upd H1 ss (.ins CS dx (sF vl ul (grd (some (guarded z b)))))) := (But.of (Ex.refl H1)).upd (by simp)
    generalize upd H1 ss (.ins CS dx (sF vl ul (grd (some (guarded z b))))) = H2 at hS2 h2 b2
    have hl24 := hT.1
    have hL := el_lcR (K := K) (t := tB (tCall spIsG [] E0 (tCons (tVar 2) (tCons (tFld K (tVar 0) "guarded") tNil)))) (te := tC (.int 1)) (σ := [some (.ref ss), some (.ref a), none]) (j := 2) (vs := [2]) (fun i => isG b ((Vasedz.textOf z.now).getD i [])) (fun _ => .int 1)
      (er_now T (ev_var (i := 0) rfl) hS2) (by rw [tv_len]; exact Nat.le_trans hl24 (by decide)) (fun _ => rfl) (fun i x H3 e3 hi => by
        obtain ⟨y, hy, rfl⟩ := tv_of hi
        have ey : (Vasedz.textOf z.now).getD i [] = y := by
          rw [List.getD]
          show ((Vasedz.textOf z.now)[i]?).getD [] = y
          have hy' : (Vasedz.textOf z.now)[i]? = some y := hy
          rw [hy']
          rfl
        rw [ey]
        exact et_B (ev_call (ea_cons (ev_var rfl) (ea_cons (ev_fld (ev_var rfl) (e3 _ _ h2) T.cl T.nG rfl) ea_nil)) (fun H4 e4 Q4 q4 E4 => ⟨y, b, rfl, fun H5 e5 => q4 H5 e5⟩))) (fun i x H3 e3 hi _ => ev_c)
    have hlen : (given (tv (Vasedz.textOf z.now)).length (fun i => isG b ((Vasedz.textOf z.now).getD i [])) fun _ => V.int 1).length = ((Vasedz.textOf z.now).filter (isG b)).length := by
      rw [given_count, tv_len]
      exact range_count (isG b) [] (Vasedz.textOf z.now)
    have hA := ev_lenN (K := K) hL
    have hlen : (given (tv (Vasedz.textOf (guarded z b).now)).length (fun i => isG b ((Vasedz.textOf z.now).getD i [])) fun _ => V.int 1).length = ((Vasedz.textOf z.now).filter (isG b)).length := hlen
    rw [hlen] at hA
    refine s_retL (el_lst (ea_cons ev_c (ea_cons hA ea_nil)) (by show 2 ≤ 100000; decide)) fun p H3 np e3 h3 => ?_
    have ball := ((But.of (l := [ss, vl, ul]) e1).trans b2)
    refine k lo H3 vl ul p (hS2.ex e3) (.inl (by simp)) (.inl (by simp)) (ball.trans (But.of e3)) ?_ h3
    cases c : H p with
    | none => rfl
    | some u =>
      by_cases hm : p ∈ [ss, vl, ul]
      · obtain ⟨ps7, y1, _⟩ := hS2.vs
        obtain ⟨qs7, y2, _⟩ := hS2.us
        simp only [List.mem_cons, List.not_mem_nil, or_false] at hm
        rcases hm with hm | hm | hm
        · rw [hm, h2] at np; cases np
        · rw [hm, y1] at np; cases np
        · rw [hm, y2] at np; cases np
      · rw [ball _ _ c hm] at np
        cases np
end LE

/-! LOut: what a run comes to, none where it is too much; two of them held against each other. -/
namespace LE
open PySem PySem.Spec PyProof.Rows L2 Evl
open VasedBase (isLetter isDigit)
open Vaseda (Cmd works Work Out)
open Vasedz (Held Tag Tagged)
section
variable {X : Cx} {CX : CXT} {k j : Nat} {C : Addr} {x m : Str} {sp : Sp} {p pos apos : Pos} {e o : Expr} {es : List Expr} {ta : TE} {t : TA} {E : L2.St → XK} {n : Nat}
/-- a def called by its name within a try -/
theorem pe_dnS (c : Dn X.prog X.w X.K X.mg X.base CX k x sp n) (hr : Room j X.A) (hx : ∀ σ, L2.PassesAt CX X σ (E σ)) (ha : PA X (e :: es) t) (hk : k ≤ j := by decide) (hg : Gl X x := by rfl)
    (hdb : (x == ("__debug__" : Str)) = false := by decide) (he : starEach (e :: es) X.env = (false, eval e X.env) :: starEach es X.env := by rfl) (hpl : (backTo pos (starEach es X.env)).any (·.1) = false := by rfl) :
    PE X (.Call (.Name x p) (e :: es) [] pos) (tCallS sp E t) := by
  obtain ⟨f, fd, ps, F, hm, kp, b, _⟩ := c.ex
  exact pe_callS F (hr.mono hk) hg hm kp b hx ha hdb he hpl
end
variable {P : Program} {w : World} {K : PySem.W.Frag} {mg : Str → Option Value} {base : Heap}
abbrev sOut : Stmt := top 35
theorem sc_out : FnScope ["commands", "lines"] ["commands", "lines"] (defScope sOut) := ⟨rfl, rfl, rfl, by decide +kernel, rfl, by decide +kernel, by decide +kernel⟩
theorem out_text {s : List Cmd} {t : List (List UInt8)} {r : Vaseda.Result} (ho : r.outs = (works s t).zipIdx.flatMap fun w => Vaseda.outOf (w.2 + 1) w.1) : tv (Vaseda.outText r) = resV (works s t) := by
  unfold Vaseda.outText
  rw [ho]
  have h : ∀ (W : List Work) (n : Nat), tv (((W.zipIdx n).flatMap fun w => Vaseda.outOf (w.2 + 1) w.1).map fun o => o.x) = resV W := fun W => by
    induction W with
    | nil => intro n; rfl
    | cons w W ih =>
      intro n
      rw [List.zipIdx_cons, List.flatMap_cons, List.map_append, tv_app, ih (n + 1)]
      show _ = outsL w ++ resV W
      congr 1
      unfold Vaseda.outOf outsL
      rw [List.map_append, List.map_append, tv_app, tv_app, List.append_assoc]
      show outs w.pre ++ (_ ++ outs w.post) = _
      congr 2
      split <;> rfl
  exact h _ 0
def outcome (s : List Cmd) (t : List (List UInt8)) : Option (List (List UInt8)) := (Vaseda.run s t).map Vaseda.outText
def RetO (o : Option (List (List UInt8))) (H : Hp) (Q : VK) : Prop := match o with
  | none => RetV .non H Q
  | some l => RetL (tv l) H Q
def spOut (K : PySem.W.Frag) (CC : Addr) : Sp := fun vs H Q _ => ∃ (cm ta : Addr) (cs : List Cmd) (t : List (List UInt8)), vs = [.ref cm, .ref ta] ∧ CmdsAt CC H cm cs ∧ SqL K H ta (tv t) ∧ cs.length ≤ 16 ∧ (∀ c ∈ cs, wfD c.d) ∧ t.length ≤ 60 ∧ (∀ x ∈ t, x.length ≤ 16) ∧ RetO (outcome cs t) H Q
theorem ok_out {f CP CC TM : Addr} {fd : FuncData} (F : Fun K "outcome_of" "outcome_of" sOut f fd) (er : ErrT K mg "TooMuch" TM) (ex : PySem.W.exmOne K (.ref TM) (.ref TM) = some true)
    (gr : Dn P w K mg base (L2.CX P w) 4 "run" (spRun K CP CC TM) 2) (gs : Dn P w K mg base CX0 2 "result_of" (spResult CP) 1) : FnOk P w K mg base CX0 5 f fd ["commands", "lines"] (spOut K CC) := by
  refine F.ok sc_out (fun vs H Q E h => ?_) (fun cdv A outer s H vs Q E hr h => ⟨_, pss_one (ps_try_only rfl rfl ⟨rfl, by decide, .inl er.ge⟩ L2.takes0 (fun W pn xe tk _ => pss_one (ps_ret (pe_dn gs hr pass0 (pa_cons (pe_dnS gr hr (fun σ => passAt tk σ) (pa_cons (pv 0) (pa_cons (pv 1) pa_nil))) pa_nil))))
    (fun a oe cls d pn _ _ => pss_one (ps_ret pe_non))), ?_⟩)
  · obtain ⟨cm, ta, cs, t, rfl, _⟩ := h
    rfl
  · obtain ⟨cm, ta, cs, t, rfl, hc, ht, h16, wf, h60, hx, k⟩ := h
    refine ⟨_, rfl, _, rfl, cm, ta, cs, t, rfl, hc, ht, h16, wf, h60, hx, fun hn H' e' => ?_, fun hb htot H' a na e' hP => ?_⟩
    · refine ⟨true, ex, fun _ a na => ?_, fun q => nomatch q⟩
      unfold outcome at k
      rw [hn] at k
      exact k H' e'
    · refine ⟨a, t, _, rfl, hP, by omega, fun p H2 hp e2 h2 => ?_⟩
      obtain ⟨r, hr', ho⟩ := run_some hb htot
      unfold outcome at k
      rw [hr'] at k
      have k : RetL (tv (Vaseda.outText r)) H Q := k
      rw [out_text ho] at k
      exact k p H2 (fresh_back e' hp) (e'.trans e2) h2
/-! ### two outcomes -/
def dO : Option (List (List UInt8)) → PyData
  | none => .none
  | some l => .list (l.map fun x => .str (S x))
def vO (o : Option (List (List UInt8))) (v : V) (H : Hp) : Prop := match o with
  | none => v = .non
  | some l => ∃ p, v = .ref p ∧ H p = some (.lst (tv l))
theorem vO.ex {o : Option (List (List UInt8))} {v : V} {H H' : Hp} (h : vO o v H) (e : Ex H H') : vO o v H' := by
  cases o with
  | none => exact h
  | some l =>
    obtain ⟨p, h1, h2⟩ := h
    exact ⟨p, h1, e _ _ h2⟩
theorem vO.dp {o : Option (List (List UInt8))} {v : V} {H : Hp} (h : vO o v H) : Dp K H v (dO o) := by
  cases o with
  | none =>
    have e : v = .non := h
    subst e
    exact .non
  | some l =>
    obtain ⟨p, rfl, h2⟩ := h
    have hA : ∀ l : List (List UInt8), DpAll K H (tv l) (l.map fun x => PyData.str (S x)) := fun l => by
      induction l with
      | nil => exact .nil
      | cons x l ih => exact .cons (.str _) ih
    exact .lst (SqL.of h2) (hA l)
theorem S_ok (x : List UInt8) : PyData.strOk (S x) = true := by
  unfold PyData.strOk
  rw [← Array.all_toList, S_tl, List.all_eq_true]
  intro c hc
  obtain ⟨u, _, rfl⟩ := List.mem_map.mp hc
  have := u.toNat_lt
  exact decide_eq_true (by omega)
theorem dO_shaped (o : Option (List (List UInt8))) : SeqAt.shaped (dO o) = true := by
  cases o with
  | none => rfl
  | some l =>
    unfold SeqAt.shaped
    have h1 : ∀ l : List (List UInt8), PyData.canLayAll0 (l.map fun x => PyData.str (S x)) = true := fun l => by
      induction l with
      | nil => simp [PyData.canLayAll0]
      | cons x l ih =>
        rw [List.map_cons, PyData.canLayAll0, ih, Bool.and_true, PyData.canLay0]
        exact S_ok x
    have h2 : ∀ l : List (List UInt8), PyData.depthAll (l.map fun x => PyData.str (S x)) = 0 := fun l => by
      induction l with
      | nil => simp [PyData.depthAll]
      | cons x l ih =>
        rw [List.map_cons, PyData.depthAll, ih, PyData.depth]
        rfl
    have h3 : (dO (some l)).canLay0 = true := by
      show PyData.canLay0 (.list _) = true
      rw [PyData.canLay0]
      exact h1 l
    have h4 : (dO (some l)).depth = 1 := by
      show PyData.depth (.list _) = 1
      rw [PyData.depth, h2]
    rw [h3, h4]
    rfl
theorem S_beq (x y : List UInt8) : (S x == S y) = (x == y) := by
  by_cases h : x = y
  · subst h
    rw [beq_self_eq_true, beq_self_eq_true]
  · rw [beq_eq_false_iff_ne.mpr h, beq_eq_false_iff_ne.mpr fun q => h (S_inj q)]
theorem eqv_is (a b : Option (List (List UInt8))) : PyData.eqv (dO a) (dO b) = (a == b) := by
  cases a with
  | none =>
    cases b with
    | none => simp [dO, PyData.eqv]
    | some l => simp [dO, PyData.eqv]
  | some k =>
    cases b with
    | none => simp [dO, PyData.eqv]
    | some l =>
      show PyData.eqv (.list _) (.list _) = (k == l)
      rw [PyData.eqv]
      induction k generalizing l with
      | nil =>
        cases l with
        | nil => simp [PyData.eqvAll]
        | cons y l => simp [PyData.eqvAll]
      | cons x k ih =>
        cases l with
        | nil => simp [PyData.eqvAll]
        | cons y l =>
          rw [List.map_cons, List.map_cons, PyData.eqvAll, ih, PyData.eqv, S_beq]
          rfl
end LE

/-! LSm: same. -/
namespace LE
open PySem PySem.Spec PyProof.Rows L2 Evl
open VasedBase (isLetter isDigit)
open Vaseda (Cmd works Work Out)
open Vasedz (Held Tag Tagged)
variable {P : Program} {w : World} {K : PySem.W.Frag} {mg : Str → Option Value} {base : Heap}
abbrev sSame : Stmt := inClass (top 91) 13
theorem sc_same : FnScope ["self", "a", "b", "commands_a", "commands_b", "number", "version"] ["self", "a", "b"] (defScope sSame) := ⟨rfl, rfl, rfl, by decide +kernel, rfl, by decide +kernel, by decide +kernel⟩
theorem texts_vers (z : Held) : Vasedz.texts z = (vers (some z)).map Vasedz.textOf := rfl
def sameAns (s u : List Cmd) (z : Held) : List V := match Vasedz.unlike s u (Vasedz.texts z) with
  | none => [.int 1, .int ((Vasedz.texts z).length : Nat)]
  | some k => [.int 0, .int 0, .int (k : Nat)]
def spSame (K : PySem.W.Frag) (CS CV CF : Addr) : Sp := fun vs H Q E => ∃ (X : List Addr) (ss vl ul a b : Addr) (z : Held) (ba bb : List UInt8), vs = [.ref ss, .ref a, .ref b] ∧ SesAt CS CV X H ss vl ul (some z) ∧ (∀ t ∈ vers (some z), okText (Vasedz.textOf t)) ∧ z.past.length ≤ 1000 ∧ SqL K H a (ib ba) ∧ ba.length ≤ 10000 ∧ SqL K H b (ib bb) ∧ bb.length ≤ 10000 ∧
  (∀ f, Vaseda.read ba = .error f → FaultE CF f.code f.place H E) ∧ (∀ s f, Vaseda.read ba = .ok s → Vaseda.read bb = .error f → FaultE CF f.code f.place H E) ∧
  (∀ s u, Vaseda.read ba = .ok s → Vaseda.read bb = .ok u → RetL (sameAns s u z) H Q)
theorem FaultE.of {CF : Addr} {c p : Nat} {H H' : Hp} {E : XK} (h : FaultE CF c p H E) (e : Ex H H') : FaultE CF c p H' E := fun d H2 e2 h2 => h d H2 (e.trans e2) h2
theorem RetO.vo {o : Option (List (List UInt8))} {H : Hp} {Q : VK} (k : ∀ v H', Ex H H' → vO o v H' → Q v H') : RetO o H Q := by
  cases o with
  | none => exact fun H' e => k .non H' e rfl
  | some l => exact fun p H' _ e h => k (.ref p) H' e ⟨p, rfl, h⟩
theorem unlike_none {s u : List Cmd} {ts : List (List (List UInt8))} (h : ∀ (i : Nat) (t : List (List UInt8)), ts[i]? = some t → (outcome s t != outcome u t) = false) : Vasedz.unlike s u ts = none := by
  unfold Vasedz.unlike
  rw [List.findIdx?_eq_none_iff]
  intro t ht
  obtain ⟨i, hi⟩ := List.getElem?_of_mem ht
  exact h i t hi
theorem unlike_some {s u : List Cmd} {ts : List (List (List UInt8))} {k : Nat} {t : List (List UInt8)} (h : ∀ (i : Nat) (t : List (List UInt8)), i < k → ts[i]? = some t → (outcome s t != outcome u t) = false) (hk : ts[k]? = some t) (hd : (outcome s t != outcome u t) = true) : Vasedz.unlike s u ts = some k := by
  unfold Vasedz.unlike
  rw [List.findIdx?_eq_some_iff_getElem]
  obtain ⟨hlt, e⟩ := List.getElem?_eq_some_iff.mp hk
  refine ⟨hlt, by rw [e]; exact hd, fun j hj => ?_⟩
  have q := h j _ hj (List.getElem?_eq_getElem (by omega))
  have q : ((Vaseda.run s (ts[j]'(by omega))).map Vaseda.outText != (Vaseda.run u (ts[j]'(by omega))).map Vaseda.outText) = false := q
  rw [q]
  exact Bool.false_ne_true
theorem ok_same {f CS CV CC CF : Addr} {fd : FuncData} (F : Fun K "same" "Session.same" sSame f fd) (T : TxtSes K mg CS CV) (en : mg "enumerate" = none) (gc : Dn P w K mg base (L2.CX P w) 8 "commands_of" (spCommands K CF CC) 1)
    (go : Dn P w K mg base CX0 5 "outcome_of" (spOut K CC) 2) : FnOk P w K mg base (L2.CX P w) 9 f fd ["self", "a", "b"] (spSame K CS CV CF) := by
  refine F.okX sc_same (fun vs H Q E h => ?_) (fun cdv A outer s H vs Q E hr h => ⟨_, pss_cons (ps_set (i := 3) sc_same.nd rfl (.inl rfl) (pe_dn gc hr (pass1 rfl rfl rfl rfl) (pa_cons (pv 1) pa_nil)))
    (pss_cons (ps_set (i := 4) sc_same.nd rfl (.inl rfl) (pe_dn gc hr (pass1 rfl rfl rfl rfl) (pa_cons (pv 2) pa_nil)))
    (pss_cons (ps_for (passes_of rfl) rfl (pi_enum (by rfl) en (pa_cons (pe_fld (pv 0) rfl) pa_nil)) (pg_tup rfl (pgs_cons (pg_name (i := 5) sc_same.nd rfl (.inl rfl)) (pgs_cons (pg_name (i := 6) sc_same.nd rfl (.inl rfl)) pgs_nil)))
      (pss_one (ps_if (pt_cmpR (op_neD hr.units) (pe_dn go hr pass0 (pa_cons (pv 3) (pa_cons (pe_fld (pv 6) rfl) pa_nil))) (pe_dn go hr pass0 (pa_cons (pv 4) (pa_cons (pe_fld (pv 6) rfl) pa_nil))) (nomark _))
        (pss_one (ps_ret (pe_lst (pa_cons pe_int (pa_cons pe_int (pa_cons (pv 5) pa_nil)))))) pss_nil)))
    (pss_one (ps_ret (pe_lst (pa_cons pe_int (pa_cons (pe_callB call_len_seq (by rfl) T.len PySem.boot_len (pa_cons (pe_fld (pv 0) rfl) pa_nil)) pa_nil))))))), ?_⟩)
  · obtain ⟨X, ss, vl, ul, a, b, z, ba, bb, rfl, _⟩ := h
    rfl
  · obtain ⟨X, ss, vl, ul, a, b, z, ba, bb, rfl, hS, hT, hz, ha, hba, hb, hbb, kF, kG, k⟩ := h
    obtain ⟨dx, h1⟩ := hS.ob
    refine ⟨_, rfl, a, ba, rfl, ha, hba, kF, fun cs hcs H1 L1 e1 nL1 hC1 h16a hwfa => ?_⟩
    refine ⟨_, rfl, b, bb, rfl, ex_l e1 hb, hbb, fun f hf => (kG cs f hcs hf).of e1, fun cu hcu H2 L2' e2 nL2 hC2 h16b hwfb => ?_⟩
    have e12 := e1.trans e2
    have k := k cs cu hcs hcu
    have hC1' := hC1.of e2
    have hS2 := hS.ex e12
    obtain ⟨ps, v1, v2, v3⟩ := id hS2.vs
    have hlen : (Vasedz.texts z).length = ps.length := by rw [texts_vers, List.length_map, v2]
    refine ⟨_, rfl, ss, CS, dx, _, _, rfl, e12 _ _ h1, T.cl, T.nV, rfl, vl, _, rfl, SqL.of v1, ?_⟩
    refine for_it (walk_enum (xs := ps.map V.ref)) (fun i σ H' => ∃ (v5 v6 : Option V), σ = [some (.ref ss), some (.ref a), some (.ref b), some (.ref L1), some (.ref L2'), v5, v6] ∧ Ex H2 H' ∧ ∀ (j : Nat) (t : List (List UInt8)), j < i → (Vasedz.texts z)[j]? = some t → (outcome cs t != outcome cu t) = false)
      ⟨none, none, rfl, Ex.refl _, fun j t hj => absurd hj (Nat.not_lt_zero j)⟩ (fun i σ H' _ ⟨_, _, _, e, _⟩ => SqL.of (e _ _ v1)) ?_ ?_
    · rintro i x σ H3 H4 hi ⟨v5, v6, rfl, e3, hall⟩ ⟨T', n', x', rfl, hT', rfl, hn', hx'⟩
      cases hn'
      have hx' : (ps.map V.ref)[i]? = some x' := hx'
      rw [List.getElem?_map] at hx'
      cases ep : ps[i]? with
      | none => rw [ep] at hx'; cases hx'
      | some p =>
      rw [ep] at hx'
      cases hx'
      have hlt := (List.getElem?_eq_some_iff.mp ep).1
      obtain ⟨t, ht⟩ : ∃ t, (vers (some z))[i]? = some t := ⟨_, List.getElem?_eq_getElem (by omega)⟩
      obtain ⟨va, vb, hv, _, _⟩ := v3 i p t ep ht
      have htt : (Vasedz.texts z)[i]? = some (Vasedz.textOf t) := by
        rw [texts_vers, List.getElem?_map, ht]
        rfl
      have hok := hT t (List.mem_of_getElem? ht)
      have eT : Ex H3 (upd H3 T' (.tup [.int (i : Nat), .ref p])) := Ex.new hT'
      have hT2 : upd H3 T' (.tup [.int (i : Nat), .ref p]) T' = some (.tup [.int (i : Nat), .ref p]) := upd_same
      generalize upd H3 T' (.tup [.int (i : Nat), .ref p]) = H4 at eT hT2
      have e4 := e3.trans eT
      refine ⟨T', _, rfl, SqT.of hT2, rfl, _, _, rfl, _, _, rfl, rfl, ?_⟩
      obtain ⟨dv, os, w1, w2, w3, w4⟩ := (hv.of e4).ex
      refine ⟨_, rfl, _, rfl, p, CV, dv, _, _, rfl, w1, T.tv.cl, T.tv.nLines, rfl, L1, va, cs, Vasedz.textOf t, rfl, hC1'.of e4, SqL.of w2, h16a, hwfa, by have := hok.1; omega, hok.2, RetO.vo fun v1' H5 e5 ho1 => ?_⟩
      refine ⟨_, rfl, _, rfl, p, CV, dv, _, _, rfl, e5 _ _ w1, T.tv.cl, T.tv.nLines, rfl, L2', va, cu, Vasedz.textOf t, rfl, hC2.of (e4.trans e5), SqL.of (e5 _ _ w2), h16b, hwfb, by have := hok.1; omega, hok.2, RetO.vo fun v2' H6 e6 ho2 => ?_⟩
      have e46 := (e4.trans e5).trans e6
      refine ⟨_, _, (ho1.ex e6).dp, ho2.dp, dO_shaped _, dO_shaped _, _, rfl, ?_⟩
      rw [eqv_is]
      cases hd : (outcome cs (Vasedz.textOf t) == outcome cu (Vasedz.textOf t)) with
      | true =>
        refine iteF ⟨_, _, rfl, e46, fun j t' hj ht' => ?_⟩
        by_cases hji : j < i
        · exact hall j t' hji ht'
        · have ej : j = i := by omega
          subst ej
          rw [htt] at ht'
          cases ht'
          show (!_) = false
          rw [hd]
          rfl
      | false =>
        refine iteT ⟨_, rfl, by show 3 ≤ sizeLine; decide, fun r nr => ?_⟩
        have hu := unlike_some hall htt (by show (!_) = true; rw [hd]; rfl)
        unfold sameAns at k
        rw [hu] at k
        exact k r _ (fresh_back (e12.trans e46) nr) ((e12.trans e46).trans (Ex.new nr)) upd_same
    · rintro σ H3 ⟨v5, v6, rfl, e3, hall⟩
      rw [List.length_map] at hall
      have hu := unlike_none (s := cs) (u := cu) (ts := Vasedz.texts z) fun i t ht => hall i t (by have := (List.getElem?_eq_some_iff.mp ht).1; omega) ht
      unfold sameAns at k
      rw [hu, hlen] at k
      refine ⟨_, rfl, ss, CS, dx, _, _, rfl, (e12.trans e3) _ _ h1, T.cl, T.nV, rfl, vl, _, rfl, .inl (SqL.of (e3 _ _ v1)), ?_⟩
      rw [List.length_map]
      refine ⟨by show 2 ≤ sizeLine; decide, fun r nr => ?_⟩
      exact k r _ (fresh_back (e12.trans e3) nr) ((e12.trans e3).trans (Ex.new nr)) upd_same
end LE

/-! LJ: the calls in one list of numbers, by their places in it. -/
namespace LE
open PyVasedz (shape whole)
/-- how many rows a call has -/
def kRows : List Int := [1, 1, 1, 0, 0, 0, 0, 2, 1, 0]
theorem shape_is {p : Int} {n k : Nat} (h : shape p = some (n, k)) : n = 0 ∧ 0 ≤ p ∧ p ≤ 9 ∧ kRows[p.toNat]? = some (k : Int) := by
  unfold shape at h
  by_cases h0 : p = 0
  · subst h0; cases h; exact ⟨rfl, by decide, by decide, rfl⟩
  by_cases h1 : p = 1
  · subst h1; cases h; exact ⟨rfl, by decide, by decide, rfl⟩
  by_cases h2 : p = 2
  · subst h2; cases h; exact ⟨rfl, by decide, by decide, rfl⟩
  by_cases h3 : p = 3
  · subst h3; cases h; exact ⟨rfl, by decide, by decide, rfl⟩
  by_cases h4 : p = 4
  · subst h4; cases h; exact ⟨rfl, by decide, by decide, rfl⟩
  by_cases h5 : p = 5
  · subst h5; cases h; exact ⟨rfl, by decide, by decide, rfl⟩
  by_cases h6 : p = 6
  · subst h6; cases h; exact ⟨rfl, by decide, by decide, rfl⟩
  by_cases h7 : p = 7
  · subst h7; cases h; exact ⟨rfl, by decide, by decide, rfl⟩
  by_cases h8 : p = 8
  · subst h8; cases h; exact ⟨rfl, by decide, by decide, rfl⟩
  by_cases h9 : p = 9
  · subst h9; cases h; exact ⟨rfl, by decide, by decide, rfl⟩
  rw [if_neg h0, if_neg h1, if_neg h2, if_neg h3, if_neg h4, if_neg h5, if_neg h6, if_neg h7, if_neg h8, if_neg h9] at h
  cases h
theorem whole_is (c : List (List Int)) : whole c = c := by
  unfold whole
  split <;> rfl
/-- rows from the a-th number on, up to the a'-th -/
def RowsAt (l : List Int) : Nat → List (List Int) → Nat → Prop
  | a, [], a' => a' = a
  | a, x :: xs, a' => ∃ n : Nat, l[a]? = some (n : Int) ∧ a + 1 + n ≤ l.length ∧ x = (l.drop (a + 1)).take n ∧ RowsAt l (a + 1 + n) xs a'
/-- calls from the a-th number on -/
def CallsFrom (l : List Int) : Nat → List (List (List Int)) → Prop
  | a, [] => a = l.length
  | a, c :: cs => ∃ (p : Int) (rows : List (List Int)) (a' : Nat), c = [p] :: rows ∧ l[a]? = some p ∧ 0 ≤ p ∧ p ≤ 9 ∧ kRows[p.toNat]? = some (rows.length : Int) ∧ RowsAt l (a + 1) rows a' ∧ a < a' ∧ a' ≤ l.length ∧ CallsFrom l a' cs
theorem rows_at (l : List Int) : ∀ (k a : Nat) (xs : List (List Int)) (t : List Int), a ≤ l.length → PyFlat.rows k (l.drop a) = some (xs, t) → ∃ a', RowsAt l a xs a' ∧ xs.length = k ∧ t = l.drop a' ∧ a ≤ a' ∧ a' ≤ l.length
  | 0, a, xs, t, ha, h => by
    cases h
    exact ⟨a, rfl, rfl, rfl, Nat.le_refl _, ha⟩
  | k + 1, a, xs, t, ha, h => by
    unfold PyFlat.rows at h
    cases e : PyFlat.row (l.drop a) with
    | none => rw [e] at h; cases h
    | some q =>
      obtain ⟨x, s⟩ := q
      rw [e] at h
      try dsimp only at h
      cases e2 : PyFlat.rows k s with
      | none => rw [e2] at h; cases h
      | some q2 =>
        obtain ⟨ys, t2⟩ := q2
        rw [e2] at h
        cases h
        by_cases hlt : a < l.length
        · have hd : l.drop a = l[a] :: l.drop (a + 1) := List.drop_eq_getElem_cons hlt
          rw [hd] at e
          unfold PyFlat.row at e
          try dsimp only at e
          by_cases hc : 0 ≤ l[a] ∧ l[a].toNat ≤ (l.drop (a + 1)).length
          · rw [if_pos hc] at e
            cases e
            have hl := hc.2
            rw [List.length_drop] at hl
            have hn : ((l[a].toNat : Nat) : Int) = l[a] := Int.toNat_of_nonneg hc.1
            have e3 : (l.drop (a + 1)).drop l[a].toNat = l.drop (a + 1 + l[a].toNat) := List.drop_drop
            rw [e3] at e2
            obtain ⟨a', r1, r2, r3, r4, r5⟩ := rows_at l k (a + 1 + l[a].toNat) ys t (by omega) e2
            exact ⟨a', ⟨l[a].toNat, by rw [hn]; exact List.getElem?_eq_getElem hlt, by omega, rfl, r1⟩, by rw [List.length_cons, r2], r3, by omega, r5⟩
          · rw [if_neg hc] at e
            cases e
        · rw [List.drop_eq_nil_of_le (by omega)] at e
          cases e
theorem calls_at (l : List Int) : ∀ (f a : Nat) (cs : List (List (List Int))), a ≤ l.length → PyFlat.calls shape f (l.drop a) = some cs → CallsFrom l a cs := by
  intro f
  induction f with
  | zero =>
    intro a cs ha h
    by_cases hlt : a < l.length
    · rw [List.drop_eq_getElem_cons hlt] at h
      cases h
    · have e : a = l.length := by omega
      subst e
      rw [List.drop_length] at h
      cases h
      rfl
  | succ f ih =>
    intro a cs ha h
    by_cases hlt : a < l.length
    · have hd : l.drop a = l[a] :: l.drop (a + 1) := List.drop_eq_getElem_cons hlt
      rw [hd] at h
      unfold PyFlat.calls at h
      try dsimp only at h
      cases e : PyFlat.call shape (l[a] :: l.drop (a + 1)) with
      | none => rw [e] at h; cases h
      | some q =>
        obtain ⟨c, t⟩ := q
        rw [e] at h
        try dsimp only at h
        cases e2 : PyFlat.calls shape f t with
        | none => rw [e2] at h; cases h
        | some cs2 =>
          rw [e2] at h
          cases h
          unfold PyFlat.call at e
          try dsimp only at e
          cases es : shape l[a] with
          | none => rw [es] at e; cases e
          | some nk =>
            obtain ⟨n, k⟩ := nk
            rw [es] at e
            try dsimp only at e
            obtain ⟨rfl, h0, h9, hk⟩ := shape_is es
            rw [if_neg (Nat.not_lt_zero _), List.drop_zero] at e
            cases er : PyFlat.rows k (l.drop (a + 1)) with
            | none => rw [er] at e; cases e
            | some q3 =>
              obtain ⟨xs, t3⟩ := q3
              rw [er] at e
              cases e
              obtain ⟨a', r1, r2, r3, r4, r5⟩ := rows_at l k (a + 1) xs _ (by omega) er
              rw [r3] at e2
              exact ⟨l[a], xs, a', rfl, List.getElem?_eq_getElem hlt, h0, h9, by rw [r2]; exact hk, r1, by omega, r5, ih a' cs2 r5 e2⟩
    · have e : a = l.length := by omega
      subst e
      rw [List.drop_length] at h
      cases h
      rfl
end LE

/-! LTr: a try with several clauses, some with a name, out of which nothing goes. -/
namespace LE
open PySem PySem.Spec PyProof.Rows L2
/-- a clause: its class, its name's slot, its suite's reading -/
structure Clause where
  of : Value
  slot : Option Nat
  rd : Addr → Value → Option Addr → TS
/-- the ends of a suite whose clause has a name at i: the name goes -/
def lose (D : Ends) (i : Nat) : Ends := ⟨fun z G => D.nx (z.set i none) G, D.rt, fun z G => D.bk (z.set i none) G, fun z G => D.ct (z.set i none) G⟩
/-- what the clauses wish of an exception: one of them takes it -/
def wClauses (K : PySem.W.Frag) (D : Ends) : List Clause → WX
  | [] => fun _ _ _ _ => False
  | q :: r => fun cls d z G => ∃ t : Bool, PySem.W.exmOne K cls q.of = some t ∧ (t = false → wClauses K D r cls d z G) ∧
      (t = true → ∀ u, G u = none → match q.slot with
        | none => q.rd u cls d D z G
        | some i => q.rd u cls d (lose D i) (z.set i (some (.ref u))) G)
/-- a suite's body has its reading, whatever exception is in hand -/
def SuiteOk (X : Cx) (body : List Stmt) (rd : Addr → Value → Option Addr → TS) : Prop := ∀ (u : Addr) (ob : Obj) (cls : Value) (d : Option Addr) (more : List (Addr × Obj)), Zc cls d ob → (∃ fs, ob.data = .fields fs) → PSs (X.suite u ((u, ob) :: more)) body (rd u cls d)
inductive Clauses (X : Cx) : List ExceptHandler → List Clause → Prop
  | none : Clauses X [] []
  | plain {x : Str} {c : Value} {rd : Addr → Value → Option Addr → TS} {b : Stmt} {bs : List Stmt} {p1 p2 : Pos} {hs : List ExceptHandler} {l : List Clause} (hc : Names X x c) (ok : SuiteOk X (b :: bs) rd) (more : Clauses X hs l) :
      Clauses X (.ExceptHandler (some (.Name x p1)) Option.none (b :: bs) p2 :: hs) (⟨c, Option.none, rd⟩ :: l)
  | named {x n : Str} {i : Nat} {c : Value} {rd : Addr → Value → Option Addr → TS} {b : Stmt} {bs : List Stmt} {p1 p2 : Pos} {hs : List ExceptHandler} {l : List Clause} (hc : Names X x c) (ok : SuiteOk X (b :: bs) rd) (at_ : X.N[i]? = some n) (lo : X.env.kindOf n = some .local) (more : Clauses X hs l) :
      Clauses X (.ExceptHandler (some (.Name x p1)) (some n) (b :: bs) p2 :: hs) (⟨c, some i, rd⟩ :: l)
/-- an exception in the hand of the frame -/
structure Seat (X : Cx) (pins : List (Addr × Obj)) (z : L2.St) (G : Hp) (cls : Value) (d : Option Addr) (u : Addr) (B : Heap) (s : Shared) : Prop where
  flies : HandSPX.FlyingZ B (X.env :: X.outer) u (Zc cls d) s.heap
  inv : Inv X pins z G s
  new : G u = none
  loc : u ≠ X.env.locals
  fre : u ∉ X.fs
  lands : ∀ g, HandSPX.FlyingZ B (X.env :: X.outer) u (Zc cls d) g → s.heap.UpToSlots g → Inv X pins z G { s with heap := g }
section
variable {X : Cx} {pins : List (Addr × Obj)} {z : L2.St} {G : Hp} {cls : Value} {d : Option Addr} {u : Addr} {B : Heap} {s : Shared} {D : Ends}
/-- the frame's own and its outer ones are no exceptions -/
theorem seat_off {env : Env} {outer : List Env} {h : Heap} {ob : Obj} {fs : Array Value} (ff : h.FunFrames B (env :: outer)) (e : h.get? u = some ob) (f : ob.data = .fields fs) : u ∉ frs (env :: outer) := fun hm => by
  obtain ⟨_, o2, e2, no⟩ := ff.mem hm
  rw [e] at e2
  cases e2
  exact no _ f
/-- the clause's class is looked at, and its answer is known -/
theorem Seat.looks {x : Str} {c : Value} {t : Bool} {p1 : Pos} {R : Bool → Shared → Prop} {E1 E2 : Value → Shared → Prop} (C : Seat X pins z G cls d u B s) (hc : Names X x c) (ht : PySem.W.exmOne X.K cls c = some t) (h : R t s) :
    wpAny (model X.prog X.w) (X.A.mark (some (.ref u))) (eval (.Name x p1) X.env) (fun k s1 => wpAny (model X.prog X.w) (X.A.mark (some (.ref u))) (excMatches (.ref u) k) R E1 s1) E2 s := by
  obtain ⟨ob, fs, eo, zo, fo⟩ := C.flies.there
  have S := C.inv.suite eo fo C.new C.loc C.fre
  have T : PySem.W.Looks (model X.prog X.w) s.heap (typeOf (.ref u)) cls := fun _ _ _ _ k q => wpAny_typeOf_ref (k _ _ eo) (by rw [zo.1]; exact q)
  have M := PySem.W.exm_one (M := model X.prog X.w) C.inv.kIn T ht
  obtain ⟨hg, hd, hm | ⟨hm, hv, hn⟩⟩ := hc
  · exact ld_glob (X := X.suite u ((u, ob) :: (X.pn ++ pins))) S hg hm (M.here h) hd
  · exact ld_blt (X := X.suite u ((u, ob) :: (X.pn ++ pins))) S hg hm hv (M.here h) hn hd
/-- the clauses are gone through: one takes it -/
theorem Seat.takes (ok : X.Ok) (nd : X.N.Nodup) : ∀ {hs : List ExceptHandler} {l : List Clause}, Clauses X hs l → Seat X pins z G cls d u B s → wClauses X.K D l cls d z G →
    wpAny (model X.prog X.w) X.A (handleBy (.ref u) X.env hs) (SP X pins D) X.xe s := by
  intro hs l hk C
  induction hk with
  | none => exact fun q => q.elim
  | plain hc so _ ih =>
    rintro ⟨t, ht, no, yes⟩
    refine wpAny_handleBy_cons (codeAny_handlers_test (C.looks hc ht ?_)) (by rintro ⟨⟩)
    cases t with
    | false => exact ih (no rfl)
    | true =>
      refine codeAny_handlers_suite (HandSPX.lands_againZ C.flies fun g fl up => ?_)
      obtain ⟨ob, fs, eo, zo, fo⟩ := fl.there
      refine wpAny_mono ((so u ob cls d (X.pn ++ pins) zo ⟨_, fo⟩).run [] _ z G _ ((C.lands g fl up).suite eo fo C.new C.loc C.fre) (yes rfl u C.new)) (fun r s1 q => ?_) fun _ _ q => q.elim
      cases r with
      | ret v => exact let ⟨y, z1, G1, I1, ry, q1⟩ := q; ⟨y, z1, G1, I1.unsuite ok, ry, q1⟩
      | _ => exact let ⟨z1, G1, I1, q1⟩ := q; ⟨z1, G1, I1.unsuite ok, q1⟩
  | named hc so at_ lo _ ih =>
    rintro ⟨t, ht, no, yes⟩
    refine wpAny_handleBy_cons (codeAny_handlers_test (C.looks hc ht ?_)) (by rintro ⟨⟩)
    cases t with
    | false => exact ih (no rfl)
    | true =>
      refine codeAny_handlers_suite_as (HandSPX.lands_againZ C.flies fun g fl up => ?_)
      obtain ⟨ob, fs, eo, zo, fo⟩ := fl.there
      refine store_ok (X := X.suite u ((u, ob) :: (X.pn ++ pins))) (v := .ref u) ((C.lands g fl up).suite eo fo C.new C.loc C.fre) nd at_ (.inl lo) rfl (fun s0 S0 => ?_) (.inr lo)
      refine wpAny_mono ((so u ob cls d (X.pn ++ pins) zo ⟨_, fo⟩).run [] s0 _ G _ S0 (yes rfl u C.new)) (fun r s1 q => ?_) fun _ _ q => q.elim
      cases r with
      | ret v => exact let ⟨y, z1, G1, I1, ry, q1⟩ := q; gone_ok (I1.unsuite ok) nd at_ lo fun s2 I2 => ⟨y, _, G1, I2, ry, q1⟩
      | _ => exact let ⟨z1, G1, I1, q1⟩ := q; gone_ok (I1.unsuite ok) nd at_ lo fun s2 I2 => ⟨_, G1, I2, q1⟩
end
/-- try: body, and the clauses -/
theorem ps_try_all {X : Cx} {body : List Stmt} {h : ExceptHandler} {hs : List ExceptHandler} {l : List Clause} {pos : Pos} {tb : WX → TS} (st : X.stack = X.env :: X.outer) (fr : X.env.frame = some X.env.locals) (nd : X.N.Nodup)
    (hb : ∀ (W : WX) (more : List (Addr × Obj)) (xe : Value → Shared → Prop), Takes (X.tr more xe) W → PSs (X.tr more xe) body (tb W)) (hk : Clauses X (h :: hs) l) :
    PS X (.Try body (h :: hs) [] [] pos) (fun D z G => tb (wClauses X.K D l) D z G) := by
  refine ⟨fun pins s z G D I q => ?_⟩
  have ok := I.ok
  have af : X.A.frames = some (X.env :: X.outer) := by rw [ok.frames, st]
  refine wpAny_Try_except (wpAny_mono ((hb (wClauses X.K D l) (X.pn ++ pins) _ fun v s1 air => ?_).run [] s z G D (I.toTry _) q) (fun r s1 e => ?_) fun v s1 e => e)
  rotate_left 1
  · cases r with
    | next => exact let ⟨z1, G1, I1, q1⟩ := e; wpAny_execs_nil ⟨z1, G1, I1.ofTry ok, q1⟩
    | ret v => exact let ⟨y, z1, G1, I1, ry, q1⟩ := e; ⟨y, z1, G1, I1.ofTry ok, ry, q1⟩
    | _ => exact let ⟨z1, G1, I1, q1⟩ := e; ⟨z1, G1, I1.ofTry ok, q1⟩
  · obtain ⟨u, B, sI, pn, z1, G1, cls, d, rfl, J, nb, up, sky, nu, os, ag, wish⟩ := air
    have I1 : Inv X pins z1 G1 sI := J.ofTry ok
    have sky : Sky B (X.env :: X.outer) u (Zc cls d) X.env.locals s1.heap := by rw [← st]; exact sky
    show wpAny (model X.prog X.w) X.A (noteFrame (.ref u) X.env) _ _ _
    refine Sky.land Zc.steady af fr sky fun g fl up1 => ?_
    obtain ⟨ob, fs, eo, zo, fo⟩ := fl.there
    have off := seat_off fl.2.2.1 eo fo
    have C : Seat X pins z1 G1 cls d u B { s1 with heap := g } := by
      refine ⟨fl, I1.landed nb fl.1 (up.trans up1) os ag, nu, fun e => off ?_, fun hm => off ?_, fun g2 fl2 up2 => I1.landed nb fl2.1 ((up.trans up1).trans up2) os ag⟩
      · exact List.mem_filterMap.mpr ⟨X.env, List.mem_cons_self, by rw [fr, e]⟩
      · obtain ⟨v, hv, ev⟩ := List.mem_filterMap.mp hm
        exact List.mem_filterMap.mpr ⟨v, List.mem_cons_of_mem _ hv, ev⟩
    exact C.takes ok nd hk wish
end LE

/-! LAo: a call is answered, or refused. -/
namespace LE
open PySem PySem.Spec PyProof.Rows L2 Evl
open VasedBase (isLetter isDigit)
open Vaseda (Cmd works)
open Vasedz (Held Tag Tagged stepBy guardOff doesOf doesRow tagged)
variable {P : Program} {w : World} {K : PySem.W.Frag} {mg : Str → Option Value} {base : Heap}
def encV (a : VasedBase.Answer) : List V := (VasedzNeutral.encode a).map V.int
def okHeld : Option Held → Prop
  | none => True
  | some z => Wf z
/-- the rows of a call -/
def RowsIn (H : Hp) (ra : Addr) (bs : List (List UInt8)) : Prop := ∃ ps : List Addr, H ra = some (.lst (ps.map V.ref)) ∧ ps.length = bs.length ∧ ∀ (i : Nat) (p : Addr) (b : List UInt8), ps[i]? = some p → bs[i]? = some b → H p = some (.lst (ib b))
def ofB (b : List UInt8) : List Int := b.map fun c => ((c.toNat : Nat) : Int)
def cOf (p : Int) (bs : List (List UInt8)) : Option Vasedz.Call := VasedzNeutral.callOf ([p] :: bs.map ofB)
theorem bytes_ofB (b : List UInt8) : VasedzNeutral.bytesOf (ofB b) = b := by
  unfold VasedzNeutral.bytesOf ofB
  rw [List.map_map]
  conv => rhs; rw [← List.map_id b]
  refine List.map_congr_left fun c _ => ?_
  show UInt8.ofNat (((c.toNat : Nat) : Int).toNat) = c
  simp
theorem map_one {α β : Type} {f : α → β} {l : List α} {x : β} (h : l.map f = [x]) : ∃ a, l = [a] ∧ f a = x := by
  cases l with
  | nil => cases h
  | cons a r =>
    cases r with
    | nil => exact ⟨a, rfl, (List.cons.inj h).1⟩
    | cons b r => cases h
theorem map_two {α β : Type} {f : α → β} {l : List α} {x y : β} (h : l.map f = [x, y]) : ∃ a b, l = [a, b] ∧ f a = x ∧ f b = y := by
  cases l with
  | nil => cases h
  | cons a r =>
    cases r with
    | nil => cases h
    | cons b r =>
      cases r with
      | nil => exact ⟨a, b, rfl, (List.cons.inj h).1, (List.cons.inj (List.cons.inj h).2).1⟩
      | cons c r => cases h
theorem map_nil' {α β : Type} {f : α → β} {l : List α} (h : l.map f = []) : l = [] := by
  cases l with
  | nil => rfl
  | cons a r => cases h
inductive CallIs : Int → List (List UInt8) → Vasedz.Call → Prop
  | load (b) : CallIs 0 [b] (.load b)
  | apply (b) : CallIs 1 [b] (.apply b)
  | dry (b) : CallIs 2 [b] (.dry b)
  | undo : CallIs 3 [] .undo
  | redo : CallIs 4 [] .redo
  | shown : CallIs 5 [] .shown
  | origins : CallIs 6 [] .origins
  | same (a b) : CallIs 7 [a, b] (.same a b)
  | guard (b) : CallIs 8 [b] (.guard b)
  | history : CallIs 9 [] .history
theorem cOf_is {p : Int} {bs : List (List UInt8)} {c : Vasedz.Call} (h : cOf p bs = some c) : CallIs p bs c := by
  unfold cOf VasedzNeutral.callOf at h
  split at h
  all_goals first
    | cases h; done
    | skip
  all_goals rename_i e
  all_goals obtain ⟨e1, e2⟩ := List.cons.inj e
  all_goals obtain ⟨e3, _⟩ := List.cons.inj e1
  all_goals subst e3
  all_goals first
    | (have q := map_nil' e2
       subst q
       cases h
       constructor; done)
    | (obtain ⟨b, rfl, rfl⟩ := map_one e2
       split at h
       · cases h
         rw [bytes_ofB]
         constructor
       · cases h)
    | (obtain ⟨a, b, rfl, rfl, rfl⟩ := map_two e2
       split at h
       · cases h
         rw [bytes_ofB, bytes_ofB]
         constructor
       · cases h)
theorem RowsIn.at0 {H : Hp} {ra : Addr} {b : List UInt8} {r : List (List UInt8)} (h : RowsIn H ra (b :: r)) : ∃ (xs : List V) (p : Addr), H ra = some (.lst xs) ∧ xs[0]? = some (.ref p) ∧ H p = some (.lst (ib b)) := by
  obtain ⟨ps, h1, h2, h3⟩ := h
  obtain ⟨p, hp⟩ : ∃ p, ps[0]? = some p := ⟨_, List.getElem?_eq_getElem (by rw [h2]; exact Nat.zero_lt_succ _)⟩
  exact ⟨_, p, h1, by rw [List.getElem?_map, hp]; rfl, h3 0 p b hp rfl⟩
theorem RowsIn.at1 {H : Hp} {ra : Addr} {a b : List UInt8} {r : List (List UInt8)} (h : RowsIn H ra (a :: b :: r)) : ∃ (xs : List V) (p q : Addr), H ra = some (.lst xs) ∧ xs[0]? = some (.ref p) ∧ H p = some (.lst (ib a)) ∧ xs[1]? = some (.ref q) ∧ H q = some (.lst (ib b)) := by
  obtain ⟨ps, h1, h2, h3⟩ := h
  have hl : ps.length = r.length + 1 + 1 := h2
  obtain ⟨p, hp⟩ : ∃ p, ps[0]? = some p := ⟨_, List.getElem?_eq_getElem (by omega)⟩
  obtain ⟨q, hq⟩ : ∃ p, ps[1]? = some p := ⟨_, List.getElem?_eq_getElem (by omega)⟩
  exact ⟨_, p, q, h1, by rw [List.getElem?_map, hp]; rfl, h3 0 p a hp rfl, by rw [List.getElem?_map, hq]; rfl, h3 1 q b hq rfl⟩
theorem RowsIn.ex {H H' : Hp} {ra : Addr} {bs : List (List UInt8)} (h : RowsIn H ra bs) (e : Ex H H') : RowsIn H' ra bs := by
  obtain ⟨ps, h1, h2, h3⟩ := h
  exact ⟨ps, e _ _ h1, h2, fun i p b hp hb => e _ _ (h3 i p b hp hb)⟩
/-- what a call of answer_of has to give -/
structure Obl (CS CV : Addr) (X : List Addr) (CF NT NS NR RM TM HG : Addr) (H : Hp) (ss vl ul : Addr) (o : Option Held) (c : Vasedz.Call) (Q : VK) (E : XK) : Prop where
  flt : ∀ f, Vasedz.step o c = (o, VasedBase.faulty f) → FaultE CF f.code f.place H E
  nt : Vasedz.step o c = (o, VasedBase.one (-1)) → ∀ H', Ex H H' → E (.ref NT) none H'
  ns : Vasedz.step o c = (o, VasedBase.one (-2)) → ∀ H', Ex H H' → E (.ref NS) none H'
  nr : Vasedz.step o c = (o, VasedBase.one (-4)) → ∀ H', Ex H H' → E (.ref NR) none H'
  rm : Vasedz.step o c = (o, VasedBase.one (-6)) → ∀ H', Ex H H' → E (.ref RM) none H'
  tm : Vasedz.step o c = (o, VasedBase.one (-7)) → ∀ H', Ex H H' → E (.ref TM) none H'
  hg : Vasedz.step o c = (o, VasedBase.one (-9)) → ∀ H', Ex H H' → E (.ref HG) none H'
  ok : SesRet CS CV X H ss vl ul (Vasedz.step o c).1 (encV (Vasedz.step o c).2) Q
section
variable {CS CV CF NT NS NR RM TM HG : Addr} {H H1 : Hp} {ss vl ul : Addr} {o : Option Held} {c : Vasedz.Call} {Q : VK} {E : XK}
theorem SesRet.of {o' : Option Held} {ans : List V} (k : SesRet CS CV X H ss vl ul o' ans Q) (e : Ex H H1) : SesRet CS CV X H1 ss vl ul o' ans Q := fun H' vl' ul' p hS h1 h2 b n hp =>
  k H' vl' ul' p hS (h1.imp id fun q => fresh_back e q) (h2.imp id fun q => fresh_back e q) ((But.of e).trans b) (fresh_back e n) hp
theorem Obl.of (h : Obl CS CV X CF NT NS NR RM TM HG H ss vl ul o c Q E) (e : Ex H H1) : Obl CS CV X CF NT NS NR RM TM HG H1 ss vl ul o c Q E :=
  ⟨fun f hf => (h.flt f hf).of e, fun s H' e' => h.nt s H' (e.trans e'), fun s H' e' => h.ns s H' (e.trans e'), fun s H' e' => h.nr s H' (e.trans e'), fun s H' e' => h.rm s H' (e.trans e'), fun s H' e' => h.tm s H' (e.trans e'), fun s H' e' => h.hg s H' (e.trans e'), h.ok.of e⟩
/-- the object stays -/
theorem SesRet.stays {ans : List V} (k : SesRet CS CV X H ss vl ul o ans Q) (hS : SesAt CS CV X H ss vl ul o) : RetL ans H Q := fun p H' n e h => k H' vl ul p (hS.ex e) (.inl (by simp)) (.inl (by simp)) (But.of e) n h
theorem Obl.gives {o' : Option Held} {a : VasedBase.Answer} (h : Obl CS CV X CF NT NS NR RM TM HG H ss vl ul o c Q E) (e : Vasedz.step o c = (o', a)) : SesRet CS CV X H ss vl ul o' (encV a) Q := by
  have q := h.ok
  rw [e] at q
  exact q
end
structure TxtAo (P : Program) (w : World) (K : PySem.W.Frag) (mg : Str → Option Value) (base : Heap) (CS CV CF NT NS NR RM TM HG : Addr) : Prop where
  load : Mn P w K mg base (L2.CX P w) 4 CS "load" (spLoad K CS CV NR)
  has : Mn P w K mg base CX0 1 CS "has_text" (spHas CS CV)
  apply : Mn P w K mg base (L2.CX P w) 9 CS "apply" (spApply K CS CV CF TM RM HG)
  dry : Mn P w K mg base (L2.CX P w) 9 CS "dry" (spDry K CS CV CF TM)
  undo : Mn P w K mg base (L2.CX P w) 3 CS "undo" (spUndo CS CV NS)
  redo : Mn P w K mg base (L2.CX P w) 3 CS "redo" (spRedo CS CV NS)
  shown : Mn P w K mg base CX0 3 CS "shown" (spShown CS CV)
  origins : Mn P w K mg base CX0 2 CS "origins_now" (spOrigins CS CV)
  same : Mn P w K mg base (L2.CX P w) 9 CS "same" (spSame K CS CV CF)
  guard : Mn P w K mg base (L2.CX P w) 3 CS "guard" (spGuard K CS CV NR)
  history : Mn P w K mg base CX0 2 CS "history" (spHistory CS CV)
  nt : ErrT K mg "NoText" NT
  c0 : Gc mg "LOAD" (.int 0)
  c1 : Gc mg "APPLY" (.int 1)
  c2 : Gc mg "DRY" (.int 2)
  c3 : Gc mg "UNDO" (.int 3)
  c4 : Gc mg "REDO" (.int 4)
  c5 : Gc mg "SHOWN" (.int 5)
  c6 : Gc mg "ORIGINS" (.int 6)
  c7 : Gc mg "SAME" (.int 7)
  c8 : Gc mg "GUARD" (.int 8)
  c9 : Gc mg "HISTORY" (.int 9)
abbrev sAo : Stmt := top 107
theorem sc_ao : FnScope ["session", "call", "rows"] ["session", "call", "rows"] (defScope sAo) := ⟨rfl, rfl, rfl, by decide +kernel, rfl, by decide +kernel, by decide +kernel⟩
def spAo (CS CV CF NT NS NR RM TM HG : Addr) : Sp := fun vs H Q E => ∃ (X : List Addr) (ss vl ul ra : Addr) (p : Int) (bs : List (List UInt8)) (o : Option Held) (c : Vasedz.Call), vs = [.ref ss, .int p, .ref ra] ∧ SesAt CS CV X H ss vl ul o ∧ okHeld o ∧ RowsIn H ra bs ∧ (∀ b ∈ bs, b.length ≤ 8192) ∧ CallIs p bs c ∧
  Obl CS CV X CF NT NS NR RM TM HG H ss vl ul o c Q E
/-! ### the specification's answers -/
section
variable {z : Held} {b : List UInt8}
theorem st_script {f : VasedBase.Fault} {g : Vaseda.Script → Vasedz.Obj × VasedBase.Answer} (h : Vaseda.read b = .error f) : Vasedz.withScript z b g = (some z, VasedBase.faulty f) := by
  unfold Vasedz.withScript
  rw [h]
theorem st_script_ok {s : Vaseda.Script} {g : Vaseda.Script → Vasedz.Obj × VasedBase.Answer} (h : Vaseda.read b = .ok s) : Vasedz.withScript z b g = g s := by
  unfold Vasedz.withScript
  rw [h]
theorem st_load_no (o : Option Held) (h : Vaseda.readText b = none) : Vasedz.step o (.load b) = (o, VasedBase.one (-4)) := by
  show (match Vaseda.readText b with | none => _ | some t => _) = _
  rw [h]
theorem st_load (o : Option Held) {t : List (List UInt8)} (h : Vaseda.readText b = some t) : Vasedz.step o (.load b) = (some (loaded t), ⟨1, Vasedz.nats [t.length]⟩) := by
  show (match Vaseda.readText b with | none => _ | some t => _) = _
  rw [h]
  rfl
theorem st_apply_full {s : Vaseda.Script} (h : Vaseda.read b = .ok s) (hp : 20 ≤ z.past.length) : Vasedz.step (some z) (.apply b) = (some z, VasedBase.one (-6)) := by
  show Vasedz.withScript z b _ = _
  rw [st_script_ok h]
  exact if_pos hp
theorem st_apply_much {s : Vaseda.Script} (h : Vaseda.read b = .ok s) (hp : z.past.length < 20) (hn : stepBy s (z.past.length + 1) z.now = none) : Vasedz.step (some z) (.apply b) = (some z, VasedBase.one (-7)) := by
  show Vasedz.withScript z b _ = _
  rw [st_script_ok h, if_neg (show ¬ Vasedz.STEPS ≤ z.past.length from Nat.not_le_of_lt hp)]
  try dsimp only
  rw [hn]
theorem st_apply_harm {s : Vaseda.Script} {l : Tagged} (h : Vaseda.read b = .ok s) (hp : z.past.length < 20) (hn : stepBy s (z.past.length + 1) z.now = some l) (hg : (guardOff s (Vasedz.textOf z.now) z.guard).isSome = true) : Vasedz.step (some z) (.apply b) = (some z, VasedBase.one (-9)) := by
  show Vasedz.withScript z b _ = _
  rw [st_script_ok h, if_neg (show ¬ Vasedz.STEPS ≤ z.past.length from Nat.not_le_of_lt hp)]
  try dsimp only
  rw [hn]
  exact if_pos hg
theorem st_apply {s : Vaseda.Script} {l : Tagged} (h : Vaseda.read b = .ok s) (hp : z.past.length < 20) (hn : stepBy s (z.past.length + 1) z.now = some l) (hg : ¬ (guardOff s (Vasedz.textOf z.now) z.guard).isSome = true) : Vasedz.step (some z) (.apply b) = (some (made z l), ⟨1, (l.length : Int) :: doesRow (doesOf s (Vasedz.textOf z.now))⟩) := by
  show Vasedz.withScript z b _ = _
  rw [st_script_ok h, if_neg (show ¬ Vasedz.STEPS ≤ z.past.length from Nat.not_le_of_lt hp)]
  try dsimp only
  rw [hn]
  exact if_neg hg
theorem en_apply (s : Vaseda.Script) (l : Tagged) : encV ⟨1, (l.length : Int) :: doesRow (doesOf s (Vasedz.textOf z.now))⟩ = [.int 1, .int (l.length : Nat)] ++ nv (efOf z s) := rfl
theorem st_dry_much {s : Vaseda.Script} (h : Vaseda.read b = .ok s) (hn : stepBy s (z.past.length + 1) z.now = none) : Vasedz.step (some z) (.dry b) = (some z, VasedBase.one (-7)) := by
  show Vasedz.withScript z b _ = _
  rw [st_script_ok h]
  try dsimp only
  rw [hn]
theorem st_dry {s : Vaseda.Script} {l : Tagged} (h : Vaseda.read b = .ok s) (hn : stepBy s (z.past.length + 1) z.now = some l) : Vasedz.step (some z) (.dry b) = (some z, ⟨1, (l.length : Int) :: doesRow (doesOf s (Vasedz.textOf z.now)) ++ Vasedz.nats [(guardOff s (Vasedz.textOf z.now) z.guard).getD 0, costN z l]⟩) := by
  show Vasedz.withScript z b _ = _
  rw [st_script_ok h]
  try dsimp only
  rw [hn]
  rfl
theorem en_dry (s : Vaseda.Script) (l : Tagged) : encV ⟨1, (l.length : Int) :: doesRow (doesOf s (Vasedz.textOf z.now)) ++ Vasedz.nats [(guardOff s (Vasedz.textOf z.now) z.guard).getD 0, costN z l]⟩ = dryAns z s l := by
  rw [(guard_is s (Vasedz.textOf z.now) z.guard).1]
  rfl
theorem st_undo_no (h : z.past = []) : Vasedz.step (some z) .undo = (some z, VasedBase.one (-2)) := by
  show Vasedz.undoCall z = _
  unfold Vasedz.undoCall
  rw [h]
theorem st_undo {l : Tagged} {r : List Tagged} (h : z.past = l :: r) : Vasedz.step (some z) .undo = (some (undone z l r), ⟨1, Vasedz.nats [l.length, r.length]⟩) := by
  show Vasedz.undoCall z = _
  unfold Vasedz.undoCall
  rw [h]
  rfl
theorem st_redo_no (h : z.future = []) : Vasedz.step (some z) .redo = (some z, VasedBase.one (-2)) := by
  show Vasedz.redoCall z = _
  unfold Vasedz.redoCall
  rw [h]
theorem st_redo {l : Tagged} {r : List Tagged} (h : z.future = l :: r) : Vasedz.step (some z) .redo = (some (redone z l r), ⟨1, Vasedz.nats [l.length, z.past.length + 1]⟩) := by
  show Vasedz.redoCall z = _
  unfold Vasedz.redoCall
  rw [h]
  rfl
theorem en_shown : encV ⟨(z.now.length : Int), VasedBase.textRow (Vaseda.showText (Vasedz.textOf z.now))⟩ = shownAns z := by
  unfold encV VasedzNeutral.encode VasedBase.textRow shownAns ib
  rw [List.map_cons, List.map_cons, List.map_map]
  rfl
theorem en_origins : encV ⟨(z.now.length : Int), z.now.flatMap Vasedz.tagRow⟩ = .int (z.now.length : Nat) :: orgAns z.now := by
  unfold encV VasedzNeutral.encode orgAns
  rw [List.map_cons, List.map_flatMap]
  congr 1
  have h : (fun t : Tag => (Vasedz.tagRow t).map V.int) = fun g => [.int (orgN g : Nat), .int (g.by_ : Nat)] := by
    funext g
    unfold Vasedz.tagRow orgN
    cases g.from_ <;> rfl
  rw [← h]
theorem st_same_b {a : List UInt8} {s : Vaseda.Script} {f : VasedBase.Fault} (h : Vaseda.read a = .ok s) (h2 : Vaseda.read b = .error f) : Vasedz.step (some z) (.same a b) = (some z, VasedBase.faulty f) := by
  show Vasedz.withScript z a _ = _
  rw [st_script_ok h, st_script h2]
def sameA (s u : Vaseda.Script) (z : Held) : VasedBase.Answer := match Vasedz.unlike s u (Vasedz.texts z) with
  | none => ⟨1, Vasedz.nats [(Vasedz.texts z).length]⟩
  | some k => ⟨0, Vasedz.nats [0, k]⟩
theorem st_same {a : List UInt8} {s u : Vaseda.Script} (h : Vaseda.read a = .ok s) (h2 : Vaseda.read b = .ok u) : Vasedz.step (some z) (.same a b) = (some z, sameA s u z) := by
  show Vasedz.withScript z a _ = _
  rw [st_script_ok h, st_script_ok h2]
  rfl
theorem en_same (s u : Vaseda.Script) : encV (sameA s u z) = sameAns s u z := by
  unfold sameAns sameA
  cases Vasedz.unlike s u (Vasedz.texts z) <;> rfl
theorem st_guard_no (h : lineOk b = false) : Vasedz.step (some z) (.guard b) = (some z, VasedBase.one (-4)) := by
  refine if_pos ?_
  unfold lineOk at h
  rcases Bool.and_eq_false_iff.mp h with q | q
  · exact .inl (Nat.lt_of_not_le (of_decide_eq_false q))
  · exact .inr q
theorem st_guard (h : lineOk b = true) : Vasedz.step (some z) (.guard b) = (some (guarded z b), ⟨1, Vasedz.nats [((Vasedz.textOf z.now).filter (isG b)).length]⟩) := by
  unfold lineOk at h
  rw [Bool.and_eq_true] at h
  have e : (fun x => !b.isEmpty && Vaseda.hasIn b x) = isG b := by
    funext x
    unfold isG
    cases b with
    | nil => rfl
    | cons c r =>
      rw [decide_eq_false (by simp)]
      rfl
  rw [← e]
  refine if_neg ?_
  rintro (q | q)
  · exact absurd (of_decide_eq_true h.1) (Nat.not_le_of_lt q)
  · rw [h.2] at q
    cases q
theorem en_history : encV ⟨(z.past.length : Int), Vasedz.nats (z.future.length :: (Vasedz.texts z).map fun t => t.length)⟩ = histAns z := by
  unfold encV VasedzNeutral.encode histAns Vasedz.nats
  rw [texts_vers, List.map_map, List.map_cons, List.map_cons, List.map_cons, List.map_map, List.map_map]
  show V.int _ :: V.int _ :: _ = V.int _ :: V.int _ :: _
  congr 2
  refine List.map_congr_left fun l _ => ?_
  show V.int (((Vasedz.textOf l).length : Nat) : Int) = V.int (l.length : Nat)
  rw [show (Vasedz.textOf l).length = l.length by simp [Vasedz.textOf]]
end
end LE

/-! LWf: what is read is well formed. -/
namespace LE
open VasedBase (PTok Toks Fault takeName wrong taken takeWord takeSign nextWord here next RESERVED)
open Vaseda (takeNum takeLetters takeAddr takeInstead takeTwo takeDeed takeCmd takeCmds Deed Cmd Script)
/-- names have at most eight letters, and one at least -/
def NamesOk (l : Toks) : Prop := ∀ t ∈ l, ∀ b, t.tok = .name b → wl b
theorem NamesOk.drop {l : Toks} (h : NamesOk l) (n : Nat) : NamesOk (l.drop n) := fun t ht => h t (List.mem_of_mem_drop ht)
theorem NamesOk.tl {t : PTok} {l : Toks} (h : NamesOk (t :: l)) : NamesOk l := fun u hu => h u (List.mem_cons_of_mem _ hu)
theorem ex_map {ε α β : Type} {x : Except ε α} {f : α → β} {y : β} (h : x.map f = .ok y) : ∃ a, x = .ok a ∧ f a = y := by
  cases x with
  | error e => cases h
  | ok a => exact ⟨a, rfl, by cases h; rfl⟩
theorem ex_bind {ε α β : Type} {x : Except ε α} {f : α → Except ε β} {y : β} (h : x.bind f = .ok y) : ∃ a, x = .ok a ∧ f a = .ok y := by
  cases x with
  | error e => cases h
  | ok a => exact ⟨a, rfl, h⟩
theorem letters_w {l : Toks} {x : List UInt8 × Toks} (hl : NamesOk l) (h : takeLetters l = .ok x) : wl x.1 ∧ NamesOk x.2 := by
  obtain ⟨y, hy, rfl⟩ := ex_map h
  unfold takeName at hy
  split at hy
  · rename_i p b r
    split at hy
    · cases hy
    · cases hy
      exact ⟨hl _ List.mem_cons_self b rfl, hl.tl⟩
  · cases hy
theorem num_w {lo hi : Nat} {l : Toks} {x : Nat × Toks} (hl : NamesOk l) (h : takeNum lo hi l = .ok x) : NamesOk x.2 := by
  unfold takeNum at h
  split at h
  · split at h
    · cases h
    · cases h
      exact hl.tl
  · cases h
theorem taken_w {t : VasedBase.Tok} {l r : Toks} (hl : NamesOk l) (h : taken t l = .ok r) : NamesOk r := by
  unfold taken at h
  split at h
  · cases h
    exact hl.drop 1
  · cases h
theorem addr_w : ∀ (f n : Nat) (l : Toks) (x : Vaseda.Addr × Toks), NamesOk l → takeAddr f n l = .ok x → NamesOk x.2
  | 0, _, _, _, _, h => by cases h
  | f + 1, n, l, x, hl, h => by
    unfold takeAddr at h
    have hd := hl.drop 1
    split at h
    · cases h; exact hd
    split at h
    · obtain ⟨y, hy, rfl⟩ := ex_map h
      exact num_w hd hy
    split at h
    · obtain ⟨y, hy, h⟩ := ex_bind h
      obtain ⟨r, hr, h⟩ := ex_bind h
      obtain ⟨u, hu, rfl⟩ := ex_map h
      exact num_w (taken_w (num_w hd hy) hr) hu
    split at h
    · cases h; exact hd
    split at h
    · obtain ⟨y, hy, rfl⟩ := ex_map h
      exact (letters_w hd hy).2
    split at h
    · obtain ⟨y, hy, rfl⟩ := ex_map h
      exact (letters_w hd hy).2
    split at h
    · split at h
      · cases h
      · obtain ⟨y, hy, rfl⟩ := ex_map h
        exact addr_w f (n + 1) _ y hd hy
    · cases h
theorem instead_w {l : Toks} {x : List UInt8 × Toks} (hl : NamesOk l) (h : takeInstead l = .ok x) : x.1.length ≤ 8 ∧ NamesOk x.2 := by
  unfold takeInstead at h
  split at h
  · cases h
    exact ⟨Nat.zero_le _, hl.drop 1⟩
  · obtain ⟨q1, q2⟩ := letters_w hl h
    exact ⟨q1.2, q2⟩
theorem two_w {g : List UInt8 → List UInt8 → Deed} {l : Toks} {x : Deed × Toks} (hl : NamesOk l) (h : takeTwo g l = .ok x) : ∃ a b, x.1 = g a b ∧ wl a ∧ b.length ≤ 8 ∧ NamesOk x.2 := by
  unfold takeTwo at h
  obtain ⟨y, hy, h⟩ := ex_bind h
  obtain ⟨u, hu, rfl⟩ := ex_map h
  obtain ⟨q1, q2⟩ := letters_w hl hy
  obtain ⟨r1, r2⟩ := instead_w q2 hu
  exact ⟨_, _, rfl, q1, r1, r2⟩
theorem deed_w {l : Toks} {x : Deed × Toks} (hl : NamesOk l) (h : takeDeed l = .ok x) : wfD x.1 ∧ NamesOk x.2 := by
  unfold takeDeed at h
  have hd := hl.drop 1
  dsimp only at h
  split at h
  · cases h; exact ⟨trivial, hd⟩
  split at h
  · obtain ⟨y, hy, rfl⟩ := ex_map h
    exact letters_w hd hy
  split at h
  · obtain ⟨y, hy, rfl⟩ := ex_map h
    exact letters_w hd hy
  split at h
  · obtain ⟨y, hy, rfl⟩ := ex_map h
    exact letters_w hd hy
  split at h
  · obtain ⟨a, b, e, q1, q2, q3⟩ := two_w hd h
    rw [e]
    exact ⟨⟨q1, q2⟩, q3⟩
  split at h
  · obtain ⟨a, b, e, q1, q2, q3⟩ := two_w hd h
    rw [e]
    exact ⟨⟨q1, q2⟩, q3⟩
  split at h
  · cases h; exact ⟨trivial, hd⟩
  split at h
  · cases h; exact ⟨trivial, hd⟩
  split at h
  · cases h; exact ⟨trivial, hd⟩
  split at h
  · obtain ⟨y, hy, rfl⟩ := ex_map h
    exact ⟨trivial, num_w hd hy⟩
  split at h
  · cases h; exact ⟨trivial, hd⟩
  · cases h
theorem cmd_w {l : Toks} {x : Cmd × Toks} (hl : NamesOk l) (h : takeCmd l = .ok x) : wfD x.1.d ∧ NamesOk x.2 := by
  unfold takeCmd at h
  obtain ⟨a, ha, h⟩ := ex_bind h
  obtain ⟨d, hd, h⟩ := ex_bind h
  obtain ⟨m, hm, rfl⟩ := ex_map h
  have la : NamesOk a.2 := by
    split at ha
    · exact addr_w _ _ _ a (hl.drop 1) ha
    · cases ha
      exact hl
  obtain ⟨q1, q2⟩ := deed_w la hd
  exact ⟨q1, taken_w q2 hm⟩
theorem cmds_w : ∀ (n : Nat) (cs : Script) (l : Toks) (s : Script), NamesOk l → (∀ c ∈ cs, wfD c.d) → takeCmds n cs l = .ok s → ∀ c ∈ s, wfD c.d
  | 0, _, _, _, _, _, h => by cases h
  | n + 1, cs, l, s, hl, hc, h => by
    unfold takeCmds at h
    split at h
    · cases h
      exact hc
    split at h
    · cases h
    · obtain ⟨x, hx, h⟩ := ex_bind h
      obtain ⟨q1, q2⟩ := cmd_w hl hx
      refine cmds_w n _ _ s q2 (fun c hm => ?_) h
      rcases List.mem_append.mp hm with z | z
      · exact hc c z
      · rw [mem1 z]
        exact q1
end LE

/-! LAp: answer_of. -/
namespace LE
open PySem PySem.Spec PyProof.Rows L2 Evl
open VasedBase (isLetter isDigit)
open Vaseda (Cmd works)
open Vasedz (Held Tag Tagged stepBy guardOff doesOf doesRow tagged)
variable {P : Program} {w : World} {K : PySem.W.Frag} {mg : Str → Option Value} {base : Heap}
theorem st_apply_fault {z : Held} {b : List UInt8} {f : VasedBase.Fault} (h : Vaseda.read b = .error f) : Vasedz.step (some z) (.apply b) = (some z, VasedBase.faulty f) := by
  show Vasedz.withScript z b _ = _
  exact st_script h
theorem st_dry_fault {z : Held} {b : List UInt8} {f : VasedBase.Fault} (h : Vaseda.read b = .error f) : Vasedz.step (some z) (.dry b) = (some z, VasedBase.faulty f) := by
  show Vasedz.withScript z b _ = _
  exact st_script h
theorem st_same_a {z : Held} {a b : List UInt8} {f : VasedBase.Fault} (h : Vaseda.read a = .error f) : Vasedz.step (some z) (.same a b) = (some z, VasedBase.faulty f) := by
  show Vasedz.withScript z a _ = _
  exact st_script h
theorem Wf.vers {z : Held} (h : Wf z) : ∀ t ∈ vers (some z), okText (Vasedz.textOf t) := fun t ht => by
  have ht : t ∈ z.past.reverse ++ [z.now] := ht
  rcases List.mem_append.mp ht with q | q
  · exact h.past t (List.mem_reverse.mp q)
  · rw [mem1 q]
    exact h.now
theorem ok_ao {f CS CV CF NT NS NR RM TM HG : Addr} {fd : FuncData} (F : Fun K "answer_of" "answer_of" sAo f fd) (T : TxtAo P w K mg base CS CV CF NT NS NR RM TM HG) : FnOk P w K mg base (L2.CX P w) 10 f fd ["session", "call", "rows"] (spAo CS CV CF NT NS NR RM TM HG) := by
  refine F.okX sc_ao (fun vs H Q E h => ?_) (fun cdv A outer s H vs Q E hr h => ⟨_, pss_cons (ps_if (pt_cmpR op_eq (pv 1) (pe_gc T.c0) (nomark _)) (pss_one (ps_ret (pe_mn T.load hr (pass1 rfl rfl rfl rfl) (pv 0) (pa_cons (pe_ix ix_list (pv 2) pe_int (fun _ _ => rfl)) pa_nil)))) pss_nil)
    (pss_cons (ps_if (pt_not (pt_val (pe_mn0 T.has hr pass0 (pv 0)))) (pss_one (ps_raise0 T.nt (takes_of rfl rfl rfl rfl))) pss_nil)
    (pss_cons (ps_if (pt_cmpR op_eq (pv 1) (pe_gc T.c1) (nomark _)) (pss_one (ps_ret (pe_mn T.apply hr (pass1 rfl rfl rfl rfl) (pv 0) (pa_cons (pe_ix ix_list (pv 2) pe_int (fun _ _ => rfl)) pa_nil)))) pss_nil)
    (pss_cons (ps_if (pt_cmpR op_eq (pv 1) (pe_gc T.c2) (nomark _)) (pss_one (ps_ret (pe_mn T.dry hr (pass1 rfl rfl rfl rfl) (pv 0) (pa_cons (pe_ix ix_list (pv 2) pe_int (fun _ _ => rfl)) pa_nil)))) pss_nil)
    (pss_cons (ps_if (pt_cmpR op_eq (pv 1) (pe_gc T.c3) (nomark _)) (pss_one (ps_ret (pe_mn0 T.undo hr (pass1 rfl rfl rfl rfl) (pv 0)))) pss_nil)
    (pss_cons (ps_if (pt_cmpR op_eq (pv 1) (pe_gc T.c4) (nomark _)) (pss_one (ps_ret (pe_mn0 T.redo hr (pass1 rfl rfl rfl rfl) (pv 0)))) pss_nil)
    (pss_cons (ps_if (pt_cmpR op_eq (pv 1) (pe_gc T.c5) (nomark _)) (pss_one (ps_ret (pe_mn0 T.shown hr pass0 (pv 0)))) pss_nil)
    (pss_cons (ps_if (pt_cmpR op_eq (pv 1) (pe_gc T.c6) (nomark _)) (pss_one (ps_ret (pe_mn0 T.origins hr pass0 (pv 0)))) pss_nil)
    (pss_cons (ps_if (pt_cmpR op_eq (pv 1) (pe_gc T.c7) (nomark _)) (pss_one (ps_ret (pe_mn T.same hr (pass1 rfl rfl rfl rfl) (pv 0) (pa_cons (pe_ix ix_list (pv 2) pe_int (fun _ _ => rfl)) (pa_cons (pe_ix ix_list (pv 2) pe_int (fun _ _ => rfl)) pa_nil))))) pss_nil)
    (pss_cons (ps_if (pt_cmpR op_eq (pv 1) (pe_gc T.c8) (nomark _)) (pss_one (ps_ret (pe_mn T.guard hr (pass1 rfl rfl rfl rfl) (pv 0) (pa_cons (pe_ix ix_list (pv 2) pe_int (fun _ _ => rfl)) pa_nil)))) pss_nil)
    (pss_one (ps_if (pt_cmpR op_eq (pv 1) (pe_gc T.c9) (nomark _)) (pss_one (ps_ret (pe_mn0 T.history hr pass0 (pv 0)))) pss_nil))))))))))), ?_⟩)
  · obtain ⟨X, ss, vl, ul, ra, p, bs, o, c, rfl, _⟩ := h
    rfl
  · obtain ⟨X, ss, vl, ul, ra, p, bs, o, c, rfl, hS, hok, hR, h8, hc, ob⟩ := h
    obtain ⟨dx, h1⟩ := hS.ob
    cases hc with
    | load b =>
      obtain ⟨xs, pb, r1, r2, r3⟩ := hR.at0
      have hb := h8 b (by simp)
      exact ⟨_, rfl, rfl, _, rfl, yes ⟨_, rfl, ss, dx, _, rfl, h1, rfl, _, rfl, ra, xs, 0, .ref pb, rfl, rfl, SqL.of r1, atI_nat r2, X, ss, vl, ul, pb, o, b, rfl, hS, SqL.of r3, by omega, fun hn => ob.nr (st_load_no o hn), fun t ht => ob.gives (st_load o ht)⟩⟩
    | apply b =>
      refine ⟨_, rfl, rfl, _, rfl, no ⟨_, rfl, ss, dx, _, rfl, h1, rfl, X, ss, vl, ul, o, rfl, hS, fun H1 e1 => ⟨_, rfl, ?_⟩⟩⟩
      cases o with
      | none => exact iteT (ob.nt rfl H1 e1)
      | some z =>
        have hok : Wf z := hok
        have hn20 := hok.n
        replace ob := ob.of e1
        have hS1 := hS.ex e1
        have h11 := e1 _ _ h1
        obtain ⟨xs, pb, r1, r2, r3⟩ := (hR.ex e1).at0
        have hb := h8 b (by simp)
        exact iteF ⟨_, rfl, rfl, _, rfl, yes ⟨_, rfl, ss, dx, _, rfl, h11, rfl, _, rfl, ra, xs, 0, .ref pb, rfl, rfl, SqL.of r1, atI_nat r2, X, ss, vl, ul, pb, z, b, rfl, hS1, hok.now, by omega, SqL.of r3, by omega, fun f hf => ob.flt f (st_apply_fault hf), fun s hs hp => ob.rm (st_apply_full hs hp), fun s hs hp hn => ob.tm (st_apply_much hs hp hn), fun s l hs hp hn hg => ob.hg (st_apply_harm hs hp hn hg), fun s l hs hp hn hg => ob.gives (st_apply hs hp hn hg)⟩⟩
    | dry b =>
      refine ⟨_, rfl, rfl, _, rfl, no ⟨_, rfl, ss, dx, _, rfl, h1, rfl, X, ss, vl, ul, o, rfl, hS, fun H1 e1 => ⟨_, rfl, ?_⟩⟩⟩
      cases o with
      | none => exact iteT (ob.nt rfl H1 e1)
      | some z =>
        have hok : Wf z := hok
        have hn20 := hok.n
        replace ob := ob.of e1
        have hS1 := hS.ex e1
        have h11 := e1 _ _ h1
        obtain ⟨xs, pb, r1, r2, r3⟩ := (hR.ex e1).at0
        have hb := h8 b (by simp)
        exact iteF ⟨_, rfl, rfl, _, rfl, no ⟨_, rfl, rfl, _, rfl, yes ⟨_, rfl, ss, dx, _, rfl, h11, rfl, _, rfl, ra, xs, 0, .ref pb, rfl, rfl, SqL.of r1, atI_nat r2, X, ss, vl, ul, pb, z, b, rfl, hS1, hok.now, SqL.of r3, by omega, fun f hf => ob.flt f (st_dry_fault hf), fun s hs hn => ob.tm (st_dry_much hs hn), fun s l hs hn => by
          have q := (ob.gives (st_dry hs hn)).stays hS1
          rw [en_dry] at q
          exact q⟩⟩⟩
    | undo =>
      refine ⟨_, rfl, rfl, _, rfl, no ⟨_, rfl, ss, dx, _, rfl, h1, rfl, X, ss, vl, ul, o, rfl, hS, fun H1 e1 => ⟨_, rfl, ?_⟩⟩⟩
      cases o with
      | none => exact iteT (ob.nt rfl H1 e1)
      | some z =>
        have hok : Wf z := hok
        have hn20 := hok.n
        replace ob := ob.of e1
        have hS1 := hS.ex e1
        have h11 := e1 _ _ h1
        exact iteF ⟨_, rfl, rfl, _, rfl, no ⟨_, rfl, rfl, _, rfl, no ⟨_, rfl, rfl, _, rfl, yes ⟨_, rfl, ss, dx, _, rfl, h11, rfl, X, ss, vl, ul, z, rfl, hS1, by omega, fun hp => ob.ns (st_undo_no hp), fun l r hp => ob.gives (st_undo hp)⟩⟩⟩⟩
    | redo =>
      refine ⟨_, rfl, rfl, _, rfl, no ⟨_, rfl, ss, dx, _, rfl, h1, rfl, X, ss, vl, ul, o, rfl, hS, fun H1 e1 => ⟨_, rfl, ?_⟩⟩⟩
      cases o with
      | none => exact iteT (ob.nt rfl H1 e1)
      | some z =>
        have hok : Wf z := hok
        have hn20 := hok.n
        replace ob := ob.of e1
        have hS1 := hS.ex e1
        have h11 := e1 _ _ h1
        exact iteF ⟨_, rfl, rfl, _, rfl, no ⟨_, rfl, rfl, _, rfl, no ⟨_, rfl, rfl, _, rfl, no ⟨_, rfl, rfl, _, rfl, yes ⟨_, rfl, ss, dx, _, rfl, h11, rfl, X, ss, vl, ul, z, rfl, hS1, by omega, fun hp => ob.ns (st_redo_no hp), fun l r hp => ob.gives (st_redo hp)⟩⟩⟩⟩⟩
    | shown =>
      refine ⟨_, rfl, rfl, _, rfl, no ⟨_, rfl, ss, dx, _, rfl, h1, rfl, X, ss, vl, ul, o, rfl, hS, fun H1 e1 => ⟨_, rfl, ?_⟩⟩⟩
      cases o with
      | none => exact iteT (ob.nt rfl H1 e1)
      | some z =>
        have hok : Wf z := hok
        have hn20 := hok.n
        replace ob := ob.of e1
        have hS1 := hS.ex e1
        have h11 := e1 _ _ h1
        exact iteF ⟨_, rfl, rfl, _, rfl, no ⟨_, rfl, rfl, _, rfl, no ⟨_, rfl, rfl, _, rfl, no ⟨_, rfl, rfl, _, rfl, no ⟨_, rfl, rfl, _, rfl, yes ⟨_, rfl, ss, dx, _, rfl, h11, rfl, X, ss, vl, ul, z, rfl, hS1, hok.now, by
          have q := (ob.gives (o' := some z) (a := ⟨(z.now.length : Int), VasedBase.textRow (Vaseda.showText (Vasedz.textOf z.now))⟩) rfl).stays hS1
          rw [en_shown] at q
          exact q⟩⟩⟩⟩⟩⟩
    | origins =>
      refine ⟨_, rfl, rfl, _, rfl, no ⟨_, rfl, ss, dx, _, rfl, h1, rfl, X, ss, vl, ul, o, rfl, hS, fun H1 e1 => ⟨_, rfl, ?_⟩⟩⟩
      cases o with
      | none => exact iteT (ob.nt rfl H1 e1)
      | some z =>
        have hok : Wf z := hok
        have hn20 := hok.n
        replace ob := ob.of e1
        have hS1 := hS.ex e1
        have h11 := e1 _ _ h1
        exact iteF ⟨_, rfl, rfl, _, rfl, no ⟨_, rfl, rfl, _, rfl, no ⟨_, rfl, rfl, _, rfl, no ⟨_, rfl, rfl, _, rfl, no ⟨_, rfl, rfl, _, rfl, no ⟨_, rfl, rfl, _, rfl, yes ⟨_, rfl, ss, dx, _, rfl, h11, rfl, X, ss, vl, ul, z, rfl, hS1, hok.now, by
          have q := (ob.gives (o' := some z) (a := ⟨(z.now.length : Int), z.now.flatMap Vasedz.tagRow⟩) rfl).stays hS1
          rw [en_origins] at q
          exact q⟩⟩⟩⟩⟩⟩⟩
    | same a b =>
      refine ⟨_, rfl, rfl, _, rfl, no ⟨_, rfl, ss, dx, _, rfl, h1, rfl, X, ss, vl, ul, o, rfl, hS, fun H1 e1 => ⟨_, rfl, ?_⟩⟩⟩
      cases o with
      | none => exact iteT (ob.nt rfl H1 e1)
      | some z =>
        have hok : Wf z := hok
        have hn20 := hok.n
        replace ob := ob.of e1
        have hS1 := hS.ex e1
        have h11 := e1 _ _ h1
        obtain ⟨xs, pa, pb, r1, r2, r3, r4, r5⟩ := (hR.ex e1).at1
        have ha := h8 a (by simp)
        have hb := h8 b (by simp)
        exact iteF ⟨_, rfl, rfl, _, rfl, no ⟨_, rfl, rfl, _, rfl, no ⟨_, rfl, rfl, _, rfl, no ⟨_, rfl, rfl, _, rfl, no ⟨_, rfl, rfl, _, rfl, no ⟨_, rfl, rfl, _, rfl, no ⟨_, rfl, rfl, _, rfl, yes ⟨_, rfl, ss, dx, _, rfl, h11, rfl, _, rfl, ra, xs, 0, .ref pa, rfl, rfl, SqL.of r1, atI_nat r2, _, rfl, ra, xs, 1, .ref pb, rfl, rfl, SqL.of r1, atI_nat r4, X, ss, vl, ul, pa, pb, z, a, b, rfl, hS1, hok.vers, by omega, SqL.of r3, by omega, SqL.of r5, by omega, fun f hf => ob.flt f (st_same_a hf), fun s f hs hf => ob.flt f (st_same_b hs hf), fun s u hs hu => by
          have q := (ob.gives (st_same hs hu)).stays hS1
          rw [en_same] at q
          exact q⟩⟩⟩⟩⟩⟩⟩⟩
    | guard b =>
      refine ⟨_, rfl, rfl, _, rfl, no ⟨_, rfl, ss, dx, _, rfl, h1, rfl, X, ss, vl, ul, o, rfl, hS, fun H1 e1 => ⟨_, rfl, ?_⟩⟩⟩
      cases o with
      | none => exact iteT (ob.nt rfl H1 e1)
      | some z =>
        have hok : Wf z := hok
        have hn20 := hok.n
        replace ob := ob.of e1
        have hS1 := hS.ex e1
        have h11 := e1 _ _ h1
        obtain ⟨xs, pb, r1, r2, r3⟩ := (hR.ex e1).at0
        have hb := h8 b (by simp)
        exact iteF ⟨_, rfl, rfl, _, rfl, no ⟨_, rfl, rfl, _, rfl, no ⟨_, rfl, rfl, _, rfl, no ⟨_, rfl, rfl, _, rfl, no ⟨_, rfl, rfl, _, rfl, no ⟨_, rfl, rfl, _, rfl, no ⟨_, rfl, rfl, _, rfl, no ⟨_, rfl, rfl, _, rfl, yes ⟨_, rfl, ss, dx, _, rfl, h11, rfl, _, rfl, ra, xs, 0, .ref pb, rfl, rfl, SqL.of r1, atI_nat r2, X, ss, vl, ul, pb, z, b, rfl, hS1, hok.now, SqL.of r3, by omega, fun hl => ob.nr (st_guard_no hl), fun hl => ob.gives (st_guard hl)⟩⟩⟩⟩⟩⟩⟩⟩⟩
    | history =>
      refine ⟨_, rfl, rfl, _, rfl, no ⟨_, rfl, ss, dx, _, rfl, h1, rfl, X, ss, vl, ul, o, rfl, hS, fun H1 e1 => ⟨_, rfl, ?_⟩⟩⟩
      cases o with
      | none => exact iteT (ob.nt rfl H1 e1)
      | some z =>
        have hok : Wf z := hok
        have hn20 := hok.n
        replace ob := ob.of e1
        have hS1 := hS.ex e1
        have h11 := e1 _ _ h1
        exact iteF ⟨_, rfl, rfl, _, rfl, no ⟨_, rfl, rfl, _, rfl, no ⟨_, rfl, rfl, _, rfl, no ⟨_, rfl, rfl, _, rfl, no ⟨_, rfl, rfl, _, rfl, no ⟨_, rfl, rfl, _, rfl, no ⟨_, rfl, rfl, _, rfl, no ⟨_, rfl, rfl, _, rfl, no ⟨_, rfl, rfl, _, rfl, yes ⟨_, rfl, ss, dx, _, rfl, h11, rfl, X, ss, vl, ul, z, rfl, hS1, by omega, by
          have q := (ob.gives (o' := some z) (a := ⟨(z.past.length : Int), Vasedz.nats (z.future.length :: (Vasedz.texts z).map fun t => t.length)⟩) rfl).stays hS1
          rw [en_history] at q
          exact q⟩⟩⟩⟩⟩⟩⟩⟩⟩⟩
end LE

/-! LAr: answer_or_refusal. -/
namespace LE
open PySem PySem.Spec PyProof.Rows L2 Evl
open Vasedz (Held Tag Tagged)
variable {P : Program} {w : World} {K : PySem.W.Frag} {mg : Str → Option Value} {base : Heap}
/-- which error is of which clause's class -/
structure ExTab (K : PySem.W.Frag) (CF NT NS NR RM TM HG : Addr) : Prop where
  x00 : PySem.W.exmOne K (.ref CF) (.ref CF) = some true
  x10 : PySem.W.exmOne K (.ref NT) (.ref CF) = some false
  x11 : PySem.W.exmOne K (.ref NT) (.ref NT) = some true
  x20 : PySem.W.exmOne K (.ref NS) (.ref CF) = some false
  x21 : PySem.W.exmOne K (.ref NS) (.ref NT) = some false
  x22 : PySem.W.exmOne K (.ref NS) (.ref NS) = some true
  x30 : PySem.W.exmOne K (.ref NR) (.ref CF) = some false
  x31 : PySem.W.exmOne K (.ref NR) (.ref NT) = some false
  x32 : PySem.W.exmOne K (.ref NR) (.ref NS) = some false
  x33 : PySem.W.exmOne K (.ref NR) (.ref NR) = some true
  x40 : PySem.W.exmOne K (.ref RM) (.ref CF) = some false
  x41 : PySem.W.exmOne K (.ref RM) (.ref NT) = some false
  x42 : PySem.W.exmOne K (.ref RM) (.ref NS) = some false
  x43 : PySem.W.exmOne K (.ref RM) (.ref NR) = some false
  x44 : PySem.W.exmOne K (.ref RM) (.ref RM) = some true
  x50 : PySem.W.exmOne K (.ref TM) (.ref CF) = some false
  x51 : PySem.W.exmOne K (.ref TM) (.ref NT) = some false
  x52 : PySem.W.exmOne K (.ref TM) (.ref NS) = some false
  x53 : PySem.W.exmOne K (.ref TM) (.ref NR) = some false
  x54 : PySem.W.exmOne K (.ref TM) (.ref RM) = some false
  x55 : PySem.W.exmOne K (.ref TM) (.ref TM) = some true
  x60 : PySem.W.exmOne K (.ref HG) (.ref CF) = some false
  x61 : PySem.W.exmOne K (.ref HG) (.ref NT) = some false
  x62 : PySem.W.exmOne K (.ref HG) (.ref NS) = some false
  x63 : PySem.W.exmOne K (.ref HG) (.ref NR) = some false
  x64 : PySem.W.exmOne K (.ref HG) (.ref RM) = some false
  x65 : PySem.W.exmOne K (.ref HG) (.ref TM) = some false
  x66 : PySem.W.exmOne K (.ref HG) (.ref HG) = some true
abbrev sAr : Stmt := top 106
theorem sc_ar : FnScope ["session", "call", "rows", "e"] ["session", "call", "rows"] (defScope sAr) := ⟨rfl, rfl, rfl, by decide +kernel, rfl, by decide +kernel, by decide +kernel⟩
def spAoR (CS CV : Addr) : Sp := fun vs H Q _ => ∃ (X : List Addr) (ss vl ul ra : Addr) (p : Int) (bs : List (List UInt8)) (o : Option Held) (c : Vasedz.Call), vs = [.ref ss, .int p, .ref ra] ∧ SesAt CS CV X H ss vl ul o ∧ okHeld o ∧ RowsIn H ra bs ∧ (∀ b ∈ bs, b.length ≤ 8192) ∧ CallIs p bs c ∧
  SesRet CS CV X H ss vl ul (Vasedz.step o c).1 (encV (Vasedz.step o c).2) Q
theorem ok_ar {f CS CV CF NT NS NR RM TM HG : Addr} {fd : FuncData} (F : Fun K "answer_or_refusal" "answer_or_refusal" sAr f fd) (XT : ExTab K CF NT NS NR RM TM HG) (FT : FltT K mg CF)
    (eNT : ErrT K mg "NoText" NT) (eNS : ErrT K mg "NoStepLeft" NS) (eNR : ErrT K mg "NotToldRightly" NR) (eRM : ErrT K mg "NoRoomForStep" RM) (eTM : ErrT K mg "TooMuch" TM) (eHG : ErrT K mg "HarmsGuarded" HG)
    (ga : Dn P w K mg base (L2.CX P w) 10 "answer_of" (spAo CS CV CF NT NS NR RM TM HG) 3) : FnOk P w K mg base CX0 11 f fd ["session", "call", "rows"] (spAoR CS CV) := by
  refine F.ok sc_ar (fun vs H Q E h => ?_) (fun cdv A outer s H vs Q E hr h => ⟨_, pss_one (ps_try_all rfl rfl sc_ar.nd (fun W more xe tk => pss_one (ps_ret (pe_dnS ga hr (fun σ => passAt tk σ) (pa_cons (pv 0) (pa_cons (pv 1) (pa_cons (pv 2) pa_nil))))))
    (.named (i := 3) ⟨rfl, by decide, .inl FT.ge⟩ (fun u ob cls d more hz hf => pss_one (ps_ret (pe_lst (pa_cons pe_int (pa_cons (pe_xf FT.xf FT.nC hz hf (pv 3)) (pa_cons (pe_xf FT.xf FT.nP hz hf (pv 3)) pa_nil)))))) rfl rfl
    (.plain ⟨rfl, by decide, .inl eNT.ge⟩ (fun u ob cls d more hz hf => pss_one (ps_ret (pe_lst (pa_cons (pe_un un_neg pe_int) pa_nil))))
    (.plain ⟨rfl, by decide, .inl eNS.ge⟩ (fun u ob cls d more hz hf => pss_one (ps_ret (pe_lst (pa_cons (pe_un un_neg pe_int) pa_nil))))
    (.plain ⟨rfl, by decide, .inl eNR.ge⟩ (fun u ob cls d more hz hf => pss_one (ps_ret (pe_lst (pa_cons (pe_un un_neg pe_int) pa_nil))))
    (.plain ⟨rfl, by decide, .inl eRM.ge⟩ (fun u ob cls d more hz hf => pss_one (ps_ret (pe_lst (pa_cons (pe_un un_neg pe_int) pa_nil))))
    (.plain ⟨rfl, by decide, .inl eTM.ge⟩ (fun u ob cls d more hz hf => pss_one (ps_ret (pe_lst (pa_cons (pe_un un_neg pe_int) pa_nil))))
    (.plain ⟨rfl, by decide, .inl eHG.ge⟩ (fun u ob cls d more hz hf => pss_one (ps_ret (pe_lst (pa_cons (pe_un un_neg pe_int) pa_nil))))
    .none)))))))), ?_⟩)
  · obtain ⟨X, ss, vl, ul, ra, p, bs, o, c, rfl, _⟩ := h
    rfl
  · obtain ⟨X, ss, vl, ul, ra, p, bs, o, c, rfl, hS, hok, hR, h8, hc, k⟩ := h
    refine ⟨_, rfl, _, rfl, _, rfl, X, ss, vl, ul, ra, p, bs, o, c, rfl, hS, hok, hR, h8, hc, ?_⟩
    have one : ∀ n : Int, Vasedz.step o c = (o, VasedBase.one n) → RetL [.int n] H Q := fun n e => by
      rw [e] at k
      exact k.stays hS
    refine ⟨fun f e d H' e' hd => ?_, fun e H' e' => ?_, fun e H' e' => ?_, fun e H' e' => ?_, fun e H' e' => ?_, fun e H' e' => ?_, fun e H' e' => ?_, k⟩
    · have q : RetL [.int 0, .int (f.code : Nat), .int (f.place : Nat)] H Q := by
        rw [e] at k
        exact k.stays hS
      refine ⟨true, XT.x00, (fun z => nomatch z), fun _ u nu => ?_⟩
      exact ⟨_, rfl, rfl, rfl, d, _, _, rfl, hd, rfl, _, rfl, rfl, rfl, d, _, _, rfl, hd, rfl, by show 3 ≤ sizeLine; decide, fun r nr => q r _ (fresh_back e' nr) (e'.trans (Ex.new nr)) upd_same⟩
    · have q := one (-1) e
      exact ⟨false, XT.x10, fun _ => ⟨true, XT.x11, (fun z => nomatch z), fun _ u nu => ⟨_, rfl, by show 1 ≤ sizeLine; decide, fun r nr => q r _ (fresh_back e' nr) (e'.trans (Ex.new nr)) upd_same⟩⟩, (fun z => nomatch z)⟩
    · have q := one (-2) e
      exact ⟨false, XT.x20, fun _ => ⟨false, XT.x21, fun _ => ⟨true, XT.x22, (fun z => nomatch z), fun _ u nu => ⟨_, rfl, by show 1 ≤ sizeLine; decide, fun r nr => q r _ (fresh_back e' nr) (e'.trans (Ex.new nr)) upd_same⟩⟩, (fun z => nomatch z)⟩, (fun z => nomatch z)⟩
    · have q := one (-4) e
      exact ⟨false, XT.x30, fun _ => ⟨false, XT.x31, fun _ => ⟨false, XT.x32, fun _ => ⟨true, XT.x33, (fun z => nomatch z), fun _ u nu => ⟨_, rfl, by show 1 ≤ sizeLine; decide, fun r nr => q r _ (fresh_back e' nr) (e'.trans (Ex.new nr)) upd_same⟩⟩, (fun z => nomatch z)⟩, (fun z => nomatch z)⟩, (fun z => nomatch z)⟩
    · have q := one (-6) e
      exact ⟨false, XT.x40, fun _ => ⟨false, XT.x41, fun _ => ⟨false, XT.x42, fun _ => ⟨false, XT.x43, fun _ => ⟨true, XT.x44, (fun z => nomatch z), fun _ u nu => ⟨_, rfl, by show 1 ≤ sizeLine; decide, fun r nr => q r _ (fresh_back e' nr) (e'.trans (Ex.new nr)) upd_same⟩⟩, (fun z => nomatch z)⟩, (fun z => nomatch z)⟩, (fun z => nomatch z)⟩, (fun z => nomatch z)⟩
    · have q := one (-7) e
      exact ⟨false, XT.x50, fun _ => ⟨false, XT.x51, fun _ => ⟨false, XT.x52, fun _ => ⟨false, XT.x53, fun _ => ⟨false, XT.x54, fun _ => ⟨true, XT.x55, (fun z => nomatch z), fun _ u nu => ⟨_, rfl, by show 1 ≤ sizeLine; decide, fun r nr => q r _ (fresh_back e' nr) (e'.trans (Ex.new nr)) upd_same⟩⟩, (fun z => nomatch z)⟩, (fun z => nomatch z)⟩, (fun z => nomatch z)⟩, (fun z => nomatch z)⟩, (fun z => nomatch z)⟩
    · have q := one (-9) e
      exact ⟨false, XT.x60, fun _ => ⟨false, XT.x61, fun _ => ⟨false, XT.x62, fun _ => ⟨false, XT.x63, fun _ => ⟨false, XT.x64, fun _ => ⟨false, XT.x65, fun _ => ⟨true, XT.x66, (fun z => nomatch z), fun _ u nu => ⟨_, rfl, by show 1 ≤ sizeLine; decide, fun r nr => q r _ (fresh_back e' nr) (e'.trans (Ex.new nr)) upd_same⟩⟩, (fun z => nomatch z)⟩, (fun z => nomatch z)⟩, (fun z => nomatch z)⟩, (fun z => nomatch z)⟩, (fun z => nomatch z)⟩, (fun z => nomatch z)⟩
end LE

/-! LInv: what is asked of a state is kept. -/
namespace LE
open PySem PySem.Spec PyProof.Rows L2 Evl
open Vaseda (Work Out Deed Cmd work works worksBy lineRun)
open Vasedz (Held Tag Tagged stepBy tagged)
theorem read_w {b : List UInt8} {s : Vaseda.Script} (h : Vaseda.read b = .ok s) : ∀ c ∈ s, wfD c.d := by
  unfold Vaseda.read at h
  obtain ⟨l, hl, h⟩ := ex_bind h
  unfold VasedBase.tokens at hl
  split at hl
  · cases hl
  · have lok : LexOk l := lx_ok b.length 0 b l (Nat.le_refl _) hl
    refine cmds_w _ _ l s (fun t ht v hv => ?_) (fun c hc => absurd hc (by simp)) h
    obtain ⟨i, hi⟩ := List.getElem?_of_mem ht
    rcases lok.tok hi with q | q | ⟨w, q, q1, q2⟩ | ⟨n, q⟩
    · rw [q] at hv; cases hv
    · rw [q] at hv; cases hv
    · rw [q] at hv
      cases hv
      exact ⟨q1, q2⟩
    · rw [q] at hv; cases hv
structure OkW (w : Work) : Prop where
  x : w.x.length ≤ 16
  held : w.held.length ≤ 16
  pre : ∀ o ∈ w.pre, o.x.length ≤ 16
  post : ∀ o ∈ w.post, o.x.length ≤ 16
theorem okW_add {l : List Out} {o : Out} (h : ∀ o ∈ l, o.x.length ≤ 16) (ho : o.x.length ≤ 16) : ∀ p ∈ l ++ [o], p.x.length ≤ 16 := fun p hp => by
  rcases List.mem_append.mp hp with q | q
  · exact h p q
  · rw [mem1 q]
    exact ho
theorem deed_okW {k i : Nat} {w : Work} {d : Deed} (ok : OkW w) (wf : wfD d) (hb : (Vaseda.deed k i w d).bad = false) : OkW (Vaseda.deed k i w d) := by
  obtain ⟨h1, h2, h3, h4⟩ := ok
  cases d with
  | delete => exact ⟨h1, h2, h3, h4⟩
  | skip n => exact ⟨h1, h2, h3, h4⟩
  | halt_ => exact ⟨h1, h2, h3, h4⟩
  | before y => exact ⟨h1, h2, okW_add h3 (Nat.le_trans wf.2 (by decide)), h4⟩
  | after y => exact ⟨h1, h2, h3, okW_add h4 (Nat.le_trans wf.2 (by decide))⟩
  | bring => exact ⟨h1, h2, h3, okW_add h4 h2⟩
  | keep => exact ⟨h1, h1, h3, h4⟩
  | trade => exact ⟨h2, h1, h3, h4⟩
  | change y => exact ⟨Nat.le_trans wf.2 (by decide), h2, h3, h4⟩
  | swap a b => exact ⟨swapIn_ok hb, h2, h3, h4⟩
  | first a b => exact ⟨swapIn_ok hb, h2, h3, h4⟩
theorem fold_okW {k : Nat} {last : Bool} : ∀ (l : List (Cmd × Nat)) (w : Work), (∀ c ∈ l, wfD c.1.d) → OkW w → (l.foldl (work k last) w).bad = false → OkW (l.foldl (work k last) w)
  | [], w, _, h, hb => h
  | c :: r, w, wf, ok, hb => by
    rw [List.foldl_cons] at hb ⊢
    have wfr : ∀ c ∈ r, wfD c.1.d := fun c hc => wf c (List.mem_cons_of_mem _ hc)
    by_cases hs : (w.halt || w.bad) = true
    · have e : work k last w c = w := if_pos hs
      rw [e] at hb ⊢
      exact fold_okW r w wfr ok hb
    · have hs' : w.halt = false ∧ w.bad = false := by
        rw [← Bool.or_eq_false_iff]
        simpa using hs
      by_cases hl : 0 < w.left
      · have e : work k last w c = { w with left := w.left - 1 } := by
          show (if (w.halt || w.bad) = true then w else if 0 < w.left then { w with left := w.left - 1 } else _) = _
          rw [if_neg hs, if_pos hl]
        rw [e] at hb ⊢
        exact fold_okW r { w with left := w.left - 1 } wfr ⟨ok.x, ok.held, ok.pre, ok.post⟩ hb
      · obtain ⟨c, i⟩ := c
        rw [work_go hs'.1 hs'.2 (by omega)] at hb ⊢
        split at hb
        · rename_i hh
          rw [if_pos hh]
          by_cases hb2 : (Vaseda.deed k i { w with did := w.did ++ [i] } c.d).bad = true
          · rw [fold_stop _ _ (by rw [hb2, Bool.or_true])] at hb
            rw [hb2] at hb
            cases hb
          · have hb3 : (Vaseda.deed k i { w with did := w.did ++ [i] } c.d).bad = false := by simpa using hb2
            exact fold_okW r _ wfr (deed_okW ⟨ok.x, ok.held, ok.pre, ok.post⟩ (wf (c, i) (List.mem_cons_self ..)) hb3) hb
        · rename_i hh
          rw [if_neg hh]
          exact fold_okW r _ wfr ok hb
theorem works_okW {s : List Cmd} (wf : ∀ c ∈ s, wfD c.d) : ∀ (t : List (List UInt8)) (k : Nat) (h : List UInt8), (∀ x ∈ t, x.length ≤ 16) → h.length ≤ 16 → (worksBy s k h t).any (fun w => w.bad) = false → ∀ w ∈ worksBy s k h t, OkW w
  | [], _, _, _, _, _, w, hw => by cases hw
  | x :: r, k, h, hx, hh, hb, w, hw => by
    have hb : (lineRun s k r.isEmpty x h :: worksBy s (k + 1) (lineRun s k r.isEmpty x h).held r).any (fun w => w.bad) = false := hb
    rw [List.any_cons, Bool.or_eq_false_iff] at hb
    have one : OkW (lineRun s k r.isEmpty x h) := fold_okW s.zipIdx ⟨x, h, [], [], false, false, 0, [], false⟩ (fun c hc => wf c.1 (by
      obtain ⟨c, j⟩ := c
      have := List.mem_zipIdx' hc
      rw [this.2]
      exact List.getElem_mem _)) ⟨hx x List.mem_cons_self, hh, fun o ho => absurd ho (by simp), fun o ho => absurd ho (by simp)⟩ hb.1
    have hw : w ∈ lineRun s k r.isEmpty x h :: worksBy s (k + 1) (lineRun s k r.isEmpty x h).held r := hw
    rcases List.mem_cons.mp hw with rfl | hw
    · exact one
    · exact works_okW wf r _ _ (fun y hy => hx y (List.mem_cons_of_mem _ hy)) one.held hb.2 w hw
theorem outs_mem {l : List Out} {x : List UInt8} (h : V.str (S x) ∈ outs l) : ∃ o ∈ l, o.x = x := by
  unfold outs tv at h
  rw [List.map_map] at h
  obtain ⟨o, ho, e⟩ := List.mem_map.mp h
  exact ⟨o, ho, S_inj (V.str.inj e)⟩
theorem resV_ok {W : List Work} (h : ∀ w ∈ W, OkW w) {x : List UInt8} (hx : V.str (S x) ∈ resV W) : x.length ≤ 16 := by
  unfold resV at hx
  obtain ⟨w, hw, q⟩ := List.mem_flatMap.mp hx
  have ok := h w hw
  unfold outsL at q
  rcases List.mem_append.mp q with q | q
  · rcases List.mem_append.mp q with q | q
    · obtain ⟨o, ho, rfl⟩ := outs_mem q
      exact ok.pre o ho
    · split at q
      · cases q
      · rw [S_inj (V.str.inj (mem1 q))]
        exact ok.x
  · obtain ⟨o, ho, rfl⟩ := outs_mem q
    exact ok.post o ho
theorem step_ok {s : List Cmd} {n : Nat} {l l' : Tagged} (wf : ∀ c ∈ s, wfD c.d) (hl : okText (Vasedz.textOf l)) (h : stepBy s n l = some l') : okText (Vasedz.textOf l') := by
  by_cases hn : Vaseda.run s (Vasedz.textOf l) = none
  · rw [step_none hn] at h
    cases h
  · have hn2 := fun q => hn (run_none.mpr q)
    have hb : (works s (Vasedz.textOf l)).any (fun w => w.bad) = false := by
      cases e : (works s (Vasedz.textOf l)).any (fun w => w.bad) with
      | false => rfl
      | true => exact absurd (.inl e) hn2
    have ht : total (works s (Vasedz.textOf l)) ≤ 60 := Nat.le_of_not_lt fun q => hn2 (.inr q)
    rw [step_some hb ht] at h
    split at h
    · cases h
    · rename_i h24
      cases h
      have hlen : l.length = (works s (Vasedz.textOf l)).length := by
        rw [show works s (Vasedz.textOf l) = worksBy s 1 [] (Vasedz.textOf l) from rfl, works_len]
        simp [Vasedz.textOf]
      have hml : ∀ m : Tagged, (Vasedz.textOf m).length = m.length := fun m => by simp [Vasedz.textOf]
      refine ⟨by rw [hml]; omega, fun x hx => ?_⟩
      have hm : V.str (S x) ∈ tv (Vasedz.textOf (allTags n l (works s (Vasedz.textOf l)))) := List.mem_map.mpr ⟨x, hx, rfl⟩
      rw [text_all n l _ hlen] at hm
      exact resV_ok (works_okW wf _ 1 [] hl.2 (Nat.zero_le _) hb) hm
theorem loaded_ok {t : List (List UInt8)} (h : t.length ≤ 24 ∧ ∀ x ∈ t, x.length ≤ 16) : Wf (loaded t) := by
  refine ⟨?_, fun t ht => absurd ht (by simp [loaded]), fun t ht => absurd ht (by simp [loaded]), Nat.zero_le _, Nat.zero_le _⟩
  show okText (Vasedz.textOf (tagged t))
  rw [text_tagged]
  exact h
theorem kept (o : Option Held) (p : Int) (bs : List (List UInt8)) (c : Vasedz.Call) (hc : CallIs p bs c) (ok : okHeld o) : okHeld (Vasedz.step o c).1 := by
  cases hc with
  | load b =>
    cases e : Vaseda.readText b with
    | none =>
      rw [st_load_no o e]
      exact ok
    | some t =>
      rw [st_load o e]
      exact loaded_ok (read_len e)
  | apply b =>
    cases o with
    | none => exact ok
    | some z =>
      have ok : Wf z := ok
      cases e : Vaseda.read b with
      | error f =>
        rw [show Vasedz.step (some z) (.apply b) = (some z, VasedBase.faulty f) from st_script e]
        exact ok
      | ok s =>
        by_cases hp : 20 ≤ z.past.length
        · rw [st_apply_full e hp]
          exact ok
        · have hp : z.past.length < 20 := by omega
          cases hn : stepBy s (z.past.length + 1) z.now with
          | none =>
            rw [st_apply_much e hp hn]
            exact ok
          | some l =>
            by_cases hg : (Vasedz.guardOff s (Vasedz.textOf z.now) z.guard).isSome = true
            · rw [st_apply_harm e hp hn hg]
              exact ok
            · rw [st_apply e hp hn hg]
              refine ⟨step_ok (read_w e) ok.now hn, fun t ht => ?_, fun t ht => absurd ht (by simp [made]), by show (z.now :: z.past).length + 0 ≤ 20; rw [List.length_cons]; omega, ok.g⟩
              have ht : t ∈ z.now :: z.past := ht
              rcases List.mem_cons.mp ht with rfl | q
              · exact ok.now
              · exact ok.past t q
  | dry b =>
    cases o with
    | none => exact ok
    | some z =>
      cases e : Vaseda.read b with
      | error f =>
        rw [show Vasedz.step (some z) (.dry b) = (some z, VasedBase.faulty f) from st_script e]
        exact ok
      | ok s =>
        cases hn : stepBy s (z.past.length + 1) z.now with
        | none =>
          rw [st_dry_much e hn]
          exact ok
        | some l =>
          rw [st_dry e hn]
          exact ok
  | undo =>
    cases o with
    | none => exact ok
    | some z =>
      have ok : Wf z := ok
      cases e : z.past with
      | nil =>
        rw [st_undo_no e]
        exact ok
      | cons l r =>
        rw [st_undo e]
        have n := ok.n
        rw [e, List.length_cons] at n
        refine ⟨ok.past l (by rw [e]; exact List.mem_cons_self), fun t ht => ok.past t (by rw [e]; exact List.mem_cons_of_mem _ ht), fun t ht => ?_, by show r.length + (z.now :: z.future).length ≤ 20; rw [List.length_cons]; omega, ok.g⟩
        have ht : t ∈ z.now :: z.future := ht
        rcases List.mem_cons.mp ht with rfl | q
        · exact ok.now
        · exact ok.fut t q
  | redo =>
    cases o with
    | none => exact ok
    | some z =>
      have ok : Wf z := ok
      cases e : z.future with
      | nil =>
        rw [st_redo_no e]
        exact ok
      | cons l r =>
        rw [st_redo e]
        have n := ok.n
        rw [e, List.length_cons] at n
        refine ⟨ok.fut l (by rw [e]; exact List.mem_cons_self), fun t ht => ?_, fun t ht => ok.fut t (by rw [e]; exact List.mem_cons_of_mem _ ht), by show (z.now :: z.past).length + r.length ≤ 20; rw [List.length_cons]; omega, ok.g⟩
        have ht : t ∈ z.now :: z.past := ht
        rcases List.mem_cons.mp ht with rfl | q
        · exact ok.now
        · exact ok.past t q
  | shown =>
    cases o with
    | none => exact ok
    | some z => exact ok
  | origins =>
    cases o with
    | none => exact ok
    | some z => exact ok
  | same a b =>
    cases o with
    | none => exact ok
    | some z =>
      cases e : Vaseda.read a with
      | error f =>
        rw [show Vasedz.step (some z) (.same a b) = (some z, VasedBase.faulty f) from st_script e]
        exact ok
      | ok s =>
        cases e2 : Vaseda.read b with
        | error f =>
          rw [st_same_b e e2]
          exact ok
        | ok u =>
          rw [st_same e e2]
          exact ok
  | guard b =>
    cases o with
    | none => exact ok
    | some z =>
      have ok : Wf z := ok
      cases e : lineOk b with
      | false =>
        rw [st_guard_no e]
        exact ok
      | true =>
        rw [st_guard e]
        refine ⟨ok.now, ok.past, ok.fut, ok.n, ?_⟩
        unfold lineOk at e
        rw [Bool.and_eq_true] at e
        exact of_decide_eq_true e.1
  | history =>
    cases o with
    | none => exact ok
    | some z => exact ok
end LE

/-! LAn: the walk over the calls. -/
namespace LE
open PySem PySem.Spec PyProof.Rows L2 Evl
open VasedBase (isLetter isDigit)
open Vasedz (Held Tag Tagged)
variable {P : Program} {w : World} {K : PySem.W.Frag} {mg : Str → Option Value} {base : Heap}
/-! ### Session() -/
abbrev sSesInit : Stmt := inClass (top 91) 0
theorem sc_ses_init : FnScope ["self"] ["self"] (defScope sSesInit) := ⟨rfl, rfl, rfl, by decide +kernel, rfl, by decide +kernel, by decide +kernel⟩
def spSesInit (CS CV : Addr) : Sp := fun vs H Q _ => ∃ (p dx : Addr), vs = [.ref p] ∧ H p = some (.ins CS dx []) ∧ ∀ H' vl ul, SesAt CS CV [] H' p vl ul none → H vl = none → H ul = none → But [p] H H' → Q .non H'
theorem ok_ses_init {f CS CV : Addr} {fd : FuncData} (F : Fun K "__init__" "Session.__init__" sSesInit f fd) (T : TxtSes K mg CS CV) : FnOk P w K mg base CX0 1 f fd ["self"] (spSesInit CS CV) := by
  refine F.ok sc_ses_init (fun vs H Q E h => ?_) (fun cdv A outer s H vs Q E hr h => ⟨_, pss_cons (ps_fld (pv 0) (pe_lst pa_nil) rfl) (pss_cons (ps_fld (pv 0) (pe_lst pa_nil) rfl) (pss_one (ps_fld (pv 0) pe_str rfl))), ?_⟩)
  · obtain ⟨p, dx, rfl, _⟩ := h
    rfl
  · obtain ⟨p, dx, rfl, hp, k⟩ := h
    refine ⟨Nat.zero_le _, fun vl nvl => ⟨_, rfl, p, CS, dx, [], rfl, Ex.new nvl _ _ hp, T.cl, T.nV, by decide, ?_⟩⟩
    have n1 : p ≠ vl := ne_of_none hp nvl
    refine ⟨Nat.zero_le _, fun ul nul => ⟨_, rfl, p, CS, dx, _, rfl, Ex.new nul _ _ upd_same, T.cl, T.nU, by show 1 < 1000; decide, ?_⟩⟩
    have m1 : ul ≠ p := (upd_none' nul).1
    have m2 := (upd_none' nul).2
    have m3 : ul ≠ vl := (upd_none' m2).1
    have m4 : H ul = none := (upd_none' m2).2
    refine ⟨_, rfl, p, CS, dx, _, rfl, upd_same, T.cl, T.nG, by show 2 < 1000; decide, ?_⟩
    rw [upd_upd]
    have eF : putF "guarded" (.str "") (putF "undone" (.ref ul) (putF "versions" (.ref vl) [])) = sF vl ul (grd none) := rfl
    rw [eF]
    refine k _ vl ul ⟨⟨dx, upd_same⟩, VersAt.nil ?_, VersAt.nil ?_, Ne.symm m3, fun c hc => absurd hc (by simp)⟩ nvl m4 ?_
    · rw [upd_ne (Ne.symm n1), upd_ne (Ne.symm m3), upd_ne (Ne.symm n1)]
      exact upd_same
    · rw [upd_ne m1]
      exact upd_same
    · exact (((But.of (Ex.new nvl)).upd (by simp)).trans (But.of (Ex.new nul))).upd (by simp)
theorem pe_kn0 {X : Cx} {k j : Nat} {x : Str} {C : Addr} {sp : Sp} {p pos : Pos} (c : Kn X.prog X.w X.K X.mg X.base k x C sp) (hr : Room j X.A) (hk : k + 1 ≤ j := by decide) (hg : Gl X x := by rfl) (hdb : (x == ("__debug__" : Str)) = false := by decide) :
    PE X (.Call (.Name x p) [] [] pos) (tMake C sp [] E0 tNil) := by
  obtain ⟨f, fd, ps, M, F, hm, b⟩ := c.ex
  exact pe_make0 M F (hr.mono hk) hg hm b .nil pass0 hdb
/-! ### the walk -/
theorem SesAt.lst {CS CV : Addr} {X : List Addr} {H : Hp} {ss vl ul c : Addr} {o : Option Held} {xs ys : List V} (h : SesAt CS CV X H ss vl ul o) (hc : H c = some (.lst xs)) (hX : c ∈ X) (hn : c ∉ [ss, vl, ul]) : SesAt CS CV X (L2.upd H c (.lst ys)) ss vl ul o := by
  simp only [List.mem_cons, List.not_mem_nil, or_false, not_or] at hn
  obtain ⟨n1, n2, n3⟩ := hn
  obtain ⟨dx, h1⟩ := h.ob
  have hF : c ∈ ss :: vl :: ul :: X := by simp [hX]
  exact ⟨⟨dx, by rw [upd_ne (Ne.symm n1)]; exact h1⟩, h.vs.lst hc hF (Ne.symm n2), h.us.lst hc hF (Ne.symm n3), h.ne, al_but (F := [c]) h.al ((But.of (Ex.refl H)).upd (by simp)) fun d hd => ⟨_, (congrArg (L2.upd H c (.lst ys)) (mem1 hd)).trans upd_same⟩⟩
abbrev sAnswers : Stmt := top 105
theorem sc_answers : FnScope ["calls", "session", "answered", "at", "call", "rows", "row", "behind", "answer"] ["calls"] (defScope sAnswers) := ⟨rfl, rfl, rfl, by decide +kernel, rfl, by decide +kernel, by decide +kernel⟩
def spAnswers (K : PySem.W.Frag) : Sp := fun vs H Q _ => ∃ (a : Addr) (l : List Int), vs = [.ref a] ∧ SqL K H a (l.map V.int) ∧ l.length ≤ 60000 ∧ PyVasedz.answers_asked l = true ∧ ∀ H' p, H' p = some (.lst ((PyVasedz.answers l).map V.int)) → Q (.ref p) H'
structure TxtAn (K : PySem.W.Frag) (mg : Str → Option Value) (RW : Addr) : Prop where
  g : Gc mg "ROWS" (.ref RW)
  s : ∀ H, SqT K H RW (kRows.map V.int)
  len : mg "len" = none
  range : mg "range" = none
theorem int_cut {l : List Int} {i j : Nat} (hi : i ≤ l.length) (hj : j ≤ l.length) : cutV (l.map V.int) (some (i : Nat)) (some (j : Nat)) = ((l.drop i).take (j - i)).map V.int := by
  unfold cutV
  rw [HT.sIx_nat, HT.sIx_nat, List.length_map, Nat.min_eq_left hi, Nat.min_eq_left hj, ← List.map_drop, ← List.map_take]
theorem int_get {l : List Int} {i : Nat} {x : Int} (h : l[i]? = some x) : (l.map V.int)[i]? = some (.int x) := by rw [List.getElem?_map, h]; rfl
/-- bytes told as numbers -/
theorem ib_of_ints : ∀ {x : List Int}, (∀ z ∈ x, 0 ≤ z ∧ z ≤ 255) → x.map V.int = ib (VasedzNeutral.bytesOf x) ∧ ofB (VasedzNeutral.bytesOf x) = x
  | [], _ => ⟨rfl, rfl⟩
  | z :: x, h => by
    obtain ⟨h1, h2⟩ := ib_of_ints (x := x) fun y hy => h y (List.mem_cons_of_mem _ hy)
    obtain ⟨z0, z255⟩ := h z List.mem_cons_self
    have e : (((UInt8.ofNat z.toNat).toNat : Nat) : Int) = z := by
      rw [UInt8.toNat_ofNat', Nat.mod_eq_of_lt (by omega)]
      exact Int.toNat_of_nonneg z0
    constructor
    · show V.int z :: x.map V.int = V.int (((UInt8.ofNat z.toNat).toNat : Nat) : Int) :: ib (VasedzNeutral.bytesOf x)
      rw [e, h1]
    · show (((UInt8.ofNat z.toNat).toNat : Nat) : Int) :: ofB (VasedzNeutral.bytesOf x) = z :: x
      rw [e, h2]
theorem byte_of {b : List Int} (h : (b.all (fun (z : Int) => VasedzNeutral.natural z 8) && decide (b.length ≤ 8192)) = true) : (∀ z ∈ b, 0 ≤ z ∧ z ≤ 255) ∧ b.length ≤ 8192 ∧ NeutralIO.bytes b = true := by
  rw [Bool.and_eq_true] at h
  have h1 : ∀ z ∈ b, 0 ≤ z ∧ z ≤ 255 := fun z hz => by
    have q := List.all_eq_true.mp h.1 z hz
    unfold VasedzNeutral.natural at q
    rw [Bool.and_eq_true] at q
    have q1 := of_decide_eq_true q.1
    have q2 := of_decide_eq_true q.2
    omega
  refine ⟨h1, of_decide_eq_true h.2, ?_⟩
  unfold NeutralIO.bytes
  refine List.all_eq_true.mpr fun z hz => ?_
  rw [decide_eq_true (h1 z hz).1, decide_eq_true (h1 z hz).2]
  rfl
theorem asked_call {p : Int} {rows : List (List Int)} (h : VasedzNeutral.asked1 ([p] :: rows) = true) : (∀ r ∈ rows, (∀ z ∈ r, 0 ≤ z ∧ z ≤ 255) ∧ r.length ≤ 8192) ∧ ∃ c, VasedzNeutral.callOf ([p] :: rows) = some c := by
  unfold VasedzNeutral.asked1 at h
  split at h
  all_goals first
    | cases h; done
    | skip
  all_goals rename_i e
  all_goals obtain ⟨e1, e2⟩ := List.cons.inj e
  all_goals obtain ⟨e3, _⟩ := List.cons.inj e1
  all_goals subst e3 e2
  all_goals first
    | exact ⟨fun r hr => absurd hr (by simp), _, rfl⟩
    | (obtain ⟨q1, q2, q3⟩ := byte_of h
       refine ⟨fun r hr => ?_, _, if_pos q3⟩
       rw [show r = _ from mem1 hr]
       exact ⟨q1, q2⟩)
    | (rw [Bool.and_eq_true] at h
       obtain ⟨q1, q2, q3⟩ := byte_of h.1
       obtain ⟨s1, s2, s3⟩ := byte_of h.2
       refine ⟨fun r hr => ?_, _, if_pos ⟨q3, s3⟩⟩
       simp only [List.mem_cons, List.not_mem_nil, or_false] at hr
       rcases hr with rfl | rfl
       · exact ⟨q1, q2⟩
       · exact ⟨s1, s2⟩)
theorem krows_le {n k : Nat} (h : kRows[k]? = some (n : Int)) : n ≤ 2 := by
  have hm := List.mem_of_getElem? h
  simp only [kRows, List.mem_cons, List.not_mem_nil, or_false] at hm
  omega
theorem bytes_rows {p : Int} {rows : List (List Int)} (h : ∀ r ∈ rows, (∀ z ∈ r, 0 ≤ z ∧ z ≤ 255) ∧ r.length ≤ 8192) {c : Vasedz.Call} (hc : VasedzNeutral.callOf ([p] :: rows) = some c) : CallIs p (rows.map VasedzNeutral.bytesOf) c := by
  refine cOf_is ?_
  unfold cOf
  rw [List.map_map]
  have e : rows.map (ofB ∘ VasedzNeutral.bytesOf) = rows := by
    conv => rhs; rw [← List.map_id rows]
    exact List.map_congr_left fun r hr => (ib_of_ints (h r hr).1).2
  rw [e]
  exact hc
theorem sizeLine_10 {n : Nat} (h : n ≤ 10000000) : n < sizeLine := Nat.lt_of_le_of_lt h (by decide)
theorem ok_answers {f CS CV RW : Addr} {fd : FuncData} (F : Fun K "answers" "answers" sAnswers f fd) (T : TxtAn K mg RW) (kS : Kn P w K mg base 1 "Session" CS (spSesInit CS CV)) (ga : Dn P w K mg base CX0 11 "answer_or_refusal" (spAoR CS CV) 3) :
    FnOk P w K mg base CX0 12 f fd ["calls"] (spAnswers K) := by
  refine F.ok sc_answers (fun vs H Q E h => ?_) (fun cdv A outer s H vs Q E hr h => ⟨_, pss_cons (ps_set (i := 1) sc_answers.nd rfl (.inl rfl) (pe_kn0 kS hr))
    (pss_cons (ps_set (i := 2) sc_answers.nd rfl (.inl rfl) (pe_lst pa_nil)) (pss_cons (ps_set (i := 3) sc_answers.nd rfl (.inl rfl) pe_int)
    (pss_cons (ps_while PassesOwn.never (pt_cmpR op_lt (pv 3) (pe_callB call_len_seq (by rfl) T.len PySem.boot_len (pa_cons (pv 0) pa_nil)) (nomark _))
      (pss_cons (ps_set (i := 4) sc_answers.nd rfl (.inl rfl) (pe_ix ix_list (pv 0) (pv 3) (fun _ _ => rfl)))
      (pss_cons (ps_aug (i := 3) sc_answers.nd rfl (.inl rfl) pe_int ip_add)
      (pss_cons (ps_set (i := 5) sc_answers.nd rfl (.inl rfl) (pe_lst pa_nil))
      (pss_cons (ps_for PassesOwn.never rfl (pi_range1 (by rfl) T.range (pa_cons (pe_ix ix_tup (pe_gc T.g) (pv 4) (fun _ _ => rfl)) pa_nil)) (pg_name (i := 6) sc_answers.nd rfl (.inl rfl))
        (pss_cons (ps_set (i := 7) sc_answers.nd rfl (.inl rfl) (pe_op op_add (pe_op op_add (pv 3) pe_int) (pe_ix ix_list (pv 0) (pv 3) (fun _ _ => rfl))))
        (pss_cons (ps_expr (pe_bm PySem.F.plainAttrs_list PySem.F.slot_list_append PySem.F.type_list_append mt_append (pv 5) (pa_cons (pe_slice sl_list (pv 0) (po_some (pe_op op_add (pv 3) pe_int)) (po_some (pv 7))) pa_nil)))
        (pss_one (ps_set (i := 3) sc_answers.nd rfl (.inl rfl) (pv 7))))))
      (pss_cons (ps_set (i := 8) sc_answers.nd rfl (.inl rfl) (pe_dn ga hr pass0 (pa_cons (pv 1) (pa_cons (pv 4) (pa_cons (pv 5) pa_nil)))))
      (pss_cons (ps_expr (pe_bm PySem.F.plainAttrs_list PySem.F.slot_list_append PySem.F.type_list_append mt_append (pv 2) (pa_cons (pe_callB call_len_seq (by rfl) T.len PySem.boot_len (pa_cons (pv 8) pa_nil)) pa_nil)))
      (pss_one (ps_expr (pe_bm PySem.F.plainAttrs_list PySem.F.slot_list_extend PySem.F.type_list_extend mt_extend (pv 2) (pa_cons (pv 8) pa_nil)))))))))))
    (pss_one (ps_ret (pv 2)))))), ?_⟩)
  · obtain ⟨a, l, rfl, _⟩ := h
    rfl
  · obtain ⟨a, l, rfl, hl, h60, hask, k⟩ := h
    unfold PyVasedz.answers_asked at hask
    cases hc : PyFlat.calls PyVasedz.shape l.length l with
    | none => rw [hc] at hask; cases hask
    | some raw =>
    rw [hc] at hask
    simp only [Bool.and_eq_true] at hask
    obtain ⟨⟨⟨⟨_, _⟩, _⟩, hasked⟩, hshort⟩ := hask
    have ew : raw.map PyVasedz.whole = raw := by
      conv => rhs; rw [← List.map_id raw]
      exact List.map_congr_left fun c _ => whole_is c
    rw [ew] at hasked
    have hall : ∀ c ∈ raw, VasedzNeutral.asked1 c = true := by
      unfold VasedzNeutral.asked at hasked
      rw [Bool.and_eq_true] at hasked
      exact List.all_eq_true.mp hasked.1
    have eans : PyVasedz.answers l = PyFlat.told (PyFlat.played VasedzNeutral.step VasedzNeutral.start raw) := by
      unfold PyVasedz.answers PyVasedz.calls
      rw [hc]
      show PyFlat.told (PyFlat.played _ _ (raw.map PyVasedz.whole)) = _
      rw [ew]
    have hlen : (PyVasedz.answers l).length ≤ 10000000 := of_decide_eq_true hshort
    have hfrom := calls_at l l.length 0 raw (Nat.zero_le _) (by rw [List.drop_zero]; exact hc)
    rw [eans] at hlen k
    generalize hT : PyFlat.told (PyFlat.played VasedzNeutral.step VasedzNeutral.start raw) = tot at hlen k
    -- the object, the list of what was answered
    refine fun ss dx nss ndx nds => ?_
    have eS : Ex H (upd (upd H dx (.own ss)) ss (.ins CS dx [])) := (Ex.new ndx).mut nss
    refine ⟨ss, dx, rfl, upd_same, fun H1 vl ul hS0 nvl nul b1 => ⟨rfl, ?_⟩⟩
    have e1 : Ex H H1 := b1.ex eS (by simpa using nss)
    have back : ∀ {c : Addr}, upd (upd H dx (.own ss)) ss (.ins CS dx []) c = none → H c = none := fun {c} hcn => fresh_back eS hcn
    refine ⟨Nat.zero_le _, fun D nD => ?_⟩
    have nDH : H D = none := fresh_back e1 nD
    have eD := Ex.new (o := .lst []) nD
    have nDs : D ∉ [ss, vl, ul] := by
      obtain ⟨dy, y1⟩ := hS0.ob
      obtain ⟨p1, y2, _⟩ := hS0.vs
      obtain ⟨p2, y3, _⟩ := hS0.us
      intro hm
      simp only [List.mem_cons, List.not_mem_nil, or_false] at hm
      rcases hm with hm | hm | hm
      · rw [hm, y1] at nD; cases nD
      · rw [hm, y2] at nD; cases nD
      · rw [hm, y3] at nD; cases nD
    have hS1 : SesAt CS CV [D] (upd H1 D (.lst [])) ss vl ul none := by
      have nf : ∀ c ∈ [ss, vl, ul, D], c ∈ [ss, vl, ul] ∨ H1 c = none := fun c hc => by
        simp only [List.mem_cons, List.not_mem_nil, or_false] at hc ⊢
        rcases hc with rfl | rfl | rfl | rfl
        · exact .inl (.inl rfl)
        · exact .inl (.inr (.inl rfl))
        · exact .inl (.inr (.inr rfl))
        · exact .inr nD
      obtain ⟨dy, y1⟩ := hS0.ob
      exact ⟨⟨dy, eD _ _ y1⟩, (hS0.vs.newF nf).ex eD, (hS0.us.newF nf).ex eD, hS0.ne, fun c hc => ⟨_, (congrArg (upd H1 D (.lst [])) (mem1 hc)).trans upd_same⟩⟩
    refine ⟨fun j σ H' => ∃ (at_ : Nat) (cs : List (List (List Int))) (done : List Int) (o : Option Held) (vl ul : Addr) (v4 v5 v6 v7 v8 : Option V), σ = [some (.ref a), some (.ref ss), some (.ref D), some (.int (at_ : Nat)), v4, v5, v6, v7, v8] ∧ at_ ≤ l.length ∧ j = l.length - at_ ∧ CallsFrom l at_ cs ∧
      (∀ c ∈ cs, VasedzNeutral.asked1 c = true) ∧ SesAt CS CV [D] H' ss vl ul o ∧ okHeld o ∧ H' D = some (.lst (done.map V.int)) ∧ D ∉ [ss, vl, ul] ∧ Ex H H' ∧ (∀ c ∈ [ss, vl, ul], H c = none) ∧ tot = done ++ PyFlat.told (PyFlat.played VasedzNeutral.step o cs),
      ⟨_, 0, raw, [], none, vl, ul, none, none, none, none, none, rfl, Nat.zero_le _, rfl, hfrom, hall, hS1, trivial, upd_same, nDs, e1.trans eD, ?_, hT.symm⟩, ?_⟩
    · intro c hcm
      simp only [List.mem_cons, List.not_mem_nil, or_false] at hcm
      rcases hcm with rfl | rfl | rfl
      · exact nss
      · exact back nvl
      · exact back nul
    · rintro j σ H2 ⟨at_, cs, done, o, vl, ul, v4, v5, v6, v7, v8, rfl, hat, rfl, hcs, hall, hS, hok, hD, hDn, ex, hnone, htot⟩
      have hl2 := ex_l ex hl
      refine ⟨_, rfl, _, rfl, a, _, rfl, .inl hl2, _, _, rfl, rfl, _, rfl, ?_⟩
      rw [List.length_map]
      cases cs with
      | nil =>
        have ea : at_ = l.length := hcs
        rw [decide_eq_false (show ¬ (at_ : Int) < (l.length : Nat) by omega)]
        refine iteF ⟨_, rfl, k H2 D ?_⟩
        rw [htot]
        show H2 D = some (.lst ((done ++ []).map V.int))
        rw [List.append_nil]
        exact hD
      | cons c cs =>
        obtain ⟨p, rows, a', ec, hp, p0, p9, hk, hrows, hlt, hle, hrest⟩ := hcs
        subst ec
        have hat' : at_ < l.length := (List.getElem?_eq_some_iff.mp hp).1
        rw [decide_eq_true (show (at_ : Int) < (l.length : Nat) by omega)]
        obtain ⟨hrb, cc, hcc⟩ := asked_call (hall _ List.mem_cons_self)
        have hst : VasedzNeutral.step o ([p] :: rows) = ((Vasedz.step o cc).1, VasedzNeutral.encode (Vasedz.step o cc).2) := by
          unfold VasedzNeutral.step
          rw [hcc]
        have hr2 := krows_le hk
        have hci := bytes_rows hrb hcc
        refine iteT ⟨fun σ' H' => ∃ m', m' < l.length - at_ ∧ ∃ (at_ : Nat) (cs : List (List (List Int))) (done : List Int) (o : Option Held) (vl ul : Addr) (v4 v5 v6 v7 v8 : Option V), σ' = [some (.ref a), some (.ref ss), some (.ref D), some (.int (at_ : Nat)), v4, v5, v6, v7, v8] ∧ at_ ≤ l.length ∧ m' = l.length - at_ ∧ CallsFrom l at_ cs ∧
          (∀ c ∈ cs, VasedzNeutral.asked1 c = true) ∧ SesAt CS CV [D] H' ss vl ul o ∧ okHeld o ∧ H' D = some (.lst (done.map V.int)) ∧ D ∉ [ss, vl, ul] ∧ Ex H H' ∧ (∀ c ∈ [ss, vl, ul], H c = none) ∧ tot = done ++ PyFlat.told (PyFlat.played VasedzNeutral.step o cs), fun _ _ z => z, ?_⟩
        refine ⟨_, rfl, _, rfl, a, _, _, _, rfl, rfl, hl2, atI_nat (int_get hp), ?_⟩
        refine ⟨_, rfl, _, _, rfl, rfl, ?_⟩
        refine ⟨Nat.zero_le _, fun R nR => ?_⟩
        have eR := Ex.new (o := .lst []) nR
        refine ⟨_, rfl, RW, _, _, .int (rows.length : Nat), rfl, rfl, T.s _, ?_, (rows.length : Nat), rfl, by omega, by omega, ?_⟩
        · have e : p = ((p.toNat : Nat) : Int) := (Int.toNat_of_nonneg p0).symm
          rw [e]
          exact atI_nat (int_get hk)
        · rw [Int.toNat_natCast]
          refine for_range (lo := 0) (n := rows.length) (fun i σ' H' => ∃ (at2 : Nat) (qs : List Addr) (v6 v7 : Option V), σ' = [some (.ref a), some (.ref ss), some (.ref D), some (.int (at2 : Nat)), some (.int p), some (.ref R), v6, v7, v8] ∧ RowsAt l at2 (rows.drop i) a' ∧ at2 ≤ l.length ∧ Ex H2 H' ∧ H' R = some (.lst (qs.map V.ref)) ∧ qs.length = i ∧
              ∀ (n : Nat) (q : Addr) (x : List Int), qs[n]? = some q → rows[n]? = some x → q ≠ R ∧ H' q = some (.lst (x.map V.int)))
            ⟨at_ + 1, [], v6, v7, ?_, hrows, hat', eR, upd_same, rfl, fun n q x hq => by simp at hq⟩ ?_ ?_
          · have e : ((at_ : Nat) : Int) + 1 = ((at_ + 1 : Nat) : Int) := by omega
            show [some (V.ref a), some (.ref ss), some (.ref D), some (.int ((at_ : Nat) + 1)), some (.int p), some (.ref R), v6, v7, v8] = _
            rw [e]
          · rintro i σ' H3 hi ⟨at2, qs, v6, v7, rfl, hra, hat2, e3, hR, hql, hqs⟩
            obtain ⟨x, hx⟩ : ∃ x, rows[i]? = some x := ⟨_, List.getElem?_eq_getElem hi⟩
            rw [drop_get hx] at hra
            obtain ⟨n, hn, hnl, rfl, hra⟩ := hra
            have hl3 := ex_l (ex.trans e3) hl
            have nRH : R ≠ a ∨ True := .inr trivial
            refine ⟨_, rfl, _, _, rfl, rfl, _, rfl, _, rfl, a, _, _, _, rfl, rfl, hl3, atI_nat (int_get hn), _, _, rfl, rfl, ?_⟩
            have eb : (((at2 : Nat) : Int) + 1 + (n : Nat)) = ((at2 + 1 + n : Nat) : Int) := by omega
            have ec : (((at2 : Nat) : Int) + 1) = ((at2 + 1 : Nat) : Int) := by omega
            refine ⟨_, rfl, .inl ⟨rfl, _, SqL.of hR⟩, _, rfl, _, rfl, _, _, rfl, rfl, _, rfl, _, rfl, _, rfl, a, _, rfl, hl3, fun q nq => ?_⟩
            rw [eb, ec, int_cut (by omega) (by omega)]
            have en : at2 + 1 + n - (at2 + 1) = n := by omega
            rw [en]
            have nqR : q ≠ R := fun e => by rw [e, hR] at nq; cases nq
            refine ⟨R, _, _, rfl, rfl, Ex.new nq _ _ hR, sizeLine_gt (by rw [List.length_map]; omega), ?_⟩
            refine ⟨_, rfl, at2 + 1 + n, qs ++ [q], _, _, rfl, hra, by omega, Ex.mut (e3.trans (Ex.new nq)) nR, ?_, by simp [hql], fun m q' x' hq' hx' => ?_⟩
            · rw [upd_same, List.map_append]
              rfl
            · by_cases hm : m < qs.length
              · rw [List.getElem?_append_left hm] at hq'
                obtain ⟨w1, w2⟩ := hqs m q' x' hq' hx'
                exact ⟨w1, by rw [upd_ne w1]; exact Ex.new nq _ _ w2⟩
              · rw [List.getElem?_append_right (by omega)] at hq'
                by_cases h0 : m - qs.length = 0
                · rw [h0] at hq'
                  cases hq'
                  have em : m = i := by omega
                  rw [em, hx] at hx'
                  cases hx'
                  exact ⟨nqR, by rw [upd_ne nqR]; exact upd_same⟩
                · rw [List.getElem?_eq_none (by simp; omega)] at hq'
                  cases hq'
          · rintro σ' H3 ⟨at2, qs, v6, v7, rfl, hra, hat2, e3, hR, hql, hqs⟩
            rw [List.drop_length] at hra
            have ea : a' = at2 := hra
            subst ea
            have hS3 := hS.ex e3
            have hRI : RowsIn H3 R (rows.map VasedzNeutral.bytesOf) := by
              refine ⟨qs, hR, by rw [List.length_map]; exact hql, fun i q b hq hb => ?_⟩
              rw [List.getElem?_map] at hb
              cases er : rows[i]? with
              | none => rw [er] at hb; cases hb
              | some x =>
                rw [er] at hb
                cases hb
                have q1 := (hqs i q x hq er).2
                rw [(ib_of_ints (hrb x (List.mem_of_getElem? er)).1).1] at q1
                exact q1
            refine ⟨_, rfl, _, rfl, _, rfl, [D], ss, vl, ul, R, p, rows.map VasedzNeutral.bytesOf, o, cc, rfl, hS3, hok, hRI, fun b hb => ?_, hci, fun H4 vl' ul' q hS4 m1 m2 b4 nq hq => ?_⟩
            · obtain ⟨r, hr', rfl⟩ := List.mem_map.mp hb
              have := (hrb r hr').2
              unfold VasedzNeutral.bytesOf
              rw [List.length_map]
              exact this
            · have hD3 := e3 D _ hD
              have hD4 : H4 D = some (.lst (done.map V.int)) := b4 D _ hD3 hDn
              have nD4 : D ∉ [ss, vl', ul'] := by
                simp only [List.mem_cons, List.not_mem_nil, or_false, not_or] at hDn ⊢ m1 m2
                refine ⟨hDn.1, fun e => ?_, fun e => ?_⟩
                · rcases m1 with (m | m) | m
                  · exact hDn.2.1 (e.trans m)
                  · exact hDn.2.2 (e.trans m)
                  · rw [← e, hD3] at m; cases m
                · rcases m2 with (m | m) | m
                  · exact hDn.2.1 (e.trans m)
                  · exact hDn.2.2 (e.trans m)
                  · rw [← e, hD3] at m; cases m
              have e4 : Ex H H4 := b4.ex (ex.trans e3) hnone
              have hqD : q ≠ D := fun e => by rw [e, hD3] at nq; cases nq
              generalize hans : VasedzNeutral.encode (Vasedz.step o cc).2 = ans at hst
              have hq : H4 q = some (.lst (ans.map V.int)) := by rw [← hans]; exact hq
              have hplay : PyFlat.told (PyFlat.played VasedzNeutral.step o (([p] :: rows) :: cs)) = ((ans.length : Int) :: ans) ++ PyFlat.told (PyFlat.played VasedzNeutral.step (Vasedz.step o cc).1 cs) := by
                show PyFlat.told ((VasedzNeutral.step o ([p] :: rows)).2 :: PyFlat.played VasedzNeutral.step (VasedzNeutral.step o ([p] :: rows)).1 cs) = _
                rw [hst]
                rfl
              rw [hplay] at htot
              have hsz : done.length + 1 + ans.length ≤ 10000000 := by
                have := congrArg List.length htot
                rw [List.length_append, List.length_append, List.length_cons] at this
                omega
              refine ⟨_, rfl, .inl ⟨rfl, _, SqL.of hD4⟩, _, rfl, q, _, rfl, .inl (SqL.of hq), ?_⟩
              rw [List.length_map]
              refine ⟨D, _, _, rfl, rfl, hD4, sizeLine_10 (by rw [List.length_map]; omega), ?_⟩
              refine ⟨_, rfl, .inl ⟨rfl, _, SqL.of upd_same⟩, _, rfl, D, q, _, _, rfl, rfl, upd_same, by rw [upd_ne hqD]; exact hq, Nat.le_of_lt (sizeLine_10 (by rw [List.length_append, List.length_map, List.length_map, List.length_singleton]; omega)), ?_⟩
              rw [upd_upd]
              refine ⟨l.length - a', by omega, a', cs, (done ++ [(ans.length : Int)]) ++ ans, (Vasedz.step o cc).1, vl', ul', _, _, _, _, _, rfl, hat2, rfl, hrest, fun c hc => hall c (List.mem_cons_of_mem _ hc), hS4.lst hD4 (by simp) nD4, kept o p _ cc hci hok, ?_, nD4, e4.mut nDH, fun c hc => ?_, ?_⟩
              · rw [upd_same, List.map_append, List.map_append]
                rfl
              · simp only [List.mem_cons, List.not_mem_nil, or_false] at hc
                rcases hc with rfl | rfl | rfl
                · exact hnone _ (by simp)
                · rcases m1 with m | m
                  · simp only [List.mem_cons, List.not_mem_nil, or_false] at m
                    rcases m with m | m
                    · rw [m]; exact hnone _ (by simp)
                    · rw [m]; exact hnone _ (by simp)
                  · exact fresh_back (ex.trans e3) m
                · rcases m2 with m | m
                  · simp only [List.mem_cons, List.not_mem_nil, or_false] at m
                    rcases m with m | m
                    · rw [m]; exact hnone _ (by simp)
                    · rw [m]; exact hnone _ (by simp)
                  · exact fresh_back (ex.trans e3) m
              · rw [htot, List.append_assoc, List.append_assoc]
                rfl
end LE

/-! LFa: tuples and dicts of the top, classes of errors, the statics. -/
namespace LE
open PySem PySem.Spec PyProof.Rows L2 Evl
variable {K : PySem.W.Frag} {H : Hp} {a : Addr}
def valOk : V → Value → Bool
  | .str x, .str y _ => decide (x.cps.toList = y.cps.toList)
  | .int i, .int j _ => decide (i = j)
  | _, _ => false
def valsOk : List V → List Value → Bool
  | [], [] => true
  | x :: xs, u :: us => valOk x u && valsOk xs us
  | _, _ => false
theorem val_rel {x : V} {u : Value} (h : valOk x u = true) : RelV x u := by
  unfold valOk at h
  split at h
  · rename_i x y t
    have e : x = y := by
      obtain ⟨⟨l⟩⟩ := x
      obtain ⟨⟨m⟩⟩ := y
      have q : l = m := of_decide_eq_true h
      rw [q]
    exact ⟨t, by rw [e]⟩
  · rename_i i j t
    have e : i = j := of_decide_eq_true h
    exact ⟨t, by rw [e]⟩
  · cases h
theorem vals_rel : ∀ {xs : List V} {us : List Value}, valsOk xs us = true → Vals xs us
  | [], [], _ => .nil
  | x :: xs, u :: us, h => by
    have h : (valOk x u && valsOk xs us) = true := h
    rw [Bool.and_eq_true] at h
    exact .cons (val_rel h.1) (vals_rel h.2)
  | [], _ :: _, h => by cases h
  | _ :: _, [], h => by cases h
def tupOk (xs : List V) (o : Obj) : Bool := match o.cls, o.data with
  | .type t, .seq its _ => decide (t = "tuple") && (decide (its.size ≤ 1000) && valsOk xs its.toList)
  | _, _ => false
theorem tup_sq {xs : List V} {o : Obj} (l : K.lookup a = some o) (h : tupOk xs o = true) : SqT K H a xs := by
  unfold tupOk at h
  split at h
  · rename_i t its n hc hd
    rw [Bool.and_eq_true, Bool.and_eq_true] at h
    exact .inr ⟨o, its, n, l, by rw [hc, of_decide_eq_true h.1], hd, sizeLine_ge (Nat.le_trans (of_decide_eq_true h.2.1) (by decide)), vals_rel h.2.2⟩
  · cases h
/-- a dict whose keys are texts -/
def dWords : List Str := ["delete", "before", "after", "change", "swap", "first", "keep", "bring", "trade", "skip", "stop"]
theorem dWords_is : dWords = wsD.map S := by decide +kernel
theorem lit_of {P : Params} : ∀ {es : List DictEntry} {ks : List Str}, es.map (·.hash) = ks.map (PyData.keyHash P) → valsOk (ks.map V.str) (es.map (·.key)) = true → PySem.W.KeysLit P es
  | [], _, _, _ => trivial
  | e :: es, [], h, _ => by cases h
  | e :: es, k :: ks, h, h2 => by
    obtain ⟨q1, q2⟩ := List.cons.inj h
    have h2 : (valOk (.str k) e.key && valsOk (ks.map V.str) (es.map (·.key))) = true := h2
    rw [Bool.and_eq_true] at h2
    obtain ⟨t, et⟩ := val_rel h2.1
    exact ⟨⟨k, t, et, q1⟩, lit_of q2 h2.2⟩
theorem dic_keys {es : Array DictEntry} {n : Nat} (l : K.lookup a = some ⟨.type "dict", none, .dict es n, #[]⟩) (h2 : valsOk (dWords.map V.str) (es.toList.map (·.key)) = true) (ns : (a == sysModules) = false) : KKeys K a (wsD.map fun w => V.str (S w)) := by
  have e : (wsD.map fun w => V.str (S w)) = dWords.map V.str := by
    rw [dWords_is, List.map_map]
    rfl
  rw [e]
  exact ⟨⟨es, n, l, vals_rel h2, by decide⟩, ns⟩
theorem dic_it {w : World} {es : Array DictEntry} {n : Nat} {T : Addr} {oT : Obj} {s : Str} {v : List UInt8} (l : K.lookup a = some ⟨.type "dict", none, .dict es n, #[]⟩) (h : es.toList.map (·.hash) = dWords.map (PyData.keyHash w.params)) (h2 : valsOk (dWords.map V.str) (es.toList.map (·.key)) = true)
    (hn : PySem.W.nsIn K a s = some (some (.ref T))) (hv : S v = s) (lT : K.lookup T = some oT) (hT : tupOk ((duesOf v).map fun d => V.str (dueS d)) oT = true) : ∃ T, KDct K w a (S v) (.ref T) ∧ ∀ H, SqT K H T ((duesOf v).map fun d => V.str (dueS d)) := by
  rw [hv]
  exact ⟨T, ⟨es, n, .ref T, l, lit_of h h2, hn, rfl⟩, fun H => tup_sq lT hT⟩
/-- an except clause against a class of the program's own -/
theorem exm_sub {A B : Addr} {b : Bool} (h1 : PySem.W.subIn K (.ref B) (.type "BaseException") = some true) (h2 : PySem.W.isClsIn K B = true) (h3 : PySem.W.typeIn K (.ref B) = some (.type "type")) (h4 : PySem.W.subIn K (.ref A) (.ref B) = some b) : PySem.W.exmOne K (.ref A) (.ref B) = some b := by
  unfold PySem.W.exmOne
  rw [h1]
  refine (if_pos rfl).trans ?_
  unfold PySem.W.kitCls
  have h2' : (PySem.W.clsIn K B).isSome = true := h2
  show (if ((PySem.W.clsIn K B).isSome && PySem.W.typeIn K (.ref B) == some (.type "type")) = true then PySem.W.subIn K (.ref A) (.ref B) else none) = some b
  rw [h2', h3]
  exact (if_pos rfl).trans h4
/-- no reader has booked a token -/
def stOk (es : List DictEntry) : Bool := es.all fun e => match e.key with
  | .str y _ => !decide (y.cps.toList = sharingNotToldKey.cps.toList)
  | _ => false
theorem nb_of {cl : Value} {d : Option Addr} {es : Array DictEntry} {n : Nat} {sl : Array (Option Value)} (l : K.lookup cStatics = some ⟨cl, d, .dict es n, sl⟩) (h : stOk es.toList = true) : ∀ g, K.In g → NoneBooked g := by
  intro g hg
  have hk : ∀ e ∈ es, ∃ y t, e.key = .str y t ∧ ¬ y = sharingNotToldKey := fun e he => by
    have q := List.all_eq_true.mp h e (Array.mem_toList_iff.mpr he)
    split at q
    · rename_i y t ek
      refine ⟨y, t, ek, fun e2 => ?_⟩
      rw [e2, decide_eq_true rfl] at q
      cases q
    · cases q
  refine ⟨nsFind es, ⟨_, es, n, hg _ _ l, rfl, fun e he => let ⟨y, t, e1, _⟩ := hk e he; ⟨y, t, e1⟩, fun _ => rfl⟩, ?_⟩
  unfold nsFind findBy
  rw [Option.map_eq_none_iff, Array.find?_eq_none]
  intro e he
  obtain ⟨y, t, e1, e2⟩ := hk e he
  rw [e1]
  intro z
  have z : (y == sharingNotToldKey) = true := z
  exact e2 (eq_of_beq z)
end LE

/-! LEnd: what the top has written, put together. -/
namespace LE
open PySem PySem.Spec PyProof.Rows L2 Evl
open VasedBase (isLetter isDigit RESERVED)
section
variable {P : Program} {w : World} {K : PySem.W.Frag} {mg : Str → Option Value} {base : Heap} {CX : CXT} {k : Nat} {f C : Addr} {fd : FuncData} {ps : List Str} {sp : Sp} {spn : NSp} {x q : Str} {st : Stmt}
theorem dnm (F : Fun K x q st f fd) (b : Binds K fd ps []) (G : FnOk P w K mg base CX k f fd ps sp) (g : mg x = some (.ref f)) : Dn P w K mg base CX k x sp ps.length := ⟨⟨f, fd, ps, G, g, F.kp, b, rfl⟩⟩
theorem dnN (F : Fun K x q st f fd) (b : Binds K fd ps []) (G : FnN P w K mg base CX k f fd ps spn) (g : mg x = some (.ref f)) : DnN P w K mg base CX k x spn := ⟨⟨f, fd, ps, G, g, F.kp, b⟩⟩
theorem mnm (F : Fun K x q st f fd) (b : Binds K fd ps []) (G : FnOk P w K mg base CX k f fd ps sp) (c : Cls K C) (m : Meth K C x f) : Mn P w K mg base CX k C x sp := ⟨⟨f, fd, ps, c, m, G, b⟩⟩
theorem mnN (F : Fun K x q st f fd) (b : Binds K fd ps []) (G : FnN P w K mg base CX k f fd ps spn) (c : Cls K C) (m : Meth K C x f) : MnN P w K mg base CX k C x spn := ⟨⟨f, fd, ps, c, m, G, b⟩⟩
theorem knm {y : Str} (F : Fun K y q st f fd) (b : Binds K fd ps []) (G : FnOk P w K mg base CX0 k f fd ps sp) (M : Mk K C f) (g : mg x = some (.ref C)) : Kn P w K mg base k x C sp := ⟨⟨f, fd, ps, M, G, g, b⟩⟩
end
theorem mk_all {P : Program} {w : World} {K : PySem.W.Frag} {h : Heap} {mg : Str → Option Value} {fa : Addr} (X : K.In h) (G : h.Ns mainGlobals mg) (hfa : mg "answers" = some (.ref fa))
  {f_is_letter : Addr}
  {oc1 : Value}
  {kV1 : Value}
  {dc1 : Value}
  {pm1 : Value}
  {cd1 : Value}
  {ct1 : Value}
  {od1 : Option Addr}
  {an1 : Option Addr}
  {sl1 : Array (Option Value)}
  {f_letters_of : Addr}
  {oc2 : Value}
  {kV2 : Value}
  {dc2 : Value}
  {pm2 : Value}
  {cd2 : Value}
  {ct2 : Value}
  {od2 : Option Addr}
  {an2 : Option Addr}
  {sl2 : Array (Option Value)}
  {f_bytes_of : Addr}
  {oc3 : Value}
  {kV3 : Value}
  {dc3 : Value}
  {pm3 : Value}
  {cd3 : Value}
  {ct3 : Value}
  {od3 : Option Addr}
  {an3 : Option Addr}
  {sl3 : Array (Option Value)}
  {f_lines_of : Addr}
  {oc4 : Value}
  {kV4 : Value}
  {dc4 : Value}
  {pm4 : Value}
  {cd4 : Value}
  {ct4 : Value}
  {od4 : Option Addr}
  {an4 : Option Addr}
  {sl4 : Array (Option Value)}
  {f_letters_told : Addr}
  {oc5 : Value}
  {kV5 : Value}
  {dc5 : Value}
  {pm5 : Value}
  {cd5 : Value}
  {ct5 : Value}
  {od5 : Option Addr}
  {an5 : Option Addr}
  {sl5 : Array (Option Value)}
  {f_told_as_bytes : Addr}
  {oc6 : Value}
  {kV6 : Value}
  {dc6 : Value}
  {pm6 : Value}
  {cd6 : Value}
  {ct6 : Value}
  {od6 : Option Addr}
  {an6 : Option Addr}
  {sl6 : Array (Option Value)}
  {f_run : Addr}
  {oc7 : Value}
  {kV7 : Value}
  {dc7 : Value}
  {pm7 : Value}
  {cd7 : Value}
  {ct7 : Value}
  {od7 : Option Addr}
  {an7 : Option Addr}
  {sl7 : Array (Option Value)}
  {f_result_of : Addr}
  {oc8 : Value}
  {kV8 : Value}
  {dc8 : Value}
  {pm8 : Value}
  {cd8 : Value}
  {ct8 : Value}
  {od8 : Option Addr}
  {an8 : Option Addr}
  {sl8 : Array (Option Value)}
  {f_outcome_of : Addr}
  {oc9 : Value}
  {kV9 : Value}
  {dc9 : Value}
  {pm9 : Value}
  {cd9 : Value}
  {ct9 : Value}
  {od9 : Option Addr}
  {an9 : Option Addr}
  {sl9 : Array (Option Value)}
  {f_go_through : Addr}
  {oc10 : Value}
  {kV10 : Value}
  {dc10 : Value}
  {pm10 : Value}
  {cd10 : Value}
  {ct10 : Value}
  {od10 : Option Addr}
  {an10 : Option Addr}
  {sl10 : Array (Option Value)}
  {f_holds : Addr}
  {oc11 : Value}
  {kV11 : Value}
  {dc11 : Value}
  {pm11 : Value}
  {cd11 : Value}
  {ct11 : Value}
  {od11 : Option Addr}
  {an11 : Option Addr}
  {sl11 : Array (Option Value)}
  {f_do : Addr}
  {oc12 : Value}
  {kV12 : Value}
  {dc12 : Value}
  {pm12 : Value}
  {cd12 : Value}
  {ct12 : Value}
  {od12 : Option Addr}
  {an12 : Option Addr}
  {sl12 : Array (Option Value)}
  {f_not_too_long : Addr}
  {oc13 : Value}
  {kV13 : Value}
  {dc13 : Value}
  {pm13 : Value}
  {cd13 : Value}
  {ct13 : Value}
  {od13 : Option Addr}
  {an13 : Option Addr}
  {sl13 : Array (Option Value)}
  {f_tokens_of : Addr}
  {oc14 : Value}
  {kV14 : Value}
  {dc14 : Value}
  {pm14 : Value}
  {cd14 : Value}
  {ct14 : Value}
  {od14 : Option Addr}
  {an14 : Option Addr}
  {sl14 : Array (Option Value)}
  {f_behind_blanks : Addr}
  {oc15 : Value}
  {kV15 : Value}
  {dc15 : Value}
  {pm15 : Value}
  {cd15 : Value}
  {ct15 : Value}
  {od15 : Option Addr}
  {an15 : Option Addr}
  {sl15 : Array (Option Value)}
  {f_token_at : Addr}
  {oc16 : Value}
  {kV16 : Value}
  {dc16 : Value}
  {pm16 : Value}
  {cd16 : Value}
  {ct16 : Value}
  {od16 : Option Addr}
  {an16 : Option Addr}
  {sl16 : Array (Option Value)}
  {f_is_digit : Addr}
  {oc17 : Value}
  {kV17 : Value}
  {dc17 : Value}
  {pm17 : Value}
  {cd17 : Value}
  {ct17 : Value}
  {od17 : Option Addr}
  {an17 : Option Addr}
  {sl17 : Array (Option Value)}
  {f_behind_all : Addr}
  {oc18 : Value}
  {kV18 : Value}
  {dc18 : Value}
  {pm18 : Value}
  {cd18 : Value}
  {ct18 : Value}
  {od18 : Option Addr}
  {an18 : Option Addr}
  {sl18 : Array (Option Value)}
  {f_word_at : Addr}
  {oc19 : Value}
  {kV19 : Value}
  {dc19 : Value}
  {pm19 : Value}
  {cd19 : Value}
  {ct19 : Value}
  {od19 : Option Addr}
  {an19 : Option Addr}
  {sl19 : Array (Option Value)}
  {f_number_at : Addr}
  {oc20 : Value}
  {kV20 : Value}
  {dc20 : Value}
  {pm20 : Value}
  {cd20 : Value}
  {ct20 : Value}
  {od20 : Option Addr}
  {an20 : Option Addr}
  {sl20 : Array (Option Value)}
  {f_commands_of : Addr}
  {oc21 : Value}
  {kV21 : Value}
  {dc21 : Value}
  {pm21 : Value}
  {cd21 : Value}
  {ct21 : Value}
  {od21 : Option Addr}
  {an21 : Option Addr}
  {sl21 : Array (Option Value)}
  {f_read_command : Addr}
  {oc22 : Value}
  {kV22 : Value}
  {dc22 : Value}
  {pm22 : Value}
  {cd22 : Value}
  {ct22 : Value}
  {od22 : Option Addr}
  {an22 : Option Addr}
  {sl22 : Array (Option Value)}
  {f_read_nots : Addr}
  {oc23 : Value}
  {kV23 : Value}
  {dc23 : Value}
  {pm23 : Value}
  {cd23 : Value}
  {ct23 : Value}
  {od23 : Option Addr}
  {an23 : Option Addr}
  {sl23 : Array (Option Value)}
  {f_read_address : Addr}
  {oc24 : Value}
  {kV24 : Value}
  {dc24 : Value}
  {pm24 : Value}
  {cd24 : Value}
  {ct24 : Value}
  {od24 : Option Addr}
  {an24 : Option Addr}
  {sl24 : Array (Option Value)}
  {f_read_deed : Addr}
  {oc25 : Value}
  {kV25 : Value}
  {dc25 : Value}
  {pm25 : Value}
  {cd25 : Value}
  {ct25 : Value}
  {od25 : Option Addr}
  {an25 : Option Addr}
  {sl25 : Array (Option Value)}
  {f_read_due : Addr}
  {oc26 : Value}
  {kV26 : Value}
  {dc26 : Value}
  {pm26 : Value}
  {cd26 : Value}
  {ct26 : Value}
  {od26 : Option Addr}
  {an26 : Option Addr}
  {sl26 : Array (Option Value)}
  {f_patch_cost : Addr}
  {oc27 : Value}
  {kV27 : Value}
  {dc27 : Value}
  {pm27 : Value}
  {cd27 : Value}
  {ct27 : Value}
  {od27 : Option Addr}
  {an27 : Option Addr}
  {sl27 : Array (Option Value)}
  {f_how_many_in_common : Addr}
  {oc28 : Value}
  {kV28 : Value}
  {dc28 : Value}
  {pm28 : Value}
  {cd28 : Value}
  {ct28 : Value}
  {od28 : Option Addr}
  {an28 : Option Addr}
  {sl28 : Array (Option Value)}
  {f_first_version : Addr}
  {oc29 : Value}
  {kV29 : Value}
  {dc29 : Value}
  {pm29 : Value}
  {cd29 : Value}
  {ct29 : Value}
  {od29 : Option Addr}
  {an29 : Option Addr}
  {sl29 : Array (Option Value)}
  {f_version_behind : Addr}
  {oc30 : Value}
  {kV30 : Value}
  {dc30 : Value}
  {pm30 : Value}
  {cd30 : Value}
  {ct30 : Value}
  {od30 : Option Addr}
  {an30 : Option Addr}
  {sl30 : Array (Option Value)}
  {f_origins_coming : Addr}
  {oc31 : Value}
  {kV31 : Value}
  {dc31 : Value}
  {pm31 : Value}
  {cd31 : Value}
  {ct31 : Value}
  {od31 : Option Addr}
  {an31 : Option Addr}
  {sl31 : Array (Option Value)}
  {f_effect_of : Addr}
  {oc32 : Value}
  {kV32 : Value}
  {dc32 : Value}
  {pm32 : Value}
  {cd32 : Value}
  {ct32 : Value}
  {od32 : Option Addr}
  {an32 : Option Addr}
  {sl32 : Array (Option Value)}
  {f_is_guarded : Addr}
  {oc33 : Value}
  {kV33 : Value}
  {dc33 : Value}
  {pm33 : Value}
  {cd33 : Value}
  {ct33 : Value}
  {od33 : Option Addr}
  {an33 : Option Addr}
  {sl33 : Array (Option Value)}
  {f_first_harmed : Addr}
  {oc34 : Value}
  {kV34 : Value}
  {dc34 : Value}
  {pm34 : Value}
  {cd34 : Value}
  {ct34 : Value}
  {od34 : Option Addr}
  {an34 : Option Addr}
  {sl34 : Array (Option Value)}
  {f_answers : Addr}
  {oc35 : Value}
  {kV35 : Value}
  {dc35 : Value}
  {pm35 : Value}
  {cd35 : Value}
  {ct35 : Value}
  {od35 : Option Addr}
  {an35 : Option Addr}
  {sl35 : Array (Option Value)}
  {f_answer_or_refusal : Addr}
  {oc36 : Value}
  {kV36 : Value}
  {dc36 : Value}
  {pm36 : Value}
  {cd36 : Value}
  {ct36 : Value}
  {od36 : Option Addr}
  {an36 : Option Addr}
  {sl36 : Array (Option Value)}
  {f_answer_of : Addr}
  {oc37 : Value}
  {kV37 : Value}
  {dc37 : Value}
  {pm37 : Value}
  {cd37 : Value}
  {ct37 : Value}
  {od37 : Option Addr}
  {an37 : Option Addr}
  {sl37 : Array (Option Value)}
  {CT : Addr}
  {f_CT___init__ : Addr}
  {oc38 : Value}
  {kV38 : Value}
  {dc38 : Value}
  {pm38 : Value}
  {cd38 : Value}
  {ct38 : Value}
  {od38 : Option Addr}
  {an38 : Option Addr}
  {sl38 : Array (Option Value)}
  {CR : Addr}
  {f_CR___init__ : Addr}
  {oc39 : Value}
  {kV39 : Value}
  {dc39 : Value}
  {pm39 : Value}
  {cd39 : Value}
  {ct39 : Value}
  {od39 : Option Addr}
  {an39 : Option Addr}
  {sl39 : Array (Option Value)}
  {f_CR_here : Addr}
  {oc40 : Value}
  {kV40 : Value}
  {dc40 : Value}
  {pm40 : Value}
  {cd40 : Value}
  {ct40 : Value}
  {od40 : Option Addr}
  {an40 : Option Addr}
  {sl40 : Array (Option Value)}
  {f_CR_stands : Addr}
  {oc41 : Value}
  {kV41 : Value}
  {dc41 : Value}
  {pm41 : Value}
  {cd41 : Value}
  {ct41 : Value}
  {od41 : Option Addr}
  {an41 : Option Addr}
  {sl41 : Array (Option Value)}
  {f_CR_refuse : Addr}
  {oc42 : Value}
  {kV42 : Value}
  {dc42 : Value}
  {pm42 : Value}
  {cd42 : Value}
  {ct42 : Value}
  {od42 : Option Addr}
  {an42 : Option Addr}
  {sl42 : Array (Option Value)}
  {f_CR_take : Addr}
  {oc43 : Value}
  {kV43 : Value}
  {dc43 : Value}
  {pm43 : Value}
  {cd43 : Value}
  {ct43 : Value}
  {od43 : Option Addr}
  {an43 : Option Addr}
  {sl43 : Array (Option Value)}
  {f_CR_take_own : Addr}
  {oc44 : Value}
  {kV44 : Value}
  {dc44 : Value}
  {pm44 : Value}
  {cd44 : Value}
  {ct44 : Value}
  {od44 : Option Addr}
  {an44 : Option Addr}
  {sl44 : Array (Option Value)}
  {f_CR_take_one_of : Addr}
  {oc45 : Value}
  {kV45 : Value}
  {dc45 : Value}
  {pm45 : Value}
  {cd45 : Value}
  {ct45 : Value}
  {od45 : Option Addr}
  {an45 : Option Addr}
  {sl45 : Array (Option Value)}
  {f_CR_take_letters : Addr}
  {oc46 : Value}
  {kV46 : Value}
  {dc46 : Value}
  {pm46 : Value}
  {cd46 : Value}
  {ct46 : Value}
  {od46 : Option Addr}
  {an46 : Option Addr}
  {sl46 : Array (Option Value)}
  {f_CR_take_number : Addr}
  {oc47 : Value}
  {kV47 : Value}
  {dc47 : Value}
  {pm47 : Value}
  {cd47 : Value}
  {ct47 : Value}
  {od47 : Option Addr}
  {an47 : Option Addr}
  {sl47 : Array (Option Value)}
  {CC : Addr}
  {f_CC___init__ : Addr}
  {oc48 : Value}
  {kV48 : Value}
  {dc48 : Value}
  {pm48 : Value}
  {cd48 : Value}
  {ct48 : Value}
  {od48 : Option Addr}
  {an48 : Option Addr}
  {sl48 : Array (Option Value)}
  {CP : Addr}
  {f_CP___init__ : Addr}
  {oc49 : Value}
  {kV49 : Value}
  {dc49 : Value}
  {pm49 : Value}
  {cd49 : Value}
  {ct49 : Value}
  {od49 : Option Addr}
  {an49 : Option Addr}
  {sl49 : Array (Option Value)}
  {f_CP_is_as_found : Addr}
  {oc50 : Value}
  {kV50 : Value}
  {dc50 : Value}
  {pm50 : Value}
  {cd50 : Value}
  {ct50 : Value}
  {od50 : Option Addr}
  {an50 : Option Addr}
  {sl50 : Array (Option Value)}
  {f_CP_is_changed : Addr}
  {oc51 : Value}
  {kV51 : Value}
  {dc51 : Value}
  {pm51 : Value}
  {cd51 : Value}
  {ct51 : Value}
  {od51 : Option Addr}
  {an51 : Option Addr}
  {sl51 : Array (Option Value)}
  {f_CP_lines_coming : Addr}
  {oc52 : Value}
  {kV52 : Value}
  {dc52 : Value}
  {pm52 : Value}
  {cd52 : Value}
  {ct52 : Value}
  {od52 : Option Addr}
  {an52 : Option Addr}
  {sl52 : Array (Option Value)}
  {CV : Addr}
  {f_CV___init__ : Addr}
  {oc53 : Value}
  {kV53 : Value}
  {dc53 : Value}
  {pm53 : Value}
  {cd53 : Value}
  {ct53 : Value}
  {od53 : Option Addr}
  {an53 : Option Addr}
  {sl53 : Array (Option Value)}
  {CS : Addr}
  {f_CS___init__ : Addr}
  {oc54 : Value}
  {kV54 : Value}
  {dc54 : Value}
  {pm54 : Value}
  {cd54 : Value}
  {ct54 : Value}
  {od54 : Option Addr}
  {an54 : Option Addr}
  {sl54 : Array (Option Value)}
  {f_CS_has_text : Addr}
  {oc55 : Value}
  {kV55 : Value}
  {dc55 : Value}
  {pm55 : Value}
  {cd55 : Value}
  {ct55 : Value}
  {od55 : Option Addr}
  {an55 : Option Addr}
  {sl55 : Array (Option Value)}
  {f_CS_now : Addr}
  {oc56 : Value}
  {kV56 : Value}
  {dc56 : Value}
  {pm56 : Value}
  {cd56 : Value}
  {ct56 : Value}
  {od56 : Option Addr}
  {an56 : Option Addr}
  {sl56 : Array (Option Value)}
  {f_CS_how_many_steps : Addr}
  {oc57 : Value}
  {kV57 : Value}
  {dc57 : Value}
  {pm57 : Value}
  {cd57 : Value}
  {ct57 : Value}
  {od57 : Option Addr}
  {an57 : Option Addr}
  {sl57 : Array (Option Value)}
  {f_CS_load : Addr}
  {oc58 : Value}
  {kV58 : Value}
  {dc58 : Value}
  {pm58 : Value}
  {cd58 : Value}
  {ct58 : Value}
  {od58 : Option Addr}
  {an58 : Option Addr}
  {sl58 : Array (Option Value)}
  {f_CS_apply : Addr}
  {oc59 : Value}
  {kV59 : Value}
  {dc59 : Value}
  {pm59 : Value}
  {cd59 : Value}
  {ct59 : Value}
  {od59 : Option Addr}
  {an59 : Option Addr}
  {sl59 : Array (Option Value)}
  {f_CS_dry : Addr}
  {oc60 : Value}
  {kV60 : Value}
  {dc60 : Value}
  {pm60 : Value}
  {cd60 : Value}
  {ct60 : Value}
  {od60 : Option Addr}
  {an60 : Option Addr}
  {sl60 : Array (Option Value)}
  {f_CS_attempt : Addr}
  {oc61 : Value}
  {kV61 : Value}
  {dc61 : Value}
  {pm61 : Value}
  {cd61 : Value}
  {ct61 : Value}
  {od61 : Option Addr}
  {an61 : Option Addr}
  {sl61 : Array (Option Value)}
  {f_CS_undo : Addr}
  {oc62 : Value}
  {kV62 : Value}
  {dc62 : Value}
  {pm62 : Value}
  {cd62 : Value}
  {ct62 : Value}
  {od62 : Option Addr}
  {an62 : Option Addr}
  {sl62 : Array (Option Value)}
  {f_CS_redo : Addr}
  {oc63 : Value}
  {kV63 : Value}
  {dc63 : Value}
  {pm63 : Value}
  {cd63 : Value}
  {ct63 : Value}
  {od63 : Option Addr}
  {an63 : Option Addr}
  {sl63 : Array (Option Value)}
  {f_CS_where_it_stands : Addr}
  {oc64 : Value}
  {kV64 : Value}
  {dc64 : Value}
  {pm64 : Value}
  {cd64 : Value}
  {ct64 : Value}
  {od64 : Option Addr}
  {an64 : Option Addr}
  {sl64 : Array (Option Value)}
  {f_CS_shown : Addr}
  {oc65 : Value}
  {kV65 : Value}
  {dc65 : Value}
  {pm65 : Value}
  {cd65 : Value}
  {ct65 : Value}
  {od65 : Option Addr}
  {an65 : Option Addr}
  {sl65 : Array (Option Value)}
  {f_CS_origins_now : Addr}
  {oc66 : Value}
  {kV66 : Value}
  {dc66 : Value}
  {pm66 : Value}
  {cd66 : Value}
  {ct66 : Value}
  {od66 : Option Addr}
  {an66 : Option Addr}
  {sl66 : Array (Option Value)}
  {f_CS_same : Addr}
  {oc67 : Value}
  {kV67 : Value}
  {dc67 : Value}
  {pm67 : Value}
  {cd67 : Value}
  {ct67 : Value}
  {od67 : Option Addr}
  {an67 : Option Addr}
  {sl67 : Array (Option Value)}
  {f_CS_guard : Addr}
  {oc68 : Value}
  {kV68 : Value}
  {dc68 : Value}
  {pm68 : Value}
  {cd68 : Value}
  {ct68 : Value}
  {od68 : Option Addr}
  {an68 : Option Addr}
  {sl68 : Array (Option Value)}
  {f_CS_history : Addr}
  {oc69 : Value}
  {kV69 : Value}
  {dc69 : Value}
  {pm69 : Value}
  {cd69 : Value}
  {ct69 : Value}
  {od69 : Option Addr}
  {an69 : Option Addr}
  {sl69 : Array (Option Value)}
  {CTr : Addr}
  {f_CTr___init__ : Addr}
  {oc70 : Value}
  {kV70 : Value}
  {dc70 : Value}
  {pm70 : Value}
  {cd70 : Value}
  {ct70 : Value}
  {od70 : Option Addr}
  {an70 : Option Addr}
  {sl70 : Array (Option Value)}
  {NT : Addr}
  {NS : Addr}
  {NR : Addr}
  {RM : Addr}
  {TM : Addr}
  {HG : Addr}
  {CF : Addr}
  {nm_ : Str}
  {q_ : Str}
  {N_ : Addr}
  {bs_ : List Value}
  {sn_ : List Str}
  {sub_ : List Value}
  {ab_ : Bool}
  {col_ : Option Bool}
  {dd_ : Option Addr}
  {k0_ : Option Value}
  {k1_ : Option Value}
  {k2_ : Option Value}
  {k3_ : Option Value}
  {k5_ : Option Value}
  {f_CF___init__ : Addr}
  {oc71 : Value}
  {kV71 : Value}
  {dc71 : Value}
  {pm71 : Value}
  {cd71 : Value}
  {ct71 : Value}
  {od71 : Option Addr}
  {an71 : Option Addr}
  {sl71 : Array (Option Value)}
  {t_BYTE_OF_A : Tok}
  {t_LINE_FEED : Tok}
  {t_DIGIT_ZERO : Tok}
  {t_DIGIT_NINE : Tok}
  {t_REMARK : Tok}
  {t_BLANK : Tok}
  {t_TAB : Tok}
  {t_SEMICOLON : Tok}
  {t_MOST_LETTERS_tokens : Tok}
  {t_MOST_DIGITS : Tok}
  {t_GREATEST_NUMBER : Tok}
  {t_NO_TOKEN : Tok}
  {t_NOT_ALLOWED : Tok}
  {t_OUT_OF_BOUNDS : Tok}
  {t_MOST_NOTS : Tok}
  {t_TOO_MANY : Tok}
  {t_GREATEST_LINE : Tok}
  {t_GREATEST_SKIP : Tok}
  {t_MOST_BYTES : Tok}
  {t_MOST_COMMANDS : Tok}
  {t_TOO_LONG : Tok}
  {t_MOST_LETTERS_texts : Tok}
  {t_MOST_LINES : Tok}
  {t_MOST_LINES_COMING : Tok}
  {t_MOST_STEPS : Tok}
  {t_LOAD : Tok}
  {t_APPLY : Tok}
  {t_DRY : Tok}
  {t_UNDO : Tok}
  {t_REDO : Tok}
  {t_SHOWN : Tok}
  {t_ORIGINS : Tok}
  {t_SAME : Tok}
  {t_GUARD : Tok}
  {t_HISTORY : Tok}
  {t_ALPHABET : Tok}
  {t_OWN : Tok}
  {t_LETTERS : Tok}
  {t_NUMBER : Tok}
  {t_SIGN : Tok}
  {t_END : Tok}
  {t_LETTERS_OR_NONE : Tok}
  {WO : Addr}
  {oWO : Obj}
  {AD : Addr}
  {oAD : Obj}
  {RW : Addr}
  {oRW : Obj}
  {DA : Addr}
  {esDA : Array DictEntry}
  {nDA : Nat}
  {clS : Value}
  {dS : Option Addr}
  {esS : Array DictEntry}
  {nS : Nat}
  {slS : Array (Option Value)}
  {T_delete : Addr}
  {oT_delete : Obj}
  {T_before : Addr}
  {oT_before : Obj}
  {T_after : Addr}
  {oT_after : Obj}
  {T_change : Addr}
  {oT_change : Obj}
  {T_swap : Addr}
  {oT_swap : Obj}
  {T_first : Addr}
  {oT_first : Obj}
  {T_keep : Addr}
  {oT_keep : Obj}
  {T_bring : Addr}
  {oT_bring : Obj}
  {T_trade : Addr}
  {oT_trade : Obj}
  {T_skip : Addr}
  {oT_skip : Obj}
  {T_stop : Addr}
  {oT_stop : Obj}
  (a_is_letter : PySem.W.nsIn K mainGlobals "is_letter" = some (some (.ref f_is_letter)))
  (l_is_letter : K.lookup f_is_letter = some ⟨oc1, od1, .func (PySem.W.fnOf "is_letter" "is_letter" (defArgs sIsLetter) (defBody sIsLetter) (defScope sIsLetter) .none kV1 dc1 pm1 an1 cd1 ct1), sl1⟩)
  (c_is_letter : PySem.W.codeIn K cd1 "is_letter" = true)
  (k_is_letter : PySem.W.keepIn K (.ref f_is_letter) = true)
  (a_letters_of : PySem.W.nsIn K mainGlobals "letters_of" = some (some (.ref f_letters_of)))
  (l_letters_of : K.lookup f_letters_of = some ⟨oc2, od2, .func (PySem.W.fnOf "letters_of" "letters_of" (defArgs sLettersOf) (defBody sLettersOf) (defScope sLettersOf) .none kV2 dc2 pm2 an2 cd2 ct2), sl2⟩)
  (c_letters_of : PySem.W.codeIn K cd2 "letters_of" = true)
  (k_letters_of : PySem.W.keepIn K (.ref f_letters_of) = true)
  (a_bytes_of : PySem.W.nsIn K mainGlobals "bytes_of" = some (some (.ref f_bytes_of)))
  (l_bytes_of : K.lookup f_bytes_of = some ⟨oc3, od3, .func (PySem.W.fnOf "bytes_of" "bytes_of" (defArgs sBytesOf) (defBody sBytesOf) (defScope sBytesOf) .none kV3 dc3 pm3 an3 cd3 ct3), sl3⟩)
  (c_bytes_of : PySem.W.codeIn K cd3 "bytes_of" = true)
  (k_bytes_of : PySem.W.keepIn K (.ref f_bytes_of) = true)
  (a_lines_of : PySem.W.nsIn K mainGlobals "lines_of" = some (some (.ref f_lines_of)))
  (l_lines_of : K.lookup f_lines_of = some ⟨oc4, od4, .func (PySem.W.fnOf "lines_of" "lines_of" (defArgs sLinesOf) (defBody sLinesOf) (defScope sLinesOf) .none kV4 dc4 pm4 an4 cd4 ct4), sl4⟩)
  (c_lines_of : PySem.W.codeIn K cd4 "lines_of" = true)
  (k_lines_of : PySem.W.keepIn K (.ref f_lines_of) = true)
  (a_letters_told : PySem.W.nsIn K mainGlobals "letters_told" = some (some (.ref f_letters_told)))
  (l_letters_told : K.lookup f_letters_told = some ⟨oc5, od5, .func (PySem.W.fnOf "letters_told" "letters_told" (defArgs sLineOf) (defBody sLineOf) (defScope sLineOf) .none kV5 dc5 pm5 an5 cd5 ct5), sl5⟩)
  (c_letters_told : PySem.W.codeIn K cd5 "letters_told" = true)
  (k_letters_told : PySem.W.keepIn K (.ref f_letters_told) = true)
  (a_told_as_bytes : PySem.W.nsIn K mainGlobals "told_as_bytes" = some (some (.ref f_told_as_bytes)))
  (l_told_as_bytes : K.lookup f_told_as_bytes = some ⟨oc6, od6, .func (PySem.W.fnOf "told_as_bytes" "told_as_bytes" (defArgs sTold) (defBody sTold) (defScope sTold) .none kV6 dc6 pm6 an6 cd6 ct6), sl6⟩)
  (c_told_as_bytes : PySem.W.codeIn K cd6 "told_as_bytes" = true)
  (k_told_as_bytes : PySem.W.keepIn K (.ref f_told_as_bytes) = true)
  (a_run : PySem.W.nsIn K mainGlobals "run" = some (some (.ref f_run)))
  (l_run : K.lookup f_run = some ⟨oc7, od7, .func (PySem.W.fnOf "run" "run" (defArgs sRun) (defBody sRun) (defScope sRun) .none kV7 dc7 pm7 an7 cd7 ct7), sl7⟩)
  (c_run : PySem.W.codeIn K cd7 "run" = true)
  (k_run : PySem.W.keepIn K (.ref f_run) = true)
  (a_result_of : PySem.W.nsIn K mainGlobals "result_of" = some (some (.ref f_result_of)))
  (l_result_of : K.lookup f_result_of = some ⟨oc8, od8, .func (PySem.W.fnOf "result_of" "result_of" (defArgs sResult) (defBody sResult) (defScope sResult) .none kV8 dc8 pm8 an8 cd8 ct8), sl8⟩)
  (c_result_of : PySem.W.codeIn K cd8 "result_of" = true)
  (k_result_of : PySem.W.keepIn K (.ref f_result_of) = true)
  (a_outcome_of : PySem.W.nsIn K mainGlobals "outcome_of" = some (some (.ref f_outcome_of)))
  (l_outcome_of : K.lookup f_outcome_of = some ⟨oc9, od9, .func (PySem.W.fnOf "outcome_of" "outcome_of" (defArgs sOut) (defBody sOut) (defScope sOut) .none kV9 dc9 pm9 an9 cd9 ct9), sl9⟩)
  (c_outcome_of : PySem.W.codeIn K cd9 "outcome_of" = true)
  (k_outcome_of : PySem.W.keepIn K (.ref f_outcome_of) = true)
  (a_go_through : PySem.W.nsIn K mainGlobals "go_through" = some (some (.ref f_go_through)))
  (l_go_through : K.lookup f_go_through = some ⟨oc10, od10, .func (PySem.W.fnOf "go_through" "go_through" (defArgs sGo) (defBody sGo) (defScope sGo) .none kV10 dc10 pm10 an10 cd10 ct10), sl10⟩)
  (c_go_through : PySem.W.codeIn K cd10 "go_through" = true)
  (k_go_through : PySem.W.keepIn K (.ref f_go_through) = true)
  (a_holds : PySem.W.nsIn K mainGlobals "holds" = some (some (.ref f_holds)))
  (l_holds : K.lookup f_holds = some ⟨oc11, od11, .func (PySem.W.fnOf "holds" "holds" (defArgs sHolds) (defBody sHolds) (defScope sHolds) .none kV11 dc11 pm11 an11 cd11 ct11), sl11⟩)
  (c_holds : PySem.W.codeIn K cd11 "holds" = true)
  (k_holds : PySem.W.keepIn K (.ref f_holds) = true)
  (a_do : PySem.W.nsIn K mainGlobals "do" = some (some (.ref f_do)))
  (l_do : K.lookup f_do = some ⟨oc12, od12, .func (PySem.W.fnOf "do" "do" (defArgs sDo) (defBody sDo) (defScope sDo) .none kV12 dc12 pm12 an12 cd12 ct12), sl12⟩)
  (c_do : PySem.W.codeIn K cd12 "do" = true)
  (k_do : PySem.W.keepIn K (.ref f_do) = true)
  (a_not_too_long : PySem.W.nsIn K mainGlobals "not_too_long" = some (some (.ref f_not_too_long)))
  (l_not_too_long : K.lookup f_not_too_long = some ⟨oc13, od13, .func (PySem.W.fnOf "not_too_long" "not_too_long" (defArgs sNotLong) (defBody sNotLong) (defScope sNotLong) .none kV13 dc13 pm13 an13 cd13 ct13), sl13⟩)
  (c_not_too_long : PySem.W.codeIn K cd13 "not_too_long" = true)
  (k_not_too_long : PySem.W.keepIn K (.ref f_not_too_long) = true)
  (a_tokens_of : PySem.W.nsIn K mainGlobals "tokens_of" = some (some (.ref f_tokens_of)))
  (l_tokens_of : K.lookup f_tokens_of = some ⟨oc14, od14, .func (PySem.W.fnOf "tokens_of" "tokens_of" (defArgs sTokensOf) (defBody sTokensOf) (defScope sTokensOf) .none kV14 dc14 pm14 an14 cd14 ct14), sl14⟩)
  (c_tokens_of : PySem.W.codeIn K cd14 "tokens_of" = true)
  (k_tokens_of : PySem.W.keepIn K (.ref f_tokens_of) = true)
  (a_behind_blanks : PySem.W.nsIn K mainGlobals "behind_blanks" = some (some (.ref f_behind_blanks)))
  (l_behind_blanks : K.lookup f_behind_blanks = some ⟨oc15, od15, .func (PySem.W.fnOf "behind_blanks" "behind_blanks" (defArgs sBlanks) (defBody sBlanks) (defScope sBlanks) .none kV15 dc15 pm15 an15 cd15 ct15), sl15⟩)
  (c_behind_blanks : PySem.W.codeIn K cd15 "behind_blanks" = true)
  (k_behind_blanks : PySem.W.keepIn K (.ref f_behind_blanks) = true)
  (a_token_at : PySem.W.nsIn K mainGlobals "token_at" = some (some (.ref f_token_at)))
  (l_token_at : K.lookup f_token_at = some ⟨oc16, od16, .func (PySem.W.fnOf "token_at" "token_at" (defArgs sTokenAt) (defBody sTokenAt) (defScope sTokenAt) .none kV16 dc16 pm16 an16 cd16 ct16), sl16⟩)
  (c_token_at : PySem.W.codeIn K cd16 "token_at" = true)
  (k_token_at : PySem.W.keepIn K (.ref f_token_at) = true)
  (a_is_digit : PySem.W.nsIn K mainGlobals "is_digit" = some (some (.ref f_is_digit)))
  (l_is_digit : K.lookup f_is_digit = some ⟨oc17, od17, .func (PySem.W.fnOf "is_digit" "is_digit" (defArgs sIsDigit) (defBody sIsDigit) (defScope sIsDigit) .none kV17 dc17 pm17 an17 cd17 ct17), sl17⟩)
  (c_is_digit : PySem.W.codeIn K cd17 "is_digit" = true)
  (k_is_digit : PySem.W.keepIn K (.ref f_is_digit) = true)
  (a_behind_all : PySem.W.nsIn K mainGlobals "behind_all" = some (some (.ref f_behind_all)))
  (l_behind_all : K.lookup f_behind_all = some ⟨oc18, od18, .func (PySem.W.fnOf "behind_all" "behind_all" (defArgs sBehindAll) (defBody sBehindAll) (defScope sBehindAll) .none kV18 dc18 pm18 an18 cd18 ct18), sl18⟩)
  (c_behind_all : PySem.W.codeIn K cd18 "behind_all" = true)
  (k_behind_all : PySem.W.keepIn K (.ref f_behind_all) = true)
  (a_word_at : PySem.W.nsIn K mainGlobals "word_at" = some (some (.ref f_word_at)))
  (l_word_at : K.lookup f_word_at = some ⟨oc19, od19, .func (PySem.W.fnOf "word_at" "word_at" (defArgs sWordAt) (defBody sWordAt) (defScope sWordAt) .none kV19 dc19 pm19 an19 cd19 ct19), sl19⟩)
  (c_word_at : PySem.W.codeIn K cd19 "word_at" = true)
  (k_word_at : PySem.W.keepIn K (.ref f_word_at) = true)
  (a_number_at : PySem.W.nsIn K mainGlobals "number_at" = some (some (.ref f_number_at)))
  (l_number_at : K.lookup f_number_at = some ⟨oc20, od20, .func (PySem.W.fnOf "number_at" "number_at" (defArgs sNumberAt) (defBody sNumberAt) (defScope sNumberAt) .none kV20 dc20 pm20 an20 cd20 ct20), sl20⟩)
  (c_number_at : PySem.W.codeIn K cd20 "number_at" = true)
  (k_number_at : PySem.W.keepIn K (.ref f_number_at) = true)
  (a_commands_of : PySem.W.nsIn K mainGlobals "commands_of" = some (some (.ref f_commands_of)))
  (l_commands_of : K.lookup f_commands_of = some ⟨oc21, od21, .func (PySem.W.fnOf "commands_of" "commands_of" (defArgs sCommands) (defBody sCommands) (defScope sCommands) .none kV21 dc21 pm21 an21 cd21 ct21), sl21⟩)
  (c_commands_of : PySem.W.codeIn K cd21 "commands_of" = true)
  (k_commands_of : PySem.W.keepIn K (.ref f_commands_of) = true)
  (a_read_command : PySem.W.nsIn K mainGlobals "read_command" = some (some (.ref f_read_command)))
  (l_read_command : K.lookup f_read_command = some ⟨oc22, od22, .func (PySem.W.fnOf "read_command" "read_command" (defArgs sCommand) (defBody sCommand) (defScope sCommand) .none kV22 dc22 pm22 an22 cd22 ct22), sl22⟩)
  (c_read_command : PySem.W.codeIn K cd22 "read_command" = true)
  (k_read_command : PySem.W.keepIn K (.ref f_read_command) = true)
  (a_read_nots : PySem.W.nsIn K mainGlobals "read_nots" = some (some (.ref f_read_nots)))
  (l_read_nots : K.lookup f_read_nots = some ⟨oc23, od23, .func (PySem.W.fnOf "read_nots" "read_nots" (defArgs sNots) (defBody sNots) (defScope sNots) .none kV23 dc23 pm23 an23 cd23 ct23), sl23⟩)
  (c_read_nots : PySem.W.codeIn K cd23 "read_nots" = true)
  (k_read_nots : PySem.W.keepIn K (.ref f_read_nots) = true)
  (a_read_address : PySem.W.nsIn K mainGlobals "read_address" = some (some (.ref f_read_address)))
  (l_read_address : K.lookup f_read_address = some ⟨oc24, od24, .func (PySem.W.fnOf "read_address" "read_address" (defArgs sAddr) (defBody sAddr) (defScope sAddr) .none kV24 dc24 pm24 an24 cd24 ct24), sl24⟩)
  (c_read_address : PySem.W.codeIn K cd24 "read_address" = true)
  (k_read_address : PySem.W.keepIn K (.ref f_read_address) = true)
  (a_read_deed : PySem.W.nsIn K mainGlobals "read_deed" = some (some (.ref f_read_deed)))
  (l_read_deed : K.lookup f_read_deed = some ⟨oc25, od25, .func (PySem.W.fnOf "read_deed" "read_deed" (defArgs sDeed) (defBody sDeed) (defScope sDeed) .none kV25 dc25 pm25 an25 cd25 ct25), sl25⟩)
  (c_read_deed : PySem.W.codeIn K cd25 "read_deed" = true)
  (k_read_deed : PySem.W.keepIn K (.ref f_read_deed) = true)
  (a_read_due : PySem.W.nsIn K mainGlobals "read_due" = some (some (.ref f_read_due)))
  (l_read_due : K.lookup f_read_due = some ⟨oc26, od26, .func (PySem.W.fnOf "read_due" "read_due" (defArgs sDue) (defBody sDue) (defScope sDue) .none kV26 dc26 pm26 an26 cd26 ct26), sl26⟩)
  (c_read_due : PySem.W.codeIn K cd26 "read_due" = true)
  (k_read_due : PySem.W.keepIn K (.ref f_read_due) = true)
  (a_patch_cost : PySem.W.nsIn K mainGlobals "patch_cost" = some (some (.ref f_patch_cost)))
  (l_patch_cost : K.lookup f_patch_cost = some ⟨oc27, od27, .func (PySem.W.fnOf "patch_cost" "patch_cost" (defArgs sCost) (defBody sCost) (defScope sCost) .none kV27 dc27 pm27 an27 cd27 ct27), sl27⟩)
  (c_patch_cost : PySem.W.codeIn K cd27 "patch_cost" = true)
  (k_patch_cost : PySem.W.keepIn K (.ref f_patch_cost) = true)
  (a_how_many_in_common : PySem.W.nsIn K mainGlobals "how_many_in_common" = some (some (.ref f_how_many_in_common)))
  (l_how_many_in_common : K.lookup f_how_many_in_common = some ⟨oc28, od28, .func (PySem.W.fnOf "how_many_in_common" "how_many_in_common" (defArgs sCommon) (defBody sCommon) (defScope sCommon) .none kV28 dc28 pm28 an28 cd28 ct28), sl28⟩)
  (c_how_many_in_common : PySem.W.codeIn K cd28 "how_many_in_common" = true)
  (k_how_many_in_common : PySem.W.keepIn K (.ref f_how_many_in_common) = true)
  (a_first_version : PySem.W.nsIn K mainGlobals "first_version" = some (some (.ref f_first_version)))
  (l_first_version : K.lookup f_first_version = some ⟨oc29, od29, .func (PySem.W.fnOf "first_version" "first_version" (defArgs sFirstVer) (defBody sFirstVer) (defScope sFirstVer) .none kV29 dc29 pm29 an29 cd29 ct29), sl29⟩)
  (c_first_version : PySem.W.codeIn K cd29 "first_version" = true)
  (k_first_version : PySem.W.keepIn K (.ref f_first_version) = true)
  (a_version_behind : PySem.W.nsIn K mainGlobals "version_behind" = some (some (.ref f_version_behind)))
  (l_version_behind : K.lookup f_version_behind = some ⟨oc30, od30, .func (PySem.W.fnOf "version_behind" "version_behind" (defArgs sVerBehind) (defBody sVerBehind) (defScope sVerBehind) .none kV30 dc30 pm30 an30 cd30 ct30), sl30⟩)
  (c_version_behind : PySem.W.codeIn K cd30 "version_behind" = true)
  (k_version_behind : PySem.W.keepIn K (.ref f_version_behind) = true)
  (a_origins_coming : PySem.W.nsIn K mainGlobals "origins_coming" = some (some (.ref f_origins_coming)))
  (l_origins_coming : K.lookup f_origins_coming = some ⟨oc31, od31, .func (PySem.W.fnOf "origins_coming" "origins_coming" (defArgs sOrgs) (defBody sOrgs) (defScope sOrgs) .none kV31 dc31 pm31 an31 cd31 ct31), sl31⟩)
  (c_origins_coming : PySem.W.codeIn K cd31 "origins_coming" = true)
  (k_origins_coming : PySem.W.keepIn K (.ref f_origins_coming) = true)
  (a_effect_of : PySem.W.nsIn K mainGlobals "effect_of" = some (some (.ref f_effect_of)))
  (l_effect_of : K.lookup f_effect_of = some ⟨oc32, od32, .func (PySem.W.fnOf "effect_of" "effect_of" (defArgs sEffect) (defBody sEffect) (defScope sEffect) .none kV32 dc32 pm32 an32 cd32 ct32), sl32⟩)
  (c_effect_of : PySem.W.codeIn K cd32 "effect_of" = true)
  (k_effect_of : PySem.W.keepIn K (.ref f_effect_of) = true)
  (a_is_guarded : PySem.W.nsIn K mainGlobals "is_guarded" = some (some (.ref f_is_guarded)))
  (l_is_guarded : K.lookup f_is_guarded = some ⟨oc33, od33, .func (PySem.W.fnOf "is_guarded" "is_guarded" (defArgs sIsG) (defBody sIsG) (defScope sIsG) .none kV33 dc33 pm33 an33 cd33 ct33), sl33⟩)
  (c_is_guarded : PySem.W.codeIn K cd33 "is_guarded" = true)
  (k_is_guarded : PySem.W.keepIn K (.ref f_is_guarded) = true)
  (a_first_harmed : PySem.W.nsIn K mainGlobals "first_harmed" = some (some (.ref f_first_harmed)))
  (l_first_harmed : K.lookup f_first_harmed = some ⟨oc34, od34, .func (PySem.W.fnOf "first_harmed" "first_harmed" (defArgs sHarmed) (defBody sHarmed) (defScope sHarmed) .none kV34 dc34 pm34 an34 cd34 ct34), sl34⟩)
  (c_first_harmed : PySem.W.codeIn K cd34 "first_harmed" = true)
  (k_first_harmed : PySem.W.keepIn K (.ref f_first_harmed) = true)
  (a_answers : PySem.W.nsIn K mainGlobals "answers" = some (some (.ref f_answers)))
  (l_answers : K.lookup f_answers = some ⟨oc35, od35, .func (PySem.W.fnOf "answers" "answers" (defArgs sAnswers) (defBody sAnswers) (defScope sAnswers) .none kV35 dc35 pm35 an35 cd35 ct35), sl35⟩)
  (c_answers : PySem.W.codeIn K cd35 "answers" = true)
  (k_answers : PySem.W.keepIn K (.ref f_answers) = true)
  (a_answer_or_refusal : PySem.W.nsIn K mainGlobals "answer_or_refusal" = some (some (.ref f_answer_or_refusal)))
  (l_answer_or_refusal : K.lookup f_answer_or_refusal = some ⟨oc36, od36, .func (PySem.W.fnOf "answer_or_refusal" "answer_or_refusal" (defArgs sAr) (defBody sAr) (defScope sAr) .none kV36 dc36 pm36 an36 cd36 ct36), sl36⟩)
  (c_answer_or_refusal : PySem.W.codeIn K cd36 "answer_or_refusal" = true)
  (k_answer_or_refusal : PySem.W.keepIn K (.ref f_answer_or_refusal) = true)
  (a_answer_of : PySem.W.nsIn K mainGlobals "answer_of" = some (some (.ref f_answer_of)))
  (l_answer_of : K.lookup f_answer_of = some ⟨oc37, od37, .func (PySem.W.fnOf "answer_of" "answer_of" (defArgs sAo) (defBody sAo) (defScope sAo) .none kV37 dc37 pm37 an37 cd37 ct37), sl37⟩)
  (c_answer_of : PySem.W.codeIn K cd37 "answer_of" = true)
  (k_answer_of : PySem.W.keepIn K (.ref f_answer_of) = true)
  (n_CT : PySem.W.nsIn K mainGlobals "Token" = some (some (.ref CT)))
  (pg_CT : PySem.W.plainGet K CT Str.empty = true)
  (hd_CT : PySem.W.hasDictIn K CT = true)
  (po_CT : PySem.W.plainOver K CT = true)
  (sa_CT : PySem.W.findIn K (.ref CT) "__setattr__" = some (some (.builtin "object.__setattr__")))
  (mk_CT : PySem.W.makesIn K CT = true)
  (kc_CT : PySem.W.keepIn K (.ref CT) = true)
  (x_CT_kind : PySem.W.findIn K (.ref CT) "kind" = some none)
  (x_CT_value : PySem.W.findIn K (.ref CT) "value" = some none)
  (x_CT_place : PySem.W.findIn K (.ref CT) "place" = some none)
  (x_CT_behind : PySem.W.findIn K (.ref CT) "behind" = some none)
  (a_CT___init__ : PySem.W.findIn K (.ref CT) "__init__" = some (some (.ref f_CT___init__)))
  (l_CT___init__ : K.lookup f_CT___init__ = some ⟨oc38, od38, .func (PySem.W.fnOf "__init__" "Token.__init__" (defArgs sTokInit) (defBody sTokInit) (defScope sTokInit) .none kV38 dc38 pm38 an38 cd38 ct38), sl38⟩)
  (c_CT___init__ : PySem.W.codeIn K cd38 "Token.__init__" = true)
  (k_CT___init__ : PySem.W.keepIn K (.ref f_CT___init__) = true)
  (i_CT___init__ : PySem.W.isFn K (.ref f_CT___init__) = true)
  (n_CR : PySem.W.nsIn K mainGlobals "Reader" = some (some (.ref CR)))
  (pg_CR : PySem.W.plainGet K CR Str.empty = true)
  (hd_CR : PySem.W.hasDictIn K CR = true)
  (po_CR : PySem.W.plainOver K CR = true)
  (sa_CR : PySem.W.findIn K (.ref CR) "__setattr__" = some (some (.builtin "object.__setattr__")))
  (mk_CR : PySem.W.makesIn K CR = true)
  (kc_CR : PySem.W.keepIn K (.ref CR) = true)
  (x_CR_tokens : PySem.W.findIn K (.ref CR) "tokens" = some none)
  (x_CR_at : PySem.W.findIn K (.ref CR) "at" = some none)
  (a_CR___init__ : PySem.W.findIn K (.ref CR) "__init__" = some (some (.ref f_CR___init__)))
  (l_CR___init__ : K.lookup f_CR___init__ = some ⟨oc39, od39, .func (PySem.W.fnOf "__init__" "Reader.__init__" (defArgs sRdInit) (defBody sRdInit) (defScope sRdInit) .none kV39 dc39 pm39 an39 cd39 ct39), sl39⟩)
  (c_CR___init__ : PySem.W.codeIn K cd39 "Reader.__init__" = true)
  (k_CR___init__ : PySem.W.keepIn K (.ref f_CR___init__) = true)
  (i_CR___init__ : PySem.W.isFn K (.ref f_CR___init__) = true)
  (a_CR_here : PySem.W.findIn K (.ref CR) "here" = some (some (.ref f_CR_here)))
  (l_CR_here : K.lookup f_CR_here = some ⟨oc40, od40, .func (PySem.W.fnOf "here" "Reader.here" (defArgs sRdHere) (defBody sRdHere) (defScope sRdHere) .none kV40 dc40 pm40 an40 cd40 ct40), sl40⟩)
  (c_CR_here : PySem.W.codeIn K cd40 "Reader.here" = true)
  (k_CR_here : PySem.W.keepIn K (.ref f_CR_here) = true)
  (i_CR_here : PySem.W.isFn K (.ref f_CR_here) = true)
  (a_CR_stands : PySem.W.findIn K (.ref CR) "stands" = some (some (.ref f_CR_stands)))
  (l_CR_stands : K.lookup f_CR_stands = some ⟨oc41, od41, .func (PySem.W.fnOf "stands" "Reader.stands" (defArgs sRdStands) (defBody sRdStands) (defScope sRdStands) .none kV41 dc41 pm41 an41 cd41 ct41), sl41⟩)
  (c_CR_stands : PySem.W.codeIn K cd41 "Reader.stands" = true)
  (k_CR_stands : PySem.W.keepIn K (.ref f_CR_stands) = true)
  (i_CR_stands : PySem.W.isFn K (.ref f_CR_stands) = true)
  (a_CR_refuse : PySem.W.findIn K (.ref CR) "refuse" = some (some (.ref f_CR_refuse)))
  (l_CR_refuse : K.lookup f_CR_refuse = some ⟨oc42, od42, .func (PySem.W.fnOf "refuse" "Reader.refuse" (defArgs sRdRefuse) (defBody sRdRefuse) (defScope sRdRefuse) .none kV42 dc42 pm42 an42 cd42 ct42), sl42⟩)
  (c_CR_refuse : PySem.W.codeIn K cd42 "Reader.refuse" = true)
  (k_CR_refuse : PySem.W.keepIn K (.ref f_CR_refuse) = true)
  (i_CR_refuse : PySem.W.isFn K (.ref f_CR_refuse) = true)
  (a_CR_take : PySem.W.findIn K (.ref CR) "take" = some (some (.ref f_CR_take)))
  (l_CR_take : K.lookup f_CR_take = some ⟨oc43, od43, .func (PySem.W.fnOf "take" "Reader.take" (defArgs sRdTake) (defBody sRdTake) (defScope sRdTake) .none kV43 dc43 pm43 an43 cd43 ct43), sl43⟩)
  (c_CR_take : PySem.W.codeIn K cd43 "Reader.take" = true)
  (k_CR_take : PySem.W.keepIn K (.ref f_CR_take) = true)
  (i_CR_take : PySem.W.isFn K (.ref f_CR_take) = true)
  (a_CR_take_own : PySem.W.findIn K (.ref CR) "take_own" = some (some (.ref f_CR_take_own)))
  (l_CR_take_own : K.lookup f_CR_take_own = some ⟨oc44, od44, .func (PySem.W.fnOf "take_own" "Reader.take_own" (defArgs sRdOwn) (defBody sRdOwn) (defScope sRdOwn) .none kV44 dc44 pm44 an44 cd44 ct44), sl44⟩)
  (c_CR_take_own : PySem.W.codeIn K cd44 "Reader.take_own" = true)
  (k_CR_take_own : PySem.W.keepIn K (.ref f_CR_take_own) = true)
  (i_CR_take_own : PySem.W.isFn K (.ref f_CR_take_own) = true)
  (a_CR_take_one_of : PySem.W.findIn K (.ref CR) "take_one_of" = some (some (.ref f_CR_take_one_of)))
  (l_CR_take_one_of : K.lookup f_CR_take_one_of = some ⟨oc45, od45, .func (PySem.W.fnOf "take_one_of" "Reader.take_one_of" (defArgs sRdOne) (defBody sRdOne) (defScope sRdOne) .none kV45 dc45 pm45 an45 cd45 ct45), sl45⟩)
  (c_CR_take_one_of : PySem.W.codeIn K cd45 "Reader.take_one_of" = true)
  (k_CR_take_one_of : PySem.W.keepIn K (.ref f_CR_take_one_of) = true)
  (i_CR_take_one_of : PySem.W.isFn K (.ref f_CR_take_one_of) = true)
  (a_CR_take_letters : PySem.W.findIn K (.ref CR) "take_letters" = some (some (.ref f_CR_take_letters)))
  (l_CR_take_letters : K.lookup f_CR_take_letters = some ⟨oc46, od46, .func (PySem.W.fnOf "take_letters" "Reader.take_letters" (defArgs sRdLetters) (defBody sRdLetters) (defScope sRdLetters) .none kV46 dc46 pm46 an46 cd46 ct46), sl46⟩)
  (c_CR_take_letters : PySem.W.codeIn K cd46 "Reader.take_letters" = true)
  (k_CR_take_letters : PySem.W.keepIn K (.ref f_CR_take_letters) = true)
  (i_CR_take_letters : PySem.W.isFn K (.ref f_CR_take_letters) = true)
  (a_CR_take_number : PySem.W.findIn K (.ref CR) "take_number" = some (some (.ref f_CR_take_number)))
  (l_CR_take_number : K.lookup f_CR_take_number = some ⟨oc47, od47, .func (PySem.W.fnOf "take_number" "Reader.take_number" (defArgs sRdNumber) (defBody sRdNumber) (defScope sRdNumber) .none kV47 dc47 pm47 an47 cd47 ct47), sl47⟩)
  (c_CR_take_number : PySem.W.codeIn K cd47 "Reader.take_number" = true)
  (k_CR_take_number : PySem.W.keepIn K (.ref f_CR_take_number) = true)
  (i_CR_take_number : PySem.W.isFn K (.ref f_CR_take_number) = true)
  (n_CC : PySem.W.nsIn K mainGlobals "Command" = some (some (.ref CC)))
  (pg_CC : PySem.W.plainGet K CC Str.empty = true)
  (hd_CC : PySem.W.hasDictIn K CC = true)
  (po_CC : PySem.W.plainOver K CC = true)
  (sa_CC : PySem.W.findIn K (.ref CC) "__setattr__" = some (some (.builtin "object.__setattr__")))
  (mk_CC : PySem.W.makesIn K CC = true)
  (kc_CC : PySem.W.keepIn K (.ref CC) = true)
  (x_CC_wanted : PySem.W.findIn K (.ref CC) "wanted" = some none)
  (x_CC_address : PySem.W.findIn K (.ref CC) "address" = some none)
  (x_CC_deed : PySem.W.findIn K (.ref CC) "deed" = some none)
  (a_CC___init__ : PySem.W.findIn K (.ref CC) "__init__" = some (some (.ref f_CC___init__)))
  (l_CC___init__ : K.lookup f_CC___init__ = some ⟨oc48, od48, .func (PySem.W.fnOf "__init__" "Command.__init__" (defArgs sCmdInit) (defBody sCmdInit) (defScope sCmdInit) .none kV48 dc48 pm48 an48 cd48 ct48), sl48⟩)
  (c_CC___init__ : PySem.W.codeIn K cd48 "Command.__init__" = true)
  (k_CC___init__ : PySem.W.keepIn K (.ref f_CC___init__) = true)
  (i_CC___init__ : PySem.W.isFn K (.ref f_CC___init__) = true)
  (n_CP : PySem.W.nsIn K mainGlobals "Passage" = some (some (.ref CP)))
  (pg_CP : PySem.W.plainGet K CP Str.empty = true)
  (hd_CP : PySem.W.hasDictIn K CP = true)
  (po_CP : PySem.W.plainOver K CP = true)
  (sa_CP : PySem.W.findIn K (.ref CP) "__setattr__" = some (some (.builtin "object.__setattr__")))
  (mk_CP : PySem.W.makesIn K CP = true)
  (kc_CP : PySem.W.keepIn K (.ref CP) = true)
  (x_CP_number : PySem.W.findIn K (.ref CP) "number" = some none)
  (x_CP_found : PySem.W.findIn K (.ref CP) "found" = some none)
  (x_CP_line : PySem.W.findIn K (.ref CP) "line" = some none)
  (x_CP_held : PySem.W.findIn K (.ref CP) "held" = some none)
  (x_CP_ahead : PySem.W.findIn K (.ref CP) "ahead" = some none)
  (x_CP_behind : PySem.W.findIn K (.ref CP) "behind" = some none)
  (x_CP_stays : PySem.W.findIn K (.ref CP) "stays" = some none)
  (a_CP___init__ : PySem.W.findIn K (.ref CP) "__init__" = some (some (.ref f_CP___init__)))
  (l_CP___init__ : K.lookup f_CP___init__ = some ⟨oc49, od49, .func (PySem.W.fnOf "__init__" "Passage.__init__" (defArgs sPassInit) (defBody sPassInit) (defScope sPassInit) .none kV49 dc49 pm49 an49 cd49 ct49), sl49⟩)
  (c_CP___init__ : PySem.W.codeIn K cd49 "Passage.__init__" = true)
  (k_CP___init__ : PySem.W.keepIn K (.ref f_CP___init__) = true)
  (i_CP___init__ : PySem.W.isFn K (.ref f_CP___init__) = true)
  (a_CP_is_as_found : PySem.W.findIn K (.ref CP) "is_as_found" = some (some (.ref f_CP_is_as_found)))
  (l_CP_is_as_found : K.lookup f_CP_is_as_found = some ⟨oc50, od50, .func (PySem.W.fnOf "is_as_found" "Passage.is_as_found" (defArgs sAsFound) (defBody sAsFound) (defScope sAsFound) .none kV50 dc50 pm50 an50 cd50 ct50), sl50⟩)
  (c_CP_is_as_found : PySem.W.codeIn K cd50 "Passage.is_as_found" = true)
  (k_CP_is_as_found : PySem.W.keepIn K (.ref f_CP_is_as_found) = true)
  (i_CP_is_as_found : PySem.W.isFn K (.ref f_CP_is_as_found) = true)
  (a_CP_is_changed : PySem.W.findIn K (.ref CP) "is_changed" = some (some (.ref f_CP_is_changed)))
  (l_CP_is_changed : K.lookup f_CP_is_changed = some ⟨oc51, od51, .func (PySem.W.fnOf "is_changed" "Passage.is_changed" (defArgs sChanged) (defBody sChanged) (defScope sChanged) .none kV51 dc51 pm51 an51 cd51 ct51), sl51⟩)
  (c_CP_is_changed : PySem.W.codeIn K cd51 "Passage.is_changed" = true)
  (k_CP_is_changed : PySem.W.keepIn K (.ref f_CP_is_changed) = true)
  (i_CP_is_changed : PySem.W.isFn K (.ref f_CP_is_changed) = true)
  (a_CP_lines_coming : PySem.W.findIn K (.ref CP) "lines_coming" = some (some (.ref f_CP_lines_coming)))
  (l_CP_lines_coming : K.lookup f_CP_lines_coming = some ⟨oc52, od52, .func (PySem.W.fnOf "lines_coming" "Passage.lines_coming" (defArgs sComing) (defBody sComing) (defScope sComing) .none kV52 dc52 pm52 an52 cd52 ct52), sl52⟩)
  (c_CP_lines_coming : PySem.W.codeIn K cd52 "Passage.lines_coming" = true)
  (k_CP_lines_coming : PySem.W.keepIn K (.ref f_CP_lines_coming) = true)
  (i_CP_lines_coming : PySem.W.isFn K (.ref f_CP_lines_coming) = true)
  (n_CV : PySem.W.nsIn K mainGlobals "Version" = some (some (.ref CV)))
  (pg_CV : PySem.W.plainGet K CV Str.empty = true)
  (hd_CV : PySem.W.hasDictIn K CV = true)
  (po_CV : PySem.W.plainOver K CV = true)
  (sa_CV : PySem.W.findIn K (.ref CV) "__setattr__" = some (some (.builtin "object.__setattr__")))
  (mk_CV : PySem.W.makesIn K CV = true)
  (kc_CV : PySem.W.keepIn K (.ref CV) = true)
  (x_CV_lines : PySem.W.findIn K (.ref CV) "lines" = some none)
  (x_CV_origins : PySem.W.findIn K (.ref CV) "origins" = some none)
  (a_CV___init__ : PySem.W.findIn K (.ref CV) "__init__" = some (some (.ref f_CV___init__)))
  (l_CV___init__ : K.lookup f_CV___init__ = some ⟨oc53, od53, .func (PySem.W.fnOf "__init__" "Version.__init__" (defArgs sVerInit) (defBody sVerInit) (defScope sVerInit) .none kV53 dc53 pm53 an53 cd53 ct53), sl53⟩)
  (c_CV___init__ : PySem.W.codeIn K cd53 "Version.__init__" = true)
  (k_CV___init__ : PySem.W.keepIn K (.ref f_CV___init__) = true)
  (i_CV___init__ : PySem.W.isFn K (.ref f_CV___init__) = true)
  (n_CS : PySem.W.nsIn K mainGlobals "Session" = some (some (.ref CS)))
  (pg_CS : PySem.W.plainGet K CS Str.empty = true)
  (hd_CS : PySem.W.hasDictIn K CS = true)
  (po_CS : PySem.W.plainOver K CS = true)
  (sa_CS : PySem.W.findIn K (.ref CS) "__setattr__" = some (some (.builtin "object.__setattr__")))
  (mk_CS : PySem.W.makesIn K CS = true)
  (kc_CS : PySem.W.keepIn K (.ref CS) = true)
  (x_CS_versions : PySem.W.findIn K (.ref CS) "versions" = some none)
  (x_CS_undone : PySem.W.findIn K (.ref CS) "undone" = some none)
  (x_CS_guarded : PySem.W.findIn K (.ref CS) "guarded" = some none)
  (a_CS___init__ : PySem.W.findIn K (.ref CS) "__init__" = some (some (.ref f_CS___init__)))
  (l_CS___init__ : K.lookup f_CS___init__ = some ⟨oc54, od54, .func (PySem.W.fnOf "__init__" "Session.__init__" (defArgs sSesInit) (defBody sSesInit) (defScope sSesInit) .none kV54 dc54 pm54 an54 cd54 ct54), sl54⟩)
  (c_CS___init__ : PySem.W.codeIn K cd54 "Session.__init__" = true)
  (k_CS___init__ : PySem.W.keepIn K (.ref f_CS___init__) = true)
  (i_CS___init__ : PySem.W.isFn K (.ref f_CS___init__) = true)
  (a_CS_has_text : PySem.W.findIn K (.ref CS) "has_text" = some (some (.ref f_CS_has_text)))
  (l_CS_has_text : K.lookup f_CS_has_text = some ⟨oc55, od55, .func (PySem.W.fnOf "has_text" "Session.has_text" (defArgs sHas) (defBody sHas) (defScope sHas) .none kV55 dc55 pm55 an55 cd55 ct55), sl55⟩)
  (c_CS_has_text : PySem.W.codeIn K cd55 "Session.has_text" = true)
  (k_CS_has_text : PySem.W.keepIn K (.ref f_CS_has_text) = true)
  (i_CS_has_text : PySem.W.isFn K (.ref f_CS_has_text) = true)
  (a_CS_now : PySem.W.findIn K (.ref CS) "now" = some (some (.ref f_CS_now)))
  (l_CS_now : K.lookup f_CS_now = some ⟨oc56, od56, .func (PySem.W.fnOf "now" "Session.now" (defArgs sNow) (defBody sNow) (defScope sNow) .none kV56 dc56 pm56 an56 cd56 ct56), sl56⟩)
  (c_CS_now : PySem.W.codeIn K cd56 "Session.now" = true)
  (k_CS_now : PySem.W.keepIn K (.ref f_CS_now) = true)
  (i_CS_now : PySem.W.isFn K (.ref f_CS_now) = true)
  (a_CS_how_many_steps : PySem.W.findIn K (.ref CS) "how_many_steps" = some (some (.ref f_CS_how_many_steps)))
  (l_CS_how_many_steps : K.lookup f_CS_how_many_steps = some ⟨oc57, od57, .func (PySem.W.fnOf "how_many_steps" "Session.how_many_steps" (defArgs sSteps) (defBody sSteps) (defScope sSteps) .none kV57 dc57 pm57 an57 cd57 ct57), sl57⟩)
  (c_CS_how_many_steps : PySem.W.codeIn K cd57 "Session.how_many_steps" = true)
  (k_CS_how_many_steps : PySem.W.keepIn K (.ref f_CS_how_many_steps) = true)
  (i_CS_how_many_steps : PySem.W.isFn K (.ref f_CS_how_many_steps) = true)
  (a_CS_load : PySem.W.findIn K (.ref CS) "load" = some (some (.ref f_CS_load)))
  (l_CS_load : K.lookup f_CS_load = some ⟨oc58, od58, .func (PySem.W.fnOf "load" "Session.load" (defArgs sLoad) (defBody sLoad) (defScope sLoad) .none kV58 dc58 pm58 an58 cd58 ct58), sl58⟩)
  (c_CS_load : PySem.W.codeIn K cd58 "Session.load" = true)
  (k_CS_load : PySem.W.keepIn K (.ref f_CS_load) = true)
  (i_CS_load : PySem.W.isFn K (.ref f_CS_load) = true)
  (a_CS_apply : PySem.W.findIn K (.ref CS) "apply" = some (some (.ref f_CS_apply)))
  (l_CS_apply : K.lookup f_CS_apply = some ⟨oc59, od59, .func (PySem.W.fnOf "apply" "Session.apply" (defArgs sApply) (defBody sApply) (defScope sApply) .none kV59 dc59 pm59 an59 cd59 ct59), sl59⟩)
  (c_CS_apply : PySem.W.codeIn K cd59 "Session.apply" = true)
  (k_CS_apply : PySem.W.keepIn K (.ref f_CS_apply) = true)
  (i_CS_apply : PySem.W.isFn K (.ref f_CS_apply) = true)
  (a_CS_dry : PySem.W.findIn K (.ref CS) "dry" = some (some (.ref f_CS_dry)))
  (l_CS_dry : K.lookup f_CS_dry = some ⟨oc60, od60, .func (PySem.W.fnOf "dry" "Session.dry" (defArgs sDry) (defBody sDry) (defScope sDry) .none kV60 dc60 pm60 an60 cd60 ct60), sl60⟩)
  (c_CS_dry : PySem.W.codeIn K cd60 "Session.dry" = true)
  (k_CS_dry : PySem.W.keepIn K (.ref f_CS_dry) = true)
  (i_CS_dry : PySem.W.isFn K (.ref f_CS_dry) = true)
  (a_CS_attempt : PySem.W.findIn K (.ref CS) "attempt" = some (some (.ref f_CS_attempt)))
  (l_CS_attempt : K.lookup f_CS_attempt = some ⟨oc61, od61, .func (PySem.W.fnOf "attempt" "Session.attempt" (defArgs sAttempt) (defBody sAttempt) (defScope sAttempt) .none kV61 dc61 pm61 an61 cd61 ct61), sl61⟩)
  (c_CS_attempt : PySem.W.codeIn K cd61 "Session.attempt" = true)
  (k_CS_attempt : PySem.W.keepIn K (.ref f_CS_attempt) = true)
  (i_CS_attempt : PySem.W.isFn K (.ref f_CS_attempt) = true)
  (a_CS_undo : PySem.W.findIn K (.ref CS) "undo" = some (some (.ref f_CS_undo)))
  (l_CS_undo : K.lookup f_CS_undo = some ⟨oc62, od62, .func (PySem.W.fnOf "undo" "Session.undo" (defArgs sUndo) (defBody sUndo) (defScope sUndo) .none kV62 dc62 pm62 an62 cd62 ct62), sl62⟩)
  (c_CS_undo : PySem.W.codeIn K cd62 "Session.undo" = true)
  (k_CS_undo : PySem.W.keepIn K (.ref f_CS_undo) = true)
  (i_CS_undo : PySem.W.isFn K (.ref f_CS_undo) = true)
  (a_CS_redo : PySem.W.findIn K (.ref CS) "redo" = some (some (.ref f_CS_redo)))
  (l_CS_redo : K.lookup f_CS_redo = some ⟨oc63, od63, .func (PySem.W.fnOf "redo" "Session.redo" (defArgs sRedo) (defBody sRedo) (defScope sRedo) .none kV63 dc63 pm63 an63 cd63 ct63), sl63⟩)
  (c_CS_redo : PySem.W.codeIn K cd63 "Session.redo" = true)
  (k_CS_redo : PySem.W.keepIn K (.ref f_CS_redo) = true)
  (i_CS_redo : PySem.W.isFn K (.ref f_CS_redo) = true)
  (a_CS_where_it_stands : PySem.W.findIn K (.ref CS) "where_it_stands" = some (some (.ref f_CS_where_it_stands)))
  (l_CS_where_it_stands : K.lookup f_CS_where_it_stands = some ⟨oc64, od64, .func (PySem.W.fnOf "where_it_stands" "Session.where_it_stands" (defArgs sWhere) (defBody sWhere) (defScope sWhere) .none kV64 dc64 pm64 an64 cd64 ct64), sl64⟩)
  (c_CS_where_it_stands : PySem.W.codeIn K cd64 "Session.where_it_stands" = true)
  (k_CS_where_it_stands : PySem.W.keepIn K (.ref f_CS_where_it_stands) = true)
  (i_CS_where_it_stands : PySem.W.isFn K (.ref f_CS_where_it_stands) = true)
  (a_CS_shown : PySem.W.findIn K (.ref CS) "shown" = some (some (.ref f_CS_shown)))
  (l_CS_shown : K.lookup f_CS_shown = some ⟨oc65, od65, .func (PySem.W.fnOf "shown" "Session.shown" (defArgs sShown) (defBody sShown) (defScope sShown) .none kV65 dc65 pm65 an65 cd65 ct65), sl65⟩)
  (c_CS_shown : PySem.W.codeIn K cd65 "Session.shown" = true)
  (k_CS_shown : PySem.W.keepIn K (.ref f_CS_shown) = true)
  (i_CS_shown : PySem.W.isFn K (.ref f_CS_shown) = true)
  (a_CS_origins_now : PySem.W.findIn K (.ref CS) "origins_now" = some (some (.ref f_CS_origins_now)))
  (l_CS_origins_now : K.lookup f_CS_origins_now = some ⟨oc66, od66, .func (PySem.W.fnOf "origins_now" "Session.origins_now" (defArgs sOrigins) (defBody sOrigins) (defScope sOrigins) .none kV66 dc66 pm66 an66 cd66 ct66), sl66⟩)
  (c_CS_origins_now : PySem.W.codeIn K cd66 "Session.origins_now" = true)
  (k_CS_origins_now : PySem.W.keepIn K (.ref f_CS_origins_now) = true)
  (i_CS_origins_now : PySem.W.isFn K (.ref f_CS_origins_now) = true)
  (a_CS_same : PySem.W.findIn K (.ref CS) "same" = some (some (.ref f_CS_same)))
  (l_CS_same : K.lookup f_CS_same = some ⟨oc67, od67, .func (PySem.W.fnOf "same" "Session.same" (defArgs sSame) (defBody sSame) (defScope sSame) .none kV67 dc67 pm67 an67 cd67 ct67), sl67⟩)
  (c_CS_same : PySem.W.codeIn K cd67 "Session.same" = true)
  (k_CS_same : PySem.W.keepIn K (.ref f_CS_same) = true)
  (i_CS_same : PySem.W.isFn K (.ref f_CS_same) = true)
  (a_CS_guard : PySem.W.findIn K (.ref CS) "guard" = some (some (.ref f_CS_guard)))
  (l_CS_guard : K.lookup f_CS_guard = some ⟨oc68, od68, .func (PySem.W.fnOf "guard" "Session.guard" (defArgs sGuard) (defBody sGuard) (defScope sGuard) .none kV68 dc68 pm68 an68 cd68 ct68), sl68⟩)
  (c_CS_guard : PySem.W.codeIn K cd68 "Session.guard" = true)
  (k_CS_guard : PySem.W.keepIn K (.ref f_CS_guard) = true)
  (i_CS_guard : PySem.W.isFn K (.ref f_CS_guard) = true)
  (a_CS_history : PySem.W.findIn K (.ref CS) "history" = some (some (.ref f_CS_history)))
  (l_CS_history : K.lookup f_CS_history = some ⟨oc69, od69, .func (PySem.W.fnOf "history" "Session.history" (defArgs sHistory) (defBody sHistory) (defScope sHistory) .none kV69 dc69 pm69 an69 cd69 ct69), sl69⟩)
  (c_CS_history : PySem.W.codeIn K cd69 "Session.history" = true)
  (k_CS_history : PySem.W.keepIn K (.ref f_CS_history) = true)
  (i_CS_history : PySem.W.isFn K (.ref f_CS_history) = true)
  (n_CTr : PySem.W.nsIn K mainGlobals "Trial" = some (some (.ref CTr)))
  (pg_CTr : PySem.W.plainGet K CTr Str.empty = true)
  (hd_CTr : PySem.W.hasDictIn K CTr = true)
  (po_CTr : PySem.W.plainOver K CTr = true)
  (sa_CTr : PySem.W.findIn K (.ref CTr) "__setattr__" = some (some (.builtin "object.__setattr__")))
  (mk_CTr : PySem.W.makesIn K CTr = true)
  (kc_CTr : PySem.W.keepIn K (.ref CTr) = true)
  (x_CTr_version : PySem.W.findIn K (.ref CTr) "version" = some none)
  (x_CTr_effect : PySem.W.findIn K (.ref CTr) "effect" = some none)
  (x_CTr_harmed : PySem.W.findIn K (.ref CTr) "harmed" = some none)
  (a_CTr___init__ : PySem.W.findIn K (.ref CTr) "__init__" = some (some (.ref f_CTr___init__)))
  (l_CTr___init__ : K.lookup f_CTr___init__ = some ⟨oc70, od70, .func (PySem.W.fnOf "__init__" "Trial.__init__" (defArgs sTriInit) (defBody sTriInit) (defScope sTriInit) .none kV70 dc70 pm70 an70 cd70 ct70), sl70⟩)
  (c_CTr___init__ : PySem.W.codeIn K cd70 "Trial.__init__" = true)
  (k_CTr___init__ : PySem.W.keepIn K (.ref f_CTr___init__) = true)
  (i_CTr___init__ : PySem.W.isFn K (.ref f_CTr___init__) = true)
  (n_NT : PySem.W.nsIn K mainGlobals "NoText" = some (some (.ref NT)))
  (e_NT : PySem.W.excIn K NT [.type "Exception", .type "BaseException", .type "object"] "Exception.__new__" = true)
  (kc_NT : PySem.W.keepIn K (.ref NT) = true)
  (sb_NT : PySem.W.subIn K (.ref NT) (.type "BaseException") = some true)
  (ty_NT : PySem.W.typeIn K (.ref NT) = some (.type "type"))
  (n_NS : PySem.W.nsIn K mainGlobals "NoStepLeft" = some (some (.ref NS)))
  (e_NS : PySem.W.excIn K NS [.type "Exception", .type "BaseException", .type "object"] "Exception.__new__" = true)
  (kc_NS : PySem.W.keepIn K (.ref NS) = true)
  (sb_NS : PySem.W.subIn K (.ref NS) (.type "BaseException") = some true)
  (ty_NS : PySem.W.typeIn K (.ref NS) = some (.type "type"))
  (n_NR : PySem.W.nsIn K mainGlobals "NotToldRightly" = some (some (.ref NR)))
  (e_NR : PySem.W.excIn K NR [.type "Exception", .type "BaseException", .type "object"] "Exception.__new__" = true)
  (kc_NR : PySem.W.keepIn K (.ref NR) = true)
  (sb_NR : PySem.W.subIn K (.ref NR) (.type "BaseException") = some true)
  (ty_NR : PySem.W.typeIn K (.ref NR) = some (.type "type"))
  (n_RM : PySem.W.nsIn K mainGlobals "NoRoomForStep" = some (some (.ref RM)))
  (e_RM : PySem.W.excIn K RM [.type "Exception", .type "BaseException", .type "object"] "Exception.__new__" = true)
  (kc_RM : PySem.W.keepIn K (.ref RM) = true)
  (sb_RM : PySem.W.subIn K (.ref RM) (.type "BaseException") = some true)
  (ty_RM : PySem.W.typeIn K (.ref RM) = some (.type "type"))
  (n_TM : PySem.W.nsIn K mainGlobals "TooMuch" = some (some (.ref TM)))
  (e_TM : PySem.W.excIn K TM [.type "Exception", .type "BaseException", .type "object"] "Exception.__new__" = true)
  (kc_TM : PySem.W.keepIn K (.ref TM) = true)
  (sb_TM : PySem.W.subIn K (.ref TM) (.type "BaseException") = some true)
  (ty_TM : PySem.W.typeIn K (.ref TM) = some (.type "type"))
  (n_HG : PySem.W.nsIn K mainGlobals "HarmsGuarded" = some (some (.ref HG)))
  (e_HG : PySem.W.excIn K HG [.type "Exception", .type "BaseException", .type "object"] "Exception.__new__" = true)
  (kc_HG : PySem.W.keepIn K (.ref HG) = true)
  (sb_HG : PySem.W.subIn K (.ref HG) (.type "BaseException") = some true)
  (ty_HG : PySem.W.typeIn K (.ref HG) = some (.type "type"))
  (n_CF : PySem.W.nsIn K mainGlobals "Fault" = some (some (.ref CF)))
  (l_CF : K.lookup CF = some (excClassObj nm_ q_ CF N_ bs_ PySem.FLT.exTl true sn_ sub_ ab_ col_ dd_ k0_ k1_ k2_ k3_ k5_ "Exception.__new__"))
  (sa_CF : PySem.W.findIn K (.ref CF) "__setattr__" = some (some (.builtin "object.__setattr__")))
  (sb_CF : PySem.W.subIn K (.ref CF) (.type "BaseException") = some true)
  (ty_CF : PySem.W.typeIn K (.ref CF) = some (.type "type"))
  (kc_CF : PySem.W.keepIn K (.ref CF) = true)
  (x_CF_code : PySem.W.findIn K (.ref CF) "code" = some none)
  (x_CF_place : PySem.W.findIn K (.ref CF) "place" = some none)
  (ga_CF : PySem.W.findIn K (.ref CF) "__getattribute__" = some (some (.builtin "BaseException.__getattribute__")))
  (gg_CF : PySem.W.findIn K (.ref CF) "__getattr__" = some none)
  (hd_CF : PySem.W.hasDictIn K CF = true)
  (a_CF___init__ : PySem.W.findIn K (.ref CF) "__init__" = some (some (.ref f_CF___init__)))
  (l_CF___init__ : K.lookup f_CF___init__ = some ⟨oc71, od71, .func (PySem.W.fnOf "__init__" "Fault.__init__" (defArgs sFltInit) (defBody sFltInit) (defScope sFltInit) .none kV71 dc71 pm71 an71 cd71 ct71), sl71⟩)
  (c_CF___init__ : PySem.W.codeIn K cd71 "Fault.__init__" = true)
  (k_CF___init__ : PySem.W.keepIn K (.ref f_CF___init__) = true)
  (t_CF_init : PySem.W.typeIn K (.ref f_CF___init__) = some (.type "function"))
  (ic_CF : PySem.W.isClsIn K CF = true)
  (ic_NT : PySem.W.isClsIn K NT = true)
  (ic_NS : PySem.W.isClsIn K NS = true)
  (ic_NR : PySem.W.isClsIn K NR = true)
  (ic_RM : PySem.W.isClsIn K RM = true)
  (ic_TM : PySem.W.isClsIn K TM = true)
  (ic_HG : PySem.W.isClsIn K HG = true)
  (su_00 : PySem.W.subIn K (.ref CF) (.ref CF) = some true)
  (su_10 : PySem.W.subIn K (.ref NT) (.ref CF) = some false)
  (su_11 : PySem.W.subIn K (.ref NT) (.ref NT) = some true)
  (su_20 : PySem.W.subIn K (.ref NS) (.ref CF) = some false)
  (su_21 : PySem.W.subIn K (.ref NS) (.ref NT) = some false)
  (su_22 : PySem.W.subIn K (.ref NS) (.ref NS) = some true)
  (su_30 : PySem.W.subIn K (.ref NR) (.ref CF) = some false)
  (su_31 : PySem.W.subIn K (.ref NR) (.ref NT) = some false)
  (su_32 : PySem.W.subIn K (.ref NR) (.ref NS) = some false)
  (su_33 : PySem.W.subIn K (.ref NR) (.ref NR) = some true)
  (su_40 : PySem.W.subIn K (.ref RM) (.ref CF) = some false)
  (su_41 : PySem.W.subIn K (.ref RM) (.ref NT) = some false)
  (su_42 : PySem.W.subIn K (.ref RM) (.ref NS) = some false)
  (su_43 : PySem.W.subIn K (.ref RM) (.ref NR) = some false)
  (su_44 : PySem.W.subIn K (.ref RM) (.ref RM) = some true)
  (su_50 : PySem.W.subIn K (.ref TM) (.ref CF) = some false)
  (su_51 : PySem.W.subIn K (.ref TM) (.ref NT) = some false)
  (su_52 : PySem.W.subIn K (.ref TM) (.ref NS) = some false)
  (su_53 : PySem.W.subIn K (.ref TM) (.ref NR) = some false)
  (su_54 : PySem.W.subIn K (.ref TM) (.ref RM) = some false)
  (su_55 : PySem.W.subIn K (.ref TM) (.ref TM) = some true)
  (su_60 : PySem.W.subIn K (.ref HG) (.ref CF) = some false)
  (su_61 : PySem.W.subIn K (.ref HG) (.ref NT) = some false)
  (su_62 : PySem.W.subIn K (.ref HG) (.ref NS) = some false)
  (su_63 : PySem.W.subIn K (.ref HG) (.ref NR) = some false)
  (su_64 : PySem.W.subIn K (.ref HG) (.ref RM) = some false)
  (su_65 : PySem.W.subIn K (.ref HG) (.ref TM) = some false)
  (su_66 : PySem.W.subIn K (.ref HG) (.ref HG) = some true)
  (v_BYTE_OF_A : PySem.W.nsIn K mainGlobals "BYTE_OF_A" = some (some (.int 97 t_BYTE_OF_A)))
  (v_LINE_FEED : PySem.W.nsIn K mainGlobals "LINE_FEED" = some (some (.int 10 t_LINE_FEED)))
  (v_DIGIT_ZERO : PySem.W.nsIn K mainGlobals "DIGIT_ZERO" = some (some (.int 48 t_DIGIT_ZERO)))
  (v_DIGIT_NINE : PySem.W.nsIn K mainGlobals "DIGIT_NINE" = some (some (.int 57 t_DIGIT_NINE)))
  (v_REMARK : PySem.W.nsIn K mainGlobals "REMARK" = some (some (.int 35 t_REMARK)))
  (v_BLANK : PySem.W.nsIn K mainGlobals "BLANK" = some (some (.int 32 t_BLANK)))
  (v_TAB : PySem.W.nsIn K mainGlobals "TAB" = some (some (.int 9 t_TAB)))
  (v_SEMICOLON : PySem.W.nsIn K mainGlobals "SEMICOLON" = some (some (.int 59 t_SEMICOLON)))
  (v_MOST_LETTERS_tokens : PySem.W.nsIn K mainGlobals "MOST_LETTERS_tokens" = some (some (.int 8 t_MOST_LETTERS_tokens)))
  (v_MOST_DIGITS : PySem.W.nsIn K mainGlobals "MOST_DIGITS" = some (some (.int 10 t_MOST_DIGITS)))
  (v_GREATEST_NUMBER : PySem.W.nsIn K mainGlobals "GREATEST_NUMBER" = some (some (.int 1000000000 t_GREATEST_NUMBER)))
  (v_NO_TOKEN : PySem.W.nsIn K mainGlobals "NO_TOKEN" = some (some (.int 2 t_NO_TOKEN)))
  (v_NOT_ALLOWED : PySem.W.nsIn K mainGlobals "NOT_ALLOWED" = some (some (.int 3 t_NOT_ALLOWED)))
  (v_OUT_OF_BOUNDS : PySem.W.nsIn K mainGlobals "OUT_OF_BOUNDS" = some (some (.int 7 t_OUT_OF_BOUNDS)))
  (v_MOST_NOTS : PySem.W.nsIn K mainGlobals "MOST_NOTS" = some (some (.int 3 t_MOST_NOTS)))
  (v_TOO_MANY : PySem.W.nsIn K mainGlobals "TOO_MANY" = some (some (.int 4 t_TOO_MANY)))
  (v_GREATEST_LINE : PySem.W.nsIn K mainGlobals "GREATEST_LINE" = some (some (.int 99 t_GREATEST_LINE)))
  (v_GREATEST_SKIP : PySem.W.nsIn K mainGlobals "GREATEST_SKIP" = some (some (.int 9 t_GREATEST_SKIP)))
  (v_MOST_BYTES : PySem.W.nsIn K mainGlobals "MOST_BYTES" = some (some (.int 4096 t_MOST_BYTES)))
  (v_MOST_COMMANDS : PySem.W.nsIn K mainGlobals "MOST_COMMANDS" = some (some (.int 16 t_MOST_COMMANDS)))
  (v_TOO_LONG : PySem.W.nsIn K mainGlobals "TOO_LONG" = some (some (.int 1 t_TOO_LONG)))
  (v_MOST_LETTERS_texts : PySem.W.nsIn K mainGlobals "MOST_LETTERS_texts" = some (some (.int 16 t_MOST_LETTERS_texts)))
  (v_MOST_LINES : PySem.W.nsIn K mainGlobals "MOST_LINES" = some (some (.int 24 t_MOST_LINES)))
  (v_MOST_LINES_COMING : PySem.W.nsIn K mainGlobals "MOST_LINES_COMING" = some (some (.int 60 t_MOST_LINES_COMING)))
  (v_MOST_STEPS : PySem.W.nsIn K mainGlobals "MOST_STEPS" = some (some (.int 20 t_MOST_STEPS)))
  (v_LOAD : PySem.W.nsIn K mainGlobals "LOAD" = some (some (.int 0 t_LOAD)))
  (v_APPLY : PySem.W.nsIn K mainGlobals "APPLY" = some (some (.int 1 t_APPLY)))
  (v_DRY : PySem.W.nsIn K mainGlobals "DRY" = some (some (.int 2 t_DRY)))
  (v_UNDO : PySem.W.nsIn K mainGlobals "UNDO" = some (some (.int 3 t_UNDO)))
  (v_REDO : PySem.W.nsIn K mainGlobals "REDO" = some (some (.int 4 t_REDO)))
  (v_SHOWN : PySem.W.nsIn K mainGlobals "SHOWN" = some (some (.int 5 t_SHOWN)))
  (v_ORIGINS : PySem.W.nsIn K mainGlobals "ORIGINS" = some (some (.int 6 t_ORIGINS)))
  (v_SAME : PySem.W.nsIn K mainGlobals "SAME" = some (some (.int 7 t_SAME)))
  (v_GUARD : PySem.W.nsIn K mainGlobals "GUARD" = some (some (.int 8 t_GUARD)))
  (v_HISTORY : PySem.W.nsIn K mainGlobals "HISTORY" = some (some (.int 9 t_HISTORY)))
  (v_ALPHABET : PySem.W.nsIn K mainGlobals "ALPHABET" = some (some (.str "abcdefghijklmnopqrstuvwxyz" t_ALPHABET)))
  (v_OWN : PySem.W.nsIn K mainGlobals "OWN" = some (some (.str "own" t_OWN)))
  (v_LETTERS : PySem.W.nsIn K mainGlobals "LETTERS" = some (some (.str "letters" t_LETTERS)))
  (v_NUMBER : PySem.W.nsIn K mainGlobals "NUMBER" = some (some (.str "number" t_NUMBER)))
  (v_SIGN : PySem.W.nsIn K mainGlobals "SIGN" = some (some (.str ";" t_SIGN)))
  (v_END : PySem.W.nsIn K mainGlobals "END" = some (some (.str "" t_END)))
  (v_LETTERS_OR_NONE : PySem.W.nsIn K mainGlobals "LETTERS_OR_NONE" = some (some (.str "letters or none" t_LETTERS_OR_NONE)))
  (v_OWN_WORDS : PySem.W.nsIn K mainGlobals "OWN_WORDS" = some (some (.ref WO)))
  (l_OWN_WORDS : K.lookup WO = some oWO)
  (w_OWN_WORDS : tupOk (RESERVED.map fun w => V.str (S w)) oWO = true)
  (v_ADDRESSES : PySem.W.nsIn K mainGlobals "ADDRESSES" = some (some (.ref AD)))
  (l_ADDRESSES : K.lookup AD = some oAD)
  (w_ADDRESSES : tupOk (wsA.map fun w => V.str (S w)) oAD = true)
  (v_ROWS : PySem.W.nsIn K mainGlobals "ROWS" = some (some (.ref RW)))
  (l_ROWS : K.lookup RW = some oRW)
  (w_ROWS : tupOk (kRows.map V.int) oRW = true)
  (v_DEEDS : PySem.W.nsIn K mainGlobals "DEEDS" = some (some (.ref DA)))
  (l_DEEDS : K.lookup DA = some ⟨.type "dict", none, .dict esDA nDA, #[]⟩)
  (sm_DA : (DA == sysModules) = false)
  (h_DEEDS : esDA.toList.map (·.hash) = dWords.map (PyData.keyHash w.params))
  (w_DEEDS : valsOk (dWords.map V.str) (esDA.toList.map (·.key)) = true)
  (l_ST : K.lookup cStatics = some ⟨clS, dS, .dict esS nS, slS⟩)
  (w_ST : stOk esS.toList = true)
  (d_delete : PySem.W.nsIn K DA "delete" = some (some (.ref T_delete)))
  (l_T_delete : K.lookup T_delete = some oT_delete)
  (w_T_delete : tupOk ((duesOf (VasedBase.word "delete")).map fun d => V.str (dueS d)) oT_delete = true)
  (d_before : PySem.W.nsIn K DA "before" = some (some (.ref T_before)))
  (l_T_before : K.lookup T_before = some oT_before)
  (w_T_before : tupOk ((duesOf (VasedBase.word "before")).map fun d => V.str (dueS d)) oT_before = true)
  (d_after : PySem.W.nsIn K DA "after" = some (some (.ref T_after)))
  (l_T_after : K.lookup T_after = some oT_after)
  (w_T_after : tupOk ((duesOf (VasedBase.word "after")).map fun d => V.str (dueS d)) oT_after = true)
  (d_change : PySem.W.nsIn K DA "change" = some (some (.ref T_change)))
  (l_T_change : K.lookup T_change = some oT_change)
  (w_T_change : tupOk ((duesOf (VasedBase.word "change")).map fun d => V.str (dueS d)) oT_change = true)
  (d_swap : PySem.W.nsIn K DA "swap" = some (some (.ref T_swap)))
  (l_T_swap : K.lookup T_swap = some oT_swap)
  (w_T_swap : tupOk ((duesOf (VasedBase.word "swap")).map fun d => V.str (dueS d)) oT_swap = true)
  (d_first : PySem.W.nsIn K DA "first" = some (some (.ref T_first)))
  (l_T_first : K.lookup T_first = some oT_first)
  (w_T_first : tupOk ((duesOf (VasedBase.word "first")).map fun d => V.str (dueS d)) oT_first = true)
  (d_keep : PySem.W.nsIn K DA "keep" = some (some (.ref T_keep)))
  (l_T_keep : K.lookup T_keep = some oT_keep)
  (w_T_keep : tupOk ((duesOf (VasedBase.word "keep")).map fun d => V.str (dueS d)) oT_keep = true)
  (d_bring : PySem.W.nsIn K DA "bring" = some (some (.ref T_bring)))
  (l_T_bring : K.lookup T_bring = some oT_bring)
  (w_T_bring : tupOk ((duesOf (VasedBase.word "bring")).map fun d => V.str (dueS d)) oT_bring = true)
  (d_trade : PySem.W.nsIn K DA "trade" = some (some (.ref T_trade)))
  (l_T_trade : K.lookup T_trade = some oT_trade)
  (w_T_trade : tupOk ((duesOf (VasedBase.word "trade")).map fun d => V.str (dueS d)) oT_trade = true)
  (d_skip : PySem.W.nsIn K DA "skip" = some (some (.ref T_skip)))
  (l_T_skip : K.lookup T_skip = some oT_skip)
  (w_T_skip : tupOk ((duesOf (VasedBase.word "skip")).map fun d => V.str (dueS d)) oT_skip = true)
  (d_stop : PySem.W.nsIn K DA "stop" = some (some (.ref T_stop)))
  (l_T_stop : K.lookup T_stop = some oT_stop)
  (w_T_stop : tupOk ((duesOf (VasedBase.word "stop")).map fun d => V.str (dueS d)) oT_stop = true)
  (nRC : CR ≠ CC)
  (no_len : PySem.W.nsIn K mainGlobals "len" = some none)
  (no_all : PySem.W.nsIn K mainGlobals "all" = some none)
  (no_enumerate : PySem.W.nsIn K mainGlobals "enumerate" = some none)
  (no_list : PySem.W.nsIn K mainGlobals "list" = some none)
  (no_tuple : PySem.W.nsIn K mainGlobals "tuple" = some none)
  (no_sum : PySem.W.nsIn K mainGlobals "sum" = some none)
  (no_max : PySem.W.nsIn K mainGlobals "max" = some none)
  (no_range : PySem.W.nsIn K mainGlobals "range" = some none)
  (no_zip : PySem.W.nsIn K mainGlobals "zip" = some none)
  (no_ord : PySem.W.nsIn K mainGlobals "ord" = some none) :
  ∃ fd : FuncData, (∀ (s : Shared) (us : List Value), us.length = (["calls"] : List Str).length → BindsTo s fd ⟨us, []⟩ (((["calls"] : List Str)).zip us)) ∧ ∀ base : Heap, K.In base → base.Ns mainGlobals mg → FnOk P w K mg base CX0 12 fa fd ["calls"] (spAnswers K) := by
  have efa := hfa.symm.trans (PySem.W.mg_of X G a_answers)
  cases efa
  have F_is_letter := fun_mk (st := sIsLetter) l_is_letter c_is_letter k_is_letter
  have b_is_letter := F_is_letter.binds (ps := ["byte"]) fun _ _ _ _ _ _ us hl => match us, hl with | [_], _ => rfl
  have g_is_letter := PySem.W.mg_of X G a_is_letter
  have F_letters_of := fun_mk (st := sLettersOf) l_letters_of c_letters_of k_letters_of
  have b_letters_of := F_letters_of.binds (ps := ["row"]) fun _ _ _ _ _ _ us hl => match us, hl with | [_], _ => rfl
  have g_letters_of := PySem.W.mg_of X G a_letters_of
  have F_bytes_of := fun_mk (st := sBytesOf) l_bytes_of c_bytes_of k_bytes_of
  have b_bytes_of := F_bytes_of.binds (ps := ["letters"]) fun _ _ _ _ _ _ us hl => match us, hl with | [_], _ => rfl
  have g_bytes_of := PySem.W.mg_of X G a_bytes_of
  have F_lines_of := fun_mk (st := sLinesOf) l_lines_of c_lines_of k_lines_of
  have b_lines_of := F_lines_of.binds (ps := ["row"]) fun _ _ _ _ _ _ us hl => match us, hl with | [_], _ => rfl
  have g_lines_of := PySem.W.mg_of X G a_lines_of
  have F_letters_told := fun_mk (st := sLineOf) l_letters_told c_letters_told k_letters_told
  have b_letters_told := F_letters_told.binds (ps := ["row"]) fun _ _ _ _ _ _ us hl => match us, hl with | [_], _ => rfl
  have g_letters_told := PySem.W.mg_of X G a_letters_told
  have F_told_as_bytes := fun_mk (st := sTold) l_told_as_bytes c_told_as_bytes k_told_as_bytes
  have b_told_as_bytes := F_told_as_bytes.binds (ps := ["lines"]) fun _ _ _ _ _ _ us hl => match us, hl with | [_], _ => rfl
  have g_told_as_bytes := PySem.W.mg_of X G a_told_as_bytes
  have F_run := fun_mk (st := sRun) l_run c_run k_run
  have b_run := F_run.binds (ps := ["commands", "lines"]) fun _ _ _ _ _ _ us hl => match us, hl with | [_, _], _ => rfl
  have g_run := PySem.W.mg_of X G a_run
  have F_result_of := fun_mk (st := sResult) l_result_of c_result_of k_result_of
  have b_result_of := F_result_of.binds (ps := ["passages"]) fun _ _ _ _ _ _ us hl => match us, hl with | [_], _ => rfl
  have g_result_of := PySem.W.mg_of X G a_result_of
  have F_outcome_of := fun_mk (st := sOut) l_outcome_of c_outcome_of k_outcome_of
  have b_outcome_of := F_outcome_of.binds (ps := ["commands", "lines"]) fun _ _ _ _ _ _ us hl => match us, hl with | [_, _], _ => rfl
  have g_outcome_of := PySem.W.mg_of X G a_outcome_of
  have F_go_through := fun_mk (st := sGo) l_go_through c_go_through k_go_through
  have b_go_through := F_go_through.binds (ps := ["commands", "passage", "last"]) fun _ _ _ _ _ _ us hl => match us, hl with | [_, _, _], _ => rfl
  have g_go_through := PySem.W.mg_of X G a_go_through
  have F_holds := fun_mk (st := sHolds) l_holds c_holds k_holds
  have b_holds := F_holds.binds (ps := ["address", "passage", "last"]) fun _ _ _ _ _ _ us hl => match us, hl with | [_, _, _], _ => rfl
  have g_holds := PySem.W.mg_of X G a_holds
  have F_do := fun_mk (st := sDo) l_do c_do k_do
  have b_do := F_do.binds (ps := ["deed", "passage"]) fun _ _ _ _ _ _ us hl => match us, hl with | [_, _], _ => rfl
  have g_do := PySem.W.mg_of X G a_do
  have F_not_too_long := fun_mk (st := sNotLong) l_not_too_long c_not_too_long k_not_too_long
  have b_not_too_long := F_not_too_long.binds (ps := ["line"]) fun _ _ _ _ _ _ us hl => match us, hl with | [_], _ => rfl
  have g_not_too_long := PySem.W.mg_of X G a_not_too_long
  have F_tokens_of := fun_mk (st := sTokensOf) l_tokens_of c_tokens_of k_tokens_of
  have b_tokens_of := F_tokens_of.binds (ps := ["script"]) fun _ _ _ _ _ _ us hl => match us, hl with | [_], _ => rfl
  have g_tokens_of := PySem.W.mg_of X G a_tokens_of
  have F_behind_blanks := fun_mk (st := sBlanks) l_behind_blanks c_behind_blanks k_behind_blanks
  have b_behind_blanks := F_behind_blanks.binds (ps := ["script", "place"]) fun _ _ _ _ _ _ us hl => match us, hl with | [_, _], _ => rfl
  have g_behind_blanks := PySem.W.mg_of X G a_behind_blanks
  have F_token_at := fun_mk (st := sTokenAt) l_token_at c_token_at k_token_at
  have b_token_at := F_token_at.binds (ps := ["script", "place"]) fun _ _ _ _ _ _ us hl => match us, hl with | [_, _], _ => rfl
  have g_token_at := PySem.W.mg_of X G a_token_at
  have F_is_digit := fun_mk (st := sIsDigit) l_is_digit c_is_digit k_is_digit
  have b_is_digit := F_is_digit.binds (ps := ["byte"]) fun _ _ _ _ _ _ us hl => match us, hl with | [_], _ => rfl
  have g_is_digit := PySem.W.mg_of X G a_is_digit
  have F_behind_all := fun_mk (st := sBehindAll) l_behind_all c_behind_all k_behind_all
  have b_behind_all := F_behind_all.binds (ps := ["script", "place", "belongs"]) fun _ _ _ _ _ _ us hl => match us, hl with | [_, _, _], _ => rfl
  have g_behind_all := PySem.W.mg_of X G a_behind_all
  have F_word_at := fun_mk (st := sWordAt) l_word_at c_word_at k_word_at
  have b_word_at := F_word_at.binds (ps := ["script", "place"]) fun _ _ _ _ _ _ us hl => match us, hl with | [_, _], _ => rfl
  have g_word_at := PySem.W.mg_of X G a_word_at
  have F_number_at := fun_mk (st := sNumberAt) l_number_at c_number_at k_number_at
  have b_number_at := F_number_at.binds (ps := ["script", "place"]) fun _ _ _ _ _ _ us hl => match us, hl with | [_, _], _ => rfl
  have g_number_at := PySem.W.mg_of X G a_number_at
  have F_commands_of := fun_mk (st := sCommands) l_commands_of c_commands_of k_commands_of
  have b_commands_of := F_commands_of.binds (ps := ["script"]) fun _ _ _ _ _ _ us hl => match us, hl with | [_], _ => rfl
  have g_commands_of := PySem.W.mg_of X G a_commands_of
  have F_read_command := fun_mk (st := sCommand) l_read_command c_read_command k_read_command
  have b_read_command := F_read_command.binds (ps := ["reader"]) fun _ _ _ _ _ _ us hl => match us, hl with | [_], _ => rfl
  have g_read_command := PySem.W.mg_of X G a_read_command
  have F_read_nots := fun_mk (st := sNots) l_read_nots c_read_nots k_read_nots
  have b_read_nots := F_read_nots.binds (ps := ["reader"]) fun _ _ _ _ _ _ us hl => match us, hl with | [_], _ => rfl
  have g_read_nots := PySem.W.mg_of X G a_read_nots
  have F_read_address := fun_mk (st := sAddr) l_read_address c_read_address k_read_address
  have b_read_address := F_read_address.binds (ps := ["reader"]) fun _ _ _ _ _ _ us hl => match us, hl with | [_], _ => rfl
  have g_read_address := PySem.W.mg_of X G a_read_address
  have F_read_deed := fun_mk (st := sDeed) l_read_deed c_read_deed k_read_deed
  have b_read_deed := F_read_deed.binds (ps := ["reader"]) fun _ _ _ _ _ _ us hl => match us, hl with | [_], _ => rfl
  have g_read_deed := PySem.W.mg_of X G a_read_deed
  have F_read_due := fun_mk (st := sDue) l_read_due c_read_due k_read_due
  have b_read_due := F_read_due.binds (ps := ["reader", "due"]) fun _ _ _ _ _ _ us hl => match us, hl with | [_, _], _ => rfl
  have g_read_due := PySem.W.mg_of X G a_read_due
  have F_patch_cost := fun_mk (st := sCost) l_patch_cost c_patch_cost k_patch_cost
  have b_patch_cost := F_patch_cost.binds (ps := ["first", "second"]) fun _ _ _ _ _ _ us hl => match us, hl with | [_, _], _ => rfl
  have g_patch_cost := PySem.W.mg_of X G a_patch_cost
  have F_how_many_in_common := fun_mk (st := sCommon) l_how_many_in_common c_how_many_in_common k_how_many_in_common
  have b_how_many_in_common := F_how_many_in_common.binds (ps := ["first", "second"]) fun _ _ _ _ _ _ us hl => match us, hl with | [_, _], _ => rfl
  have g_how_many_in_common := PySem.W.mg_of X G a_how_many_in_common
  have F_first_version := fun_mk (st := sFirstVer) l_first_version c_first_version k_first_version
  have b_first_version := F_first_version.binds (ps := ["lines"]) fun _ _ _ _ _ _ us hl => match us, hl with | [_], _ => rfl
  have g_first_version := PySem.W.mg_of X G a_first_version
  have F_version_behind := fun_mk (st := sVerBehind) l_version_behind c_version_behind k_version_behind
  have b_version_behind := F_version_behind.binds (ps := ["version", "passages", "step"]) fun _ _ _ _ _ _ us hl => match us, hl with | [_, _, _], _ => rfl
  have g_version_behind := PySem.W.mg_of X G a_version_behind
  have F_origins_coming := fun_mk (st := sOrgs) l_origins_coming c_origins_coming k_origins_coming
  have b_origins_coming := F_origins_coming.binds (ps := ["passage", "origin", "step"]) fun _ _ _ _ _ _ us hl => match us, hl with | [_, _, _], _ => rfl
  have g_origins_coming := PySem.W.mg_of X G a_origins_coming
  have F_effect_of := fun_mk (st := sEffect) l_effect_of c_effect_of k_effect_of
  have b_effect_of := F_effect_of.binds (ps := ["passages"]) fun _ _ _ _ _ _ us hl => match us, hl with | [_], _ => rfl
  have g_effect_of := PySem.W.mg_of X G a_effect_of
  have F_is_guarded := fun_mk (st := sIsG) l_is_guarded c_is_guarded k_is_guarded
  have b_is_guarded := F_is_guarded.binds (ps := ["line", "guarded"]) fun _ _ _ _ _ _ us hl => match us, hl with | [_, _], _ => rfl
  have g_is_guarded := PySem.W.mg_of X G a_is_guarded
  have F_first_harmed := fun_mk (st := sHarmed) l_first_harmed c_first_harmed k_first_harmed
  have b_first_harmed := F_first_harmed.binds (ps := ["passages", "guarded"]) fun _ _ _ _ _ _ us hl => match us, hl with | [_, _], _ => rfl
  have g_first_harmed := PySem.W.mg_of X G a_first_harmed
  have F_answers := fun_mk (st := sAnswers) l_answers c_answers k_answers
  have b_answers := F_answers.binds (ps := ["calls"]) fun _ _ _ _ _ _ us hl => match us, hl with | [_], _ => rfl
  have g_answers := PySem.W.mg_of X G a_answers
  have F_answer_or_refusal := fun_mk (st := sAr) l_answer_or_refusal c_answer_or_refusal k_answer_or_refusal
  have b_answer_or_refusal := F_answer_or_refusal.binds (ps := ["session", "call", "rows"]) fun _ _ _ _ _ _ us hl => match us, hl with | [_, _, _], _ => rfl
  have g_answer_or_refusal := PySem.W.mg_of X G a_answer_or_refusal
  have F_answer_of := fun_mk (st := sAo) l_answer_of c_answer_of k_answer_of
  have b_answer_of := F_answer_of.binds (ps := ["session", "call", "rows"]) fun _ _ _ _ _ _ us hl => match us, hl with | [_, _, _], _ => rfl
  have g_answer_of := PySem.W.mg_of X G a_answer_of
  have cl_CT : Cls K CT := ⟨pg_CT, hd_CT, po_CT, sa_CT⟩
  have gc_CT := PySem.W.mg_of X G n_CT
  have F_CT___init__ := fun_mk (st := sTokInit) l_CT___init__ c_CT___init__ k_CT___init__
  have b_CT___init__ := F_CT___init__.binds (ps := ["self", "kind", "value", "place", "behind"]) fun _ _ _ _ _ _ us hl => match us, hl with | [_, _, _, _, _], _ => rfl
  have M_CT : Mk K CT f_CT___init__ := ⟨mk_CT, a_CT___init__, i_CT___init__, kc_CT⟩
  have cl_CR : Cls K CR := ⟨pg_CR, hd_CR, po_CR, sa_CR⟩
  have gc_CR := PySem.W.mg_of X G n_CR
  have F_CR___init__ := fun_mk (st := sRdInit) l_CR___init__ c_CR___init__ k_CR___init__
  have b_CR___init__ := F_CR___init__.binds (ps := ["self", "tokens"]) fun _ _ _ _ _ _ us hl => match us, hl with | [_, _], _ => rfl
  have M_CR : Mk K CR f_CR___init__ := ⟨mk_CR, a_CR___init__, i_CR___init__, kc_CR⟩
  have F_CR_here := fun_mk (st := sRdHere) l_CR_here c_CR_here k_CR_here
  have b_CR_here := F_CR_here.binds (ps := ["self"]) fun _ _ _ _ _ _ us hl => match us, hl with | [_], _ => rfl
  have m_CR_here : Meth K CR "here" f_CR_here := ⟨a_CR_here, i_CR_here, k_CR_here⟩
  have F_CR_stands := fun_mk (st := sRdStands) l_CR_stands c_CR_stands k_CR_stands
  have b_CR_stands := F_CR_stands.binds (ps := ["self", "value"]) fun _ _ _ _ _ _ us hl => match us, hl with | [_, _], _ => rfl
  have m_CR_stands : Meth K CR "stands" f_CR_stands := ⟨a_CR_stands, i_CR_stands, k_CR_stands⟩
  have F_CR_refuse := fun_mk (st := sRdRefuse) l_CR_refuse c_CR_refuse k_CR_refuse
  have b_CR_refuse := F_CR_refuse.binds (ps := ["self", "code"]) fun _ _ _ _ _ _ us hl => match us, hl with | [_, _], _ => rfl
  have m_CR_refuse : Meth K CR "refuse" f_CR_refuse := ⟨a_CR_refuse, i_CR_refuse, k_CR_refuse⟩
  have F_CR_take := fun_mk (st := sRdTake) l_CR_take c_CR_take k_CR_take
  have b_CR_take := F_CR_take.binds (ps := ["self"]) fun _ _ _ _ _ _ us hl => match us, hl with | [_], _ => rfl
  have m_CR_take : Meth K CR "take" f_CR_take := ⟨a_CR_take, i_CR_take, k_CR_take⟩
  have F_CR_take_own := fun_mk (st := sRdOwn) l_CR_take_own c_CR_take_own k_CR_take_own
  have b_CR_take_own := F_CR_take_own.binds (ps := ["self", "value"]) fun _ _ _ _ _ _ us hl => match us, hl with | [_, _], _ => rfl
  have m_CR_take_own : Meth K CR "take_own" f_CR_take_own := ⟨a_CR_take_own, i_CR_take_own, k_CR_take_own⟩
  have F_CR_take_one_of := fun_mk (st := sRdOne) l_CR_take_one_of c_CR_take_one_of k_CR_take_one_of
  have b_CR_take_one_of := F_CR_take_one_of.binds (ps := ["self", "choices"]) fun _ _ _ _ _ _ us hl => match us, hl with | [_, _], _ => rfl
  have m_CR_take_one_of : Meth K CR "take_one_of" f_CR_take_one_of := ⟨a_CR_take_one_of, i_CR_take_one_of, k_CR_take_one_of⟩
  have F_CR_take_letters := fun_mk (st := sRdLetters) l_CR_take_letters c_CR_take_letters k_CR_take_letters
  have b_CR_take_letters := F_CR_take_letters.binds (ps := ["self"]) fun _ _ _ _ _ _ us hl => match us, hl with | [_], _ => rfl
  have m_CR_take_letters : Meth K CR "take_letters" f_CR_take_letters := ⟨a_CR_take_letters, i_CR_take_letters, k_CR_take_letters⟩
  have F_CR_take_number := fun_mk (st := sRdNumber) l_CR_take_number c_CR_take_number k_CR_take_number
  have b_CR_take_number := F_CR_take_number.binds (ps := ["self", "least", "greatest"]) fun _ _ _ _ _ _ us hl => match us, hl with | [_, _, _], _ => rfl
  have m_CR_take_number : Meth K CR "take_number" f_CR_take_number := ⟨a_CR_take_number, i_CR_take_number, k_CR_take_number⟩
  have cl_CC : Cls K CC := ⟨pg_CC, hd_CC, po_CC, sa_CC⟩
  have gc_CC := PySem.W.mg_of X G n_CC
  have F_CC___init__ := fun_mk (st := sCmdInit) l_CC___init__ c_CC___init__ k_CC___init__
  have b_CC___init__ := F_CC___init__.binds (ps := ["self", "wanted", "address", "deed"]) fun _ _ _ _ _ _ us hl => match us, hl with | [_, _, _, _], _ => rfl
  have M_CC : Mk K CC f_CC___init__ := ⟨mk_CC, a_CC___init__, i_CC___init__, kc_CC⟩
  have cl_CP : Cls K CP := ⟨pg_CP, hd_CP, po_CP, sa_CP⟩
  have gc_CP := PySem.W.mg_of X G n_CP
  have F_CP___init__ := fun_mk (st := sPassInit) l_CP___init__ c_CP___init__ k_CP___init__
  have b_CP___init__ := F_CP___init__.binds (ps := ["self", "number", "found", "held"]) fun _ _ _ _ _ _ us hl => match us, hl with | [_, _, _, _], _ => rfl
  have M_CP : Mk K CP f_CP___init__ := ⟨mk_CP, a_CP___init__, i_CP___init__, kc_CP⟩
  have F_CP_is_as_found := fun_mk (st := sAsFound) l_CP_is_as_found c_CP_is_as_found k_CP_is_as_found
  have b_CP_is_as_found := F_CP_is_as_found.binds (ps := ["self"]) fun _ _ _ _ _ _ us hl => match us, hl with | [_], _ => rfl
  have m_CP_is_as_found : Meth K CP "is_as_found" f_CP_is_as_found := ⟨a_CP_is_as_found, i_CP_is_as_found, k_CP_is_as_found⟩
  have F_CP_is_changed := fun_mk (st := sChanged) l_CP_is_changed c_CP_is_changed k_CP_is_changed
  have b_CP_is_changed := F_CP_is_changed.binds (ps := ["self"]) fun _ _ _ _ _ _ us hl => match us, hl with | [_], _ => rfl
  have m_CP_is_changed : Meth K CP "is_changed" f_CP_is_changed := ⟨a_CP_is_changed, i_CP_is_changed, k_CP_is_changed⟩
  have F_CP_lines_coming := fun_mk (st := sComing) l_CP_lines_coming c_CP_lines_coming k_CP_lines_coming
  have b_CP_lines_coming := F_CP_lines_coming.binds (ps := ["self"]) fun _ _ _ _ _ _ us hl => match us, hl with | [_], _ => rfl
  have m_CP_lines_coming : Meth K CP "lines_coming" f_CP_lines_coming := ⟨a_CP_lines_coming, i_CP_lines_coming, k_CP_lines_coming⟩
  have cl_CV : Cls K CV := ⟨pg_CV, hd_CV, po_CV, sa_CV⟩
  have gc_CV := PySem.W.mg_of X G n_CV
  have F_CV___init__ := fun_mk (st := sVerInit) l_CV___init__ c_CV___init__ k_CV___init__
  have b_CV___init__ := F_CV___init__.binds (ps := ["self", "lines", "origins"]) fun _ _ _ _ _ _ us hl => match us, hl with | [_, _, _], _ => rfl
  have M_CV : Mk K CV f_CV___init__ := ⟨mk_CV, a_CV___init__, i_CV___init__, kc_CV⟩
  have cl_CS : Cls K CS := ⟨pg_CS, hd_CS, po_CS, sa_CS⟩
  have gc_CS := PySem.W.mg_of X G n_CS
  have F_CS___init__ := fun_mk (st := sSesInit) l_CS___init__ c_CS___init__ k_CS___init__
  have b_CS___init__ := F_CS___init__.binds (ps := ["self"]) fun _ _ _ _ _ _ us hl => match us, hl with | [_], _ => rfl
  have M_CS : Mk K CS f_CS___init__ := ⟨mk_CS, a_CS___init__, i_CS___init__, kc_CS⟩
  have F_CS_has_text := fun_mk (st := sHas) l_CS_has_text c_CS_has_text k_CS_has_text
  have b_CS_has_text := F_CS_has_text.binds (ps := ["self"]) fun _ _ _ _ _ _ us hl => match us, hl with | [_], _ => rfl
  have m_CS_has_text : Meth K CS "has_text" f_CS_has_text := ⟨a_CS_has_text, i_CS_has_text, k_CS_has_text⟩
  have F_CS_now := fun_mk (st := sNow) l_CS_now c_CS_now k_CS_now
  have b_CS_now := F_CS_now.binds (ps := ["self"]) fun _ _ _ _ _ _ us hl => match us, hl with | [_], _ => rfl
  have m_CS_now : Meth K CS "now" f_CS_now := ⟨a_CS_now, i_CS_now, k_CS_now⟩
  have F_CS_how_many_steps := fun_mk (st := sSteps) l_CS_how_many_steps c_CS_how_many_steps k_CS_how_many_steps
  have b_CS_how_many_steps := F_CS_how_many_steps.binds (ps := ["self"]) fun _ _ _ _ _ _ us hl => match us, hl with | [_], _ => rfl
  have m_CS_how_many_steps : Meth K CS "how_many_steps" f_CS_how_many_steps := ⟨a_CS_how_many_steps, i_CS_how_many_steps, k_CS_how_many_steps⟩
  have F_CS_load := fun_mk (st := sLoad) l_CS_load c_CS_load k_CS_load
  have b_CS_load := F_CS_load.binds (ps := ["self", "row"]) fun _ _ _ _ _ _ us hl => match us, hl with | [_, _], _ => rfl
  have m_CS_load : Meth K CS "load" f_CS_load := ⟨a_CS_load, i_CS_load, k_CS_load⟩
  have F_CS_apply := fun_mk (st := sApply) l_CS_apply c_CS_apply k_CS_apply
  have b_CS_apply := F_CS_apply.binds (ps := ["self", "script"]) fun _ _ _ _ _ _ us hl => match us, hl with | [_, _], _ => rfl
  have m_CS_apply : Meth K CS "apply" f_CS_apply := ⟨a_CS_apply, i_CS_apply, k_CS_apply⟩
  have F_CS_dry := fun_mk (st := sDry) l_CS_dry c_CS_dry k_CS_dry
  have b_CS_dry := F_CS_dry.binds (ps := ["self", "script"]) fun _ _ _ _ _ _ us hl => match us, hl with | [_, _], _ => rfl
  have m_CS_dry : Meth K CS "dry" f_CS_dry := ⟨a_CS_dry, i_CS_dry, k_CS_dry⟩
  have F_CS_attempt := fun_mk (st := sAttempt) l_CS_attempt c_CS_attempt k_CS_attempt
  have b_CS_attempt := F_CS_attempt.binds (ps := ["self", "commands"]) fun _ _ _ _ _ _ us hl => match us, hl with | [_, _], _ => rfl
  have m_CS_attempt : Meth K CS "attempt" f_CS_attempt := ⟨a_CS_attempt, i_CS_attempt, k_CS_attempt⟩
  have F_CS_undo := fun_mk (st := sUndo) l_CS_undo c_CS_undo k_CS_undo
  have b_CS_undo := F_CS_undo.binds (ps := ["self"]) fun _ _ _ _ _ _ us hl => match us, hl with | [_], _ => rfl
  have m_CS_undo : Meth K CS "undo" f_CS_undo := ⟨a_CS_undo, i_CS_undo, k_CS_undo⟩
  have F_CS_redo := fun_mk (st := sRedo) l_CS_redo c_CS_redo k_CS_redo
  have b_CS_redo := F_CS_redo.binds (ps := ["self"]) fun _ _ _ _ _ _ us hl => match us, hl with | [_], _ => rfl
  have m_CS_redo : Meth K CS "redo" f_CS_redo := ⟨a_CS_redo, i_CS_redo, k_CS_redo⟩
  have F_CS_where_it_stands := fun_mk (st := sWhere) l_CS_where_it_stands c_CS_where_it_stands k_CS_where_it_stands
  have b_CS_where_it_stands := F_CS_where_it_stands.binds (ps := ["self"]) fun _ _ _ _ _ _ us hl => match us, hl with | [_], _ => rfl
  have m_CS_where_it_stands : Meth K CS "where_it_stands" f_CS_where_it_stands := ⟨a_CS_where_it_stands, i_CS_where_it_stands, k_CS_where_it_stands⟩
  have F_CS_shown := fun_mk (st := sShown) l_CS_shown c_CS_shown k_CS_shown
  have b_CS_shown := F_CS_shown.binds (ps := ["self"]) fun _ _ _ _ _ _ us hl => match us, hl with | [_], _ => rfl
  have m_CS_shown : Meth K CS "shown" f_CS_shown := ⟨a_CS_shown, i_CS_shown, k_CS_shown⟩
  have F_CS_origins_now := fun_mk (st := sOrigins) l_CS_origins_now c_CS_origins_now k_CS_origins_now
  have b_CS_origins_now := F_CS_origins_now.binds (ps := ["self"]) fun _ _ _ _ _ _ us hl => match us, hl with | [_], _ => rfl
  have m_CS_origins_now : Meth K CS "origins_now" f_CS_origins_now := ⟨a_CS_origins_now, i_CS_origins_now, k_CS_origins_now⟩
  have F_CS_same := fun_mk (st := sSame) l_CS_same c_CS_same k_CS_same
  have b_CS_same := F_CS_same.binds (ps := ["self", "a", "b"]) fun _ _ _ _ _ _ us hl => match us, hl with | [_, _, _], _ => rfl
  have m_CS_same : Meth K CS "same" f_CS_same := ⟨a_CS_same, i_CS_same, k_CS_same⟩
  have F_CS_guard := fun_mk (st := sGuard) l_CS_guard c_CS_guard k_CS_guard
  have b_CS_guard := F_CS_guard.binds (ps := ["self", "row"]) fun _ _ _ _ _ _ us hl => match us, hl with | [_, _], _ => rfl
  have m_CS_guard : Meth K CS "guard" f_CS_guard := ⟨a_CS_guard, i_CS_guard, k_CS_guard⟩
  have F_CS_history := fun_mk (st := sHistory) l_CS_history c_CS_history k_CS_history
  have b_CS_history := F_CS_history.binds (ps := ["self"]) fun _ _ _ _ _ _ us hl => match us, hl with | [_], _ => rfl
  have m_CS_history : Meth K CS "history" f_CS_history := ⟨a_CS_history, i_CS_history, k_CS_history⟩
  have cl_CTr : Cls K CTr := ⟨pg_CTr, hd_CTr, po_CTr, sa_CTr⟩
  have gc_CTr := PySem.W.mg_of X G n_CTr
  have F_CTr___init__ := fun_mk (st := sTriInit) l_CTr___init__ c_CTr___init__ k_CTr___init__
  have b_CTr___init__ := F_CTr___init__.binds (ps := ["self", "version", "effect", "harmed"]) fun _ _ _ _ _ _ us hl => match us, hl with | [_, _, _, _], _ => rfl
  have M_CTr : Mk K CTr f_CTr___init__ := ⟨mk_CTr, a_CTr___init__, i_CTr___init__, kc_CTr⟩
  have ER_NT : ErrT K mg "NoText" NT := ⟨PySem.W.mg_of X G n_NT, e_NT, kc_NT, sb_NT, ty_NT⟩
  have ER_NS : ErrT K mg "NoStepLeft" NS := ⟨PySem.W.mg_of X G n_NS, e_NS, kc_NS, sb_NS, ty_NS⟩
  have ER_NR : ErrT K mg "NotToldRightly" NR := ⟨PySem.W.mg_of X G n_NR, e_NR, kc_NR, sb_NR, ty_NR⟩
  have ER_RM : ErrT K mg "NoRoomForStep" RM := ⟨PySem.W.mg_of X G n_RM, e_RM, kc_RM, sb_RM, ty_RM⟩
  have ER_TM : ErrT K mg "TooMuch" TM := ⟨PySem.W.mg_of X G n_TM, e_TM, kc_TM, sb_TM, ty_TM⟩
  have ER_HG : ErrT K mg "HarmsGuarded" HG := ⟨PySem.W.mg_of X G n_HG, e_HG, kc_HG, sb_HG, ty_HG⟩
  have F_CF___init__ := fun_mk (st := sFltInit) l_CF___init__ c_CF___init__ k_CF___init__
  have b_CF___init__ := F_CF___init__.binds (ps := ["self", "code", "place"]) fun _ _ _ _ _ _ us hl => match us, hl with | [_, _, _], _ => rfl
  have FT : FltT K mg CF := ⟨⟨⟨_, _, _, _, _, _, _, _, _, _, _, _, _, _, l_CF⟩, sa_CF, sb_CF, ty_CF, kc_CF⟩, PySem.W.mg_of X G n_CF, x_CF_code, x_CF_place, ⟨ga_CF, gg_CF, sb_CF, hd_CF⟩, _, _, F_CF___init__, a_CF___init__, t_CF_init, b_CF___init__⟩
  have XT : ExTab K CF NT NS NR RM TM HG := ⟨exm_sub sb_CF ic_CF ty_CF su_00, exm_sub sb_CF ic_CF ty_CF su_10, exm_sub sb_NT ic_NT ty_NT su_11, exm_sub sb_CF ic_CF ty_CF su_20, exm_sub sb_NT ic_NT ty_NT su_21, exm_sub sb_NS ic_NS ty_NS su_22, exm_sub sb_CF ic_CF ty_CF su_30, exm_sub sb_NT ic_NT ty_NT su_31, exm_sub sb_NS ic_NS ty_NS su_32, exm_sub sb_NR ic_NR ty_NR su_33, exm_sub sb_CF ic_CF ty_CF su_40, exm_sub sb_NT ic_NT ty_NT su_41, exm_sub sb_NS ic_NS ty_NS su_42, exm_sub sb_NR ic_NR ty_NR su_43, exm_sub sb_RM ic_RM ty_RM su_44, exm_sub sb_CF ic_CF ty_CF su_50, exm_sub sb_NT ic_NT ty_NT su_51, exm_sub sb_NS ic_NS ty_NS su_52, exm_sub sb_NR ic_NR ty_NR su_53, exm_sub sb_RM ic_RM ty_RM su_54, exm_sub sb_TM ic_TM ty_TM su_55, exm_sub sb_CF ic_CF ty_CF su_60, exm_sub sb_NT ic_NT ty_NT su_61, exm_sub sb_NS ic_NS ty_NS su_62, exm_sub sb_NR ic_NR ty_NR su_63, exm_sub sb_RM ic_RM ty_RM su_64, exm_sub sb_TM ic_TM ty_TM su_65, exm_sub sb_HG ic_HG ty_HG su_66⟩
  have c_BYTE_OF_A : Gc mg "BYTE_OF_A" (.int 97) := ⟨_, PySem.W.mg_of X G v_BYTE_OF_A, _, rfl⟩
  have c_LINE_FEED : Gc mg "LINE_FEED" (.int 10) := ⟨_, PySem.W.mg_of X G v_LINE_FEED, _, rfl⟩
  have c_DIGIT_ZERO : Gc mg "DIGIT_ZERO" (.int 48) := ⟨_, PySem.W.mg_of X G v_DIGIT_ZERO, _, rfl⟩
  have c_DIGIT_NINE : Gc mg "DIGIT_NINE" (.int 57) := ⟨_, PySem.W.mg_of X G v_DIGIT_NINE, _, rfl⟩
  have c_REMARK : Gc mg "REMARK" (.int 35) := ⟨_, PySem.W.mg_of X G v_REMARK, _, rfl⟩
  have c_BLANK : Gc mg "BLANK" (.int 32) := ⟨_, PySem.W.mg_of X G v_BLANK, _, rfl⟩
  have c_TAB : Gc mg "TAB" (.int 9) := ⟨_, PySem.W.mg_of X G v_TAB, _, rfl⟩
  have c_SEMICOLON : Gc mg "SEMICOLON" (.int 59) := ⟨_, PySem.W.mg_of X G v_SEMICOLON, _, rfl⟩
  have c_MOST_LETTERS_tokens : Gc mg "MOST_LETTERS_tokens" (.int 8) := ⟨_, PySem.W.mg_of X G v_MOST_LETTERS_tokens, _, rfl⟩
  have c_MOST_DIGITS : Gc mg "MOST_DIGITS" (.int 10) := ⟨_, PySem.W.mg_of X G v_MOST_DIGITS, _, rfl⟩
  have c_GREATEST_NUMBER : Gc mg "GREATEST_NUMBER" (.int 1000000000) := ⟨_, PySem.W.mg_of X G v_GREATEST_NUMBER, _, rfl⟩
  have c_NO_TOKEN : Gc mg "NO_TOKEN" (.int 2) := ⟨_, PySem.W.mg_of X G v_NO_TOKEN, _, rfl⟩
  have c_NOT_ALLOWED : Gc mg "NOT_ALLOWED" (.int 3) := ⟨_, PySem.W.mg_of X G v_NOT_ALLOWED, _, rfl⟩
  have c_OUT_OF_BOUNDS : Gc mg "OUT_OF_BOUNDS" (.int 7) := ⟨_, PySem.W.mg_of X G v_OUT_OF_BOUNDS, _, rfl⟩
  have c_MOST_NOTS : Gc mg "MOST_NOTS" (.int 3) := ⟨_, PySem.W.mg_of X G v_MOST_NOTS, _, rfl⟩
  have c_TOO_MANY : Gc mg "TOO_MANY" (.int 4) := ⟨_, PySem.W.mg_of X G v_TOO_MANY, _, rfl⟩
  have c_GREATEST_LINE : Gc mg "GREATEST_LINE" (.int 99) := ⟨_, PySem.W.mg_of X G v_GREATEST_LINE, _, rfl⟩
  have c_GREATEST_SKIP : Gc mg "GREATEST_SKIP" (.int 9) := ⟨_, PySem.W.mg_of X G v_GREATEST_SKIP, _, rfl⟩
  have c_MOST_BYTES : Gc mg "MOST_BYTES" (.int 4096) := ⟨_, PySem.W.mg_of X G v_MOST_BYTES, _, rfl⟩
  have c_MOST_COMMANDS : Gc mg "MOST_COMMANDS" (.int 16) := ⟨_, PySem.W.mg_of X G v_MOST_COMMANDS, _, rfl⟩
  have c_TOO_LONG : Gc mg "TOO_LONG" (.int 1) := ⟨_, PySem.W.mg_of X G v_TOO_LONG, _, rfl⟩
  have c_MOST_LETTERS_texts : Gc mg "MOST_LETTERS_texts" (.int 16) := ⟨_, PySem.W.mg_of X G v_MOST_LETTERS_texts, _, rfl⟩
  have c_MOST_LINES : Gc mg "MOST_LINES" (.int 24) := ⟨_, PySem.W.mg_of X G v_MOST_LINES, _, rfl⟩
  have c_MOST_LINES_COMING : Gc mg "MOST_LINES_COMING" (.int 60) := ⟨_, PySem.W.mg_of X G v_MOST_LINES_COMING, _, rfl⟩
  have c_MOST_STEPS : Gc mg "MOST_STEPS" (.int 20) := ⟨_, PySem.W.mg_of X G v_MOST_STEPS, _, rfl⟩
  have c_LOAD : Gc mg "LOAD" (.int 0) := ⟨_, PySem.W.mg_of X G v_LOAD, _, rfl⟩
  have c_APPLY : Gc mg "APPLY" (.int 1) := ⟨_, PySem.W.mg_of X G v_APPLY, _, rfl⟩
  have c_DRY : Gc mg "DRY" (.int 2) := ⟨_, PySem.W.mg_of X G v_DRY, _, rfl⟩
  have c_UNDO : Gc mg "UNDO" (.int 3) := ⟨_, PySem.W.mg_of X G v_UNDO, _, rfl⟩
  have c_REDO : Gc mg "REDO" (.int 4) := ⟨_, PySem.W.mg_of X G v_REDO, _, rfl⟩
  have c_SHOWN : Gc mg "SHOWN" (.int 5) := ⟨_, PySem.W.mg_of X G v_SHOWN, _, rfl⟩
  have c_ORIGINS : Gc mg "ORIGINS" (.int 6) := ⟨_, PySem.W.mg_of X G v_ORIGINS, _, rfl⟩
  have c_SAME : Gc mg "SAME" (.int 7) := ⟨_, PySem.W.mg_of X G v_SAME, _, rfl⟩
  have c_GUARD : Gc mg "GUARD" (.int 8) := ⟨_, PySem.W.mg_of X G v_GUARD, _, rfl⟩
  have c_HISTORY : Gc mg "HISTORY" (.int 9) := ⟨_, PySem.W.mg_of X G v_HISTORY, _, rfl⟩
  have c_ALPHABET : Gc mg "ALPHABET" (.str "abcdefghijklmnopqrstuvwxyz") := ⟨_, PySem.W.mg_of X G v_ALPHABET, _, rfl⟩
  have c_OWN : Gc mg "OWN" (.str "own") := ⟨_, PySem.W.mg_of X G v_OWN, _, rfl⟩
  have c_LETTERS : Gc mg "LETTERS" (.str "letters") := ⟨_, PySem.W.mg_of X G v_LETTERS, _, rfl⟩
  have c_NUMBER : Gc mg "NUMBER" (.str "number") := ⟨_, PySem.W.mg_of X G v_NUMBER, _, rfl⟩
  have c_SIGN : Gc mg "SIGN" (.str ";") := ⟨_, PySem.W.mg_of X G v_SIGN, _, rfl⟩
  have c_END : Gc mg "END" (.str "") := ⟨_, PySem.W.mg_of X G v_END, _, rfl⟩
  have c_LETTERS_OR_NONE : Gc mg "LETTERS_OR_NONE" (.str "letters or none") := ⟨_, PySem.W.mg_of X G v_LETTERS_OR_NONE, _, rfl⟩
  have c_OWN_WORDS : Gc mg "OWN_WORDS" (.ref WO) := ⟨_, PySem.W.mg_of X G v_OWN_WORDS, rfl⟩
  have s_OWN_WORDS := fun H => tup_sq (H := H) l_OWN_WORDS w_OWN_WORDS
  have c_ADDRESSES : Gc mg "ADDRESSES" (.ref AD) := ⟨_, PySem.W.mg_of X G v_ADDRESSES, rfl⟩
  have s_ADDRESSES := fun H => tup_sq (H := H) l_ADDRESSES w_ADDRESSES
  have c_ROWS : Gc mg "ROWS" (.ref RW) := ⟨_, PySem.W.mg_of X G v_ROWS, rfl⟩
  have s_ROWS := fun H => tup_sq (H := H) l_ROWS w_ROWS
  have c_DEEDS : Gc mg "DEEDS" (.ref DA) := ⟨_, PySem.W.mg_of X G v_DEEDS, rfl⟩
  have nm_len := PySem.W.mg_none_of X G no_len
  have nm_all := PySem.W.mg_none_of X G no_all
  have nm_enumerate := PySem.W.mg_none_of X G no_enumerate
  have nm_list := PySem.W.mg_none_of X G no_list
  have nm_tuple := PySem.W.mg_none_of X G no_tuple
  have nm_sum := PySem.W.mg_none_of X G no_sum
  have nm_max := PySem.W.mg_none_of X G no_max
  have nm_range := PySem.W.mg_none_of X G no_range
  have nm_zip := PySem.W.mg_none_of X G no_zip
  have nm_ord := PySem.W.mg_none_of X G no_ord
  have TL : TxtLetters mg := ⟨c_ALPHABET, c_BYTE_OF_A, c_LINE_FEED, c_DIGIT_ZERO, c_DIGIT_NINE, nm_len⟩
  have TB : TxtBlanks mg := ⟨c_LINE_FEED, c_REMARK, c_BLANK, c_TAB, nm_len⟩
  have TT : TxtTok K CT := ⟨cl_CT, x_CT_kind, x_CT_value, x_CT_place, x_CT_behind⟩
  have kD : KKeys K DA (wsD.map fun w => V.str (S w)) := dic_keys l_DEEDS w_DEEDS sm_DA
  have iD : ∀ v ∈ wsD, ∃ T, KDct K w DA (S v) (.ref T) ∧ ∀ H, SqT K H T ((duesOf v).map fun d => V.str (dueS d)) := by
    intro v hv
    simp only [wsD, List.map_cons, List.map_nil, List.mem_cons, List.not_mem_nil, or_false] at hv
    rcases hv with rfl | rfl | rfl | rfl | rfl | rfl | rfl | rfl | rfl | rfl | rfl
    · exact dic_it l_DEEDS h_DEEDS w_DEEDS d_delete (by decide +kernel) l_T_delete w_T_delete
    · exact dic_it l_DEEDS h_DEEDS w_DEEDS d_before (by decide +kernel) l_T_before w_T_before
    · exact dic_it l_DEEDS h_DEEDS w_DEEDS d_after (by decide +kernel) l_T_after w_T_after
    · exact dic_it l_DEEDS h_DEEDS w_DEEDS d_change (by decide +kernel) l_T_change w_T_change
    · exact dic_it l_DEEDS h_DEEDS w_DEEDS d_swap (by decide +kernel) l_T_swap w_T_swap
    · exact dic_it l_DEEDS h_DEEDS w_DEEDS d_first (by decide +kernel) l_T_first w_T_first
    · exact dic_it l_DEEDS h_DEEDS w_DEEDS d_keep (by decide +kernel) l_T_keep w_T_keep
    · exact dic_it l_DEEDS h_DEEDS w_DEEDS d_bring (by decide +kernel) l_T_bring w_T_bring
    · exact dic_it l_DEEDS h_DEEDS w_DEEDS d_trade (by decide +kernel) l_T_trade w_T_trade
    · exact dic_it l_DEEDS h_DEEDS w_DEEDS d_skip (by decide +kernel) l_T_skip w_T_skip
    · exact dic_it l_DEEDS h_DEEDS w_DEEDS d_stop (by decide +kernel) l_T_stop w_T_stop
  refine ⟨PySem.W.fnOf "answers" "answers" (defArgs sAnswers) (defBody sAnswers) (defScope sAnswers) .none kV35 dc35 pm35 an35 cd35 ct35, fun s us hu => match us, hu with | [_], _ => .of_eq rfl, fun base _ _ => ?_⟩
  have D_is_letter := dnm F_is_letter b_is_letter (ok_is_letter (P := P) (w := w) (base := base) F_is_letter TL) g_is_letter
  have D_is_digit := dnm F_is_digit b_is_digit (ok_is_digit (P := P) (w := w) (base := base) F_is_digit TL) g_is_digit
  have G_isl := ok_is_letter (P := P) (w := w) (base := base) F_is_letter TL
  have G_isd := ok_is_digit (P := P) (w := w) (base := base) F_is_digit TL
  have D_baL := dnm F_behind_all b_behind_all (ok_behind_all F_behind_all TL G_isl F_is_letter.kp b_is_letter) g_behind_all
  have D_baD := dnm F_behind_all b_behind_all (ok_behind_all F_behind_all TL G_isd F_is_digit.kp b_is_digit) g_behind_all
  have D_bl := dnm F_behind_blanks b_behind_blanks (ok_blanks (P := P) (w := w) (base := base) F_behind_blanks TB) g_behind_blanks
  have TK : TokK P w K mg base CT := ⟨⟨_, _, M_CT, F_CT___init__, b_CT___init__⟩, TT, gc_CT⟩
  have TTk : TxtToks P w K mg base CT CF WO f_is_letter f_is_digit := ⟨TK, FT, TL, s_OWN_WORDS, PySem.W.mg_of X G v_OWN_WORDS, c_OWN, c_LETTERS, c_NUMBER, c_SIGN, c_END, c_SEMICOLON, c_MOST_LETTERS_tokens, c_MOST_DIGITS, c_GREATEST_NUMBER, c_NO_TOKEN, ⟨_, g_is_letter, rfl⟩, ⟨_, g_is_digit, rfl⟩⟩
  have N_lo := dnN F_letters_of b_letters_of (okN_letters_of (P := P) (w := w) (base := base) (CX := CX0) F_letters_of TL) g_letters_of
  have N_wa := dnN F_word_at b_word_at (okN_word_at F_word_at TTk D_baL N_lo) g_word_at
  have N_na := dnN F_number_at b_number_at (okN_number_at F_number_at TTk D_baD) g_number_at
  have N_ta := dnN F_token_at b_token_at (okN_token_at F_token_at TTk D_is_letter D_is_digit N_wa N_na) g_token_at
  have N_to := dnN F_tokens_of b_tokens_of (okN_tokens_of F_tokens_of TTk D_bl N_ta) g_tokens_of
  have TR : TxtRd P w K mg base CR CT CF := ⟨cl_CR, x_CR_tokens, x_CR_at, TT, FT, c_OWN, c_LETTERS, c_NUMBER, c_NOT_ALLOWED, c_OUT_OF_BOUNDS, fun _ => trivial⟩
  have M_here := mnm F_CR_here b_CR_here (ok_rd_here F_CR_here TR) cl_CR m_CR_here
  have M_stands := mnm F_CR_stands b_CR_stands (ok_rd_stands F_CR_stands TR M_here) cl_CR m_CR_stands
  have M_refuse := mnm F_CR_refuse b_CR_refuse (ok_rd_refuse F_CR_refuse TR M_here) cl_CR m_CR_refuse
  have M_take := mnN F_CR_take b_CR_take (okN_rd_take (CX := CX0) F_CR_take TR M_here) cl_CR m_CR_take
  have RK : RdK P w K mg base CR CT CF := ⟨TR, M_here, M_stands, M_refuse, M_take⟩
  have M_own := mnm F_CR_take_own b_CR_take_own (ok_rd_own F_CR_take_own RK) cl_CR m_CR_take_own
  have M_one := mnm F_CR_take_one_of b_CR_take_one_of (ok_rd_one F_CR_take_one_of RK) cl_CR m_CR_take_one_of
  have M_let := mnN F_CR_take_letters b_CR_take_letters (okN_rd_letters F_CR_take_letters RK) cl_CR m_CR_take_letters
  have M_num := mnm F_CR_take_number b_CR_take_number (ok_rd_number F_CR_take_number RK) cl_CR m_CR_take_number
  have RM' : RdM P w K mg base CR CT CF := ⟨RK, M_own, M_one, M_let, M_num, c_MOST_NOTS, c_TOO_MANY, c_GREATEST_LINE, c_GREATEST_SKIP, nm_list, nm_tuple, nm_len⟩
  have D_nots := dnm F_read_nots b_read_nots (ok_nots F_read_nots RM') g_read_nots
  have D_addr := dnm F_read_address b_read_address (ok_addr F_read_address RM' ⟨c_ADDRESSES, s_ADDRESSES⟩) g_read_address
  have N_due := dnN F_read_due b_read_due (okN_due F_read_due RM' ⟨c_NUMBER, c_LETTERS_OR_NONE⟩) g_read_due
  have N_deed := dnN F_read_deed b_read_deed (okN_deed F_read_deed RM' ⟨c_DEEDS, kD, iD⟩ N_due) g_read_deed
  have TC : TxtCmd K CC := ⟨cl_CC, x_CC_wanted, x_CC_address, x_CC_deed⟩
  have K_cmd := knm F_CC___init__ b_CC___init__ (ok_cmd_init (P := P) (w := w) (mg := mg) (base := base) F_CC___init__ TC) M_CC gc_CC
  have N_cmd := dnN F_read_command b_read_command (okN_command F_read_command RM' D_nots D_addr N_deed K_cmd c_SIGN) g_read_command
  have K_rd := knm F_CR___init__ b_CR___init__ (ok_rd_init F_CR___init__ TR) M_CR gc_CR
  have D_cs := dnm F_commands_of b_commands_of (okN_commands F_commands_of RM' ⟨c_MOST_BYTES, c_MOST_COMMANDS, c_TOO_LONG, c_END, c_SIGN⟩ nRC N_to K_rd N_cmd) g_commands_of
  have TX : TxtTexts K mg NR := ⟨c_LINE_FEED, c_MOST_LETTERS_texts, c_MOST_LINES, nm_len, nm_all, nm_enumerate, ER_NR⟩
  have D_lo := dnm F_letters_of b_letters_of (ok_letters_of (P := P) (w := w) (base := base) F_letters_of TL) g_letters_of
  have D_li := dnm F_letters_told b_letters_told (ok_line_of F_letters_told TX D_is_letter D_lo) g_letters_told
  have D_ls := dnm F_lines_of b_lines_of (ok_lines_of F_lines_of TX D_li) g_lines_of
  have D_bo := dnm F_bytes_of b_bytes_of (ok_bytes_of (P := P) (w := w) (base := base) F_bytes_of nm_ord) g_bytes_of
  have D_tb := dnm F_told_as_bytes b_told_as_bytes (ok_told F_told_as_bytes c_LINE_FEED D_bo) g_told_as_bytes
  -- runs
  have TP : TxtPass K CP := ⟨cl_CP, x_CP_number, x_CP_found, x_CP_line, x_CP_held, x_CP_ahead, x_CP_behind, x_CP_stays⟩
  have K_pass := knm F_CP___init__ b_CP___init__ (ok_pass_init (P := P) (w := w) (mg := mg) (base := base) F_CP___init__ TP) M_CP gc_CP
  have M_asf := mnm F_CP_is_as_found b_CP_is_as_found (ok_as_found (P := P) (w := w) (mg := mg) (base := base) F_CP_is_as_found TP) cl_CP m_CP_is_as_found
  have M_chg := mnm F_CP_is_changed b_CP_is_changed (ok_changed (P := P) (w := w) (mg := mg) (base := base) F_CP_is_changed TP) cl_CP m_CP_is_changed
  have M_com := mnm F_CP_lines_coming b_CP_lines_coming (ok_coming (P := P) (w := w) (mg := mg) (base := base) F_CP_lines_coming TP) cl_CP m_CP_lines_coming
  have TRn : TxtRun K mg TM := ⟨c_MOST_LETTERS_texts, c_MOST_LINES_COMING, nm_len, nm_enumerate, nm_sum, ER_TM⟩
  have D_ntl := dnm F_not_too_long b_not_too_long (ok_not_long (P := P) (w := w) (base := base) F_not_too_long TRn) g_not_too_long
  have D_holds := dnm F_holds b_holds (ok_holds (P := P) (w := w) (mg := mg) (base := base) F_holds TP) g_holds
  have D_do := dnm F_do b_do (ok_do F_do ⟨TP, nb_of l_ST w_ST⟩ D_ntl) g_do
  have D_go := dnm F_go_through b_go_through (ok_go F_go_through ⟨TP, cl_CC, x_CC_wanted, x_CC_address, x_CC_deed, nm_len⟩ D_holds D_do) g_go_through
  have D_res := dnm F_result_of b_result_of (ok_result F_result_of M_com) g_result_of
  have D_run := dnm F_run b_run (ok_run F_run TRn TP K_pass D_go D_res) g_run
  have D_out := dnm F_outcome_of b_outcome_of (ok_out F_outcome_of ER_TM (exm_sub sb_TM ic_TM ty_TM su_55) D_run D_res) g_outcome_of
  -- versions
  have TV : TxtVer K mg CV := ⟨cl_CV, x_CV_lines, x_CV_origins, nm_len, nm_range, nm_zip, nm_sum⟩
  have K_ver := knm F_CV___init__ b_CV___init__ (ok_ver_init (P := P) (w := w) (base := base) F_CV___init__ TV) M_CV gc_CV
  have D_fv := dnm F_first_version b_first_version (ok_first_ver F_first_version TV K_ver) g_first_version
  have D_og := dnm F_origins_coming b_origins_coming (ok_orgs F_origins_coming TP nm_len M_chg) g_origins_coming
  have D_vb := dnm F_version_behind b_version_behind (ok_ver_behind F_version_behind TV K_ver D_og D_res) g_version_behind
  have D_ef := dnm F_effect_of b_effect_of (ok_effect F_effect_of TP nm_len nm_sum M_asf M_chg) g_effect_of
  have D_ig := dnm F_is_guarded b_is_guarded (ok_is_g (P := P) (w := w) (mg := mg) (base := base) F_is_guarded) g_is_guarded
  have D_fh := dnm F_first_harmed b_first_harmed (ok_harmed F_first_harmed TP M_asf D_ig) g_first_harmed
  have TPa : TxtPatch mg := ⟨nm_len, nm_enumerate, nm_max⟩
  have D_hc := dnm F_how_many_in_common b_how_many_in_common (ok_common (P := P) (w := w) (base := base) F_how_many_in_common TPa) g_how_many_in_common
  have D_pc := dnm F_patch_cost b_patch_cost (ok_cost F_patch_cost TPa D_hc) g_patch_cost
  -- the object
  have TS : TxtSes K mg CS CV := ⟨cl_CS, x_CS_versions, x_CS_undone, x_CS_guarded, TV, nm_len⟩
  have K_ses := knm F_CS___init__ b_CS___init__ (ok_ses_init (P := P) (w := w) (base := base) F_CS___init__ TS) M_CS gc_CS
  have M_has := mnm F_CS_has_text b_CS_has_text (ok_has (P := P) (w := w) (base := base) F_CS_has_text TS) cl_CS m_CS_has_text
  have M_now := mnm F_CS_now b_CS_now (ok_now (P := P) (w := w) (base := base) F_CS_now TS) cl_CS m_CS_now
  have M_ste := mnm F_CS_how_many_steps b_CS_how_many_steps (ok_steps (P := P) (w := w) (base := base) F_CS_how_many_steps TS) cl_CS m_CS_how_many_steps
  have SM : SesM P w K mg base CS CV := ⟨TS, M_now, M_ste⟩
  have M_whe := mnm F_CS_where_it_stands b_CS_where_it_stands (ok_where F_CS_where_it_stands SM) cl_CS m_CS_where_it_stands
  have M_load := mnm F_CS_load b_CS_load (ok_load F_CS_load TS D_ls D_fv) cl_CS m_CS_load
  have M_undo := mnm F_CS_undo b_CS_undo (ok_undo F_CS_undo SM M_whe ER_NS) cl_CS m_CS_undo
  have M_redo := mnm F_CS_redo b_CS_redo (ok_redo F_CS_redo SM M_whe ER_NS) cl_CS m_CS_redo
  have TTr : TxtTri K CTr := ⟨cl_CTr, x_CTr_version, x_CTr_effect, x_CTr_harmed⟩
  have K_tri := knm F_CTr___init__ b_CTr___init__ (ok_tri_init (P := P) (w := w) (mg := mg) (base := base) F_CTr___init__ TTr) M_CTr gc_CTr
  have M_att := mnm F_CS_attempt b_CS_attempt (ok_attempt F_CS_attempt SM c_MOST_LINES ER_TM D_run D_vb D_ef D_fh K_tri) cl_CS m_CS_attempt
  have ST : SesT P w K mg base CS CV CF CC CTr TM := ⟨SM, TTr, D_cs, M_att⟩
  have M_app := mnm F_CS_apply b_CS_apply (ok_apply F_CS_apply ST c_MOST_STEPS ER_RM ER_HG) cl_CS m_CS_apply
  have M_dry := mnm F_CS_dry b_CS_dry (ok_dry F_CS_dry ST D_pc) cl_CS m_CS_dry
  have M_sho := mnm F_CS_shown b_CS_shown (ok_shown F_CS_shown SM D_tb) cl_CS m_CS_shown
  have M_ori := mnm F_CS_origins_now b_CS_origins_now (ok_origins F_CS_origins_now SM nm_list) cl_CS m_CS_origins_now
  have M_same := mnm F_CS_same b_CS_same (ok_same F_CS_same TS nm_enumerate D_cs D_out) cl_CS m_CS_same
  have M_gua := mnm F_CS_guard b_CS_guard (ok_guard F_CS_guard SM D_li D_ig) cl_CS m_CS_guard
  have M_his := mnm F_CS_history b_CS_history (ok_history F_CS_history SM) cl_CS m_CS_history
  have TA : TxtAo P w K mg base CS CV CF NT NS NR RM TM HG := ⟨M_load, M_has, M_app, M_dry, M_undo, M_redo, M_sho, M_ori, M_same, M_gua, M_his, ER_NT, c_LOAD, c_APPLY, c_DRY, c_UNDO, c_REDO, c_SHOWN, c_ORIGINS, c_SAME, c_GUARD, c_HISTORY⟩
  have D_ao := dnm F_answer_of b_answer_of (ok_ao F_answer_of TA) g_answer_of
  have D_ar := dnm F_answer_or_refusal b_answer_or_refusal (ok_ar F_answer_or_refusal XT FT ER_NT ER_NS ER_NR ER_RM ER_TM ER_HG D_ao) g_answer_or_refusal
  exact ok_answers F_answers ⟨c_ROWS, s_ROWS, nm_len, nm_range⟩ K_ses D_ar
end LE
open PySem PySem.W PyProof.Rows
set_option maxRecDepth 100000 in
set_option maxHeartbeats 0 in
theorem PySem.Challenge.cw_lineedits_s01_answers_holds : PySem.Challenge.rw_lineedits_s01_answers.Holds := by
  w_on; k_headS; (case hw => exact ⟨[.list [.int 3]], by decide +kernel, by decide +kernel⟩)
  k_fillS
  refine L2.walk_specK (r := PySem.Challenge.rw_lineedits_s01_answers) (k := 12) (CX := L2.CX0) (ps := ["calls"]) (sp := LE.spAnswers) (by decide +kernel) rfl rfl ⟨rfl, by decide, by decide⟩ (fun w h Y => PySem.W.kIn_of Y) ?F ?S (fun _ _ _ _ z => z)
  case F =>
    intro w mg fa h Y KX G hmg
    refine' LE.mk_all (P := PySem.Challenge.pw_lineedits_s01_answers) (w := w) KX G hmg ?a_is_letter ?l_is_letter ?c_is_letter ?k_is_letter ?a_letters_of ?l_letters_of ?c_letters_of ?k_letters_of ?a_bytes_of ?l_bytes_of ?c_bytes_of ?k_bytes_of ?a_lines_of ?l_lines_of ?c_lines_of ?k_lines_of ?a_letters_told ?l_letters_told ?c_letters_told ?k_letters_told ?a_told_as_bytes ?l_told_as_bytes ?c_told_as_bytes ?k_told_as_bytes ?a_run ?l_run ?c_run ?k_run ?a_result_of ?l_result_of ?c_result_of ?k_result_of ?a_outcome_of ?l_outcome_of ?c_outcome_of ?k_outcome_of ?a_go_through ?l_go_through ?c_go_through ?k_go_through ?a_holds ?l_holds ?c_holds ?k_holds ?a_do ?l_do ?c_do ?k_do ?a_not_too_long ?l_not_too_long ?c_not_too_long ?k_not_too_long ?a_tokens_of ?l_tokens_of ?c_tokens_of ?k_tokens_of ?a_behind_blanks ?l_behind_blanks ?c_behind_blanks ?k_behind_blanks ?a_token_at ?l_token_at ?c_token_at ?k_token_at ?a_is_digit ?l_is_digit ?c_is_digit ?k_is_digit ?a_behind_all ?l_behind_all ?c_behind_all ?k_behind_all ?a_word_at ?l_word_at ?c_word_at ?k_word_at ?a_number_at ?l_number_at ?c_number_at ?k_number_at ?a_commands_of ?l_commands_of ?c_commands_of ?k_commands_of ?a_read_command ?l_read_command ?c_read_command ?k_read_command ?a_read_nots ?l_read_nots ?c_read_nots ?k_read_nots ?a_read_address ?l_read_address ?c_read_address ?k_read_address ?a_read_deed ?l_read_deed ?c_read_deed ?k_read_deed ?a_read_due ?l_read_due ?c_read_due ?k_read_due ?a_patch_cost ?l_patch_cost ?c_patch_cost ?k_patch_cost ?a_how_many_in_common ?l_how_many_in_common ?c_how_many_in_common ?k_how_many_in_common ?a_first_version ?l_first_version ?c_first_version ?k_first_version ?a_version_behind ?l_version_behind ?c_version_behind ?k_version_behind ?a_origins_coming ?l_origins_coming ?c_origins_coming ?k_origins_coming ?a_effect_of ?l_effect_of ?c_effect_of ?k_effect_of ?a_is_guarded ?l_is_guarded ?c_is_guarded ?k_is_guarded ?a_first_harmed ?l_first_harmed ?c_first_harmed ?k_first_harmed ?a_answers ?l_answers ?c_answers ?k_answers ?a_answer_or_refusal ?l_answer_or_refusal ?c_answer_or_refusal ?k_answer_or_refusal ?a_answer_of ?l_answer_of ?c_answer_of ?k_answer_of ?n_CT ?pg_CT ?hd_CT ?po_CT ?sa_CT ?mk_CT ?kc_CT ?x_CT_kind ?x_CT_value ?x_CT_place ?x_CT_behind ?a_CT___init__ ?l_CT___init__ ?c_CT___init__ ?k_CT___init__ ?i_CT___init__ ?n_CR ?pg_CR ?hd_CR ?po_CR ?sa_CR ?mk_CR ?kc_CR ?x_CR_tokens ?x_CR_at ?a_CR___init__ ?l_CR___init__ ?c_CR___init__ ?k_CR___init__ ?i_CR___init__ ?a_CR_here ?l_CR_here ?c_CR_here ?k_CR_here ?i_CR_here ?a_CR_stands ?l_CR_stands ?c_CR_stands ?k_CR_stands ?i_CR_stands ?a_CR_refuse ?l_CR_refuse ?c_CR_refuse ?k_CR_refuse ?i_CR_refuse ?a_CR_take ?l_CR_take ?c_CR_take ?k_CR_take ?i_CR_take ?a_CR_take_own ?l_CR_take_own ?c_CR_take_own ?k_CR_take_own ?i_CR_take_own ?a_CR_take_one_of ?l_CR_take_one_of ?c_CR_take_one_of ?k_CR_take_one_of ?i_CR_take_one_of ?a_CR_take_letters ?l_CR_take_letters ?c_CR_take_letters ?k_CR_take_letters ?i_CR_take_letters ?a_CR_take_number ?l_CR_take_number ?c_CR_take_number ?k_CR_take_number ?i_CR_take_number ?n_CC ?pg_CC ?hd_CC ?po_CC ?sa_CC ?mk_CC ?kc_CC ?x_CC_wanted ?x_CC_address ?x_CC_deed ?a_CC___init__ ?l_CC___init__ ?c_CC___init__ ?k_CC___init__ ?i_CC___init__ ?n_CP ?pg_CP ?hd_CP ?po_CP ?sa_CP ?mk_CP ?kc_CP ?x_CP_number ?x_CP_found ?x_CP_line ?x_CP_held ?x_CP_ahead ?x_CP_behind ?x_CP_stays ?a_CP___init__ ?l_CP___init__ ?c_CP___init__ ?k_CP___init__ ?i_CP___init__ ?a_CP_is_as_found ?l_CP_is_as_found ?c_CP_is_as_found ?k_CP_is_as_found ?i_CP_is_as_found ?a_CP_is_changed ?l_CP_is_changed ?c_CP_is_changed ?k_CP_is_changed ?i_CP_is_changed ?a_CP_lines_coming ?l_CP_lines_coming ?c_CP_lines_coming ?k_CP_lines_coming ?i_CP_lines_coming ?n_CV ?pg_CV ?hd_CV ?po_CV ?sa_CV ?mk_CV ?kc_CV ?x_CV_lines ?x_CV_origins ?a_CV___init__ ?l_CV___init__ ?c_CV___init__ ?k_CV___init__ ?i_CV___init__ ?n_CS ?pg_CS ?hd_CS ?po_CS ?sa_CS ?mk_CS ?kc_CS ?x_CS_versions ?x_CS_undone ?x_CS_guarded ?a_CS___init__ ?l_CS___init__ ?c_CS___init__ ?k_CS___init__ ?i_CS___init__ ?a_CS_has_text ?l_CS_has_text ?c_CS_has_text ?k_CS_has_text ?i_CS_has_text ?a_CS_now ?l_CS_now ?c_CS_now ?k_CS_now ?i_CS_now ?a_CS_how_many_steps ?l_CS_how_many_steps ?c_CS_how_many_steps ?k_CS_how_many_steps ?i_CS_how_many_steps ?a_CS_load ?l_CS_load ?c_CS_load ?k_CS_load ?i_CS_load ?a_CS_apply ?l_CS_apply ?c_CS_apply ?k_CS_apply ?i_CS_apply ?a_CS_dry ?l_CS_dry ?c_CS_dry ?k_CS_dry ?i_CS_dry ?a_CS_attempt ?l_CS_attempt ?c_CS_attempt ?k_CS_attempt ?i_CS_attempt ?a_CS_undo ?l_CS_undo ?c_CS_undo ?k_CS_undo ?i_CS_undo ?a_CS_redo ?l_CS_redo ?c_CS_redo ?k_CS_redo ?i_CS_redo ?a_CS_where_it_stands ?l_CS_where_it_stands ?c_CS_where_it_stands ?k_CS_where_it_stands ?i_CS_where_it_stands ?a_CS_shown ?l_CS_shown ?c_CS_shown ?k_CS_shown ?i_CS_shown ?a_CS_origins_now ?l_CS_origins_now ?c_CS_origins_now ?k_CS_origins_now ?i_CS_origins_now ?a_CS_same ?l_CS_same ?c_CS_same ?k_CS_same ?i_CS_same ?a_CS_guard ?l_CS_guard ?c_CS_guard ?k_CS_guard ?i_CS_guard ?a_CS_history ?l_CS_history ?c_CS_history ?k_CS_history ?i_CS_history ?n_CTr ?pg_CTr ?hd_CTr ?po_CTr ?sa_CTr ?mk_CTr ?kc_CTr ?x_CTr_version ?x_CTr_effect ?x_CTr_harmed ?a_CTr___init__ ?l_CTr___init__ ?c_CTr___init__ ?k_CTr___init__ ?i_CTr___init__ ?n_NT ?e_NT ?kc_NT ?sb_NT ?ty_NT ?n_NS ?e_NS ?kc_NS ?sb_NS ?ty_NS ?n_NR ?e_NR ?kc_NR ?sb_NR ?ty_NR ?n_RM ?e_RM ?kc_RM ?sb_RM ?ty_RM ?n_TM ?e_TM ?kc_TM ?sb_TM ?ty_TM ?n_HG ?e_HG ?kc_HG ?sb_HG ?ty_HG ?n_CF ?l_CF ?sa_CF ?sb_CF ?ty_CF ?kc_CF ?x_CF_code ?x_CF_place ?ga_CF ?gg_CF ?hd_CF ?a_CF___init__ ?l_CF___init__ ?c_CF___init__ ?k_CF___init__ ?t_CF_init ?ic_CF ?ic_NT ?ic_NS ?ic_NR ?ic_RM ?ic_TM ?ic_HG ?su_00 ?su_10 ?su_11 ?su_20 ?su_21 ?su_22 ?su_30 ?su_31 ?su_32 ?su_33 ?su_40 ?su_41 ?su_42 ?su_43 ?su_44 ?su_50 ?su_51 ?su_52 ?su_53 ?su_54 ?su_55 ?su_60 ?su_61 ?su_62 ?su_63 ?su_64 ?su_65 ?su_66 ?v_BYTE_OF_A ?v_LINE_FEED ?v_DIGIT_ZERO ?v_DIGIT_NINE ?v_REMARK ?v_BLANK ?v_TAB ?v_SEMICOLON ?v_MOST_LETTERS_tokens ?v_MOST_DIGITS ?v_GREATEST_NUMBER ?v_NO_TOKEN ?v_NOT_ALLOWED ?v_OUT_OF_BOUNDS ?v_MOST_NOTS ?v_TOO_MANY ?v_GREATEST_LINE ?v_GREATEST_SKIP ?v_MOST_BYTES ?v_MOST_COMMANDS ?v_TOO_LONG ?v_MOST_LETTERS_texts ?v_MOST_LINES ?v_MOST_LINES_COMING ?v_MOST_STEPS ?v_LOAD ?v_APPLY ?v_DRY ?v_UNDO ?v_REDO ?v_SHOWN ?v_ORIGINS ?v_SAME ?v_GUARD ?v_HISTORY ?v_ALPHABET ?v_OWN ?v_LETTERS ?v_NUMBER ?v_SIGN ?v_END ?v_LETTERS_OR_NONE ?v_OWN_WORDS ?l_OWN_WORDS ?w_OWN_WORDS ?v_ADDRESSES ?l_ADDRESSES ?w_ADDRESSES ?v_ROWS ?l_ROWS ?w_ROWS ?v_DEEDS ?l_DEEDS ?sm_DA ?h_DEEDS ?w_DEEDS ?l_ST ?w_ST ?d_delete ?l_T_delete ?w_T_delete ?d_before ?l_T_before ?w_T_before ?d_after ?l_T_after ?w_T_after ?d_change ?l_T_change ?w_T_change ?d_swap ?l_T_swap ?w_T_swap ?d_first ?l_T_first ?w_T_first ?d_keep ?l_T_keep ?w_T_keep ?d_bring ?l_T_bring ?w_T_bring ?d_trade ?l_T_trade ?w_T_trade ?d_skip ?l_T_skip ?w_T_skip ?d_stop ?l_T_stop ?w_T_stop ?nRC ?no_len ?no_all ?no_enumerate ?no_list ?no_tuple ?no_sum ?no_max ?no_range ?no_zip ?no_ord
    (case a_is_letter => k_is)
    (case l_is_letter => k_is)
    (case c_is_letter => k_is)
    (case k_is_letter => k_is)
    (case a_letters_of => k_is)
    (case l_letters_of => k_is)
    (case c_letters_of => k_is)
    (case k_letters_of => k_is)
    (case a_bytes_of => k_is)
    (case l_bytes_of => k_is)
    (case c_bytes_of => k_is)
    (case k_bytes_of => k_is)
    (case a_lines_of => k_is)
    (case l_lines_of => k_is)
    (case c_lines_of => k_is)
    (case k_lines_of => k_is)
    (case a_letters_told => k_is)
    (case l_letters_told => k_is)
    (case c_letters_told => k_is)
    (case k_letters_told => k_is)
    (case a_told_as_bytes => k_is)
    (case l_told_as_bytes => k_is)
    (case c_told_as_bytes => k_is)
    (case k_told_as_bytes => k_is)
    (case a_run => k_is)
    (case l_run => k_is)
    (case c_run => k_is)
    (case k_run => k_is)
    (case a_result_of => k_is)
    (case l_result_of => k_is)
    (case c_result_of => k_is)
    (case k_result_of => k_is)
    (case a_outcome_of => k_is)
    (case l_outcome_of => k_is)
    (case c_outcome_of => k_is)
    (case k_outcome_of => k_is)
    (case a_go_through => k_is)
    (case l_go_through => k_is)
    (case c_go_through => k_is)
    (case k_go_through => k_is)
    (case a_holds => k_is)
    (case l_holds => k_is)
    (case c_holds => k_is)
    (case k_holds => k_is)
    (case a_do => k_is)
    (case l_do => k_is)
    (case c_do => k_is)
    (case k_do => k_is)
    (case a_not_too_long => k_is)
    (case l_not_too_long => k_is)
    (case c_not_too_long => k_is)
    (case k_not_too_long => k_is)
    (case a_tokens_of => k_is)
    (case l_tokens_of => k_is)
    (case c_tokens_of => k_is)
    (case k_tokens_of => k_is)
    (case a_behind_blanks => k_is)
    (case l_behind_blanks => k_is)
    (case c_behind_blanks => k_is)
    (case k_behind_blanks => k_is)
    (case a_token_at => k_is)
    (case l_token_at => k_is)
    (case c_token_at => k_is)
    (case k_token_at => k_is)
    (case a_is_digit => k_is)
    (case l_is_digit => k_is)
    (case c_is_digit => k_is)
    (case k_is_digit => k_is)
    (case a_behind_all => k_is)
    (case l_behind_all => k_is)
    (case c_behind_all => k_is)
    (case k_behind_all => k_is)
    (case a_word_at => k_is)
    (case l_word_at => k_is)
    (case c_word_at => k_is)
    (case k_word_at => k_is)
    (case a_number_at => k_is)
    (case l_number_at => k_is)
    (case c_number_at => k_is)
    (case k_number_at => k_is)
    (case a_commands_of => k_is)
    (case l_commands_of => k_is)
    (case c_commands_of => k_is)
    (case k_commands_of => k_is)
    (case a_read_command => k_is)
    (case l_read_command => k_is)
    (case c_read_command => k_is)
    (case k_read_command => k_is)
    (case a_read_nots => k_is)
    (case l_read_nots => k_is)
    (case c_read_nots => k_is)
    (case k_read_nots => k_is)
    (case a_read_address => k_is)
    (case l_read_address => k_is)
    (case c_read_address => k_is)
    (case k_read_address => k_is)
    (case a_read_deed => k_is)
    (case l_read_deed => k_is)
    (case c_read_deed => k_is)
    (case k_read_deed => k_is)
    (case a_read_due => k_is)
    (case l_read_due => k_is)
    (case c_read_due => k_is)
    (case k_read_due => k_is)
    (case a_patch_cost => k_is)
    (case l_patch_cost => k_is)
    (case c_patch_cost => k_is)
    (case k_patch_cost => k_is)
    (case a_how_many_in_common => k_is)
    (case l_how_many_in_common => k_is)
    (case c_how_many_in_common => k_is)
    (case k_how_many_in_common => k_is)
    (case a_first_version => k_is)
    (case l_first_version => k_is)
    (case c_first_version => k_is)
    (case k_first_version => k_is)
    (case a_version_behind => k_is)
    (case l_version_behind => k_is)
    (case c_version_behind => k_is)
    (case k_version_behind => k_is)
    (case a_origins_coming => k_is)
    (case l_origins_coming => k_is)
    (case c_origins_coming => k_is)
    (case k_origins_coming => k_is)
    (case a_effect_of => k_is)
    (case l_effect_of => k_is)
    (case c_effect_of => k_is)
    (case k_effect_of => k_is)
    (case a_is_guarded => k_is)
    (case l_is_guarded => k_is)
    (case c_is_guarded => k_is)
    (case k_is_guarded => k_is)
    (case a_first_harmed => k_is)
    (case l_first_harmed => k_is)
    (case c_first_harmed => k_is)
    (case k_first_harmed => k_is)
    (case a_answers => k_is)
    (case l_answers => k_is)
    (case c_answers => k_is)
    (case k_answers => k_is)
    (case a_answer_or_refusal => k_is)
    (case l_answer_or_refusal => k_is)
    (case c_answer_or_refusal => k_is)
    (case k_answer_or_refusal => k_is)
    (case a_answer_of => k_is)
    (case l_answer_of => k_is)
    (case c_answer_of => k_is)
    (case k_answer_of => k_is)
    (case n_CT => k_is)
    (case pg_CT => k_is)
    (case hd_CT => k_is)
    (case po_CT => k_is)
    (case sa_CT => k_is)
    (case mk_CT => k_is)
    (case kc_CT => k_is)
    (case x_CT_kind => k_is)
    (case x_CT_value => k_is)
    (case x_CT_place => k_is)
    (case x_CT_behind => k_is)
    (case a_CT___init__ => k_is)
    (case l_CT___init__ => k_is)
    (case c_CT___init__ => k_is)
    (case k_CT___init__ => k_is)
    (case i_CT___init__ => k_is)
    (case n_CR => k_is)
    (case pg_CR => k_is)
    (case hd_CR => k_is)
    (case po_CR => k_is)
    (case sa_CR => k_is)
    (case mk_CR => k_is)
    (case kc_CR => k_is)
    (case x_CR_tokens => k_is)
    (case x_CR_at => k_is)
    (case a_CR___init__ => k_is)
    (case l_CR___init__ => k_is)
    (case c_CR___init__ => k_is)
    (case k_CR___init__ => k_is)
    (case i_CR___init__ => k_is)
    (case a_CR_here => k_is)
    (case l_CR_here => k_is)
    (case c_CR_here => k_is)
    (case k_CR_here => k_is)
    (case i_CR_here => k_is)
    (case a_CR_stands => k_is)
    (case l_CR_stands => k_is)
    (case c_CR_stands => k_is)
    (case k_CR_stands => k_is)
    (case i_CR_stands => k_is)
    (case a_CR_refuse => k_is)
    (case l_CR_refuse => k_is)
    (case c_CR_refuse => k_is)
    (case k_CR_refuse => k_is)
    (case i_CR_refuse => k_is)
    (case a_CR_take => k_is)
    (case l_CR_take => k_is)
    (case c_CR_take => k_is)
    (case k_CR_take => k_is)
    (case i_CR_take => k_is)
    (case a_CR_take_own => k_is)
    (case l_CR_take_own => k_is)
    (case c_CR_take_own => k_is)
    (case k_CR_take_own => k_is)
    (case i_CR_take_own => k_is)
    (case a_CR_take_one_of => k_is)
    (case l_CR_take_one_of => k_is)
    (case c_CR_take_one_of => k_is)
    (case k_CR_take_one_of => k_is)
    (case i_CR_take_one_of => k_is)
    (case a_CR_take_letters => k_is)
    (case l_CR_take_letters => k_is)
    (case c_CR_take_letters => k_is)
    (case k_CR_take_letters => k_is)
    (case i_CR_take_letters => k_is)
    (case a_CR_take_number => k_is)
    (case l_CR_take_number => k_is)
    (case c_CR_take_number => k_is)
    (case k_CR_take_number => k_is)
    (case i_CR_take_number => k_is)
    (case n_CC => k_is)
    (case pg_CC => k_is)
    (case hd_CC => k_is)
    (case po_CC => k_is)
    (case sa_CC => k_is)
    (case mk_CC => k_is)
    (case kc_CC => k_is)
    (case x_CC_wanted => k_is)
    (case x_CC_address => k_is)
    (case x_CC_deed => k_is)
    (case a_CC___init__ => k_is)
    (case l_CC___init__ => k_is)
    (case c_CC___init__ => k_is)
    (case k_CC___init__ => k_is)
    (case i_CC___init__ => k_is)
    (case n_CP => k_is)
    (case pg_CP => k_is)
    (case hd_CP => k_is)
    (case po_CP => k_is)
    (case sa_CP => k_is)
    (case mk_CP => k_is)
    (case kc_CP => k_is)
    (case x_CP_number => k_is)
    (case x_CP_found => k_is)
    (case x_CP_line => k_is)
    (case x_CP_held => k_is)
    (case x_CP_ahead => k_is)
    (case x_CP_behind => k_is)
    (case x_CP_stays => k_is)
    (case a_CP___init__ => k_is)
    (case l_CP___init__ => k_is)
    (case c_CP___init__ => k_is)
    (case k_CP___init__ => k_is)
    (case i_CP___init__ => k_is)
    (case a_CP_is_as_found => k_is)
    (case l_CP_is_as_found => k_is)
    (case c_CP_is_as_found => k_is)
    (case k_CP_is_as_found => k_is)
    (case i_CP_is_as_found => k_is)
    (case a_CP_is_changed => k_is)
    (case l_CP_is_changed => k_is)
    (case c_CP_is_changed => k_is)
    (case k_CP_is_changed => k_is)
    (case i_CP_is_changed => k_is)
    (case a_CP_lines_coming => k_is)
    (case l_CP_lines_coming => k_is)
    (case c_CP_lines_coming => k_is)
    (case k_CP_lines_coming => k_is)
    (case i_CP_lines_coming => k_is)
    (case n_CV => k_is)
    (case pg_CV => k_is)
    (case hd_CV => k_is)
    (case po_CV => k_is)
    (case sa_CV => k_is)
    (case mk_CV => k_is)
    (case kc_CV => k_is)
    (case x_CV_lines => k_is)
    (case x_CV_origins => k_is)
    (case a_CV___init__ => k_is)
    (case l_CV___init__ => k_is)
    (case c_CV___init__ => k_is)
    (case k_CV___init__ => k_is)
    (case i_CV___init__ => k_is)
    (case n_CS => k_is)
    (case pg_CS => k_is)
    (case hd_CS => k_is)
    (case po_CS => k_is)
    (case sa_CS => k_is)
    (case mk_CS => k_is)
    (case kc_CS => k_is)
    (case x_CS_versions => k_is)
    (case x_CS_undone => k_is)
    (case x_CS_guarded => k_is)
    (case a_CS___init__ => k_is)
    (case l_CS___init__ => k_is)
    (case c_CS___init__ => k_is)
    (case k_CS___init__ => k_is)
    (case i_CS___init__ => k_is)
    (case a_CS_has_text => k_is)
    (case l_CS_has_text => k_is)
    (case c_CS_has_text => k_is)
    (case k_CS_has_text => k_is)
    (case i_CS_has_text => k_is)
    (case a_CS_now => k_is)
    (case l_CS_now => k_is)
    (case c_CS_now => k_is)
    (case k_CS_now => k_is)
    (case i_CS_now => k_is)
    (case a_CS_how_many_steps => k_is)
    (case l_CS_how_many_steps => k_is)
    (case c_CS_how_many_steps => k_is)
    (case k_CS_how_many_steps => k_is)
    (case i_CS_how_many_steps => k_is)
    (case a_CS_load => k_is)
    (case l_CS_load => k_is)
    (case c_CS_load => k_is)
    (case k_CS_load => k_is)
    (case i_CS_load => k_is)
    (case a_CS_apply => k_is)
    (case l_CS_apply => k_is)
    (case c_CS_apply => k_is)
    (case k_CS_apply => k_is)
    (case i_CS_apply => k_is)
    (case a_CS_dry => k_is)
    (case l_CS_dry => k_is)
    (case c_CS_dry => k_is)
    (case k_CS_dry => k_is)
    (case i_CS_dry => k_is)
    (case a_CS_attempt => k_is)
    (case l_CS_attempt => k_is)
    (case c_CS_attempt => k_is)
    (case k_CS_attempt => k_is)
    (case i_CS_attempt => k_is)
    (case a_CS_undo => k_is)
    (case l_CS_undo => k_is)
    (case c_CS_undo => k_is)
    (case k_CS_undo => k_is)
    (case i_CS_undo => k_is)
    (case a_CS_redo => k_is)
    (case l_CS_redo => k_is)
    (case c_CS_redo => k_is)
    (case k_CS_redo => k_is)
    (case i_CS_redo => k_is)
    (case a_CS_where_it_stands => k_is)
    (case l_CS_where_it_stands => k_is)
    (case c_CS_where_it_stands => k_is)
    (case k_CS_where_it_stands => k_is)
    (case i_CS_where_it_stands => k_is)
    (case a_CS_shown => k_is)
    (case l_CS_shown => k_is)
    (case c_CS_shown => k_is)
    (case k_CS_shown => k_is)
    (case i_CS_shown => k_is)
    (case a_CS_origins_now => k_is)
    (case l_CS_origins_now => k_is)
    (case c_CS_origins_now => k_is)
    (case k_CS_origins_now => k_is)
    (case i_CS_origins_now => k_is)
    (case a_CS_same => k_is)
    (case l_CS_same => k_is)
    (case c_CS_same => k_is)
    (case k_CS_same => k_is)
    (case i_CS_same => k_is)
    (case a_CS_guard => k_is)
    (case l_CS_guard => k_is)
    (case c_CS_guard => k_is)
    (case k_CS_guard => k_is)
    (case i_CS_guard => k_is)
    (case a_CS_history => k_is)
    (case l_CS_history => k_is)
    (case c_CS_history => k_is)
    (case k_CS_history => k_is)
    (case i_CS_history => k_is)
    (case n_CTr => k_is)
    (case pg_CTr => k_is)
    (case hd_CTr => k_is)
    (case po_CTr => k_is)
    (case sa_CTr => k_is)
    (case mk_CTr => k_is)
    (case kc_CTr => k_is)
    (case x_CTr_version => k_is)
    (case x_CTr_effect => k_is)
    (case x_CTr_harmed => k_is)
    (case a_CTr___init__ => k_is)
    (case l_CTr___init__ => k_is)
    (case c_CTr___init__ => k_is)
    (case k_CTr___init__ => k_is)
    (case i_CTr___init__ => k_is)
    (case n_NT => k_is)
    (case e_NT => k_exc)
    (case kc_NT => k_is)
    (case sb_NT => k_is)
    (case ty_NT => k_is)
    (case n_NS => k_is)
    (case e_NS => k_exc)
    (case kc_NS => k_is)
    (case sb_NS => k_is)
    (case ty_NS => k_is)
    (case n_NR => k_is)
    (case e_NR => k_exc)
    (case kc_NR => k_is)
    (case sb_NR => k_is)
    (case ty_NR => k_is)
    (case n_RM => k_is)
    (case e_RM => k_exc)
    (case kc_RM => k_is)
    (case sb_RM => k_is)
    (case ty_RM => k_is)
    (case n_TM => k_is)
    (case e_TM => k_exc)
    (case kc_TM => k_is)
    (case sb_TM => k_is)
    (case ty_TM => k_is)
    (case n_HG => k_is)
    (case e_HG => k_exc)
    (case kc_HG => k_is)
    (case sb_HG => k_is)
    (case ty_HG => k_is)
    (case n_CF => k_is)
    (case l_CF => k_is)
    (case sa_CF => k_is)
    (case sb_CF => k_is)
    (case ty_CF => k_is)
    (case kc_CF => k_is)
    (case x_CF_code => k_is)
    (case x_CF_place => k_is)
    (case ga_CF => k_is)
    (case gg_CF => k_is)
    (case hd_CF => k_is)
    (case a_CF___init__ => k_is)
    (case l_CF___init__ => k_is)
    (case c_CF___init__ => k_is)
    (case k_CF___init__ => k_is)
    (case t_CF_init => k_is)
    (case ic_CF => k_is)
    (case ic_NT => k_is)
    (case ic_NS => k_is)
    (case ic_NR => k_is)
    (case ic_RM => k_is)
    (case ic_TM => k_is)
    (case ic_HG => k_is)
    (case su_00 => k_is)
    (case su_10 => k_is)
    (case su_11 => k_is)
    (case su_20 => k_is)
    (case su_21 => k_is)
    (case su_22 => k_is)
    (case su_30 => k_is)
    (case su_31 => k_is)
    (case su_32 => k_is)
    (case su_33 => k_is)
    (case su_40 => k_is)
    (case su_41 => k_is)
    (case su_42 => k_is)
    (case su_43 => k_is)
    (case su_44 => k_is)
    (case su_50 => k_is)
    (case su_51 => k_is)
    (case su_52 => k_is)
    (case su_53 => k_is)
    (case su_54 => k_is)
    (case su_55 => k_is)
    (case su_60 => k_is)
    (case su_61 => k_is)
    (case su_62 => k_is)
    (case su_63 => k_is)
    (case su_64 => k_is)
    (case su_65 => k_is)
    (case su_66 => k_is)
    (case v_BYTE_OF_A => k_is)
    (case v_LINE_FEED => k_is)
    (case v_DIGIT_ZERO => k_is)
    (case v_DIGIT_NINE => k_is)
    (case v_REMARK => k_is)
    (case v_BLANK => k_is)
    (case v_TAB => k_is)
    (case v_SEMICOLON => k_is)
    (case v_MOST_LETTERS_tokens => k_is)
    (case v_MOST_DIGITS => k_is)
    (case v_GREATEST_NUMBER => k_is)
    (case v_NO_TOKEN => k_is)
    (case v_NOT_ALLOWED => k_is)
    (case v_OUT_OF_BOUNDS => k_is)
    (case v_MOST_NOTS => k_is)
    (case v_TOO_MANY => k_is)
    (case v_GREATEST_LINE => k_is)
    (case v_GREATEST_SKIP => k_is)
    (case v_MOST_BYTES => k_is)
    (case v_MOST_COMMANDS => k_is)
    (case v_TOO_LONG => k_is)
    (case v_MOST_LETTERS_texts => k_is)
    (case v_MOST_LINES => k_is)
    (case v_MOST_LINES_COMING => k_is)
    (case v_MOST_STEPS => k_is)
    (case v_LOAD => k_is)
    (case v_APPLY => k_is)
    (case v_DRY => k_is)
    (case v_UNDO => k_is)
    (case v_REDO => k_is)
    (case v_SHOWN => k_is)
    (case v_ORIGINS => k_is)
    (case v_SAME => k_is)
    (case v_GUARD => k_is)
    (case v_HISTORY => k_is)
    (case v_ALPHABET => k_is)
    (case v_OWN => k_is)
    (case v_LETTERS => k_is)
    (case v_NUMBER => k_is)
    (case v_SIGN => k_is)
    (case v_END => k_is)
    (case v_LETTERS_OR_NONE => k_is)
    (case v_OWN_WORDS => k_is)
    (case l_OWN_WORDS => k_is)
    (case w_OWN_WORDS => decide +kernel)
    (case v_ADDRESSES => k_is)
    (case l_ADDRESSES => k_is)
    (case w_ADDRESSES => decide +kernel)
    (case v_ROWS => k_is)
    (case l_ROWS => k_is)
    (case w_ROWS => decide +kernel)
    (case v_DEEDS => k_is)
    (case l_DEEDS => k_is)
    (case sm_DA => decide +kernel)
    (case h_DEEDS => first | rfl | kernel_rfl)
    (case w_DEEDS => first | kernel_rfl | rfl)
    (case l_ST => k_is)
    (case w_ST => first | kernel_rfl | rfl)
    (case d_delete => k_is)
    (case l_T_delete => k_is)
    (case w_T_delete => decide +kernel)
    (case d_before => k_is)
    (case l_T_before => k_is)
    (case w_T_before => decide +kernel)
    (case d_after => k_is)
    (case l_T_after => k_is)
    (case w_T_after => decide +kernel)
    (case d_change => k_is)
    (case l_T_change => k_is)
    (case w_T_change => decide +kernel)
    (case d_swap => k_is)
    (case l_T_swap => k_is)
    (case w_T_swap => decide +kernel)
    (case d_first => k_is)
    (case l_T_first => k_is)
    (case w_T_first => decide +kernel)
    (case d_keep => k_is)
    (case l_T_keep => k_is)
    (case w_T_keep => decide +kernel)
    (case d_bring => k_is)
    (case l_T_bring => k_is)
    (case w_T_bring => decide +kernel)
    (case d_trade => k_is)
    (case l_T_trade => k_is)
    (case w_T_trade => decide +kernel)
    (case d_skip => k_is)
    (case l_T_skip => k_is)
    (case w_T_skip => decide +kernel)
    (case d_stop => k_is)
    (case l_T_stop => k_is)
    (case w_T_stop => decide +kernel)
    (case nRC => decide +kernel)
    (case no_len => k_is)
    (case no_all => k_is)
    (case no_enumerate => k_is)
    (case no_list => k_is)
    (case no_tuple => k_is)
    (case no_sum => k_is)
    (case no_max => k_is)
    (case no_range => k_is)
    (case no_zip => k_is)
    (case no_ord => k_is)
  case S =>
    intro K H xs a hO hwi hask hx
    cases hx with
    | cons h1 h2 =>
      cases h2
      cases h1 with
      | lst hs ha =>
        have e := L2.ints_dw a.1 _ ha
        subst e
        have q : ((Codec.inLen 0 60000 a.1 && a.1.all (Codec.inInt 0 8192)) && true) = true := hwi
        rw [Bool.and_eq_true, Bool.and_eq_true] at q
        exact ⟨_, a.1, rfl, hs, (Codec.inNat_iff.mp q.1.1).2, hask, fun H' p hp => .lst (L2.SqL.of hp) (L2.dw_ints _)⟩
