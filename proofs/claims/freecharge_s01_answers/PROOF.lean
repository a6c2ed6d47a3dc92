import PyProof.Rows.All
import Wide.All
import OpenK.AllK
import Wide.FinOn
import Open.SpecLaws
import KE.OsGo
import HandS.ForSpec
import HandS.TryMany
import HandS.Comp
import HandS.Dict
import HandS.Iter
import HandS.Wide
import HandS.WordsDict
import HandS.Walk
import HandS.Defaults
import HandS.WideBits
import HandS.Conv
import HandS.Zip
import HandS.ExcField
import HandS.ExcSuper
import HandS.Text
import HandS.Codes
import HandS.SortKw
import KE.DataMinMax
import PySem.Challenge.RW_freecharge_s01_answers
set_option Elab.async false
set_option linter.all false
set_option maxRecDepth 100000
set_option maxHeartbeats 4000000
namespace FC
open PySem PySem.Spec PyProof.Rows L2
/-! ### words that the layer lacks -/
/-- o.m(e, ..) within a try: what it raises is wished for at the slots as they stand -/
def tMethS (C : Addr) (m : Str) (sp : Sp) (E : L2.St → XK) (ta : TE) (t : TA) : TE := fun σ H Q => ta σ H fun x H1 => ∃ a dx fs, x = .ref a ∧ H1 a = some (.ins C dx fs) ∧ fs.lookup m = none ∧ t σ H1 fun vs H2 => sp (x :: vs) H2 Q (E σ)
theorem pe_methS {X : Cx} {CX : CXT} {k : Nat} {f C : Addr} {fd : FuncData} {ps : List Str} {sp : Sp} {E : L2.St → XK} {m : Str} {pos apos : Pos} {e o : Expr} {es : List Expr} {ta : TE} {t : TA} {pl : Sem Bool} (he : PE X o ta) (c : Cls X.K C) (hm : Meth X.K C m f)
    (F : FnOk X.prog X.w X.K X.mg X.base CX k f fd ps sp) (hr : Room k X.A) (hb : Binds X.K fd ps []) (hx : ∀ σ, PassesAt CX X σ (E σ)) (ha : PA X (e :: es) t)
    (hst : starEach (e :: es) X.env = (false, eval e X.env) :: starEach es X.env := by rfl) (hpl : (backTo pos (starEach es X.env)).any (·.1) = false := by rfl)
    (ht : eval (.Call (.Attribute o m apos) (e :: es) [] pos) X.env = (do
      let ov ← eval o X.env
      standAt apos.atName
      let (f, first) ← holding [ov] (getMethod ov m pl)
      callWith pos f first (backTo pos (starEach (e :: es) X.env)) (backToKw pos (keywordEach [] X.env))) := by rfl) :
    PE X (.Call (.Attribute o m apos) (e :: es) [] pos) (tMethS C m sp E ta t) := by
  refine ⟨fun pins s σ H Q I h => ?_⟩
  refine PySem.W.methodCall_KW (pl := pl) (thn (he.run pins s σ H _ I h) fun u s1 ⟨x, H1, I1, rx, a, dx, fs, ex, ea, l, q⟩ => ?_) ht
  subst ex
  obtain rfl : u = Value.ref a := rx
  refine getmeth_ok I1 ea c hm l ?_
  refine PySem.W.callWith_K (first := [.ref a]) (h₀ := X.base) I.ok.mod.kin hm.kp (thn (ha.run pos pins s1 σ H1 _ I1 q) fun us s2 ⟨vs, H2, I2, r, q2⟩ => ⟨I2.kIn, ?_⟩) hst hpl
  exact run_fnS (us := .ref a :: us) (vs := .ref a :: vs) F hr hb (hx σ) I2 (.cons rfl r) q2
/-- raise C(): an own error's class without __init__, made of nothing -/
theorem pmk_own0 {X : Cx} {C : Addr} {bmB : List Value} {B newId initId : String} {x : Str} {p pos : Pos} (F : ExcBaseFacts B newId initId bmB) (q : PySem.W.excIn X.K C bmB newId = true) (gC : X.mg x = some (.ref C)) (kC : PySem.W.keepIn X.K (.ref C) = true) (r : Raises X (.ref C)) (hg : Gl X x)
    (hdb : (x == ("__debug__" : Str)) = false := by decide) : PMk X (.Call (.Name x p) [] [] pos) (fun _ H Q => Q (.ref C) none H) := by
  intro pins s σ H Q I h
  refine wpAny_Call_Name_kw (ld_glob I hg gC ?_ hdb)
  refine PySem.W.callWith_K0 I.kIn kC ?_
  show wpAny _ _ (call (.ref C) []) _ _ _
  obtain ⟨bm, N, nm, qn, bs, hdct, sn, sub, ab, col, dd, k0, k1, k2, k3, k5, mN, hC, hN, hni, T⟩ := exc_obj I.kIn q
  refine wpAny_call_exc_subT F T hC hN hni (fun h' e hm => ?_) (Nat.zero_le _)
  exact mk_of I hm r h (I.hok.gone hm.new)
/-- a constant of the module -/
theorem pe_cst {X : Cx} {x : Str} {v : V} {pos : Pos} (hg : Gl X x) (h : ∃ u, X.mg x = some u ∧ RelV v u) (hd : (x == ("__debug__" : Str)) = false := by decide) : PE X (.Name x pos) (tC v) := by
  obtain ⟨u, h1, h2⟩ := h
  exact pe_glob hg h1 h2 hd
theorem if_true_of {c : Bool} {A B : Prop} (hc : c = true) (h : A) : if c = true then A else B := by
  rw [if_pos hc]
  exact h
theorem if_false_of {c : Bool} {A B : Prop} (hc : c = false) (h : B) : if c = true then A else B := by
  rw [hc, if_neg Bool.false_ne_true]
  exact h
/-- what «except S» says of an error of the class at C -/
theorem exm_of2 {K : PySem.W.Frag} {C S : Addr} {b : Bool} (h1 : PySem.W.subIn K (.ref C) (.type "BaseException") = some true) (h2 : PySem.W.isClsIn K S = true) (h3 : PySem.W.typeIn K (.ref S) = some (.type "type")) (h0 : PySem.W.subIn K (.ref S) (.type "BaseException") = some true) (h4 : PySem.W.subIn K (.ref C) (.ref S) = some b) :
    PySem.W.exmOne K (.ref C) (.ref S) = some b := by
  have e1 : (PySem.W.subIn K (.ref S) (.type "BaseException") == some true) = true := by rw [h0] <;> rfl
  have e2 : ((PySem.W.clsIn K S).isSome && PySem.W.typeIn K (.ref S) == some (.type "type")) = true := by
    have h2' : (PySem.W.clsIn K S).isSome = true := h2
    rw [h2', h3] <;> rfl
  show (if (PySem.W.subIn K (.ref S) (.type "BaseException") == some true) = true then (if ((PySem.W.clsIn K S).isSome && PySem.W.typeIn K (.ref S) == some (.type "type")) = true then PySem.W.subIn K (.ref C) (.ref S) else none) else none) = some b
  rw [if_pos e1, if_pos e2]
  exact h4
/-! ### the error with two fields, FaultyTerm -/
namespace FT
open PySem.W PySem.Calls PySem.HandSPX
def ftA (p1 p2 p3 : Pos) : Arguments := { posonlyargs := [], args := [{ arg := "self", annotation := none, pos := p1 }, { arg := "part_number", annotation := none, pos := p2 }, { arg := "fault", annotation := none, pos := p3 }], vararg := none, kwonlyargs := [], kw_defaults := [], kwarg := none, defaults := [] }
def ftB (q1 q2 q3 q4 q5 q6 q7 q8 : Pos) : List Stmt := [.Assign [.Attribute (.Name "self" q1) "part_number" q2] (.Name "part_number" q3) q4, .Assign [.Attribute (.Name "self" q5) "fault" q6] (.Name "fault" q7) q8]
def ftS : Scope := { kind := .function, names := [(PySem.Str.ofString "self", .local), (PySem.Str.ofString "part_number", .local), (PySem.Str.ofString "fault", .local)], isGenerator := false, isCoroutine := false, more := [] }
structure FtTxt (K : Frag) (mg : Str → Option Value) (C fI : Addr) : Prop where
  gC : mg "FaultyTerm" = some (.ref C)
  cls : ∃ nm q N bs sn sub ab col dd k0 k1 k2 k3 k5, K.lookup C = some (excClassObj nm q C N bs [.type "Exception", .type "BaseException", .type "object"] true sn sub ab col dd k0 k1 k2 k3 k5 "Exception.__new__")
  sa : findIn K (.ref C) "__setattr__" = some (some (.builtin "object.__setattr__"))
  ga : findIn K (.ref C) "__getattribute__" = some (some (.builtin "BaseException.__getattribute__"))
  gg : findIn K (.ref C) "__getattr__" = some none
  noP : findIn K (.ref C) "part_number" = some none
  noF : findIn K (.ref C) "fault" = some none
  iC : findIn K (.ref C) "__init__" = some (some (.ref fI))
  tC : typeIn K (.ref fI) = some (.type "function")
  kC : keepIn K (.ref C) = true
  exC : subIn K (.ref C) (.type "BaseException") = some true
  tyC : typeIn K (.ref C) = some (.type "type")
  hdC : hasDictIn K C = true
  fn : ∃ (oc : Value) (od : Option Addr) (kV doc pm : Value) (an : Option Addr) (cdv ct : Value) (osl : Array (Option Value)) (p1 p2 p3 q1 q2 q3 q4 q5 q6 q7 q8 : Pos),
    K.lookup fI = some ⟨oc, od, .func (fnOf "__init__" "FaultyTerm.__init__" (ftA p1 p2 p3) (ftB q1 q2 q3 q4 q5 q6 q7 q8) ftS .none kV doc pm an cdv ct), osl⟩ ∧ codeIn K cdv "FaultyTerm.__init__" = true
theorem ld {M : Model} {s : Shared} {name : Str} {scope : Scope} {L a : Addr} {cd : Value} {m : Str → Option Value} {x : Str} {pos : Pos} {v : Value} {Q : Value → Shared → Prop} {A : Around} {E : Value → Shared → Prop} (hn : s.heap.Ns L m) (hv : m x = some v) (h : Q v s)
    (hk : scope.kind = .function := by rfl) (hl : (envOfC name scope L a cd).kindOf x = some .local := by rfl) (hd : (x == ("__debug__" : Str)) = false := by decide) :
    wpAny M A (eval (.Name x pos) (envOfC name scope L a cd)) Q E s := wpAny_Name (wpAny_loadName_local hk hl hn hv h) hd
/-- the fields that __init__ gives -/
def fm (v w : Value) : Str → Option Value := fun y => if y = "fault" then some w else if y = "part_number" then some v else none
structure InitEnd (h h' : Heap) (x C dx t1 : Addr) (v w : Value) : Prop where
  keep : ∀ b o, b ≠ x → h.get? b = some o → h'.get? b = some o
  obj : h'.get? x = some { cls := .ref C, dict := some dx, data := .fields #[.ref t1, .none, .none, .none, .bool false, .none] }
  dbig : h.objs.size ≤ dx
  dne : dx ≠ x
  ns : h'.Ns1 dx (fm v w)
structure Made (h h' : Heap) (e C d : Addr) (v w : Value) : Prop where
  keep : ∀ b o, h.get? b = some o → h'.get? b = some o
  new : h.objs.size ≤ e
  obj : ∃ oe vs, h'.get? e = some oe ∧ oe.cls = .ref C ∧ oe.dict = some d ∧ oe.data = .fields vs ∧ vs[1]? = some .none
  dbig : h.objs.size ≤ d
  dne : d ≠ e
  ns : h'.Ns1 d (fm v w)
section
variable {prog : Program} {w : World} {A : Around} {E : Value → Shared → Prop} {R : Result → Shared → Prop} {s : Shared} {K : Frag} {mg : Str → Option Value} {C fI : Addr}
theorem ft_init (T : FtTxt K mg C fI) {x t0 : Addr} {v u : Value} (X : K.In s.heap) (hlim : s.heap.NoLimit) (hx : s.heap.get? x = some (excO C t0)) (hnx : K.lookup x = none) (hroom : A.depth < recursionLimit)
    (hq : ∀ h' tk dx, InitEnd s.heap h' x C dx t0 v u → R (.ok (.ret .none)) { s with heap := h', toks := tk }) :
    codeAny (model prog w) A (.call (.ref fI) ⟨[.ref x, v, u], []⟩) R s := by
  obtain ⟨oc, od, kV, doc, pm, an, cdv, ct, osl, p1, p2, p3, q1, q2, q3, q4, q5, q6, q7, q8, ho, hcd⟩ := T.fn
  obtain ⟨nm, q, N, bs, sn, sub, ab, col, dd, k0, k1, k2, k3, k5, hC⟩ := T.cls
  have hcl : clsIn K C = some { name := nm, bases := bs, mro := .ref C :: [.type "Exception", .type "BaseException", .type "object"], ns := N, qualname := q, hasDict := true, slotNames := sn, subclasses := sub, abstract := ab, collection := col, hasDel := false } := by unfold clsIn; rw [hC] <;> rfl
  refine Att.call_fn (binds := [("self", .ref x), ("part_number", v), ("fault", u)]) X hlim ho hcd hroom (BindsTo.of_eq (by first | rfl | with_unfolding_all rfl)) (by first | rfl | decide | with_unfolding_all rfl) (fun s₁ IC => ?_) rfl rfl rfl
  obtain ⟨h₁, tk₁, rfl⟩ := IC.toInCall.same
  have k : ∀ b o, s.heap.get? b = some o → h₁.get? b = some o := IC.toInCall.keep
  have hn := IC.toInCall.ns
  have hxL : s.heap.objs.size ≠ x := Nat.ne_of_gt (Heap.lt_size hx)
  have X₁ : K.In h₁ := X.keeps k
  have hx₁ := k _ _ hx
  have hb₁ : s.heap.objs.size < h₁.objs.size := hn.lt
  show wpAny _ _ (execs _ _) _ _ _
  refine wpAny_execs_cons (plainObj_wpAny_Assign_Attribute ?_)
  refine ld (v := v) hn (by first | rfl | with_unfolding_all rfl | kernel_rfl) (ld (v := .ref x) hn (by first | rfl | with_unfolding_all rfl | kernel_rfl) ?_)
  refine set_plain X₁ (ox := excO C t0) (od := none) ⟨hx₁, rfl, rfl, trivial⟩ T.sa ?_
  refine PySem.ESX.osa_new X₁ hx₁ hcl rfl rfl T.noP (fun h₃ tk₃ dx k₃ dn dne hx₃ hn₃ => ?_)
  have hn₄ := hn.at (h' := h₃) (fun o q => k₃ _ o hxL q)
  have X₃ : K.In h₃ := fun a o e => k₃ a o (fun z => by rw [z, hnx] at e; cases e) (X₁ a o e)
  have hw : Within (fun y => if y = "part_number" then some v else none) ["part_number"] := fun y hy => by
    by_cases c : y = "part_number"
    · rw [c]
      exact List.mem_cons_self ..
    · exact absurd (if_neg c) hy
  obtain ⟨oD, esD, epD, hoD, hdD, _⟩ := hn₃.count hw
  show wpAny _ _ (execs _ _) _ _ _
  refine wpAny_execs_cons (plainObj_wpAny_Assign_Attribute ?_)
  refine ld (s := ⟨h₃, _, _, _, _⟩) (v := u) hn₄ (by first | rfl | with_unfolding_all rfl | kernel_rfl) (ld (s := ⟨h₃, _, _, _, _⟩) (v := .ref x) hn₄ (by first | rfl | with_unfolding_all rfl | kernel_rfl) ?_)
  refine set_plain (s := ⟨h₃, _, _, _, _⟩) X₃ (ox := { cls := .ref C, dict := some dx, data := .fields #[.ref t0, .none, .none, .none, .bool false, .none] }) (od := some oD) ⟨hx₃, rfl, rfl, hoD⟩ T.sa ?_
  refine PySem.ESX.osa_old X₃ hx₃ hn₃ hw (by decide) hcl rfl rfl T.noF (fun h₅ tk₅ k₅ hn₅ => ?_)
  show wpAny _ _ (execs _ _) _ _ _
  have bx : ∀ b o, s.heap.get? b = some o → b ≠ dx := fun b o e => Nat.ne_of_lt (Nat.lt_of_lt_of_le (Nat.lt_trans (Heap.lt_size e) hb₁) dn)
  exact wpAny_execs_nil (hq h₅ tk₅ dx ⟨fun b o hb e => k₅ b o (bx b o e) (k₃ b o hb (k b o e)), k₅ x _ (Ne.symm dne) hx₃, Nat.le_of_lt (Nat.lt_of_lt_of_le hb₁ dn), dne, hn₅⟩)
theorem xfc {K : Frag} {mg : Str → Option Value} {C fI : Addr} (T : FtTxt K mg C fI) : L2.XfC K C := ⟨T.ga, T.gg, T.exC, T.hdC⟩
theorem two_size (v w : Value) : [v, w].length ≤ sizeLine := by
  rw [sizeLine_eq]
  exact (by decide : 2 ≤ 16777216)
theorem tail_has (C : Addr) : ∀ X : String, ([.type "Exception", .type "BaseException", .type "object"] : List Value).contains (.type X) = ([.type "Exception", .type "BaseException", .type "object"] : List Value).contains (.type X) := fun _ => rfl
theorem ft_made (T : FtTxt K mg C fI) {v u : Value} (X : K.In s.heap) (hlim : s.heap.NoLimit) (hroom : A.depth + 1 < recursionLimit)
    (hq : ∀ h' tk e d, Made s.heap h' e C d v u → R (.ok (.ret (.ref e))) { s with heap := h', toks := tk }) :
    codeAny (model prog w) A (.call (.ref C) ⟨[v, u], []⟩) R s := by
  obtain ⟨nm, q, N, bs, sn, sub, ab, col, dd, k0, k1, k2, k3, k5, hC⟩ := T.cls
  obtain ⟨hp, g, dr, tk, os⟩ := s
  have k : ∀ b o, hp.get? b = some o → ((hp.push (kdv_tup [v, u])).push (excO C hp.objs.size)).get? b = some o := fun b o e => Heap.get?_push_of_some _ (Heap.get?_push_of_some _ e)
  have hget : ((hp.push (kdv_tup [v, u])).push (excO C hp.objs.size)).get? (hp.objs.size + 1) = some (excO C hp.objs.size) := by heap_get
  have hnx : K.lookup (hp.objs.size + 1) = none := by
    cases e : K.lookup (hp.objs.size + 1) with
    | none => rfl
    | some o =>
      have z : hp.get? (hp.objs.size + 1) = some o := X _ _ e
      exact absurd (Nat.lt_of_succ_lt (Heap.lt_size z)) (Nat.lt_irrefl _)
  refine call_own F.excBase_Exception (fun X => rfl) (X _ _ hC) (looks_findIn X T.iC) (fun self => bind_fn X self T.tC) (two_size v u) ?_
  refine ft_init (s := ⟨(hp.push (kdv_tup [v, u])).push (excO C hp.objs.size), g, dr, tk, os⟩) T (X.keeps k) (hlim.keeps k) hget hnx ?_ fun h' tk' dx ⟨k', hx, dn, dne, hns⟩ => ?_
  · show A.depth + 1 < recursionLimit
    exact hroom
  · have old : ∀ b o, hp.get? b = some o → h'.get? b = some o := fun b o e => k' b o (Nat.ne_of_lt (Nat.lt_succ_of_lt (Heap.lt_size e))) (k b o e)
    have z : hp.objs.size + 1 + 1 ≤ dx := by
      first
        | (simpa only [Heap.size_push] using dn)
        | exact dn
        | (have q := dn; rw [Heap.size_push, Heap.size_push] at q; exact q)
    exact ⟨rfl, hq h' tk' (hp.objs.size + 1) dx ⟨old, Nat.le_succ _, ⟨_, _, hx, rfl, rfl, rfl, rfl⟩, Nat.le_trans (Nat.le_trans (Nat.le_succ _) (Nat.le_succ _)) z, dne, hns⟩⟩
end
end FT
/-- its fields, as the reading tells them -/
def ftF (v w : V) : List (Str × V) := [("part_number", v), ("fault", w)]
theorem relO_ft {v u : V} {v' u' : Value} (r : RelV v v') (q : RelV u u') (f : Str) : RelO (List.lookup f (ftF v u)) (FT.fm v' u' f) := by
  unfold FT.fm ftF
  by_cases hw : f = "fault"
  · subst hw
    rw [if_pos rfl]
    have e : List.lookup ("fault" : Str) [(("part_number" : Str), v), ("fault", u)] = some u := by
      have e1 : (("fault" : Str) == ("part_number" : Str)) = false := by decide +kernel
      have e2 : (("fault" : Str) == ("fault" : Str)) = true := beq_self_eq_true _
      simp only [List.lookup, e1, e2]
    rw [e]
    exact q
  · rw [if_neg hw]
    have q1 : (f == ("fault" : Str)) = false := by simpa using hw
    by_cases hp : f = "part_number"
    · subst hp
      rw [if_pos rfl]
      have e2 : (("part_number" : Str) == ("part_number" : Str)) = true := beq_self_eq_true _
      have e : List.lookup ("part_number" : Str) [(("part_number" : Str), v), ("fault", u)] = some v := by simp only [List.lookup, e2]
      rw [e]
      exact r
    · rw [if_neg hp]
      have q2 : (f == ("part_number" : Str)) = false := by simpa using hp
      have e : List.lookup f [(("part_number" : Str), v), ("fault", u)] = none := by simp only [List.lookup, q1, q2]
      rw [e]
      trivial
section
variable {X : Cx} {C fI : Addr}
def tMkFt (C : Addr) (ta : TA) : L2.St → Hp → XK → Prop := fun σ H Q => ta σ H fun vs H1 => ∃ v u, vs = [v, u] ∧ ∀ d, H1 d = none → Q (.ref C) (some d) (upd H1 d (.xd (ftF v u)))
theorem pmk_ft {a b : Expr} {ta : TA} {p pos : Pos} {k : Nat} (T : FT.FtTxt X.K X.mg C fI) (hr : Room k X.A) (ha : PA X [a, b] ta) (hg : Gl X "FaultyTerm" := by rfl)
    (he : starEach (a :: [b]) X.env = (false, eval a X.env) :: starEach [b] X.env := by rfl) (hpl : (backTo pos (starEach [b] X.env)).any (·.1) = false := by rfl) :
    PMk X (.Call (.Name "FaultyTerm" p) [a, b] [] pos) (tMkFt C ta) := by
  intro pins s σ H Q I h
  refine wpAny_Call_Name_kw (ld_glob I hg T.gC ?_)
  refine PySem.W.callWith_K (h₀ := X.base) I.ok.mod.kin T.kC (thn (ha.run pos pins s σ H _ I h) fun us s1 hh => ?_) he hpl
  obtain ⟨vs, H1, I1, r1, v, u, ev, q1⟩ := hh
  subst ev
  refine ⟨I1.kIn, ?_⟩
  cases r1 with
  | @cons _ v' _ us1 rv rn =>
    cases rn with
    | @cons _ u' _ us2 ru rn =>
      cases rn
      show wpAny _ _ (call (.ref C) [v', u']) _ _ _
      have hlim := I1.nolimit
      obtain ⟨hp, g, dr, tk, os⟩ := s1
      refine wpAny_call (FT.ft_made T I1.kIn hlim (by have := hr.dp; omega) fun h' tk' e d M => ?_)
      show MkP X pins σ Q (.ref e) ⟨h', g, dr, tk', os⟩
      obtain ⟨oe, fv, hoe, hc, hd, hdat, h1⟩ := M.obj
      have hns := M.ns
      obtain ⟨G', g1, g2⟩ := restrict h' fun b => decide (b ≠ e)
      have gk : ∀ b, b ≠ e → G'.get? b = h'.get? b := fun b hb => g1 b (decide_eq_true hb)
      have ge : G'.get? e = none := g2 e (by simp)
      have old : ∀ b o, hp.get? b = some o → G'.get? b = some o := fun b o q => (gk b (Nat.ne_of_lt (Nat.lt_of_lt_of_le (Heap.lt_size q) M.new))).trans (M.keep b o q)
      have ob : ObjOk X.prog X.w (upd H1 d (.xd (ftF v u))) G' d (.xd (ftF v u)) :=
        ⟨_, hns.at (fun o q => (gk d M.dne).trans q), fun f => relO_ft rv ru f⟩
      have J : Inv X pins σ (upd H1 d (.xd (ftF v u))) ⟨G', g, dr, tk', os⟩ := I1.laid (t' := tk') old M.dbig ob
      refine ⟨e, oe, fv, ⟨G', g, dr, tk', os⟩, _, .ref C, some d, rfl, J, fun b o q => ?_, ge, hoe, ⟨hc, hd⟩, hdat, h1, ?_, rfl, I1.bare, raises_own T.exC T.tyC, q1 d (I1.hok.fresh M.dbig)⟩
      · by_cases hb : b = e
        · have q' : G'.get? b = some o := q
          rw [hb, ge] at q'; cases q'
        · exact (gk b hb).symm.trans q
      · rw [upd_ne (Ne.symm M.dne)]
        exact I1.hok.fresh M.new
def tRaiseFt (C : Addr) (W : WX) (ta : TA) : TS := fun _ σ H => tMkFt C ta σ H fun cls d H' => W cls d σ H'
theorem ps_raiseFt {a b : Expr} {ta : TA} {W : WX} {p pos pos2 : Pos} {k : Nat} (hc : X.calm = true) (T : FT.FtTxt X.K X.mg C fI) (hr : Room k X.A) (tk : Takes X W) (ha : PA X [a, b] ta) (hg : Gl X "FaultyTerm" := by rfl)
    (he : starEach (a :: [b]) X.env = (false, eval a X.env) :: starEach [b] X.env := by rfl) (hpl : (backTo pos (starEach [b] X.env)).any (·.1) = false := by rfl) :
    PS X (.Raise (some (.Call (.Name "FaultyTerm" p) [a, b] [] pos)) none pos2) (tRaiseFt C W ta) := ps_raise hc tk (pmk_ft T hr ha hg he hpl)
end
/-! ### several except clauses, with «as» or without -/
/-- how an except suite is left: the error's name (slot i) is gone behind it -/
def behind (o : Option Nat) (D : Ends) : Ends := match o with
  | none => D
  | some i => { nx := fun σ' H' => D.nx (σ'.set i none) H', rt := D.rt, bk := fun σ' H' => D.bk (σ'.set i none) H', ct := fun σ' H' => D.ct (σ'.set i none) H' }
def named (o : Option Nat) (a : Addr) (σ : L2.St) : L2.St := match o with
  | none => σ
  | some i => σ.set i (some (.ref a))
abbrev Clause := Value × Option Nat × (Addr → Value → Option Addr → TS)
def wishes (K : PySem.W.Frag) (Wout : WX) (D : Ends) : List Clause → WX
  | [] => Wout
  | (c, o, ts) :: r => fun cls d σ H => ∃ b, PySem.W.exmOne K cls c = some b ∧ (b = true → ∀ a, H a = none → ts a cls d (behind o D) (named o a σ) H) ∧ (b = false → wishes K Wout D r cls d σ H)
inductive ClausesOk (X : Cx) : List ExceptHandler → List Clause → Prop
  | nil : ClausesOk X [] []
  | plain {x : Str} {c : Value} {ts : Addr → Value → Option Addr → TS} {b₀ : Stmt} {suite : List Stmt} {np pos' : Pos} {hds : List ExceptHandler} {l : List Clause} (hc : Names X x c)
      (hsu : ∀ (a : Addr) (oe : Obj) (cls : Value) (d : Option Addr) (pn : List (Addr × Obj)), Zc cls d oe → (∃ vs, oe.data = .fields vs) → PSs (X.suite a ((a, oe) :: pn)) (b₀ :: suite) (ts a cls d)) (r : ClausesOk X hds l) :
      ClausesOk X (.ExceptHandler (some (.Name x np)) none (b₀ :: suite) pos' :: hds) ((c, none, ts) :: l)
  | nmd {x n : Str} {i : Nat} {c : Value} {ts : Addr → Value → Option Addr → TS} {b₀ : Stmt} {suite : List Stmt} {np pos' : Pos} {hds : List ExceptHandler} {l : List Clause} (hc : Names X x c) (hi : X.N[i]? = some n) (hln : X.env.kindOf n = some .local)
      (hsu : ∀ (a : Addr) (oe : Obj) (cls : Value) (d : Option Addr) (pn : List (Addr × Obj)), Zc cls d oe → (∃ vs, oe.data = .fields vs) → PSs (X.suite a ((a, oe) :: pn)) (b₀ :: suite) (ts a cls d)) (r : ClausesOk X hds l) :
      ClausesOk X (.ExceptHandler (some (.Name x np)) (some n) (b₀ :: suite) pos' :: hds) ((c, some i, ts) :: l)
section
variable {X : Cx} {body : List Stmt} {h₀ : ExceptHandler} {hds : List ExceptHandler} {l : List Clause} {pos : Pos} {tb : WX → TS} {Wout : WX}
theorem ps_tries (hN : X.N.Nodup) (hs : X.stack = X.env :: X.outer) (hf : X.env.frame = some X.env.locals) (tk : Takes X Wout)
    (hb : ∀ (W : WX) (pn : List (Addr × Obj)) (xe : Value → Shared → Prop), Takes (X.tr pn xe) W → PassesOwn (model X.prog X.w) X.A X.env xe → PSs (X.tr pn xe) body (tb W))
    (hh : ClausesOk X (h₀ :: hds) l) : PS X (.Try body (h₀ :: hds) [] [] pos) (fun D σ H => tb (wishes X.K Wout D l) D σ H) := by
  refine ⟨fun pins s σ H D I h => ?_⟩
  have ok := I.ok
  have hfr : X.A.frames = some (X.env :: X.outer) := ok.frames.trans (congrArg some hs)
  refine wpAny_Try_except (wpAny_mono ((hb (wishes X.K Wout D l) (X.pn ++ pins) (fun e s₁ => wpAny (model X.prog X.w) X.A (noteFrame e X.env) (fun _ s₂ => wpAny (model X.prog X.w) X.A (setFlight e none) (fun _ s₃ =>
    wpAny (model X.prog X.w) X.A (handleBy e X.env (h₀ :: hds)) (SP X pins D) X.xe s₃) X.xe s₂) X.xe s₁) (fun u s' xx => ?_) PassesOwn.looking).run [] s σ H D (I.toTry _) h) (fun f s1 hsp => ?_) (fun e s1 he => he))
  · obtain ⟨a, B, sI, pins', σ', H', cls, d, rfl, J', nb, up, sky, na, os, ag, w⟩ := xx
    have J : Inv X pins σ' H' sI := J'.ofTry ok
    have sky' : Sky B (X.env :: X.outer) a (Zc cls d) X.env.locals s'.heap := by rw [← hs]; exact sky
    show wpAny (model X.prog X.w) X.A (noteFrame (.ref a) X.env) _ _ _
    refine Sky.land Zc.steady hfr hf sky' fun h3 fl3 up3 => ?_
    have J3 : Inv X pins σ' H' { s' with heap := h3 } := J.landed nb fl3.1 (up.trans up3) os ag
    obtain ⟨oe3, vs3, he3, hz3, hd3⟩ := fl3.there
    have nfr : a ∉ frs (X.env :: X.outer) := fun hm => by
      obtain ⟨_, o', e', hnf⟩ := fl3.2.2.1.mem hm
      rw [he3] at e'; cases e'
      exact hnf _ hd3
    have nL : a ≠ X.env.locals := fun z => nfr (List.mem_filterMap.mpr ⟨X.env, List.mem_cons_self, by rw [hf, z]⟩)
    have nF : a ∉ X.fs := fun hm => by
      obtain ⟨e, he, q⟩ := List.mem_filterMap.mp hm
      exact nfr (List.mem_filterMap.mpr ⟨e, List.mem_cons_of_mem _ he, q⟩)
    have S3 := J3.suite he3 hd3 na nL nF
    have LT : PySem.W.Looks (model X.prog X.w) h3 (typeOf (.ref a)) cls := fun A Q E s k q => wpAny_typeOf_ref (k _ _ he3) (by rw [hz3.1]; exact q)
    have test : ∀ {x : Str} {c : Value} {np : Pos} {Q : Value → Shared → Prop} {E : Value → Shared → Prop}, Names X x c → Q c { s' with heap := h3 } → wpAny (model X.prog X.w) (X.A.mark (some (.ref a))) (eval (.Name x np) X.env) Q E { s' with heap := h3 } := fun {x c np Q E} hc q => by
      obtain ⟨hg, hdbg, hm | ⟨hm, hv, hnn⟩⟩ := hc
      · exact ld_glob (X := X.suite a ((a, oe3) :: (X.pn ++ pins))) S3 hg hm q hdbg
      · exact ld_blt (X := X.suite a ((a, oe3) :: (X.pn ++ pins))) S3 hg hm hv q hnn hdbg
    have go : ∀ {hds' : List ExceptHandler} {l' : List Clause}, ClausesOk X hds' l' → wishes X.K Wout D l' cls d σ' H' →
        wpAny (model X.prog X.w) X.A (handleBy (.ref a) X.env hds') (SP X pins D) X.xe { s' with heap := h3 } := by
      intro hds' l' hk
      induction hk with
      | nil =>
        intro w
        refine wpAny_handleBy_nil ?_
        obtain ⟨k1, k2, k3, oe, vs, T, oT, ts', he, hz, hd, h1, hr⟩ := id fl3
        unfold PySem.passOn
        refine wpAny_bind (wpAny_field he hd h1 ?_)
        rw [if_neg (show ¬ ((Value.ref T == Value.none) = true) from by simp)]
        have fin : wpAny (model X.prog X.w) X.A (setFlight (.ref a) X.env.frame) (fun _ s4 => wpAny (model X.prog X.w) X.A (throw (.ref a) : Sem Flow) (SP X pins D) X.xe s4) X.xe { s' with heap := h3 } := by
          rw [hf]
          refine HandSPX.setFlight_upZ fl3 fun h4 hh4 up4 => wpAny_throw (tk _ _ ?_)
          exact ⟨a, B, sI, pins, σ', H', cls, d, rfl, J, nb, (up.trans up3).trans up4, .inr (.inr (by rw [hs]; exact hh4)), na, os, ag, w⟩
        first
          | exact wpAny_bind (wpAny_pure (wpAny_bind fin))
          | exact wpAny_bind fin
      | @plain x c ts b₀ suite np pos' hds2 l2 hc hsu r ih =>
        intro w
        obtain ⟨b, hb1, hyes, hno⟩ := w
        refine wpAny_handleBy_cons (codeAny_handlers_test ?_) (by intro q; cases q)
        have LM := PySem.W.exm_one (M := model X.prog X.w) (J3.kIn) LT hb1
        refine test hc (LM.here ?_)
        cases b with
        | true =>
          refine codeAny_handlers_suite (HandSPX.lands_againZ fl3 fun h4 fl4 up4 => ?_)
          have J4 : Inv X pins σ' H' { s' with heap := h4 } := J.landed nb fl4.1 ((up.trans up3).trans up4) os ag
          obtain ⟨oe4, vs4, he4, hz4, hd4⟩ := fl4.there
          have S4 := J4.suite he4 hd4 na nL nF
          refine wpAny_mono ((hsu a oe4 cls d (X.pn ++ pins) hz4 ⟨_, hd4⟩).run [] _ _ H' _ S4 (hyes rfl a na)) (fun f s6 hsp => ?_) (fun _ _ z => False.elim z)
          cases f with
          | next =>
            obtain ⟨σ6, H6, S6, q6⟩ := hsp
            exact ⟨_, _, S6.unsuite ok, q6⟩
          | brk =>
            obtain ⟨σ6, H6, S6, q6⟩ := hsp
            exact ⟨_, _, S6.unsuite ok, q6⟩
          | cont =>
            obtain ⟨σ6, H6, S6, q6⟩ := hsp
            exact ⟨_, _, S6.unsuite ok, q6⟩
          | ret u =>
            obtain ⟨v6, σ6, H6, S6, r6, q6⟩ := hsp
            exact ⟨_, _, _, S6.unsuite ok, r6, q6⟩
        | false =>
          show wpAny _ X.A (handleBy (.ref a) X.env hds2) _ _ _
          exact ih (hno rfl)
      | @nmd x n i c ts b₀ suite np pos' hds2 l2 hc hi hln hsu r ih =>
        intro w
        obtain ⟨b, hb1, hyes, hno⟩ := w
        refine wpAny_handleBy_cons (codeAny_handlers_test ?_) (by intro q; cases q)
        have LM := PySem.W.exm_one (M := model X.prog X.w) (J3.kIn) LT hb1
        refine test hc (LM.here ?_)
        cases b with
        | true =>
          refine codeAny_handlers_suite_as (HandSPX.lands_againZ fl3 fun h4 fl4 up4 => ?_)
          have J4 : Inv X pins σ' H' { s' with heap := h4 } := J.landed nb fl4.1 ((up.trans up3).trans up4) os ag
          obtain ⟨oe4, vs4, he4, hz4, hd4⟩ := fl4.there
          have S4 := J4.suite he4 hd4 na nL nF
          refine store_ok (X := X.suite a ((a, oe4) :: (X.pn ++ pins))) (v := .ref a) S4 hN hi (.inl hln) rfl (fun s5 S5 => ?_) (.inr hln)
          refine wpAny_mono ((hsu a oe4 cls d (X.pn ++ pins) hz4 ⟨_, hd4⟩).run [] s5 _ H' _ S5 (hyes rfl a na)) (fun f s6 hsp => ?_) (fun _ _ z => False.elim z)
          have gone : ∀ {σ6 : L2.St} {H6 : Hp} {Q : Shared → Prop}, Inv (X.suite a ((a, oe4) :: (X.pn ++ pins))) [] σ6 H6 s6 → (∀ s7, Inv X pins (σ6.set i none) H6 s7 → Q s7) →
              wpAny (model X.prog X.w) X.A (do bindName X.env n .none; unbindBehindTheSuite X.env n pos') (fun _ s7 => Q s7) X.xe s6 := fun {σ6 H6 Q} S6 hq => gone_ok (S6.unsuite ok) hN hi hln hq
          cases f with
          | next =>
            obtain ⟨σ6, H6, S6, q6⟩ := hsp
            exact gone S6 fun s7 J7 => ⟨_, _, J7, q6⟩
          | brk =>
            obtain ⟨σ6, H6, S6, q6⟩ := hsp
            exact gone S6 fun s7 J7 => ⟨_, _, J7, q6⟩
          | cont =>
            obtain ⟨σ6, H6, S6, q6⟩ := hsp
            exact gone S6 fun s7 J7 => ⟨_, _, J7, q6⟩
          | ret u =>
            obtain ⟨v6, σ6, H6, S6, r6, q6⟩ := hsp
            exact gone S6 fun s7 J7 => ⟨_, _, _, J7, r6, q6⟩
        | false =>
          show wpAny _ X.A (handleBy (.ref a) X.env hds2) _ _ _
          exact ih (hno rfl)
    exact go hh w
  · cases f with
    | next =>
      obtain ⟨σ', H', J', q⟩ := hsp
      exact wpAny_execs_nil ⟨σ', H', J'.ofTry ok, q⟩
    | brk =>
      obtain ⟨σ', H', J', q⟩ := hsp
      exact ⟨σ', H', J'.ofTry ok, q⟩
    | cont =>
      obtain ⟨σ', H', J', q⟩ := hsp
      exact ⟨σ', H', J'.ofTry ok, q⟩
    | ret u =>
      obtain ⟨v, σ', H', J', r, q⟩ := hsp
      exact ⟨v, σ', H', J'.ofTry ok, r, q⟩
end
/-! ### the places of the text -/
def top (i : Nat) : Stmt := PySem.Challenge.pw_freecharge_s01_answers.main.body.getD i (.Pass ⟨0, 0, 0, 0⟩)
abbrev s_Reader_init : Stmt := inClass (top 7) 0
theorem sc_Reader_init : FnScope ["self", "numbers"] ["self", "numbers"] (defScope s_Reader_init) := ⟨rfl, rfl, rfl, by decide +kernel, rfl, by decide +kernel, by decide +kernel⟩
abbrev s_Reader_at_end : Stmt := inClass (top 7) 1
theorem sc_Reader_at_end : FnScope ["self"] ["self"] (defScope s_Reader_at_end) := ⟨rfl, rfl, rfl, by decide +kernel, rfl, by decide +kernel, by decide +kernel⟩
abbrev s_Reader_take : Stmt := inClass (top 7) 2
theorem sc_Reader_take : FnScope ["self", "number"] ["self"] (defScope s_Reader_take) := ⟨rfl, rfl, rfl, by decide +kernel, rfl, by decide +kernel, by decide +kernel⟩
abbrev s_Reader_take_row : Stmt := inClass (top 7) 3
theorem sc_Reader_take_row : FnScope ["self", "length", "start"] ["self"] (defScope s_Reader_take_row) := ⟨rfl, rfl, rfl, by decide +kernel, rfl, by decide +kernel, by decide +kernel⟩
abbrev s_read_kind : Stmt := top 16
theorem sc_read_kind : FnScope ["reader", "variables", "depth", "head", "first", "second"] ["reader", "variables", "depth"] (defScope s_read_kind) := ⟨rfl, rfl, rfl, by decide +kernel, rfl, by decide +kernel, by decide +kernel⟩
abbrev s_read_variable : Stmt := top 17
theorem sc_read_variable : FnScope ["reader", "variables", "variable"] ["reader", "variables"] (defScope s_read_variable) := ⟨rfl, rfl, rfl, by decide +kernel, rfl, by decide +kernel, by decide +kernel⟩
abbrev s_read_kind_row : Stmt := top 18
theorem sc_read_kind_row : FnScope ["row", "variables", "reader", "kind"] ["row", "variables"] (defScope s_read_kind_row) := ⟨rfl, rfl, rfl, by decide +kernel, rfl, by decide +kernel, by decide +kernel⟩
abbrev s_kind_row : Stmt := top 19
theorem sc_kind_row : FnScope ["kind", "row", "waiting", "part"] ["kind"] (defScope s_kind_row) := ⟨rfl, rfl, rfl, by decide +kernel, rfl, by decide +kernel, by decide +kernel⟩
abbrev s_kind_size : Stmt := top 20
theorem sc_kind_size : FnScope ["kind", "set_sizes", "largest", "size", "first", "second"] ["kind", "set_sizes", "largest"] (defScope s_kind_size) := ⟨rfl, rfl, rfl, by decide +kernel, rfl, by decide +kernel, by decide +kernel⟩
abbrev s_joined_size : Stmt := top 21
theorem sc_joined_size : FnScope ["head", "first", "second"] ["head", "first", "second"] (defScope s_joined_size) := ⟨rfl, rfl, rfl, by decide +kernel, rfl, by decide +kernel, by decide +kernel⟩
abbrev s_functions_size : Stmt := top 22
theorem sc_functions_size : FnScope ["taken", "given", "size", "value"] ["taken", "given"] (defScope s_functions_size) := ⟨rfl, rfl, rfl, by decide +kernel, rfl, by decide +kernel, by decide +kernel⟩
abbrev s_Part_init : Stmt := inClass (top 38) 0
theorem sc_Part_init : FnScope ["self", "head", "number", "told"] ["self", "head", "number", "told"] (defScope s_Part_init) := ⟨rfl, rfl, rfl, by decide +kernel, rfl, by decide +kernel, by decide +kernel⟩
abbrev s_read_term_row : Stmt := top 39
theorem sc_read_term_row : FnScope ["row", "variables", "reader", "found"] ["row", "variables"] (defScope s_read_term_row) := ⟨rfl, rfl, rfl, by decide +kernel, rfl, by decide +kernel, by decide +kernel⟩
abbrev s_read_term : Stmt := top 40
theorem sc_read_term : FnScope ["reader", "variables", "depth", "found", "head", "part", "turn"] ["reader", "variables", "depth", "found"] (defScope s_read_term) := ⟨rfl, rfl, rfl, by decide +kernel, rfl, by decide +kernel, by decide +kernel⟩
abbrev s_read_told : Stmt := top 41
theorem sc_read_told : FnScope ["reader", "head", "variables"] ["reader", "head", "variables"] (defScope s_read_told) := ⟨rfl, rfl, rfl, by decide +kernel, rfl, by decide +kernel, by decide +kernel⟩
abbrev s_give_kinds : Stmt := top 46
theorem sc_give_kinds : FnScope ["part", "around", "inside", "own"] ["part", "around"] (defScope s_give_kinds) := ⟨rfl, rfl, rfl, by decide +kernel, rfl, by decide +kernel, by decide +kernel⟩
abbrev s_found_kind : Stmt := top 47
theorem sc_found_kind : FnScope ["part", "around", "kinds", "own"] ["part", "around"] (defScope s_found_kind) := ⟨rfl, rfl, rfl, by decide +kernel, rfl, by decide +kernel, by decide +kernel⟩
abbrev s_variable_kind : Stmt := top 48
theorem sc_variable_kind : FnScope ["part", "around"] ["part", "around"] (defScope s_variable_kind) := ⟨rfl, rfl, rfl, by decide +kernel, rfl, by decide +kernel, by decide +kernel⟩
abbrev s_cases_kind : Stmt := top 49
theorem sc_cases_kind : FnScope ["part", "chosen", "for_left", "for_right"] ["part", "chosen", "for_left", "for_right"] (defScope s_cases_kind) := ⟨rfl, rfl, rfl, by decide +kernel, rfl, by decide +kernel, by decide +kernel⟩
abbrev s_put_kind : Stmt := top 50
theorem sc_put_kind : FnScope ["part", "function", "argument"] ["part", "function", "argument"] (defScope s_put_kind) := ⟨rfl, rfl, rfl, by decide +kernel, rfl, by decide +kernel, by decide +kernel⟩
abbrev s_if_kind : Stmt := top 51
theorem sc_if_kind : FnScope ["part", "asked", "for_yes", "for_no"] ["part", "asked", "for_yes", "for_no"] (defScope s_if_kind) := ⟨rfl, rfl, rfl, by decide +kernel, rfl, by decide +kernel, by decide +kernel⟩
abbrev s_want : Stmt := top 52
theorem sc_want : FnScope ["part", "kind", "head"] ["part", "kind", "head"] (defScope s_want) := ⟨rfl, rfl, rfl, by decide +kernel, rfl, by decide +kernel, by decide +kernel⟩
abbrev s_want_same : Stmt := top 53
theorem sc_want_same : FnScope ["part", "first", "second"] ["part", "first", "second"] (defScope s_want_same) := ⟨rfl, rfl, rfl, by decide +kernel, rfl, by decide +kernel, by decide +kernel⟩
abbrev s_refuse_too_large : Stmt := top 55
theorem sc_refuse_too_large : FnScope ["kind", "left_sizes", "right_sizes", "largest", "heaviest"] ["kind", "left_sizes", "right_sizes", "largest", "heaviest"] (defScope s_refuse_too_large) := ⟨rfl, rfl, rfl, by decide +kernel, rfl, by decide +kernel, by decide +kernel⟩
abbrev s_kind_weight : Stmt := top 56
theorem sc_kind_weight : FnScope ["kind", "left_sizes", "right_sizes", "largest", "first", "second", "weight"] ["kind", "left_sizes", "right_sizes", "largest"] (defScope s_kind_weight) := ⟨rfl, rfl, rfl, by decide +kernel, rfl, by decide +kernel, by decide +kernel⟩
abbrev s_kind_relation : Stmt := top 57
theorem sc_kind_relation : FnScope ["kind", "right_sizes", "told", "largest", "first", "second", "first_size", "second_size", "marks"] ["kind", "right_sizes", "told", "largest"] (defScope s_kind_relation) := ⟨rfl, rfl, rfl, by decide +kernel, rfl, by decide +kernel, by decide +kernel⟩
abbrev s_pair_relation : Stmt := top 58
theorem sc_pair_relation : FnScope ["first", "second", "first_size", "second_size", "relation", "marks", "widened", "other"] ["first", "second", "first_size", "second_size"] (defScope s_pair_relation) := ⟨rfl, rfl, rfl, by decide +kernel, rfl, by decide +kernel, by decide +kernel⟩
abbrev s_function_relation : Stmt := top 59
theorem sc_function_relation : FnScope ["taken", "given", "taken_size", "given_size", "related_places", "relation", "function", "allowed", "marks"] ["taken", "given", "taken_size", "given_size"] (defScope s_function_relation) := ⟨rfl, rfl, rfl, by decide +kernel, rfl, by decide +kernel, by decide +kernel⟩
abbrev s_allowed_marks : Stmt := top 60
theorem sc_allowed_marks : FnScope ["function", "related_places", "given", "taken_size", "given_size", "allowed", "rest", "arguments", "marks", "argument"] ["function", "related_places", "given", "taken_size", "given_size"] (defScope s_allowed_marks) := ⟨rfl, rfl, rfl, by decide +kernel, rfl, by decide +kernel, by decide +kernel⟩
abbrev s_functions_within : Stmt := top 61
theorem sc_functions_within : FnScope ["allowed", "given_size", "found", "power", "marks"] ["allowed", "given_size"] (defScope s_functions_within) := ⟨rfl, rfl, rfl, by decide +kernel, rfl, by decide +kernel, by decide +kernel⟩
abbrev s_spread : Stmt := top 62
theorem sc_spread : FnScope ["marks", "size", "step", "found", "place"] ["marks", "size", "step"] (defScope s_spread) := ⟨rfl, rfl, rfl, by decide +kernel, rfl, by decide +kernel, by decide +kernel⟩
abbrev s_places : Stmt := top 63
theorem sc_places : FnScope ["marks", "size", "place"] ["marks", "size"] (defScope s_places) := ⟨rfl, rfl, rfl, by decide +kernel, rfl, by decide +kernel, by decide +kernel⟩
abbrev s_is_marked : Stmt := top 64
theorem sc_is_marked : FnScope ["marks", "place"] ["marks", "place"] (defScope s_is_marked) := ⟨rfl, rfl, rfl, by decide +kernel, rfl, by decide +kernel, by decide +kernel⟩
abbrev s_refuse_too_many : Stmt := top 68
theorem sc_refuse_too_many : FnScope ["set_sizes"] ["set_sizes"] (defScope s_refuse_too_many) := ⟨rfl, rfl, rfl, by decide +kernel, rfl, by decide +kernel, by decide +kernel⟩
abbrev s_pairs_of_all : Stmt := top 69
theorem sc_pairs_of_all : FnScope ["set_sizes", "size"] ["set_sizes"] (defScope s_pairs_of_all) := ⟨rfl, rfl, rfl, by decide +kernel, rfl, by decide +kernel, by decide +kernel⟩
abbrev s_kept_values : Stmt := top 70
theorem sc_kept_values : FnScope ["kind", "set_sizes", "largest", "kept", "chosen", "relation", "value"] ["kind", "set_sizes", "largest"] (defScope s_kept_values) := ⟨rfl, rfl, rfl, by decide +kernel, rfl, by decide +kernel, by decide +kernel⟩
abbrev s_chosen_relations : Stmt := top 71
theorem sc_chosen_relations : FnScope ["chosen", "set_sizes", "relations", "rest", "size", "relation", "value"] ["chosen", "set_sizes"] (defScope s_chosen_relations) := ⟨rfl, rfl, rfl, by decide +kernel, rfl, by decide +kernel, by decide +kernel⟩
abbrev s_term_meaning : Stmt := top 74
theorem sc_term_meaning : FnScope ["parts", "set_sizes"] ["parts", "set_sizes"] (defScope s_term_meaning) := ⟨rfl, rfl, rfl, by decide +kernel, rfl, by decide +kernel, by decide +kernel⟩
abbrev s_measure_parts : Stmt := top 75
theorem sc_measure_parts : FnScope ["parts", "set_sizes", "part"] ["parts", "set_sizes"] (defScope s_measure_parts) := ⟨rfl, rfl, rfl, by decide +kernel, rfl, by decide +kernel, by decide +kernel⟩
abbrev s_found_weight : Stmt := top 76
theorem sc_found_weight : FnScope ["part", "set_sizes", "own"] ["part", "set_sizes"] (defScope s_found_weight) := ⟨rfl, rfl, rfl, by decide +kernel, rfl, by decide +kernel, by decide +kernel⟩
abbrev s_part_table : Stmt := top 77
theorem sc_part_table : FnScope ["part", "around", "set_sizes", "own"] ["part", "around", "set_sizes"] (defScope s_part_table) := ⟨rfl, rfl, rfl, by decide +kernel, rfl, by decide +kernel, by decide +kernel⟩
abbrev s_choices : Stmt := top 78
theorem sc_choices : FnScope ["around", "found", "size"] ["around"] (defScope s_choices) := ⟨rfl, rfl, rfl, by decide +kernel, rfl, by decide +kernel, by decide +kernel⟩
abbrev s_variable_table : Stmt := top 79
theorem sc_variable_table : FnScope ["told", "around", "place", "size", "step", "choice"] ["told", "around"] (defScope s_variable_table) := ⟨rfl, rfl, rfl, by decide +kernel, rfl, by decide +kernel, by decide +kernel⟩
abbrev s_function_table : Stmt := top 80
theorem sc_function_table : FnScope ["part", "around", "set_sizes", "size", "body", "given", "table", "power", "argument", "number", "value"] ["part", "around", "set_sizes"] (defScope s_function_table) := ⟨rfl, rfl, rfl, by decide +kernel, rfl, by decide +kernel, by decide +kernel⟩
abbrev s_joined_table : Stmt := top 81
theorem sc_joined_table : FnScope ["part", "tables", "set_sizes", "own", "size", "first", "second", "number", "asked", "yes", "no"] ["part", "tables", "set_sizes"] (defScope s_joined_table) := ⟨rfl, rfl, rfl, by decide +kernel, rfl, by decide +kernel, by decide +kernel⟩
abbrev s_cases_table : Stmt := top 82
theorem sc_cases_table : FnScope ["part", "tables", "size", "given", "powers", "number", "for_left", "for_right"] ["part", "tables", "size"] (defScope s_cases_table) := ⟨rfl, rfl, rfl, by decide +kernel, rfl, by decide +kernel, by decide +kernel⟩
abbrev s_put_table : Stmt := top 83
theorem sc_put_table : FnScope ["functions", "arguments", "given", "taken", "powers", "function", "argument"] ["functions", "arguments", "given", "taken"] (defScope s_put_table) := ⟨rfl, rfl, rfl, by decide +kernel, rfl, by decide +kernel, by decide +kernel⟩
abbrev s_powers_of : Stmt := top 84
theorem sc_powers_of : FnScope ["base", "count", "powers", "power", "turn"] ["base", "count"] (defScope s_powers_of) := ⟨rfl, rfl, rfl, by decide +kernel, rfl, by decide +kernel, by decide +kernel⟩
abbrev s_House_init : Stmt := inClass (top 100) 0
theorem sc_House_init : FnScope ["self"] ["self"] (defScope s_House_init) := ⟨rfl, rfl, rfl, by decide +kernel, rfl, by decide +kernel, by decide +kernel⟩
abbrev s_House_begin : Stmt := inClass (top 100) 1
theorem sc_House_begin : FnScope ["self", "variables", "variable"] ["self", "variables"] (defScope s_House_begin) := ⟨rfl, rfl, rfl, by decide +kernel, rfl, by decide +kernel, by decide +kernel⟩
abbrev s_House_variables : Stmt := inClass (top 100) 2
theorem sc_House_variables : FnScope ["self"] ["self"] (defScope s_House_variables) := ⟨rfl, rfl, rfl, by decide +kernel, rfl, by decide +kernel, by decide +kernel⟩
abbrev s_House_sets : Stmt := inClass (top 100) 3
theorem sc_House_sets : FnScope ["self", "variable", "left_size", "right_size"] ["self", "variable", "left_size", "right_size"] (defScope s_House_sets) := ⟨rfl, rfl, rfl, by decide +kernel, rfl, by decide +kernel, by decide +kernel⟩
abbrev s_House_relate : Stmt := inClass (top 100) 4
theorem sc_House_relate : FnScope ["self", "variable", "left", "right", "relation"] ["self", "variable", "left", "right"] (defScope s_House_relate) := ⟨rfl, rfl, rfl, by decide +kernel, rfl, by decide +kernel, by decide +kernel⟩
abbrev s_House_size : Stmt := inClass (top 100) 5
theorem sc_House_size : FnScope ["self", "side", "row", "kind"] ["self", "side", "row"] (defScope s_House_size) := ⟨rfl, rfl, rfl, by decide +kernel, rfl, by decide +kernel, by decide +kernel⟩
abbrev s_House_meaning : Stmt := inClass (top 100) 6
theorem sc_House_meaning : FnScope ["self", "side", "row", "parts", "number"] ["self", "side", "row"] (defScope s_House_meaning) := ⟨rfl, rfl, rfl, by decide +kernel, rfl, by decide +kernel, by decide +kernel⟩
abbrev s_House_relation_of : Stmt := inClass (top 100) 7
theorem sc_House_relation_of : FnScope ["self", "kind", "largest", "heaviest"] ["self", "kind", "largest", "heaviest"] (defScope s_House_relation_of) := ⟨rfl, rfl, rfl, by decide +kernel, rfl, by decide +kernel, by decide +kernel⟩
abbrev s_House_related : Stmt := inClass (top 100) 8
theorem sc_House_related : FnScope ["self", "left", "right", "row", "kind", "relation"] ["self", "left", "right", "row"] (defScope s_House_related) := ⟨rfl, rfl, rfl, by decide +kernel, rfl, by decide +kernel, by decide +kernel⟩
abbrev s_House_count : Stmt := inClass (top 100) 9
theorem sc_House_count : FnScope ["self", "row", "kind", "relation", "right_size", "pairs", "left", "marks", "right"] ["self", "row"] (defScope s_House_count) := ⟨rfl, rfl, rfl, by decide +kernel, rfl, by decide +kernel, by decide +kernel⟩
abbrev s_House_kept : Stmt := inClass (top 100) 10
theorem sc_House_kept : FnScope ["self", "row", "kind", "left_sizes", "kept"] ["self", "row"] (defScope s_House_kept) := ⟨rfl, rfl, rfl, by decide +kernel, rfl, by decide +kernel, by decide +kernel⟩
abbrev s_answers : Stmt := top 101
theorem sc_answers : FnScope ["calls", "house", "reader", "answered", "answer"] ["calls"] (defScope s_answers) := ⟨rfl, rfl, rfl, by decide +kernel, rfl, by decide +kernel, by decide +kernel⟩
abbrev s_answer_or_refusal : Stmt := top 102
theorem sc_answer_or_refusal : FnScope ["house", "reader", "faulty"] ["house", "reader"] (defScope s_answer_or_refusal) := ⟨rfl, rfl, rfl, by decide +kernel, rfl, by decide +kernel, by decide +kernel⟩
abbrev s_answer_call : Stmt := top 103
theorem sc_answer_call : FnScope ["house", "reader", "call"] ["house", "reader"] (defScope s_answer_call) := ⟨rfl, rfl, rfl, by decide +kernel, rfl, by decide +kernel, by decide +kernel⟩
/-- what the top has written -/
structure Txt (K : PySem.W.Frag) (mg : Str → Option Value) : Type where
  C_Reader : Addr
  cl_Reader : Cls K C_Reader
  g_Reader : mg "Reader" = some (.ref C_Reader)
  n_Reader_numbers : NoAttr K C_Reader "numbers"
  n_Reader_place : NoAttr K C_Reader "place"
  C_Part : Addr
  cl_Part : Cls K C_Part
  g_Part : mg "Part" = some (.ref C_Part)
  n_Part_head : NoAttr K C_Part "head"
  n_Part_number : NoAttr K C_Part "number"
  n_Part_told : NoAttr K C_Part "told"
  n_Part_parts : NoAttr K C_Part "parts"
  n_Part_kind : NoAttr K C_Part "kind"
  n_Part_extent : NoAttr K C_Part "extent"
  n_Part_weight : NoAttr K C_Part "weight"
  C_House : Addr
  cl_House : Cls K C_House
  g_House : mg "House" = some (.ref C_House)
  n_House_set_sizes : NoAttr K C_House "set_sizes"
  n_House_told_relations : NoAttr K C_House "told_relations"
  C_Unfit : Addr
  C_TooManyRelations : Addr
  C_FaultyTerm : Addr
  C_TooLarge : Addr
  C_UnknownCall : Addr
  g_Unfit : mg "Unfit" = some (.ref C_Unfit)
  x_Unfit : PySem.W.excIn K C_Unfit [.type "Exception", .type "BaseException", .type "object"] "Exception.__new__" = true
  k_Unfit : PySem.W.keepIn K (.ref C_Unfit) = true
  b_Unfit : PySem.W.subIn K (.ref C_Unfit) (.type "BaseException") = some true
  t_Unfit : PySem.W.typeIn K (.ref C_Unfit) = some (.type "type")
  e_Unfit_Unfit : PySem.W.exmOne K (.ref C_Unfit) (.ref C_Unfit) = some true
  e_Unfit_TooManyRelations : PySem.W.exmOne K (.ref C_Unfit) (.ref C_TooManyRelations) = some false
  e_Unfit_FaultyTerm : PySem.W.exmOne K (.ref C_Unfit) (.ref C_FaultyTerm) = some false
  e_Unfit_TooLarge : PySem.W.exmOne K (.ref C_Unfit) (.ref C_TooLarge) = some false
  e_Unfit_UnknownCall : PySem.W.exmOne K (.ref C_Unfit) (.ref C_UnknownCall) = some false
  g_TooManyRelations : mg "TooManyRelations" = some (.ref C_TooManyRelations)
  x_TooManyRelations : PySem.W.excIn K C_TooManyRelations [.type "Exception", .type "BaseException", .type "object"] "Exception.__new__" = true
  k_TooManyRelations : PySem.W.keepIn K (.ref C_TooManyRelations) = true
  b_TooManyRelations : PySem.W.subIn K (.ref C_TooManyRelations) (.type "BaseException") = some true
  t_TooManyRelations : PySem.W.typeIn K (.ref C_TooManyRelations) = some (.type "type")
  e_TooManyRelations_Unfit : PySem.W.exmOne K (.ref C_TooManyRelations) (.ref C_Unfit) = some false
  e_TooManyRelations_TooManyRelations : PySem.W.exmOne K (.ref C_TooManyRelations) (.ref C_TooManyRelations) = some true
  e_TooManyRelations_FaultyTerm : PySem.W.exmOne K (.ref C_TooManyRelations) (.ref C_FaultyTerm) = some false
  e_TooManyRelations_TooLarge : PySem.W.exmOne K (.ref C_TooManyRelations) (.ref C_TooLarge) = some false
  e_TooManyRelations_UnknownCall : PySem.W.exmOne K (.ref C_TooManyRelations) (.ref C_UnknownCall) = some false
  g_FaultyTerm : mg "FaultyTerm" = some (.ref C_FaultyTerm)
  k_FaultyTerm : PySem.W.keepIn K (.ref C_FaultyTerm) = true
  b_FaultyTerm : PySem.W.subIn K (.ref C_FaultyTerm) (.type "BaseException") = some true
  t_FaultyTerm : PySem.W.typeIn K (.ref C_FaultyTerm) = some (.type "type")
  e_FaultyTerm_Unfit : PySem.W.exmOne K (.ref C_FaultyTerm) (.ref C_Unfit) = some false
  e_FaultyTerm_TooManyRelations : PySem.W.exmOne K (.ref C_FaultyTerm) (.ref C_TooManyRelations) = some false
  e_FaultyTerm_FaultyTerm : PySem.W.exmOne K (.ref C_FaultyTerm) (.ref C_FaultyTerm) = some true
  e_FaultyTerm_TooLarge : PySem.W.exmOne K (.ref C_FaultyTerm) (.ref C_TooLarge) = some false
  e_FaultyTerm_UnknownCall : PySem.W.exmOne K (.ref C_FaultyTerm) (.ref C_UnknownCall) = some false
  g_TooLarge : mg "TooLarge" = some (.ref C_TooLarge)
  x_TooLarge : PySem.W.excIn K C_TooLarge [.type "Exception", .type "BaseException", .type "object"] "Exception.__new__" = true
  k_TooLarge : PySem.W.keepIn K (.ref C_TooLarge) = true
  b_TooLarge : PySem.W.subIn K (.ref C_TooLarge) (.type "BaseException") = some true
  t_TooLarge : PySem.W.typeIn K (.ref C_TooLarge) = some (.type "type")
  e_TooLarge_Unfit : PySem.W.exmOne K (.ref C_TooLarge) (.ref C_Unfit) = some false
  e_TooLarge_TooManyRelations : PySem.W.exmOne K (.ref C_TooLarge) (.ref C_TooManyRelations) = some false
  e_TooLarge_FaultyTerm : PySem.W.exmOne K (.ref C_TooLarge) (.ref C_FaultyTerm) = some false
  e_TooLarge_TooLarge : PySem.W.exmOne K (.ref C_TooLarge) (.ref C_TooLarge) = some true
  e_TooLarge_UnknownCall : PySem.W.exmOne K (.ref C_TooLarge) (.ref C_UnknownCall) = some false
  g_UnknownCall : mg "UnknownCall" = some (.ref C_UnknownCall)
  x_UnknownCall : PySem.W.excIn K C_UnknownCall [.type "Exception", .type "BaseException", .type "object"] "Exception.__new__" = true
  k_UnknownCall : PySem.W.keepIn K (.ref C_UnknownCall) = true
  b_UnknownCall : PySem.W.subIn K (.ref C_UnknownCall) (.type "BaseException") = some true
  t_UnknownCall : PySem.W.typeIn K (.ref C_UnknownCall) = some (.type "type")
  e_UnknownCall_Unfit : PySem.W.exmOne K (.ref C_UnknownCall) (.ref C_Unfit) = some false
  e_UnknownCall_TooManyRelations : PySem.W.exmOne K (.ref C_UnknownCall) (.ref C_TooManyRelations) = some false
  e_UnknownCall_FaultyTerm : PySem.W.exmOne K (.ref C_UnknownCall) (.ref C_FaultyTerm) = some false
  e_UnknownCall_TooLarge : PySem.W.exmOne K (.ref C_UnknownCall) (.ref C_TooLarge) = some false
  e_UnknownCall_UnknownCall : PySem.W.exmOne K (.ref C_UnknownCall) (.ref C_UnknownCall) = some true
  I_FaultyTerm : Addr
  ft_FaultyTerm : FT.FtTxt K mg C_FaultyTerm I_FaultyTerm
  f_Reader_init : Addr
  fd_Reader_init : FuncData
  F_Reader_init : Fun K "__init__" "Reader.__init__" s_Reader_init f_Reader_init fd_Reader_init
  b_Reader_init : Binds K fd_Reader_init ["self", "numbers"] []
  k_Reader_init : PySem.W.keepIn K (.ref f_Reader_init) = true
  mk_Reader : Mk K C_Reader f_Reader_init
  f_Reader_at_end : Addr
  fd_Reader_at_end : FuncData
  F_Reader_at_end : Fun K "at_end" "Reader.at_end" s_Reader_at_end f_Reader_at_end fd_Reader_at_end
  b_Reader_at_end : Binds K fd_Reader_at_end ["self"] []
  k_Reader_at_end : PySem.W.keepIn K (.ref f_Reader_at_end) = true
  m_Reader_at_end : Meth K C_Reader "at_end" f_Reader_at_end
  f_Reader_take : Addr
  fd_Reader_take : FuncData
  F_Reader_take : Fun K "take" "Reader.take" s_Reader_take f_Reader_take fd_Reader_take
  b_Reader_take : Binds K fd_Reader_take ["self"] []
  k_Reader_take : PySem.W.keepIn K (.ref f_Reader_take) = true
  m_Reader_take : Meth K C_Reader "take" f_Reader_take
  f_Reader_take_row : Addr
  fd_Reader_take_row : FuncData
  F_Reader_take_row : Fun K "take_row" "Reader.take_row" s_Reader_take_row f_Reader_take_row fd_Reader_take_row
  b_Reader_take_row : Binds K fd_Reader_take_row ["self"] []
  k_Reader_take_row : PySem.W.keepIn K (.ref f_Reader_take_row) = true
  m_Reader_take_row : Meth K C_Reader "take_row" f_Reader_take_row
  f_read_kind : Addr
  fd_read_kind : FuncData
  F_read_kind : FunD K "read_kind" "read_kind" (defArgs s_read_kind) (defBody s_read_kind) (defScope s_read_kind) [V.int 1] [] f_read_kind fd_read_kind
  d_read_kind : ∃ ds, Vals [V.int 1] ds ∧ Binds K fd_read_kind ["reader", "variables", "depth"] ds
  b_read_kind : Binds K fd_read_kind ["reader", "variables", "depth"] []
  k_read_kind : PySem.W.keepIn K (.ref f_read_kind) = true
  g_read_kind : mg "read_kind" = some (.ref f_read_kind)
  f_read_variable : Addr
  fd_read_variable : FuncData
  F_read_variable : Fun K "read_variable" "read_variable" s_read_variable f_read_variable fd_read_variable
  b_read_variable : Binds K fd_read_variable ["reader", "variables"] []
  k_read_variable : PySem.W.keepIn K (.ref f_read_variable) = true
  g_read_variable : mg "read_variable" = some (.ref f_read_variable)
  f_read_kind_row : Addr
  fd_read_kind_row : FuncData
  F_read_kind_row : Fun K "read_kind_row" "read_kind_row" s_read_kind_row f_read_kind_row fd_read_kind_row
  b_read_kind_row : Binds K fd_read_kind_row ["row", "variables"] []
  k_read_kind_row : PySem.W.keepIn K (.ref f_read_kind_row) = true
  g_read_kind_row : mg "read_kind_row" = some (.ref f_read_kind_row)
  f_kind_row : Addr
  fd_kind_row : FuncData
  F_kind_row : Fun K "kind_row" "kind_row" s_kind_row f_kind_row fd_kind_row
  b_kind_row : Binds K fd_kind_row ["kind"] []
  k_kind_row : PySem.W.keepIn K (.ref f_kind_row) = true
  g_kind_row : mg "kind_row" = some (.ref f_kind_row)
  f_kind_size : Addr
  fd_kind_size : FuncData
  F_kind_size : Fun K "kind_size" "kind_size" s_kind_size f_kind_size fd_kind_size
  b_kind_size : Binds K fd_kind_size ["kind", "set_sizes", "largest"] []
  k_kind_size : PySem.W.keepIn K (.ref f_kind_size) = true
  g_kind_size : mg "kind_size" = some (.ref f_kind_size)
  f_joined_size : Addr
  fd_joined_size : FuncData
  F_joined_size : Fun K "joined_size" "joined_size" s_joined_size f_joined_size fd_joined_size
  b_joined_size : Binds K fd_joined_size ["head", "first", "second"] []
  k_joined_size : PySem.W.keepIn K (.ref f_joined_size) = true
  g_joined_size : mg "joined_size" = some (.ref f_joined_size)
  f_functions_size : Addr
  fd_functions_size : FuncData
  F_functions_size : Fun K "functions_size" "functions_size" s_functions_size f_functions_size fd_functions_size
  b_functions_size : Binds K fd_functions_size ["taken", "given"] []
  k_functions_size : PySem.W.keepIn K (.ref f_functions_size) = true
  g_functions_size : mg "functions_size" = some (.ref f_functions_size)
  f_Part_init : Addr
  fd_Part_init : FuncData
  F_Part_init : Fun K "__init__" "Part.__init__" s_Part_init f_Part_init fd_Part_init
  b_Part_init : Binds K fd_Part_init ["self", "head", "number", "told"] []
  k_Part_init : PySem.W.keepIn K (.ref f_Part_init) = true
  mk_Part : Mk K C_Part f_Part_init
  f_read_term_row : Addr
  fd_read_term_row : FuncData
  F_read_term_row : Fun K "read_term_row" "read_term_row" s_read_term_row f_read_term_row fd_read_term_row
  b_read_term_row : Binds K fd_read_term_row ["row", "variables"] []
  k_read_term_row : PySem.W.keepIn K (.ref f_read_term_row) = true
  g_read_term_row : mg "read_term_row" = some (.ref f_read_term_row)
  f_read_term : Addr
  fd_read_term : FuncData
  F_read_term : Fun K "read_term" "read_term" s_read_term f_read_term fd_read_term
  b_read_term : Binds K fd_read_term ["reader", "variables", "depth", "found"] []
  k_read_term : PySem.W.keepIn K (.ref f_read_term) = true
  g_read_term : mg "read_term" = some (.ref f_read_term)
  f_read_told : Addr
  fd_read_told : FuncData
  F_read_told : Fun K "read_told" "read_told" s_read_told f_read_told fd_read_told
  b_read_told : Binds K fd_read_told ["reader", "head", "variables"] []
  k_read_told : PySem.W.keepIn K (.ref f_read_told) = true
  g_read_told : mg "read_told" = some (.ref f_read_told)
  f_give_kinds : Addr
  fd_give_kinds : FuncData
  F_give_kinds : Fun K "give_kinds" "give_kinds" s_give_kinds f_give_kinds fd_give_kinds
  b_give_kinds : Binds K fd_give_kinds ["part", "around"] []
  k_give_kinds : PySem.W.keepIn K (.ref f_give_kinds) = true
  g_give_kinds : mg "give_kinds" = some (.ref f_give_kinds)
  f_found_kind : Addr
  fd_found_kind : FuncData
  F_found_kind : Fun K "found_kind" "found_kind" s_found_kind f_found_kind fd_found_kind
  b_found_kind : Binds K fd_found_kind ["part", "around"] []
  k_found_kind : PySem.W.keepIn K (.ref f_found_kind) = true
  g_found_kind : mg "found_kind" = some (.ref f_found_kind)
  f_variable_kind : Addr
  fd_variable_kind : FuncData
  F_variable_kind : Fun K "variable_kind" "variable_kind" s_variable_kind f_variable_kind fd_variable_kind
  b_variable_kind : Binds K fd_variable_kind ["part", "around"] []
  k_variable_kind : PySem.W.keepIn K (.ref f_variable_kind) = true
  g_variable_kind : mg "variable_kind" = some (.ref f_variable_kind)
  f_cases_kind : Addr
  fd_cases_kind : FuncData
  F_cases_kind : Fun K "cases_kind" "cases_kind" s_cases_kind f_cases_kind fd_cases_kind
  b_cases_kind : Binds K fd_cases_kind ["part", "chosen", "for_left", "for_right"] []
  k_cases_kind : PySem.W.keepIn K (.ref f_cases_kind) = true
  g_cases_kind : mg "cases_kind" = some (.ref f_cases_kind)
  f_put_kind : Addr
  fd_put_kind : FuncData
  F_put_kind : Fun K "put_kind" "put_kind" s_put_kind f_put_kind fd_put_kind
  b_put_kind : Binds K fd_put_kind ["part", "function", "argument"] []
  k_put_kind : PySem.W.keepIn K (.ref f_put_kind) = true
  g_put_kind : mg "put_kind" = some (.ref f_put_kind)
  f_if_kind : Addr
  fd_if_kind : FuncData
  F_if_kind : Fun K "if_kind" "if_kind" s_if_kind f_if_kind fd_if_kind
  b_if_kind : Binds K fd_if_kind ["part", "asked", "for_yes", "for_no"] []
  k_if_kind : PySem.W.keepIn K (.ref f_if_kind) = true
  g_if_kind : mg "if_kind" = some (.ref f_if_kind)
  f_want : Addr
  fd_want : FuncData
  F_want : Fun K "want" "want" s_want f_want fd_want
  b_want : Binds K fd_want ["part", "kind", "head"] []
  k_want : PySem.W.keepIn K (.ref f_want) = true
  g_want : mg "want" = some (.ref f_want)
  f_want_same : Addr
  fd_want_same : FuncData
  F_want_same : Fun K "want_same" "want_same" s_want_same f_want_same fd_want_same
  b_want_same : Binds K fd_want_same ["part", "first", "second"] []
  k_want_same : PySem.W.keepIn K (.ref f_want_same) = true
  g_want_same : mg "want_same" = some (.ref f_want_same)
  f_refuse_too_large : Addr
  fd_refuse_too_large : FuncData
  F_refuse_too_large : Fun K "refuse_too_large" "refuse_too_large" s_refuse_too_large f_refuse_too_large fd_refuse_too_large
  b_refuse_too_large : Binds K fd_refuse_too_large ["kind", "left_sizes", "right_sizes", "largest", "heaviest"] []
  k_refuse_too_large : PySem.W.keepIn K (.ref f_refuse_too_large) = true
  g_refuse_too_large : mg "refuse_too_large" = some (.ref f_refuse_too_large)
  f_kind_weight : Addr
  fd_kind_weight : FuncData
  F_kind_weight : Fun K "kind_weight" "kind_weight" s_kind_weight f_kind_weight fd_kind_weight
  b_kind_weight : Binds K fd_kind_weight ["kind", "left_sizes", "right_sizes", "largest"] []
  k_kind_weight : PySem.W.keepIn K (.ref f_kind_weight) = true
  g_kind_weight : mg "kind_weight" = some (.ref f_kind_weight)
  f_kind_relation : Addr
  fd_kind_relation : FuncData
  F_kind_relation : Fun K "kind_relation" "kind_relation" s_kind_relation f_kind_relation fd_kind_relation
  b_kind_relation : Binds K fd_kind_relation ["kind", "right_sizes", "told", "largest"] []
  k_kind_relation : PySem.W.keepIn K (.ref f_kind_relation) = true
  g_kind_relation : mg "kind_relation" = some (.ref f_kind_relation)
  f_pair_relation : Addr
  fd_pair_relation : FuncData
  F_pair_relation : Fun K "pair_relation" "pair_relation" s_pair_relation f_pair_relation fd_pair_relation
  b_pair_relation : Binds K fd_pair_relation ["first", "second", "first_size", "second_size"] []
  k_pair_relation : PySem.W.keepIn K (.ref f_pair_relation) = true
  g_pair_relation : mg "pair_relation" = some (.ref f_pair_relation)
  f_function_relation : Addr
  fd_function_relation : FuncData
  F_function_relation : Fun K "function_relation" "function_relation" s_function_relation f_function_relation fd_function_relation
  b_function_relation : Binds K fd_function_relation ["taken", "given", "taken_size", "given_size"] []
  k_function_relation : PySem.W.keepIn K (.ref f_function_relation) = true
  g_function_relation : mg "function_relation" = some (.ref f_function_relation)
  f_allowed_marks : Addr
  fd_allowed_marks : FuncData
  F_allowed_marks : Fun K "allowed_marks" "allowed_marks" s_allowed_marks f_allowed_marks fd_allowed_marks
  b_allowed_marks : Binds K fd_allowed_marks ["function", "related_places", "given", "taken_size", "given_size"] []
  k_allowed_marks : PySem.W.keepIn K (.ref f_allowed_marks) = true
  g_allowed_marks : mg "allowed_marks" = some (.ref f_allowed_marks)
  f_functions_within : Addr
  fd_functions_within : FuncData
  F_functions_within : Fun K "functions_within" "functions_within" s_functions_within f_functions_within fd_functions_within
  b_functions_within : Binds K fd_functions_within ["allowed", "given_size"] []
  k_functions_within : PySem.W.keepIn K (.ref f_functions_within) = true
  g_functions_within : mg "functions_within" = some (.ref f_functions_within)
  f_spread : Addr
  fd_spread : FuncData
  F_spread : Fun K "spread" "spread" s_spread f_spread fd_spread
  b_spread : Binds K fd_spread ["marks", "size", "step"] []
  k_spread : PySem.W.keepIn K (.ref f_spread) = true
  g_spread : mg "spread" = some (.ref f_spread)
  f_places : Addr
  fd_places : FuncData
  F_places : Fun K "places" "places" s_places f_places fd_places
  b_places : Binds K fd_places ["marks", "size"] []
  k_places : PySem.W.keepIn K (.ref f_places) = true
  g_places : mg "places" = some (.ref f_places)
  f_is_marked : Addr
  fd_is_marked : FuncData
  F_is_marked : Fun K "is_marked" "is_marked" s_is_marked f_is_marked fd_is_marked
  b_is_marked : Binds K fd_is_marked ["marks", "place"] []
  k_is_marked : PySem.W.keepIn K (.ref f_is_marked) = true
  g_is_marked : mg "is_marked" = some (.ref f_is_marked)
  f_refuse_too_many : Addr
  fd_refuse_too_many : FuncData
  F_refuse_too_many : Fun K "refuse_too_many" "refuse_too_many" s_refuse_too_many f_refuse_too_many fd_refuse_too_many
  b_refuse_too_many : Binds K fd_refuse_too_many ["set_sizes"] []
  k_refuse_too_many : PySem.W.keepIn K (.ref f_refuse_too_many) = true
  g_refuse_too_many : mg "refuse_too_many" = some (.ref f_refuse_too_many)
  f_pairs_of_all : Addr
  fd_pairs_of_all : FuncData
  F_pairs_of_all : Fun K "pairs_of_all" "pairs_of_all" s_pairs_of_all f_pairs_of_all fd_pairs_of_all
  b_pairs_of_all : Binds K fd_pairs_of_all ["set_sizes"] []
  k_pairs_of_all : PySem.W.keepIn K (.ref f_pairs_of_all) = true
  g_pairs_of_all : mg "pairs_of_all" = some (.ref f_pairs_of_all)
  f_kept_values : Addr
  fd_kept_values : FuncData
  F_kept_values : Fun K "kept_values" "kept_values" s_kept_values f_kept_values fd_kept_values
  b_kept_values : Binds K fd_kept_values ["kind", "set_sizes", "largest"] []
  k_kept_values : PySem.W.keepIn K (.ref f_kept_values) = true
  g_kept_values : mg "kept_values" = some (.ref f_kept_values)
  f_chosen_relations : Addr
  fd_chosen_relations : FuncData
  F_chosen_relations : Fun K "chosen_relations" "chosen_relations" s_chosen_relations f_chosen_relations fd_chosen_relations
  b_chosen_relations : Binds K fd_chosen_relations ["chosen", "set_sizes"] []
  k_chosen_relations : PySem.W.keepIn K (.ref f_chosen_relations) = true
  g_chosen_relations : mg "chosen_relations" = some (.ref f_chosen_relations)
  f_term_meaning : Addr
  fd_term_meaning : FuncData
  F_term_meaning : Fun K "term_meaning" "term_meaning" s_term_meaning f_term_meaning fd_term_meaning
  b_term_meaning : Binds K fd_term_meaning ["parts", "set_sizes"] []
  k_term_meaning : PySem.W.keepIn K (.ref f_term_meaning) = true
  g_term_meaning : mg "term_meaning" = some (.ref f_term_meaning)
  f_measure_parts : Addr
  fd_measure_parts : FuncData
  F_measure_parts : Fun K "measure_parts" "measure_parts" s_measure_parts f_measure_parts fd_measure_parts
  b_measure_parts : Binds K fd_measure_parts ["parts", "set_sizes"] []
  k_measure_parts : PySem.W.keepIn K (.ref f_measure_parts) = true
  g_measure_parts : mg "measure_parts" = some (.ref f_measure_parts)
  f_found_weight : Addr
  fd_found_weight : FuncData
  F_found_weight : Fun K "found_weight" "found_weight" s_found_weight f_found_weight fd_found_weight
  b_found_weight : Binds K fd_found_weight ["part", "set_sizes"] []
  k_found_weight : PySem.W.keepIn K (.ref f_found_weight) = true
  g_found_weight : mg "found_weight" = some (.ref f_found_weight)
  f_part_table : Addr
  fd_part_table : FuncData
  F_part_table : Fun K "part_table" "part_table" s_part_table f_part_table fd_part_table
  b_part_table : Binds K fd_part_table ["part", "around", "set_sizes"] []
  k_part_table : PySem.W.keepIn K (.ref f_part_table) = true
  g_part_table : mg "part_table" = some (.ref f_part_table)
  f_choices : Addr
  fd_choices : FuncData
  F_choices : Fun K "choices" "choices" s_choices f_choices fd_choices
  b_choices : Binds K fd_choices ["around"] []
  k_choices : PySem.W.keepIn K (.ref f_choices) = true
  g_choices : mg "choices" = some (.ref f_choices)
  f_variable_table : Addr
  fd_variable_table : FuncData
  F_variable_table : Fun K "variable_table" "variable_table" s_variable_table f_variable_table fd_variable_table
  b_variable_table : Binds K fd_variable_table ["told", "around"] []
  k_variable_table : PySem.W.keepIn K (.ref f_variable_table) = true
  g_variable_table : mg "variable_table" = some (.ref f_variable_table)
  f_function_table : Addr
  fd_function_table : FuncData
  F_function_table : Fun K "function_table" "function_table" s_function_table f_function_table fd_function_table
  b_function_table : Binds K fd_function_table ["part", "around", "set_sizes"] []
  k_function_table : PySem.W.keepIn K (.ref f_function_table) = true
  g_function_table : mg "function_table" = some (.ref f_function_table)
  f_joined_table : Addr
  fd_joined_table : FuncData
  F_joined_table : Fun K "joined_table" "joined_table" s_joined_table f_joined_table fd_joined_table
  b_joined_table : Binds K fd_joined_table ["part", "tables", "set_sizes"] []
  k_joined_table : PySem.W.keepIn K (.ref f_joined_table) = true
  g_joined_table : mg "joined_table" = some (.ref f_joined_table)
  f_cases_table : Addr
  fd_cases_table : FuncData
  F_cases_table : Fun K "cases_table" "cases_table" s_cases_table f_cases_table fd_cases_table
  b_cases_table : Binds K fd_cases_table ["part", "tables", "size"] []
  k_cases_table : PySem.W.keepIn K (.ref f_cases_table) = true
  g_cases_table : mg "cases_table" = some (.ref f_cases_table)
  f_put_table : Addr
  fd_put_table : FuncData
  F_put_table : Fun K "put_table" "put_table" s_put_table f_put_table fd_put_table
  b_put_table : Binds K fd_put_table ["functions", "arguments", "given", "taken"] []
  k_put_table : PySem.W.keepIn K (.ref f_put_table) = true
  g_put_table : mg "put_table" = some (.ref f_put_table)
  f_powers_of : Addr
  fd_powers_of : FuncData
  F_powers_of : Fun K "powers_of" "powers_of" s_powers_of f_powers_of fd_powers_of
  b_powers_of : Binds K fd_powers_of ["base", "count"] []
  k_powers_of : PySem.W.keepIn K (.ref f_powers_of) = true
  g_powers_of : mg "powers_of" = some (.ref f_powers_of)
  f_House_init : Addr
  fd_House_init : FuncData
  F_House_init : Fun K "__init__" "House.__init__" s_House_init f_House_init fd_House_init
  b_House_init : Binds K fd_House_init ["self"] []
  k_House_init : PySem.W.keepIn K (.ref f_House_init) = true
  mk_House : Mk K C_House f_House_init
  f_House_begin : Addr
  fd_House_begin : FuncData
  F_House_begin : Fun K "begin" "House.begin" s_House_begin f_House_begin fd_House_begin
  b_House_begin : Binds K fd_House_begin ["self", "variables"] []
  k_House_begin : PySem.W.keepIn K (.ref f_House_begin) = true
  m_House_begin : Meth K C_House "begin" f_House_begin
  f_House_variables : Addr
  fd_House_variables : FuncData
  F_House_variables : Fun K "variables" "House.variables" s_House_variables f_House_variables fd_House_variables
  b_House_variables : Binds K fd_House_variables ["self"] []
  k_House_variables : PySem.W.keepIn K (.ref f_House_variables) = true
  m_House_variables : Meth K C_House "variables" f_House_variables
  f_House_sets : Addr
  fd_House_sets : FuncData
  F_House_sets : Fun K "sets" "House.sets" s_House_sets f_House_sets fd_House_sets
  b_House_sets : Binds K fd_House_sets ["self", "variable", "left_size", "right_size"] []
  k_House_sets : PySem.W.keepIn K (.ref f_House_sets) = true
  m_House_sets : Meth K C_House "sets" f_House_sets
  f_House_relate : Addr
  fd_House_relate : FuncData
  F_House_relate : Fun K "relate" "House.relate" s_House_relate f_House_relate fd_House_relate
  b_House_relate : Binds K fd_House_relate ["self", "variable", "left", "right"] []
  k_House_relate : PySem.W.keepIn K (.ref f_House_relate) = true
  m_House_relate : Meth K C_House "relate" f_House_relate
  f_House_size : Addr
  fd_House_size : FuncData
  F_House_size : Fun K "size" "House.size" s_House_size f_House_size fd_House_size
  b_House_size : Binds K fd_House_size ["self", "side", "row"] []
  k_House_size : PySem.W.keepIn K (.ref f_House_size) = true
  m_House_size : Meth K C_House "size" f_House_size
  f_House_meaning : Addr
  fd_House_meaning : FuncData
  F_House_meaning : Fun K "meaning" "House.meaning" s_House_meaning f_House_meaning fd_House_meaning
  b_House_meaning : Binds K fd_House_meaning ["self", "side", "row"] []
  k_House_meaning : PySem.W.keepIn K (.ref f_House_meaning) = true
  m_House_meaning : Meth K C_House "meaning" f_House_meaning
  f_House_relation_of : Addr
  fd_House_relation_of : FuncData
  F_House_relation_of : Fun K "relation_of" "House.relation_of" s_House_relation_of f_House_relation_of fd_House_relation_of
  b_House_relation_of : Binds K fd_House_relation_of ["self", "kind", "largest", "heaviest"] []
  k_House_relation_of : PySem.W.keepIn K (.ref f_House_relation_of) = true
  m_House_relation_of : Meth K C_House "relation_of" f_House_relation_of
  f_House_related : Addr
  fd_House_related : FuncData
  F_House_related : Fun K "related" "House.related" s_House_related f_House_related fd_House_related
  b_House_related : Binds K fd_House_related ["self", "left", "right", "row"] []
  k_House_related : PySem.W.keepIn K (.ref f_House_related) = true
  m_House_related : Meth K C_House "related" f_House_related
  f_House_count : Addr
  fd_House_count : FuncData
  F_House_count : Fun K "count" "House.count" s_House_count f_House_count fd_House_count
  b_House_count : Binds K fd_House_count ["self", "row"] []
  k_House_count : PySem.W.keepIn K (.ref f_House_count) = true
  m_House_count : Meth K C_House "count" f_House_count
  f_House_kept : Addr
  fd_House_kept : FuncData
  F_House_kept : Fun K "kept" "House.kept" s_House_kept f_House_kept fd_House_kept
  b_House_kept : Binds K fd_House_kept ["self", "row"] []
  k_House_kept : PySem.W.keepIn K (.ref f_House_kept) = true
  m_House_kept : Meth K C_House "kept" f_House_kept
  f_answers : Addr
  fd_answers : FuncData
  F_answers : Fun K "answers" "answers" s_answers f_answers fd_answers
  b_answers : Binds K fd_answers ["calls"] []
  k_answers : PySem.W.keepIn K (.ref f_answers) = true
  g_answers : mg "answers" = some (.ref f_answers)
  f_answer_or_refusal : Addr
  fd_answer_or_refusal : FuncData
  F_answer_or_refusal : Fun K "answer_or_refusal" "answer_or_refusal" s_answer_or_refusal f_answer_or_refusal fd_answer_or_refusal
  b_answer_or_refusal : Binds K fd_answer_or_refusal ["house", "reader"] []
  k_answer_or_refusal : PySem.W.keepIn K (.ref f_answer_or_refusal) = true
  g_answer_or_refusal : mg "answer_or_refusal" = some (.ref f_answer_or_refusal)
  f_answer_call : Addr
  fd_answer_call : FuncData
  F_answer_call : Fun K "answer_call" "answer_call" s_answer_call f_answer_call fd_answer_call
  b_answer_call : Binds K fd_answer_call ["house", "reader"] []
  k_answer_call : PySem.W.keepIn K (.ref f_answer_call) = true
  g_answer_call : mg "answer_call" = some (.ref f_answer_call)
  g_VARIABLE : ∃ u, mg "VARIABLE" = some u ∧ RelV (.int 0) u
  g_TWO : ∃ u, mg "TWO" = some u ∧ RelV (.int 1) u
  g_PAIR : ∃ u, mg "PAIR" = some u ∧ RelV (.int 2) u
  g_EITHER : ∃ u, mg "EITHER" = some u ∧ RelV (.int 3) u
  g_FUNCTION : ∃ u, mg "FUNCTION" = some u ∧ RelV (.int 4) u
  g_DEEPEST : ∃ u, mg "DEEPEST" = some u ∧ RelV (.int 6) u
  g_LARGEST : ∃ u, mg "LARGEST" = some u ∧ RelV (.int 256) u
  g_VARIABLE_TERM : ∃ u, mg "VARIABLE_TERM" = some u ∧ RelV (.int 0) u
  g_PAIR_TERM : ∃ u, mg "PAIR_TERM" = some u ∧ RelV (.int 1) u
  g_FIRST : ∃ u, mg "FIRST" = some u ∧ RelV (.int 2) u
  g_SECOND : ∃ u, mg "SECOND" = some u ∧ RelV (.int 3) u
  g_LEFT : ∃ u, mg "LEFT" = some u ∧ RelV (.int 4) u
  g_RIGHT : ∃ u, mg "RIGHT" = some u ∧ RelV (.int 5) u
  g_CASES : ∃ u, mg "CASES" = some u ∧ RelV (.int 6) u
  g_FUNCTION_TERM : ∃ u, mg "FUNCTION_TERM" = some u ∧ RelV (.int 7) u
  g_PUT : ∃ u, mg "PUT" = some u ∧ RelV (.int 8) u
  g_YES : ∃ u, mg "YES" = some u ∧ RelV (.int 9) u
  g_NO : ∃ u, mg "NO" = some u ∧ RelV (.int 10) u
  g_IF : ∃ u, mg "IF" = some u ∧ RelV (.int 11) u
  t_PART_COUNTS : Addr
  g_PART_COUNTS : mg "PART_COUNTS" = some (.ref t_PART_COUNTS)
  q_PART_COUNTS : ∀ H : Hp, SqT K H t_PART_COUNTS [V.int 0, V.int 2, V.int 1, V.int 1, V.int 1, V.int 1, V.int 3, V.int 1, V.int 2, V.int 0, V.int 0, V.int 3]
  g_DEEPEST_TERM : ∃ u, mg "DEEPEST_TERM" = some u ∧ RelV (.int 20) u
  g_NO_FUNCTION : ∃ u, mg "NO_FUNCTION" = some u ∧ RelV (.int 1) u
  g_NOT_WANTED : ∃ u, mg "NOT_WANTED" = some u ∧ RelV (.int 2) u
  g_NOT_THE_SAME : ∃ u, mg "NOT_THE_SAME" = some u ∧ RelV (.int 3) u
  g_LARGEST_KEPT_SET : ∃ u, mg "LARGEST_KEPT_SET" = some u ∧ RelV (.int 2) u
  g_MOST_PAIRS : ∃ u, mg "MOST_PAIRS" = some u ∧ RelV (.int 8) u
  g_HEAVIEST_TERM : ∃ u, mg "HEAVIEST_TERM" = some u ∧ RelV (.int 65536) u
  g_BEGIN : ∃ u, mg "BEGIN" = some u ∧ RelV (.int 0) u
  g_SETS : ∃ u, mg "SETS" = some u ∧ RelV (.int 1) u
  g_RELATE : ∃ u, mg "RELATE" = some u ∧ RelV (.int 2) u
  g_SIZE : ∃ u, mg "SIZE" = some u ∧ RelV (.int 3) u
  g_MEANING : ∃ u, mg "MEANING" = some u ∧ RelV (.int 4) u
  g_RELATED : ∃ u, mg "RELATED" = some u ∧ RelV (.int 5) u
  g_COUNT : ∃ u, mg "COUNT" = some u ∧ RelV (.int 6) u
  g_KEPT : ∃ u, mg "KEPT" = some u ∧ RelV (.int 7) u
  g_SIDES : ∃ u, mg "SIDES" = some u ∧ RelV (.int 2) u
  g_MOST_VARIABLES : ∃ u, mg "MOST_VARIABLES" = some u ∧ RelV (.int 3) u
  g_LARGEST_SET : ∃ u, mg "LARGEST_SET" = some u ∧ RelV (.int 3) u
  g_HEAVIEST_KIND : ∃ u, mg "HEAVIEST_KIND" = some u ∧ RelV (.int 1000000) u
  g_LARGEST_COUNTED : ∃ u, mg "LARGEST_COUNTED" = some u ∧ RelV (.int 32) u
  g_HEAVIEST_COUNTED : ∃ u, mg "HEAVIEST_COUNTED" = some u ∧ RelV (.int 4096) u
  n_range : mg "range" = none
  n_max : mg "max" = none
  n_sum : mg "sum" = none
  n_list : mg "list" = none
  n_reversed : mg "reversed" = none
  n_len : mg "len" = none
  n_enumerate : mg "enumerate" = none
  n_zip : mg "zip" = none
end FC
namespace FC
open PySem PySem.Spec PyProof.Rows L2
/-! ### the heap in short -/
/-- all but what stands at a is as it was -/
def But (a : Addr) (H H' : Hp) : Prop := ∀ b o, H b = some o → b ≠ a → H' b = some o
theorem But.upd1 {a : Addr} {H : Hp} {o : HO} : But a H (upd H a o) := fun b o e hb => by
  rw [upd_ne hb]
  exact e
theorem But.new {a p : Addr} {H : Hp} {o : HO} (hp : H p = none) : But a H (upd H p o) := fun b o e hb => by
  rw [upd_ne (ne_of_none e hp)]
  exact e
theorem But.trans {a : Addr} {H H1 H2 : Hp} (x : But a H H1) (y : But a H1 H2) : But a H H2 := fun b o e hb => y b o (x b o e hb) hb
theorem Same.but {a : Addr} {H H1 : Hp} (x : Same H H1) : But a H H1 := fun b o e _ => x b o e
theorem Same.new {p : Addr} {H : Hp} {o : HO} (hp : H p = none) : Same H (upd H p o) := fun b o e => by
  rw [upd_ne (ne_of_none e hp)]
  exact e
theorem upd_upd {H : Hp} {a : Addr} {o o' : HO} : upd (upd H a o) a o' = upd H a o' := by
  funext b
  by_cases c : b = a
  · rw [c, upd_same, upd_same]
  · rw [upd_ne c, upd_ne c, upd_ne c]
/-- a list is read as before, where an instance changes -/
theorem sq_ins {K : PySem.W.Frag} {H : Hp} {a l C dx : Addr} {fs : List (Str × V)} {o : HO} {xs : List V} (hs : SqL K H l xs) (ha : H a = some (.ins C dx fs)) : SqL K (upd H a o) l xs := by
  rcases hs with (h | ⟨u, h⟩) | h
  · refine .inl (.inl ?_)
    rw [upd_ne (fun e => by rw [e, ha] at h; cases h)]
    exact h
  · refine .inl (.inr ⟨u, ?_⟩)
    rw [upd_ne (fun e => by rw [e, ha] at h; cases h)]
    exact h
  · exact .inr h
theorem sq_new {K : PySem.W.Frag} {H : Hp} {l p : Addr} {o : HO} {xs : List V} (hs : SqL K H l xs) (hp : H p = none) : SqL K (upd H p o) l xs := (Same.new hp).seq hs
theorem lk_here {k : Str} {v : V} {r : List (Str × V)} : List.lookup k ((k, v) :: r) = some v := by
  have e : (k == k) = true := beq_self_eq_true k
  simp only [List.lookup, e]
theorem lk_past {k g : Str} {v : V} {r : List (Str × V)} (h : (k == g) = false) : List.lookup k ((g, v) :: r) = List.lookup k r := by
  simp only [List.lookup, h]
theorem put_here {f : Str} {v x : V} {r : List (Str × V)} : putF f v ((f, x) :: r) = (f, v) :: r := if_pos rfl
theorem put_past {f g : Str} {v x : V} {r : List (Str × V)} (h : ¬ g = f) : putF f v ((g, x) :: r) = (g, x) :: putF f v r := if_neg h
/-! ### the reader -/
def rdF (l : Addr) (p : Nat) : List (Str × V) := [("numbers", .ref l), ("place", .int (p : Int))]
theorem rdF_numbers (l : Addr) (p : Nat) : (rdF l p).lookup ("numbers" : Str) = some (.ref l) := lk_here
theorem rdF_place (l : Addr) (p : Nat) : (rdF l p).lookup ("place" : Str) = some (.int (p : Int)) := (lk_past (by decide +kernel)).trans lk_here
theorem rdF_put (l : Addr) (p q : Nat) : putF "place" (.int (q : Int)) (rdF l p) = rdF l q := (put_past (by decide +kernel)).trans (congrArg _ put_here)
theorem rdF_new (l : Addr) : putF "place" (.int 0) (putF "numbers" (.ref l) []) = rdF l 0 := (put_past (by decide +kernel)).trans rfl
theorem rdF_no {m : Str} (l : Addr) (p : Nat) (h1 : (m == ("numbers" : Str)) = false := by decide +kernel) (h2 : (m == ("place" : Str)) = false := by decide +kernel) : (rdF l p).lookup m = none := (lk_past h1).trans ((lk_past h2).trans rfl)
section
variable {P : Program} {w : World} {K : PySem.W.Frag} {mg : Str → Option Value} {base : Heap}
def sp_Reader_init (T : Txt K mg) : Sp := fun vs H Q _ => ∃ (p dx l : Addr), vs = [.ref p, .ref l] ∧ H p = some (.ins T.C_Reader dx []) ∧
  ∀ H' : Hp, H' p = some (.ins T.C_Reader dx (rdF l 0)) → But p H H' → Q .non H'
def sp_Reader_at_end (T : Txt K mg) : Sp := fun vs H Q _ => ∃ (a dx l : Addr) (xs : List Int) (p : Nat), vs = [.ref a] ∧ H a = some (.ins T.C_Reader dx (rdF l p)) ∧ SqL K H l (xs.map V.int) ∧ Q (.bl (decide (xs.length ≤ p))) H
def sp_Reader_take (T : Txt K mg) : Sp := fun vs H Q E => ∃ (a dx l : Addr) (xs : List Int) (p : Nat), vs = [.ref a] ∧ H a = some (.ins T.C_Reader dx (rdF l p)) ∧ SqL K H l (xs.map V.int) ∧
  (xs.length ≤ p → E (.ref T.C_Unfit) none H) ∧ (∀ z, xs[p]? = some z → Q (.int z) (upd H a (.ins T.C_Reader dx (rdF l (p + 1)))))
/-- asked where a whole row stands there -/
def sp_Reader_take_row (T : Txt K mg) : Sp := fun vs H Q E => ∃ (a dx l : Addr) (xs : List Int) (p n : Nat), vs = [.ref a] ∧ H a = some (.ins T.C_Reader dx (rdF l p)) ∧ SqL K H l (xs.map V.int) ∧
  xs[p]? = some (n : Int) ∧ p + 1 + n ≤ xs.length ∧ (∀ q, H q = none → Q (.ref q) (upd (upd H a (.ins T.C_Reader dx (rdF l (p + 1 + n)))) q (.lst (((xs.drop (p + 1)).take n).map V.int))))
theorem ok_Reader_init (T : Txt K mg) : FnOk P w K mg base CX0 1 T.f_Reader_init T.fd_Reader_init ["self", "numbers"] (sp_Reader_init T) := by
  refine T.F_Reader_init.ok sc_Reader_init (fun vs H Q E h => ?_) (fun cdv A outer s H vs Q E hr h => ⟨_, (pss_cons (ps_fld (pv 0) (pv 1) rfl)
    (pss_one (ps_fld (pv 0) pe_int rfl))), ?_⟩)
  · obtain ⟨p, dx, l, rfl, _⟩ := h
    rfl
  · obtain ⟨p, dx, l, rfl, hp, k⟩ := h
    refine ⟨_, rfl, _, rfl, p, _, dx, [], rfl, hp, T.cl_Reader, T.n_Reader_numbers, (by show 0 < 1000; decide), ?_⟩
    refine ⟨_, rfl, p, _, dx, _, rfl, upd_same, T.cl_Reader, T.n_Reader_place, (by show 1 < 1000; decide), ?_⟩
    exact k _ (Eq.trans upd_same (congrArg (fun q => some (HO.ins T.C_Reader dx q)) (rdF_new l))) (But.trans But.upd1 But.upd1)
theorem ok_Reader_at_end (T : Txt K mg) : FnOk P w K mg base CX0 1 T.f_Reader_at_end T.fd_Reader_at_end ["self"] (sp_Reader_at_end T) := by
  refine T.F_Reader_at_end.ok sc_Reader_at_end (fun vs H Q E h => ?_) (fun cdv A outer s H vs Q E hr h => ⟨_, (pss_one (ps_ret (pe_cmpR op_ge (pe_fld (pv 0) rfl) (pe_callB call_len_seq rfl T.n_len (by decide +kernel) (pa_cons (pe_fld (pv 0) rfl) pa_nil)) (nomark _)))), ?_⟩)
  · obtain ⟨a, dx, l, xs, p, rfl, _⟩ := h
    rfl
  · obtain ⟨a, dx, l, xs, p, rfl, ha, hs, k⟩ := h
    refine ⟨_, rfl, a, _, dx, _, _, rfl, ha, T.cl_Reader, T.n_Reader_place, rdF_place l p, _, rfl, a, _, dx, _, _, rfl, ha, T.cl_Reader, T.n_Reader_numbers, rdF_numbers l p, l, _, rfl, .inl hs, _, _, rfl, rfl, ?_⟩
    have e : decide (((xs.map V.int).length : Int) ≤ (p : Int)) = decide (xs.length ≤ p) := by
      rw [List.length_map]
      exact decide_eq_decide.mpr (by omega)
    show Q (.bl (decide (((xs.map V.int).length : Int) ≤ (p : Int)))) H
    rw [e]
    exact k
theorem ok_Reader_take (T : Txt K mg) : FnOk P w K mg base (L2.CX P w) 2 T.f_Reader_take T.fd_Reader_take ["self"] (sp_Reader_take T) := by
  refine T.F_Reader_take.okX sc_Reader_take (fun vs H Q E h => ?_) (fun cdv A outer s H vs Q E hr h => ⟨_, (pss_cons (ps_if (pt_val (pe_meth0 (pv 0) T.cl_Reader T.m_Reader_at_end (ok_Reader_at_end T) (hr.mono (by decide)) T.b_Reader_at_end .nil pass0))
      (pss_one (ps_raise rfl (takes_of rfl rfl rfl rfl) (pmk_own0 PySem.F.excBase_Exception T.x_Unfit T.g_Unfit T.k_Unfit (raises_own T.b_Unfit T.t_Unfit) rfl)))
      pss_nil)
    (pss_cons (ps_set (i := 1) sc_Reader_take.nd rfl (Or.inl rfl) (pe_ix ix_list (pe_fld (pv 0) rfl) (pe_fld (pv 0) rfl) (fun _ _ => rfl)))
    (pss_cons (ps_fldaug (pv 0) pe_int in_add)
    (pss_one (ps_ret (pv 1)))))), ?_⟩)
  · obtain ⟨a, dx, l, xs, p, rfl, _⟩ := h
    rfl
  · obtain ⟨a, dx, l, xs, p, rfl, ha, hs, kE, kQ⟩ := h
    refine ⟨_, rfl, a, dx, _, rfl, ha, rdF_no l p, a, dx, l, xs, p, rfl, ha, hs, _, rfl, ?_⟩
    by_cases c : xs.length ≤ p
    · exact if_true_of (decide_eq_true c) (kE c)
    · refine if_false_of (decide_eq_false c) ?_
      obtain ⟨z, hz⟩ : ∃ z, xs[p]? = some z := ⟨xs[p]'(by omega), List.getElem?_eq_getElem (by omega)⟩
      refine ⟨_, rfl, a, _, dx, _, _, rfl, ha, T.cl_Reader, T.n_Reader_numbers, rdF_numbers l p, _, rfl, a, _, dx, _, _, rfl, ha, T.cl_Reader, T.n_Reader_place, rdF_place l p, l, _, _, .int z, rfl, rfl, hs, atI_nat (by rw [List.getElem?_map, hz]; rfl), ?_⟩
      refine ⟨_, rfl, a, _, dx, _, _, rfl, ha, T.cl_Reader, T.n_Reader_place, rdF_place l p, _, _, rfl, rfl, dx, _, ha, (by show 2 < 1000; decide), ?_⟩
      refine ⟨_, rfl, ?_⟩
      have e : putF "place" (.int ((p : Int) + 1)) (rdF l p) = rdF l (p + 1) := rdF_put l p (p + 1)
      rw [e]
      exact kQ z hz
theorem cut_row {xs : List Int} {s n : Nat} (h : s + n ≤ xs.length) : cutV (xs.map V.int) (some (s : Int)) (some ((s + n : Nat) : Int)) = ((xs.drop s).take n).map V.int := by
  unfold cutV
  rw [HT.sIx_nat, HT.sIx_nat, List.length_map, Nat.min_eq_left h, Nat.min_eq_left (show s ≤ xs.length by omega), List.map_take, List.map_drop, show s + n - s = n by omega]
theorem ok_Reader_take_row (T : Txt K mg) : FnOk P w K mg base (L2.CX P w) 3 T.f_Reader_take_row T.fd_Reader_take_row ["self"] (sp_Reader_take_row T) := by
  refine T.F_Reader_take_row.okX sc_Reader_take_row (fun vs H Q E h => ?_) (fun cdv A outer s H vs Q E hr h => ⟨_, (pss_cons (ps_set (i := 1) sc_Reader_take_row.nd rfl (Or.inl rfl) (pe_meth0 (pv 0) T.cl_Reader T.m_Reader_take (ok_Reader_take T) (hr.mono (by decide)) T.b_Reader_take .nil (passes_call (takes_of rfl rfl rfl rfl) (fun _ _ _ _ h => h))))
    (pss_cons (ps_set (i := 2) sc_Reader_take_row.nd rfl (Or.inl rfl) (pe_fld (pv 0) rfl))
    (pss_cons (ps_fld (pv 0) (pe_op op_add (pv 2) (pv 1)) rfl)
    (pss_one (ps_ret (pe_slice sl_list (pe_fld (pv 0) rfl) (po_some (pv 2)) (po_some (pe_fld (pv 0) rfl)))))))), ?_⟩)
  · obtain ⟨a, dx, l, xs, p, n, rfl, _⟩ := h
    rfl
  · obtain ⟨a, dx, l, xs, p, n, rfl, ha, hs, hn, hl, k⟩ := h
    have hs2 : ∀ o, SqL K (upd H a o) l (xs.map V.int) := fun o => sq_ins hs ha
    refine ⟨_, rfl, a, dx, _, rfl, ha, rdF_no l p, a, dx, l, xs, p, rfl, ha, hs, (fun c => ?_), (fun z hz => ?_)⟩
    · exfalso
      omega
    · rw [hn] at hz
      cases hz
      refine ⟨_, rfl, a, _, dx, _, _, rfl, upd_same, T.cl_Reader, T.n_Reader_place, rdF_place l (p + 1), ?_⟩
      refine ⟨_, rfl, _, rfl, _, _, rfl, rfl, _, rfl, a, _, dx, _, rfl, upd_same, T.cl_Reader, T.n_Reader_place, (by show 2 < 1000; decide), ?_⟩
      have e : putF "place" (.int (((p + 1 : Nat) : Int) + (n : Int))) (rdF l (p + 1)) = rdF l (p + 1 + n) := rdF_put l (p + 1) (p + 1 + n)
      rw [e]
      rw [upd_upd]
      refine ⟨_, rfl, a, _, dx, _, _, rfl, upd_same, T.cl_Reader, T.n_Reader_numbers, rdF_numbers l _, ?_⟩
      refine ⟨_, rfl, _, rfl, ?_⟩
      refine ⟨_, rfl, a, _, dx, _, _, rfl, upd_same, T.cl_Reader, T.n_Reader_place, rdF_place l _, _, rfl, ?_⟩
      refine ⟨l, _, rfl, hs2 _, fun q hq => ?_⟩
      rw [cut_row (s := p + 1) (n := n) hl]
      refine k q ?_
      have : q ≠ a := fun c => by rw [c, upd_same] at hq; cases hq
      rw [upd_ne this] at hq
      exact hq
end
end FC
namespace FC
open PySem PySem.Spec PyProof.Rows L2
/-- the head of what has two parts -/
def bin (h : Nat) (x y : Pa05.Ty) : Pa05.Ty := if h = 2 then .pair x y else if h = 3 then .either x y else .fn x y
/-- a kind as it stands in memory -/
def KindAt (H : Hp) : Pa05.Ty → Addr → Prop
  | .var i, a => H a = some (.tup [.int 0, .int (i : Int)])
  | .two, a => H a = some (.tup [.int 1])
  | .pair x y, a => ∃ b c, H a = some (.tup [.int 2, .ref b, .ref c]) ∧ KindAt H x b ∧ KindAt H y c
  | .either x y, a => ∃ b c, H a = some (.tup [.int 3, .ref b, .ref c]) ∧ KindAt H x b ∧ KindAt H y c
  | .fn x y, a => ∃ b c, H a = some (.tup [.int 4, .ref b, .ref c]) ∧ KindAt H x b ∧ KindAt H y c
/-- tuples stay -/
def Tups (H H' : Hp) : Prop := ∀ a xs, H a = some (.tup xs) → H' a = some (.tup xs)
theorem Same.tups {H H' : Hp} (s : Same H H') : Tups H H' := fun a _ e => s a _ e
theorem But.tups {H H' : Hp} {a C dx : Addr} {fs : List (Str × V)} (b : But a H H') (ha : H a = some (.ins C dx fs)) : Tups H H' := fun c xs e => b c _ e (fun q => by rw [q, ha] at e; cases e)
theorem KindAt.mono {H H' : Hp} (t : Tups H H') : ∀ {x : Pa05.Ty} {a : Addr}, KindAt H x a → KindAt H' x a
  | .var _, _, h => t _ _ h
  | .two, _, h => t _ _ h
  | .pair _ _, _, ⟨b, c, h, hb, hc⟩ => ⟨b, c, t _ _ h, hb.mono t, hc.mono t⟩
  | .either _ _, _, ⟨b, c, h, hb, hc⟩ => ⟨b, c, t _ _ h, hb.mono t, hc.mono t⟩
  | .fn _ _, _, ⟨b, c, h, hb, hc⟩ => ⟨b, c, t _ _ h, hb.mono t, hc.mono t⟩
theorem KindAt.bin {H : Hp} {h : Nat} {x y : Pa05.Ty} {a b c : Addr} (hh : h = 2 ∨ h = 3 ∨ h = 4) (e : H a = some (.tup [.int (h : Int), .ref b, .ref c])) (hb : KindAt H x b) (hc : KindAt H y c) : KindAt H (bin h x y) a := by
  rcases hh with rfl | rfl | rfl <;> exact ⟨b, c, e, hb, hc⟩
/-- how deep it is nested -/
def dp : Pa05.Ty → Nat
  | .var _ => 1
  | .two => 1
  | .pair x y => max (dp x) (dp y) + 1
  | .either x y => max (dp x) (dp y) + 1
  | .fn x y => max (dp x) (dp y) + 1
inductive Form : Pa05.Ty → Prop
  | var (i : Nat) : Form (.var i)
  | two : Form .two
  | bin (h : Nat) (x y : Pa05.Ty) (hh : h = 2 ∨ h = 3 ∨ h = 4) : Form (FC.bin h x y)
theorem form : ∀ a : Pa05.Ty, Form a
  | .var i => .var i
  | .two => .two
  | .pair x y => .bin 2 x y (.inl rfl)
  | .either x y => .bin 3 x y (.inr (.inl rfl))
  | .fn x y => .bin 4 x y (.inr (.inr rfl))
theorem KindAt.of_bin {H : Hp} {h : Nat} {x y : Pa05.Ty} {a : Addr} (hh : h = 2 ∨ h = 3 ∨ h = 4) (k : KindAt H (FC.bin h x y) a) : ∃ b c, H a = some (.tup [.int (h : Int), .ref b, .ref c]) ∧ KindAt H x b ∧ KindAt H y c := by
  rcases hh with rfl | rfl | rfl <;> exact k
theorem dp_bin {h : Nat} {x y : Pa05.Ty} (hh : h = 2 ∨ h = 3 ∨ h = 4) : dp (FC.bin h x y) = max (dp x) (dp y) + 1 := by
  rcases hh with rfl | rfl | rfl <;> rfl
def TyOk (k : Nat) : Pa05.Ty → Prop
  | .var i => i < k
  | .two => True
  | .pair a b => TyOk k a ∧ TyOk k b
  | .either a b => TyOk k a ∧ TyOk k b
  | .fn a b => TyOk k a ∧ TyOk k b
theorem TyOk.of_bin {k h : Nat} {x y : Pa05.Ty} (hh : h = 2 ∨ h = 3 ∨ h = 4) (o : TyOk k (FC.bin h x y)) : TyOk k x ∧ TyOk k y := by
  rcases hh with rfl | rfl | rfl <;> exact o
def joined (h x y : Nat) : Nat := if h = 2 then x * y else if h = 3 then x + y else y ^ x
theorem small_le (top : Nat) (n : Nat → Nat) : ∀ (a : Pa05.Ty) (x : Nat), Pa05.small top n a = some x → x ≤ top := by
  intro a x h
  cases a with
  | var i =>
    unfold Pa05.small at h
    split at h
    · cases h
    · cases h; omega
  | two =>
    unfold Pa05.small at h
    split at h
    · cases h
    · cases h; omega
  | pair a b =>
    unfold Pa05.small at h
    split at h
    · split at h
      · cases h
      · cases h; omega
    · cases h
  | either a b =>
    unfold Pa05.small at h
    split at h
    · split at h
      · cases h
      · cases h; omega
    · cases h
  | fn a b =>
    unfold Pa05.small at h
    split at h
    · split at h
      · cases h
      · split at h
        · cases h
        · cases h; omega
    · cases h
theorem small_bin (top : Nat) (n : Nat → Nat) {h : Nat} {a b : Pa05.Ty} (hh : h = 2 ∨ h = 3 ∨ h = 4) : Pa05.small top n (FC.bin h a b) = match Pa05.small top n a, Pa05.small top n b with
    | some x, some y => if top < joined h x y then none else some (joined h x y)
    | _, _ => none := by
  rcases hh with rfl | rfl | rfl
  · rfl
  · rfl
  · show (match Pa05.small top n a, Pa05.small top n b with
      | some x, some y => if 2 ≤ y ∧ top < x then none else if top < y ^ x then none else some (y ^ x)
      | _, _ => none) = _
    cases ea : Pa05.small top n a with
    | none => rfl
    | some x =>
      cases eb : Pa05.small top n b with
      | none => rfl
      | some y =>
        have hx := small_le top n a x ea
        show (if 2 ≤ y ∧ top < x then none else if top < y ^ x then none else some (y ^ x)) = _
        rw [if_neg (by omega)]
        rfl
def card_bin (n : Nat → Nat) {h : Nat} {a b : Pa05.Ty} (hh : h = 2 ∨ h = 3 ∨ h = 4) : (FC.bin h a b).card n = joined h (a.card n) (b.card n) := by
  rcases hh with rfl | rfl | rfl <;> rfl
/-- where it is held, small tells how many elements there are -/
theorem small_card (top : Nat) (n : Nat → Nat) : ∀ (a : Pa05.Ty) (x : Nat), Pa05.small top n a = some x → a.card n = x := by
  intro a
  induction a with
  | var i =>
    intro x h
    unfold Pa05.small at h
    split at h
    · cases h
    · cases h; rfl
  | two =>
    intro x h
    unfold Pa05.small at h
    split at h
    · cases h
    · cases h; rfl
  | pair a b iha ihb =>
    intro x h
    unfold Pa05.small at h
    split at h
    · rename_i p q e1 e2
      split at h
      · cases h
      · cases h
        show a.card n * b.card n = _
        rw [iha _ e1, ihb _ e2]
    · cases h
  | either a b iha ihb =>
    intro x h
    unfold Pa05.small at h
    split at h
    · rename_i p q e1 e2
      split at h
      · cases h
      · cases h
        show a.card n + b.card n = _
        rw [iha _ e1, ihb _ e2]
    · cases h
  | fn a b iha ihb =>
    intro x h
    unfold Pa05.small at h
    split at h
    · rename_i p q e1 e2
      split at h
      · cases h
      · split at h
        · cases h
        · cases h
          show b.card n ^ a.card n = _
          rw [iha _ e1, ihb _ e2]
    · cases h
theorem then_none {α β γ : Type} {f : List Nat → Pa05.Read β} {g : α → β → γ} : Pa05.then_ none f g = none := rfl
theorem rt_bin (k d h : Nat) (r : List Nat) (hh : h = 2 ∨ h = 3 ∨ h = 4) : Pa05.readTy k (d + 1) (h :: r) = Pa05.then_ (Pa05.readTy k d r) (Pa05.readTy k d) (FC.bin h) := by
  rcases hh with rfl | rfl | rfl <;> rfl
theorem rt_var (k d i : Nat) (r : List Nat) : Pa05.readTy k (d + 1) (0 :: i :: r) = if i < k then some (.var i, r) else none := rfl
theorem rt_two (k d : Nat) (r : List Nat) : Pa05.readTy k (d + 1) (1 :: r) = some (.two, r) := rfl
theorem rt_bad (k d h : Nat) (r : List Nat) (hh : 4 < h) : Pa05.readTy k (d + 1) (h :: r) = none := by
  match h, hh with
  | n + 5, _ => rfl
theorem then_some {α β γ : Type} {x : Pa05.Read α} {f : List Nat → Pa05.Read β} {g : α → β → γ} {c : γ} {r : List Nat} (h : Pa05.then_ x f g = some (c, r)) : ∃ a r1 b, x = some (a, r1) ∧ f r1 = some (b, r) ∧ c = g a b := by
  unfold Pa05.then_ at h
  cases x with
  | none => cases h
  | some y =>
    obtain ⟨a, r1⟩ := y
    simp only at h
    cases e : f r1 with
    | none => rw [e] at h; cases h
    | some z =>
      obtain ⟨b, r2⟩ := z
      rw [e] at h
      cases h
      exact ⟨a, r1, b, rfl, e, rfl⟩
theorem read_ok (k : Nat) : ∀ (d : Nat) (r : List Nat) (a : Pa05.Ty) (r' : List Nat), Pa05.readTy k d r = some (a, r') → TyOk k a ∧ dp a ≤ d
  | 0, _, _, _, h => by cases h
  | d + 1, r, a, r', h => by
    match r, h with
    | 0 :: i :: r, h =>
      rw [rt_var] at h
      split at h
      · rename_i c
        cases h
        exact ⟨c, Nat.succ_le_succ (Nat.zero_le _)⟩
      · cases h
    | 1 :: r, h =>
      cases (show some (Pa05.Ty.two, r) = some (a, r') from h)
      exact ⟨trivial, Nat.succ_le_succ (Nat.zero_le _)⟩
    | [], h => cases h
    | [0], h => cases h
    | (n + 2) :: r, h =>
      by_cases c : 4 < n + 2
      · rw [rt_bad k d (n + 2) r c] at h
        cases h
      · have hh : n + 2 = 2 ∨ n + 2 = 3 ∨ n + 2 = 4 := by omega
        rw [rt_bin k d (n + 2) r hh] at h
        obtain ⟨x, r1, y, h1, h2, rfl⟩ := then_some h
        obtain ⟨a1, a2⟩ := read_ok k d r x r1 h1
        obtain ⟨b1, b2⟩ := read_ok k d r1 y r' h2
        refine ⟨?_, ?_⟩
        · rcases hh with e | e | e <;> rw [e] <;> exact ⟨a1, b1⟩
        · rw [dp_bin hh]
          omega
theorem nat_at {r : List Nat} {p : Nat} {z : Int} (hz : (r.map fun (n : Nat) => (n : Int))[p]? = some z) : ∃ z' : Nat, r[p]? = some z' ∧ z = (z' : Int) := by
  rw [List.getElem?_map] at hz
  cases e : r[p]? with
  | none => rw [e] at hz; cases hz
  | some y => rw [e] at hz; exact ⟨y, rfl, (Option.some.inj hz).symm⟩
theorem drop_at {α : Type} {r : List α} {p : Nat} {z : α} (h : r[p]? = some z) : r.drop p = z :: r.drop (p + 1) := by
  obtain ⟨h1, h2⟩ := List.getElem?_eq_some_iff.mp h
  rw [List.drop_eq_getElem_cons h1, h2]
theorem But.seq {K : PySem.W.Frag} {H H' : Hp} {a l C dx : Addr} {fs : List (Str × V)} {xs : List V} (b : But a H H') (ha : H a = some (.ins C dx fs)) (hs : SqL K H l xs) : SqL K H' l xs := by
  rcases hs with (h | ⟨u, h⟩) | h
  · exact .inl (.inl (b _ _ h (fun e => by rw [e, ha] at h; cases h)))
  · exact .inl (.inr ⟨u, b _ _ h (fun e => by rw [e, ha] at h; cases h)⟩)
  · exact .inr h
def nats (r : List Nat) : List V := r.map fun (n : Nat) => V.int (n : Int)
theorem nats_map (r : List Nat) : nats r = (r.map fun (n : Nat) => (n : Int)).map V.int := by
  unfold nats
  rw [List.map_map]
  rfl
section
variable {P : Program} {w : World} {K : PySem.W.Frag} {mg : Str → Option Value} {base : Heap}
def sp_functions_size (T : Txt K mg) : Sp := fun vs H Q _ => ∃ (t g : Nat), vs = [.int (t : Int), .int (g : Int)] ∧ t ≤ 256 ∧ g ≤ 256 ∧ Q (.int ((g ^ t : Nat) : Int)) H
def sp_joined_size (T : Txt K mg) : Sp := fun vs H Q _ => ∃ (h a b : Nat), vs = [.int (h : Int), .int (a : Int), .int (b : Int)] ∧ (h = 2 ∨ h = 3 ∨ h = 4) ∧ a ≤ 256 ∧ b ≤ 256 ∧ Q (.int ((joined h a b : Nat) : Int)) H
theorem ok_functions_size (T : Txt K mg) : FnOk P w K mg base CX0 1 T.f_functions_size T.fd_functions_size ["taken", "given"] (sp_functions_size T) := by
  refine T.F_functions_size.ok sc_functions_size (fun vs H Q E h => ?_) (fun cdv A outer s H vs Q E hr h => ⟨_, (pss_cons (ps_set (i := 2) sc_functions_size.nd rfl (Or.inl rfl) pe_int)
    (pss_cons (ps_for PassesOwn.never rfl (pi_range1 rfl T.n_range (pa_cons (pv 0) pa_nil)) (pg_name (i := 3) sc_functions_size.nd rfl (Or.inl rfl))
      (pss_one (ps_set (i := 2) sc_functions_size.nd rfl (Or.inl rfl) (pe_op op_mul (pv 2) (pv 1)))))
    (pss_one (ps_ret (pv 2))))), ?_⟩)
  · obtain ⟨t, g, rfl, _⟩ := h
    rfl
  · obtain ⟨t, g, rfl, ht, hg, k⟩ := h
    refine ⟨_, rfl, (t : Int), rfl, by omega, by omega, ?_⟩
    rw [show ((t : Int)).toNat = t from Int.toNat_natCast t]
    refine for_range (lo := 0) (n := t) (fun i σ H' => H' = H ∧ ∃ v : Option V, σ = [some (.int (t : Int)), some (.int (g : Int)), some (.int ((g ^ i : Nat) : Int)), v]) ⟨rfl, none, rfl⟩ ?_ ?_
    · rintro i σ H' hi ⟨rfl, v, rfl⟩
      refine ⟨_, rfl, _, rfl, _, _, rfl, rfl, .inr ⟨by omega, by omega⟩, rfl, some (.int (0 + (i : Int))), ?_⟩
      rw [Nat.pow_succ, Int.natCast_mul]
      rfl
    · rintro σ H' ⟨rfl, v, rfl⟩
      exact ⟨_, rfl, k⟩
theorem ok_joined_size (T : Txt K mg) : FnOk P w K mg base CX0 2 T.f_joined_size T.fd_joined_size ["head", "first", "second"] (sp_joined_size T) := by
  refine T.F_joined_size.ok sc_joined_size (fun vs H Q E h => ?_) (fun cdv A outer s H vs Q E hr h => ⟨_, (pss_cons (ps_if (pt_cmpR op_eq (pv 0) (pe_cst rfl T.g_PAIR) (nomark _))
      (pss_one (ps_ret (pe_op op_mul (pv 1) (pv 2))))
      pss_nil)
    (pss_cons (ps_if (pt_cmpR op_eq (pv 0) (pe_cst rfl T.g_EITHER) (nomark _))
      (pss_one (ps_ret (pe_op op_add (pv 1) (pv 2))))
      pss_nil)
    (pss_one (ps_ret (pe_call (ok_functions_size T) (hr.mono (by decide)) rfl T.g_functions_size T.k_functions_size T.b_functions_size .nil pass0 (pa_cons (pv 1) (pa_cons (pv 2) pa_nil))))))), ?_⟩)
  · obtain ⟨t, a, b, rfl, _⟩ := h
    rfl
  · obtain ⟨t, a, b, rfl, ht, ha, hb, k⟩ := h
    refine ⟨_, rfl, rfl, _, rfl, ?_⟩
    rcases ht with rfl | rfl | rfl
    · refine if_true_of rfl ?_
      exact ⟨_, rfl, _, rfl, _, _, rfl, rfl, .inl ⟨by omega, by omega⟩, k⟩
    · refine if_false_of rfl ⟨_, rfl, rfl, _, rfl, if_true_of rfl ?_⟩
      exact ⟨_, rfl, _, rfl, _, _, rfl, rfl, k⟩
    · refine if_false_of rfl ⟨_, rfl, rfl, _, rfl, if_false_of rfl ?_⟩
      exact ⟨_, rfl, _, rfl, a, b, rfl, ha, hb, k⟩
/-- the variable that stands next -/
def sp_read_variable (T : Txt K mg) : Sp := fun vs H Q E => ∃ (a dx l : Addr) (r : List Nat) (p k : Nat), vs = [.ref a, .int (k : Int)] ∧ H a = some (.ins T.C_Reader dx (rdF l p)) ∧ SqL K H l (nats r) ∧
  (r.length ≤ p → E (.ref T.C_Unfit) none H) ∧ (∀ z, r[p]? = some z → k ≤ z → E (.ref T.C_Unfit) none (upd H a (.ins T.C_Reader dx (rdF l (p + 1))))) ∧
  (∀ z, r[p]? = some z → z < k → Q (.int (z : Int)) (upd H a (.ins T.C_Reader dx (rdF l (p + 1)))))
theorem ok_read_variable (T : Txt K mg) : FnOk P w K mg base (L2.CX P w) 3 T.f_read_variable T.fd_read_variable ["reader", "variables"] (sp_read_variable T) := by
  refine T.F_read_variable.okX sc_read_variable (fun vs H Q E h => ?_) (fun cdv A outer s H vs Q E hr h => ⟨_, (pss_cons (ps_set (i := 2) sc_read_variable.nd rfl (Or.inl rfl) (pe_meth0 (pv 0) T.cl_Reader T.m_Reader_take (ok_Reader_take T) (hr.mono (by decide)) T.b_Reader_take .nil (passes_call (takes_of rfl rfl rfl rfl) (fun _ _ _ _ h => h))))
    (pss_cons (ps_if (pt_cmpR op_ge (pv 2) (pv 1) (nomark _))
      (pss_one (ps_raise rfl (takes_of rfl rfl rfl rfl) (pmk_own0 PySem.F.excBase_Exception T.x_Unfit T.g_Unfit T.k_Unfit (raises_own T.b_Unfit T.t_Unfit) rfl)))
      pss_nil)
    (pss_one (ps_ret (pv 2))))), ?_⟩)
  · obtain ⟨a, dx, l, r, p, k, rfl, _⟩ := h
    rfl
  · obtain ⟨a, dx, l, r, p, k, rfl, ha, hs, k1, k2, k3⟩ := h
    rw [nats_map] at hs
    refine ⟨_, rfl, a, dx, _, rfl, ha, rdF_no l p, a, dx, l, _, p, rfl, ha, hs, (fun q => k1 (by rw [List.length_map] at q; exact q)), (fun z hz => ?_)⟩
    obtain ⟨z', hz', rfl⟩ := nat_at hz
    refine ⟨_, rfl, _, rfl, _, _, rfl, rfl, _, rfl, ?_⟩
    by_cases c : k ≤ z'
    · exact if_true_of (decide_eq_true (by omega)) (k2 z' hz' c)
    · exact if_false_of (decide_eq_false (by omega)) ⟨_, rfl, k3 z' hz' (by omega)⟩
/-- d: how many depths are left -/
def sp_read_kind (T : Txt K mg) (d : Nat) : Sp := fun vs H Q E => ∃ (a dx l : Addr) (r : List Nat) (p k : Nat), vs = [.ref a, .int (k : Int), .int ((7 - d : Nat) : Int)] ∧ d ≤ 6 ∧ H a = some (.ins T.C_Reader dx (rdF l p)) ∧ SqL K H l (nats r) ∧ p ≤ r.length ∧
  (Pa05.readTy k d (r.drop p) = none → ∀ H' : Hp, But a H H' → E (.ref T.C_Unfit) none H') ∧
  (∀ ty rest, Pa05.readTy k d (r.drop p) = some (ty, rest) → ∀ (H' : Hp) (q : Addr) (p' : Nat), p' ≤ r.length → r.drop p' = rest → H' a = some (.ins T.C_Reader dx (rdF l p')) → But a H H' → KindAt H' ty q → Q (.ref q) H')
theorem ok_read_kind (T : Txt K mg) : ∀ d, FnOk P w K mg base (L2.CX P w) (d + 4) T.f_read_kind T.fd_read_kind ["reader", "variables", "depth"] (sp_read_kind T d) := by
  intro d
  induction d with
  | zero =>
    refine T.F_read_kind.ok sc_read_kind (fun vs H Q E h => ?_) (fun cdv A outer s H vs Q E hr h => ⟨_, (pss_cons (ps_if (pt_cmpR op_gt (pv 2) (pe_cst rfl T.g_DEEPEST) (nomark _))
        (pss_one (ps_raise rfl (takes_of rfl rfl rfl rfl) (pmk_own0 PySem.F.excBase_Exception T.x_Unfit T.g_Unfit T.k_Unfit (raises_own T.b_Unfit T.t_Unfit) rfl)))
        pss_nil)
      (pss_cons ps_never (pss_cons ps_never (pss_cons ps_never (pss_cons ps_never (pss_cons ps_never (pss_cons ps_never (pss_one ps_never)))))))), ?_⟩)
    · obtain ⟨a, dx, l, r, p, k, rfl, _⟩ := h
      rfl
    · obtain ⟨a, dx, l, r, p, k, rfl, hd, ha, hs, hp, kE, kQ⟩ := h
      refine ⟨_, rfl, _, _, rfl, rfl, _, rfl, if_true_of rfl ?_⟩
      exact kE rfl H (fun _ _ e _ => e)
  | succ d ih =>
    refine T.F_read_kind.ok sc_read_kind (fun vs H Q E h => ?_) (fun cdv A outer s H vs Q E hr h => ⟨_, (pss_cons (ps_if (pt_cmpR op_gt (pv 2) (pe_cst rfl T.g_DEEPEST) (nomark _))
      (pss_one (ps_raise rfl (takes_of rfl rfl rfl rfl) (pmk_own0 PySem.F.excBase_Exception T.x_Unfit T.g_Unfit T.k_Unfit (raises_own T.b_Unfit T.t_Unfit) rfl)))
      pss_nil)
    (pss_cons (ps_set (i := 3) sc_read_kind.nd rfl (Or.inl rfl) (pe_meth0 (pv 0) T.cl_Reader T.m_Reader_take (ok_Reader_take T) (hr.mono (by omega)) T.b_Reader_take .nil (passes_call (takes_of rfl rfl rfl rfl) (fun _ _ _ _ h => h))))
    (pss_cons (ps_if (pt_cmpR op_eq (pv 3) (pe_cst rfl T.g_VARIABLE) (nomark _))
      (pss_one (ps_ret (pe_tup (pa_cons (pe_cst rfl T.g_VARIABLE) (pa_cons (pe_call (ok_read_variable T) (hr.mono (by omega)) rfl T.g_read_variable T.k_read_variable T.b_read_variable .nil (passes_call (takes_of rfl rfl rfl rfl) (fun _ _ _ _ h => h)) (pa_cons (pv 0) (pa_cons (pv 1) pa_nil))) pa_nil)))))
      pss_nil)
    (pss_cons (ps_if (pt_cmpR op_eq (pv 3) (pe_cst rfl T.g_TWO) (nomark _))
      (pss_one (ps_ret (pe_tup (pa_cons (pe_cst rfl T.g_TWO) pa_nil))))
      pss_nil)
    (pss_cons (ps_if (pt_cmpR op_gt (pv 3) (pe_cst rfl T.g_FUNCTION) (nomark _))
      (pss_one (ps_raise rfl (takes_of rfl rfl rfl rfl) (pmk_own0 PySem.F.excBase_Exception T.x_Unfit T.g_Unfit T.k_Unfit (raises_own T.b_Unfit T.t_Unfit) rfl)))
      pss_nil)
    (pss_cons (ps_set (i := 4) sc_read_kind.nd rfl (Or.inl rfl) (pe_call ih hr rfl T.g_read_kind T.k_read_kind T.b_read_kind .nil (passes_call (takes_of rfl rfl rfl rfl) (fun _ _ _ _ h => h)) (pa_cons (pv 0) (pa_cons (pv 1) (pa_cons (pe_op op_add (pv 2) pe_int) pa_nil)))))
    (pss_cons (ps_set (i := 5) sc_read_kind.nd rfl (Or.inl rfl) (pe_call ih hr rfl T.g_read_kind T.k_read_kind T.b_read_kind .nil (passes_call (takes_of rfl rfl rfl rfl) (fun _ _ _ _ h => h)) (pa_cons (pv 0) (pa_cons (pv 1) (pa_cons (pe_op op_add (pv 2) pe_int) pa_nil)))))
    (pss_one (ps_ret (pe_tup (pa_cons (pv 3) (pa_cons (pv 4) (pa_cons (pv 5) pa_nil))))))))))))), ?_⟩)
    · obtain ⟨a, dx, l, r, p, k, rfl, _⟩ := h
      rfl
    · obtain ⟨a, dx, l, r, p, k, rfl, hd, ha, hs, hp, kE, kQ⟩ := h
      have ed : (((7 - (d + 1) : Nat) : Int) + 1) = ((7 - d : Nat) : Int) := by omega
      refine ⟨_, rfl, _, _, rfl, rfl, _, rfl, if_false_of (decide_eq_false (by omega)) ?_⟩
      refine ⟨_, rfl, a, dx, _, rfl, ha, rdF_no l p, a, dx, l, _, p, rfl, ha, nats_map r ▸ hs, (fun q => ?_), (fun z hz => ?_)⟩
      · rw [List.length_map] at q
        refine kE ?_ H (fun _ _ e _ => e)
        rw [List.drop_eq_nil_of_le q]
        rfl
      · obtain ⟨z', hz', rfl⟩ := nat_at hz
        have hp1 : p < r.length := (List.getElem?_eq_some_iff.mp hz').1
        rw [drop_at hz'] at kE kQ
        have c1 : upd H a (.ins T.C_Reader dx (rdF l (p + 1))) a = some (.ins T.C_Reader dx (rdF l (p + 1))) := upd_same
        have b1 : But a H (upd H a (.ins T.C_Reader dx (rdF l (p + 1)))) := But.upd1
        generalize upd H a (.ins T.C_Reader dx (rdF l (p + 1))) = H1 at c1 b1 ⊢
        have s1 : SqL K H1 l (nats r) := b1.seq ha hs
        refine ⟨_, rfl, rfl, _, rfl, ?_⟩
        by_cases c0 : z' = 0
        · subst c0
          refine if_true_of rfl ?_
          refine ⟨_, rfl, _, rfl, a, dx, l, r, p + 1, k, rfl, c1, s1, (fun q => ?_), (fun z2 h2 q => ?_), (fun z2 h2 q => ?_)⟩
          · refine kE ?_ H1 b1
            rw [List.drop_eq_nil_of_le q]
            rfl
          · refine kE ?_ _ (b1.trans But.upd1)
            rw [drop_at h2, rt_var, if_neg (by omega)]
          · refine ⟨(by show 2 ≤ sizeLine; decide), fun t ht => ?_⟩
            have hta : a ≠ t := fun e => by rw [← e, upd_same] at ht; cases ht
            refine kQ (.var z2) (r.drop (p + 2)) (by rw [drop_at h2, rt_var, if_pos q]) _ t (p + 2) (List.getElem?_eq_some_iff.mp h2).1 rfl ?_ ?_ upd_same
            · rw [upd_ne hta, upd_same]
            · exact (b1.trans But.upd1).trans (But.new ht)
        · refine if_false_of (decide_eq_false (fun q => by injection q with q; omega)) ?_
          refine ⟨_, rfl, rfl, _, rfl, ?_⟩
          by_cases c2 : z' = 1
          · subst c2
            refine if_true_of rfl ?_
            refine ⟨(by show 1 ≤ sizeLine; decide), fun t ht => ?_⟩
            have hta : a ≠ t := ne_of_none c1 ht
            exact kQ .two (r.drop (p + 1)) (rt_two k d _) _ t (p + 1) (by omega) rfl (by rw [upd_ne hta]; exact c1) (b1.trans (But.new ht)) upd_same
          · refine if_false_of (decide_eq_false (fun q => by injection q with q; omega)) ?_
            refine ⟨_, rfl, _, _, rfl, rfl, _, rfl, ?_⟩
            by_cases c4 : 4 < z'
            · refine if_true_of (decide_eq_true (by omega)) ?_
              exact kE (rt_bad k d z' _ c4) H1 b1
            · refine if_false_of (decide_eq_false (by omega)) ?_
              have hh : z' = 2 ∨ z' = 3 ∨ z' = 4 := by omega
              rw [rt_bin k d z' _ hh] at kE kQ
              refine ⟨_, rfl, _, rfl, _, rfl, _, _, rfl, rfl, a, dx, l, r, p + 1, k, (by show [V.ref a, V.int (k : Int), V.int (((7 - (d + 1) : Nat) : Int) + 1)] = _; rw [ed]), by omega, c1, s1, by omega, (fun e1 H2 b2 => ?_), (fun x r1 e1 H2 q2 p2 hp2 hd2 c2 b2 k2 => ?_)⟩
              · refine kE ?_ H2 (b1.trans b2)
                rw [e1]
                rfl
              · subst hd2
                refine ⟨_, rfl, _, rfl, _, rfl, _, _, rfl, rfl, a, dx, l, r, p2, k, (by show [V.ref a, V.int (k : Int), V.int (((7 - (d + 1) : Nat) : Int) + 1)] = _; rw [ed]), by omega, c2, b2.seq c1 s1, hp2, (fun e2 H3 b3 => ?_), (fun y r2 e2 H3 q3 p3 hp3 hd3 c3 b3 k3 => ?_)⟩
                · refine kE ?_ H3 ((b1.trans b2).trans b3)
                  rw [e1]
                  show Option.map _ (Pa05.readTy k d (r.drop p2)) = none
                  rw [e2]
                  rfl
                · subst hd3
                  refine ⟨_, rfl, _, rfl, _, rfl, (by show 3 ≤ sizeLine; decide), fun t ht => ?_⟩
                  have hta : a ≠ t := ne_of_none c3 ht
                  have k2' : KindAt H3 x q2 := k2.mono (b3.tups c2)
                  have tn : Tups H3 (upd H3 t (.tup [.int (z' : Int), .ref q2, .ref q3])) := Same.tups (Same.new ht)
                  refine kQ (FC.bin z' x y) (r.drop p3) ?_ _ t p3 hp3 rfl (by rw [upd_ne hta]; exact c3) (((b1.trans b2).trans b3).trans (But.new ht)) (KindAt.bin hh upd_same (k2'.mono tn) (k3.mono tn))
                  rw [e1]
                  show Option.map _ (Pa05.readTy k d (r.drop p2)) = _
                  rw [e2]
                  rfl
def rowTy (k : Nat) (r : List Nat) : Option Pa05.Ty := match Pa05.readTy k 6 r with
  | some (a, []) => some a
  | _ => none
theorem Same.ofBut {H H1 H' : Hp} {x : Addr} (nx : H x = none) (s : Same H H1) (b : But x H1 H') : Same H H' := fun c o e => b c o (s c o e) (ne_of_none e nx)
def sp_read_kind_row (T : Txt K mg) : Sp := fun vs H Q E => ∃ (l : Addr) (r : List Nat) (k : Nat), vs = [.ref l, .int (k : Int)] ∧ SqL K H l (nats r) ∧
  (rowTy k r = none → ∀ H' : Hp, Same H H' → E (.ref T.C_Unfit) none H') ∧
  (∀ a, rowTy k r = some a → ∀ (H' : Hp) (q : Addr), Same H H' → KindAt H' a q → TyOk k a → dp a ≤ 6 → Q (.ref q) H')
theorem ok_read_kind_row (T : Txt K mg) : FnOk P w K mg base (L2.CX P w) 11 T.f_read_kind_row T.fd_read_kind_row ["row", "variables"] (sp_read_kind_row T) := by
  obtain ⟨ds_read_kind, rv_read_kind, bd_read_kind⟩ := T.d_read_kind
  refine T.F_read_kind_row.okX sc_read_kind_row (fun vs H Q E h => ?_) (fun cdv A outer s H vs Q E hr h => ⟨_, (pss_cons (ps_set (i := 2) sc_read_kind_row.nd rfl (Or.inl rfl) (pe_make T.mk_Reader (ok_Reader_init T) (hr.mono (by decide)) rfl T.g_Reader T.b_Reader_init .nil pass0 (pa_cons (pv 0) pa_nil)))
    (pss_cons (ps_set (i := 3) sc_read_kind_row.nd rfl (Or.inl rfl) (pe_call (ok_read_kind T 6) (hr.mono (by decide)) rfl T.g_read_kind T.k_read_kind bd_read_kind rv_read_kind (passes_call (takes_of rfl rfl rfl rfl) (fun _ _ _ _ h => h)) (pa_cons (pv 2) (pa_cons (pv 1) pa_nil))))
    (pss_cons (ps_if (pt_not (pt_val (pe_meth0 (pv 2) T.cl_Reader T.m_Reader_at_end (ok_Reader_at_end T) (hr.mono (by decide)) T.b_Reader_at_end .nil pass0)))
      (pss_one (ps_raise rfl (takes_of rfl rfl rfl rfl) (pmk_own0 PySem.F.excBase_Exception T.x_Unfit T.g_Unfit T.k_Unfit (raises_own T.b_Unfit T.t_Unfit) rfl)))
      pss_nil)
    (pss_one (ps_ret (pv 3)))))), ?_⟩)
  · obtain ⟨l, r, k, rfl, _⟩ := h
    rfl
  · obtain ⟨l, r, k, rfl, hs, kE, kQ⟩ := h
    refine ⟨_, rfl, fun x dx nx nd ne => ?_⟩
    refine ⟨x, dx, l, rfl, upd_same, fun H1 hx bu => ⟨rfl, ?_⟩⟩
    have s1 : Same H H1 := Same.made nx nd bu
    refine ⟨_, rfl, _, rfl, x, dx, l, r, 0, k, rfl, by decide, hx, s1.seq hs, Nat.zero_le _, (fun e H' b => ?_), (fun ty rest e H' q p' hp' hd ha b hq => ?_)⟩
    · refine kE ?_ H' (Same.ofBut nx s1 b)
      rw [List.drop_zero] at e
      unfold rowTy
      rw [e]
    · rw [List.drop_zero] at e
      have s2 : Same H H' := Same.ofBut nx s1 b
      refine ⟨_, rfl, x, dx, _, rfl, ha, rdF_no l p', x, dx, l, _, p', rfl, ha, nats_map r ▸ s2.seq hs, _, rfl, ?_⟩
      rw [List.length_map]
      by_cases c : r.length ≤ p'
      · rw [decide_eq_true c]
        refine if_false_of rfl ?_
        have e0 : r.drop p' = [] := List.drop_eq_nil_of_le c
        obtain ⟨o1, o2⟩ := read_ok k 6 r ty _ e
        refine ⟨_, rfl, kQ ty ?_ H' q s2 hq o1 o2⟩
        unfold rowTy
        rw [e, ← hd, e0]
      · rw [decide_eq_false c]
        refine if_true_of rfl ?_
        refine kE ?_ H' s2
        unfold rowTy
        rw [e, ← hd]
        cases e0 : r.drop p' with
        | nil =>
          have := congrArg List.length e0
          rw [List.length_drop] at this
          simp at this
          omega
        | cons z zs => rfl
/-- how many elements the variables have, by a list -/
def numOf (sz : List Nat) (i : Nat) : Nat := sz.getD i 0
theorem numOf_at {sz : List Nat} {v : Nat} (hv : v < sz.length) : sz[v]? = some (numOf sz v) := by
  unfold numOf
  rw [List.getD_eq_getElem?_getD, List.getElem?_eq_getElem hv]
  rfl
theorem nats_at {r : List Nat} {i z : Nat} (h : r[i]? = some z) : (nats r)[i]? = some (.int (z : Int)) := by
  unfold nats
  rw [List.getElem?_map, h]
  rfl
theorem nats_length (r : List Nat) : (nats r).length = r.length := List.length_map ..
/-- d: how deep it may be nested -/
def sp_kind_size (T : Txt K mg) (d : Nat) : Sp := fun vs H Q E => ∃ (q z : Addr) (a : Pa05.Ty) (sz : List Nat) (top : Nat), vs = [.ref q, .ref z, .int (top : Int)] ∧ KindAt H a q ∧ SqL K H z (nats sz) ∧ TyOk sz.length a ∧ dp a ≤ d ∧ top ≤ 256 ∧
  (Pa05.small top (numOf sz) a = none → E (.ref T.C_TooLarge) none H) ∧
  (∀ x, Pa05.small top (numOf sz) a = some x → Q (.int ((x : Nat) : Int)) H)
theorem ok_kind_size (T : Txt K mg) : ∀ d, FnOk P w K mg base (L2.CX P w) (d + 3) T.f_kind_size T.fd_kind_size ["kind", "set_sizes", "largest"] (sp_kind_size T d) := by
  intro d
  induction d with
  | zero =>
    refine T.F_kind_size.okX sc_kind_size (fun vs H Q E h => ?_) (fun cdv A outer s H vs Q E hr h => ?_)
    · obtain ⟨q, z, a, sz, top, rfl, _⟩ := h
      rfl
    · obtain ⟨q, z, a, sz, top, rfl, _, _, _, hd, _⟩ := h
      exfalso
      cases a <;> simp [dp] at hd
  | succ d ih =>
    refine T.F_kind_size.okX sc_kind_size (fun vs H Q E h => ?_) (fun cdv A outer s H vs Q E hr h => ⟨_, (pss_cons (ps_if (pt_cmpR op_eq (pe_ix ix_tup (pv 0) pe_int (fun _ _ => rfl)) (pe_cst rfl T.g_VARIABLE) (nomark _))
      (pss_one (ps_set (i := 3) sc_kind_size.nd rfl (Or.inl rfl) (pe_ix ix_list (pv 1) (pe_ix ix_tup (pv 0) pe_int (fun _ _ => rfl)) (fun _ _ => rfl))))
      (pss_one (ps_if (pt_cmpR op_eq (pe_ix ix_tup (pv 0) pe_int (fun _ _ => rfl)) (pe_cst rfl T.g_TWO) (nomark _))
        (pss_one (ps_set (i := 3) sc_kind_size.nd rfl (Or.inl rfl) pe_int))
        (pss_cons (ps_set (i := 4) sc_kind_size.nd rfl (Or.inl rfl) (pe_call ih hr rfl T.g_kind_size T.k_kind_size T.b_kind_size .nil (passes_call (takes_of rfl rfl rfl rfl) (fun _ _ _ _ h => h)) (pa_cons (pe_ix ix_tup (pv 0) pe_int (fun _ _ => rfl)) (pa_cons (pv 1) (pa_cons (pv 2) pa_nil)))))
        (pss_cons (ps_set (i := 5) sc_kind_size.nd rfl (Or.inl rfl) (pe_call ih hr rfl T.g_kind_size T.k_kind_size T.b_kind_size .nil (passes_call (takes_of rfl rfl rfl rfl) (fun _ _ _ _ h => h)) (pa_cons (pe_ix ix_tup (pv 0) pe_int (fun _ _ => rfl)) (pa_cons (pv 1) (pa_cons (pv 2) pa_nil)))))
        (pss_one (ps_set (i := 3) sc_kind_size.nd rfl (Or.inl rfl) (pe_call (ok_joined_size T) (hr.mono (by omega)) rfl T.g_joined_size T.k_joined_size T.b_joined_size .nil pass0 (pa_cons (pe_ix ix_tup (pv 0) pe_int (fun _ _ => rfl)) (pa_cons (pv 4) (pa_cons (pv 5) pa_nil)))))))))))
    (pss_cons (ps_if (pt_cmpR op_gt (pv 3) (pv 2) (nomark _))
      (pss_one (ps_raise rfl (takes_of rfl rfl rfl rfl) (pmk_own0 PySem.F.excBase_Exception T.x_TooLarge T.g_TooLarge T.k_TooLarge (raises_own T.b_TooLarge T.t_TooLarge) rfl)))
      pss_nil)
    (pss_one (ps_ret (pv 3))))), ?_⟩)
    · obtain ⟨q, z, a, sz, top, rfl, _⟩ := h
      rfl
    · obtain ⟨q, z, a, sz, top, rfl, hq, hz, ok, hd, htop, kE, kQ⟩ := h
      rcases form a with i | _ | ⟨h, x, y, hh⟩
      · have hi : i < sz.length := ok
        have hq' : H q = some (.tup [.int 0, .int (i : Int)]) := hq
        refine ⟨_, rfl, q, _, _, _, rfl, rfl, SqT.of hq', atI_nat (j := 0) rfl, rfl, _, rfl, if_true_of rfl ?_⟩
        refine ⟨_, rfl, _, rfl, q, _, _, _, rfl, rfl, SqT.of hq', atI_nat (j := 1) rfl, z, _, _, .int ((numOf sz i : Nat) : Int), rfl, rfl, hz, atI_nat (nats_at (numOf_at hi)), ?_⟩
        refine ⟨_, rfl, _, rfl, _, _, rfl, rfl, _, rfl, ?_⟩
        by_cases big : top < numOf sz i
        · exact if_true_of (decide_eq_true (by omega)) (kE (if_pos big))
        · exact if_false_of (decide_eq_false (by omega)) ⟨_, rfl, kQ _ (if_neg big)⟩
      · have hq' : H q = some (.tup [.int 1]) := hq
        refine ⟨_, rfl, q, _, _, _, rfl, rfl, SqT.of hq', atI_nat (j := 0) rfl, rfl, _, rfl, if_false_of rfl ?_⟩
        refine ⟨_, rfl, q, _, _, _, rfl, rfl, SqT.of hq', atI_nat (j := 0) rfl, rfl, _, rfl, if_true_of rfl ?_⟩
        refine ⟨_, rfl, _, rfl, _, _, rfl, rfl, _, rfl, ?_⟩
        by_cases big : top < 2
        · exact if_true_of (decide_eq_true (by omega)) (kE (if_pos big))
        · exact if_false_of (decide_eq_false (by omega)) ⟨_, rfl, kQ 2 (if_neg big)⟩
      · obtain ⟨b, c, hq', hb, hc⟩ := hq.of_bin hh
        obtain ⟨o1, o2⟩ := ok.of_bin hh
        rw [dp_bin hh] at hd
        rw [small_bin top _ hh] at kE kQ
        have h0 : decide (V.int ((h : Nat) : Int) = V.int 0) = false := decide_eq_false (fun q => by injection q with q; omega)
        have h1 : decide (V.int ((h : Nat) : Int) = V.int 1) = false := decide_eq_false (fun q => by injection q with q; omega)
        refine ⟨_, rfl, q, _, _, _, rfl, rfl, SqT.of hq', atI_nat (j := 0) rfl, rfl, _, rfl, if_false_of h0 ?_⟩
        refine ⟨_, rfl, q, _, _, _, rfl, rfl, SqT.of hq', atI_nat (j := 0) rfl, rfl, _, rfl, if_false_of h1 ?_⟩
        refine ⟨_, rfl, q, _, _, _, rfl, rfl, SqT.of hq', atI_nat (j := 1) rfl, _, rfl, _, rfl, b, z, x, sz, top, rfl, hb, hz, o1, by omega, htop, (fun e => kE (by rw [e])), (fun n1 e1 => ?_)⟩
        refine ⟨_, rfl, q, _, _, _, rfl, rfl, SqT.of hq', atI_nat (j := 2) rfl, _, rfl, _, rfl, c, z, y, sz, top, rfl, hc, hz, o2, by omega, htop, (fun e => kE (by rw [e1, e])), (fun n2 e2 => ?_)⟩
        rw [e1, e2] at kE kQ
        have l1 := small_le _ _ _ _ e1
        have l2 := small_le _ _ _ _ e2
        refine ⟨_, rfl, q, _, _, _, rfl, rfl, SqT.of hq', atI_nat (j := 0) rfl, _, rfl, _, rfl, h, n1, n2, rfl, hh, by omega, by omega, ?_⟩
        refine ⟨_, rfl, _, rfl, _, _, rfl, rfl, _, rfl, ?_⟩
        by_cases big : top < joined h n1 n2
        · exact if_true_of (decide_eq_true (by omega)) (kE (if_pos big))
        · exact if_false_of (decide_eq_false (by omega)) ⟨_, rfl, kQ _ (if_neg big)⟩
end
end FC
/-! Marks: whole numbers whose bits tell who is related. Plain Lean alone. -/
namespace FC
open Pa05
theorem range_plus (a b : Nat) : List.range (a + b) = List.range a ++ (List.range b).map (a + ·) := by
  induction b with
  | zero => simp
  | succ b ih => rw [← Nat.add_assoc, List.range_succ, ih, List.range_succ, List.map_append, List.append_assoc]; rfl
theorem range_times (p q : Nat) : List.range (p * q) = (List.range p).flatMap fun i => (List.range q).map fun j => i * q + j := by
  induction p with
  | zero => simp
  | succ p ih => rw [Nat.succ_mul, range_plus, ih, List.range_succ, List.flatMap_append]; simp
def markN : Nat → (Nat → Bool) → Nat
  | 0, _ => 0
  | q + 1, f => 2 ^ q * (if f q = true then 1 else 0) + markN q f
theorem markN_lt (f : Nat → Bool) : ∀ q, markN q f < 2 ^ q
  | 0 => by show 0 < 1; omega
  | q + 1 => by
    have := markN_lt f q
    show 2 ^ q * (if f q = true then 1 else 0) + markN q f < 2 ^ (q + 1)
    rw [Nat.pow_succ]
    by_cases c : f q = true
    · rw [if_pos c]; omega
    · rw [if_neg c]; omega
theorem bit_markN (f : Nat → Bool) : ∀ q y, (markN q f).testBit y = (decide (y < q) && f y)
  | 0, y => by simp [markN]
  | q + 1, y => by
    show (2 ^ q * (if f q = true then 1 else 0) + markN q f).testBit y = _
    rw [Nat.testBit_two_pow_mul_add _ (markN_lt f q)]
    by_cases c : y < q
    · rw [if_pos c, bit_markN f q y, decide_eq_true c, decide_eq_true (show y < q + 1 by omega)]
    · rw [if_neg c]
      by_cases e : y = q
      · subst e
        rw [Nat.sub_self, decide_eq_true (show y < y + 1 by omega)]
        by_cases d : f y = true
        · rw [if_pos d, d]; rfl
        · rw [if_neg d]
          simp at d
          rw [d]; rfl
      · rw [decide_eq_false (show ¬ y < q + 1 by omega)]
        obtain ⟨k, hk⟩ : ∃ k, y - q = k + 1 := ⟨y - q - 1, by omega⟩
        rw [hk]
        split <;> simp [Nat.testBit_succ]
theorem lt_of_bits {x q : Nat} (h : ∀ y, q ≤ y → x.testBit y = false) : x < 2 ^ q := Nat.lt_pow_two_of_testBit x h
theorem bits_of_lt {x q y : Nat} (h : x < 2 ^ q) (hy : q ≤ y) : x.testBit y = false := Nat.testBit_lt_two_pow (Nat.lt_of_lt_of_le h (Nat.pow_le_pow_right (by omega) hy))
theorem eq_bits {x y : Nat} (h : ∀ i, x.testBit i = y.testBit i) : x = y := Nat.eq_of_testBit_eq h
theorem eq_markN {x q : Nat} {f : Nat → Bool} (hx : x < 2 ^ q) (h : ∀ y, y < q → x.testBit y = f y) : x = markN q f := eq_bits fun y => by
  rw [bit_markN]
  by_cases c : y < q
  · rw [h y c, decide_eq_true c]; rfl
  · rw [bits_of_lt hx (by omega), decide_eq_false c]; rfl
theorem markN_congr {q : Nat} {f g : Nat → Bool} (h : ∀ y, y < q → f y = g y) : markN q f = markN q g := eq_markN (markN_lt f q) fun y hy => by rw [bit_markN, decide_eq_true hy, h y hy]; rfl
/-- the marks with each place multiplied by the step -/
def spr (b : Nat → Bool) (step : Nat) : Nat → Nat
  | 0 => 0
  | k + 1 => if b k = true then spr b step k ||| 2 ^ (k * step) else spr b step k
def spreadL (marks step : Nat) (l : List Nat) : Nat := l.foldl (fun f p => f ||| 2 ^ (p * step)) 0
theorem spread_eq (marks step : Nat) : ∀ k, spreadL marks step ((List.range k).filter fun p => marks.testBit p) = spr marks.testBit step k
  | 0 => rfl
  | k + 1 => by
    unfold spreadL
    rw [List.range_succ, List.filter_append, List.foldl_append]
    have ih := spread_eq marks step k
    unfold spreadL at ih
    rw [ih]
    show _ = if marks.testBit k = true then _ else _
    by_cases c : marks.testBit k = true
    · rw [if_pos c, List.filter_cons_of_pos c]; rfl
    · rw [if_neg c, List.filter_cons_of_neg c]; rfl
theorem spr_bits (b : Nat → Bool) {step : Nat} (hs : 0 < step) : ∀ k y, (spr b step k).testBit y = (decide (y < k * step) && (b (y / step) && decide (y % step = 0)))
  | 0, y => by simp [spr]
  | k + 1, y => by
    have ih := spr_bits b hs k
    have key : ((decide (y < k * step) && (b (y / step) && decide (y % step = 0))) || (b k && decide (k * step = y))) = (decide (y < (k + 1) * step) && (b (y / step) && decide (y % step = 0))) := by
      rw [Nat.succ_mul]
      by_cases c : y < k * step
      · have hne : k * step ≠ y := by omega
        rw [decide_eq_true c, decide_eq_true (show y < k * step + step by omega), decide_eq_false hne]
        simp
      · rw [decide_eq_false c]
        by_cases d : y < k * step + step
        · have e1 : y / step = k := Nat.div_eq_of_lt_le (by omega) (by rw [Nat.succ_mul]; omega)
          have e2 : y % step = y - k * step := by
            have := Nat.div_add_mod y step
            rw [e1, Nat.mul_comm] at this
            omega
          rw [decide_eq_true d, e1, e2]
          have e3 : decide (k * step = y) = decide (y - k * step = 0) := decide_eq_decide.mpr (by omega)
          rw [e3]
          simp
        · rw [decide_eq_false d, decide_eq_false (show ¬ k * step = y by omega)]
          simp
    show (if b k = true then spr b step k ||| 2 ^ (k * step) else spr b step k).testBit y = _
    rw [← key]
    by_cases c : b k = true
    · rw [if_pos c, Nat.testBit_or, ih, c, Nat.testBit_two_pow]
      rfl
    · simp at c
      rw [c, if_neg (by decide), ih]
      simp
theorem spr_lt (b : Nat → Bool) {step : Nat} (hs : 0 < step) (k : Nat) : spr b step k < 2 ^ (k * step) := lt_of_bits fun y hy => by
  rw [spr_bits b hs, decide_eq_false (by omega)]
  rfl
theorem spr_add (b : Nat → Bool) {step : Nat} (hs : 0 < step) (k : Nat) : spr b step (k + 1) = 2 ^ (k * step) * (if b k = true then 1 else 0) + spr b step k := by
  show (if b k = true then spr b step k ||| 2 ^ (k * step) else spr b step k) = _
  by_cases c : b k = true
  · rw [if_pos c, if_pos c, Nat.two_pow_add_eq_or_of_lt (spr_lt b hs k), Nat.mul_one, Nat.or_comm]
  · rw [if_neg c, if_neg c]
    omega
/-- a product of spread marks and marks below the step: no sum comes twice -/
theorem prod_bits (b : Nat → Bool) {step other : Nat} (ho : other < 2 ^ step) : ∀ k y, (spr b step k * other).testBit y = (decide (y < k * step) && (b (y / step) && other.testBit (y % step))) := by
  by_cases hs : step = 0
  · intro k y
    subst hs
    have : other = 0 := by simpa using ho
    subst this
    simp
  · have hs : 0 < step := by omega
    intro k
    induction k with
    | zero => intro y; simp [spr]
    | succ k ih =>
      intro y
      have lt : spr b step k * other < 2 ^ (k * step) := lt_of_bits fun z hz => by
        rw [ih z, decide_eq_false (by omega)]
        rfl
      have e : spr b step (k + 1) * other = 2 ^ (k * step) * (if b k = true then other else 0) + spr b step k * other := by
        rw [spr_add b hs, Nat.add_mul, Nat.mul_assoc]
        by_cases c : b k = true
        · rw [if_pos c, if_pos c, Nat.one_mul]
        · rw [if_neg c, if_neg c, Nat.zero_mul]
      rw [e, Nat.testBit_two_pow_mul_add _ lt, Nat.succ_mul]
      by_cases c : y < k * step
      · rw [if_pos c, ih y, decide_eq_true c, decide_eq_true (show y < k * step + step by omega)]
      · rw [if_neg c]
        by_cases d : y < k * step + step
        · have e1 : y / step = k := Nat.div_eq_of_lt_le (by omega) (by rw [Nat.succ_mul]; omega)
          have e2 : y % step = y - k * step := by
            have := Nat.div_add_mod y step
            rw [e1, Nat.mul_comm] at this
            omega
          rw [decide_eq_true d, e1, e2]
          by_cases g : b k = true
          · rw [if_pos g, g]; rfl
          · simp at g
            rw [g, if_neg (by decide)]
            simp
        · rw [decide_eq_false d]
          by_cases g : b k = true
          · rw [if_pos g, bits_of_lt ho (by omega)]; rfl
          · rw [if_neg g]; simp
theorem prod_lt (b : Nat → Bool) {step other : Nat} (ho : other < 2 ^ step) (k : Nat) : spr b step k * other < 2 ^ (k * step) := lt_of_bits fun z hz => by
  rw [prod_bits b ho, decide_eq_false (by omega)]
  rfl
/-- the relation of a type as a list of marks -/
def relL (n m : Nat → Nat) (r : Rel) (a : Ty) : List Nat := (List.range (a.card n)).map fun x => markN (a.card m) fun y => a.rel n m r x y
theorem relL_length (n m : Nat → Nat) (r : Rel) (a : Ty) : (relL n m r a).length = a.card n := by
  unfold relL
  rw [List.length_map, List.length_range]
theorem relL_at {n m : Nat → Nat} {r : Rel} {a : Ty} {x : Nat} (hx : x < a.card n) : (relL n m r a)[x]? = some (markN (a.card m) fun y => a.rel n m r x y) := by
  unfold relL
  rw [List.getElem?_map, List.getElem?_range hx]
  rfl
theorem relL_lt {n m : Nat → Nat} {r : Rel} {a : Ty} {z : Nat} (hz : z ∈ relL n m r a) : z < 2 ^ a.card m := by
  unfold relL at hz
  obtain ⟨x, _, rfl⟩ := List.mem_map.mp hz
  exact markN_lt _ _
theorem relL_two (n m : Nat → Nat) (r : Rel) : relL n m r .two = [1, 2] := by
  unfold relL
  rfl
theorem relL_pair (n m : Nat → Nat) (r : Rel) (a b : Ty) : relL n m r (.pair a b) = (relL n m r a).flatMap fun f => (relL n m r b).map fun o => spr f.testBit (b.card m) (a.card m) * o := by
  unfold relL
  show (List.range (a.card n * b.card n)).map _ = _
  rw [range_times, List.map_flatMap, List.flatMap_map]
  congr 1
  funext i
  rw [List.map_map, List.map_map]
  refine List.map_congr_left fun j hj => ?_
  have hj : j < b.card n := List.mem_range.mp hj
  show markN (a.card m * b.card m) (fun y => a.rel n m r ((i * b.card n + j) / b.card n) (y / b.card m) && b.rel n m r ((i * b.card n + j) % b.card n) (y % b.card m)) = _
  have e1 : (i * b.card n + j) / b.card n = i := Nat.div_eq_of_lt_le (by omega) (by rw [Nat.succ_mul]; omega)
  have e2 : (i * b.card n + j) % b.card n = j := by rw [Nat.mul_comm, Nat.mul_add_mod, Nat.mod_eq_of_lt hj]
  rw [e1, e2]
  symm
  refine eq_markN (prod_lt _ (markN_lt _ _) _) fun y hy => ?_
  have hb : 0 < b.card m := by
    rcases Nat.eq_zero_or_pos (b.card m) with h | h
    · rw [h, Nat.mul_zero] at hy; omega
    · exact h
  show (spr (markN (a.card m) fun y => a.rel n m r i y).testBit (b.card m) (a.card m) * (markN (b.card m) fun y => b.rel n m r j y)).testBit y = _
  rw [prod_bits _ (markN_lt _ _), decide_eq_true hy, bit_markN, bit_markN, decide_eq_true (Nat.mod_lt _ hb), decide_eq_true (show y / b.card m < a.card m from Nat.div_lt_of_lt_mul (by rw [Nat.mul_comm]; exact hy))]
  rfl
theorem relL_either (n m : Nat → Nat) (r : Rel) (a b : Ty) : relL n m r (.either a b) = relL n m r a ++ (relL n m r b).map fun o => o * 2 ^ a.card m := by
  unfold relL
  show (List.range (a.card n + b.card n)).map _ = _
  rw [range_plus, List.map_append, List.map_map, List.map_map]
  congr 1
  · refine List.map_congr_left fun x hx => ?_
    have hx : x < a.card n := List.mem_range.mp hx
    show markN (a.card m + b.card m) (fun y => if x < a.card n then decide (y < a.card m) && a.rel n m r x y else _) = _
    symm
    refine eq_markN (Nat.lt_of_lt_of_le (markN_lt _ _) (Nat.pow_le_pow_right (by omega) (by omega))) fun y hy => ?_
    rw [bit_markN, if_pos hx]
  · refine List.map_congr_left fun x hx => ?_
    have hx : x < b.card n := List.mem_range.mp hx
    show markN (a.card m + b.card m) (fun y => if a.card n + x < a.card n then _ else decide (a.card m ≤ y) && b.rel n m r (a.card n + x - a.card n) (y - a.card m)) = markN (b.card m) (fun y => b.rel n m r x y) * 2 ^ a.card m
    symm
    refine eq_markN ?_ fun y hy => ?_
    · rw [Nat.pow_add, Nat.mul_comm]
      exact Nat.mul_lt_mul_of_pos_left (markN_lt _ _) (Nat.two_pow_pos _)
    · rw [if_neg (by omega), Nat.add_sub_cancel_left, Nat.testBit_mul_two_pow]
      by_cases c : a.card m ≤ y
      · rw [decide_eq_true c, bit_markN, decide_eq_true (show y - a.card m < b.card m by omega)]
        simp
      · rw [decide_eq_false c]
        simp
/-! functions -/
def withinL (q : Nat) (l : List Nat) : Nat × Nat := l.foldl (fun s marks => (s.1 * spr marks.testBit s.2 q, s.2 * q)) (1, 1)
theorem at_mod {q t i y : Nat} (hi : i < t) : at_ q (y % q ^ t) i = at_ q y i := by
  unfold at_
  obtain ⟨k, rfl⟩ : ∃ k, t = i + (k + 1) := ⟨t - i - 1, by omega⟩
  rw [Nat.pow_add, Nat.mod_mul_right_div_self]
  exact Nat.mod_mod_of_dvd _ ⟨q ^ k, by rw [Nat.pow_succ, Nat.mul_comm]⟩
theorem within_snoc (q : Nat) (l : List Nat) (x : Nat) : withinL q (l ++ [x]) = ((withinL q l).1 * spr x.testBit (withinL q l).2 q, (withinL q l).2 * q) := by
  unfold withinL
  rw [List.foldl_append]
  rfl
theorem snoc_ind {α : Type} {C : List α → Prop} (h0 : C []) (h1 : ∀ l x, C l → C (l ++ [x])) (l : List α) : C l := by
  rw [← List.reverse_reverse l]
  induction l.reverse with
  | nil => exact h0
  | cons x r ih => rw [List.reverse_cons]; exact h1 _ _ ih
theorem within_pow (q : Nat) (l : List Nat) : (withinL q l).2 = q ^ l.length := by
  refine snoc_ind (C := fun l => (withinL q l).2 = q ^ l.length) rfl (fun l x ih => ?_) l
  rw [within_snoc, ih, List.length_append]
  rfl
theorem getD_snoc {l : List Nat} {x i : Nat} (h : i < l.length) : (l ++ [x]).getD i 0 = l.getD i 0 := by
  rw [List.getD_eq_getElem?_getD, List.getD_eq_getElem?_getD, List.getElem?_append_left h]
theorem all_congr_range {k : Nat} {f g : Nat → Bool} (h : ∀ i, i < k → f i = g i) : (List.range k).all f = (List.range k).all g := by
  induction k with
  | zero => rfl
  | succ k ih => rw [List.range_succ, List.all_append, List.all_append, ih (fun i hi => h i (by omega))]; simp [h k (by omega)]
theorem within_bits (q : Nat) (l : List Nat) : (withinL q l).1 < 2 ^ (q ^ l.length) ∧ ∀ g, (withinL q l).1.testBit g = (decide (g < q ^ l.length) && (List.range l.length).all fun i => (l.getD i 0).testBit (at_ q g i)) := by
  refine snoc_ind (C := fun l => (withinL q l).1 < 2 ^ (q ^ l.length) ∧ ∀ g, (withinL q l).1.testBit g = (decide (g < q ^ l.length) && (List.range l.length).all fun i => (l.getD i 0).testBit (at_ q g i))) ?_ (fun l x ih => ?_) l
  · refine ⟨by show 1 < 2 ^ 1; decide, fun g => ?_⟩
    show Nat.testBit 1 g = (decide (g < 1) && true)
    rw [show (1 : Nat) = 2 ^ 0 from rfl, Nat.testBit_two_pow, Bool.and_true]
    exact decide_eq_decide.mpr (by omega)
  · obtain ⟨ih1, ih2⟩ := ih
    rw [within_snoc, within_pow, List.length_append, List.length_singleton]
    have bits : ∀ g, ((withinL q l).1 * spr x.testBit (q ^ l.length) q).testBit g = (decide (g < q ^ (l.length + 1)) && (List.range (l.length + 1)).all fun i => ((l ++ [x]).getD i 0).testBit (at_ q g i)) := by
      intro g
      rw [Nat.mul_comm, prod_bits _ ih1, show q * q ^ l.length = q ^ (l.length + 1) from (Nat.mul_comm _ _).trans (Nat.pow_succ ..).symm]
      by_cases c : g < q ^ (l.length + 1)
      · rw [decide_eq_true c, ih2]
        have hq : 0 < q := by
          rcases Nat.eq_zero_or_pos q with h | h
          · rw [h, Nat.zero_pow (by omega)] at c; omega
          · exact h
        have hp : 0 < q ^ l.length := Nat.pow_pos hq
        have hd : g / q ^ l.length < q := Nat.div_lt_of_lt_mul (by rw [← Nat.pow_succ]; exact c)
        rw [decide_eq_true (Nat.mod_lt _ hp), List.range_succ, List.all_append]
        have e1 : (List.range l.length).all (fun i => (l.getD i 0).testBit (at_ q (g % q ^ l.length) i)) = (List.range l.length).all (fun i => ((l ++ [x]).getD i 0).testBit (at_ q g i)) := all_congr_range fun i hi => by
          rw [at_mod hi, getD_snoc hi]
        have e2 : (l ++ [x]).getD l.length 0 = x := by
          rw [List.getD_eq_getElem?_getD, List.getElem?_append_right (Nat.le_refl _), Nat.sub_self]
          rfl
        have e3 : at_ q g l.length = g / q ^ l.length := Nat.mod_eq_of_lt hd
        rw [e1]
        simp only [List.all_cons, List.all_nil, Bool.and_true, Bool.true_and, e2, e3]
        exact Bool.and_comm _ _
      · rw [decide_eq_false c]
        rfl
    refine ⟨lt_of_bits fun y hy => ?_, bits⟩
    rw [bits y, decide_eq_false (by omega)]
    rfl
/-- marks are put to places, one behind another -/
def meet (marks : Nat) (l : List Nat) (A : List Nat) : List Nat := l.foldl (fun A y => A.set y (A.getD y 0 &&& marks)) A
theorem meet_length (marks : Nat) : ∀ (l A : List Nat), (meet marks l A).length = A.length
  | [], A => rfl
  | y :: l, A => by
    show (meet marks l (A.set y _)).length = _
    rw [meet_length marks l, List.length_set]
theorem getD_set {A : List Nat} {y z v : Nat} (hy : y < A.length) : (A.set y v).getD z 0 = if y = z then v else A.getD z 0 := by
  rw [List.getD_eq_getElem?_getD, List.getD_eq_getElem?_getD, List.getElem?_set]
  by_cases c : y = z
  · subst c
    rw [if_pos rfl, if_pos rfl, if_pos hy]
    rfl
  · rw [if_neg c, if_neg c]
theorem meet_at (marks : Nat) : ∀ (l A : List Nat), l.Nodup → (∀ y ∈ l, y < A.length) → ∀ z, (meet marks l A).getD z 0 = if z ∈ l then A.getD z 0 &&& marks else A.getD z 0
  | [], A, _, _, z => by simp [meet]
  | y :: l, A, hn, hl, z => by
    have hy := hl y (by simp)
    obtain ⟨n1, n2⟩ := List.nodup_cons.mp hn
    show (meet marks l (A.set y (A.getD y 0 &&& marks))).getD z 0 = _
    rw [meet_at marks l _ n2 (fun w hw => by rw [List.length_set]; exact hl w (by simp [hw])) z, getD_set hy]
    by_cases c : y = z
    · subst c
      rw [if_neg n1, if_pos rfl, if_pos (by simp)]
    · rw [if_neg c]
      by_cases d : z ∈ l
      · rw [if_pos d, if_pos (by simp [d])]
      · rw [if_neg d, if_neg (by simp [d, Ne.symm c])]
/-- what a function related to f may have for each argument on the right, by the first k arguments on the left -/
def allowL (m q p f : Nat) (ra : Nat → Nat → Bool) (given : List Nat) (k : Nat) : List Nat := (List.range m).map fun y => markN q fun z => (List.range k).all fun x => !ra x y || (given.getD (at_ p f x) 0).testBit z
theorem allowL_length (m q p f : Nat) (ra : Nat → Nat → Bool) (given : List Nat) (k : Nat) : (allowL m q p f ra given k).length = m := by
  unfold allowL
  rw [List.length_map, List.length_range]
theorem map_range_getD {m : Nat} {g : Nat → Nat} {y : Nat} (hy : y < m) : ((List.range m).map g).getD y 0 = g y := by
  rw [List.getD_eq_getElem?_getD, List.getElem?_map, List.getElem?_range hy]
  rfl
theorem ext_getD {A B : List Nat} (hl : A.length = B.length) (h : ∀ z, z < A.length → A.getD z 0 = B.getD z 0) : A = B := by
  refine List.ext_getElem hl fun i h1 h2 => ?_
  have := h i h1
  rw [List.getD_eq_getElem?_getD, List.getD_eq_getElem?_getD, List.getElem?_eq_getElem h1, List.getElem?_eq_getElem h2] at this
  exact this
theorem allowL_zero (m q p f : Nat) (ra : Nat → Nat → Bool) (given : List Nat) : allowL m q p f ra given 0 = List.replicate m (2 ^ q - 1) := by
  refine ext_getD (by rw [allowL_length, List.length_replicate]) fun y hy => ?_
  rw [allowL_length] at hy
  unfold allowL
  rw [map_range_getD hy, List.getD_eq_getElem?_getD, List.getElem?_replicate, if_pos hy]
  show markN q (fun z => true) = 2 ^ q - 1
  symm
  refine eq_markN (by have := Nat.two_pow_pos q; omega) fun z hz => ?_
  rw [Nat.testBit_two_pow_sub_one, decide_eq_true hz]
theorem allowL_succ (m q p f : Nat) (ra : Nat → Nat → Bool) (given : List Nat) (k : Nat) : meet (given.getD (at_ p f k) 0) ((List.range m).filter fun y => ra k y) (allowL m q p f ra given k) = allowL m q p f ra given (k + 1) := by
  refine ext_getD (by rw [meet_length, allowL_length, allowL_length]) fun y hy => ?_
  rw [meet_length, allowL_length] at hy
  rw [meet_at _ _ _ (List.Pairwise.filter _ List.nodup_range) (fun z hz => by rw [allowL_length]; exact List.mem_range.mp (List.mem_filter.mp hz).1)]
  unfold allowL
  rw [map_range_getD hy, map_range_getD hy]
  by_cases c : ra k y = true
  · rw [if_pos (List.mem_filter.mpr ⟨List.mem_range.mpr hy, c⟩)]
    refine eq_markN (Nat.lt_of_le_of_lt Nat.and_le_left (markN_lt _ _)) fun z hz => ?_
    rw [Nat.testBit_and, bit_markN, decide_eq_true hz, List.range_succ, List.all_append]
    simp [c]
  · rw [if_neg (fun h => c (List.mem_filter.mp h).2)]
    refine markN_congr fun z hz => ?_
    simp at c
    rw [List.range_succ, List.all_append]
    simp [c]
theorem all_swap (a b : Nat) (f : Nat → Nat → Bool) : ((List.range a).all fun x => (List.range b).all fun y => f x y) = (List.range b).all fun y => (List.range a).all fun x => f x y := by
  rw [Bool.eq_iff_iff]
  simp only [List.all_eq_true, List.mem_range]
  exact ⟨fun h y hy x hx => h x hx y hy, fun h x hx y hy => h y hy x hx⟩
theorem at_lt {q f x : Nat} (h : 0 < q) : at_ q f x < q := Nat.mod_lt _ h
theorem relL_fn (n m : Nat → Nat) (r : Rel) (a b : Ty) : relL n m r (.fn a b) = (List.range (b.card n ^ a.card n)).map fun f => (withinL (b.card m) (allowL (a.card m) (b.card m) (b.card n) f (fun x y => a.rel n m r x y) (relL n m r b) (a.card n))).1 := by
  unfold relL
  show (List.range (b.card n ^ a.card n)).map _ = _
  refine List.map_congr_left fun f hf => ?_
  have hf : f < b.card n ^ a.card n := List.mem_range.mp hf
  symm
  obtain ⟨w1, w2⟩ := within_bits (b.card m) (allowL (a.card m) (b.card m) (b.card n) f (fun x y => a.rel n m r x y) (relL n m r b) (a.card n))
  rw [allowL_length] at w1 w2
  refine eq_markN w1 fun g hg => ?_
  have hg : g < b.card m ^ a.card m := hg
  show (withinL (b.card m) (allowL (a.card m) (b.card m) (b.card n) f (fun x y => a.rel n m r x y) (relL n m r b) (a.card n))).1.testBit g = _
  rw [w2 g, decide_eq_true hg, Bool.true_and]
  show _ = (List.range (a.card n)).all fun x => (List.range (a.card m)).all fun y => !a.rel n m r x y || b.rel n m r (at_ (b.card n) f x) (at_ (b.card m) g y)
  rw [all_swap]
  refine all_congr_range fun y hy => ?_
  have hbm : 0 < b.card m := by
    rcases Nat.eq_zero_or_pos (b.card m) with h | h
    · rw [h, Nat.zero_pow (by omega)] at hg; omega
    · exact h
  unfold allowL
  rw [map_range_getD hy, bit_markN, decide_eq_true (at_lt hbm), Bool.true_and]
  refine all_congr_range fun x hx => ?_
  have hbn : 0 < b.card n := by
    rcases Nat.eq_zero_or_pos (b.card n) with h | h
    · rw [h, Nat.zero_pow (by omega)] at hf; omega
    · exact h
  have e : (relL n m r b).getD (at_ (b.card n) f x) 0 = markN (b.card m) fun y => b.rel n m r (at_ (b.card n) f x) y := by
    rw [List.getD_eq_getElem?_getD, relL_at (at_lt hbn)]
    rfl
  rw [e, bit_markN, decide_eq_true (at_lt hbm), Bool.true_and]
end FC
namespace FC
open PySem PySem.Spec PyProof.Rows L2
theorem spr_le (b : Nat → Bool) (step : Nat) : ∀ k, spr b step k < 2 ^ (k * step + 1) := by
  intro k
  by_cases hs : 0 < step
  · exact Nat.lt_trans (spr_lt b hs k) (Nat.pow_lt_pow_right (by omega) (by omega))
  · have e : step = 0 := by omega
    subst e
    have : ∀ k, spr b 0 k ≤ 1 := by
      intro k
      induction k with
      | zero => exact Nat.zero_le _
      | succ k ih =>
        show (if b k = true then spr b 0 k ||| 2 ^ (k * 0) else spr b 0 k) ≤ 1
        split
        · have : spr b 0 k = 0 ∨ spr b 0 k = 1 := by omega
          rcases this with e | e <;> rw [e, Nat.mul_zero] <;> decide
        · exact ih
    exact Nat.lt_of_le_of_lt (this k) (by rw [Nat.mul_zero]; decide)
theorem and_nat (a b : Nat) : Builtin.bitAnd (a : Int) (b : Int) = ((a &&& b : Nat) : Int) := by
  rw [bitAnd_pp (Int.natCast_nonneg _) (Int.natCast_nonneg _), Int.toNat_natCast, Int.toNat_natCast]
theorem shr_nat (m p : Nat) : (m : Int) / 2 ^ ((p : Int)).toNat = ((m >>> p : Nat) : Int) := by
  rw [Int.toNat_natCast, Nat.shiftRight_eq_div_pow, Int.natCast_ediv, Int.natCast_pow]
  rfl
theorem bit_int (m p : Nat) : Builtin.bitAnd ((m : Int) / 2 ^ ((p : Int)).toNat) 1 = if m.testBit p = true then 1 else 0 := by
  rw [shr_nat, show (1 : Int) = ((1 : Nat) : Int) from rfl, and_nat, Nat.and_one_is_mod, Nat.shiftRight_eq_div_pow, Nat.testBit_eq_decide_div_mod_eq]
  by_cases c : m / 2 ^ p % 2 = 1
  · rw [c]; rfl
  · rw [decide_eq_false c]
    have : m / 2 ^ p % 2 = 0 := by omega
    rw [this]; rfl
theorem nats_snoc (l : List Nat) (x : Nat) : nats (l ++ [x]) = nats l ++ [.int (x : Int)] := by
  unfold nats
  rw [List.map_append]
  rfl
theorem nats_app (l m : List Nat) : nats (l ++ m) = nats l ++ nats m := List.map_append ..
theorem natAbs_lt {x n : Nat} (h : x < 2 ^ n) : ((x : Int)).natAbs < 2 ^ n := h
section
variable {P : Program} {w : World} {K : PySem.W.Frag} {mg : Str → Option Value} {base : Heap}
def sp_is_marked (T : Txt K mg) : Sp := fun vs H Q _ => ∃ (m p : Nat), vs = [.int (m : Int), .int (p : Int)] ∧ Q (.bl (m.testBit p)) H
theorem ok_is_marked (T : Txt K mg) : FnOk P w K mg base CX0 1 T.f_is_marked T.fd_is_marked ["marks", "place"] (sp_is_marked T) := by
  refine T.F_is_marked.ok sc_is_marked (fun vs H Q E h => ?_) (fun cdv A outer s H vs Q E hr h => ⟨_, (pss_one (ps_ret (pe_cmpR op_eq (pe_op op_and (pe_op op_shr (pv 0) (pv 1)) pe_int) pe_int (nomark _)))), ?_⟩)
  · obtain ⟨m, p, rfl, _⟩ := h
    rfl
  · obtain ⟨m, p, rfl, k⟩ := h
    refine ⟨_, rfl, _, rfl, _, _, rfl, rfl, by omega, _, _, rfl, rfl, rfl, ?_⟩
    have e : decide (V.int (Builtin.bitAnd ((m : Int) / 2 ^ ((p : Int)).toNat) 1) = V.int 1) = m.testBit p := by
      rw [bit_int]
      cases m.testBit p <;> rfl
    show Q (.bl (decide (V.int (Builtin.bitAnd ((m : Int) / 2 ^ ((p : Int)).toNat) 1) = V.int 1))) H
    rw [e]
    exact k
def bitsIn (m s : Nat) : List Nat := (List.range s).filter fun p => m.testBit p
theorem bitsIn_le (m s : Nat) : (bitsIn m s).length ≤ s := by
  have := List.length_filter_le (fun p => m.testBit p) (List.range s)
  rw [List.length_range] at this
  exact this
def sp_places (T : Txt K mg) : Sp := fun vs H Q _ => ∃ (m s : Nat), vs = [.int (m : Int), .int (s : Int)] ∧ s ≤ 256 ∧ ∀ l, H l = none → Q (.ref l) (upd H l (.lst (nats (bitsIn m s))))
theorem ok_places (T : Txt K mg) : FnOk P w K mg base CX0 2 T.f_places T.fd_places ["marks", "size"] (sp_places T) := by
  refine T.F_places.ok sc_places (fun vs H Q E h => ?_) (fun cdv A outer s H vs Q E hr h => ⟨_, (pss_one (ps_ret (pe_lc (own := [("place", 2)]) (by rfl) sc_places.nd (pi_range1 rfl T.n_range (pa_cons (pv 1) pa_nil)) (blkOk_by (own := [("place", 2)]) (N := ["marks", "size", "place"]) (sc := defScope s_places) (by decide +kernel)) (fun _ _ _ _ _ => (pg_name (i := 2) sc_places.nd rfl (Or.inl rfl))) (fun _ _ _ _ _ => (pts_one (pt_val (pe_call (ok_is_marked T) (hr.mono (by decide)) rfl T.g_is_marked T.k_is_marked T.b_is_marked .nil pass0 (pa_cons (pv 0) (pa_cons (pv 2) pa_nil)))))) (fun _ _ _ _ _ => (pv 2))))), ?_⟩)
  · obtain ⟨m, s, rfl, _⟩ := h
    rfl
  · obtain ⟨m, s, rfl, hs, k⟩ := h
    refine ⟨_, rfl, (s : Int), rfl, by omega, by omega, fun D hD => ?_⟩
    rw [show ((s : Int)).toNat = s from Int.toNat_natCast s]
    refine lc_range (lo := 0) (n := s) (fun i H' => H' = upd H D (.lst (nats (bitsIn m i)))) rfl ?_ ?_
    · rintro i H' hi rfl
      have h0 := bitsIn_le m i
      refine ⟨rfl, _, rfl, _, rfl, m, i, (by show [V.int (m : Int), V.int (0 + (i : Int))] = _; rw [Int.zero_add]), _, rfl, ?_⟩
      have e : bitsIn m (i + 1) = if m.testBit i = true then bitsIn m i ++ [i] else bitsIn m i := by
        unfold bitsIn
        rw [List.range_succ, List.filter_append]
        by_cases c : m.testBit i = true
        · rw [if_pos c, List.filter_cons_of_pos c]; rfl
        · rw [if_neg c, List.filter_cons_of_neg c, List.filter_nil, List.append_nil]
      rw [e]
      by_cases c : m.testBit i = true
      · rw [if_pos c]
        refine if_true_of c ?_
        refine ⟨_, rfl, _, upd_same, (by rw [nats_length]; exact small1000 (by omega)), ?_⟩
        rw [upd_upd, nats_snoc]
        show upd H D (.lst (nats (bitsIn m i) ++ [V.int (0 + (i : Int))])) = _
        rw [Int.zero_add]
      · rw [if_neg c]
        exact if_false_of (by simpa using c) rfl
    · rintro H' rfl
      exact k D hD
def sp_spread (T : Txt K mg) : Sp := fun vs H Q _ => ∃ (m s t : Nat), vs = [.int (m : Int), .int (s : Int), .int (t : Int)] ∧ s ≤ 256 ∧ t ≤ 256 ∧ ∀ H', Same H H' → Q (.int ((spr m.testBit t s : Nat) : Int)) H'
theorem ok_spread (T : Txt K mg) : FnOk P w K mg base CX0 3 T.f_spread T.fd_spread ["marks", "size", "step"] (sp_spread T) := by
  refine T.F_spread.ok sc_spread (fun vs H Q E h => ?_) (fun cdv A outer s H vs Q E hr h => ⟨_, (pss_cons (ps_set (i := 3) sc_spread.nd rfl (Or.inl rfl) pe_int)
    (pss_cons (ps_for PassesOwn.never rfl (pi_list (pe_call (ok_places T) (hr.mono (by decide)) rfl T.g_places T.k_places T.b_places .nil pass0 (pa_cons (pv 0) (pa_cons (pv 1) pa_nil)))) (pg_name (i := 4) sc_spread.nd rfl (Or.inl rfl))
      (pss_one (ps_set (i := 3) sc_spread.nd rfl (Or.inl rfl) (pe_op op_or (pv 3) (pe_op op_shl pe_int (pe_op op_mul (pv 4) (pv 2)))))))
    (pss_one (ps_ret (pv 3))))), ?_⟩)
  · obtain ⟨m, s, t, rfl, _⟩ := h
    rfl
  · obtain ⟨m, s, t, rfl, hs, ht, k⟩ := h
    refine ⟨_, rfl, _, rfl, m, s, rfl, hs, fun l hl => ?_⟩
    have sm : Same H (upd H l (.lst (nats (bitsIn m s)))) := Same.new hl
    have cl : upd H l (.lst (nats (bitsIn m s))) l = some (.lst (nats (bitsIn m s))) := upd_same
    generalize upd H l (.lst (nats (bitsIn m s))) = H1 at sm cl ⊢
    refine ⟨l, rfl, ⟨_, SqL.of cl⟩, ?_⟩
    refine for_list (xs := nats (bitsIn m s)) (fun i σ H' => H' = H1 ∧ ∃ v : Option V, σ = [some (.int (m : Int)), some (.int (s : Int)), some (.int (t : Int)), some (.int ((spreadL m t ((bitsIn m s).take i) : Nat) : Int)), v]) ⟨rfl, none, rfl⟩ ?_ ?_ ?_
    · rintro i σ H' _ ⟨rfl, _⟩
      exact SqL.of cl
    · rintro i x σ H' hx ⟨rfl, v, rfl⟩
      obtain ⟨p, hp, rfl⟩ : ∃ p, (bitsIn m s)[i]? = some p ∧ x = .int (p : Int) := by
        unfold nats at hx
        rw [List.getElem?_map] at hx
        cases e : (bitsIn m s)[i]? with
        | none => rw [e] at hx; cases hx
        | some y => rw [e] at hx; exact ⟨y, rfl, (Option.some.inj hx).symm⟩
      have hps : p < s := List.mem_range.mp (List.mem_filter.mp (List.mem_of_getElem? hp)).1
      have hpt : p * t ≤ 256 * 256 := Nat.mul_le_mul (by omega) ht
      refine ⟨_, rfl, _, rfl, _, rfl, _, _, rfl, rfl, .inl ⟨by omega, by omega⟩, ?_⟩
      have epm : ((p : Int) * (t : Int)) = ((p * t : Nat) : Int) := (Int.natCast_mul p t).symm
      refine ⟨1, ((p : Int) * (t : Int)), rfl, rfl, ⟨by rw [epm]; omega, by rw [epm]; omega, by decide⟩, _, _, rfl, rfl, rfl, some (.int (p : Int)), ?_⟩
      have e1 : (bitsIn m s).take (i + 1) = (bitsIn m s).take i ++ [p] := by rw [List.take_add_one, hp]; rfl
      have e2 : spreadL m t ((bitsIn m s).take (i + 1)) = spreadL m t ((bitsIn m s).take i) ||| 2 ^ (p * t) := by
        rw [e1]
        unfold spreadL
        rw [List.foldl_append]
        rfl
      have e3 : (1 : Int) * 2 ^ ((p : Int) * (t : Int)).toNat = ((2 ^ (p * t) : Nat) : Int) := by
        rw [epm, Int.toNat_natCast, Int.one_mul, Int.natCast_pow]
        rfl
      have e4 : Builtin.bitOr ((spreadL m t ((bitsIn m s).take i) : Nat) : Int) (1 * 2 ^ ((p : Int) * (t : Int)).toNat) = ((spreadL m t ((bitsIn m s).take (i + 1)) : Nat) : Int) := by
        rw [e3, bitOr_nn (Int.natCast_nonneg _) (Int.natCast_nonneg _), Int.toNat_natCast, Int.toNat_natCast, e2]
      show [some (V.int (m : Int)), some (V.int (s : Int)), some (V.int (t : Int)), some (V.int (Builtin.bitOr ((spreadL m t ((bitsIn m s).take i) : Nat) : Int) (1 * 2 ^ ((p : Int) * (t : Int)).toNat))), some (V.int (p : Int))] = _
      rw [e4]
    · rintro σ H' ⟨rfl, v, rfl⟩
      rw [nats_length, List.take_length]
      refine ⟨_, rfl, ?_⟩
      have e : spreadL m t (bitsIn m s) = spr m.testBit t s := spread_eq m t s
      rw [e]
      exact k H' sm
theorem nats_get {l : List Nat} {i : Nat} {x : V} (hx : (nats l)[i]? = some x) : ∃ p, l[i]? = some p ∧ x = .int (p : Int) := by
  unfold nats at hx
  rw [List.getElem?_map] at hx
  cases e : l[i]? with
  | none => rw [e] at hx; cases hx
  | some y => rw [e] at hx; exact ⟨y, rfl, (Option.some.inj hx).symm⟩
def sp_functions_within (T : Txt K mg) : Sp := fun vs H Q _ => ∃ (a : Addr) (l : List Nat) (q : Nat), vs = [.ref a, .int (q : Int)] ∧ SqL K H a (nats l) ∧ q ≤ 256 ∧ q ^ l.length ≤ 256 ∧ ∀ H', Same H H' → Q (.int (((withinL q l).1 : Nat) : Int)) H'
theorem pow_le_all {q n i : Nat} (h : q ^ n ≤ 256) (hi : i ≤ n) : q ^ i ≤ 256 := by
  rcases Nat.eq_zero_or_pos q with e | e
  · subst e
    cases i with
    | zero => decide
    | succ i => rw [Nat.zero_pow (by omega)]; omega
  · exact Nat.le_trans (Nat.pow_le_pow_right e hi) h
theorem ok_functions_within (T : Txt K mg) : FnOk P w K mg base CX0 4 T.f_functions_within T.fd_functions_within ["allowed", "given_size"] (sp_functions_within T) := by
  refine T.F_functions_within.ok sc_functions_within (fun vs H Q E h => ?_) (fun cdv A outer s H vs Q E hr h => ⟨_, (pss_cons (ps_set (i := 2) sc_functions_within.nd rfl (Or.inl rfl) pe_int)
    (pss_cons (ps_set (i := 3) sc_functions_within.nd rfl (Or.inl rfl) pe_int)
    (pss_cons (ps_for PassesOwn.never rfl (pi_list (pv 0)) (pg_name (i := 4) sc_functions_within.nd rfl (Or.inl rfl))
      (pss_cons (ps_set (i := 2) sc_functions_within.nd rfl (Or.inl rfl) (pe_op op_mulW (pv 2) (pe_call (ok_spread T) (hr.mono (by decide)) rfl T.g_spread T.k_spread T.b_spread .nil pass0 (pa_cons (pv 4) (pa_cons (pv 1) (pa_cons (pv 3) pa_nil))))))
      (pss_one (ps_set (i := 3) sc_functions_within.nd rfl (Or.inl rfl) (pe_op op_mul (pv 3) (pv 1))))))
    (pss_one (ps_ret (pv 2)))))), ?_⟩)
  · obtain ⟨a, l, q, rfl, _⟩ := h
    rfl
  · obtain ⟨a, l, q, rfl, hs, hq, hp, k⟩ := h
    refine ⟨_, rfl, a, rfl, ⟨_, hs⟩, ?_⟩
    refine for_list (xs := nats l) (fun i σ H' => Same H H' ∧ ∃ v : Option V, σ = [some (.ref a), some (.int (q : Int)), some (.int (((withinL q (l.take i)).1 : Nat) : Int)), some (.int (((withinL q (l.take i)).2 : Nat) : Int)), v]) ⟨Same.refl H, none, rfl⟩ ?_ ?_ ?_
    · rintro i σ H' _ ⟨sm, _⟩
      exact sm.seq hs
    · rintro i x σ H' hx ⟨sm, v, rfl⟩
      obtain ⟨p, hp', rfl⟩ := nats_get hx
      have hi : i < l.length := (List.getElem?_eq_some_iff.mp hp').1
      have hw := within_bits q (l.take i)
      have elen : (l.take i).length = i := by rw [List.length_take]; omega
      rw [elen] at hw
      have hpw : (withinL q (l.take i)).2 = q ^ i := by rw [within_pow, elen]
      have hqi : q ^ i ≤ 256 := pow_le_all hp (by omega)
      have e1 : l.take (i + 1) = l.take i ++ [p] := by rw [List.take_add_one, hp']; rfl
      refine ⟨_, rfl, _, rfl, _, rfl, _, rfl, p, q, q ^ i, (by rw [hpw]; rfl), hq, hqi, fun H2 s2 => ?_⟩
      have b1 : ((((withinL q (l.take i)).1 : Nat) : Int)).natAbs < 2 ^ 257 := natAbs_lt (Nat.lt_trans hw.1 (Nat.pow_lt_pow_right (by omega) (by omega)))
      have b2 : ((((spr p.testBit (q ^ i) q : Nat)) : Int)).natAbs < 2 ^ 65537 := natAbs_lt (Nat.lt_of_lt_of_le (spr_le _ _ _) (Nat.pow_le_pow_right (by omega) (by have := Nat.mul_le_mul hq hqi; omega)))
      refine ⟨_, _, rfl, rfl, wide_mul b1 b2 (by decide) (by decide) (by decide), ?_⟩
      refine ⟨_, rfl, _, rfl, _, _, rfl, rfl, .inl ⟨by rw [hpw]; omega, by rw [hpw]; omega⟩, Same.trans sm s2, some (.int (p : Int)), ?_⟩
      rw [e1, within_snoc, hpw, Int.natCast_mul, Int.natCast_mul]
      rfl
    · rintro σ H' ⟨sm, v, rfl⟩
      rw [nats_length, List.take_length]
      exact ⟨_, rfl, k H' sm⟩
end
end FC
namespace FC
open PySem PySem.Spec PyProof.Rows L2
theorem nats_getD {l : List Nat} {i : Nat} (h : i < l.length) : (nats l)[i]? = some (.int ((l.getD i 0 : Nat) : Int)) := by
  refine nats_at ?_
  rw [List.getD_eq_getElem?_getD, List.getElem?_eq_getElem h]
  rfl
theorem nats_set (l : List Nat) (j v : Nat) : (nats l).set j (.int (v : Int)) = nats (l.set j v) := by
  unfold nats
  rw [List.map_set]
theorem nats_rep (m v : Nat) : (List.replicate m [V.int (v : Int)]).flatten = nats (List.replicate m v) := by
  unfold nats
  rw [List.map_replicate]
  induction m with
  | zero => rfl
  | succ m ih => rw [List.replicate_succ, List.replicate_succ, List.flatten_cons, ih]; rfl
theorem fmod_nat (a b : Nat) : ((a : Int)).fmod (b : Int) = ((a % b : Nat) : Int) := by
  rw [Int.fmod_eq_emod_of_nonneg _ (Int.natCast_nonneg _), Int.natCast_emod]
theorem fdiv_nat (a b : Nat) : ((a : Int)).fdiv (b : Int) = ((a / b : Nat) : Int) := by
  rw [Int.fdiv_eq_ediv_of_nonneg _ (Int.natCast_nonneg _), Int.natCast_ediv]
theorem ixN_nat {n j : Nat} (h : j < n) : ixN n (j : Int) = some j := by
  unfold ixN
  rw [if_pos (Int.natCast_nonneg _), if_pos (by omega), Int.toNat_natCast]
theorem div_pow_succ (f p i : Nat) : f / p ^ i / p = f / p ^ (i + 1) := by
  rw [Nat.div_div_eq_div_mul, Nat.pow_succ]
section
variable {P : Program} {w : World} {K : PySem.W.Frag} {mg : Str → Option Value} {base : Heap}
/-- rows of places -/
def RowsAt (H : Hp) (rps : List Addr) (m : Nat) (ra : Nat → Nat → Bool) : Prop := ∀ x a, rps[x]? = some a → H a = some (.lst (nats ((List.range m).filter fun y => ra x y)))
def sp_allowed_marks (T : Txt K mg) : Sp := fun vs H Q _ => ∃ (f m q : Nat) (R G : Addr) (rps : List Addr) (ra : Nat → Nat → Bool) (given : List Nat), vs = [.int (f : Int), .ref R, .ref G, .int (m : Int), .int (q : Int)] ∧ SqL K H R (rps.map V.ref) ∧ RowsAt H rps m ra ∧ SqL K H G (nats given) ∧
  m ≤ 256 ∧ q ≤ 256 ∧ given.length ≤ 256 ∧ (0 < rps.length → 0 < given.length) ∧
  ∀ (H' : Hp) (l : Addr), Same H H' → H' l = some (.lst (nats (allowL m q given.length f ra given rps.length))) → Q (.ref l) H'
theorem ok_allowed_marks (T : Txt K mg) : FnOk P w K mg base CX0 1 T.f_allowed_marks T.fd_allowed_marks ["function", "related_places", "given", "taken_size", "given_size"] (sp_allowed_marks T) := by
  refine T.F_allowed_marks.ok sc_allowed_marks (fun vs H Q E h => ?_) (fun cdv A outer s H vs Q E hr h => ⟨_, (pss_cons (ps_set (i := 5) sc_allowed_marks.nd rfl (Or.inl rfl) (pe_op op_rep (pe_lst (pa_cons (pe_op op_sub (pe_op op_shl pe_int (pv 4)) pe_int) pa_nil)) (pv 3)))
    (pss_cons (ps_set (i := 6) sc_allowed_marks.nd rfl (Or.inl rfl) (pv 0))
    (pss_cons (ps_for PassesOwn.never rfl (pi_list (pv 1)) (pg_name (i := 7) sc_allowed_marks.nd rfl (Or.inl rfl))
      (pss_cons (ps_set (i := 8) sc_allowed_marks.nd rfl (Or.inl rfl) (pe_ix ix_list (pv 2) (pe_op op_modN (pv 6) (pe_callB call_len_seq rfl T.n_len (by decide +kernel) (pa_cons (pv 2) pa_nil))) (fun _ _ => rfl)))
      (pss_cons (ps_set (i := 6) sc_allowed_marks.nd rfl (Or.inl rfl) (pe_op op_fdivN (pv 6) (pe_callB call_len_seq rfl T.n_len (by decide +kernel) (pa_cons (pv 2) pa_nil))))
      (pss_one (ps_for PassesOwn.never rfl (pi_list (pv 7)) (pg_name (i := 9) sc_allowed_marks.nd rfl (Or.inl rfl))
        (pss_one (ps_asg (pe_op op_and (pe_ix ix_list (pv 5) (pv 9) (fun _ _ => rfl)) (pv 8)) (pg_sub (pv 5) (pv 9) set_list))))))))
    (pss_one (ps_ret (pv 5)))))), ?_⟩)
  · obtain ⟨f, m, q, R, G, rps, ra, given, rfl, _⟩ := h
    rfl
  · obtain ⟨f, m, q, R, G, rps, ra, given, rfl, hR, rows, hG, hm, hq, hg, hpos, k⟩ := h
    refine ⟨_, rfl, _, _, rfl, rfl, ⟨by omega, by omega, by decide⟩, _, _, rfl, rfl, (by show 1 ≤ sizeLine; decide), fun l0 hl0 => ?_⟩
    have e0 : ((1 : Int) * 2 ^ ((q : Int)).toNat - 1) = ((2 ^ q - 1 : Nat) : Int) := by
      rw [Int.toNat_natCast, Int.one_mul]
      have := Nat.two_pow_pos q
      rw [show (2 : Int) ^ q = ((2 ^ q : Nat) : Int) from (Int.natCast_pow 2 q).symm]
      omega
    refine ⟨_, rfl, l0, _, _, rfl, rfl, upd_same, by omega, by omega, ?_, fun B hB => ?_⟩
    · rw [Int.toNat_natCast]
      show 1 * m ≤ sizeLine
      exact Nat.le_of_lt (small1000 (by omega))
    · have hBl : B ≠ l0 := fun e => by rw [e, upd_same] at hB; cases hB
      have HB : H B = none := by rw [upd_ne hBl] at hB; exact hB
      have cB : upd (upd H l0 (.lst [.int ((1 : Int) * 2 ^ ((q : Int)).toNat - 1)])) B (.lst (List.replicate m [V.int ((1 : Int) * 2 ^ ((q : Int)).toNat - 1)]).flatten) B = some (.lst (nats (allowL m q given.length f ra given 0))) := by
        rw [upd_same, e0, nats_rep, allowL_zero]
      have sm : Same H (upd (upd H l0 (.lst [.int ((1 : Int) * 2 ^ ((q : Int)).toNat - 1)])) B (.lst (List.replicate m [V.int ((1 : Int) * 2 ^ ((q : Int)).toNat - 1)]).flatten)) := Same.trans (Same.new hl0) (Same.new hB)
      refine ⟨_, rfl, ?_⟩
      refine ⟨_, rfl, R, rfl, ⟨_, sm.seq hR⟩, ?_⟩
      refine for_list (xs := rps.map V.ref) (fun i σ Hc => Same H Hc ∧ Hc B = some (.lst (nats (allowL m q given.length f ra given i))) ∧ ∃ v7 v8 v9 : Option V, σ = [some (.int (f : Int)), some (.ref R), some (.ref G), some (.int (m : Int)), some (.int (q : Int)), some (.ref B), some (.int ((f / given.length ^ i : Nat) : Int)), v7, v8, v9]) ⟨sm, cB, none, none, none, ?_⟩ ?_ ?_ ?_
      · rw [Nat.pow_zero, Nat.div_one]
        rfl
      · rintro i σ Hc _ ⟨s1, _⟩
        exact s1.seq hR
      · rintro i x σ Hc hx ⟨s1, c1, v7, v8, v9, rfl⟩
        rw [List.getElem?_map] at hx
        obtain ⟨rp, hrp, rfl⟩ : ∃ rp, rps[i]? = some rp ∧ x = .ref rp := by
          cases e : rps[i]? with
          | none => rw [e] at hx; cases hx
          | some y => rw [e] at hx; exact ⟨y, rfl, (Option.some.inj hx).symm⟩
        have hi : i < rps.length := (List.getElem?_eq_some_iff.mp hrp).1
        have hp : 0 < given.length := hpos (by omega)
        have hat : Pa05.at_ given.length f i < given.length := at_lt hp
        have hrow := rows i rp hrp
        refine ⟨_, rfl, _, rfl, _, rfl, G, _, rfl, .inl (s1.seq hG), _, _, rfl, rfl, (by rw [nats_length]; omega), G, _, _, .int ((given.getD (Pa05.at_ given.length f i) 0 : Nat) : Int), rfl, rfl, s1.seq hG, ?_, ?_⟩
        · rw [nats_length, fmod_nat]
          exact atI_nat (nats_getD hat)
        · refine ⟨_, rfl, _, rfl, G, _, rfl, .inl (s1.seq hG), _, _, rfl, rfl, ⟨by rw [nats_length]; omega, by rw [nats_length]; omega⟩, ?_⟩
          refine ⟨_, rfl, rp, rfl, ⟨_, SqL.of (s1 _ _ hrow)⟩, ?_⟩
          refine for_list (xs := nats ((List.range m).filter fun y => ra i y)) (fun j σ Hc => Same H Hc ∧ Hc B = some (.lst (nats (meet (given.getD (Pa05.at_ given.length f i) 0) (((List.range m).filter fun y => ra i y).take j) (allowL m q given.length f ra given i)))) ∧ ∃ v6 v9 : Option V, v6 = some (.int ((f / given.length ^ (i + 1) : Nat) : Int)) ∧ σ = [some (.int (f : Int)), some (.ref R), some (.ref G), some (.int (m : Int)), some (.int (q : Int)), some (.ref B), v6, some (.ref rp), some (.int ((given.getD (Pa05.at_ given.length f i) 0 : Nat) : Int)), v9]) ⟨s1, c1, _, v9, (by show some (V.int (((f / given.length ^ i : Nat) : Int).fdiv (((nats given).length : Nat) : Int))) = _; rw [nats_length, fdiv_nat, div_pow_succ]), rfl⟩ ?_ ?_ ?_
          · rintro j σ Hd _ ⟨s2, _⟩
            exact SqL.of (s2 _ _ hrow)
          · rintro j x σ Hd hx ⟨s2, c2, v6, v9, e6, rfl⟩
            obtain ⟨y, hy, rfl⟩ := nats_get hx
            have hym : y < m := List.mem_range.mp (List.mem_filter.mp (List.mem_of_getElem? hy)).1
            have hlen : (meet (given.getD (Pa05.at_ given.length f i) 0) (((List.range m).filter fun y => ra i y).take j) (allowL m q given.length f ra given i)).length = m := by rw [meet_length, allowL_length]
            refine ⟨_, rfl, _, rfl, B, _, _, _, rfl, rfl, SqL.of c2, atI_nat (nats_getD (by rw [hlen]; exact hym)), _, rfl, _, _, rfl, rfl, ?_⟩
            refine ⟨_, rfl, _, rfl, B, _, _, y, rfl, rfl, c2, ixN_nat (by rw [nats_length, hlen]; exact hym), ?_, ?_, v6, some (.int (y : Int)), e6, rfl⟩
            · exact fun b o e => by
                rw [upd_ne (ne_of_none e HB)]
                exact s2 b o e
            · rw [upd_same]
              show some (HO.lst ((nats _).set y (V.int (Builtin.bitAnd ((_ : Nat) : Int) ((_ : Nat) : Int))))) = _
              rw [and_nat, nats_set, List.take_add_one, hy]
              show _ = some (HO.lst (nats (meet _ (_ ++ [y]) _)))
              unfold meet
              rw [List.foldl_append]
              rfl
          · rintro σ Hd ⟨s2, c2, v6, v9, rfl, rfl⟩
            rw [nats_length, List.take_length, allowL_succ] at c2
            exact ⟨s2, c2, _, _, _, rfl⟩
      · rintro σ Hc ⟨s1, c1, v7, v8, v9, rfl⟩
        rw [List.length_map] at c1
        exact ⟨_, rfl, k Hc B s1 c1⟩
end
end FC
namespace FC
open PySem PySem.Spec PyProof.Rows L2
section
variable {P : Program} {w : World} {K : PySem.W.Frag} {mg : Str → Option Value} {base : Heap}
def pairL (first second : List Nat) (m1 m2 : Nat) : List Nat := first.flatMap fun f => second.map fun o => spr f.testBit m2 m1 * o
theorem pairL_len (first second : List Nat) (m1 m2 : Nat) : (pairL first second m1 m2).length = first.length * second.length := by
  unfold pairL
  induction first with
  | nil => simp
  | cons f r ih => rw [List.flatMap_cons, List.length_append, ih, List.length_map, List.length_cons, Nat.succ_mul, Nat.add_comm]
def sp_pair_relation (T : Txt K mg) : Sp := fun vs H Q _ => ∃ (F S : Addr) (first second : List Nat) (m1 m2 : Nat), vs = [.ref F, .ref S, .int (m1 : Int), .int (m2 : Int)] ∧ SqL K H F (nats first) ∧ SqL K H S (nats second) ∧ m1 ≤ 256 ∧ m2 ≤ 256 ∧ first.length * second.length ≤ 256 ∧ (∀ x ∈ second, x < 2 ^ 257) ∧ second.length ≤ 256 ∧
  ∀ (H' : Hp) (l : Addr), Same H H' → H' l = some (.lst (nats (pairL first second m1 m2))) → Q (.ref l) H'
theorem ok_pair_relation (T : Txt K mg) : FnOk P w K mg base CX0 4 T.f_pair_relation T.fd_pair_relation ["first", "second", "first_size", "second_size"] (sp_pair_relation T) := by
  refine T.F_pair_relation.ok sc_pair_relation (fun vs H Q E h => ?_) (fun cdv A outer s H vs Q E hr h => ⟨_, (pss_cons (ps_set (i := 4) sc_pair_relation.nd rfl (Or.inl rfl) (pe_lst pa_nil))
    (pss_cons (ps_for PassesOwn.never rfl (pi_list (pv 0)) (pg_name (i := 5) sc_pair_relation.nd rfl (Or.inl rfl))
      (pss_cons (ps_set (i := 6) sc_pair_relation.nd rfl (Or.inr rfl) (pe_call (ok_spread T) (hr.mono (by decide)) rfl T.g_spread T.k_spread T.b_spread .nil pass0 (pa_cons (pv 5) (pa_cons (pv 2) (pa_cons (pv 3) pa_nil)))))
      (pss_one (ps_expr (pe_bm PySem.F.plainAttrs_list PySem.F.slot_list_extend PySem.F.type_list_extend mt_extend (pv 4) (pa_cons (pe_lc (own := [("other", 7)]) (by rfl) sc_pair_relation.nd (pi_list (pv 1)) (blkOk_by (own := [("other", 7)]) (N := ["first", "second", "first_size", "second_size", "relation", "marks", "widened", "other"]) (sc := defScope s_pair_relation) (by decide +kernel)) (fun _ _ _ _ _ => (pg_name (i := 7) sc_pair_relation.nd rfl (Or.inl rfl))) (fun _ _ _ _ _ => pts_nil) (fun _ _ _ _ _ => (pe_op op_mulW (pv 6) (pv 7)))) pa_nil))))))
    (pss_one (ps_ret (pv 4))))), ?_⟩)
  · obtain ⟨F, S, first, second, m1, m2, rfl, _⟩ := h
    rfl
  · obtain ⟨F, S, first, second, m1, m2, rfl, hF, hS, h1, h2, hl, hb, hl2, k⟩ := h
    refine ⟨by decide, fun R hR => ?_⟩
    refine ⟨_, rfl, F, rfl, ⟨_, (Same.new hR).seq hF⟩, ?_⟩
    refine for_list (xs := nats first) (fun i σ Hc => Same H Hc ∧ Hc R = some (.lst (nats (pairL (first.take i) second m1 m2))) ∧ ∃ v5 v6 v7 : Option V, σ = [some (.ref F), some (.ref S), some (.int (m1 : Int)), some (.int (m2 : Int)), some (.ref R), v5, v6, v7]) ⟨Same.new hR, upd_same, none, none, none, rfl⟩ ?_ ?_ ?_
    · rintro i σ Hc _ ⟨s1, _⟩
      exact s1.seq hF
    · rintro i x σ Hc hx ⟨s1, c1, v5, v6, v7, rfl⟩
      obtain ⟨p, hp, rfl⟩ := nats_get hx
      have hi : i < first.length := (List.getElem?_eq_some_iff.mp hp).1
      have e1 : first.take (i + 1) = first.take i ++ [p] := by rw [List.take_add_one, hp]; rfl
      refine ⟨_, rfl, _, rfl, _, rfl, p, m1, m2, rfl, h1, h2, fun H2 s2 => ?_⟩
      have c2 := s2 _ _ c1
      have s12 := Same.trans s1 s2
      refine ⟨_, rfl, .inl ⟨rfl, _, SqL.of c2⟩, _, rfl, S, rfl, ⟨_, s12.seq hS⟩, fun D hD => ?_⟩
      have hDR : R ≠ D := ne_of_none c2 hD
      refine lc_list (K := K) (a := S) (xs := nats second) (fun j Hd => Same H Hd ∧ Hd R = some (.lst (nats (pairL (first.take i) second m1 m2))) ∧ Hd D = some (.lst (nats ((second.take j).map fun o => spr p.testBit m2 m1 * o)))) ⟨Same.trans s12 (Same.new hD), by rw [upd_ne hDR]; exact c2, upd_same⟩ ?_ ?_ ?_
      · rintro j Hd _ ⟨s3, _⟩
        exact s3.seq hS
      · rintro j x Hd hx ⟨s3, c3, d3⟩
        obtain ⟨o, ho, rfl⟩ := nats_get hx
        have hj : j < second.length := (List.getElem?_eq_some_iff.mp ho).1
        have e2 : second.take (j + 1) = second.take j ++ [o] := by rw [List.take_add_one, ho]; rfl
        have b1 : (((spr p.testBit m2 m1 : Nat) : Int)).natAbs < 2 ^ 65537 := natAbs_lt (Nat.lt_of_lt_of_le (spr_le _ _ _) (Nat.pow_le_pow_right (by omega) (by have := Nat.mul_le_mul h1 h2; omega)))
        have b2 : ((o : Int)).natAbs < 2 ^ 257 := natAbs_lt (hb o (List.mem_of_getElem? ho))
        refine ⟨rfl, ?_⟩
        refine ⟨_, rfl, _, rfl, _, _, rfl, rfl, wide_mul b1 b2 (by decide) (by decide) (by decide), _, d3, ?_, ?_, ?_, ?_⟩
        · rw [nats_length, List.length_map, List.length_take]
          exact small1000 (by omega)
        · intro b u e
          rw [upd_ne (fun q => ?_)]
          · exact s3 b u e
          · rw [q] at e
            have := s12 _ _ e
            rw [hD] at this
            cases this
        · rw [upd_ne hDR]
          exact c3
        · rw [upd_same, e2, List.map_append, nats_app]
          show _ = some (HO.lst (_ ++ [V.int ((spr p.testBit m2 m1 * o : Nat) : Int)]))
          rw [Int.natCast_mul]
      · rintro Hd ⟨s3, c3, d3⟩
        rw [nats_length, List.take_length] at d3
        refine ⟨R, D, _, _, rfl, rfl, c3, d3, ?_, ?_, ?_, _, _, _, rfl⟩
        · rw [nats_length, nats_length, pairL_len, List.length_map, List.length_take]
          have : (min i first.length) * second.length + second.length ≤ first.length * second.length := by
            rw [← Nat.succ_mul]
            exact Nat.mul_le_mul_right _ (by omega)
          exact Nat.le_of_lt (small1000 (by omega))
        · intro b u e
          rw [upd_ne (ne_of_none e hR)]
          exact s3 b u e
        · rw [upd_same, ← nats_app, e1]
          unfold pairL
          rw [List.flatMap_append]
          simp
    · rintro σ Hc ⟨s1, c1, v5, v6, v7, rfl⟩
      rw [nats_length, List.take_length] at c1
      exact ⟨_, rfl, k Hc R s1 c1⟩
def fnL (taken given : List Nat) (m q : Nat) : List Nat := (List.range (given.length ^ taken.length)).map fun f => (withinL q (allowL m q given.length f (fun x y => (taken.getD x 0).testBit y) given taken.length)).1
def sp_function_relation (T : Txt K mg) : Sp := fun vs H Q _ => ∃ (F S : Addr) (taken given : List Nat) (m q : Nat), vs = [.ref F, .ref S, .int (m : Int), .int (q : Int)] ∧ SqL K H F (nats taken) ∧ SqL K H S (nats given) ∧ m ≤ 256 ∧ q ≤ 256 ∧ taken.length ≤ 256 ∧ given.length ≤ 256 ∧ given.length ^ taken.length ≤ 256 ∧ q ^ m ≤ 256 ∧
  ∀ (H' : Hp) (l : Addr), Same H H' → H' l = some (.lst (nats (fnL taken given m q))) → Q (.ref l) H'
theorem ok_function_relation (T : Txt K mg) : FnOk P w K mg base CX0 5 T.f_function_relation T.fd_function_relation ["taken", "given", "taken_size", "given_size"] (sp_function_relation T) := by
  refine T.F_function_relation.ok sc_function_relation (fun vs H Q E h => ?_) (fun cdv A outer s H vs Q E hr h => ⟨_, (pss_cons (ps_setLc (i := 4) (own := [("marks", 8)]) (by rfl) sc_function_relation.nd rfl rfl (sw_true rfl rfl rfl (by decide +kernel)) (pi_list (pv 0)) (blkOk_by (own := [("marks", 8)]) (N := ["taken", "given", "taken_size", "given_size", "related_places", "relation", "function", "allowed", "marks"]) (sc := defScope s_function_relation) (by decide +kernel)) (fun _ _ _ _ _ => (pg_name (i := 8) sc_function_relation.nd rfl (Or.inl rfl))) (fun _ _ _ _ _ => pts_nil) (fun _ _ _ _ _ => (pe_call (ok_places T) (hr.mono (by decide)) rfl T.g_places T.k_places T.b_places .nil pass0 (pa_cons (pv 8) (pa_cons (pv 2) pa_nil)))))
    (pss_cons (ps_set (i := 5) sc_function_relation.nd rfl (Or.inl rfl) (pe_lst pa_nil))
    (pss_cons (ps_for PassesOwn.never rfl (pi_range1 rfl T.n_range (pa_cons (pe_call (ok_functions_size T) (hr.mono (by decide)) rfl T.g_functions_size T.k_functions_size T.b_functions_size .nil pass0 (pa_cons (pe_callB call_len_seq rfl T.n_len (by decide +kernel) (pa_cons (pv 0) pa_nil)) (pa_cons (pe_callB call_len_seq rfl T.n_len (by decide +kernel) (pa_cons (pv 1) pa_nil)) pa_nil))) pa_nil)) (pg_name (i := 6) sc_function_relation.nd rfl (Or.inl rfl))
      (pss_cons (ps_set (i := 7) sc_function_relation.nd rfl (Or.inl rfl) (pe_call (ok_allowed_marks T) (hr.mono (by decide)) rfl T.g_allowed_marks T.k_allowed_marks T.b_allowed_marks .nil pass0 (pa_cons (pv 6) (pa_cons (pv 4) (pa_cons (pv 1) (pa_cons (pv 2) (pa_cons (pv 3) pa_nil)))))))
      (pss_one (ps_expr (pe_bm PySem.F.plainAttrs_list PySem.F.slot_list_append PySem.F.type_list_append mt_append (pv 5) (pa_cons (pe_call (ok_functions_within T) (hr.mono (by decide)) rfl T.g_functions_within T.k_functions_within T.b_functions_within .nil pass0 (pa_cons (pv 7) (pa_cons (pv 3) pa_nil))) pa_nil))))))
    (pss_one (ps_ret (pv 5)))))), ?_⟩)
  · obtain ⟨F, S, taken, given, m, q, rfl, _⟩ := h
    rfl
  · obtain ⟨F, S, taken, given, m, q, rfl, hF, hS, hm, hq, ht, hg, hpow, hqm, k⟩ := h
    refine ⟨_, rfl, F, rfl, ⟨_, hF⟩, fun D hD => ?_⟩
    refine lc_list (K := K) (a := F) (xs := nats taken) (fun j Hd => Same H Hd ∧ ∃ rps : List Addr, rps.length = j ∧ Hd D = some (.lst (rps.map V.ref)) ∧ (∀ a ∈ rps, a ≠ D) ∧ RowsAt Hd rps m (fun x y => (taken.getD x 0).testBit y)) ⟨Same.new hD, [], rfl, upd_same, (fun a ha => by cases ha), (fun x a e => by simp at e)⟩ ?_ ?_ ?_
    · rintro j Hd _ ⟨s3, _⟩
      exact s3.seq hF
    · rintro j x Hd hx ⟨s3, rps, hlen, d3, hne, rows⟩
      obtain ⟨p, hp, rfl⟩ := nats_get hx
      have hj : j < taken.length := (List.getElem?_eq_some_iff.mp hp).1
      have ep : taken.getD j 0 = p := by rw [List.getD_eq_getElem?_getD, hp]; rfl
      refine ⟨rfl, ?_⟩
      refine ⟨_, rfl, _, rfl, p, m, rfl, hm, fun l hl => ?_⟩
      have hlD : D ≠ l := ne_of_none d3 hl
      refine ⟨_, (by rw [upd_ne hlD]; exact d3), (by rw [List.length_map, hlen]; exact small1000 (by omega)), ?_, rps ++ [l], by rw [List.length_append, hlen]; rfl, ?_, ?_, ?_⟩
      · intro b u e
        rw [upd_ne (ne_of_none e hD), upd_ne (ne_of_none (s3 b u e) hl)]
        exact s3 b u e
      · rw [upd_same, List.map_append]
        rfl
      · intro a ha
        rcases List.mem_append.mp ha with ha | ha
        · exact hne a ha
        · rw [List.mem_singleton.mp ha]
          exact hlD.symm
      · intro x a e
        by_cases c : x < rps.length
        · rw [List.getElem?_append_left c] at e
          have := rows x a e
          rw [upd_ne (hne a (List.mem_of_getElem? e)), upd_ne (ne_of_none this hl)]
          exact this
        · rw [List.getElem?_append_right (by omega)] at e
          have ex : x = rps.length := by
            have := (List.getElem?_eq_some_iff.mp e).1
            simp at this
            omega
          subst ex
          rw [Nat.sub_self] at e
          have ea : l = a := Option.some.inj e
          subst ea
          rw [upd_ne hlD.symm, upd_same, hlen]
          show _ = some (HO.lst (nats ((List.range m).filter fun y => (taken.getD j 0).testBit y)))
          rw [ep]
          rfl
    · rintro Hd ⟨s3, rps, hlen, d3, hne, rows⟩
      rw [nats_length] at hlen
      refine ⟨by decide, fun R hR => ?_⟩
      have hRD : D ≠ R := ne_of_none d3 hR
      have HR : H R = none := s3.free hR
      have s4 : Same Hd (upd Hd R (.lst [])) := Same.new hR
      have s34 := Same.trans s3 s4
      refine ⟨_, rfl, F, _, rfl, .inl (s34.seq hF), _, rfl, S, _, rfl, .inl (s34.seq hS), taken.length, given.length, (by rw [nats_length, nats_length]; rfl), ht, hg, ?_⟩
      refine ⟨((given.length ^ taken.length : Nat) : Int), rfl, by omega, by omega, ?_⟩
      rw [Int.toNat_natCast]
      refine for_range (lo := 0) (n := given.length ^ taken.length) (fun i σ Hc => Same H Hc ∧ Same Hd Hc ∧ Hc R = some (.lst (nats ((List.range i).map fun f => (withinL q (allowL m q given.length f (fun x y => (taken.getD x 0).testBit y) given taken.length)).1))) ∧ ∃ v6 v7 v8 : Option V, σ = [some (.ref F), some (.ref S), some (.int (m : Int)), some (.int (q : Int)), some (.ref D), some (.ref R), v6, v7, v8]) ⟨s34, s4, upd_same, none, none, _, rfl⟩ ?_ ?_
      · rintro i σ Hc hi ⟨t1, t2, cR, v6, v7, v8, rfl⟩
        refine ⟨_, rfl, _, rfl, _, rfl, _, rfl, _, rfl, i, m, q, D, S, rps, (fun x y => (taken.getD x 0).testBit y), given, (by show [V.int (0 + (i : Int)), V.ref D, V.ref S, V.int (m : Int), V.int (q : Int)] = _; rw [Int.zero_add]), SqL.of (t2 _ _ d3), (fun x a e => t2 _ _ (rows x a e)), t1.seq hS, hm, hq, hg, ?_, fun H5 l s5 c5 => ?_⟩
        · intro h0
          rcases Nat.eq_zero_or_pos given.length with e | e
          · rw [e, Nat.zero_pow (by omega)] at hi
            omega
          · exact e
        · refine ⟨_, rfl, .inl ⟨rfl, _, SqL.of (s5 _ _ cR)⟩, _, rfl, _, rfl, l, _, q, rfl, SqL.of c5, hq, (by rw [allowL_length]; exact hqm), fun H6 s6 => ?_⟩
          refine ⟨R, _, _, rfl, rfl, s6 _ _ (s5 _ _ cR), ?_, ?_, ?_, ?_, _, _, _, rfl⟩
          · rw [nats_length, List.length_map, List.length_range]
            exact small1000 (by omega)
          · intro b u e
            rw [upd_ne (ne_of_none e HR)]
            exact s6 _ _ (s5 _ _ (t1 b u e))
          · intro b u e
            rw [upd_ne (ne_of_none e hR)]
            exact s6 _ _ (s5 _ _ (t2 b u e))
          · rw [upd_same, List.range_succ, List.map_append, hlen]
            exact congrArg (fun z => some (HO.lst z)) (nats_snoc _ _).symm
      · rintro σ Hc ⟨t1, t2, cR, v6, v7, v8, rfl⟩
        exact ⟨_, rfl, k Hc R t1 cR⟩
end
end FC
namespace FC
open PySem PySem.Spec PyProof.Rows L2
theorem allowL_congr {m q p f k : Nat} {ra rb : Nat → Nat → Bool} {given : List Nat} (h : ∀ x y, x < k → y < m → ra x y = rb x y) : allowL m q p f ra given k = allowL m q p f rb given k := by
  unfold allowL
  refine List.map_congr_left fun y hy => ?_
  refine markN_congr fun z hz => all_congr_range fun x hx => ?_
  rw [h x y hx (List.mem_range.mp hy)]
theorem fnL_eq (n m : Nat → Nat) (r : Pa05.Rel) (a b : Pa05.Ty) : fnL (relL n m r a) (relL n m r b) (a.card m) (b.card m) = relL n m r (.fn a b) := by
  rw [relL_fn]
  unfold fnL
  rw [relL_length, relL_length]
  refine List.map_congr_left fun f _ => ?_
  rw [allowL_congr fun x y hx hy => ?_]
  show ((relL n m r a).getD x 0).testBit y = a.rel n m r x y
  rw [List.getD_eq_getElem?_getD, relL_at hx]
  show (markN _ _).testBit y = _
  rw [bit_markN, decide_eq_true hy]
  rfl
theorem pairL_eq (n m : Nat → Nat) (r : Pa05.Rel) (a b : Pa05.Ty) : pairL (relL n m r a) (relL n m r b) (a.card m) (b.card m) = relL n m r (.pair a b) := by
  rw [relL_pair]
  rfl
/-- the variables' relations in memory -/
def RelsAt (H : Hp) (trs : List Addr) (n m : Nat → Nat) (r : Pa05.Rel) : Prop := ∀ i a, trs[i]? = some a → H a = some (.lst (nats (relL n m r (.var i))))
theorem RelsAt.mono {H H' : Hp} {trs : List Addr} {n m : Nat → Nat} {r : Pa05.Rel} (h : RelsAt H trs n m r) (s : Same H H') : RelsAt H' trs n m r := fun i a e => s _ _ (h i a e)
/-- both are small: so are the parts -/
theorem small_parts {top : Nat} {n : Nat → Nat} {h : Nat} {x y : Pa05.Ty} {c : Nat} (hh : h = 2 ∨ h = 3 ∨ h = 4) (e : Pa05.small top n (FC.bin h x y) = some c) : ∃ p q, Pa05.small top n x = some p ∧ Pa05.small top n y = some q ∧ c = joined h p q ∧ joined h p q ≤ top := by
  rw [small_bin top n hh] at e
  split at e
  · rename_i p q e1 e2
    split at e
    · cases e
    · cases e
      exact ⟨p, q, e1, e2, rfl, by omega⟩
  · cases e
section
variable {P : Program} {w : World} {K : PySem.W.Frag} {mg : Str → Option Value} {base : Heap}
def sp_kind_relation (T : Txt K mg) (d : Nat) : Sp := fun vs H Q _ => ∃ (q Z R : Addr) (a : Pa05.Ty) (sn sm : List Nat) (r : Pa05.Rel) (top : Nat) (trs : List Addr) (cn cm : Nat), vs = [.ref q, .ref Z, .ref R, .int (top : Int)] ∧ KindAt H a q ∧ SqL K H Z (nats sm) ∧ SqL K H R (trs.map V.ref) ∧ RelsAt H trs (numOf sn) (numOf sm) r ∧ TyOk sm.length a ∧ trs.length = sm.length ∧ dp a ≤ d ∧ d ≤ 20 ∧ top ≤ 256 ∧
  Pa05.small top (numOf sn) a = some cn ∧ Pa05.small top (numOf sm) a = some cm ∧
  ∀ (H' : Hp) (l : Addr), Same H H' → H' l = some (.lst (nats (relL (numOf sn) (numOf sm) r a))) → Q (.ref l) H'
theorem ok_kind_relation (T : Txt K mg) : ∀ d, FnOk P w K mg base CX0 (d + 30) T.f_kind_relation T.fd_kind_relation ["kind", "right_sizes", "told", "largest"] (sp_kind_relation T d) := by
  intro d
  induction d with
  | zero =>
    refine T.F_kind_relation.ok sc_kind_relation (fun vs H Q E h => ?_) (fun cdv A outer s H vs Q E hr h => ?_)
    · obtain ⟨q, Z, R, a, sn, sm, r, top, trs, cn, cm, rfl, _⟩ := h
      rfl
    · obtain ⟨q, Z, R, a, sn, sm, r, top, trs, cn, cm, rfl, _, _, _, _, _, _, hd, _⟩ := h
      exfalso
      cases a <;> simp [dp] at hd
  | succ d ih =>
    refine T.F_kind_relation.ok sc_kind_relation (fun vs H Q E h => ?_) (fun cdv A outer s H vs Q E hr h => ⟨_, (pss_cons (ps_if (pt_cmpR op_eq (pe_ix ix_tup (pv 0) pe_int (fun _ _ => rfl)) (pe_cst rfl T.g_VARIABLE) (nomark _))
      (pss_one (ps_ret (pe_ix ix_list (pv 2) (pe_ix ix_tup (pv 0) pe_int (fun _ _ => rfl)) (fun _ _ => rfl))))
      pss_nil)
    (pss_cons (ps_if (pt_cmpR op_eq (pe_ix ix_tup (pv 0) pe_int (fun _ _ => rfl)) (pe_cst rfl T.g_TWO) (nomark _))
      (pss_one (ps_ret (pe_lst (pa_cons pe_int (pa_cons pe_int pa_nil)))))
      pss_nil)
    (pss_cons (ps_set (i := 4) sc_kind_relation.nd rfl (Or.inl rfl) (pe_call ih hr rfl T.g_kind_relation T.k_kind_relation T.b_kind_relation .nil pass0 (pa_cons (pe_ix ix_tup (pv 0) pe_int (fun _ _ => rfl)) (pa_cons (pv 1) (pa_cons (pv 2) (pa_cons (pv 3) pa_nil))))))
    (pss_cons (ps_set (i := 5) sc_kind_relation.nd rfl (Or.inl rfl) (pe_call ih hr rfl T.g_kind_relation T.k_kind_relation T.b_kind_relation .nil pass0 (pa_cons (pe_ix ix_tup (pv 0) pe_int (fun _ _ => rfl)) (pa_cons (pv 1) (pa_cons (pv 2) (pa_cons (pv 3) pa_nil))))))
    (pss_cons (ps_set (i := 6) sc_kind_relation.nd rfl (Or.inr rfl) (pe_call (ok_kind_size T 20) (hr.mono (by omega)) rfl T.g_kind_size T.k_kind_size T.b_kind_size .nil passL (pa_cons (pe_ix ix_tup (pv 0) pe_int (fun _ _ => rfl)) (pa_cons (pv 1) (pa_cons (pv 3) pa_nil)))))
    (pss_cons (ps_set (i := 7) sc_kind_relation.nd rfl (Or.inl rfl) (pe_call (ok_kind_size T 20) (hr.mono (by omega)) rfl T.g_kind_size T.k_kind_size T.b_kind_size .nil passL (pa_cons (pe_ix ix_tup (pv 0) pe_int (fun _ _ => rfl)) (pa_cons (pv 1) (pa_cons (pv 3) pa_nil)))))
    (pss_cons (ps_if (pt_cmpR op_eq (pe_ix ix_tup (pv 0) pe_int (fun _ _ => rfl)) (pe_cst rfl T.g_PAIR) (nomark _))
      (pss_one (ps_ret (pe_call (ok_pair_relation T) (hr.mono (by omega)) rfl T.g_pair_relation T.k_pair_relation T.b_pair_relation .nil pass0 (pa_cons (pv 4) (pa_cons (pv 5) (pa_cons (pv 6) (pa_cons (pv 7) pa_nil)))))))
      pss_nil)
    (pss_cons (ps_if (pt_cmpR op_eq (pe_ix ix_tup (pv 0) pe_int (fun _ _ => rfl)) (pe_cst rfl T.g_EITHER) (nomark _))
      (pss_one (ps_ret (pe_op op_cat (pv 4) (pe_lc (own := [("marks", 8)]) (by rfl) sc_kind_relation.nd (pi_list (pv 5)) (blkOk_by (own := [("marks", 8)]) (N := ["kind", "right_sizes", "told", "largest", "first", "second", "first_size", "second_size", "marks"]) (sc := defScope s_kind_relation) (by decide +kernel)) (fun _ _ _ _ _ => (pg_name (i := 8) sc_kind_relation.nd rfl (Or.inl rfl))) (fun _ _ _ _ _ => pts_nil) (fun _ _ _ _ _ => (pe_op op_shlW (pv 8) (pv 6)))))))
      pss_nil)
    (pss_one (ps_ret (pe_call (ok_function_relation T) (hr.mono (by omega)) rfl T.g_function_relation T.k_function_relation T.b_function_relation .nil pass0 (pa_cons (pv 4) (pa_cons (pv 5) (pa_cons (pv 6) (pa_cons (pv 7) pa_nil))))))))))))))), ?_⟩)
    · obtain ⟨q, Z, R, a, sn, sm, r, top, trs, cn, cm, rfl, _⟩ := h
      rfl
    · obtain ⟨q, Z, R, a, sn, sm, r, top, trs, cn, cm, rfl, hq, hZ, hR, rels, ok, hlen, hd, hd20, htop, en, em, k⟩ := h
      rcases form a with i | _ | ⟨h, x, y, hh⟩
      · have hi : i < sm.length := ok
        have hq' : H q = some (.tup [.int 0, .int (i : Int)]) := hq
        obtain ⟨tr, htr⟩ : ∃ tr, trs[i]? = some tr := ⟨trs[i]'(by omega), List.getElem?_eq_getElem (by omega)⟩
        refine ⟨_, rfl, q, _, _, _, rfl, rfl, SqT.of hq', atI_nat (j := 0) rfl, rfl, _, rfl, if_true_of rfl ?_⟩
        refine ⟨_, rfl, _, rfl, q, _, _, _, rfl, rfl, SqT.of hq', atI_nat (j := 1) rfl, R, _, _, .ref tr, rfl, rfl, hR, atI_nat (by rw [List.getElem?_map, htr]; rfl), ?_⟩
        exact k H tr (Same.refl H) (rels i tr htr)
      · have hq' : H q = some (.tup [.int 1]) := hq
        refine ⟨_, rfl, q, _, _, _, rfl, rfl, SqT.of hq', atI_nat (j := 0) rfl, rfl, _, rfl, if_false_of rfl ?_⟩
        refine ⟨_, rfl, q, _, _, _, rfl, rfl, SqT.of hq', atI_nat (j := 0) rfl, rfl, _, rfl, if_true_of rfl ?_⟩
        refine ⟨by decide, fun l hl => ?_⟩
        exact k _ l (Same.new hl) (by rw [upd_same, relL_two]; rfl)
      · obtain ⟨b, c, hq', hb, hc⟩ := hq.of_bin hh
        obtain ⟨o1, o2⟩ := ok.of_bin hh
        rw [dp_bin hh] at hd
        obtain ⟨pn, qn, en1, en2, rfl, ln⟩ := small_parts hh en
        obtain ⟨pm, qm, em1, em2, rfl, lm⟩ := small_parts hh em
        have cn1 := small_card _ _ _ _ en1
        have cn2 := small_card _ _ _ _ en2
        have cm1 := small_card _ _ _ _ em1
        have cm2 := small_card _ _ _ _ em2
        have l1 := small_le _ _ _ _ en1
        have l2 := small_le _ _ _ _ en2
        have l3 := small_le _ _ _ _ em1
        have l4 := small_le _ _ _ _ em2
        have h0 : decide (V.int ((h : Nat) : Int) = V.int 0) = false := decide_eq_false (fun q => by injection q with q; omega)
        have h1 : decide (V.int ((h : Nat) : Int) = V.int 1) = false := decide_eq_false (fun q => by injection q with q; omega)
        refine ⟨_, rfl, q, _, _, _, rfl, rfl, SqT.of hq', atI_nat (j := 0) rfl, rfl, _, rfl, if_false_of h0 ?_⟩
        refine ⟨_, rfl, q, _, _, _, rfl, rfl, SqT.of hq', atI_nat (j := 0) rfl, rfl, _, rfl, if_false_of h1 ?_⟩
        refine ⟨_, rfl, q, _, _, _, rfl, rfl, SqT.of hq', atI_nat (j := 1) rfl, _, rfl, _, rfl, _, rfl, b, Z, R, x, sn, sm, r, top, trs, pn, pm, rfl, hb, hZ, hR, rels, o1, hlen, by omega, by omega, htop, en1, em1, fun H1 f1 s1 c1 => ?_⟩
        refine ⟨_, rfl, q, _, _, _, rfl, rfl, SqT.of (s1 _ _ hq'), atI_nat (j := 2) rfl, _, rfl, _, rfl, _, rfl, c, Z, R, y, sn, sm, r, top, trs, qn, qm, rfl, hc.mono (Same.tups s1), s1.seq hZ, s1.seq hR, rels.mono s1, o2, hlen, by omega, by omega, htop, en2, em2, fun H2 f2 s2 c2 => ?_⟩
        have s12 := Same.trans s1 s2
        refine ⟨_, rfl, q, _, _, _, rfl, rfl, SqT.of (s12 _ _ hq'), atI_nat (j := 1) rfl, _, rfl, _, rfl, b, Z, x, sm, top, rfl, hb.mono (Same.tups s12), s12.seq hZ, o1, by omega, htop, (fun e => by rw [em1] at e; cases e), (fun z e => ?_)⟩
        rw [em1] at e
        cases e
        refine ⟨_, rfl, q, _, _, _, rfl, rfl, SqT.of (s12 _ _ hq'), atI_nat (j := 2) rfl, _, rfl, _, rfl, c, Z, y, sm, top, rfl, hc.mono (Same.tups s12), s12.seq hZ, o2, by omega, htop, (fun e => by rw [em2] at e; cases e), (fun z e => ?_)⟩
        rw [em2] at e
        cases e
        have d1 := s2 _ _ c1
        have g1 := relL_length (numOf sn) (numOf sm) r x
        have g2 := relL_length (numOf sn) (numOf sm) r y
        rw [cn1] at g1
        rw [cn2] at g2
        refine ⟨_, rfl, q, _, _, _, rfl, rfl, SqT.of (s12 _ _ hq'), atI_nat (j := 0) rfl, rfl, _, rfl, ?_⟩
        rcases hh with rfl | rfl | rfl
        · refine if_true_of rfl ?_
          refine ⟨_, rfl, _, rfl, _, rfl, _, rfl, f1, f2, _, _, pm, qm, rfl, SqL.of d1, SqL.of c2, by omega, by omega, ?_, ?_, by omega, fun H3 l s3 c3 => ?_⟩
          · rw [g1, g2]
            have : pn * qn ≤ top := ln
            omega
          · intro z hz
            have := relL_lt hz
            rw [cm2] at this
            exact Nat.lt_of_lt_of_le this (Nat.pow_le_pow_right (by omega) (by omega))
          · refine k H3 l (Same.trans s12 s3) ?_
            rw [c3, ← cm1, ← cm2, pairL_eq]
            rfl
        · refine if_false_of rfl ?_
          refine ⟨_, rfl, q, _, _, _, rfl, rfl, SqT.of (s12 _ _ hq'), atI_nat (j := 0) rfl, rfl, _, rfl, if_true_of rfl ?_⟩
          refine ⟨_, rfl, _, rfl, f2, rfl, ⟨_, SqL.of c2⟩, fun D hD => ?_⟩
          refine lc_list (K := K) (a := f2) (xs := nats (relL (numOf sn) (numOf sm) r y)) (fun j Hd => Same H2 Hd ∧ Hd D = some (.lst (nats (((relL (numOf sn) (numOf sm) r y).take j).map fun o => o * 2 ^ pm)))) ⟨Same.new hD, upd_same⟩ ?_ ?_ ?_
          · rintro j Hd _ ⟨s3, _⟩
            exact SqL.of (s3 _ _ c2)
          · rintro j z Hd hz ⟨s3, d3⟩
            obtain ⟨o, ho, rfl⟩ := nats_get hz
            have hj : j < (relL (numOf sn) (numOf sm) r y).length := (List.getElem?_eq_some_iff.mp ho).1
            have e2 : (relL (numOf sn) (numOf sm) r y).take (j + 1) = (relL (numOf sn) (numOf sm) r y).take j ++ [o] := by rw [List.take_add_one, ho]; rfl
            have bo := relL_lt (List.mem_of_getElem? ho)
            refine ⟨rfl, ?_⟩
            refine ⟨_, rfl, _, rfl, _, _, rfl, rfl, shl_ok (natAbs_lt bo) (by rw [cm2]; omega), _, d3, ?_, ?_, ?_⟩
            · rw [nats_length, List.length_map, List.length_take, g2]
              exact small1000 (by omega)
            · intro b u e
              rw [upd_ne (ne_of_none e hD)]
              exact s3 b u e
            · rw [upd_same, e2, List.map_append, nats_app]
              show _ = some (HO.lst (_ ++ [V.int ((o * 2 ^ pm : Nat) : Int)]))
              show some (HO.lst (_ ++ [V.int ((o : Int) * 2 ^ ((pm : Int)).toNat)])) = _
              rw [Int.toNat_natCast, Int.natCast_mul, Int.natCast_pow]
              rfl
          · rintro Hd ⟨s3, d3⟩
            rw [nats_length, List.take_length] at d3
            have d4 := s3 _ _ d1
            refine ⟨f1, D, _, _, rfl, rfl, d4, d3, ?_, fun l hl => ?_⟩
            · rw [nats_length, nats_length, List.length_map, g1, g2]
              have : pn + qn ≤ top := ln
              exact Nat.le_of_lt (small1000 (by omega))
            · refine k _ l (Same.trans (Same.trans s12 s3) (Same.new hl)) ?_
              rw [upd_same, ← nats_app]
              show _ = some (HO.lst (nats (relL (numOf sn) (numOf sm) r (.either x y))))
              rw [relL_either, cm1]
        · refine if_false_of rfl ?_
          refine ⟨_, rfl, q, _, _, _, rfl, rfl, SqT.of (s12 _ _ hq'), atI_nat (j := 0) rfl, rfl, _, rfl, if_false_of rfl ?_⟩
          have ln' : qn ^ pn ≤ top := ln
          have lm' : qm ^ pm ≤ top := lm
          refine ⟨_, rfl, _, rfl, _, rfl, _, rfl, f1, f2, _, _, pm, qm, rfl, SqL.of d1, SqL.of c2, by omega, by omega, by omega, by omega, (by rw [g1, g2]; omega), by omega, fun H3 l s3 c3 => ?_⟩
          refine k H3 l (Same.trans s12 s3) ?_
          rw [c3, ← cm1, ← cm2, fnL_eq]
          rfl
/-- the weight of a type, where it is small on both sides -/
def sp_kind_weight (T : Txt K mg) (d : Nat) : Sp := fun vs H Q _ => ∃ (q Y Z : Addr) (a : Pa05.Ty) (sn sm : List Nat) (top cn cm : Nat), vs = [.ref q, .ref Y, .ref Z, .int (top : Int)] ∧ KindAt H a q ∧ SqL K H Y (nats sn) ∧ SqL K H Z (nats sm) ∧ TyOk sn.length a ∧ TyOk sm.length a ∧ dp a ≤ d ∧ d ≤ 20 ∧ top ≤ 256 ∧
  Pa05.small top (numOf sn) a = some cn ∧ Pa05.small top (numOf sm) a = some cm ∧
  Q (.int ((a.work (fun b => b.card (numOf sn) * b.card (numOf sm)) : Nat) : Int)) H
theorem ok_kind_weight (T : Txt K mg) : ∀ d, FnOk P w K mg base CX0 (d + 30) T.f_kind_weight T.fd_kind_weight ["kind", "left_sizes", "right_sizes", "largest"] (sp_kind_weight T d) := by
  intro d
  induction d with
  | zero =>
    refine T.F_kind_weight.ok sc_kind_weight (fun vs H Q E h => ?_) (fun cdv A outer s H vs Q E hr h => ?_)
    · obtain ⟨q, Y, Z, a, sn, sm, top, cn, cm, rfl, _⟩ := h
      rfl
    · obtain ⟨q, Y, Z, a, sn, sm, top, cn, cm, rfl, _, _, _, _, _, hd, _⟩ := h
      exfalso
      cases a <;> simp [dp] at hd
  | succ d ih =>
    refine T.F_kind_weight.ok sc_kind_weight (fun vs H Q E h => ?_) (fun cdv A outer s H vs Q E hr h => ⟨_, (pss_cons (ps_if (PW.pt (pw_or (pt_cmpR op_eq (pe_ix ix_tup (pv 0) pe_int (fun _ _ => rfl)) (pe_cst rfl T.g_VARIABLE) (nomark _)) (pw_or1 (pt_cmpR op_eq (pe_ix ix_tup (pv 0) pe_int (fun _ _ => rfl)) (pe_cst rfl T.g_TWO) (nomark _)))))
      (pss_one (ps_ret pe_int))
      pss_nil)
    (pss_cons (ps_set (i := 4) sc_kind_weight.nd rfl (Or.inl rfl) (pe_call ih hr rfl T.g_kind_weight T.k_kind_weight T.b_kind_weight .nil pass0 (pa_cons (pe_ix ix_tup (pv 0) pe_int (fun _ _ => rfl)) (pa_cons (pv 1) (pa_cons (pv 2) (pa_cons (pv 3) pa_nil))))))
    (pss_cons (ps_set (i := 5) sc_kind_weight.nd rfl (Or.inl rfl) (pe_call ih hr rfl T.g_kind_weight T.k_kind_weight T.b_kind_weight .nil pass0 (pa_cons (pe_ix ix_tup (pv 0) pe_int (fun _ _ => rfl)) (pa_cons (pv 1) (pa_cons (pv 2) (pa_cons (pv 3) pa_nil))))))
    (pss_cons (ps_set (i := 6) sc_kind_weight.nd rfl (Or.inl rfl) (pe_callB (call_max2 rfl) rfl T.n_max (by decide +kernel) (pa_cons (pv 4) (pa_cons (pv 5) pa_nil))))
    (pss_cons (ps_if (pt_cmpR op_eq (pe_ix ix_tup (pv 0) pe_int (fun _ _ => rfl)) (pe_cst rfl T.g_FUNCTION) (nomark _))
      (pss_one (ps_set (i := 6) sc_kind_weight.nd rfl (Or.inl rfl) (pe_op op_mul (pe_op op_mul (pv 6) (pe_call (ok_kind_size T 20) (hr.mono (by omega)) rfl T.g_kind_size T.k_kind_size T.b_kind_size .nil passL (pa_cons (pe_ix ix_tup (pv 0) pe_int (fun _ _ => rfl)) (pa_cons (pv 1) (pa_cons (pv 3) pa_nil))))) (pe_call (ok_kind_size T 20) (hr.mono (by omega)) rfl T.g_kind_size T.k_kind_size T.b_kind_size .nil passL (pa_cons (pe_ix ix_tup (pv 0) pe_int (fun _ _ => rfl)) (pa_cons (pv 2) (pa_cons (pv 3) pa_nil)))))))
      pss_nil)
    (pss_one (ps_ret (pv 6)))))))), ?_⟩)
    · obtain ⟨q, Y, Z, a, sn, sm, top, cn, cm, rfl, _⟩ := h
      rfl
    · obtain ⟨q, Y, Z, a, sn, sm, top, cn, cm, rfl, hq, hY, hZ, on, om, hd, hd20, htop, en, em, k⟩ := h
      rcases form a with i | _ | ⟨h, x, y, hh⟩
      · have hq' : H q = some (.tup [.int 0, .int (i : Int)]) := hq
        refine ⟨_, rfl, q, _, _, _, rfl, rfl, SqT.of hq', atI_nat (j := 0) rfl, rfl, _, rfl, if_true_of rfl ?_⟩
        exact k
      · have hq' : H q = some (.tup [.int 1]) := hq
        refine ⟨_, rfl, q, _, _, _, rfl, rfl, SqT.of hq', atI_nat (j := 0) rfl, rfl, _, rfl, if_false_of rfl ?_⟩
        refine ⟨_, rfl, q, _, _, _, rfl, rfl, SqT.of hq', atI_nat (j := 0) rfl, rfl, _, rfl, if_true_of rfl ?_⟩
        exact k
      · obtain ⟨b, c, hq', hb, hc⟩ := hq.of_bin hh
        obtain ⟨o1, o2⟩ := on.of_bin hh
        obtain ⟨o3, o4⟩ := om.of_bin hh
        rw [dp_bin hh] at hd
        obtain ⟨pn, qn, en1, en2, rfl, ln⟩ := small_parts hh en
        obtain ⟨pm, qm, em1, em2, rfl, lm⟩ := small_parts hh em
        have cn1 := small_card _ _ _ _ en1
        have cm1 := small_card _ _ _ _ em1
        have l1 := small_le _ _ _ _ en1
        have l3 := small_le _ _ _ _ em1
        have h0 : decide (V.int ((h : Nat) : Int) = V.int 0) = false := decide_eq_false (fun q => by injection q with q; omega)
        have h1 : decide (V.int ((h : Nat) : Int) = V.int 1) = false := decide_eq_false (fun q => by injection q with q; omega)
        refine ⟨_, rfl, q, _, _, _, rfl, rfl, SqT.of hq', atI_nat (j := 0) rfl, rfl, _, rfl, if_false_of h0 ?_⟩
        refine ⟨_, rfl, q, _, _, _, rfl, rfl, SqT.of hq', atI_nat (j := 0) rfl, rfl, _, rfl, if_false_of h1 ?_⟩
        refine ⟨_, rfl, q, _, _, _, rfl, rfl, SqT.of hq', atI_nat (j := 1) rfl, _, rfl, _, rfl, _, rfl, b, Y, Z, x, sn, sm, top, pn, pm, rfl, hb, hY, hZ, o1, o3, by omega, by omega, htop, en1, em1, ?_⟩
        refine ⟨_, rfl, q, _, _, _, rfl, rfl, SqT.of hq', atI_nat (j := 2) rfl, _, rfl, _, rfl, _, rfl, c, Y, Z, y, sn, sm, top, qn, qm, rfl, hc, hY, hZ, o2, o4, by omega, by omega, htop, en2, em2, ?_⟩
        generalize ewx : x.work (fun b => b.card (numOf sn) * b.card (numOf sm)) = wx at k ⊢
        generalize ewy : y.work (fun b => b.card (numOf sn) * b.card (numOf sm)) = wy at k ⊢
        have emax : (if ((wy : Nat) : Int) > ((wx : Nat) : Int) then ((wy : Nat) : Int) else ((wx : Nat) : Int)) = ((max wx wy : Nat) : Int) := by
          by_cases g : wx < wy
          · rw [if_pos (by omega), Nat.max_eq_right (by omega)]
          · rw [if_neg (by omega), Nat.max_eq_left (by omega)]
        refine ⟨_, rfl, _, rfl, _, _, rfl, ?_⟩
        refine ⟨_, rfl, q, _, _, _, rfl, rfl, SqT.of hq', atI_nat (j := 0) rfl, rfl, _, rfl, ?_⟩
        by_cases h4 : h = 4
        · subst h4
          refine if_true_of rfl ?_
          refine ⟨_, rfl, _, rfl, q, _, _, _, rfl, rfl, SqT.of hq', atI_nat (j := 1) rfl, _, rfl, _, rfl, b, Y, x, sn, top, rfl, hb, hY, o1, by omega, htop, (fun e => by rw [en1] at e; cases e), (fun z e => ?_)⟩
          rw [en1] at e
          cases e
          refine ⟨_, _, rfl, rfl, .inr ⟨by omega, by omega⟩, ?_⟩
          refine ⟨_, rfl, q, _, _, _, rfl, rfl, SqT.of hq', atI_nat (j := 1) rfl, _, rfl, _, rfl, b, Z, x, sm, top, rfl, hb, hZ, o3, by omega, htop, (fun e => by rw [em1] at e; cases e), (fun z e => ?_)⟩
          rw [em1] at e
          cases e
          refine ⟨_, _, rfl, rfl, .inr ⟨by omega, by omega⟩, _, rfl, ?_⟩
          have ew : (FC.bin 4 x y).work (fun b => b.card (numOf sn) * b.card (numOf sm)) = max wx wy * pn * pm := by
            show (x.card (numOf sn) * x.card (numOf sm)) * max (x.work _) (y.work _) = _
            rw [ewx, ewy, cn1, cm1, Nat.mul_comm, Nat.mul_assoc]
          rw [ew] at k
          show Q (.int ((if ((wy : Nat) : Int) > ((wx : Nat) : Int) then ((wy : Nat) : Int) else ((wx : Nat) : Int)) * (pn : Int) * (pm : Int))) H
          rw [emax, ← Int.natCast_mul, ← Int.natCast_mul]
          exact k
        · refine if_false_of (decide_eq_false (fun q => by injection q with q; omega)) ?_
          refine ⟨_, rfl, ?_⟩
          have ew : (FC.bin h x y).work (fun b => b.card (numOf sn) * b.card (numOf sm)) = max wx wy := by
            have : h = 2 ∨ h = 3 := by omega
            rcases this with rfl | rfl
            · show max (x.work _) (y.work _) = _
              rw [ewx, ewy]
            · show max (x.work _) (y.work _) = _
              rw [ewx, ewy]
          rw [ew] at k
          show Q (.int (if ((wy : Nat) : Int) > ((wx : Nat) : Int) then ((wy : Nat) : Int) else ((wx : Nat) : Int))) H
          rw [emax]
          exact k
/-- a type that is not too large, by the numbers of the document -/
def fits (top heavy : Nat) (n m : Nat → Nat) (a : Pa05.Ty) : Bool := (Pa05.small top n a).isSome && (Pa05.small top m a).isSome && decide (a.work (fun b => b.card n * b.card m) ≤ heavy)
def sp_refuse_too_large (T : Txt K mg) : Sp := fun vs H Q E => ∃ (q Y Z : Addr) (a : Pa05.Ty) (sn sm : List Nat) (top heavy : Nat), vs = [.ref q, .ref Y, .ref Z, .int (top : Int), .int (heavy : Int)] ∧ KindAt H a q ∧ SqL K H Y (nats sn) ∧ SqL K H Z (nats sm) ∧ TyOk sn.length a ∧ TyOk sm.length a ∧ dp a ≤ 20 ∧ top ≤ 256 ∧
  (fits top heavy (numOf sn) (numOf sm) a = false → E (.ref T.C_TooLarge) none H) ∧ (fits top heavy (numOf sn) (numOf sm) a = true → Q .non H)
theorem ok_refuse_too_large (T : Txt K mg) : FnOk P w K mg base (L2.CX P w) 51 T.f_refuse_too_large T.fd_refuse_too_large ["kind", "left_sizes", "right_sizes", "largest", "heaviest"] (sp_refuse_too_large T) := by
  refine T.F_refuse_too_large.okX sc_refuse_too_large (fun vs H Q E h => ?_) (fun cdv A outer s H vs Q E hr h => ⟨_, (pss_cons (ps_expr (pe_call (ok_kind_size T 20) (hr.mono (by decide)) rfl T.g_kind_size T.k_kind_size T.b_kind_size .nil (passes_call (takes_of rfl rfl rfl rfl) (fun _ _ _ _ h => h)) (pa_cons (pv 0) (pa_cons (pv 1) (pa_cons (pv 3) pa_nil)))))
    (pss_cons (ps_expr (pe_call (ok_kind_size T 20) (hr.mono (by decide)) rfl T.g_kind_size T.k_kind_size T.b_kind_size .nil (passes_call (takes_of rfl rfl rfl rfl) (fun _ _ _ _ h => h)) (pa_cons (pv 0) (pa_cons (pv 2) (pa_cons (pv 3) pa_nil)))))
    (pss_one (ps_if (pt_cmpR op_gt (pe_call (ok_kind_weight T 20) (hr.mono (by decide)) rfl T.g_kind_weight T.k_kind_weight T.b_kind_weight .nil pass0 (pa_cons (pv 0) (pa_cons (pv 1) (pa_cons (pv 2) (pa_cons (pv 3) pa_nil))))) (pv 4) (nomark _))
      (pss_one (ps_raise rfl (takes_of rfl rfl rfl rfl) (pmk_own0 PySem.F.excBase_Exception T.x_TooLarge T.g_TooLarge T.k_TooLarge (raises_own T.b_TooLarge T.t_TooLarge) rfl)))
      pss_nil)))), ?_⟩)
  · obtain ⟨q, Y, Z, a, sn, sm, top, heavy, rfl, _⟩ := h
    rfl
  · obtain ⟨q, Y, Z, a, sn, sm, top, heavy, rfl, hq, hY, hZ, on, om, hd, htop, kE, kQ⟩ := h
    refine ⟨_, rfl, _, rfl, _, rfl, q, Y, a, sn, top, rfl, hq, hY, on, hd, htop, (fun e => kE (by unfold fits; rw [e]; rfl)), (fun cn en => ?_)⟩
    refine ⟨_, rfl, _, rfl, _, rfl, q, Z, a, sm, top, rfl, hq, hZ, om, hd, htop, (fun e => kE (by unfold fits; rw [en, e]; rfl)), (fun cm em => ?_)⟩
    refine ⟨_, rfl, _, rfl, _, rfl, _, rfl, q, Y, Z, a, sn, sm, top, cn, cm, rfl, hq, hY, hZ, on, om, hd, by decide, htop, en, em, ?_⟩
    refine ⟨_, rfl, _, _, rfl, rfl, _, rfl, ?_⟩
    by_cases g : a.work (fun b => b.card (numOf sn) * b.card (numOf sm)) ≤ heavy
    · refine if_false_of (decide_eq_false (by omega)) (kQ ?_)
      unfold fits
      rw [en, em, decide_eq_true g]
      rfl
    · refine if_true_of (decide_eq_true (by omega)) (kE ?_)
      unfold fits
      rw [en, em, decide_eq_false g]
      rfl
end
end FC
namespace FC
open PySem PySem.Spec PyProof.Rows L2
def sqs (sz : List Nat) : Nat := (sz.map fun x => x * x).sum
theorem bitsOf_take (sz : List Nat) : ∀ i, i ≤ sz.length → Pa05.bitsOf (numOf sz) i = sqs (sz.take i)
  | 0, _ => rfl
  | i + 1, h => by
    show Pa05.bitsOf (numOf sz) i + numOf sz i * numOf sz i = _
    rw [bitsOf_take sz i (by omega), List.take_add_one, numOf_at (show i < sz.length by omega)]
    unfold sqs
    rw [List.map_append, List.sum_append]
    simp
theorem bitsOf_all (sz : List Nat) : Pa05.bitsOf (numOf sz) sz.length = sqs sz := by
  rw [bitsOf_take sz _ (Nat.le_refl _), List.take_length]
theorem sum_cast (l : List Nat) : (l.map fun (n : Nat) => (n : Int)).sum = ((l.sum : Nat) : Int) := by
  induction l with
  | nil => rfl
  | cons x l ih => rw [List.map_cons, List.sum_cons, List.sum_cons, ih, Int.natCast_add]
/-- the row of marks that a number tells -/
theorem chosen_row {n c off s : Nat} : (c >>> off) &&& (2 ^ s - 1) = markN s fun y => c.testBit (off + y) := by
  refine eq_markN (Nat.lt_of_le_of_lt Nat.and_le_right (by have := Nat.two_pow_pos s; omega)) fun y hy => ?_
  rw [Nat.testBit_and, Nat.testBit_two_pow_sub_one, decide_eq_true hy, Bool.and_true, Nat.testBit_shiftRight]
section
variable {P : Program} {w : World} {K : PySem.W.Frag} {mg : Str → Option Value} {base : Heap}
def sp_pairs_of_all (T : Txt K mg) : Sp := fun vs H Q _ => ∃ (a : Addr) (sz : List Nat), vs = [.ref a] ∧ SqL K H a (nats sz) ∧ (∀ x ∈ sz, x ≤ 3) ∧ sz.length ≤ 3 ∧ ∀ H', Same H H' → Q (.int ((sqs sz : Nat) : Int)) H'
theorem ok_pairs_of_all (T : Txt K mg) : FnOk P w K mg base CX0 1 T.f_pairs_of_all T.fd_pairs_of_all ["set_sizes"] (sp_pairs_of_all T) := by
  refine T.F_pairs_of_all.ok sc_pairs_of_all (fun vs H Q E h => ?_) (fun cdv A outer s H vs Q E hr h => ⟨_, (pss_one (ps_ret (pe_callB (cr_sum rfl) rfl T.n_sum (by decide +kernel) (pa_cons (pe_lc (own := [("size", 1)]) (by rfl) sc_pairs_of_all.nd (pi_list (pv 0)) (blkOk_by (own := [("size", 1)]) (N := ["set_sizes", "size"]) (sc := defScope s_pairs_of_all) (by decide +kernel)) (fun _ _ _ _ _ => (pg_name (i := 1) sc_pairs_of_all.nd rfl (Or.inl rfl))) (fun _ _ _ _ _ => pts_nil) (fun _ _ _ _ _ => (pe_op op_mul (pv 1) (pv 1)))) pa_nil)))), ?_⟩)
  · obtain ⟨a, sz, rfl, _⟩ := h
    rfl
  · obtain ⟨a, sz, rfl, hs, h3, hl, k⟩ := h
    refine ⟨_, rfl, a, rfl, ⟨_, hs⟩, fun D hD => ?_⟩
    refine lc_list (K := K) (a := a) (xs := nats sz) (fun j Hd => Same H Hd ∧ Hd D = some (.lst (nats ((sz.take j).map fun x => x * x)))) ⟨Same.new hD, upd_same⟩ ?_ ?_ ?_
    · rintro j Hd _ ⟨s3, _⟩
      exact s3.seq hs
    · rintro j z Hd hz ⟨s3, d3⟩
      obtain ⟨o, ho, rfl⟩ := nats_get hz
      have e2 : sz.take (j + 1) = sz.take j ++ [o] := by rw [List.take_add_one, ho]; rfl
      have b3 := h3 o (List.mem_of_getElem? ho)
      refine ⟨rfl, ?_⟩
      refine ⟨_, rfl, _, rfl, _, _, rfl, rfl, .inl ⟨by omega, by omega⟩, _, d3, ?_, ?_, ?_⟩
      · rw [nats_length, List.length_map, List.length_take]
        exact small1000 (by omega)
      · intro b u e
        rw [upd_ne (ne_of_none e hD)]
        exact s3 b u e
      · rw [upd_same, e2, List.map_append, nats_app]
        show some (HO.lst (_ ++ [V.int ((o : Int) * (o : Int))])) = some (HO.lst (_ ++ [V.int ((o * o : Nat) : Int)]))
        rw [Int.natCast_mul]
    · rintro Hd ⟨s3, d3⟩
      rw [nats_length, List.take_length, nats_map] at d3
      refine ⟨D, _, rfl, SqL.of d3, ?_⟩
      rw [sum_cast]
      exact k Hd s3
def tooMany (sz : List Nat) : Bool := sz.any (fun x => decide (2 < x)) || decide (8 < sqs sz)
def sp_refuse_too_many (T : Txt K mg) : Sp := fun vs H Q E => ∃ (a : Addr) (sz : List Nat), vs = [.ref a] ∧ SqL K H a (nats sz) ∧ (∀ x ∈ sz, x ≤ 3) ∧ sz.length ≤ 3 ∧ 0 < sz.length ∧
  (tooMany sz = true → ∀ H', Same H H' → E (.ref T.C_TooManyRelations) none H') ∧ (tooMany sz = false → ∀ H', Same H H' → Q .non H')
theorem ok_refuse_too_many (T : Txt K mg) : FnOk P w K mg base (L2.CX P w) 2 T.f_refuse_too_many T.fd_refuse_too_many ["set_sizes"] (sp_refuse_too_many T) := by
  refine T.F_refuse_too_many.okX sc_refuse_too_many (fun vs H Q E h => ?_) (fun cdv A outer s H vs Q E hr h => ⟨_, (pss_one (ps_if (PW.pt (pw_or (pt_cmpR op_gt (pe_callB (cr_max rfl) rfl T.n_max (by decide +kernel) (pa_cons (pv 0) pa_nil)) (pe_cst rfl T.g_LARGEST_KEPT_SET) (nomark _)) (pw_or1 (pt_cmpR op_gt (pe_call (ok_pairs_of_all T) (hr.mono (by decide)) rfl T.g_pairs_of_all T.k_pairs_of_all T.b_pairs_of_all .nil pass0 (pa_cons (pv 0) pa_nil)) (pe_cst rfl T.g_MOST_PAIRS) (nomark _)))))
      (pss_one (ps_raise rfl (takes_of rfl rfl rfl rfl) (pmk_own0 PySem.F.excBase_Exception T.x_TooManyRelations T.g_TooManyRelations T.k_TooManyRelations (raises_own T.b_TooManyRelations T.t_TooManyRelations) rfl)))
      pss_nil)), ?_⟩)
  · obtain ⟨a, sz, rfl, _⟩ := h
    rfl
  · obtain ⟨a, sz, rfl, hs, h3, hl, h0, kE, kQ⟩ := h
    have hs' := hs
    rw [nats_map] at hs'
    refine ⟨_, rfl, a, _, rfl, hs', by rw [List.length_map]; exact h0, fun m hm hle => ?_⟩
    obtain ⟨x, hx, rfl⟩ := List.mem_map.mp hm
    have any_iff : sz.any (fun x => decide (2 < x)) = decide (2 < x) := by
      by_cases c : 2 < x
      · rw [decide_eq_true c]
        exact List.any_eq_true.mpr ⟨x, hx, decide_eq_true c⟩
      · rw [decide_eq_false c]
        refine List.any_eq_false.mpr fun y hy => ?_
        have := hle (y : Int) (List.mem_map.mpr ⟨y, hy, rfl⟩)
        simp
        omega
    refine ⟨_, _, rfl, rfl, _, rfl, ?_⟩
    by_cases c : 2 < x
    · refine if_true_of (decide_eq_true (by omega)) ?_
      refine kE ?_ H (Same.refl H)
      unfold tooMany
      rw [any_iff, decide_eq_true c]
      rfl
    · refine if_false_of (decide_eq_false (by omega)) ?_
      refine ⟨_, rfl, a, sz, rfl, hs, h3, hl, fun H1 s1 => ?_⟩
      refine ⟨_, _, rfl, rfl, _, rfl, ?_⟩
      by_cases g : 8 < sqs sz
      · refine if_true_of (decide_eq_true (by omega)) ?_
        refine kE ?_ H1 s1
        unfold tooMany
        rw [decide_eq_true g, Bool.or_true]
      · refine if_false_of (decide_eq_false (by omega)) ?_
        refine kQ ?_ H1 s1
        unfold tooMany
        rw [any_iff, decide_eq_false c, decide_eq_false g]
        rfl
def sp_chosen_relations (T : Txt K mg) : Sp := fun vs H Q _ => ∃ (c : Nat) (a : Addr) (sz : List Nat), vs = [.int (c : Int), .ref a] ∧ SqL K H a (nats sz) ∧ (∀ x ∈ sz, x ≤ 3) ∧ sz.length ≤ 3 ∧
  ∀ (H' : Hp) (l : Addr) (trs : List Addr), Same H H' → H' l = some (.lst (trs.map V.ref)) → trs.length = sz.length → RelsAt H' trs (numOf sz) (numOf sz) (Pa05.relOf (numOf sz) c) → Q (.ref l) H'
theorem ok_chosen_relations (T : Txt K mg) : FnOk P w K mg base CX0 1 T.f_chosen_relations T.fd_chosen_relations ["chosen", "set_sizes"] (sp_chosen_relations T) := by
  refine T.F_chosen_relations.ok sc_chosen_relations (fun vs H Q E h => ?_) (fun cdv A outer s H vs Q E hr h => ⟨_, (pss_cons (ps_set (i := 2) sc_chosen_relations.nd rfl (Or.inl rfl) (pe_lst pa_nil))
    (pss_cons (ps_set (i := 3) sc_chosen_relations.nd rfl (Or.inl rfl) (pv 0))
    (pss_cons (ps_for PassesOwn.never rfl (pi_list (pv 1)) (pg_name (i := 4) sc_chosen_relations.nd rfl (Or.inl rfl))
      (pss_cons (ps_set (i := 5) sc_chosen_relations.nd rfl (Or.inl rfl) (pe_lst pa_nil))
      (pss_cons (ps_for PassesOwn.never rfl (pi_range1 rfl T.n_range (pa_cons (pv 4) pa_nil)) (pg_name (i := 6) sc_chosen_relations.nd rfl (Or.inl rfl))
        (pss_cons (ps_expr (pe_bm PySem.F.plainAttrs_list PySem.F.slot_list_append PySem.F.type_list_append mt_append (pv 5) (pa_cons (pe_op op_and (pv 3) (pe_op op_sub (pe_op op_shl pe_int (pv 4)) pe_int)) pa_nil)))
        (pss_one (ps_set (i := 3) sc_chosen_relations.nd rfl (Or.inl rfl) (pe_op op_shr (pv 3) (pv 4))))))
      (pss_one (ps_expr (pe_bm PySem.F.plainAttrs_list PySem.F.slot_list_append PySem.F.type_list_append mt_append (pv 2) (pa_cons (pv 5) pa_nil)))))))
    (pss_one (ps_ret (pv 2)))))), ?_⟩)
  · obtain ⟨c, a, sz, rfl, _⟩ := h
    rfl
  · obtain ⟨c, a, sz, rfl, hs, h3, hl, k⟩ := h
    refine ⟨by decide, fun L hL => ?_⟩
    refine ⟨_, rfl, ?_⟩
    refine ⟨_, rfl, a, rfl, ⟨_, (Same.new hL).seq hs⟩, ?_⟩
    refine for_list (xs := nats sz) (fun i σ Hc => Same H Hc ∧ ∃ (trs : List Addr) (v4 v5 v6 : Option V), trs.length = i ∧ Hc L = some (.lst (trs.map V.ref)) ∧ L ∉ trs ∧ RelsAt Hc trs (numOf sz) (numOf sz) (Pa05.relOf (numOf sz) c) ∧ σ = [some (.int (c : Int)), some (.ref a), some (.ref L), some (.int ((c >>> Pa05.bitsOf (numOf sz) i : Nat) : Int)), v4, v5, v6]) ⟨Same.new hL, [], none, none, none, rfl, upd_same, by simp, (fun x a e => by simp at e), rfl⟩ ?_ ?_ ?_
    · rintro i σ Hc _ ⟨s1, _⟩
      exact s1.seq hs
    · rintro i x σ Hc hx ⟨s1, trs, v4, v5, v6, hlen, c1, hnot, rels, rfl⟩
      obtain ⟨sI, hI, rfl⟩ := nats_get hx
      have hi : i < sz.length := (List.getElem?_eq_some_iff.mp hI).1
      have hn : numOf sz i = sI := by
        have := numOf_at hi
        rw [hI] at this
        exact (Option.some.inj this).symm
      have b3 := h3 sI (List.mem_of_getElem? hI)
      refine ⟨by decide, fun R hR => ?_⟩
      have hRL : L ≠ R := ne_of_none c1 hR
      have HR : H R = none := s1.free hR
      have hRt : R ∉ trs := fun hm => by
        obtain ⟨j, hj⟩ := List.getElem?_of_mem hm
        have := rels j R hj
        rw [hR] at this
        cases this
      refine ⟨_, rfl, (sI : Int), rfl, by omega, by omega, ?_⟩
      rw [show ((sI : Int)).toNat = sI from Int.toNat_natCast sI]
      refine for_range (lo := 0) (n := sI) (fun x σ Hd => Same H Hd ∧ Hd L = some (.lst (trs.map V.ref)) ∧ RelsAt Hd trs (numOf sz) (numOf sz) (Pa05.relOf (numOf sz) c) ∧ Hd R = some (.lst (nats ((List.range x).map fun x => markN sI fun y => c.testBit (Pa05.bitsOf (numOf sz) i + x * sI + y)))) ∧ ∃ v6 : Option V, σ = [some (.int (c : Int)), some (.ref a), some (.ref L), some (.int ((c >>> (Pa05.bitsOf (numOf sz) i + x * sI) : Nat) : Int)), some (.int (sI : Int)), some (.ref R), v6]) ⟨Same.trans s1 (Same.new hR), by rw [upd_ne hRL]; exact c1, rels.mono (Same.new hR), upd_same, _, by rw [Nat.zero_mul, Nat.add_zero]; rfl⟩ ?_ ?_
      · rintro x σ Hd hx ⟨s2, c2, r2, d2, v6, rfl⟩
        have e2 : ((1 : Int) * 2 ^ ((sI : Int)).toNat - 1) = ((2 ^ sI - 1 : Nat) : Int) := by
          rw [Int.toNat_natCast, Int.one_mul]
          have := Nat.two_pow_pos sI
          rw [show (2 : Int) ^ sI = ((2 ^ sI : Nat) : Int) from (Int.natCast_pow 2 sI).symm]
          omega
        refine ⟨_, rfl, .inl ⟨rfl, _, SqL.of d2⟩, _, rfl, _, rfl, _, _, rfl, rfl, ⟨by omega, by omega, by decide⟩, _, _, rfl, rfl, _, _, rfl, rfl, R, _, _, rfl, rfl, d2, (by rw [nats_length, List.length_map, List.length_range]; exact small1000 (by omega)), ?_⟩
        refine ⟨_, rfl, _, rfl, _, _, rfl, rfl, by omega, ?_, ?_, ?_, ?_, some (.int (0 + (x : Int))), ?_⟩
        · intro b u e
          rw [upd_ne (ne_of_none e HR)]
          exact s2 b u e
        · rw [upd_ne hRL]
          exact c2
        · intro j t e
          rw [upd_ne (fun q => hRt (by rw [← q]; exact List.mem_of_getElem? e))]
          exact r2 j t e
        · rw [upd_same, List.range_succ, List.map_append, nats_app]
          show some (HO.lst (_ ++ [V.int (Builtin.bitAnd ((c >>> (Pa05.bitsOf (numOf sz) i + x * sI) : Nat) : Int) ((1 : Int) * 2 ^ ((sI : Int)).toNat - 1))])) = _
          rw [e2, and_nat, chosen_row (n := 0)]
          rfl
        · show [some (V.int (c : Int)), some (V.ref a), some (V.ref L), some (V.int (((c >>> (Pa05.bitsOf (numOf sz) i + x * sI) : Nat) : Int) / 2 ^ ((sI : Int)).toNat)), some (V.int (sI : Int)), some (V.ref R), _] = _
          rw [shr_nat, ← Nat.shiftRight_add, Nat.succ_mul, Nat.add_assoc]
      · rintro σ Hd ⟨s2, c2, r2, d2, v6, rfl⟩
        refine ⟨_, rfl, .inl ⟨rfl, _, SqL.of c2⟩, _, rfl, L, _, _, rfl, rfl, c2, (by rw [List.length_map, hlen]; exact small1000 (by omega)), ?_, trs ++ [R], some (.int (sI : Int)), some (.ref R), v6, by rw [List.length_append, hlen]; rfl, ?_, ?_, ?_, ?_⟩
        · intro b u e
          rw [upd_ne (ne_of_none e hL)]
          exact s2 b u e
        · rw [upd_same, List.map_append]
          rfl
        · intro hm
          rcases List.mem_append.mp hm with hm | hm
          · exact hnot hm
          · exact hRL (List.mem_singleton.mp hm)
        · intro j t e
          by_cases q : j < trs.length
          · rw [List.getElem?_append_left q] at e
            rw [upd_ne (fun q => hnot (by rw [← q]; exact List.mem_of_getElem? e))]
            exact r2 j t e
          · rw [List.getElem?_append_right (by omega)] at e
            have ej : j = trs.length := by
              have := (List.getElem?_eq_some_iff.mp e).1
              simp at this
              omega
            subst ej
            rw [Nat.sub_self] at e
            have et : R = t := Option.some.inj e
            subst et
            rw [upd_ne hRL.symm, d2, hlen]
            unfold relL
            show _ = some (HO.lst (nats ((List.range (numOf sz i)).map fun x => markN (numOf sz i) fun y => Pa05.relOf (numOf sz) c i x y)))
            rw [hn]
            congr 3
            refine List.map_congr_left fun x hx => markN_congr fun y hy => ?_
            unfold Pa05.relOf
            rw [hn, decide_eq_true (List.mem_range.mp hx), decide_eq_true hy]
            rfl
        · show [some (V.int (c : Int)), some (V.ref a), some (V.ref L), some (V.int ((c >>> (Pa05.bitsOf (numOf sz) i + sI * sI) : Nat) : Int)), _, _, _] = [some (V.int (c : Int)), some (V.ref a), some (V.ref L), some (V.int ((c >>> (Pa05.bitsOf (numOf sz) i + numOf sz i * numOf sz i) : Nat) : Int)), _, _, _]
          rw [hn]
    · rintro σ Hc ⟨s1, trs, v4, v5, v6, hlen, c1, hnot, rels, rfl⟩
      rw [nats_length] at hlen
      exact ⟨_, rfl, k Hc L trs s1 c1 hlen rels⟩
end
end FC
namespace FC
open PySem PySem.Spec PyProof.Rows L2
theorem ix_listK {X : Cx} {K : PySem.W.Frag} (h : X.K = K) : IxR X (rIxL K) := by
  subst h
  exact ix_list
theorem ix_tupK {X : Cx} {K : PySem.W.Frag} (h : X.K = K) : IxR X (rIxT K) := by
  subst h
  exact ix_tup
theorem rgV_nats (n : Nat) : rgV 0 (n : Int) = nats (List.range n) := by
  unfold rgV nats
  rw [show ((n : Int) - 0).toNat = n by omega]
  refine List.map_congr_left fun i _ => ?_
  rw [Int.zero_add]
section
variable {P : Program} {w : World} {K : PySem.W.Frag} {mg : Str → Option Value} {base : Heap}
/-- those that the first i relations keep -/
def keptBy (n : Nat → Nat) (a : Pa05.Ty) (i : Nat) : List Nat := (List.range (a.card n)).filter fun x => (List.range i).all fun c => a.rel n n (Pa05.relOf n c) x x
theorem keptBy_succ (n : Nat → Nat) (a : Pa05.Ty) (i : Nat) : keptBy n a (i + 1) = (keptBy n a i).filter fun x => a.rel n n (Pa05.relOf n i) x x := by
  unfold keptBy
  rw [List.filter_filter]
  congr 1
  funext x
  rw [List.range_succ, List.all_append]
  simp [Bool.and_comm]
theorem keptBy_zero (n : Nat → Nat) (a : Pa05.Ty) : keptBy n a 0 = List.range (a.card n) := by
  unfold keptBy
  rw [List.filter_eq_self]
  intro x _
  rfl
theorem keptBy_len (n : Nat → Nat) (a : Pa05.Ty) (i : Nat) : (keptBy n a i).length ≤ a.card n := by
  unfold keptBy
  have := List.length_filter_le (fun x => (List.range i).all fun c => a.rel n n (Pa05.relOf n c) x x) (List.range (a.card n))
  rw [List.length_range] at this
  exact this
def sp_kept_values (T : Txt K mg) : Sp := fun vs H Q _ => ∃ (q Z : Addr) (a : Pa05.Ty) (sz : List Nat) (top cn : Nat), vs = [.ref q, .ref Z, .int (top : Int)] ∧ KindAt H a q ∧ SqL K H Z (nats sz) ∧ (∀ x ∈ sz, x ≤ 3) ∧ sz.length ≤ 3 ∧ sqs sz ≤ 8 ∧ TyOk sz.length a ∧ dp a ≤ 20 ∧ top ≤ 256 ∧
  Pa05.small top (numOf sz) a = some cn ∧
  ∀ (H' : Hp) (l : Addr), Same H H' → H' l = some (.lst (nats (Pa05.kept (numOf sz) sz.length a))) → Q (.ref l) H'
theorem ok_kept_values (T : Txt K mg) : FnOk P w K mg base CX0 51 T.f_kept_values T.fd_kept_values ["kind", "set_sizes", "largest"] (sp_kept_values T) := by
  refine T.F_kept_values.ok sc_kept_values (fun vs H Q E h => ?_) (fun cdv A outer s H vs Q E hr h => ⟨_, (pss_cons (ps_set (i := 3) sc_kept_values.nd rfl (Or.inl rfl) (pe_listRg rfl rfl T.n_list (prg_1 rfl T.n_range (pe_call (ok_kind_size T 20) (hr.mono (by decide)) rfl T.g_kind_size T.k_kind_size T.b_kind_size .nil passL (pa_cons (pv 0) (pa_cons (pv 1) (pa_cons (pv 2) pa_nil)))))))
    (pss_cons (ps_for PassesOwn.never rfl (pi_range1 rfl T.n_range (pa_cons (pe_op op_shl pe_int (pe_call (ok_pairs_of_all T) (hr.mono (by decide)) rfl T.g_pairs_of_all T.k_pairs_of_all T.b_pairs_of_all .nil pass0 (pa_cons (pv 1) pa_nil))) pa_nil)) (pg_name (i := 4) sc_kept_values.nd rfl (Or.inl rfl))
      (pss_cons (ps_set (i := 5) sc_kept_values.nd rfl (Or.inr rfl) (pe_call (ok_kind_relation T 20) (hr.mono (by decide)) rfl T.g_kind_relation T.k_kind_relation T.b_kind_relation .nil pass0 (pa_cons (pv 0) (pa_cons (pv 1) (pa_cons (pe_call (ok_chosen_relations T) (hr.mono (by decide)) rfl T.g_chosen_relations T.k_chosen_relations T.b_chosen_relations .nil pass0 (pa_cons (pv 4) (pa_cons (pv 1) pa_nil))) (pa_cons (pv 2) pa_nil))))))
      (pss_one (ps_setLc (i := 3) (own := [("value", 6)]) (by rfl) sc_kept_values.nd rfl rfl (sw_true rfl rfl rfl (by decide +kernel)) (pi_list (pv 3)) (blkOk_by (own := [("value", 6)]) (N := ["kind", "set_sizes", "largest", "kept", "chosen", "relation", "value"]) (sc := defScope s_kept_values) (by decide +kernel)) (fun _ _ _ _ _ => (pg_name (i := 6) sc_kept_values.nd rfl (Or.inl rfl))) (fun _ _ _ _ _ => (pts_one (pt_val (pe_call (ok_is_marked T) (hr.mono (by decide)) rfl T.g_is_marked T.k_is_marked T.b_is_marked .nil pass0 (pa_cons (pe_ix (ix_listK (K := K) rfl) (pv 5) (pv 6) (fun _ _ => rfl)) (pa_cons (pv 6) pa_nil)))))) (fun _ _ _ _ _ => (pv 6))))))
    (pss_one (ps_ret (pv 3))))), ?_⟩)
  · obtain ⟨q, Z, a, sz, top, cn, rfl, _⟩ := h
    rfl
  · obtain ⟨q, Z, a, sz, top, cn, rfl, hq, hZ, h3, hl, h8, ok, hd, htop, en, k⟩ := h
    have ecn := small_card _ _ _ _ en
    have lcn := small_le _ _ _ _ en
    refine ⟨_, rfl, _, rfl, _, rfl, q, Z, a, sz, top, rfl, hq, hZ, ok, hd, htop, (fun e => by rw [en] at e; cases e), (fun z e => ?_)⟩
    rw [en] at e
    cases e
    refine ⟨(cn : Int), rfl, RgOk.of_le (by omega) (by omega) (by omega) (by omega), fun L hL => ?_⟩
    rw [rgV_nats]
    have sL : Same H (upd H L (.lst (nats (List.range cn)))) := Same.new hL
    have cL : upd H L (.lst (nats (List.range cn))) L = some (.lst (nats (keptBy (numOf sz) a 0))) := by rw [upd_same, keptBy_zero, ecn]
    generalize upd H L (.lst (nats (List.range cn))) = H1 at sL cL ⊢
    refine ⟨_, rfl, Z, sz, rfl, sL.seq hZ, h3, hl, fun H2 s2 => ?_⟩
    have h256 : 2 ^ sqs sz ≤ 256 := by
      have := Nat.pow_le_pow_right (show 0 < 2 by omega) h8
      omega
    have e1 : (1 : Int) * 2 ^ ((sqs sz : Nat) : Int).toNat = ((2 ^ sqs sz : Nat) : Int) := by
      rw [Int.toNat_natCast, Int.one_mul, Int.natCast_pow]
      rfl
    refine ⟨1, ((sqs sz : Nat) : Int), rfl, rfl, ⟨by omega, by omega, by decide⟩, _, rfl, ?_, ?_, ?_⟩
    · show -(2 ^ 62) ≤ (1 : Int) * 2 ^ ((sqs sz : Nat) : Int).toNat
      rw [e1]
      exact Int.le_trans (by decide) (Int.natCast_nonneg _)
    · show (1 : Int) * 2 ^ ((sqs sz : Nat) : Int).toNat < 2 ^ 62
      rw [e1]
      exact Int.lt_of_le_of_lt (Int.ofNat_le.mpr h256) (by decide)
    · have e2 : ((1 : Int) * 2 ^ ((sqs sz : Nat) : Int).toNat).toNat = 2 ^ sqs sz := by rw [e1, Int.toNat_natCast]
      rw [e2]
      refine for_range (lo := 0) (n := 2 ^ sqs sz) (fun i σ Hc => Same H Hc ∧ ∃ (L : Addr) (v4 v5 v6 : Option V), Hc L = some (.lst (nats (keptBy (numOf sz) a i))) ∧ σ = [some (.ref q), some (.ref Z), some (.int (top : Int)), some (.ref L), v4, v5, v6]) ⟨Same.trans sL s2, L, none, none, none, s2 _ _ cL, rfl⟩ ?_ ?_
      · rintro i σ Hc hi ⟨s3, L, v4, v5, v6, c3, rfl⟩
        refine ⟨_, rfl, _, rfl, _, rfl, _, rfl, i, Z, sz, (by show [V.int (0 + (i : Int)), V.ref Z] = _; rw [Int.zero_add]), s3.seq hZ, h3, hl, fun H4 l4 trs s4 c4 hlen rels => ?_⟩
        have s34 := Same.trans s3 s4
        refine ⟨_, rfl, q, Z, l4, a, sz, sz, Pa05.relOf (numOf sz) i, top, trs, cn, cn, rfl, hq.mono (Same.tups s34), s34.seq hZ, SqL.of c4, rels, ok, hlen, hd, by decide, htop, en, en, fun H5 l5 s5 c5 => ?_⟩
        have c35 := s5 _ _ (s4 _ _ c3)
        have s35 := Same.trans s34 s5
        refine ⟨_, rfl, L, rfl, ⟨_, SqL.of c35⟩, fun D hD => ?_⟩
        refine lc_list (K := K) (a := L) (xs := nats (keptBy (numOf sz) a i)) (fun j Hd => Same H5 Hd ∧ Hd D = some (.lst (nats (((keptBy (numOf sz) a i).take j).filter fun x => a.rel (numOf sz) (numOf sz) (Pa05.relOf (numOf sz) i) x x)))) ⟨Same.new hD, upd_same⟩ ?_ ?_ ?_
        · rintro j Hd _ ⟨s6, _⟩
          exact SqL.of (s6 _ _ c35)
        · rintro j z Hd hz ⟨s6, d6⟩
          obtain ⟨o, ho, rfl⟩ := nats_get hz
          have hoc : o < a.card (numOf sz) := List.mem_range.mp (List.mem_filter.mp (List.mem_of_getElem? ho)).1
          have e3 : (keptBy (numOf sz) a i).take (j + 1) = (keptBy (numOf sz) a i).take j ++ [o] := by rw [List.take_add_one, ho]; rfl
          refine ⟨rfl, ?_⟩
          refine ⟨_, rfl, _, rfl, l5, _, _, _, rfl, rfl, SqL.of (s6 _ _ c5), atI_nat (nats_at (relL_at hoc)), _, rfl, _, o, rfl, _, rfl, ?_⟩
          have eb : (markN (a.card (numOf sz)) fun y => a.rel (numOf sz) (numOf sz) (Pa05.relOf (numOf sz) i) o y).testBit o = a.rel (numOf sz) (numOf sz) (Pa05.relOf (numOf sz) i) o o := by
            rw [bit_markN, decide_eq_true hoc]
            rfl
          have hlen5 : (nats (((keptBy (numOf sz) a i).take j).filter fun x => a.rel (numOf sz) (numOf sz) (Pa05.relOf (numOf sz) i) x x)).length < sizeLine := by
            rw [nats_length]
            have g1 := List.length_filter_le (fun x => a.rel (numOf sz) (numOf sz) (Pa05.relOf (numOf sz) i) x x) ((keptBy (numOf sz) a i).take j)
            have g2 := keptBy_len (numOf sz) a i
            rw [List.length_take] at g1
            exact small1000 (by omega)
          by_cases g : a.rel (numOf sz) (numOf sz) (Pa05.relOf (numOf sz) i) o o = true
          · refine if_true_of (eb.trans g) ?_
            refine ⟨_, rfl, _, d6, hlen5, ?_, ?_⟩
            · intro b u e
              rw [upd_ne (ne_of_none e hD)]
              exact s6 b u e
            · rw [upd_same, e3, List.filter_append, List.filter_cons_of_pos (p := fun x => a.rel (numOf sz) (numOf sz) (Pa05.relOf (numOf sz) i) x x) g, nats_app]
              rfl
          · refine if_false_of (by rw [eb]; simpa using g) ⟨s6, ?_⟩
            rw [d6, e3, List.filter_append, List.filter_cons_of_neg (p := fun x => a.rel (numOf sz) (numOf sz) (Pa05.relOf (numOf sz) i) x x) g, List.filter_nil, List.append_nil]
        · rintro Hd ⟨s6, d6⟩
          rw [nats_length, List.take_length, ← keptBy_succ] at d6
          exact ⟨Same.trans s35 s6, D, _, _, _, d6, rfl⟩
      · rintro σ Hc ⟨s3, L, v4, v5, v6, c3, rfl⟩
        refine ⟨_, rfl, k Hc L s3 ?_⟩
        rw [c3]
        unfold keptBy Pa05.kept
        rw [bitsOf_all]
end
end FC
namespace FC
open PySem PySem.Spec PyProof.Rows L2
def hsF (S R : Addr) : List (Str × V) := [("set_sizes", .ref S), ("told_relations", .ref R)]
theorem hsF_sizes (S R : Addr) : (hsF S R).lookup ("set_sizes" : Str) = some (.ref S) := lk_here
theorem hsF_told (S R : Addr) : (hsF S R).lookup ("told_relations" : Str) = some (.ref R) := (lk_past (by decide +kernel)).trans lk_here
theorem hsF_no {m : Str} (S R : Addr) (h1 : (m == ("set_sizes" : Str)) = false := by decide +kernel) (h2 : (m == ("told_relations" : Str)) = false := by decide +kernel) : (hsF S R).lookup m = none := (lk_past h1).trans ((lk_past h2).trans rfl)
theorem hsF_new (S R : Addr) : putF "told_relations" (.ref R) (putF "set_sizes" (.ref S) []) = hsF S R := (put_past (by decide +kernel)).trans rfl
theorem hsF_put (S R S' R' : Addr) : putF "told_relations" (.ref R') (putF "set_sizes" (.ref S') (hsF S R)) = hsF S' R' := by
  have e : putF "set_sizes" (.ref S') (hsF S R) = hsF S' R := put_here
  rw [e]
  exact (put_past (by decide +kernel)).trans (congrArg _ put_here)
/-- the house in memory: F tells what is its own -/
structure HouseIs {K : PySem.W.Frag} {mg : Str → Option Value} (T : Txt K mg) (H : Hp) (h : Addr) (s : Pa05.State) (F : Addr → Prop) (dx S R L M : Addr) (trs : List Addr) : Prop where
  obj : H h = some (.ins T.C_House dx (hsF S R))
  sz : H S = some (.lst [.ref L, .ref M])
  left : H L = some (.lst (nats (s.sets.map fun x => x.1)))
  right : H M = some (.lst (nats (s.sets.map fun x => x.2.1)))
  rel : H R = some (.lst (trs.map V.ref))
  len : trs.length = s.sets.length
  rels : RelsAt H trs s.n s.m s.r
  k1 : 1 ≤ s.sets.length
  k3 : s.sets.length ≤ 3
  n3 : ∀ x ∈ s.sets, x.1 ≤ 3 ∧ x.2.1 ≤ 3
  lm : L ≠ M
  lt : L ∉ trs
  mt : M ∉ trs
  nd : trs.Nodup
  fh : F h
  fS : F S
  fR : F R
  fL : F L
  fM : F M
  ft : ∀ t ∈ trs, F t
def HouseAt {K : PySem.W.Frag} {mg : Str → Option Value} (T : Txt K mg) (H : Hp) (h : Addr) (s : Pa05.State) (F : Addr → Prop) : Prop := ∃ dx S R L M trs, HouseIs T H h s F dx S R L M trs
theorem n_num (s : Pa05.State) : numOf (s.sets.map fun x => x.1) = s.n := by
  funext i
  unfold numOf Pa05.State.n
  rw [List.getD_eq_getElem?_getD, List.getD_eq_getElem?_getD, List.getElem?_map]
  cases s.sets[i]? <;> rfl
theorem m_num (s : Pa05.State) : numOf (s.sets.map fun x => x.2.1) = s.m := by
  funext i
  unfold numOf Pa05.State.m
  rw [List.getD_eq_getElem?_getD, List.getD_eq_getElem?_getD, List.getElem?_map]
  cases s.sets[i]? <;> rfl
section
variable {P : Program} {w : World} {K : PySem.W.Frag} {mg : Str → Option Value} {base : Heap}
theorem HouseIs.mono {T : Txt K mg} {H H' : Hp} {h : Addr} {s : Pa05.State} {F : Addr → Prop} {dx S R L M : Addr} {trs : List Addr} (x : HouseIs T H h s F dx S R L M trs) (e : Same H H') : HouseIs T H' h s F dx S R L M trs :=
  ⟨e _ _ x.obj, e _ _ x.sz, e _ _ x.left, e _ _ x.right, e _ _ x.rel, x.len, x.rels.mono e, x.k1, x.k3, x.n3, x.lm, x.lt, x.mt, x.nd, x.fh, x.fS, x.fR, x.fL, x.fM, x.ft⟩
theorem HouseAt.mono {T : Txt K mg} {H H' : Hp} {h : Addr} {s : Pa05.State} {F : Addr → Prop} (x : HouseAt T H h s F) (e : Same H H') : HouseAt T H' h s F := by
  obtain ⟨dx, S, R, L, M, trs, x⟩ := x
  exact ⟨dx, S, R, L, M, trs, x.mono e⟩
def sp_House_variables (T : Txt K mg) : Sp := fun vs H Q _ => ∃ (h dx S R : Addr) (trs : List Addr), vs = [.ref h] ∧ H h = some (.ins T.C_House dx (hsF S R)) ∧ H R = some (.lst (trs.map V.ref)) ∧ Q (.int ((trs.length : Nat) : Int)) H
theorem ok_House_variables (T : Txt K mg) : FnOk P w K mg base CX0 1 T.f_House_variables T.fd_House_variables ["self"] (sp_House_variables T) := by
  refine T.F_House_variables.ok sc_House_variables (fun vs H Q E h => ?_) (fun cdv A outer s H vs Q E hr h => ⟨_, (pss_one (ps_ret (pe_callB call_len_seq rfl T.n_len (by decide +kernel) (pa_cons (pe_fld (pv 0) rfl) pa_nil)))), ?_⟩)
  · obtain ⟨h, dx, S, R, trs, rfl, _⟩ := h
    rfl
  · obtain ⟨h, dx, S, R, trs, rfl, ho, hR, k⟩ := h
    refine ⟨_, rfl, h, _, dx, _, _, rfl, ho, T.cl_House, T.n_House_told_relations, hsF_told S R, R, _, rfl, .inl (SqL.of hR), ?_⟩
    rw [List.length_map]
    exact k
theorem nats_one (n : Nat) : (List.replicate n [V.int 1]).flatten = nats (List.replicate n 1) := nats_rep n 1
/-- variables with sets of one, nothing related -/
theorem relL_fresh (k i : Nat) (hi : i < k) : relL (Pa05.State.n ⟨List.replicate k (1, 1, [])⟩) (Pa05.State.m ⟨List.replicate k (1, 1, [])⟩) (Pa05.State.r ⟨List.replicate k (1, 1, [])⟩) (.var i) = [0] := by
  have e : (List.replicate k ((1, 1, []) : Nat × Nat × List (Nat × Nat))).getD i (0, 0, []) = (1, 1, []) := by
    rw [List.getD_eq_getElem?_getD, List.getElem?_replicate, if_pos hi]
    rfl
  have en : Pa05.State.n ⟨List.replicate k (1, 1, [])⟩ i = 1 := by
    show ((List.replicate k ((1, 1, []) : Nat × Nat × List (Nat × Nat))).getD i (0, 0, [])).1 = 1
    rw [e]
  have em : Pa05.State.m ⟨List.replicate k (1, 1, [])⟩ i = 1 := by
    show ((List.replicate k ((1, 1, []) : Nat × Nat × List (Nat × Nat))).getD i (0, 0, [])).2.1 = 1
    rw [e]
  unfold relL
  show (List.range (Pa05.State.n ⟨List.replicate k (1, 1, [])⟩ i)).map (fun x => markN (Pa05.State.m ⟨List.replicate k (1, 1, [])⟩ i) fun y => Pa05.State.r ⟨List.replicate k (1, 1, [])⟩ i x y) = [0]
  rw [en, em]
  show [markN 1 fun y => Pa05.State.r ⟨List.replicate k (1, 1, [])⟩ i 0 y] = [0]
  have er : Pa05.State.r ⟨List.replicate k (1, 1, [])⟩ i 0 0 = false := by
    show ((List.replicate k ((1, 1, []) : Nat × Nat × List (Nat × Nat))).getD i (0, 0, [])).2.2.contains (0, 0) = false
    rw [e]
    rfl
  show [2 ^ 0 * (if Pa05.State.r ⟨List.replicate k (1, 1, [])⟩ i 0 0 = true then 1 else 0) + 0] = [0]
  rw [er]
  rfl
def sp_House_begin (T : Txt K mg) : Sp := fun vs H Q E => ∃ (h dx : Addr) (fs : List (Str × V)) (k : Nat), vs = [.ref h, .int (k : Int)] ∧ H h = some (.ins T.C_House dx fs) ∧ (fs = [] ∨ ∃ S R, fs = hsF S R) ∧
  ((k < 1 ∨ 3 < k) → E (.ref T.C_Unfit) none H) ∧
  (1 ≤ k → k ≤ 3 → ∀ (H' : Hp) (l : Addr), HouseAt T H' h ⟨List.replicate k (1, 1, [])⟩ (fun b => b = h ∨ H b = none) → But h H H' → H l = none → H' l = some (.lst [.int 0]) → Q (.ref l) H')
theorem ok_House_begin (T : Txt K mg) : FnOk P w K mg base (L2.CX P w) 1 T.f_House_begin T.fd_House_begin ["self", "variables"] (sp_House_begin T) := by
  refine T.F_House_begin.okX sc_House_begin (fun vs H Q E h => ?_) (fun cdv A outer s H vs Q E hr h => ⟨_, (pss_cons (ps_if (PW.pt (pw_or (pt_cmpR op_lt (pv 1) pe_int (nomark _)) (pw_or1 (pt_cmpR op_gt (pv 1) (pe_cst rfl T.g_MOST_VARIABLES) (nomark _)))))
      (pss_one (ps_raise rfl (takes_of rfl rfl rfl rfl) (pmk_own0 PySem.F.excBase_Exception T.x_Unfit T.g_Unfit T.k_Unfit (raises_own T.b_Unfit T.t_Unfit) rfl)))
      pss_nil)
    (pss_cons (ps_fld (pv 0) (pe_lst (pa_cons (pe_op op_rep (pe_lst (pa_cons pe_int pa_nil)) (pv 1)) (pa_cons (pe_op op_rep (pe_lst (pa_cons pe_int pa_nil)) (pv 1)) pa_nil))) rfl)
    (pss_cons (ps_fld (pv 0) (pe_lc (own := [("variable", 2)]) (by rfl) sc_House_begin.nd (pi_range1 rfl T.n_range (pa_cons (pv 1) pa_nil)) (blkOk_by (own := [("variable", 2)]) (N := ["self", "variables", "variable"]) (sc := defScope s_House_begin) (by decide +kernel)) (fun _ _ _ _ _ => (pg_name (i := 2) sc_House_begin.nd rfl (Or.inl rfl))) (fun _ _ _ _ _ => pts_nil) (fun _ _ _ _ _ => (pe_lst (pa_cons pe_int pa_nil)))) rfl)
    (pss_one (ps_ret (pe_lst (pa_cons pe_int pa_nil))))))), ?_⟩)
  · obtain ⟨h, dx, fs, k, rfl, _⟩ := h
    rfl
  · obtain ⟨h, dx, fs, k, rfl, ho, hfs, kE, kQ⟩ := h
    have hlen : fs.length < 1000 := by
      rcases hfs with rfl | ⟨S, R, rfl⟩
      · show 0 < 1000
        decide
      · show 2 < 1000
        decide
    have hlen2 : ∀ S, (putF "set_sizes" (V.ref S) fs).length < 1000 := by
      intro S'
      rcases hfs with rfl | ⟨S, R, rfl⟩
      · show 1 < 1000
        decide
      · have e : putF "set_sizes" (.ref S') (hsF S R) = hsF S' R := put_here
        rw [e]
        show 2 < 1000
        decide
    have hput : ∀ S' R', putF "told_relations" (.ref R') (putF "set_sizes" (.ref S') fs) = hsF S' R' := by
      intro S' R'
      rcases hfs with rfl | ⟨S, R, rfl⟩
      · exact hsF_new S' R'
      · exact hsF_put S R S' R'
    refine ⟨_, rfl, _, _, rfl, rfl, _, rfl, ?_⟩
    by_cases c1 : k < 1
    · exact if_true_of (decide_eq_true (by omega)) (kE (.inl c1))
    · refine if_false_of (decide_eq_false (by omega)) ?_
      refine ⟨_, rfl, _, _, rfl, rfl, _, rfl, ?_⟩
      by_cases c2 : 3 < k
      · exact if_true_of (decide_eq_true (by omega)) (kE (.inr c2))
      · refine if_false_of (decide_eq_false (by omega)) ?_
        have kQ := kQ (by omega) (by omega)
        -- the two lists
        refine ⟨(by show 1 ≤ sizeLine; decide), fun l1 hl1 => ?_⟩
        refine ⟨_, rfl, l1, _, _, rfl, rfl, upd_same, by omega, by omega, ?_, fun L hL => ?_⟩
        · show 1 * ((k : Int)).toNat ≤ sizeLine
          exact Nat.le_of_lt (small1000 (by omega))
        have eL : ∀ H0 : Hp, upd H0 L (.lst (List.replicate ((k : Int)).toNat [V.int 1]).flatten) L = some (.lst (nats (List.replicate k 1))) := fun H0 => by
          rw [upd_same, Int.toNat_natCast, nats_one]
        have sL : Same H (upd (upd H l1 (.lst [.int 1])) L (.lst (List.replicate ((k : Int)).toNat [V.int 1]).flatten)) := Same.trans (Same.new hl1) (Same.new hL)
        have fL : H L = none := Same.free (Same.new hl1) hL
        have cL := eL (upd H l1 (.lst [.int 1]))
        generalize upd (upd H l1 (.lst [.int 1])) L (.lst (List.replicate ((k : Int)).toNat [V.int 1]).flatten) = H1 at sL cL ⊢
        refine ⟨(by show 1 ≤ sizeLine; decide), fun l2 hl2 => ?_⟩
        refine ⟨_, rfl, l2, _, _, rfl, rfl, upd_same, by omega, by omega, ?_, fun M hM => ?_⟩
        · show 1 * ((k : Int)).toNat ≤ sizeLine
          exact Nat.le_of_lt (small1000 (by omega))
        have s12 : Same H1 (upd (upd H1 l2 (.lst [.int 1])) M (.lst (List.replicate ((k : Int)).toNat [V.int 1]).flatten)) := Same.trans (Same.new hl2) (Same.new hM)
        have fM1 : H1 M = none := Same.free (Same.new hl2) hM
        have cM : upd (upd H1 l2 (.lst [.int 1])) M (.lst (List.replicate ((k : Int)).toNat [V.int 1]).flatten) M = some (.lst (nats (List.replicate k 1))) := by
          rw [upd_same, Int.toNat_natCast, nats_one]
        have hLM : L ≠ M := ne_of_none cL fM1
        generalize upd (upd H1 l2 (.lst [.int 1])) M (.lst (List.replicate ((k : Int)).toNat [V.int 1]).flatten) = H2 at s12 cM ⊢
        have cL2 := s12 _ _ cL
        refine ⟨(by show 2 ≤ sizeLine; decide), fun S hS => ?_⟩
        have s23 : Same H2 (upd H2 S (.lst [.ref L, .ref M])) := Same.new hS
        have cS : upd H2 S (.lst [.ref L, .ref M]) S = some (.lst [.ref L, .ref M]) := upd_same
        generalize upd H2 S (.lst [.ref L, .ref M]) = H3 at s23 cS ⊢
        have s03 : Same H H3 := Same.trans sL (Same.trans s12 s23)
        have fM : H M = none := sL.free fM1
        have fS : H S = none := sL.free (s12.free hS)
        have cL3 := s23 _ _ cL2
        have cM3 := s23 _ _ cM
        have ho3 := s03 _ _ ho
        -- self.set_sizes =
        refine ⟨_, rfl, h, _, dx, _, rfl, ho3, T.cl_House, T.n_House_set_sizes, hlen, ?_⟩
        have neL : L ≠ h := fun e => by rw [e, ho3] at cL3; cases cL3
        have neM : M ≠ h := fun e => by rw [e, ho3] at cM3; cases cM3
        have neS : S ≠ h := fun e => by rw [e, ho3] at cS; cases cS
        have b04 : But h H (upd H3 h (.ins T.C_House dx (putF "set_sizes" (.ref S) fs))) := fun b o e hb => by
          rw [upd_ne hb]
          exact s03 b o e
        have ho4 : upd H3 h (.ins T.C_House dx (putF "set_sizes" (.ref S) fs)) h = some (.ins T.C_House dx (putF "set_sizes" (.ref S) fs)) := upd_same
        have cL4 : upd H3 h (.ins T.C_House dx (putF "set_sizes" (.ref S) fs)) L = some (.lst (nats (List.replicate k 1))) := by rw [upd_ne neL]; exact cL3
        have cM4 : upd H3 h (.ins T.C_House dx (putF "set_sizes" (.ref S) fs)) M = some (.lst (nats (List.replicate k 1))) := by rw [upd_ne neM]; exact cM3
        have cS4 : upd H3 h (.ins T.C_House dx (putF "set_sizes" (.ref S) fs)) S = some (.lst [.ref L, .ref M]) := by rw [upd_ne neS]; exact cS
        have fr4 : ∀ b, upd H3 h (.ins T.C_House dx (putF "set_sizes" (.ref S) fs)) b = none → H b = none := fun b e => by
          have hb : b ≠ h := fun q => by rw [q, upd_same] at e; cases e
          rw [upd_ne hb] at e
          exact s03.free e
        generalize upd H3 h (.ins T.C_House dx (putF "set_sizes" (.ref S) fs)) = H4 at b04 ho4 cL4 cM4 cS4 fr4 ⊢
        -- the relations
        refine ⟨_, rfl, (k : Int), rfl, by omega, by omega, fun D hD => ?_⟩
        rw [show ((k : Int)).toNat = k from Int.toNat_natCast k]
        refine lc_range (lo := 0) (n := k) (fun i Hd => Same H4 Hd ∧ ∃ trs : List Addr, trs.length = i ∧ Hd D = some (.lst (trs.map V.ref)) ∧ D ∉ trs ∧ trs.Nodup ∧ (∀ t ∈ trs, H4 t = none ∧ Hd t = some (.lst [.int 0]))) ⟨Same.new hD, [], rfl, upd_same, by simp, List.nodup_nil, (fun t ht => by cases ht)⟩ ?_ ?_
        · rintro i Hd hi ⟨s5, trs, hlt, dD, hnD, hnd, hts⟩
          refine ⟨rfl, ?_⟩
          refine ⟨(by show 1 ≤ sizeLine; decide), fun t ht => ?_⟩
          have hDt : D ≠ t := ne_of_none dD ht
          have htn : t ∉ trs := fun q => by rw [(hts t q).2] at ht; cases ht
          refine ⟨_, (by rw [upd_ne hDt]; exact dD), (by rw [List.length_map, hlt]; exact small1000 (by omega)), ?_, trs ++ [t], by rw [List.length_append, hlt]; rfl, ?_, ?_, ?_, ?_⟩
          · intro b o e
            rw [upd_ne (ne_of_none e hD), upd_ne (ne_of_none (s5 b o e) ht)]
            exact s5 b o e
          · rw [upd_same, List.map_append]
            rfl
          · intro q
            rcases List.mem_append.mp q with q | q
            · exact hnD q
            · exact hDt (List.mem_singleton.mp q)
          · rw [List.nodup_append]
            refine ⟨hnd, by simp, fun a ha b hb => ?_⟩
            rw [List.mem_singleton.mp hb]
            exact fun q => htn (by rw [← q]; exact ha)
          · intro u hu
            rcases List.mem_append.mp hu with hu | hu
            · have uD : u ≠ D := fun q => hnD (by rw [← q]; exact hu)
              have ut : u ≠ t := fun q => htn (by rw [← q]; exact hu)
              rw [upd_ne uD, upd_ne ut]
              exact hts u hu
            · rw [List.mem_singleton.mp hu, upd_ne hDt.symm, upd_same]
              exact ⟨s5.free ht, rfl⟩
        · rintro Hd ⟨s5, trs, hlt, dD, hnD, hnd, hts⟩
          have ho5 := s5 _ _ ho4
          refine ⟨_, rfl, h, _, dx, _, rfl, ho5, T.cl_House, T.n_House_told_relations, hlen2 S, ?_⟩
          rw [hput S D]
          refine ⟨(by show 1 ≤ sizeLine; decide), fun l hl => ?_⟩
          have cL5 := s5 _ _ cL4
          have cM5 := s5 _ _ cM4
          have cS5 := s5 _ _ cS4
          have fin : ∀ b o, b ≠ h → Hd b = some o → upd (upd Hd h (.ins T.C_House dx (hsF S D))) l (.lst [.int 0]) b = some o := fun b o hb e => by
            have e1 : upd Hd h (.ins T.C_House dx (hsF S D)) b = some o := by rw [upd_ne hb]; exact e
            rw [upd_ne (ne_of_none e1 hl)]
            exact e1
          have hhl : h ≠ l := fun q => by rw [← q, upd_same] at hl; cases hl
          have neD : D ≠ h := fun q => by rw [q, ho5] at dD; cases dD
          have net : ∀ t ∈ trs, t ≠ h := fun t ht q => by
            have := (hts t ht).2
            rw [q, ho5] at this
            cases this
          refine kQ _ l ⟨dx, S, D, L, M, trs, ?_⟩ ?_ (fr4 l (s5.free (by rw [upd_ne hhl.symm] at hl; exact hl))) upd_same
          · refine ⟨(by rw [upd_ne hhl, upd_same]), fin _ _ neS cS5, ?_, ?_, fin _ _ neD dD, ?_, ?_, ?_, ?_, ?_, hLM, ?_, ?_, hnd, .inl rfl, .inr fS, .inr (fr4 _ hD), .inr fL, .inr fM, fun t ht => .inr (fr4 t (hts t ht).1)⟩
            · rw [fin _ _ neL cL5]
              simp
            · rw [fin _ _ neM cM5]
              simp
            · rw [hlt]
              simp
            · intro i t e
              have hi : i < k := by
                have := (List.getElem?_eq_some_iff.mp e).1
                omega
              rw [relL_fresh k i hi]
              have ht := List.mem_of_getElem? e
              exact fin _ _ (net t ht) (hts t ht).2
            · simp
              omega
            · simp
              omega
            · intro x hx
              have := List.eq_of_mem_replicate hx
              subst this
              exact ⟨by decide, by decide⟩
            · intro q
              have := (hts L q).1
              rw [cL4] at this
              cases this
            · intro q
              have := (hts M q).1
              rw [cM4] at this
              cases this
          · intro b o e hb
            exact fin b o hb (s5 _ _ (b04 b o e hb))
end
end FC
namespace FC
open PySem PySem.Spec PyProof.Rows L2
/-! ### the house: sets, relate -/
theorem getD_setG {α : Type} {l : List α} {i j : Nat} {a d : α} (hi : i < l.length) : (l.set i a).getD j d = if i = j then a else l.getD j d := by
  rw [List.getD_eq_getElem?_getD, List.getElem?_set, List.getD_eq_getElem?_getD]
  by_cases c : i = j
  · rw [if_pos c, if_pos c, if_pos hi]
    rfl
  · rw [if_neg c, if_neg c]
theorem map_set_same {α β : Type} {l : List α} {f : α → β} {i : Nat} {a d : α} (h : f a = f (l.getD i d)) : (l.set i a).map f = l.map f := by
  apply List.ext_getElem?
  intro j
  rw [List.getElem?_map, List.getElem?_map, List.getElem?_set]
  by_cases c : i = j
  · subst c
    rw [if_pos rfl]
    by_cases q : i < l.length
    · rw [if_pos q, List.getElem?_eq_getElem q]
      show some (f a) = some (f l[i])
      rw [h, List.getD_eq_getElem?_getD, List.getElem?_eq_getElem q]
      rfl
    · rw [if_neg q, List.getElem?_eq_none (by omega)]
  · rw [if_neg c]
/-- a variable's relation as marks -/
def relV (e : Nat × Nat × List (Nat × Nat)) : List Nat := (List.range e.1).map fun x => markN e.2.1 fun y => e.2.2.contains (x, y)
theorem relV_eq (s : Pa05.State) (i : Nat) : relL s.n s.m s.r (.var i) = relV (s.sets.getD i (0, 0, [])) := rfl
theorem relV_len (e : Nat × Nat × List (Nat × Nat)) : (relV e).length = e.1 := by
  unfold relV
  rw [List.length_map, List.length_range]
theorem relV_at {e : Nat × Nat × List (Nat × Nat)} {x : Nat} (hx : x < e.1) : (relV e)[x]? = some (markN e.2.1 fun y => e.2.2.contains (x, y)) := by
  unfold relV
  rw [List.getElem?_map, List.getElem?_range hx]
  rfl
theorem markN_none (q : Nat) : markN q (fun _ => false) = 0 := eq_bits fun y => by
  rw [bit_markN, Bool.and_false, Nat.zero_testBit]
theorem relV_empty (n m : Nat) : relV (n, m, []) = List.replicate n 0 := by
  apply List.ext_getElem?
  intro j
  by_cases c : j < n
  · rw [relV_at (e := (n, m, [])) c, List.getElem?_replicate, if_pos c]
    exact congrArg some (markN_none m)
  · rw [List.getElem?_eq_none (by rw [relV_len]; exact Nat.le_of_not_lt c), List.getElem?_replicate, if_neg c]
theorem relV_put {n m x y : Nat} {l : List (Nat × Nat)} (hx : x < n) (hy : y < m) : relV (n, m, (x, y) :: l) = (relV (n, m, l)).set x ((markN m fun z => l.contains (x, z)) ||| 2 ^ y) := by
  apply List.ext_getElem?
  intro j
  by_cases c : j < n
  · rw [relV_at (e := (n, m, (x, y) :: l)) c, List.getElem?_set, relV_len]
    show some (markN m fun z => ((x, y) :: l).contains (j, z)) = if x = j then if x < n then some _ else none else _
    by_cases q : x = j
    · subst q
      rw [if_pos rfl, if_pos hx]
      refine congrArg some (eq_bits fun z => ?_)
      rw [bit_markN, Nat.testBit_or, bit_markN, Nat.testBit_two_pow, List.contains_cons]
      by_cases e : z = y
      · subst e
        simp [hy]
      · have e1 : ((x, z) == (x, y)) = false := by simpa using e
        have e2 : decide (y = z) = false := decide_eq_false (Ne.symm e)
        rw [e1, e2, Bool.false_or, Bool.or_false]
    · rw [if_neg q, relV_at (e := (n, m, l)) c]
      refine congrArg some (markN_congr fun z _ => ?_)
      have e1 : ((j, z) == (x, y)) = false := by
        simp only [beq_eq_false_iff_ne, ne_eq, Prod.mk.injEq, not_and]
        intro h
        exact absurd h.symm q
      rw [List.contains_cons, e1, Bool.false_or]
  · rw [List.getElem?_eq_none (by rw [relV_len]; exact Nat.le_of_not_lt c), List.getElem?_eq_none (by rw [List.length_set, relV_len]; exact Nat.le_of_not_lt c)]
/-- all but what is the house's own stays -/
def Fr (F : Addr → Prop) (H H' : Hp) : Prop := ∀ b o, H b = some o → ¬ F b → H' b = some o
theorem Same.fr {F : Addr → Prop} {H H' : Hp} (s : Same H H') : Fr F H H' := fun b o e _ => s b o e
theorem HouseIs.wide {K : PySem.W.Frag} {mg : Str → Option Value} {T : Txt K mg} {H : Hp} {h : Addr} {s : Pa05.State} {F F' : Addr → Prop} {dx S R L M : Addr} {trs : List Addr} (x : HouseIs T H h s F dx S R L M trs) (e : ∀ b, F b → F' b) : HouseIs T H h s F' dx S R L M trs :=
  ⟨x.obj, x.sz, x.left, x.right, x.rel, x.len, x.rels, x.k1, x.k3, x.n3, x.lm, x.lt, x.mt, x.nd, e _ x.fh, e _ x.fS, e _ x.fR, e _ x.fL, e _ x.fM, fun t ht => e _ (x.ft t ht)⟩
theorem HouseAt.wide {K : PySem.W.Frag} {mg : Str → Option Value} {T : Txt K mg} {H : Hp} {h : Addr} {s : Pa05.State} {F F' : Addr → Prop} (x : HouseAt T H h s F) (e : ∀ b, F b → F' b) : HouseAt T H h s F' := by
  obtain ⟨dx, S, R, L, M, trs, x⟩ := x
  exact ⟨dx, S, R, L, M, trs, x.wide e⟩
theorem HouseIs.ent {K : PySem.W.Frag} {mg : Str → Option Value} {T : Txt K mg} {H : Hp} {h : Addr} {s : Pa05.State} {F : Addr → Prop} {dx S R L M : Addr} {trs : List Addr} (x : HouseIs T H h s F dx S R L M trs) {i : Nat} (hi : i < s.sets.length) : s.n i ≤ 3 ∧ s.m i ≤ 3 := by
  have e : s.sets.getD i (0, 0, []) = s.sets[i] := by
    rw [List.getD_eq_getElem?_getD, List.getElem?_eq_getElem hi]
    rfl
  have := x.n3 _ (List.getElem_mem hi)
  unfold Pa05.State.n Pa05.State.m
  rw [e]
  exact this
theorem nats_not_ref {l : List Nat} {a : Addr} {r : List V} (h : nats l = .ref a :: r) : False := by
  cases l with
  | nil => cases h
  | cons x l => cases h
theorem nodup_set {b : Addr} : ∀ {l : List Addr} {i : Nat}, l.Nodup → b ∉ l → (l.set i b).Nodup
  | [], i, h, _ => h
  | a :: l, 0, h, hb => by
    show (b :: l).Nodup
    rw [List.nodup_cons] at h ⊢
    exact ⟨fun q => hb (List.mem_cons_of_mem _ q), h.2⟩
  | a :: l, i + 1, h, hb => by
    show (a :: l.set i b).Nodup
    rw [List.nodup_cons] at h ⊢
    refine ⟨fun q => ?_, nodup_set h.2 (fun q => hb (List.mem_cons_of_mem _ q))⟩
    rcases List.mem_or_eq_of_mem_set q with q | q
    · exact h.1 q
    · exact hb (by rw [← q]; exact List.mem_cons_self ..)
/-- its parts lie apart -/
structure Apart (H : Hp) (h S R L M : Addr) (trs : List Addr) : Prop where
  Sh : S ≠ h
  Rh : R ≠ h
  Lh : L ≠ h
  Mh : M ≠ h
  SL : S ≠ L
  SM : S ≠ M
  RL : R ≠ L
  RM : R ≠ M
  RS : R ≠ S
  ML : M ≠ L
  t : ∀ t ∈ trs, t ≠ h ∧ t ≠ S ∧ t ≠ R ∧ t ≠ L ∧ t ≠ M
theorem HouseIs.apart {K : PySem.W.Frag} {mg : Str → Option Value} {T : Txt K mg} {H : Hp} {h : Addr} {s : Pa05.State} {F : Addr → Prop} {dx S R L M : Addr} {trs : List Addr} (x : HouseIs T H h s F dx S R L M trs) : Apart H h S R L M trs := by
  have ho := x.obj
  have hS := x.sz
  have hL := x.left
  have hM := x.right
  have hR := x.rel
  obtain ⟨t0, tr, et⟩ : ∃ t0 tr, trs = t0 :: tr := by
    cases e : trs with
    | nil =>
      have h1 := x.len
      have h2 := x.k1
      rw [e] at h1
      simp at h1
      omega
    | cons a b => exact ⟨a, b, rfl⟩
  have hR' : H R = some (.lst (.ref t0 :: tr.map V.ref)) := by rw [hR, et]; rfl
  have lsts : ∀ {a b : Addr} {xs ys : List V}, H a = some (.lst xs) → H b = some (.lst ys) → a = b → xs = ys := fun {a b xs ys} ha hb e => by
    rw [e, hb] at ha
    exact (HO.lst.inj (Option.some.inj ha)).symm
  refine ⟨?_, ?_, ?_, ?_, ?_, ?_, ?_, ?_, ?_, ?_, ?_⟩
  · intro e; rw [e, ho] at hS; cases hS
  · intro e; rw [e, ho] at hR; cases hR
  · intro e; rw [e, ho] at hL; cases hL
  · intro e; rw [e, ho] at hM; cases hM
  · exact fun e => nats_not_ref (lsts hS hL e).symm
  · exact fun e => nats_not_ref (lsts hS hM e).symm
  · exact fun e => nats_not_ref (lsts hR' hL e).symm
  · exact fun e => nats_not_ref (lsts hR' hM e).symm
  · intro e
    have q := lsts hR' hS e
    have q1 : t0 = L := by
      have := (List.cons.inj q).1
      exact V.ref.inj this
    exact x.lt (by rw [et, q1]; exact List.mem_cons_self ..)
  · exact x.lm.symm
  · intro t ht
    obtain ⟨i, hi⟩ := List.getElem?_of_mem ht
    have ht' := x.rels i t hi
    refine ⟨?_, ?_, ?_, ?_, ?_⟩
    · intro e; rw [e, ho] at ht'; cases ht'
    · exact fun e => nats_not_ref (lsts ht' hS e)
    · exact fun e => nats_not_ref (lsts ht' hR' e)
    · exact fun e => x.lt (by rw [← e]; exact ht)
    · exact fun e => x.mt (by rw [← e]; exact ht)
section
variable {P : Program} {w : World} {K : PySem.W.Frag} {mg : Str → Option Value} {base : Heap}
def sp_House_sets (T : Txt K mg) : Sp := fun vs H Q E => ∃ (h : Addr) (s : Pa05.State) (F : Addr → Prop) (i n m : Nat), vs = [.ref h, .int (i : Int), .int (n : Int), .int (m : Int)] ∧ HouseAt T H h s F ∧
  ((s.k ≤ i ∨ 3 < n ∨ 3 < m) → E (.ref T.C_Unfit) none H) ∧
  (¬ (s.k ≤ i ∨ 3 < n ∨ 3 < m) → ∀ (H' : Hp) (l : Addr), HouseAt T H' h ⟨s.sets.set i (n, m, [])⟩ (fun b => F b ∨ H b = none) → Fr F H H' → H l = none → H' l = some (.lst [.int 0]) → Q (.ref l) H')
theorem ok_House_sets (T : Txt K mg) : FnOk P w K mg base (L2.CX P w) 3 T.f_House_sets T.fd_House_sets ["self", "variable", "left_size", "right_size"] (sp_House_sets T) := by
  refine T.F_House_sets.okX sc_House_sets (fun vs H Q E h => ?_) (fun cdv A outer s H vs Q E hr h => ⟨_, (pss_cons (ps_if (PW.pt (pw_or (pt_cmpR op_ge (pv 1) (pe_meth0 (pv 0) T.cl_House T.m_House_variables (ok_House_variables T) (hr.mono (by decide)) T.b_House_variables .nil pass0) (nomark _)) (pw_or (pt_cmpR op_gt (pv 2) (pe_cst rfl T.g_LARGEST_SET) (nomark _)) (pw_or1 (pt_cmpR op_gt (pv 3) (pe_cst rfl T.g_LARGEST_SET) (nomark _))))))
      (pss_one (ps_raise rfl (takes_of rfl rfl rfl rfl) (pmk_own0 PySem.F.excBase_Exception T.x_Unfit T.g_Unfit T.k_Unfit (raises_own T.b_Unfit T.t_Unfit) rfl)))
      pss_nil)
    (pss_cons (ps_asg (pv 2) (pg_sub (pe_ix ix_list (pe_fld (pv 0) rfl) pe_int (fun _ _ => rfl)) (pv 1) set_list))
    (pss_cons (ps_asg (pv 3) (pg_sub (pe_ix ix_list (pe_fld (pv 0) rfl) pe_int (fun _ _ => rfl)) (pv 1) set_list))
    (pss_cons (ps_asg (pe_op op_rep (pe_lst (pa_cons pe_int pa_nil)) (pv 2)) (pg_sub (pe_fld (pv 0) rfl) (pv 1) set_list))
    (pss_one (ps_ret (pe_lst (pa_cons pe_int pa_nil)))))))), ?_⟩)
  · obtain ⟨h, s, F, i, n, m, rfl, _⟩ := h
    rfl
  · obtain ⟨h, s, F, i, n, m, rfl, ⟨dx, S, R, L, M, trs, x⟩, kE, kQ⟩ := h
    refine ⟨_, rfl, _, rfl, h, dx, _, rfl, x.obj, hsF_no S R, h, dx, S, R, trs, rfl, x.obj, x.rel, _, _, rfl, rfl, _, rfl, ?_⟩
    have xl := x.len
    by_cases c1 : s.sets.length ≤ i
    · exact if_true_of (decide_eq_true (by omega)) (kE (.inl c1))
    refine if_false_of (decide_eq_false (by omega)) ?_
    refine ⟨_, rfl, _, _, rfl, rfl, _, rfl, ?_⟩
    by_cases c2 : 3 < n
    · exact if_true_of (decide_eq_true (by omega)) (kE (.inr (.inl c2)))
    refine if_false_of (decide_eq_false (by omega)) ?_
    refine ⟨_, rfl, _, _, rfl, rfl, _, rfl, ?_⟩
    by_cases c3 : 3 < m
    · exact if_true_of (decide_eq_true (by omega)) (kE (.inr (.inr c3)))
    refine if_false_of (decide_eq_false (by omega)) ?_
    have kQ := kQ (by
      rintro (q | q | q)
      · exact c1 q
      · exact c2 q
      · exact c3 q)
    have hi : i < s.sets.length := by omega
    have hlm := x.lm
    -- self.set_sizes[0][variable] = left_size
    refine ⟨_, rfl, _, rfl, h, _, dx, _, _, rfl, x.obj, T.cl_House, T.n_House_set_sizes, hsF_sizes S R, S, _, _, _, rfl, rfl, SqL.of x.sz, atI_nat (j := 0) rfl, _, rfl, L, _, _, i, rfl, rfl, x.left, ixN_nat (by rw [nats_length, List.length_map]; exact hi), ?_⟩
    rw [nats_set]
    have ap := x.apart
    have c1L : upd H L (.lst (nats ((s.sets.map fun x => x.1).set i n))) L = some (.lst (nats ((s.sets.map fun x => x.1).set i n))) := upd_same
    have k1 : ∀ b o, b ≠ L → H b = some o → upd H L (.lst (nats ((s.sets.map fun x => x.1).set i n))) b = some o := fun b o hb e => by rw [upd_ne hb]; exact e
    have n1 : ∀ b, upd H L (.lst (nats ((s.sets.map fun x => x.1).set i n))) b = none → H b = none := fun b e => by
      have hb : b ≠ L := fun q => by rw [q, upd_same] at e; cases e
      rw [upd_ne hb] at e
      exact e
    generalize upd H L (.lst (nats ((s.sets.map fun x => x.1).set i n))) = H1 at c1L k1 n1 ⊢
    -- self.set_sizes[1][variable] = right_size
    refine ⟨_, rfl, _, rfl, h, _, dx, _, _, rfl, k1 _ _ ap.Lh.symm x.obj, T.cl_House, T.n_House_set_sizes, hsF_sizes S R, S, _, _, _, rfl, rfl, SqL.of (k1 _ _ ap.SL x.sz), atI_nat (j := 1) rfl, _, rfl, M, _, _, i, rfl, rfl, k1 _ _ ap.ML x.right, ixN_nat (by rw [nats_length, List.length_map]; exact hi), ?_⟩
    rw [nats_set]
    have c2M : upd H1 M (.lst (nats ((s.sets.map fun x => x.2.1).set i m))) M = some (.lst (nats ((s.sets.map fun x => x.2.1).set i m))) := upd_same
    have c2L : upd H1 M (.lst (nats ((s.sets.map fun x => x.2.1).set i m))) L = some (.lst (nats ((s.sets.map fun x => x.1).set i n))) := by rw [upd_ne ap.ML.symm]; exact c1L
    have k2 : ∀ b o, b ≠ L → b ≠ M → H b = some o → upd H1 M (.lst (nats ((s.sets.map fun x => x.2.1).set i m))) b = some o := fun b o hb hc e => by rw [upd_ne hc]; exact k1 b o hb e
    have n2 : ∀ b, upd H1 M (.lst (nats ((s.sets.map fun x => x.2.1).set i m))) b = none → H b = none := fun b e => by
      have hb : b ≠ M := fun q => by rw [q, upd_same] at e; cases e
      rw [upd_ne hb] at e
      exact n1 b e
    generalize upd H1 M (.lst (nats ((s.sets.map fun x => x.2.1).set i m))) = H2 at c2M c2L k2 n2 ⊢
    -- self.told_relations[variable] = [0] * left_size
    refine ⟨(by show 1 ≤ sizeLine; decide), fun l1 hl1 => ?_⟩
    refine ⟨_, rfl, l1, _, _, rfl, rfl, upd_same, by omega, by omega, ?_, fun B hB => ?_⟩
    · show 1 * ((n : Int)).toNat ≤ sizeLine
      exact Nat.le_of_lt (small1000 (by omega))
    have cB : upd (upd H2 l1 (.lst [.int 0])) B (.lst (List.replicate ((n : Int)).toNat [V.int 0]).flatten) B = some (.lst (nats (List.replicate n 0))) := by
      rw [upd_same, Int.toNat_natCast]
      exact congrArg (fun z => some (HO.lst z)) (nats_rep n 0)
    have s3 : Same H2 (upd (upd H2 l1 (.lst [.int 0])) B (.lst (List.replicate ((n : Int)).toNat [V.int 0]).flatten)) := Same.trans (Same.new hl1) (Same.new hB)
    have hB2 : H2 B = none := Same.free (Same.new hl1) hB
    generalize upd (upd H2 l1 (.lst [.int 0])) B (.lst (List.replicate ((n : Int)).toNat [V.int 0]).flatten) = H3 at cB s3 ⊢
    have hBH : H B = none := n2 B hB2
    refine ⟨_, rfl, h, _, dx, _, _, rfl, s3 _ _ (k2 _ _ ap.Lh.symm ap.Mh.symm x.obj), T.cl_House, T.n_House_told_relations, hsF_told S R, _, rfl, R, _, _, i, rfl, rfl, s3 _ _ (k2 _ _ ap.RL ap.RM x.rel), ixN_nat (by rw [List.length_map, xl]; exact hi), ?_⟩
    rw [← List.map_set (f := V.ref) (l := trs) (i := i) (a := B)]
    have c4R : upd H3 R (.lst ((trs.set i B).map V.ref)) R = some (.lst ((trs.set i B).map V.ref)) := upd_same
    have hBR : B ≠ R := fun q => by have := x.rel; rw [← q, hBH] at this; cases this
    have c4B : upd H3 R (.lst ((trs.set i B).map V.ref)) B = some (.lst (nats (List.replicate n 0))) := by rw [upd_ne hBR]; exact cB
    have c4L : upd H3 R (.lst ((trs.set i B).map V.ref)) L = some (.lst (nats ((s.sets.map fun x => x.1).set i n))) := by rw [upd_ne ap.RL.symm]; exact s3 _ _ c2L
    have c4M : upd H3 R (.lst ((trs.set i B).map V.ref)) M = some (.lst (nats ((s.sets.map fun x => x.2.1).set i m))) := by rw [upd_ne ap.RM.symm]; exact s3 _ _ c2M
    have k4 : ∀ b o, b ≠ L → b ≠ M → b ≠ R → H b = some o → upd H3 R (.lst ((trs.set i B).map V.ref)) b = some o := fun b o hb hc hd e => by rw [upd_ne hd]; exact s3 _ _ (k2 b o hb hc e)
    have n4 : ∀ b, upd H3 R (.lst ((trs.set i B).map V.ref)) b = none → H b = none := fun b e => by
      have hb : b ≠ R := fun q => by rw [q, upd_same] at e; cases e
      rw [upd_ne hb] at e
      exact n2 b (s3.free e)
    generalize upd H3 R (.lst ((trs.set i B).map V.ref)) = H4 at c4R c4B c4L c4M k4 n4 ⊢
    refine ⟨(by show 1 ≤ sizeLine; decide), fun l hl => ?_⟩
    have s5 : Same H4 (upd H4 l (.lst [.int 0])) := Same.new hl
    have k5 : ∀ b o, b ≠ L → b ≠ M → b ≠ R → H b = some o → upd H4 l (.lst [.int 0]) b = some o := fun b o hb hc hd e => s5 _ _ (k4 b o hb hc hd e)
    refine kQ _ l ⟨dx, S, R, L, M, trs.set i B, ?_⟩ ?_ (n4 l hl) upd_same
    · refine ⟨k5 _ _ ap.Lh.symm ap.Mh.symm ap.Rh.symm x.obj, k5 _ _ ap.SL ap.SM ap.RS.symm x.sz, ?_, ?_, s5 _ _ c4R, ?_, ?_, ?_, ?_, ?_, x.lm, ?_, ?_, ?_, .inl x.fh, .inl x.fS, .inl x.fR, .inl x.fL, .inl x.fM, ?_⟩
      · rw [s5 _ _ c4L]
        show _ = some (HO.lst (nats ((s.sets.set i (n, m, [])).map fun x => x.1)))
        rw [List.map_set]
      · rw [s5 _ _ c4M]
        show _ = some (HO.lst (nats ((s.sets.set i (n, m, [])).map fun x => x.2.1)))
        rw [List.map_set]
      · show (trs.set i B).length = (s.sets.set i (n, m, [])).length
        rw [List.length_set, List.length_set]
        exact xl
      · intro j a ha
        rw [relV_eq]
        show _ = some (HO.lst (nats (relV ((s.sets.set i (n, m, [])).getD j (0, 0, [])))))
        rw [getD_setG hi]
        rw [List.getElem?_set] at ha
        by_cases q : i = j
        · rw [if_pos q, if_pos (by omega)] at ha
          cases ha
          rw [if_pos q, relV_empty]
          exact s5 _ _ c4B
        · rw [if_neg q] at ha
          rw [if_neg q, ← relV_eq]
          obtain ⟨a1, a2, a3, a4, a5⟩ := ap.t a (List.mem_of_getElem? ha)
          exact k5 _ _ a4 a5 a3 (x.rels j a ha)
      · show 1 ≤ (s.sets.set i (n, m, [])).length
        rw [List.length_set]
        exact x.k1
      · show (s.sets.set i (n, m, [])).length ≤ 3
        rw [List.length_set]
        exact x.k3
      · intro y hy
        rcases List.mem_or_eq_of_mem_set hy with q | q
        · exact x.n3 y q
        · rw [q]
          exact ⟨by show n ≤ 3; omega, by show m ≤ 3; omega⟩
      · intro q
        rcases List.mem_or_eq_of_mem_set q with q | q
        · exact x.lt q
        · have := x.left
          rw [q, hBH] at this
          cases this
      · intro q
        rcases List.mem_or_eq_of_mem_set q with q | q
        · exact x.mt q
        · have := x.right
          rw [q, hBH] at this
          cases this
      · refine nodup_set x.nd fun q => ?_
        obtain ⟨j, hj⟩ := List.getElem?_of_mem q
        have := x.rels j B hj
        rw [hBH] at this
        cases this
      · intro t ht
        rcases List.mem_or_eq_of_mem_set ht with q | q
        · exact .inl (x.ft t q)
        · rw [q]
          exact .inr hBH
    · intro b o e hb
      exact k5 b o (fun q => hb (by rw [q]; exact x.fL)) (fun q => hb (by rw [q]; exact x.fM)) (fun q => hb (by rw [q]; exact x.fR)) e
end
end FC
namespace FC
open PySem PySem.Spec PyProof.Rows L2
theorem nodup_get {a : Addr} : ∀ {l : List Addr}, l.Nodup → ∀ {i j : Nat}, l[i]? = some a → l[j]? = some a → i = j
  | [], _, i, j, h, _ => by simp at h
  | b :: l, hn, 0, 0, _, _ => rfl
  | b :: l, hn, 0, j + 1, h, h' => by
    rw [List.nodup_cons] at hn
    have e : b = a := Option.some.inj h
    rw [e] at hn
    exact absurd (List.mem_of_getElem? (show l[j]? = some a from h')) hn.1
  | b :: l, hn, i + 1, 0, h, h' => by
    rw [List.nodup_cons] at hn
    have e : b = a := Option.some.inj h'
    rw [e] at hn
    exact absurd (List.mem_of_getElem? (show l[i]? = some a from h)) hn.1
  | b :: l, hn, i + 1, j + 1, h, h' => by
    rw [List.nodup_cons] at hn
    exact congrArg (· + 1) (nodup_get hn.2 (show l[i]? = some a from h) (show l[j]? = some a from h'))
theorem n_at {s : Pa05.State} {i : Nat} (hi : i < s.sets.length) : (s.sets.map fun x => x.1)[i]? = some (s.n i) := by
  rw [← n_num s]
  exact numOf_at (by rw [List.length_map]; exact hi)
theorem m_at {s : Pa05.State} {i : Nat} (hi : i < s.sets.length) : (s.sets.map fun x => x.2.1)[i]? = some (s.m i) := by
  rw [← m_num s]
  exact numOf_at (by rw [List.length_map]; exact hi)
theorem type_row (s : Pa05.State) (r : List Nat) : s.type r = rowTy s.sets.length r := rfl
section
variable {P : Program} {w : World} {K : PySem.W.Frag} {mg : Str → Option Value} {base : Heap}
def sp_House_relate (T : Txt K mg) : Sp := fun vs H Q E => ∃ (h : Addr) (s : Pa05.State) (F : Addr → Prop) (i x y : Nat), vs = [.ref h, .int (i : Int), .int (x : Int), .int (y : Int)] ∧ HouseAt T H h s F ∧
  ((s.k ≤ i ∨ s.n i ≤ x ∨ s.m i ≤ y) → E (.ref T.C_Unfit) none H) ∧
  (¬ (s.k ≤ i ∨ s.n i ≤ x ∨ s.m i ≤ y) → s.r i x y = true → ∀ (H' : Hp) (l : Addr), Same H H' → H l = none → H' l = some (.lst [.int 0]) → Q (.ref l) H') ∧
  (¬ (s.k ≤ i ∨ s.n i ≤ x ∨ s.m i ≤ y) → ¬ s.r i x y = true → ∀ (H' : Hp) (l : Addr), HouseAt T H' h ⟨s.sets.set i (s.n i, s.m i, (x, y) :: (s.sets.getD i (0, 0, [])).2.2)⟩ (fun b => F b ∨ H b = none) → Fr F H H' → H l = none → H' l = some (.lst [.int 1]) → Q (.ref l) H')
theorem ok_House_relate (T : Txt K mg) : FnOk P w K mg base (L2.CX P w) 3 T.f_House_relate T.fd_House_relate ["self", "variable", "left", "right"] (sp_House_relate T) := by
  refine T.F_House_relate.okX sc_House_relate (fun vs H Q E h => ?_) (fun cdv A outer s H vs Q E hr h => ⟨_, (pss_cons (ps_if (pt_cmpR op_ge (pv 1) (pe_meth0 (pv 0) T.cl_House T.m_House_variables (ok_House_variables T) (hr.mono (by decide)) T.b_House_variables .nil pass0) (nomark _))
      (pss_one (ps_raise rfl (takes_of rfl rfl rfl rfl) (pmk_own0 PySem.F.excBase_Exception T.x_Unfit T.g_Unfit T.k_Unfit (raises_own T.b_Unfit T.t_Unfit) rfl)))
      pss_nil)
    (pss_cons (ps_if (PW.pt (pw_or (pt_cmpR op_ge (pv 2) (pe_ix ix_list (pe_ix ix_list (pe_fld (pv 0) rfl) pe_int (fun _ _ => rfl)) (pv 1) (fun _ _ => rfl)) (nomark _)) (pw_or1 (pt_cmpR op_ge (pv 3) (pe_ix ix_list (pe_ix ix_list (pe_fld (pv 0) rfl) pe_int (fun _ _ => rfl)) (pv 1) (fun _ _ => rfl)) (nomark _)))))
      (pss_one (ps_raise rfl (takes_of rfl rfl rfl rfl) (pmk_own0 PySem.F.excBase_Exception T.x_Unfit T.g_Unfit T.k_Unfit (raises_own T.b_Unfit T.t_Unfit) rfl)))
      pss_nil)
    (pss_cons (ps_set (i := 4) sc_House_relate.nd rfl (Or.inl rfl) (pe_ix ix_list (pe_fld (pv 0) rfl) (pv 1) (fun _ _ => rfl)))
    (pss_cons (ps_if (pt_val (pe_call (ok_is_marked T) (hr.mono (by decide)) rfl T.g_is_marked T.k_is_marked T.b_is_marked .nil pass0 (pa_cons (pe_ix ix_list (pv 4) (pv 2) (fun _ _ => rfl)) (pa_cons (pv 3) pa_nil))))
      (pss_one (ps_ret (pe_lst (pa_cons pe_int pa_nil))))
      pss_nil)
    (pss_cons (ps_asg (pe_op op_or (pe_ix ix_list (pv 4) (pv 2) (fun _ _ => rfl)) (pe_op op_shl pe_int (pv 3))) (pg_sub (pv 4) (pv 2) set_list))
    (pss_one (ps_ret (pe_lst (pa_cons pe_int pa_nil))))))))), ?_⟩)
  · obtain ⟨h, s, F, i, n, m, rfl, _⟩ := h
    rfl
  · obtain ⟨h, s, F, i, x, y, rfl, ⟨dx, S, R, L, M, trs, z⟩, kE, k0, k1⟩ := h
    have xl := z.len
    have ap := z.apart
    refine ⟨_, rfl, _, rfl, h, dx, _, rfl, z.obj, hsF_no S R, h, dx, S, R, trs, rfl, z.obj, z.rel, _, _, rfl, rfl, _, rfl, ?_⟩
    by_cases c1 : s.sets.length ≤ i
    · exact if_true_of (decide_eq_true (by omega)) (kE (.inl c1))
    refine if_false_of (decide_eq_false (by omega)) ?_
    have hi : i < s.sets.length := by omega
    have en := z.ent hi
    refine ⟨_, rfl, _, rfl, h, _, dx, _, _, rfl, z.obj, T.cl_House, T.n_House_set_sizes, hsF_sizes S R, S, _, _, _, rfl, rfl, SqL.of z.sz, atI_nat (j := 0) rfl, _, rfl, L, _, _, _, rfl, rfl, SqL.of z.left, atI_nat (nats_at (n_at hi)), _, _, rfl, rfl, _, rfl, ?_⟩
    by_cases c2 : s.n i ≤ x
    · exact if_true_of (decide_eq_true (by omega)) (kE (.inr (.inl c2)))
    refine if_false_of (decide_eq_false (by omega)) ?_
    refine ⟨_, rfl, _, rfl, h, _, dx, _, _, rfl, z.obj, T.cl_House, T.n_House_set_sizes, hsF_sizes S R, S, _, _, _, rfl, rfl, SqL.of z.sz, atI_nat (j := 1) rfl, _, rfl, M, _, _, _, rfl, rfl, SqL.of z.right, atI_nat (nats_at (m_at hi)), _, _, rfl, rfl, _, rfl, ?_⟩
    by_cases c3 : s.m i ≤ y
    · exact if_true_of (decide_eq_true (by omega)) (kE (.inr (.inr c3)))
    refine if_false_of (decide_eq_false (by omega)) ?_
    have good : ¬ (s.k ≤ i ∨ s.n i ≤ x ∨ s.m i ≤ y) := by
      rintro (q | q | q)
      · exact c1 q
      · exact c2 q
      · exact c3 q
    have k0 := k0 good
    have k1 := k1 good
    obtain ⟨t, ht⟩ : ∃ t, trs[i]? = some t := ⟨trs[i]'(by omega), List.getElem?_eq_getElem (by omega)⟩
    have hrel : H t = some (.lst (nats (relV (s.sets.getD i (0, 0, []))))) := z.rels i t ht
    have hx : x < (s.sets.getD i (0, 0, [])).1 := by
      show x < s.n i
      omega
    have hy : y < (s.sets.getD i (0, 0, [])).2.1 := by
      show y < s.m i
      omega
    obtain ⟨a1, a2, a3, a4, a5⟩ := ap.t t (List.mem_of_getElem? ht)
    refine ⟨_, rfl, h, _, dx, _, _, rfl, z.obj, T.cl_House, T.n_House_told_relations, hsF_told S R, _, rfl, R, _, _, .ref t, rfl, rfl, SqL.of z.rel, atI_nat (by rw [List.getElem?_map, ht]; rfl), ?_⟩
    refine ⟨_, rfl, _, rfl, t, _, _, _, rfl, rfl, SqL.of hrel, atI_nat (nats_at (relV_at hx)), _, rfl, _, y, rfl, _, rfl, ?_⟩
    have eb : (markN (s.sets.getD i (0, 0, [])).2.1 fun y => (s.sets.getD i (0, 0, [])).2.2.contains (x, y)).testBit y = s.r i x y := by
      rw [bit_markN, decide_eq_true hy]
      rfl
    by_cases g : s.r i x y = true
    · refine if_true_of (eb.trans g) ?_
      refine ⟨(by show 1 ≤ sizeLine; decide), fun l hl => ?_⟩
      exact k0 g _ l (Same.new hl) hl upd_same
    · refine if_false_of (by rw [eb]; simpa using g) ?_
      have k1 := k1 g
      refine ⟨_, rfl, _, rfl, t, _, _, _, rfl, rfl, SqL.of hrel, atI_nat (nats_at (relV_at hx)), _, rfl, 1, (y : Int), rfl, rfl, ⟨by omega, by omega, by decide⟩, _, _, rfl, rfl, ?_⟩
      refine ⟨_, rfl, _, rfl, t, _, _, x, rfl, rfl, hrel, ixN_nat (by rw [nats_length, relV_len]; exact hx), ?_⟩
      have e3 : (1 : Int) * 2 ^ ((y : Int)).toNat = ((2 ^ y : Nat) : Int) := by
        rw [Int.toNat_natCast, Int.one_mul, Int.natCast_pow]
        rfl
      have e4 : ∀ m : Nat, Builtin.bitOr ((m : Nat) : Int) (1 * 2 ^ ((y : Int)).toNat) = ((m ||| 2 ^ y : Nat) : Int) := fun m => by
        rw [e3, bitOr_nn (Int.natCast_nonneg _) (Int.natCast_nonneg _), Int.toNat_natCast, Int.toNat_natCast]
      dsimp only
      rw [e4, nats_set]
      have e5 : (relV (s.sets.getD i (0, 0, []))).set x ((markN (s.sets.getD i (0, 0, [])).2.1 fun y => (s.sets.getD i (0, 0, [])).2.2.contains (x, y)) ||| 2 ^ y) = relV (s.n i, s.m i, (x, y) :: (s.sets.getD i (0, 0, [])).2.2) := (relV_put (n := s.n i) (m := s.m i) (by omega) (by omega)).symm
      rw [e5]
      have c1t : upd H t (.lst (nats (relV (s.n i, s.m i, (x, y) :: (s.sets.getD i (0, 0, [])).2.2)))) t = some (.lst (nats (relV (s.n i, s.m i, (x, y) :: (s.sets.getD i (0, 0, [])).2.2)))) := upd_same
      have q1 : ∀ b o, b ≠ t → H b = some o → upd H t (.lst (nats (relV (s.n i, s.m i, (x, y) :: (s.sets.getD i (0, 0, [])).2.2)))) b = some o := fun b o hb e => by rw [upd_ne hb]; exact e
      have n1 : ∀ b, upd H t (.lst (nats (relV (s.n i, s.m i, (x, y) :: (s.sets.getD i (0, 0, [])).2.2)))) b = none → H b = none := fun b e => by
        have hb : b ≠ t := fun q => by rw [q, upd_same] at e; cases e
        rw [upd_ne hb] at e
        exact e
      generalize upd H t (.lst (nats (relV (s.n i, s.m i, (x, y) :: (s.sets.getD i (0, 0, [])).2.2)))) = H1 at c1t q1 n1 ⊢
      refine ⟨(by show 1 ≤ sizeLine; decide), fun l hl => ?_⟩
      have s2 : Same H1 (upd H1 l (.lst [.int 1])) := Same.new hl
      have q2 : ∀ b o, b ≠ t → H b = some o → upd H1 l (.lst [.int 1]) b = some o := fun b o hb e => s2 _ _ (q1 b o hb e)
      refine k1 _ l ⟨dx, S, R, L, M, trs, ?_⟩ ?_ (n1 l hl) upd_same
      · refine ⟨q2 _ _ a1.symm z.obj, q2 _ _ a2.symm z.sz, ?_, ?_, q2 _ _ a3.symm z.rel, ?_, ?_, ?_, ?_, ?_, z.lm, z.lt, z.mt, z.nd, .inl z.fh, .inl z.fS, .inl z.fR, .inl z.fL, .inl z.fM, fun t ht => .inl (z.ft t ht)⟩
        · rw [q2 _ _ a4.symm z.left]
          refine congrArg (fun z => some (HO.lst (nats z))) (map_set_same (d := (0, 0, [])) ?_).symm
          rfl
        · rw [q2 _ _ a5.symm z.right]
          refine congrArg (fun z => some (HO.lst (nats z))) (map_set_same (d := (0, 0, [])) ?_).symm
          rfl
        · show trs.length = (s.sets.set i _).length
          rw [List.length_set]
          exact xl
        · intro j a ha
          rw [relV_eq]
          show _ = some (HO.lst (nats (relV ((s.sets.set i _).getD j (0, 0, [])))))
          rw [getD_setG hi]
          by_cases q : i = j
          · subst q
            rw [ht] at ha
            cases ha
            rw [if_pos rfl]
            exact s2 _ _ c1t
          · rw [if_neg q, ← relV_eq]
            have nat_ : a ≠ t := fun e => by
              subst e
              exact q (nodup_get z.nd ht ha)
            exact q2 _ _ nat_ (z.rels j a ha)
        · show 1 ≤ (s.sets.set i _).length
          rw [List.length_set]
          exact z.k1
        · show (s.sets.set i _).length ≤ 3
          rw [List.length_set]
          exact z.k3
        · intro y' hy'
          rcases List.mem_or_eq_of_mem_set hy' with q | q
          · exact z.n3 y' q
          · rw [q]
            exact en
      · intro b o e hb
        exact q2 b o (fun q => hb (by rw [q]; exact z.ft t (List.mem_of_getElem? ht))) e
def sp_House_size (T : Txt K mg) : Sp := fun vs H Q E => ∃ (h l : Addr) (s : Pa05.State) (F : Addr → Prop) (j : Nat) (r : List Nat), vs = [.ref h, .int (j : Int), .ref l] ∧ HouseAt T H h s F ∧ SqL K H l (nats r) ∧
  ((1 < j ∨ s.type r = none) → ∀ H' : Hp, Same H H' → E (.ref T.C_Unfit) none H') ∧
  (∀ a, ¬ 1 < j → s.type r = some a → Pa05.small 256 (s.side j) a = none → ∀ H' : Hp, Same H H' → E (.ref T.C_TooLarge) none H') ∧
  (∀ a c, ¬ 1 < j → s.type r = some a → Pa05.small 256 (s.side j) a = some c → ∀ (H' : Hp) (p : Addr), Same H H' → H p = none → H' p = some (.lst [.int (c : Int)]) → Q (.ref p) H')
theorem ok_House_size (T : Txt K mg) : FnOk P w K mg base (L2.CX P w) 30 T.f_House_size T.fd_House_size ["self", "side", "row"] (sp_House_size T) := by
  refine T.F_House_size.okX sc_House_size (fun vs H Q E h => ?_) (fun cdv A outer s H vs Q E hr h => ⟨_, (pss_cons (ps_if (pt_cmpR op_ge (pv 1) (pe_cst rfl T.g_SIDES) (nomark _))
      (pss_one (ps_raise rfl (takes_of rfl rfl rfl rfl) (pmk_own0 PySem.F.excBase_Exception T.x_Unfit T.g_Unfit T.k_Unfit (raises_own T.b_Unfit T.t_Unfit) rfl)))
      pss_nil)
    (pss_cons (ps_set (i := 3) sc_House_size.nd rfl (Or.inl rfl) (pe_call (ok_read_kind_row T) (hr.mono (by decide)) rfl T.g_read_kind_row T.k_read_kind_row T.b_read_kind_row .nil (passes_call (takes_of rfl rfl rfl rfl) (fun _ _ _ _ h => h)) (pa_cons (pv 2) (pa_cons (pe_meth0 (pv 0) T.cl_House T.m_House_variables (ok_House_variables T) (hr.mono (by decide)) T.b_House_variables .nil pass0) pa_nil))))
    (pss_one (ps_ret (pe_lst (pa_cons (pe_call (ok_kind_size T 20) (hr.mono (by decide)) rfl T.g_kind_size T.k_kind_size T.b_kind_size .nil (passes_call (takes_of rfl rfl rfl rfl) (fun _ _ _ _ h => h)) (pa_cons (pv 3) (pa_cons (pe_ix ix_list (pe_fld (pv 0) rfl) (pv 1) (fun _ _ => rfl)) (pa_cons (pe_cst rfl T.g_LARGEST) pa_nil)))) pa_nil)))))), ?_⟩)
  · obtain ⟨h, l, s, F, j, r, rfl, _⟩ := h
    rfl
  · obtain ⟨h, l, s, F, j, r, rfl, ⟨dx, S, R, L, M, trs, z⟩, hl, kE, kT, kQ⟩ := h
    have xl := z.len
    refine ⟨_, rfl, _, _, rfl, rfl, _, rfl, ?_⟩
    by_cases c1 : 1 < j
    · exact if_true_of (decide_eq_true (by omega)) (kE (.inl c1) H (Same.refl H))
    refine if_false_of (decide_eq_false (by omega)) ?_
    refine ⟨_, rfl, _, rfl, h, dx, _, rfl, z.obj, hsF_no S R, h, dx, S, R, trs, rfl, z.obj, z.rel, l, r, trs.length, rfl, hl, (fun e H1 s1 => ?_), (fun a e H1 q s1 hq ok hd => ?_)⟩
    · rw [xl] at e
      exact kE (.inr e) H1 s1
    · rw [xl] at e ok
      have zz := z.mono s1
      have hj : j = 0 ∨ j = 1 := by omega
      rcases hj with rfl | rfl
      · refine ⟨_, rfl, _, rfl, h, _, dx, _, _, rfl, zz.obj, T.cl_House, T.n_House_set_sizes, hsF_sizes S R, _, rfl, S, _, _, _, rfl, rfl, SqL.of zz.sz, atI_nat (j := 0) rfl, q, L, a, _, 256, rfl, hq, SqL.of zz.left, (by rw [List.length_map]; exact ok), by omega, by decide, (fun e2 => ?_), (fun c e2 => ?_)⟩
        · rw [n_num] at e2
          exact kT a c1 e e2 H1 s1
        · rw [n_num] at e2
          refine ⟨(by show 1 ≤ sizeLine; decide), fun p hp => ?_⟩
          exact kQ a c c1 e e2 _ p (Same.trans s1 (Same.new hp)) (s1.free hp) upd_same
      · refine ⟨_, rfl, _, rfl, h, _, dx, _, _, rfl, zz.obj, T.cl_House, T.n_House_set_sizes, hsF_sizes S R, _, rfl, S, _, _, _, rfl, rfl, SqL.of zz.sz, atI_nat (j := 1) rfl, q, M, a, _, 256, rfl, hq, SqL.of zz.right, (by rw [List.length_map]; exact ok), by omega, by decide, (fun e2 => ?_), (fun c e2 => ?_)⟩
        · rw [m_num] at e2
          exact kT a c1 e e2 H1 s1
        · rw [m_num] at e2
          refine ⟨(by show 1 ≤ sizeLine; decide), fun p hp => ?_⟩
          exact kQ a c c1 e e2 _ p (Same.trans s1 (Same.new hp)) (s1.free hp) upd_same
def sp_House_relation_of (T : Txt K mg) : Sp := fun vs H Q E => ∃ (h q : Addr) (s : Pa05.State) (F : Addr → Prop) (a : Pa05.Ty) (top heavy : Nat), vs = [.ref h, .ref q, .int (top : Int), .int (heavy : Int)] ∧ HouseAt T H h s F ∧ KindAt H a q ∧ TyOk s.sets.length a ∧ dp a ≤ 20 ∧ top ≤ 256 ∧
  (fits top heavy s.n s.m a = false → E (.ref T.C_TooLarge) none H) ∧
  (fits top heavy s.n s.m a = true → ∀ (H' : Hp) (l : Addr), Same H H' → H' l = some (.lst (nats (relL s.n s.m s.r a))) → Q (.ref l) H')
theorem fits_small {top heavy : Nat} {n m : Nat → Nat} {a : Pa05.Ty} (h : fits top heavy n m a = true) : Pa05.small top n a = some (a.card n) ∧ Pa05.small top m a = some (a.card m) ∧ a.work (fun b => b.card n * b.card m) ≤ heavy := by
  unfold fits at h
  rw [Bool.and_eq_true, Bool.and_eq_true, decide_eq_true_eq] at h
  obtain ⟨⟨h1, h2⟩, h3⟩ := h
  obtain ⟨x, hx⟩ := Option.isSome_iff_exists.mp h1
  obtain ⟨y, hy⟩ := Option.isSome_iff_exists.mp h2
  exact ⟨by rw [small_card _ _ _ _ hx]; exact hx, by rw [small_card _ _ _ _ hy]; exact hy, h3⟩
theorem ok_House_relation_of (T : Txt K mg) : FnOk P w K mg base (L2.CX P w) 53 T.f_House_relation_of T.fd_House_relation_of ["self", "kind", "largest", "heaviest"] (sp_House_relation_of T) := by
  refine T.F_House_relation_of.okX sc_House_relation_of (fun vs H Q E h => ?_) (fun cdv A outer s H vs Q E hr h => ⟨_, (pss_cons (ps_expr (pe_call (ok_refuse_too_large T) (hr.mono (by decide)) rfl T.g_refuse_too_large T.k_refuse_too_large T.b_refuse_too_large .nil (passes_call (takes_of rfl rfl rfl rfl) (fun _ _ _ _ h => h)) (pa_cons (pv 1) (pa_cons (pe_ix ix_list (pe_fld (pv 0) rfl) pe_int (fun _ _ => rfl)) (pa_cons (pe_ix ix_list (pe_fld (pv 0) rfl) pe_int (fun _ _ => rfl)) (pa_cons (pv 2) (pa_cons (pv 3) pa_nil)))))))
    (pss_one (ps_ret (pe_call (ok_kind_relation T 20) (hr.mono (by decide)) rfl T.g_kind_relation T.k_kind_relation T.b_kind_relation .nil pass0 (pa_cons (pv 1) (pa_cons (pe_ix ix_list (pe_fld (pv 0) rfl) pe_int (fun _ _ => rfl)) (pa_cons (pe_fld (pv 0) rfl) (pa_cons (pv 2) pa_nil)))))))), ?_⟩)
  · obtain ⟨h, q, s, F, a, top, heavy, rfl, _⟩ := h
    rfl
  · obtain ⟨h, q, s, F, a, top, heavy, rfl, ⟨dx, S, R, L, M, trs, z⟩, hq, ok, hd, htop, kE, kQ⟩ := h
    have xl := z.len
    have okn : TyOk (s.sets.map fun x => x.1).length a := by rw [List.length_map]; exact ok
    have okm : TyOk (s.sets.map fun x => x.2.1).length a := by rw [List.length_map]; exact ok
    rw [← n_num, ← m_num] at kE kQ
    have rels := z.rels
    rw [← n_num, ← m_num] at rels
    refine ⟨_, rfl, _, rfl, h, _, dx, _, _, rfl, z.obj, T.cl_House, T.n_House_set_sizes, hsF_sizes S R, S, _, _, _, rfl, rfl, SqL.of z.sz, atI_nat (j := 0) rfl, _, rfl, h, _, dx, _, _, rfl, z.obj, T.cl_House, T.n_House_set_sizes, hsF_sizes S R, S, _, _, _, rfl, rfl, SqL.of z.sz, atI_nat (j := 1) rfl, _, rfl, _, rfl, q, L, M, a, _, _, top, heavy, rfl, hq, SqL.of z.left, SqL.of z.right, okn, okm, hd, htop, kE, fun e => ?_⟩
    obtain ⟨en, em, _⟩ := fits_small e
    refine ⟨_, rfl, _, rfl, h, _, dx, _, _, rfl, z.obj, T.cl_House, T.n_House_set_sizes, hsF_sizes S R, S, _, _, _, rfl, rfl, SqL.of z.sz, atI_nat (j := 1) rfl, _, rfl, h, _, dx, _, _, rfl, z.obj, T.cl_House, T.n_House_told_relations, hsF_told S R, _, rfl, q, M, R, a, _, _, s.r, top, trs, _, _, rfl, hq, SqL.of z.right, SqL.of z.rel, rels, okm, (by rw [List.length_map]; exact xl), hd, by decide, htop, en, em, ?_⟩
    exact kQ e
end
end FC
namespace FC
open PySem PySem.Spec PyProof.Rows L2
theorem le_line {n : Nat} (h : n ≤ 16777216) : n ≤ sizeLine := by
  rw [sizeLine_eq]
  exact h
theorem lt_line {n : Nat} (h : n < 16777216) : n < sizeLine := by
  rw [sizeLine_eq]
  exact h
theorem card_le {top heavy : Nat} {n m : Nat → Nat} {a : Pa05.Ty} (h : fits top heavy n m a = true) : a.card n ≤ top ∧ a.card m ≤ top := by
  obtain ⟨h1, h2, _⟩ := fits_small h
  exact ⟨small_le _ _ _ _ h1, small_le _ _ _ _ h2⟩
/-- the pairs of the first i on the left -/
def pr (n m : Nat → Nat) (r : Pa05.Rel) (a : Pa05.Ty) (i : Nat) : List (Nat × Nat) := (List.range i).flatMap fun x => ((List.range (a.card m)).filter fun y => a.rel n m r x y).map fun y => (x, y)
theorem pr_all (n m : Nat → Nat) (r : Pa05.Rel) (a : Pa05.Ty) : pr n m r a (a.card n) = Pa05.pairs n m r a := rfl
theorem pr_succ (n m : Nat → Nat) (r : Pa05.Rel) (a : Pa05.Ty) (i : Nat) : pr n m r a (i + 1) = pr n m r a i ++ ((List.range (a.card m)).filter fun y => a.rel n m r i y).map fun y => (i, y) := by
  unfold pr
  rw [List.range_succ, List.flatMap_append, List.flatMap_cons, List.flatMap_nil, List.append_nil]
theorem pr_len (n m : Nat → Nat) (r : Pa05.Rel) (a : Pa05.Ty) : ∀ i, (pr n m r a i).length ≤ i * a.card m
  | 0 => by simp [pr]
  | i + 1 => by
    rw [pr_succ, List.length_append, List.length_map, Nat.succ_mul]
    have h1 := pr_len n m r a i
    have h2 := List.length_filter_le (fun y => a.rel n m r i y) (List.range (a.card m))
    rw [List.length_range] at h2
    omega
theorem bits_mark (q : Nat) (f : Nat → Bool) : bitsIn (markN q f) q = (List.range q).filter f := by
  unfold bitsIn
  refine List.filter_congr fun y hy => ?_
  rw [bit_markN, decide_eq_true (List.mem_range.mp hy)]
  rfl
/-- pairs in memory -/
def PairsAt (H : Hp) : List Addr → List (Nat × Nat) → Prop
  | [], [] => True
  | a :: as, p :: ps => H a = some (.tup [.int (p.1 : Int), .int (p.2 : Int)]) ∧ PairsAt H as ps
  | _, _ => False
theorem PairsAt.len {H : Hp} : ∀ {as : List Addr} {ps : List (Nat × Nat)}, PairsAt H as ps → as.length = ps.length
  | [], [], _ => rfl
  | _ :: _, _ :: _, h => congrArg (· + 1) (PairsAt.len h.2)
  | [], _ :: _, h => h.elim
  | _ :: _, [], h => h.elim
theorem PairsAt.mono {H H' : Hp} (t : Tups H H') : ∀ {as : List Addr} {ps : List (Nat × Nat)}, PairsAt H as ps → PairsAt H' as ps
  | [], [], _ => trivial
  | _ :: _, _ :: _, h => ⟨t _ _ h.1, PairsAt.mono t h.2⟩
  | [], _ :: _, h => h.elim
  | _ :: _, [], h => h.elim
theorem PairsAt.app {H : Hp} : ∀ {as bs : List Addr} {ps qs : List (Nat × Nat)}, PairsAt H as ps → PairsAt H bs qs → PairsAt H (as ++ bs) (ps ++ qs)
  | [], _, [], _, _, h => h
  | _ :: _, _, _ :: _, _, h, k => ⟨h.1, PairsAt.app h.2 k⟩
  | [], _, _ :: _, _, h, _ => h.elim
  | _ :: _, _, [], _, h, _ => h.elim
def ansV (v : Int) (l : List Nat) : List V := .int v :: nats l
def firstOf : List (Nat × Nat) → List Nat
  | [] => []
  | x :: _ => [x.1, x.2]
theorem But.lstTups {H H' : Hp} {a : Addr} {xs : List V} (b : But a H H') (ha : H a = some (.lst xs)) : Tups H H' := fun c ys e => b c _ e (fun q => by rw [q, ha] at e; cases e)
section
variable {P : Program} {w : World} {K : PySem.W.Frag} {mg : Str → Option Value} {base : Heap}
def sp_House_related (T : Txt K mg) : Sp := fun vs H Q E => ∃ (h l : Addr) (s : Pa05.State) (F : Addr → Prop) (x y : Nat) (r : List Nat), vs = [.ref h, .int (x : Int), .int (y : Int), .ref l] ∧ HouseAt T H h s F ∧ SqL K H l (nats r) ∧
  (s.type r = none → ∀ H' : Hp, Same H H' → E (.ref T.C_Unfit) none H') ∧
  (∀ a, s.type r = some a → fits 256 1000000 s.n s.m a = false → ∀ H' : Hp, Same H H' → E (.ref T.C_TooLarge) none H') ∧
  (∀ a, s.type r = some a → fits 256 1000000 s.n s.m a = true → (a.card s.n ≤ x ∨ a.card s.m ≤ y) → ∀ H' : Hp, Same H H' → E (.ref T.C_Unfit) none H') ∧
  (∀ a, s.type r = some a → fits 256 1000000 s.n s.m a = true → ¬ (a.card s.n ≤ x ∨ a.card s.m ≤ y) → ∀ (H' : Hp) (p : Addr), Same H H' → H p = none → H' p = some (.lst [.int (if a.rel s.n s.m s.r x y = true then 1 else 0)]) → Q (.ref p) H')
theorem ok_House_related (T : Txt K mg) : FnOk P w K mg base (L2.CX P w) 55 T.f_House_related T.fd_House_related ["self", "left", "right", "row"] (sp_House_related T) := by
  refine T.F_House_related.okX sc_House_related (fun vs H Q E h => ?_) (fun cdv A outer s H vs Q E hr h => ⟨_, (pss_cons (ps_set (i := 4) sc_House_related.nd rfl (Or.inl rfl) (pe_call (ok_read_kind_row T) (hr.mono (by decide)) rfl T.g_read_kind_row T.k_read_kind_row T.b_read_kind_row .nil (passes_call (takes_of rfl rfl rfl rfl) (fun _ _ _ _ h => h)) (pa_cons (pv 3) (pa_cons (pe_meth0 (pv 0) T.cl_House T.m_House_variables (ok_House_variables T) (hr.mono (by decide)) T.b_House_variables .nil pass0) pa_nil))))
    (pss_cons (ps_set (i := 5) sc_House_related.nd rfl (Or.inl rfl) (pe_meth (pv 0) T.cl_House T.m_House_relation_of (ok_House_relation_of T) (hr.mono (by decide)) T.b_House_relation_of .nil (passes_call (takes_of rfl rfl rfl rfl) (fun _ _ _ _ h => h)) (pa_cons (pv 4) (pa_cons (pe_cst rfl T.g_LARGEST) (pa_cons (pe_cst rfl T.g_HEAVIEST_KIND) pa_nil)))))
    (pss_cons (ps_if (PW.pt (pw_or (pt_cmpR op_ge (pv 1) (pe_callB call_len_seq rfl T.n_len (by decide +kernel) (pa_cons (pv 5) pa_nil)) (nomark _)) (pw_or1 (pt_cmpR op_ge (pv 2) (pe_call (ok_kind_size T 20) (hr.mono (by decide)) rfl T.g_kind_size T.k_kind_size T.b_kind_size .nil (passes_call (takes_of rfl rfl rfl rfl) (fun _ _ _ _ h => h)) (pa_cons (pv 4) (pa_cons (pe_ix ix_list (pe_fld (pv 0) rfl) pe_int (fun _ _ => rfl)) (pa_cons (pe_cst rfl T.g_LARGEST) pa_nil)))) (nomark _)))))
      (pss_one (ps_raise rfl (takes_of rfl rfl rfl rfl) (pmk_own0 PySem.F.excBase_Exception T.x_Unfit T.g_Unfit T.k_Unfit (raises_own T.b_Unfit T.t_Unfit) rfl)))
      pss_nil)
    (pss_one (ps_ret (pe_lst (pa_cons (pe_ifExp (pt_val (pe_call (ok_is_marked T) (hr.mono (by decide)) rfl T.g_is_marked T.k_is_marked T.b_is_marked .nil pass0 (pa_cons (pe_ix ix_list (pv 5) (pv 1) (fun _ _ => rfl)) (pa_cons (pv 2) pa_nil)))) pe_int pe_int) pa_nil))))))), ?_⟩)
  · obtain ⟨h, l, s, F, x, y, r, rfl, _⟩ := h
    rfl
  · obtain ⟨h, l, s, F, x, y, r, rfl, ⟨dx, S, R, L, M, trs, z⟩, hl, kU, kT, kV, kQ⟩ := h
    have xl := z.len
    refine ⟨_, rfl, _, rfl, h, dx, _, rfl, z.obj, hsF_no S R, h, dx, S, R, trs, rfl, z.obj, z.rel, l, r, trs.length, rfl, hl, (fun e H1 s1 => ?_), (fun a e H1 q s1 hq ok hd => ?_)⟩
    · rw [xl] at e
      exact kU e H1 s1
    rw [xl] at e ok
    have z1 := z.mono s1
    refine ⟨_, rfl, h, dx, _, rfl, z1.obj, hsF_no S R, _, rfl, h, q, s, F, a, 256, 1000000, rfl, ⟨dx, S, R, L, M, trs, z1⟩, hq, ok, by omega, by decide, (fun f => kT a e f H1 s1), (fun f H2 lr s2 c2 => ?_)⟩
    have s12 := Same.trans s1 s2
    have z2 := z1.mono s2
    have hq2 := hq.mono (Same.tups s2)
    obtain ⟨en, em, _⟩ := fits_small f
    refine ⟨_, rfl, _, rfl, lr, _, rfl, .inl (SqL.of c2), _, _, rfl, rfl, _, rfl, ?_⟩
    rw [nats_length, relL_length]
    by_cases g1 : a.card s.n ≤ x
    · exact if_true_of (decide_eq_true (by omega)) (kV a e f (.inl g1) H2 s12)
    refine if_false_of (decide_eq_false (by omega)) ?_
    refine ⟨_, rfl, _, rfl, _, rfl, h, _, dx, _, _, rfl, z2.obj, T.cl_House, T.n_House_set_sizes, hsF_sizes S R, S, _, _, _, rfl, rfl, SqL.of z2.sz, atI_nat (j := 1) rfl, q, M, a, _, 256, rfl, hq2, SqL.of z2.right, (by rw [List.length_map]; exact ok), by omega, by decide, (fun e2 => ?_), (fun c e2 => ?_)⟩
    · rw [m_num, em] at e2
      cases e2
    rw [m_num, em] at e2
    cases e2
    refine ⟨_, _, rfl, rfl, _, rfl, ?_⟩
    by_cases g2 : a.card s.m ≤ y
    · exact if_true_of (decide_eq_true (by omega)) (kV a e f (.inr g2) H2 s12)
    refine if_false_of (decide_eq_false (by omega)) ?_
    have kQ := kQ a e f (by omega)
    refine ⟨_, rfl, _, rfl, lr, _, _, _, rfl, rfl, SqL.of c2, atI_nat (nats_at (relL_at (by omega))), _, rfl, _, y, rfl, _, rfl, ?_⟩
    have eb : (markN (a.card s.m) fun y => a.rel s.n s.m s.r x y).testBit y = a.rel s.n s.m s.r x y := by
      rw [bit_markN, decide_eq_true (by omega)]
      rfl
    by_cases g : a.rel s.n s.m s.r x y = true
    · rw [if_pos g] at kQ
      refine if_true_of (eb.trans g) ⟨(by show 1 ≤ sizeLine; decide), fun p hp => ?_⟩
      exact kQ _ p (Same.trans s12 (Same.new hp)) (s12.free hp) upd_same
    · rw [if_neg g] at kQ
      refine if_false_of (by rw [eb]; simpa using g) ⟨(by show 1 ≤ sizeLine; decide), fun p hp => ?_⟩
      exact kQ _ p (Same.trans s12 (Same.new hp)) (s12.free hp) upd_same
def sp_House_kept (T : Txt K mg) : Sp := fun vs H Q E => ∃ (h l : Addr) (s : Pa05.State) (F : Addr → Prop) (r : List Nat), vs = [.ref h, .ref l] ∧ HouseAt T H h s F ∧ SqL K H l (nats r) ∧
  (s.type r = none → ∀ H' : Hp, Same H H' → E (.ref T.C_Unfit) none H') ∧
  (∀ a, s.type r = some a → tooMany (s.sets.map fun x => x.1) = true → ∀ H' : Hp, Same H H' → E (.ref T.C_TooManyRelations) none H') ∧
  (∀ a, s.type r = some a → tooMany (s.sets.map fun x => x.1) = false → fits 32 4096 s.n s.n a = false → ∀ H' : Hp, Same H H' → E (.ref T.C_TooLarge) none H') ∧
  (∀ a, s.type r = some a → tooMany (s.sets.map fun x => x.1) = false → fits 32 4096 s.n s.n a = true → ∀ (H' : Hp) (p : Addr), Same H H' → H p = none → H' p = some (.lst (ansV ((Pa05.kept s.n s.k a).length : Nat) (Pa05.kept s.n s.k a))) → Q (.ref p) H')
theorem ok_House_kept (T : Txt K mg) : FnOk P w K mg base (L2.CX P w) 55 T.f_House_kept T.fd_House_kept ["self", "row"] (sp_House_kept T) := by
  refine T.F_House_kept.okX sc_House_kept (fun vs H Q E h => ?_) (fun cdv A outer s H vs Q E hr h => ⟨_, (pss_cons (ps_set (i := 2) sc_House_kept.nd rfl (Or.inl rfl) (pe_call (ok_read_kind_row T) (hr.mono (by decide)) rfl T.g_read_kind_row T.k_read_kind_row T.b_read_kind_row .nil (passes_call (takes_of rfl rfl rfl rfl) (fun _ _ _ _ h => h)) (pa_cons (pv 1) (pa_cons (pe_meth0 (pv 0) T.cl_House T.m_House_variables (ok_House_variables T) (hr.mono (by decide)) T.b_House_variables .nil pass0) pa_nil))))
    (pss_cons (ps_set (i := 3) sc_House_kept.nd rfl (Or.inl rfl) (pe_ix ix_list (pe_fld (pv 0) rfl) pe_int (fun _ _ => rfl)))
    (pss_cons (ps_expr (pe_call (ok_refuse_too_many T) (hr.mono (by decide)) rfl T.g_refuse_too_many T.k_refuse_too_many T.b_refuse_too_many .nil (passes_call (takes_of rfl rfl rfl rfl) (fun _ _ _ _ h => h)) (pa_cons (pv 3) pa_nil)))
    (pss_cons (ps_expr (pe_call (ok_refuse_too_large T) (hr.mono (by decide)) rfl T.g_refuse_too_large T.k_refuse_too_large T.b_refuse_too_large .nil (passes_call (takes_of rfl rfl rfl rfl) (fun _ _ _ _ h => h)) (pa_cons (pv 2) (pa_cons (pv 3) (pa_cons (pv 3) (pa_cons (pe_cst rfl T.g_LARGEST_COUNTED) (pa_cons (pe_cst rfl T.g_HEAVIEST_COUNTED) pa_nil)))))))
    (pss_cons (ps_set (i := 4) sc_House_kept.nd rfl (Or.inl rfl) (pe_call (ok_kept_values T) (hr.mono (by decide)) rfl T.g_kept_values T.k_kept_values T.b_kept_values .nil pass0 (pa_cons (pv 2) (pa_cons (pv 3) (pa_cons (pe_cst rfl T.g_LARGEST_COUNTED) pa_nil)))))
    (pss_one (ps_ret (pe_op op_cat (pe_lst (pa_cons (pe_callB call_len_seq rfl T.n_len (by decide +kernel) (pa_cons (pv 4) pa_nil)) pa_nil)) (pv 4))))))))), ?_⟩)
  · obtain ⟨h, l, s, F, r, rfl, _⟩ := h
    rfl
  · obtain ⟨h, l, s, F, r, rfl, ⟨dx, S, R, L, M, trs, z⟩, hl, kU, kM, kT, kQ⟩ := h
    have xl := z.len
    refine ⟨_, rfl, _, rfl, h, dx, _, rfl, z.obj, hsF_no S R, h, dx, S, R, trs, rfl, z.obj, z.rel, l, r, trs.length, rfl, hl, (fun e H1 s1 => ?_), (fun a e H1 q s1 hq ok hd => ?_)⟩
    · rw [xl] at e
      exact kU e H1 s1
    rw [xl] at e ok
    have z1 := z.mono s1
    have le3 : ∀ x ∈ s.sets.map (fun x => x.1), x ≤ 3 := fun x hx => by
      obtain ⟨y, hy, rfl⟩ := List.mem_map.mp hx
      exact (z.n3 y hy).1
    have len3 : (s.sets.map fun x => x.1).length ≤ 3 := by
      rw [List.length_map]
      exact z.k3
    have len1 : 0 < (s.sets.map fun x => x.1).length := by
      rw [List.length_map]
      exact z.k1
    have okn : TyOk (s.sets.map fun x => x.1).length a := by rw [List.length_map]; exact ok
    refine ⟨_, rfl, h, _, dx, _, _, rfl, z1.obj, T.cl_House, T.n_House_set_sizes, hsF_sizes S R, S, _, _, _, rfl, rfl, SqL.of z1.sz, atI_nat (j := 0) rfl, ?_⟩
    refine ⟨_, rfl, L, _, rfl, SqL.of z1.left, le3, len3, len1, (fun f H2 s2 => kM a e f H2 (Same.trans s1 s2)), (fun f H2 s2 => ?_)⟩
    have s12 := Same.trans s1 s2
    have z2 := z1.mono s2
    have hq2 := hq.mono (Same.tups s2)
    have kT := kT a e f
    have kQ := kQ a e f
    rw [← n_num] at kT kQ
    refine ⟨_, rfl, _, rfl, _, rfl, q, L, L, a, _, _, 32, 4096, rfl, hq2, SqL.of z2.left, SqL.of z2.left, okn, okn, by omega, by decide, (fun g => kT g H2 s12), (fun g => ?_)⟩
    obtain ⟨en, _, h8⟩ := fits_small g
    have sq8 : sqs (s.sets.map fun x => x.1) ≤ 8 := by
      unfold tooMany at f
      rw [Bool.or_eq_false_iff] at f
      have := of_decide_eq_false f.2
      omega
    refine ⟨_, rfl, _, rfl, q, L, a, _, 32, _, rfl, hq2, SqL.of z2.left, le3, len3, sq8, okn, by omega, by decide, en, fun H3 lk s3 c3 => ?_⟩
    rw [List.length_map] at c3
    have s13 := Same.trans s12 s3
    have lenk : (Pa05.kept (numOf (s.sets.map fun x => x.1)) s.sets.length a).length ≤ 32 := by
      have h1 := List.length_filter_le (fun x => (List.range (2 ^ Pa05.bitsOf (numOf (s.sets.map fun x => x.1)) s.sets.length)).all fun c => a.rel (numOf (s.sets.map fun x => x.1)) (numOf (s.sets.map fun x => x.1)) (Pa05.relOf (numOf (s.sets.map fun x => x.1)) c) x x) (List.range (a.card (numOf (s.sets.map fun x => x.1))))
      rw [List.length_range] at h1
      have h2 := small_le _ _ _ _ en
      exact Nat.le_trans h1 h2
    refine ⟨_, rfl, lk, _, rfl, .inl (SqL.of c3), (by show 1 ≤ sizeLine; decide), fun l1 hl1 => ?_⟩
    have c31 : upd H3 l1 (.lst [.int (((nats (Pa05.kept (numOf (s.sets.map fun x => x.1)) s.sets.length a)).length : Nat) : Int)]) lk = _ := (Same.new hl1) _ _ c3
    refine ⟨_, rfl, l1, lk, _, _, rfl, rfl, upd_same, c31, ?_, fun p hp => ?_⟩
    · rw [nats_length]
      show 1 + _ ≤ sizeLine
      exact le_line (by omega)
    · have hp3 : H3 p = none := Same.free (Same.new hl1) hp
      refine kQ g _ p (Same.trans s13 (Same.trans (Same.new hl1) (Same.new hp))) (s13.free hp3) ?_
      rw [upd_same, nats_length]
      rfl
end
end FC
namespace FC
open PySem PySem.Spec PyProof.Rows L2
theorem map_take_snoc {row : List Nat} {j y i : Nat} (hy : row[j]? = some y) : ((row.take (j + 1)).map fun z => (i, z)) = ((row.take j).map fun z => (i, z)) ++ [(i, y)] := by
  rw [List.take_add_one, hy, List.map_append]
  rfl
section
variable {P : Program} {w : World} {K : PySem.W.Frag} {mg : Str → Option Value} {base : Heap}
def sp_House_count (T : Txt K mg) : Sp := fun vs H Q E => ∃ (h l : Addr) (s : Pa05.State) (F : Addr → Prop) (r : List Nat), vs = [.ref h, .ref l] ∧ HouseAt T H h s F ∧ SqL K H l (nats r) ∧
  (s.type r = none → ∀ H' : Hp, Same H H' → E (.ref T.C_Unfit) none H') ∧
  (∀ a, s.type r = some a → fits 32 4096 s.n s.m a = false → ∀ H' : Hp, Same H H' → E (.ref T.C_TooLarge) none H') ∧
  (∀ a, s.type r = some a → fits 32 4096 s.n s.m a = true → ∀ (H' : Hp) (p : Addr), Same H H' → H p = none → H' p = some (.lst (ansV ((Pa05.pairs s.n s.m s.r a).length : Nat) (firstOf (Pa05.pairs s.n s.m s.r a)))) → Q (.ref p) H')
theorem ok_House_count (T : Txt K mg) : FnOk P w K mg base (L2.CX P w) 55 T.f_House_count T.fd_House_count ["self", "row"] (sp_House_count T) := by
  refine T.F_House_count.okX sc_House_count (fun vs H Q E h => ?_) (fun cdv A outer s H vs Q E hr h => ⟨_, (pss_cons (ps_set (i := 2) sc_House_count.nd rfl (Or.inl rfl) (pe_call (ok_read_kind_row T) (hr.mono (by decide)) rfl T.g_read_kind_row T.k_read_kind_row T.b_read_kind_row .nil (passes_call (takes_of rfl rfl rfl rfl) (fun _ _ _ _ h => h)) (pa_cons (pv 1) (pa_cons (pe_meth0 (pv 0) T.cl_House T.m_House_variables (ok_House_variables T) (hr.mono (by decide)) T.b_House_variables .nil pass0) pa_nil))))
    (pss_cons (ps_set (i := 3) sc_House_count.nd rfl (Or.inl rfl) (pe_meth (pv 0) T.cl_House T.m_House_relation_of (ok_House_relation_of T) (hr.mono (by decide)) T.b_House_relation_of .nil (passes_call (takes_of rfl rfl rfl rfl) (fun _ _ _ _ h => h)) (pa_cons (pv 2) (pa_cons (pe_cst rfl T.g_LARGEST_COUNTED) (pa_cons (pe_cst rfl T.g_HEAVIEST_COUNTED) pa_nil)))))
    (pss_cons (ps_set (i := 4) sc_House_count.nd rfl (Or.inl rfl) (pe_call (ok_kind_size T 20) (hr.mono (by decide)) rfl T.g_kind_size T.k_kind_size T.b_kind_size .nil (passes_call (takes_of rfl rfl rfl rfl) (fun _ _ _ _ h => h)) (pa_cons (pv 2) (pa_cons (pe_ix ix_list (pe_fld (pv 0) rfl) pe_int (fun _ _ => rfl)) (pa_cons (pe_cst rfl T.g_LARGEST_COUNTED) pa_nil)))))
    (pss_cons (ps_set (i := 5) sc_House_count.nd rfl (Or.inl rfl) (pe_lst pa_nil))
    (pss_cons (ps_for (passes_of rfl) rfl (pi_enum rfl T.n_enumerate (pa_cons (pv 3) pa_nil)) (pg_tup rfl (pgs_cons (pg_name (i := 6) sc_House_count.nd rfl (Or.inr rfl)) (pgs_cons (pg_name (i := 7) sc_House_count.nd rfl (Or.inl rfl)) pgs_nil)))
      (pss_one (ps_expr (pe_bm PySem.F.plainAttrs_list PySem.F.slot_list_extend PySem.F.type_list_extend mt_extend (pv 5) (pa_cons (pe_lc (own := [("right", 8)]) (by rfl) sc_House_count.nd (pi_list (pe_call (ok_places T) (hr.mono (by decide)) rfl T.g_places T.k_places T.b_places .nil pass0 (pa_cons (pv 7) (pa_cons (pv 4) pa_nil)))) (blkOk_by (own := [("right", 8)]) (N := ["self", "row", "kind", "relation", "right_size", "pairs", "left", "marks", "right"]) (sc := defScope s_House_count) (by decide +kernel)) (fun _ _ _ _ _ => (pg_name (i := 8) sc_House_count.nd rfl (Or.inl rfl))) (fun _ _ _ _ _ => pts_nil) (fun _ _ _ _ _ => (pe_tup (pa_cons (pv 6) (pa_cons (pv 8) pa_nil))))) pa_nil)))))
    (pss_cons (ps_if (pt_cmpR op_eq (pe_callB call_len_seq rfl T.n_len (by decide +kernel) (pa_cons (pv 5) pa_nil)) pe_int (nomark _))
      (pss_one (ps_ret (pe_lst (pa_cons pe_int pa_nil))))
      pss_nil)
    (pss_one (ps_ret (pe_lst (pa_cons (pe_callB call_len_seq rfl T.n_len (by decide +kernel) (pa_cons (pv 5) pa_nil)) (pa_cons (pe_ix ix_tup (pe_ix ix_list (pv 5) pe_int (fun _ _ => rfl)) pe_int (fun _ _ => rfl)) (pa_cons (pe_ix ix_tup (pe_ix ix_list (pv 5) pe_int (fun _ _ => rfl)) pe_int (fun _ _ => rfl)) pa_nil)))))))))))), ?_⟩)
  · obtain ⟨h, l, s, F, r, rfl, _⟩ := h
    rfl
  · obtain ⟨h, l, s, F, r, rfl, ⟨dx, S, R, L, M, trs, z⟩, hl, kU, kT, kQ⟩ := h
    have xl := z.len
    refine ⟨_, rfl, _, rfl, h, dx, _, rfl, z.obj, hsF_no S R, h, dx, S, R, trs, rfl, z.obj, z.rel, l, r, trs.length, rfl, hl, (fun e H1 s1 => ?_), (fun a e H1 q s1 hq ok hd => ?_)⟩
    · rw [xl] at e
      exact kU e H1 s1
    rw [xl] at e ok
    have z1 := z.mono s1
    refine ⟨_, rfl, h, dx, _, rfl, z1.obj, hsF_no S R, _, rfl, h, q, s, F, a, 32, 4096, rfl, ⟨dx, S, R, L, M, trs, z1⟩, hq, ok, by omega, by decide, (fun f => kT a e f H1 s1), (fun f H2 lr s2 c2 => ?_)⟩
    have s12 := Same.trans s1 s2
    have z2 := z1.mono s2
    have hq2 := hq.mono (Same.tups s2)
    have kQ := kQ a e f
    obtain ⟨en, em, _⟩ := fits_small f
    obtain ⟨ln, lm⟩ := card_le f
    refine ⟨_, rfl, _, rfl, h, _, dx, _, _, rfl, z2.obj, T.cl_House, T.n_House_set_sizes, hsF_sizes S R, S, _, _, _, rfl, rfl, SqL.of z2.sz, atI_nat (j := 1) rfl, q, M, a, _, 32, rfl, hq2, SqL.of z2.right, (by rw [List.length_map]; exact ok), by omega, by decide, (fun e2 => ?_), (fun c e2 => ?_)⟩
    · rw [m_num, em] at e2
      cases e2
    rw [m_num, em] at e2
    cases e2
    generalize ecn : a.card s.n = cn at *
    generalize ecm : a.card s.m = cm at *
    -- pairs = []
    refine ⟨(by show 0 ≤ sizeLine; decide), fun B hB => ?_⟩
    have s3 : Same H2 (upd H2 B (.lst [])) := Same.new hB
    have c3B : upd H2 B (.lst []) B = some (.lst []) := upd_same
    have HB : H B = none := s12.free hB
    generalize upd H2 B (.lst []) = H3 at s3 c3B ⊢
    have c3 := s3 _ _ c2
    have lrB : lr ≠ B := ne_of_none c2 hB
    have s13 := Same.trans s12 s3
    refine ⟨_, rfl, lr, _, rfl, SqL.of c3, ?_⟩
    have lenR : (nats (relL s.n s.m s.r a)).length = cn := by rw [nats_length, relL_length, ecn]
    refine for_it (walk_enum (xs := nats (relL s.n s.m s.r a))) (fun i σ Hc => But B H3 Hc ∧ ∃ (as : List Addr) (v6 v7 : Option V), Hc B = some (.lst (as.map V.ref)) ∧ PairsAt Hc as (pr s.n s.m s.r a i) ∧ σ = [some (.ref h), some (.ref l), some (.ref q), some (.ref lr), some (.int (cm : Int)), some (.ref B), v6, v7, none]) ⟨fun _ _ e _ => e, [], none, none, c3B, trivial, rfl⟩ ?_ ?_ ?_
    · rintro i σ Hc _ ⟨b1, _⟩
      exact SqL.of (b1 _ _ c3 lrB)
    · rintro i x σ Hc Hc' hi ⟨b1, as, v6, v7, cB, ps, rfl⟩ ⟨Tu, x1, x2, rfl, hTu, rfl, e1, e2⟩
      rw [lenR] at hi
      have e1 := Option.some.inj e1
      subst e1
      obtain ⟨mk, hmk, rfl⟩ := nats_get e2
      have hmk' : mk = markN cm fun y => a.rel s.n s.m s.r i y := by
        rw [relL_at (by omega)] at hmk
        rw [← ecm]
        exact (Option.some.inj hmk).symm
      have hTB : B ≠ Tu := ne_of_none cB hTu
      have cB1 : upd Hc Tu (.tup [.int (i : Int), .int (mk : Int)]) B = some (.lst (as.map V.ref)) := by rw [upd_ne hTB]; exact cB
      have ps1 := ps.mono (Same.tups (Same.new (o := .tup [.int (i : Int), .int (mk : Int)]) hTu))
      have b2 : But B H3 (upd Hc Tu (.tup [.int (i : Int), .int (mk : Int)])) := b1.trans (But.new hTu)
      have cT : upd Hc Tu (.tup [.int (i : Int), .int (mk : Int)]) Tu = some (.tup [.int (i : Int), .int (mk : Int)]) := upd_same
      generalize upd Hc Tu (.tup [.int (i : Int), .int (mk : Int)]) = Hd at cB1 ps1 b2 cT ⊢
      refine ⟨Tu, _, rfl, SqT.of cT, rfl, _, _, rfl, _, _, rfl, rfl, ?_⟩
      refine ⟨_, rfl, .inl ⟨rfl, _, SqL.of cB1⟩, _, rfl, _, rfl, mk, cm, rfl, by omega, fun lp hlp => ?_⟩
      have cB2 : upd Hd lp (.lst (nats (bitsIn mk cm))) B = some (.lst (as.map V.ref)) := (Same.new hlp) _ _ cB1
      have ps2 := ps1.mono (Same.tups (Same.new (o := .lst (nats (bitsIn mk cm))) hlp))
      have b3 : But B H3 (upd Hd lp (.lst (nats (bitsIn mk cm)))) := b2.trans (But.new hlp)
      have cl : upd Hd lp (.lst (nats (bitsIn mk cm))) lp = some (.lst (nats ((List.range cm).filter fun y => a.rel s.n s.m s.r i y))) := by rw [upd_same, hmk', bits_mark]
      have lpB : lp ≠ B := fun q => by rw [q, cB1] at hlp; cases hlp
      generalize upd Hd lp (.lst (nats (bitsIn mk cm))) = He at cB2 ps2 b3 cl ⊢
      generalize erow : ((List.range cm).filter fun y => a.rel s.n s.m s.r i y) = row at cl ⊢
      have lrow : row.length ≤ cm := by
        rw [← erow]
        have := List.length_filter_le (fun y => a.rel s.n s.m s.r i y) (List.range cm)
        rw [List.length_range] at this
        exact this
      refine ⟨lp, rfl, ⟨_, SqL.of cl⟩, fun D hD => ?_⟩
      refine lc_list (K := K) (a := lp) (xs := nats row) (fun j Hj => Same He Hj ∧ ∃ ts : List Addr, Hj D = some (.lst (ts.map V.ref)) ∧ PairsAt Hj ts ((row.take j).map fun y => (i, y))) ⟨Same.new hD, [], upd_same, trivial⟩ ?_ ?_ ?_
      · rintro j Hj _ ⟨s6, _⟩
        exact SqL.of (s6 _ _ cl)
      · rintro j zz Hj hz ⟨s6, ts, d6, p6⟩
        obtain ⟨y, hy, rfl⟩ := nats_get hz
        refine ⟨rfl, ?_⟩
        refine ⟨_, rfl, _, rfl, (by show 2 ≤ sizeLine; decide), fun t ht => ?_⟩
        have hDt : D ≠ t := ne_of_none d6 ht
        have lts : ts.length < 1000 := by
          have h1 := p6.len
          rw [List.length_map, List.length_take] at h1
          omega
        refine ⟨_, (by rw [upd_ne hDt]; exact d6), (by rw [List.length_map]; exact small1000 (by omega)), ?_, ts ++ [t], ?_, ?_⟩
        · intro b o e
          rw [upd_ne (ne_of_none e hD), upd_ne (ne_of_none (s6 b o e) ht)]
          exact s6 b o e
        · rw [upd_same, List.map_append]
          rfl
        · rw [map_take_snoc hy]
          have tp : Tups Hj (upd (upd Hj t (.tup [.int (i : Int), .int (y : Int)])) D (.lst (ts.map V.ref ++ [.ref t]))) := fun c ys e => by
            rw [upd_ne (fun q => by rw [q, d6] at e; cases e), upd_ne (ne_of_none e ht)]
            exact e
          refine PairsAt.app (p6.mono tp) ⟨?_, trivial⟩
          show upd (upd Hj t (.tup [.int (i : Int), .int (y : Int)])) D (.lst (ts.map V.ref ++ [.ref t])) t = _
          rw [upd_ne hDt.symm, upd_same]
      · rintro Hj ⟨s6, ts, d6, p6⟩
        rw [nats_length, List.take_length] at p6
        have hBD : B ≠ D := ne_of_none cB2 hD
        have lts : ts.length ≤ 32 := by
          have h1 := p6.len
          rw [List.length_map] at h1
          omega
        have las : as.length ≤ 32 * 32 := by
          have h1 := ps2.len
          have h2 := pr_len s.n s.m s.r a i
          rw [ecm] at h2
          have h3 : i * cm ≤ 32 * 32 := Nat.mul_le_mul (by omega) (by omega)
          omega
        refine ⟨B, D, _, _, rfl, rfl, s6 _ _ cB2, d6, ?_, ?_, as ++ ts, _, _, ?_, ?_, rfl⟩
        · rw [List.length_map, List.length_map]
          exact le_line (by omega)
        · intro b o e hb
          rw [upd_ne hb]
          exact s6 _ _ (b3 b o e hb)
        · rw [upd_same, List.map_append]
        · rw [pr_succ, ecm, erow]
          have tp : Tups Hj (upd Hj B (.lst (as.map V.ref ++ ts.map V.ref))) := fun c ys e => by
            rw [upd_ne (fun q => by rw [q, s6 _ _ cB2] at e; cases e)]
            exact e
          exact PairsAt.app ((ps2.mono (Same.tups s6)).mono tp) (p6.mono tp)
    · rintro σ Hc ⟨b1, as, v6, v7, cB, ps, rfl⟩
      rw [lenR, ← ecn, pr_all] at ps
      have sf : Same H Hc := fun b o e => b1 b o (s13 b o e) (ne_of_none e HB)
      have lps := ps.len
      refine ⟨_, rfl, B, _, rfl, .inl (SqL.of cB), rfl, _, rfl, ?_⟩
      rw [List.length_map]
      cases ep : Pa05.pairs s.n s.m s.r a with
      | nil =>
        rw [ep] at ps lps kQ
        have ea : as = [] := List.eq_nil_of_length_eq_zero lps
        rw [ea]
        refine if_true_of rfl ⟨(by show 1 ≤ sizeLine; decide), fun p hp => ?_⟩
        exact kQ _ p (Same.trans sf (Same.new hp)) (sf.free hp) upd_same
      | cons p0 prest =>
        rw [ep] at ps lps kQ
        cases as with
        | nil => cases lps
        | cons a0 ar =>
          refine if_false_of rfl ?_
          refine ⟨_, rfl, B, _, rfl, .inl (SqL.of cB), _, rfl, B, _, _, .ref a0, rfl, rfl, SqL.of cB, atI_nat (j := 0) rfl, a0, _, _, _, rfl, rfl, SqT.of ps.1, atI_nat (j := 0) rfl, _, rfl, B, _, _, .ref a0, rfl, rfl, SqL.of cB, atI_nat (j := 0) rfl, a0, _, _, _, rfl, rfl, SqT.of ps.1, atI_nat (j := 1) rfl, (by show 3 ≤ sizeLine; decide), fun p hp => ?_⟩
          refine kQ _ p (Same.trans sf (Same.new hp)) (sf.free hp) ?_
          rw [upd_same, List.length_map, lps]
          rfl
end
end FC
/-! Terms by their heads and parts. Plain Lean alone. -/
namespace FC
open Pa05
inductive Told where
  | no
  | num (n : Nat)
  | ty (a : Ty)
def hd : Tm → Nat
  | .var _ => 0
  | .pair _ _ => 1
  | .first _ => 2
  | .second _ => 3
  | .left _ _ => 4
  | .right _ _ => 5
  | .cases _ _ _ => 6
  | .lam _ _ => 7
  | .app _ _ => 8
  | .yes => 9
  | .no => 10
  | .if_ _ _ _ => 11
def kids : Tm → List Tm
  | .var _ => []
  | .pair t s => [t, s]
  | .first t => [t]
  | .second t => [t]
  | .left _ t => [t]
  | .right _ t => [t]
  | .cases t u v => [t, u, v]
  | .lam _ t => [t]
  | .app t s => [t, s]
  | .yes => []
  | .no => []
  | .if_ c t u => [c, t, u]
def toldOf : Tm → Told
  | .var i => .num i
  | .left b _ => .ty b
  | .right a _ => .ty a
  | .lam a _ => .ty a
  | _ => .no
def tdp : Tm → Nat
  | .var _ => 1
  | .pair t s => max (tdp t) (tdp s) + 1
  | .first t => tdp t + 1
  | .second t => tdp t + 1
  | .left _ t => tdp t + 1
  | .right _ t => tdp t + 1
  | .cases t u v => max (tdp t) (max (tdp u) (tdp v)) + 1
  | .lam _ t => tdp t + 1
  | .app t s => max (tdp t) (tdp s) + 1
  | .yes => 1
  | .no => 1
  | .if_ c t u => max (tdp c) (max (tdp t) (tdp u)) + 1
theorem tdp_kids {t s : Tm} (h : s ∈ kids t) : tdp s + 1 ≤ tdp t := by
  cases t <;> simp [kids] at h <;> simp only [tdp] <;> (try rcases h with rfl | rfl | rfl) <;> (try rcases h with rfl | rfl) <;> (try subst h) <;> omega
theorem tdp_pos (t : Tm) : 1 ≤ tdp t := by
  cases t <;> simp [tdp]
def cnts : List Nat := [0, 2, 1, 1, 1, 1, 3, 1, 2, 0, 0, 3]
def cnt (h : Nat) : Nat := cnts.getD h 0
theorem kids_len (t : Tm) : (kids t).length = cnt (hd t) := by
  cases t <;> rfl
theorem hd_le (t : Tm) : hd t ≤ 11 := by
  cases t <;> simp [hd]
def mkTm (h : Nat) (o : Told) (l : List Tm) : Tm := match h, o, l with
  | 0, .num i, _ => .var i
  | 1, _, [t, s] => .pair t s
  | 2, _, [t] => .first t
  | 3, _, [t] => .second t
  | 4, .ty b, [t] => .left b t
  | 5, .ty b, [t] => .right b t
  | 6, _, [t, u, v] => .cases t u v
  | 7, .ty b, [t] => .lam b t
  | 8, _, [t, s] => .app t s
  | 9, _, _ => .yes
  | 11, _, [t, u, v] => .if_ t u v
  | _, _, _ => .no
/-- what stands with a head, ahead of its parts -/
def readTold (k h : Nat) (r : List Nat) : Read Told :=
  if h = 0 then match r with
    | [] => none
    | i :: r => some (.num i, r)
  else if h = 4 ∨ h = 5 ∨ h = 7 then (readTy k NESTY r).map fun x => (.ty x.1, x.2)
  else some (.no, r)
def readKids (k d : Nat) : Nat → List Nat → Read (List Tm)
  | 0, r => some ([], r)
  | n + 1, r => match readKids k d n r with
    | none => none
    | some (l, r1) => (readTm k d r1).map fun x => (l ++ [x.1], x.2)
def readAll (k d h : Nat) (r : List Nat) : Read Tm := match readTold k h r with
  | none => none
  | some (o, r1) => match readKids k d (cnt h) r1 with
    | none => none
    | some (l, r2) => some (mkTm h o l, r2)
theorem rm_bad (k d h : Nat) (r : List Nat) (hh : 11 < h) : readTm k (d + 1) (h :: r) = none := by
  match h, hh with
  | n + 12, _ => rfl
theorem rm_nil (k d : Nat) : readTm k (d + 1) [] = none := rfl
theorem rm_eq (k d h : Nat) (r : List Nat) (hh : h ≤ 11) : readTm k (d + 1) (h :: r) = readAll k d h r := by
  match h, hh with
  | 0, _ => cases r <;> rfl
  | 1, _ =>
    show then_ (readTm k d r) (readTm k d) Tm.pair = _
    simp only [readAll, readTold, cnt, cnts, readKids, then_]
    cases e : readTm k d r with
    | none => simp [readKids, e]
    | some x =>
      obtain ⟨t, r1⟩ := x
      simp only [List.getD_cons_succ, List.getD_cons_zero]
      cases e2 : readTm k d r1 with
      | none => simp [readKids, e, e2]
      | some y => simp [readKids, e, e2, mkTm]
  | 2, _ =>
    show (readTm k d r).map _ = _
    simp only [readAll, readTold, cnt, cnts]
    cases e : readTm k d r with
    | none => simp [readKids, e]
    | some x => simp [readKids, e, mkTm]
  | 3, _ =>
    show (readTm k d r).map _ = _
    simp only [readAll, readTold, cnt, cnts]
    cases e : readTm k d r with
    | none => simp [readKids, e]
    | some x => simp [readKids, e, mkTm]
  | 4, _ =>
    show then_ (readTy k NESTY r) (readTm k d) Tm.left = _
    simp only [readAll, readTold, cnt, cnts, then_]
    cases e : readTy k NESTY r with
    | none => simp
    | some x =>
      obtain ⟨a, r1⟩ := x
      cases e2 : readTm k d r1 with
      | none => simp [readKids, e2]
      | some y => simp [readKids, e2, mkTm]
  | 5, _ =>
    show then_ (readTy k NESTY r) (readTm k d) Tm.right = _
    simp only [readAll, readTold, cnt, cnts, then_]
    cases e : readTy k NESTY r with
    | none => simp
    | some x =>
      obtain ⟨a, r1⟩ := x
      cases e2 : readTm k d r1 with
      | none => simp [readKids, e2]
      | some y => simp [readKids, e2, mkTm]
  | 6, _ =>
    show then_ (then_ (readTm k d r) (readTm k d) Prod.mk) (readTm k d) (fun x v => Tm.cases x.1 x.2 v) = _
    simp only [readAll, readTold, cnt, cnts, then_]
    cases e : readTm k d r with
    | none => simp [readKids, e]
    | some x =>
      obtain ⟨t, r1⟩ := x
      cases e2 : readTm k d r1 with
      | none => simp [readKids, e, e2]
      | some y =>
        obtain ⟨u, r2⟩ := y
        cases e3 : readTm k d r2 with
        | none => simp [readKids, e, e2, e3]
        | some z => simp [readKids, e, e2, e3, mkTm]
  | 7, _ =>
    show then_ (readTy k NESTY r) (readTm k d) Tm.lam = _
    simp only [readAll, readTold, cnt, cnts, then_]
    cases e : readTy k NESTY r with
    | none => simp
    | some x =>
      obtain ⟨a, r1⟩ := x
      cases e2 : readTm k d r1 with
      | none => simp [readKids, e2]
      | some y => simp [readKids, e2, mkTm]
  | 8, _ =>
    show then_ (readTm k d r) (readTm k d) Tm.app = _
    simp only [readAll, readTold, cnt, cnts, readKids, then_]
    cases e : readTm k d r with
    | none => simp [readKids, e]
    | some x =>
      obtain ⟨t, r1⟩ := x
      simp only [List.getD_cons_succ, List.getD_cons_zero]
      cases e2 : readTm k d r1 with
      | none => simp [readKids, e, e2]
      | some y => simp [readKids, e, e2, mkTm]
  | 9, _ => rfl
  | 10, _ => rfl
  | 11, _ =>
    show then_ (then_ (readTm k d r) (readTm k d) Prod.mk) (readTm k d) (fun x v => Tm.if_ x.1 x.2 v) = _
    simp only [readAll, readTold, cnt, cnts, then_]
    cases e : readTm k d r with
    | none => simp [readKids, e]
    | some x =>
      obtain ⟨t, r1⟩ := x
      cases e2 : readTm k d r1 with
      | none => simp [readKids, e, e2]
      | some y =>
        obtain ⟨u, r2⟩ := y
        cases e3 : readTm k d r2 with
        | none => simp [readKids, e, e2, e3]
        | some z => simp [readKids, e, e2, e3, mkTm]
/-- the told thing fits its head -/
def ToldFits (h : Nat) : Told → Prop
  | .num _ => h = 0
  | .ty _ => h = 4 ∨ h = 5 ∨ h = 7
  | .no => h ≠ 0 ∧ h ≠ 4 ∧ h ≠ 5 ∧ h ≠ 7
theorem mk_parts {h : Nat} {o : Told} {l : List Tm} (hh : h ≤ 11) (ho : ToldFits h o) (hl : l.length = cnt h) : hd (mkTm h o l) = h ∧ kids (mkTm h o l) = l ∧ toldOf (mkTm h o l) = o := by
  have len0 : ∀ {l : List Tm}, l.length = 0 → l = [] := fun {l} e => List.eq_nil_of_length_eq_zero e
  have len1 : ∀ {l : List Tm}, l.length = 1 → ∃ a, l = [a] := fun {l} e => List.length_eq_one_iff.mp e
  have len2 : ∀ {l : List Tm}, l.length = 2 → ∃ a b, l = [a, b] := fun {l} e => by
    match l, e with
    | [a, b], _ => exact ⟨a, b, rfl⟩
  have len3 : ∀ {l : List Tm}, l.length = 3 → ∃ a b c, l = [a, b, c] := fun {l} e => by
    match l, e with
    | [a, b, c], _ => exact ⟨a, b, c, rfl⟩
  match h, hh with
  | 0, _ =>
    obtain rfl := len0 hl
    cases o with
    | num i => exact ⟨rfl, rfl, rfl⟩
    | ty a => simp [ToldFits] at ho
    | no => simp [ToldFits] at ho
  | 1, _ =>
    obtain ⟨a, b, rfl⟩ := len2 hl
    cases o with
    | num i => simp [ToldFits] at ho
    | ty a => simp [ToldFits] at ho
    | no => exact ⟨rfl, rfl, rfl⟩
  | 2, _ =>
    obtain ⟨a, rfl⟩ := len1 hl
    cases o with
    | num i => simp [ToldFits] at ho
    | ty a => simp [ToldFits] at ho
    | no => exact ⟨rfl, rfl, rfl⟩
  | 3, _ =>
    obtain ⟨a, rfl⟩ := len1 hl
    cases o with
    | num i => simp [ToldFits] at ho
    | ty a => simp [ToldFits] at ho
    | no => exact ⟨rfl, rfl, rfl⟩
  | 4, _ =>
    obtain ⟨a, rfl⟩ := len1 hl
    cases o with
    | num i => simp [ToldFits] at ho
    | ty a => exact ⟨rfl, rfl, rfl⟩
    | no => simp [ToldFits] at ho
  | 5, _ =>
    obtain ⟨a, rfl⟩ := len1 hl
    cases o with
    | num i => simp [ToldFits] at ho
    | ty a => exact ⟨rfl, rfl, rfl⟩
    | no => simp [ToldFits] at ho
  | 6, _ =>
    obtain ⟨a, b, c, rfl⟩ := len3 hl
    cases o with
    | num i => simp [ToldFits] at ho
    | ty a => simp [ToldFits] at ho
    | no => exact ⟨rfl, rfl, rfl⟩
  | 7, _ =>
    obtain ⟨a, rfl⟩ := len1 hl
    cases o with
    | num i => simp [ToldFits] at ho
    | ty a => exact ⟨rfl, rfl, rfl⟩
    | no => simp [ToldFits] at ho
  | 8, _ =>
    obtain ⟨a, b, rfl⟩ := len2 hl
    cases o with
    | num i => simp [ToldFits] at ho
    | ty a => simp [ToldFits] at ho
    | no => exact ⟨rfl, rfl, rfl⟩
  | 9, _ =>
    obtain rfl := len0 hl
    cases o with
    | num i => simp [ToldFits] at ho
    | ty a => simp [ToldFits] at ho
    | no => exact ⟨rfl, rfl, rfl⟩
  | 10, _ =>
    obtain rfl := len0 hl
    cases o with
    | num i => simp [ToldFits] at ho
    | ty a => simp [ToldFits] at ho
    | no => exact ⟨rfl, rfl, rfl⟩
  | 11, _ =>
    obtain ⟨a, b, c, rfl⟩ := len3 hl
    cases o with
    | num i => simp [ToldFits] at ho
    | ty a => simp [ToldFits] at ho
    | no => exact ⟨rfl, rfl, rfl⟩
theorem told_fits {k h : Nat} {r r' : List Nat} {o : Told} (e : readTold k h r = some (o, r')) : ToldFits h o := by
  unfold readTold at e
  by_cases c : h = 0
  · rw [if_pos c] at e
    cases r with
    | nil => cases e
    | cons i r =>
      cases e
      exact c
  · rw [if_neg c] at e
    by_cases c2 : h = 4 ∨ h = 5 ∨ h = 7
    · rw [if_pos c2] at e
      cases q : readTy k NESTY r with
      | none => rw [q] at e; cases e
      | some x =>
        rw [q] at e
        cases e
        exact c2
    · rw [if_neg c2] at e
      cases e
      exact ⟨c, fun q => c2 (.inl q), fun q => c2 (.inr (.inl q)), fun q => c2 (.inr (.inr q))⟩
theorem kids_read_len {k d : Nat} : ∀ {n : Nat} {r r' : List Nat} {l : List Tm}, readKids k d n r = some (l, r') → l.length = n
  | 0, r, r', l, h => by cases h; rfl
  | n + 1, r, r', l, h => by
    unfold readKids at h
    cases e : readKids k d n r with
    | none => rw [e] at h; cases h
    | some x =>
      obtain ⟨l1, r1⟩ := x
      rw [e] at h
      simp only at h
      cases e2 : readTm k d r1 with
      | none => rw [e2] at h; cases h
      | some y =>
        rw [e2] at h
        cases h
        rw [List.length_append, kids_read_len e]
        rfl
/-- all parts, each ahead of its own -/
def nodes : Tm → List Tm
  | .var k => [.var k]
  | .pair t s => .pair t s :: (nodes t ++ nodes s)
  | .first t => .first t :: nodes t
  | .second t => .second t :: nodes t
  | .left b t => .left b t :: nodes t
  | .right a t => .right a t :: nodes t
  | .cases t u v => .cases t u v :: (nodes t ++ (nodes u ++ nodes v))
  | .lam a t => .lam a t :: nodes t
  | .app t s => .app t s :: (nodes t ++ nodes s)
  | .yes => [.yes]
  | .no => [.no]
  | .if_ c t u => .if_ c t u :: (nodes c ++ (nodes t ++ nodes u))
theorem nodes_eq (t : Tm) : nodes t = t :: (kids t).flatMap nodes := by
  cases t <;> simp [nodes, kids]
theorem nodes_len : ∀ t : Tm, (nodes t).length = t.size
  | .var _ => rfl
  | .pair t s => by simp only [nodes, Tm.size, List.length_cons, List.length_append, nodes_len t, nodes_len s]; omega
  | .first t => by simp only [nodes, Tm.size, List.length_cons, nodes_len t]; omega
  | .second t => by simp only [nodes, Tm.size, List.length_cons, nodes_len t]; omega
  | .left _ t => by simp only [nodes, Tm.size, List.length_cons, nodes_len t]; omega
  | .right _ t => by simp only [nodes, Tm.size, List.length_cons, nodes_len t]; omega
  | .cases t u v => by simp only [nodes, Tm.size, List.length_cons, List.length_append, nodes_len t, nodes_len u, nodes_len v]; omega
  | .lam _ t => by simp only [nodes, Tm.size, List.length_cons, nodes_len t]; omega
  | .app t s => by simp only [nodes, Tm.size, List.length_cons, List.length_append, nodes_len t, nodes_len s]; omega
  | .yes => rfl
  | .no => rfl
  | .if_ c t u => by simp only [nodes, Tm.size, List.length_cons, List.length_append, nodes_len c, nodes_len t, nodes_len u]; omega
/-- how many parts several terms have -/
def sizes (l : List Tm) : Nat := (l.flatMap nodes).length
theorem sizes_nil : sizes [] = 0 := rfl
theorem sizes_cons (t : Tm) (l : List Tm) : sizes (t :: l) = t.size + sizes l := by
  unfold sizes
  rw [List.flatMap_cons, List.length_append, nodes_len]
theorem sizes_snoc (l : List Tm) (t : Tm) : sizes (l ++ [t]) = sizes l + t.size := by
  unfold sizes
  rw [List.flatMap_append, List.length_append, List.flatMap_cons, List.flatMap_nil, List.append_nil, nodes_len]
theorem size_eq (t : Tm) : t.size = 1 + sizes (kids t) := by
  rw [← nodes_len, nodes_eq, List.length_cons]
  unfold sizes
  omega
/-- the numbers of parts that stand one behind another, from n on -/
def nos (n : Nat) : List Tm → List Nat
  | [] => []
  | t :: l => n :: nos (n + t.size) l
theorem nos_snoc (n : Nat) : ∀ (l : List Tm) (t : Tm), nos n (l ++ [t]) = nos n l ++ [n + sizes l]
  | [], t => rfl
  | s :: l, t => by
    show n :: nos (n + s.size) (l ++ [t]) = n :: (nos (n + s.size) l ++ [n + sizes (s :: l)])
    rw [nos_snoc (n + s.size) l t, sizes_cons, Nat.add_assoc]
theorem nos_len (n : Nat) : ∀ l : List Tm, (nos n l).length = l.length
  | [] => rfl
  | t :: l => congrArg (· + 1) (nos_len (n + t.size) l)
def AllAt {α : Type} (P : Nat → α → Prop) (b : Nat) (L : List α) : Prop := ∀ k s, L[k]? = some s → P (b + k) s
theorem AllAt.nil {α : Type} {P : Nat → α → Prop} {b : Nat} : AllAt P b [] := fun k s h => by simp at h
theorem AllAt.cons {α : Type} {P : Nat → α → Prop} {b : Nat} {x : α} {L : List α} : AllAt P b (x :: L) ↔ P b x ∧ AllAt P (b + 1) L := by
  constructor
  · intro h
    refine ⟨h 0 x rfl, fun k s e => ?_⟩
    have := h (k + 1) s e
    rw [show b + 1 + k = b + (k + 1) by omega]
    exact this
  · rintro ⟨h0, h⟩ k s e
    cases k with
    | zero =>
      cases Option.some.inj e
      exact h0
    | succ k =>
      have := h k s e
      rw [show b + 1 + k = b + (k + 1) by omega] at this
      exact this
theorem AllAt.app {α : Type} {P : Nat → α → Prop} : ∀ {b : Nat} {A B : List α}, AllAt P b (A ++ B) ↔ AllAt P b A ∧ AllAt P (b + A.length) B
  | b, [], B => ⟨fun h => ⟨AllAt.nil, h⟩, fun h => h.2⟩
  | b, x :: A, B => by
    rw [List.cons_append, AllAt.cons, AllAt.cons, AllAt.app, List.length_cons, and_assoc, show b + 1 + A.length = b + (A.length + 1) by omega]
theorem AllAt.imp {α : Type} {P Q : Nat → α → Prop} {b : Nat} {L : List α} (h : AllAt P b L) (f : ∀ k s, k < L.length → P (b + k) s → Q (b + k) s) : AllAt Q b L := fun k s e => f k s (List.getElem?_eq_some_iff.mp e).1 (h k s e)
end FC
/-! What is typed, part by part. Plain Lean alone. -/
namespace FC
open Pa05
def inEnv : Tm → List Ty → List Ty
  | .lam a _, l => a :: l
  | _, l => l
def kidsTyped (l : List Ty) : Nat → List Tm → Except Fault (List Ty)
  | _, [] => .ok []
  | n, t :: ts => match typed l n t with
    | .error e => .error e
    | .ok a => match kidsTyped l (n + t.size) ts with
      | .error e => .error e
      | .ok as => .ok (a :: as)
def foundK (l : List Ty) (n : Nat) : Tm → List Ty → Except Fault Ty
  | .var k, _ => match l[k]? with
    | none => .error ⟨n, 1⟩
    | some a => .ok a
  | .pair _ _, [a, b] => .ok (.pair a b)
  | .first _, [.pair a _] => .ok a
  | .first _, [_] => .error ⟨n, 2⟩
  | .second _, [.pair _ b] => .ok b
  | .second _, [_] => .error ⟨n, 2⟩
  | .left b _, [a] => .ok (.either a b)
  | .right a _, [b] => .ok (.either a b)
  | .cases _ _ _, [.either a b, .fn c d, .fn e f] => if a = c ∧ b = e ∧ d = f then .ok d else .error ⟨n, 3⟩
  | .cases _ _ _, [_, _, _] => .error ⟨n, 2⟩
  | .lam a _, [b] => .ok (.fn a b)
  | .app _ _, [.fn a b, c] => if a = c then .ok b else .error ⟨n, 3⟩
  | .app _ _, [_, _] => .error ⟨n, 2⟩
  | .yes, _ => .ok .two
  | .no, _ => .ok .two
  | .if_ _ _ _, [.two, a, b] => if a = b then .ok a else .error ⟨n, 3⟩
  | .if_ _ _ _, [_, _, _] => .error ⟨n, 2⟩
  | _, _ => .ok .two
theorem kt1 (l : List Ty) (n : Nat) (t : Tm) : kidsTyped l n [t] = match typed l n t with
    | .error e => .error e
    | .ok a => .ok [a] := by
  unfold kidsTyped
  cases typed l n t <;> rfl
theorem kt2 (l : List Ty) (n : Nat) (t s : Tm) : kidsTyped l n [t, s] = match typed l n t, typed l (n + t.size) s with
    | .error e, _ => .error e
    | .ok _, .error e => .error e
    | .ok a, .ok b => .ok [a, b] := by
  unfold kidsTyped
  rw [kt1]
  cases typed l n t <;> cases typed l (n + t.size) s <;> rfl
theorem kt3 (l : List Ty) (n : Nat) (t s u : Tm) : kidsTyped l n [t, s, u] = match typed l n t, typed l (n + t.size) s, typed l (n + t.size + s.size) u with
    | .error e, _, _ => .error e
    | .ok _, .error e, _ => .error e
    | .ok _, .ok _, .error e => .error e
    | .ok a, .ok b, .ok c => .ok [a, b, c] := by
  unfold kidsTyped
  rw [kt2]
  cases typed l n t <;> cases typed l (n + t.size) s <;> cases typed l (n + t.size + s.size) u <;> rfl
theorem typed_eq (l : List Ty) (n : Nat) (t : Tm) : typed l n t = match kidsTyped (inEnv t l) (n + 1) (kids t) with
    | .error e => .error e
    | .ok as => foundK l n t as := by
  cases t with
  | var k => rfl
  | pair t s =>
    show typed l n (.pair t s) = match kidsTyped l (n + 1) [t, s] with
      | .error e => .error e
      | .ok as => foundK l n (.pair t s) as
    rw [kt2]
    rw [typed]
    cases typed l (n + 1) t <;> cases typed l (n + 1 + t.size) s <;> rfl
  | first t =>
    show typed l n (.first t) = match kidsTyped l (n + 1) [t] with
      | .error e => .error e
      | .ok as => foundK l n (.first t) as
    rw [kt1]
    rw [typed]
    cases typed l (n + 1) t with
    | error e => rfl
    | ok a => cases a <;> rfl
  | second t =>
    show typed l n (.second t) = match kidsTyped l (n + 1) [t] with
      | .error e => .error e
      | .ok as => foundK l n (.second t) as
    rw [kt1]
    rw [typed]
    cases typed l (n + 1) t with
    | error e => rfl
    | ok a => cases a <;> rfl
  | left b t =>
    show typed l n (.left b t) = match kidsTyped l (n + 1) [t] with
      | .error e => .error e
      | .ok as => foundK l n (.left b t) as
    rw [kt1]
    rw [typed]
    cases typed l (n + 1) t <;> rfl
  | right b t =>
    show typed l n (.right b t) = match kidsTyped l (n + 1) [t] with
      | .error e => .error e
      | .ok as => foundK l n (.right b t) as
    rw [kt1]
    rw [typed]
    cases typed l (n + 1) t <;> rfl
  | cases t u v =>
    show typed l n (.cases t u v) = match kidsTyped l (n + 1) [t, u, v] with
      | .error e => .error e
      | .ok as => foundK l n (.cases t u v) as
    rw [kt3]
    rw [typed]
    cases typed l (n + 1) t with
    | error e => rfl
    | ok a =>
      cases typed l (n + 1 + t.size) u with
      | error e => cases a <;> rfl
      | ok b =>
        cases typed l (n + 1 + t.size + u.size) v with
        | error e => cases a <;> cases b <;> rfl
        | ok c => cases a <;> cases b <;> cases c <;> rfl
  | lam a t =>
    show typed l n (.lam a t) = match kidsTyped (a :: l) (n + 1) [t] with
      | .error e => .error e
      | .ok as => foundK l n (.lam a t) as
    rw [kt1]
    rw [typed]
    cases typed (a :: l) (n + 1) t <;> rfl
  | app t s =>
    show typed l n (.app t s) = match kidsTyped l (n + 1) [t, s] with
      | .error e => .error e
      | .ok as => foundK l n (.app t s) as
    rw [kt2]
    rw [typed]
    cases typed l (n + 1) t with
    | error e => rfl
    | ok a =>
      cases typed l (n + 1 + t.size) s with
      | error e => cases a <;> rfl
      | ok b => cases a <;> rfl
  | yes => rfl
  | no => rfl
  | if_ t u v =>
    show typed l n (.if_ t u v) = match kidsTyped l (n + 1) [t, u, v] with
      | .error e => .error e
      | .ok as => foundK l n (.if_ t u v) as
    rw [kt3]
    rw [typed]
    cases typed l (n + 1) t with
    | error e => rfl
    | ok a =>
      cases typed l (n + 1 + t.size) u with
      | error e => cases a <;> rfl
      | ok b =>
        cases typed l (n + 1 + t.size + u.size) v with
        | error e => cases a <;> rfl
        | ok c => cases a <;> rfl
theorem kt_len {l : List Ty} : ∀ {n : Nat} {ts : List Tm} {as : List Ty}, kidsTyped l n ts = .ok as → as.length = ts.length
  | n, [], as, h => by cases h; rfl
  | n, t :: ts, as, h => by
    unfold kidsTyped at h
    cases e : typed l n t with
    | error f => rw [e] at h; cases h
    | ok a =>
      rw [e] at h
      simp only at h
      cases e2 : kidsTyped l (n + t.size) ts with
      | error f => rw [e2] at h; cases h
      | ok bs =>
        rw [e2] at h
        cases h
        exact congrArg (· + 1) (kt_len e2)
/-- one more part behind those that went well -/
theorem kt_snoc {l : List Ty} {t : Tm} : ∀ {n : Nat} {ts : List Tm} {as : List Ty}, kidsTyped l n ts = .ok as → kidsTyped l n (ts ++ [t]) = match typed l (n + sizes ts) t with
    | .error e => .error e
    | .ok a => .ok (as ++ [a])
  | n, [], as, h => by
    cases h
    show kidsTyped l n [t] = _
    rw [kt1, sizes_nil]
    rfl
  | n, s :: ts, as, h => by
    unfold kidsTyped at h
    show kidsTyped l n (s :: (ts ++ [t])) = _
    rw [kidsTyped]
    cases e : typed l n s with
    | error f => rw [e] at h; cases h
    | ok a =>
      rw [e] at h
      simp only at h
      cases e2 : kidsTyped l (n + s.size) ts with
      | error f => rw [e2] at h; cases h
      | ok bs =>
        rw [e2] at h
        cases h
        rw [kt_snoc e2, sizes_cons]
        rw [show n + (s.size + sizes ts) = n + s.size + sizes ts by omega]
        cases typed l (n + s.size + sizes ts) t <;> rfl
theorem kt_err {l : List Ty} {f : Fault} : ∀ {n : Nat} {ts rest : List Tm}, kidsTyped l n ts = .error f → kidsTyped l n (ts ++ rest) = .error f
  | n, [], rest, h => by cases h
  | n, s :: ts, rest, h => by
    unfold kidsTyped at h
    show kidsTyped l n (s :: (ts ++ rest)) = _
    rw [kidsTyped]
    cases e : typed l n s with
    | error g => rw [e] at h; exact h
    | ok a =>
      rw [e] at h
      simp only at h
      cases e2 : kidsTyped l (n + s.size) ts with
      | error g =>
        rw [e2] at h
        rw [kt_err e2]
        exact h
      | ok bs => rw [e2] at h; cases h
/-- where the parts stand doesn't matter, if all goes well -/
theorem typed_at (t : Tm) : ∀ (l : List Ty) (i j : Nat) (a : Ty), typed l i t = .ok a → typed l j t = .ok a := by
  induction t with
  | var k =>
    intro l i j a h
    rw [typed] at h ⊢
    cases e : l[k]? with
    | none => rw [e] at h; cases h
    | some b => rw [e] at h; exact h
  | pair t s iht ihs =>
    intro l i j a h
    rw [typed] at h ⊢
    cases e1 : typed l (i + 1) t with
    | error f => rw [e1] at h; cases h
    | ok x =>
      cases e2 : typed l (i + 1 + t.size) s with
      | error f => rw [e1, e2] at h; cases h
      | ok y =>
        rw [e1, e2] at h
        rw [iht l _ (j + 1) x e1, ihs l _ (j + 1 + t.size) y e2]
        exact h
  | first t iht =>
    intro l i j a h
    rw [typed] at h ⊢
    cases e1 : typed l (i + 1) t with
    | error f => rw [e1] at h; cases h
    | ok x =>
      rw [e1] at h
      rw [iht l _ (j + 1) x e1]
      cases x <;> first | exact h | cases h
  | second t iht =>
    intro l i j a h
    rw [typed] at h ⊢
    cases e1 : typed l (i + 1) t with
    | error f => rw [e1] at h; cases h
    | ok x =>
      rw [e1] at h
      rw [iht l _ (j + 1) x e1]
      cases x <;> first | exact h | cases h
  | left b t iht =>
    intro l i j a h
    rw [typed] at h ⊢
    cases e1 : typed l (i + 1) t with
    | error f => rw [e1] at h; cases h
    | ok x =>
      rw [e1] at h
      rw [iht l _ (j + 1) x e1]
      exact h
  | right b t iht =>
    intro l i j a h
    rw [typed] at h ⊢
    cases e1 : typed l (i + 1) t with
    | error f => rw [e1] at h; cases h
    | ok x =>
      rw [e1] at h
      rw [iht l _ (j + 1) x e1]
      exact h
  | cases t u v iht ihu ihv =>
    intro l i j a h
    rw [typed] at h ⊢
    cases e1 : typed l (i + 1) t with
    | error f => rw [e1] at h; cases h
    | ok x =>
      cases e2 : typed l (i + 1 + t.size) u with
      | error f => rw [e1, e2] at h; cases h
      | ok y =>
        cases e3 : typed l (i + 1 + t.size + u.size) v with
        | error f => rw [e1, e2, e3] at h; cases h
        | ok z =>
          rw [e1, e2, e3] at h
          rw [iht l _ (j + 1) x e1, ihu l _ (j + 1 + t.size) y e2, ihv l _ (j + 1 + t.size + u.size) z e3]
          cases x <;> cases y <;> cases z <;> first | (simp only at h ⊢; split at h <;> first | (rename_i c; rw [if_pos c]; exact h) | cases h) | cases h
  | lam b t iht =>
    intro l i j a h
    rw [typed] at h ⊢
    cases e1 : typed (b :: l) (i + 1) t with
    | error f => rw [e1] at h; cases h
    | ok x =>
      rw [e1] at h
      rw [iht (b :: l) _ (j + 1) x e1]
      exact h
  | app t s iht ihs =>
    intro l i j a h
    rw [typed] at h ⊢
    cases e1 : typed l (i + 1) t with
    | error f => rw [e1] at h; cases h
    | ok x =>
      cases e2 : typed l (i + 1 + t.size) s with
      | error f => rw [e1, e2] at h; cases h
      | ok y =>
        rw [e1, e2] at h
        rw [iht l _ (j + 1) x e1, ihs l _ (j + 1 + t.size) y e2]
        cases x <;> first | (simp only at h ⊢; split at h <;> first | (rename_i c; rw [if_pos c]; exact h) | cases h) | cases h
  | yes => intro l i j a h; exact h
  | no => intro l i j a h; exact h
  | if_ t u v iht ihu ihv =>
    intro l i j a h
    rw [typed] at h ⊢
    cases e1 : typed l (i + 1) t with
    | error f => rw [e1] at h; cases h
    | ok x =>
      cases e2 : typed l (i + 1 + t.size) u with
      | error f => rw [e1, e2] at h; cases h
      | ok y =>
        cases e3 : typed l (i + 1 + t.size + u.size) v with
        | error f => rw [e1, e2, e3] at h; cases h
        | ok z =>
          rw [e1, e2, e3] at h
          rw [iht l _ (j + 1) x e1, ihu l _ (j + 1 + t.size) y e2, ihv l _ (j + 1 + t.size + u.size) z e3]
          cases x <;> first | (simp only at h ⊢; split at h <;> first | (rename_i c; rw [if_pos c]; exact h) | cases h) | cases h
/-- all parts with what is around them -/
def nodesE : List Ty → Tm → List (List Ty × Tm)
  | l, .var k => [(l, .var k)]
  | l, .pair t s => (l, .pair t s) :: (nodesE l t ++ nodesE l s)
  | l, .first t => (l, .first t) :: nodesE l t
  | l, .second t => (l, .second t) :: nodesE l t
  | l, .left b t => (l, .left b t) :: nodesE l t
  | l, .right a t => (l, .right a t) :: nodesE l t
  | l, .cases t u v => (l, .cases t u v) :: (nodesE l t ++ (nodesE l u ++ nodesE l v))
  | l, .lam a t => (l, .lam a t) :: nodesE (a :: l) t
  | l, .app t s => (l, .app t s) :: (nodesE l t ++ nodesE l s)
  | l, .yes => [(l, .yes)]
  | l, .no => [(l, .no)]
  | l, .if_ c t u => (l, .if_ c t u) :: (nodesE l c ++ (nodesE l t ++ nodesE l u))
theorem nodesE_eq (l : List Ty) (t : Tm) : nodesE l t = (l, t) :: (kids t).flatMap (nodesE (inEnv t l)) := by
  cases t <;> simp [nodesE, kids, inEnv]
theorem nodesE_snd (t : Tm) : ∀ l : List Ty, (nodesE l t).map Prod.snd = nodes t := by
  induction t with
  | var k => intro l; rfl
  | pair t s iht ihs => intro l; simp [nodesE, nodes, iht, ihs]
  | first t iht => intro l; simp [nodesE, nodes, iht]
  | second t iht => intro l; simp [nodesE, nodes, iht]
  | left b t iht => intro l; simp [nodesE, nodes, iht]
  | right b t iht => intro l; simp [nodesE, nodes, iht]
  | cases t u v iht ihu ihv => intro l; simp [nodesE, nodes, iht, ihu, ihv]
  | lam b t iht => intro l; simp [nodesE, nodes, iht]
  | app t s iht ihs => intro l; simp [nodesE, nodes, iht, ihs]
  | yes => intro l; rfl
  | no => intro l; rfl
  | if_ t u v iht ihu ihv => intro l; simp [nodesE, nodes, iht, ihu, ihv]
theorem nodesE_len (l : List Ty) (t : Tm) : (nodesE l t).length = t.size := by
  rw [← nodes_len, ← nodesE_snd t l, List.length_map]
theorem sizesE (l : List Ty) : ∀ ts : List Tm, (ts.flatMap (nodesE l)).length = sizes ts
  | [] => rfl
  | t :: ts => by rw [List.flatMap_cons, List.length_append, nodesE_len, sizesE l ts, sizes_cons]
theorem nos_at (n : Nat) : ∀ (l : List Tm) (j : Nat), j < l.length → (nos n l)[j]? = some (n + sizes (l.take j))
  | [], j, h => by simp at h
  | t :: l, 0, _ => rfl
  | t :: l, j + 1, h => by
    show (nos (n + t.size) l)[j]? = _
    rw [nos_at (n + t.size) l j (by simp at h; omega), List.take_succ_cons, sizes_cons, Nat.add_assoc]
end FC
namespace FC
open PySem PySem.Spec PyProof.Rows L2
open Pa05 (Ty readTm readTy)
abbrev Trm := Pa05.Tm
/-! ### terms in memory -/
/-- what a part is given later -/
structure Dyn where
  kind : V
  ext : V
  wt : V
def d0 : Dyn := ⟨.non, .non, .non⟩
def ptF (h n : Nat) (tv : V) (pl : Addr) (D : Dyn) : List (Str × V) := [("head", .int (h : Int)), ("number", .int (n : Int)), ("told", tv), ("parts", .ref pl), ("kind", D.kind), ("extent", D.ext), ("weight", D.wt)]
section
variable {h n : Nat} {tv : V} {pl : Addr} {D : Dyn}
theorem ptF_head : (ptF h n tv pl D).lookup ("head" : Str) = some (.int (h : Int)) := lk_here
theorem ptF_number : (ptF h n tv pl D).lookup ("number" : Str) = some (.int (n : Int)) := (lk_past (by decide +kernel)).trans lk_here
theorem ptF_told : (ptF h n tv pl D).lookup ("told" : Str) = some tv := (lk_past (by decide +kernel)).trans ((lk_past (by decide +kernel)).trans lk_here)
theorem ptF_parts : (ptF h n tv pl D).lookup ("parts" : Str) = some (.ref pl) := (lk_past (by decide +kernel)).trans ((lk_past (by decide +kernel)).trans ((lk_past (by decide +kernel)).trans lk_here))
theorem ptF_kind : (ptF h n tv pl D).lookup ("kind" : Str) = some D.kind := (lk_past (by decide +kernel)).trans ((lk_past (by decide +kernel)).trans ((lk_past (by decide +kernel)).trans ((lk_past (by decide +kernel)).trans lk_here)))
theorem ptF_extent : (ptF h n tv pl D).lookup ("extent" : Str) = some D.ext := (lk_past (by decide +kernel)).trans ((lk_past (by decide +kernel)).trans ((lk_past (by decide +kernel)).trans ((lk_past (by decide +kernel)).trans ((lk_past (by decide +kernel)).trans lk_here))))
theorem ptF_weight : (ptF h n tv pl D).lookup ("weight" : Str) = some D.wt := (lk_past (by decide +kernel)).trans ((lk_past (by decide +kernel)).trans ((lk_past (by decide +kernel)).trans ((lk_past (by decide +kernel)).trans ((lk_past (by decide +kernel)).trans ((lk_past (by decide +kernel)).trans lk_here)))))
theorem ptF_put_kind (v : V) : putF "kind" v (ptF h n tv pl D) = ptF h n tv pl { D with kind := v } := (put_past (by decide +kernel)).trans (congrArg _ ((put_past (by decide +kernel)).trans (congrArg _ ((put_past (by decide +kernel)).trans (congrArg _ ((put_past (by decide +kernel)).trans (congrArg _ put_here)))))))
theorem ptF_put_ext (v : V) : putF "extent" v (ptF h n tv pl D) = ptF h n tv pl { D with ext := v } := (put_past (by decide +kernel)).trans (congrArg _ ((put_past (by decide +kernel)).trans (congrArg _ ((put_past (by decide +kernel)).trans (congrArg _ ((put_past (by decide +kernel)).trans (congrArg _ ((put_past (by decide +kernel)).trans (congrArg _ put_here)))))))))
theorem ptF_put_wt (v : V) : putF "weight" v (ptF h n tv pl D) = ptF h n tv pl { D with wt := v } := (put_past (by decide +kernel)).trans (congrArg _ ((put_past (by decide +kernel)).trans (congrArg _ ((put_past (by decide +kernel)).trans (congrArg _ ((put_past (by decide +kernel)).trans (congrArg _ ((put_past (by decide +kernel)).trans (congrArg _ ((put_past (by decide +kernel)).trans (congrArg _ put_here)))))))))))
theorem rdF_ptF {l : Addr} {p : Nat} (e : rdF l p = ptF h n tv pl D) : False := by
  have e1 := congrArg Prod.fst (List.cons.inj e).1
  have e2 : (("numbers" : Str) = ("head" : Str)) → False := by decide +kernel
  exact e2 e1
end
def ToldAt (H : Hp) : Told → V → Prop
  | .no, v => v = .non
  | .num n, v => v = .int (n : Int)
  | .ty a, v => ∃ q, v = .ref q ∧ KindAt H a q
theorem ToldAt.mono {H H' : Hp} (t : Tups H H') : ∀ {o : Told} {v : V}, ToldAt H o v → ToldAt H' o v
  | .no, _, h => h
  | .num _, _, h => h
  | .ty _, _, ⟨q, e, k⟩ => ⟨q, e, k.mono t⟩
def KidsAt (ls : List Addr) : List Nat → List Addr → Prop
  | [], [] => True
  | m :: ns, a :: as => ls[m]? = some a ∧ KidsAt ls ns as
  | _, _ => False
theorem KidsAt.len {ls : List Addr} : ∀ {ns : List Nat} {as : List Addr}, KidsAt ls ns as → as.length = ns.length
  | [], [], _ => rfl
  | _ :: _, _ :: _, h => congrArg (· + 1) (KidsAt.len h.2)
  | [], _ :: _, h => h.elim
  | _ :: _, [], h => h.elim
theorem get_app {α : Type} {ls more : List α} {m : Nat} {a : α} (h : ls[m]? = some a) : (ls ++ more)[m]? = some a := by
  rw [List.getElem?_append_left (List.getElem?_eq_some_iff.mp h).1]
  exact h
theorem KidsAt.more {ls more : List Addr} : ∀ {ns : List Nat} {as : List Addr}, KidsAt ls ns as → KidsAt (ls ++ more) ns as
  | [], [], _ => trivial
  | _ :: _, _ :: _, h => ⟨get_app h.1, KidsAt.more h.2⟩
  | [], _ :: _, h => h.elim
  | _ :: _, [], h => h.elim
theorem KidsAt.snoc {ls : List Addr} {m : Nat} {a : Addr} (e : ls[m]? = some a) : ∀ {ns : List Nat} {as : List Addr}, KidsAt ls ns as → KidsAt ls (ns ++ [m]) (as ++ [a])
  | [], [], _ => ⟨e, trivial⟩
  | _ :: _, _ :: _, h => ⟨h.1, KidsAt.snoc e h.2⟩
  | [], _ :: _, h => h.elim
  | _ :: _, [], h => h.elim
theorem KidsAt.at {ls : List Addr} : ∀ {ns : List Nat} {as : List Addr}, KidsAt ls ns as → ∀ {j : Nat} {m : Nat}, ns[j]? = some m → ∃ a, as[j]? = some a ∧ ls[m]? = some a
  | [], [], _, j, m, e => by simp at e
  | _ :: _, a :: _, h, 0, m, e => ⟨a, rfl, by rw [← Option.some.inj e]; exact h.1⟩
  | _ :: _, _ :: _, h, j + 1, m, e => KidsAt.at h.2 (j := j) e
  | [], _ :: _, h, _, _, _ => h.elim
  | _ :: _, [], h, _, _, _ => h.elim
/-- part n: ls tells where the parts lie, D what they were given, G what is told of the lists of their own parts -/
def PartAt (C : Addr) (H : Hp) (G : Addr → Prop) (ls : List Addr) (D : Nat → Dyn) (n : Nat) (t : Trm) : Prop := ∃ (a dx pl : Addr) (tv : V) (as : List Addr), ls[n]? = some a ∧ H a = some (.ins C dx (ptF (hd t) n tv pl (D n))) ∧ G pl ∧ H pl = some (.lst (as.map V.ref)) ∧ KidsAt ls (nos (n + 1) (kids t)) as ∧ ToldAt H (toldOf t) tv
def TermAt (C : Addr) (H : Hp) (G : Addr → Prop) (ls : List Addr) (D : Nat → Dyn) (b : Nat) (t : Trm) : Prop := AllAt (PartAt C H G ls D) b (nodes t)
def But2 (a c : Addr) (H H' : Hp) : Prop := ∀ b o, H b = some o → b ≠ a → b ≠ c → H' b = some o
theorem But2.refl {a c : Addr} {H : Hp} : But2 a c H H := fun _ _ e _ _ => e
theorem But2.trans {a c : Addr} {H H1 H2 : Hp} (x : But2 a c H H1) (y : But2 a c H1 H2) : But2 a c H H2 := fun b o e h1 h2 => y b o (x b o e h1 h2) h1 h2
theorem But.two {a c : Addr} {H H1 : Hp} (x : But a H H1) : But2 a c H H1 := fun b o e h1 _ => x b o e h1
theorem But.two' {a c : Addr} {H H1 : Hp} (x : But c H H1) : But2 a c H H1 := fun b o e _ h2 => x b o e h2
theorem Same.two {a c : Addr} {H H1 : Hp} (x : Same H H1) : But2 a c H H1 := fun b o e _ _ => x b o e
theorem But2.seq {K : PySem.W.Frag} {H H' : Hp} {a c l C dx : Addr} {fs : List (Str × V)} {xs : List V} (b : But2 a c H H') (ha : H a = some (.ins C dx fs)) (hl : l ≠ c) (hs : SqL K H l xs) : SqL K H' l xs := by
  rcases hs with (h | ⟨u, h⟩) | h
  · exact .inl (.inl (b _ _ h (fun e => by rw [e, ha] at h; cases h) hl))
  · exact .inl (.inr ⟨u, b _ _ h (fun e => by rw [e, ha] at h; cases h) hl⟩)
  · exact .inr h
theorem But2.tups {H H' : Hp} {a c C dx : Addr} {fs : List (Str × V)} {ys : List V} (b : But2 a c H H') (ha : H a = some (.ins C dx fs)) (hc : H c = some (.lst ys)) : Tups H H' := fun x xs e => b x _ e (fun q => by rw [q, ha] at e; cases e) (fun q => by rw [q, hc] at e; cases e)
/-- what is free behind was free ahead, where both still hold something -/
theorem But2.free {H H' : Hp} {a c : Addr} {o u : HO} (b : But2 a c H H') (ha : H' a = some o) (hc : H' c = some u) {x : Addr} (e : H' x = none) : H x = none := by
  cases q : H x with
  | none => rfl
  | some v =>
    by_cases h1 : x = a
    · rw [h1, ha] at e; cases e
    · by_cases h2 : x = c
      · rw [h2, hc] at e; cases e
      · rw [b x v q h1 h2] at e; cases e
/-- a part stays, where a reader, a list and another list change -/
theorem PartAt.keep {C : Addr} {H H' : Hp} {G G' : Addr → Prop} {ls more : List Addr} {D : Nat → Dyn} {n : Nat} {t : Trm} {rd fo p0 Cr dr l : Addr} {p : Nat} {xs ys : List V} (x : PartAt C H G ls D n t)
    (hr : H rd = some (.ins Cr dr (rdF l p))) (hf : H fo = some (.lst xs)) (hp : H p0 = some (.lst ys)) (hG : ∀ b, G b → b ≠ fo ∧ b ≠ p0) (hG' : ∀ b, G b → G' b)
    (k : ∀ b o, H b = some o → b ≠ rd → b ≠ fo → b ≠ p0 → H' b = some o) : PartAt C H' G' (ls ++ more) D n t := by
  obtain ⟨a, dx, pl, tv, as, h1, h2, h3, h4, h5, h6⟩ := x
  obtain ⟨g1, g2⟩ := hG pl h3
  refine ⟨a, dx, pl, tv, as, get_app h1, k _ _ h2 ?_ ?_ ?_, hG' _ h3, k _ _ h4 ?_ g1 g2, h5.more, h6.mono fun c zs e => k _ _ e ?_ ?_ ?_⟩
  · intro e
    rw [e, hr] at h2
    have := Option.some.inj h2
    injection this with _ _ e3
    exact rdF_ptF e3
  · intro e; rw [e, hf] at h2; cases h2
  · intro e; rw [e, hp] at h2; cases h2
  · intro e; rw [e, hr] at h4; cases h4
  · intro q; rw [q, hr] at e; cases e
  · intro q; rw [q, hf] at e; cases e
  · intro q; rw [q, hp] at e; cases e
/-- the types told in a term -/
def TmOk (k : Nat) (t : Trm) : Prop := ∀ s ∈ nodes t, ∀ a, toldOf s = .ty a → TyOk k a ∧ dp a ≤ 6
theorem tdp_le {t : Trm} {d : Nat} (h : ∀ s ∈ kids t, tdp s ≤ d) : tdp t ≤ d + 1 := by
  cases t with
  | var i => show 1 ≤ d + 1; omega
  | pair t s => have h1 := h t (by simp [kids]); have h2 := h s (by simp [kids]); show max _ _ + 1 ≤ _; omega
  | first t => have h1 := h t (by simp [kids]); show _ + 1 ≤ _; omega
  | second t => have h1 := h t (by simp [kids]); show _ + 1 ≤ _; omega
  | left b t => have h1 := h t (by simp [kids]); show _ + 1 ≤ _; omega
  | right b t => have h1 := h t (by simp [kids]); show _ + 1 ≤ _; omega
  | cases t u v => have h1 := h t (by simp [kids]); have h2 := h u (by simp [kids]); have h3 := h v (by simp [kids]); show max _ (max _ _) + 1 ≤ _; omega
  | lam b t => have h1 := h t (by simp [kids]); show _ + 1 ≤ _; omega
  | app t s => have h1 := h t (by simp [kids]); have h2 := h s (by simp [kids]); show max _ _ + 1 ≤ _; omega
  | yes => show 1 ≤ d + 1; omega
  | no => show 1 ≤ d + 1; omega
  | if_ t u v => have h1 := h t (by simp [kids]); have h2 := h u (by simp [kids]); have h3 := h v (by simp [kids]); show max _ (max _ _) + 1 ≤ _; omega
theorem read_len (k : Nat) : ∀ (d : Nat) (r : List Nat) (a : Ty) (r' : List Nat), readTy k d r = some (a, r') → r'.length + 1 ≤ r.length
  | 0, _, _, _, h => by cases h
  | d + 1, r, a, r', h => by
    match r, h with
    | 0 :: i :: r, h =>
      rw [rt_var] at h
      split at h
      · cases h
        simp
      · cases h
    | 1 :: r, h =>
      cases (show some (Pa05.Ty.two, r) = some (a, r') from h)
      simp
    | [], h => cases h
    | [0], h => cases h
    | (n + 2) :: r, h =>
      by_cases c : 4 < n + 2
      · rw [rt_bad k d (n + 2) r c] at h
        cases h
      · have hh : n + 2 = 2 ∨ n + 2 = 3 ∨ n + 2 = 4 := by omega
        rw [rt_bin k d (n + 2) r hh] at h
        obtain ⟨x, r1, y, h1, h2, rfl⟩ := then_some h
        have q1 := read_len k d r x r1 h1
        have q2 := read_len k d r1 y r' h2
        simp
        omega
theorem told_ok {k h : Nat} {r r' : List Nat} {o : Told} (e : readTold k h r = some (o, r')) : (∀ a, o = .ty a → TyOk k a ∧ dp a ≤ 6) ∧ r'.length ≤ r.length := by
  unfold readTold at e
  by_cases c : h = 0
  · rw [if_pos c] at e
    cases r with
    | nil => cases e
    | cons i r =>
      cases e
      exact ⟨fun a q => (by cases q), by simp⟩
  · rw [if_neg c] at e
    by_cases c2 : h = 4 ∨ h = 5 ∨ h = 7
    · rw [if_pos c2] at e
      cases q : readTy k Pa05.NESTY r with
      | none => rw [q] at e; cases e
      | some x =>
        obtain ⟨a, r1⟩ := x
        rw [q] at e
        cases e
        refine ⟨fun a' q' => ?_, ?_⟩
        · cases q'
          exact read_ok k 6 r a _ q
        · have := read_len k 6 r a _ q
          show r1.length ≤ r.length
          omega
    · rw [if_neg c2] at e
      cases e
      exact ⟨fun a q => (by cases q), Nat.le_refl _⟩
theorem tm_read_ok (k : Nat) : ∀ (d : Nat) (r : List Nat) (t : Trm) (r' : List Nat), readTm k d r = some (t, r') → TmOk k t ∧ tdp t ≤ d ∧ t.size + r'.length ≤ r.length
  | 0, _, _, _, h => by cases h
  | d + 1, [], _, _, h => by cases h
  | d + 1, h0 :: r, t, r', h => by
    by_cases c : 11 < h0
    · rw [rm_bad k d h0 r c] at h
      cases h
    · rw [rm_eq k d h0 r (by omega)] at h
      unfold readAll at h
      cases e1 : readTold k h0 r with
      | none => rw [e1] at h; cases h
      | some x =>
        obtain ⟨o, r1⟩ := x
        rw [e1] at h
        simp only at h
        cases e2 : readKids k d (cnt h0) r1 with
        | none => rw [e2] at h; cases h
        | some y =>
          obtain ⟨l, r2⟩ := y
          rw [e2] at h
          cases h
          have kl := kids_read_len e2
          obtain ⟨m1, m2, m3⟩ := mk_parts (by omega) (told_fits e1) kl
          obtain ⟨o1, o2⟩ := told_ok e1
          have all : ∀ (n : Nat) (r1 r2 : List Nat) (l : List Trm), readKids k d n r1 = some (l, r2) → (∀ s ∈ l, TmOk k s ∧ tdp s ≤ d) ∧ sizes l + r2.length ≤ r1.length := by
            intro n
            induction n with
            | zero =>
              intro r1 r2 l h
              cases h
              exact ⟨fun s hs => (by cases hs), by simp [sizes]⟩
            | succ n ih =>
              intro r1 r2 l h
              unfold readKids at h
              cases e3 : readKids k d n r1 with
              | none => rw [e3] at h; cases h
              | some z =>
                obtain ⟨l1, r3⟩ := z
                rw [e3] at h
                simp only at h
                cases e4 : readTm k d r3 with
                | none => rw [e4] at h; cases h
                | some z =>
                  obtain ⟨u, r4⟩ := z
                  rw [e4] at h
                  cases h
                  obtain ⟨i1, i2⟩ := ih _ _ _ e3
                  obtain ⟨j1, j2, j3⟩ := tm_read_ok k d r3 u _ e4
                  refine ⟨fun s hs => ?_, ?_⟩
                  · rcases List.mem_append.mp hs with q | q
                    · exact i1 s q
                    · rw [List.mem_singleton.mp q]
                      exact ⟨j1, j2⟩
                  · show sizes (l1 ++ [u]) + _ ≤ _
                    rw [sizes_snoc]
                    show sizes l1 + u.size + r4.length ≤ r1.length
                    omega
          obtain ⟨a1, a2⟩ := all _ _ _ _ e2
          refine ⟨?_, ?_, ?_⟩
          · intro s hs a ha
            rw [nodes_eq] at hs
            rcases List.mem_cons.mp hs with q | q
            · rw [q, m3] at ha
              exact o1 a ha
            · rw [m2] at q
              obtain ⟨u, hu, hs'⟩ := List.mem_flatMap.mp q
              exact (a1 u hu).1 s hs' a ha
          · refine tdp_le fun s hs => ?_
            rw [m2] at hs
            exact (a1 s hs).2
          · rw [size_eq, m2]
            simp
            omega
theorem kids_none {k d : Nat} {r : List Nat} {j : Nat} (h : readKids k d j r = none) : ∀ n, j ≤ n → readKids k d n r = none := by
  intro n hn
  induction n with
  | zero =>
    have : j = 0 := by omega
    subst this
    exact h
  | succ n ih =>
    by_cases c : j = n + 1
    · rw [← c]; exact h
    · unfold readKids
      rw [ih (by omega)]
theorem in3 (h : Nat) : inV (.int (h : Int)) [.int 4, .int 5, .int 7] = decide (h = 4 ∨ h = 5 ∨ h = 7) := by
  show ((4 : Int) == (h : Int) || ((5 : Int) == (h : Int) || ((7 : Int) == (h : Int) || false))) = _
  have e : ∀ z : Nat, ((z : Int) == (h : Int)) = decide (h = z) := fun z => by
    by_cases c : h = z
    · rw [c]; simp
    · rw [decide_eq_false c]
      exact beq_eq_false_iff_ne.mpr (fun q => c (by omega))
  have e4 := e 4
  have e5 := e 5
  have e7 := e 7
  rw [show ((4 : Int) == (h : Int)) = decide (h = 4) from e4, show ((5 : Int) == (h : Int)) = decide (h = 5) from e5, show ((7 : Int) == (h : Int)) = decide (h = 7) from e7, Bool.or_false]
  by_cases c4 : h = 4 <;> by_cases c5 : h = 5 <;> by_cases c7 : h = 7 <;> simp [c4, c5, c7]
section
variable {P : Program} {w : World} {K : PySem.W.Frag} {mg : Str → Option Value} {base : Heap}
def pt2 (h n : Nat) : List (Str × V) := [("head", .int (h : Int)), ("number", .int (n : Int))]
def pt3 (h n : Nat) (tv : V) : List (Str × V) := [("head", .int (h : Int)), ("number", .int (n : Int)), ("told", tv)]
def pt4 (h n : Nat) (tv : V) (pl : Addr) : List (Str × V) := [("head", .int (h : Int)), ("number", .int (n : Int)), ("told", tv), ("parts", .ref pl)]
def pt5 (h n : Nat) (tv : V) (pl : Addr) : List (Str × V) := [("head", .int (h : Int)), ("number", .int (n : Int)), ("told", tv), ("parts", .ref pl), ("kind", .non)]
def pt6 (h n : Nat) (tv : V) (pl : Addr) : List (Str × V) := [("head", .int (h : Int)), ("number", .int (n : Int)), ("told", tv), ("parts", .ref pl), ("kind", .non), ("extent", .non)]
def sp_Part_init (T : Txt K mg) : Sp := fun vs H Q _ => ∃ (x dx : Addr) (h n : Nat) (tv : V), vs = [.ref x, .int (h : Int), .int (n : Int), tv] ∧ H x = some (.ins T.C_Part dx []) ∧
  ∀ (H' : Hp) (pl : Addr), H pl = none → H' x = some (.ins T.C_Part dx (ptF h n tv pl d0)) → H' pl = some (.lst []) → But x H H' → Q .non H'
theorem ok_Part_init (T : Txt K mg) : FnOk P w K mg base CX0 1 T.f_Part_init T.fd_Part_init ["self", "head", "number", "told"] (sp_Part_init T) := by
  refine T.F_Part_init.ok sc_Part_init (fun vs H Q E h => ?_) (fun cdv A outer s H vs Q E hr h => ⟨_, (pss_cons (ps_fld (pv 0) (pv 1) rfl)
    (pss_cons (ps_fld (pv 0) (pv 2) rfl)
    (pss_cons (ps_fld (pv 0) (pv 3) rfl)
    (pss_cons (ps_fld (pv 0) (pe_lst pa_nil) rfl)
    (pss_cons (ps_fld (pv 0) pe_non rfl)
    (pss_cons (ps_fld (pv 0) pe_non rfl)
    (pss_one (ps_fld (pv 0) pe_non rfl)))))))), ?_⟩)
  · obtain ⟨x, dx, h, n, tv, rfl, _⟩ := h
    rfl
  · obtain ⟨x, dx, h, n, tv, rfl, hx, k⟩ := h
    refine ⟨_, rfl, _, rfl, x, _, dx, [], rfl, hx, T.cl_Part, T.n_Part_head, (by show 0 < 1000; decide), ?_⟩
    refine ⟨_, rfl, _, rfl, x, _, dx, _, rfl, upd_same, T.cl_Part, T.n_Part_number, (by show 1 < 1000; decide), ?_⟩
    refine ⟨_, rfl, _, rfl, x, _, dx, _, rfl, upd_same, T.cl_Part, T.n_Part_told, (by show 2 < 1000; decide), ?_⟩
    have e3 : putF "told" tv (putF "number" (.int (n : Int)) (putF "head" (.int (h : Int)) [])) = (pt3 h n tv) := by
      have e1 : putF "number" (.int (n : Int)) (putF "head" (.int (h : Int)) []) = pt2 h n := (put_past (by decide +kernel)).trans rfl
      rw [e1]
      exact (put_past (by decide +kernel)).trans (congrArg _ ((put_past (by decide +kernel)).trans rfl))
    rw [e3, upd_upd, upd_upd]
    refine ⟨(by show 0 ≤ sizeLine; decide), fun pl hpl => ?_⟩
    have hxp : x ≠ pl := fun q => by rw [← q, upd_same] at hpl; cases hpl
    have hpl0 : H pl = none := by rw [upd_ne hxp.symm] at hpl; exact hpl
    have c1 : upd (upd H x (.ins T.C_Part dx (pt3 h n tv))) pl (.lst []) x = some (.ins T.C_Part dx (pt3 h n tv)) := by rw [upd_ne hxp, upd_same]
    refine ⟨_, rfl, x, _, dx, _, rfl, c1, T.cl_Part, T.n_Part_parts, (by show 3 < 1000; decide), ?_⟩
    refine ⟨_, rfl, x, _, dx, _, rfl, upd_same, T.cl_Part, T.n_Part_kind, (by show 4 < 1000; decide), ?_⟩
    refine ⟨_, rfl, x, _, dx, _, rfl, upd_same, T.cl_Part, T.n_Part_extent, (by show 5 < 1000; decide), ?_⟩
    refine ⟨_, rfl, x, _, dx, _, rfl, upd_same, T.cl_Part, T.n_Part_weight, (by show 6 < 1000; decide), ?_⟩
    rw [upd_upd, upd_upd, upd_upd]
    refine k _ pl hpl0 (Eq.trans upd_same ?_) ?_ ?_
    · refine congrArg (fun q => some (HO.ins T.C_Part dx q)) ?_
      have e4 : putF "parts" (.ref pl) (pt3 h n tv) = (pt4 h n tv pl) := (put_past (by decide +kernel)).trans (congrArg _ ((put_past (by decide +kernel)).trans (congrArg _ ((put_past (by decide +kernel)).trans rfl))))
      have e5 : putF "kind" .non (pt4 h n tv pl) = (pt5 h n tv pl) := (put_past (by decide +kernel)).trans (congrArg _ ((put_past (by decide +kernel)).trans (congrArg _ ((put_past (by decide +kernel)).trans (congrArg _ ((put_past (by decide +kernel)).trans rfl))))))
      have e6 : putF "extent" .non (pt5 h n tv pl) = (pt6 h n tv pl) := (put_past (by decide +kernel)).trans (congrArg _ ((put_past (by decide +kernel)).trans (congrArg _ ((put_past (by decide +kernel)).trans (congrArg _ ((put_past (by decide +kernel)).trans (congrArg _ ((put_past (by decide +kernel)).trans rfl))))))))
      rw [e4, e5, e6]
      exact (put_past (by decide +kernel)).trans (congrArg _ ((put_past (by decide +kernel)).trans (congrArg _ ((put_past (by decide +kernel)).trans (congrArg _ ((put_past (by decide +kernel)).trans (congrArg _ ((put_past (by decide +kernel)).trans (congrArg _ ((put_past (by decide +kernel)).trans rfl))))))))))
    · rw [upd_ne hxp.symm, upd_same]
    · intro b o e hb
      rw [upd_ne hb, upd_ne (fun q => by rw [q, hpl0] at e; cases e), upd_ne hb]
      exact e
def sp_read_told (T : Txt K mg) : Sp := fun vs H Q E => ∃ (a dx l : Addr) (r : List Nat) (p k h : Nat), vs = [.ref a, .int (h : Int), .int (k : Int)] ∧ H a = some (.ins T.C_Reader dx (rdF l p)) ∧ SqL K H l (nats r) ∧ p ≤ r.length ∧
  (readTold k h (r.drop p) = none → ∀ H' : Hp, But a H H' → E (.ref T.C_Unfit) none H') ∧
  (∀ o rest, readTold k h (r.drop p) = some (o, rest) → ∀ (H' : Hp) (v : V) (p' : Nat), p' ≤ r.length → r.drop p' = rest → H' a = some (.ins T.C_Reader dx (rdF l p')) → But a H H' → ToldAt H' o v → Q v H')
theorem ok_read_told (T : Txt K mg) : FnOk P w K mg base (L2.CX P w) 12 T.f_read_told T.fd_read_told ["reader", "head", "variables"] (sp_read_told T) := by
  obtain ⟨ds_read_kind, rv_read_kind, bd_read_kind⟩ := T.d_read_kind
  refine T.F_read_told.okX sc_read_told (fun vs H Q E h => ?_) (fun cdv A outer s H vs Q E hr h => ⟨_, (pss_cons (ps_if (pt_cmpR op_eq (pv 1) (pe_cst rfl T.g_VARIABLE_TERM) (nomark _))
      (pss_one (ps_ret (pe_meth0 (pv 0) T.cl_Reader T.m_Reader_take (ok_Reader_take T) (hr.mono (by decide)) T.b_Reader_take .nil (passes_call (takes_of rfl rfl rfl rfl) (fun _ _ _ _ h => h)))))
      pss_nil)
    (pss_cons (ps_if (pt_cmpR op_in_seq (pv 1) (pe_tup (pa_cons (pe_cst rfl T.g_LEFT) (pa_cons (pe_cst rfl T.g_RIGHT) (pa_cons (pe_cst rfl T.g_FUNCTION_TERM) pa_nil)))) rfl)
      (pss_one (ps_ret (pe_call (ok_read_kind T 6) (hr.mono (by decide)) rfl T.g_read_kind T.k_read_kind bd_read_kind rv_read_kind (passes_call (takes_of rfl rfl rfl rfl) (fun _ _ _ _ h => h)) (pa_cons (pv 0) (pa_cons (pv 2) pa_nil)))))
      pss_nil)
    (pss_one (ps_ret pe_non)))), ?_⟩)
  · obtain ⟨a, dx, l, r, p, k, h, rfl, _⟩ := h
    rfl
  · obtain ⟨a, dx, l, r, p, k, h, rfl, ha, hs, hp, kE, kQ⟩ := h
    unfold readTold at kE kQ
    refine ⟨_, rfl, rfl, _, rfl, ?_⟩
    by_cases c0 : h = 0
    · subst c0
      refine if_true_of rfl ?_
      rw [if_pos rfl] at kE kQ
      rw [nats_map] at hs
      refine ⟨_, rfl, a, dx, _, rfl, ha, rdF_no l p, a, dx, l, _, p, rfl, ha, hs, (fun q => ?_), (fun z hz => ?_)⟩
      · rw [List.length_map] at q
        refine kE ?_ H (fun _ _ e _ => e)
        rw [List.drop_eq_nil_of_le q]
      · obtain ⟨z', hz', rfl⟩ := nat_at hz
        refine kQ (.num z') (r.drop (p + 1)) ?_ _ _ (p + 1) (List.getElem?_eq_some_iff.mp hz').1 rfl upd_same But.upd1 rfl
        rw [drop_at hz']
    · refine if_false_of (decide_eq_false (fun q => by injection q with q; omega)) ?_
      rw [if_neg c0] at kE kQ
      refine ⟨_, rfl, (by show 3 ≤ sizeLine; decide), fun t ht => ?_⟩
      have sT : Same H (upd H t (.tup [.int 4, .int 5, .int 7])) := Same.new ht
      have cT : upd H t (.tup [.int 4, .int 5, .int 7]) t = some (.tup [.int 4, .int 5, .int 7]) := upd_same
      generalize upd H t (.tup [.int 4, .int 5, .int 7]) = H1 at sT cT ⊢
      refine ⟨t, _, rfl, .inr (SqT.of cT), rfl, rfl, _, rfl, ?_⟩
      by_cases c4 : h = 4 ∨ h = 5 ∨ h = 7
      · refine if_true_of ((in3 h).trans (decide_eq_true c4)) ?_
        rw [if_pos c4] at kE kQ
        have ha1 := sT _ _ ha
        refine ⟨_, rfl, _, rfl, a, dx, l, r, p, k, rfl, by decide, ha1, sT.seq hs, hp, (fun e H' b => ?_), (fun ty rest e H' q p' hp' hd ha' b hq => ?_)⟩
        · refine kE ?_ H' (But.trans (Same.but sT) b)
          show Option.map _ (readTy k 6 (r.drop p)) = none
          rw [e]
          rfl
        · refine kQ (.ty ty) rest ?_ H' _ p' hp' hd ha' (But.trans (Same.but sT) b) ⟨q, rfl, hq⟩
          show Option.map _ (readTy k 6 (r.drop p)) = _
          rw [e]
          rfl
      · refine if_false_of ((in3 h).trans (decide_eq_false c4)) ?_
        rw [if_neg c4] at kQ
        exact kQ .no (r.drop p) rfl H1 .non p hp rfl (sT _ _ ha) (Same.but sT) rfl
end
end FC
namespace FC
open PySem PySem.Spec PyProof.Rows L2
open Pa05 (Ty readTm readTy)
theorem kids_succ {k d n : Nat} {r r1 : List Nat} {l : List Trm} (h : readKids k d n r = some (l, r1)) : readKids k d (n + 1) r = (readTm k d r1).map fun x => (l ++ [x.1], x.2) := by
  show (match readKids k d n r with
    | none => none
    | some (l, r1) => (readTm k d r1).map fun (x : Pa05.Tm × List Nat) => (l ++ [x.1], x.2)) = _
  rw [h]
theorem cnt_at {h : Nat} (hh : h ≤ 11) : ([.int 0, .int 2, .int 1, .int 1, .int 1, .int 1, .int 3, .int 1, .int 2, .int 0, .int 0, .int 3] : List V)[h]? = some (.int ((cnt h : Nat) : Int)) := by
  match h, hh with
  | 0, _ => rfl
  | 1, _ => rfl
  | 2, _ => rfl
  | 3, _ => rfl
  | 4, _ => rfl
  | 5, _ => rfl
  | 6, _ => rfl
  | 7, _ => rfl
  | 8, _ => rfl
  | 9, _ => rfl
  | 10, _ => rfl
  | 11, _ => rfl
theorem cnt_le (h : Nat) : cnt h ≤ 3 := by
  by_cases c : h ≤ 11
  · match h, c with
    | 0, _ => decide
    | 1, _ => decide
    | 2, _ => decide
    | 3, _ => decide
    | 4, _ => decide
    | 5, _ => decide
    | 6, _ => decide
    | 7, _ => decide
    | 8, _ => decide
    | 9, _ => decide
    | 10, _ => decide
    | 11, _ => decide
  · unfold cnt
    rw [List.getD_eq_getElem?_getD, List.getElem?_eq_none (by show 12 ≤ h; omega)]
    show 0 ≤ 3
    omega
section
variable {P : Program} {w : World} {K : PySem.W.Frag} {mg : Str → Option Value} {base : Heap}
def D0 : Nat → Dyn := fun _ => d0
/-- d: how many depths are left -/
def sp_read_term (T : Txt K mg) (d : Nat) : Sp := fun vs H Q E => ∃ (rd dr l fo : Addr) (r : List Nat) (p k : Nat) (ls : List Addr), vs = [.ref rd, .int (k : Int), .int ((21 - d : Nat) : Int), .ref fo] ∧ d ≤ 20 ∧ H rd = some (.ins T.C_Reader dr (rdF l p)) ∧ SqL K H l (nats r) ∧ l ≠ fo ∧ p ≤ r.length ∧ r.length ≤ 100 ∧
  H fo = some (.lst (ls.map V.ref)) ∧ ls.length ≤ p ∧ ls.Nodup ∧ (∀ a ∈ ls, ∃ o, H a = some o) ∧
  (readTm k d (r.drop p) = none → ∀ H' : Hp, But2 rd fo H H' → E (.ref T.C_Unfit) none H') ∧
  (∀ t rest, readTm k d (r.drop p) = some (t, rest) → ∀ (H' : Hp) (a : Addr) (new : List Addr) (p' : Nat), p' ≤ r.length → r.drop p' = rest → H' rd = some (.ins T.C_Reader dr (rdF l p')) → H' fo = some (.lst ((ls ++ new).map V.ref)) → new.length = t.size → (ls ++ new)[ls.length]? = some a → (ls ++ new).Nodup → (∀ b ∈ new, H b = none) → (∀ b ∈ new, ∃ o, H' b = some o) → (ls ++ new).length ≤ p' →
    TermAt T.C_Part H' (fun b => H b = none) (ls ++ new) D0 ls.length t → But2 rd fo H H' → Q (.ref a) H')
theorem ok_read_term (T : Txt K mg) : ∀ d, FnOk P w K mg base (L2.CX P w) (d + 13) T.f_read_term T.fd_read_term ["reader", "variables", "depth", "found"] (sp_read_term T d) := by
  intro d
  induction d with
  | zero =>
    refine T.F_read_term.okX sc_read_term (fun vs H Q E h => ?_) (fun cdv A outer s H vs Q E hr h => ⟨_, (pss_cons (ps_if (pt_cmpR op_gt (pv 2) (pe_cst rfl T.g_DEEPEST_TERM) (nomark _))
        (pss_one (ps_raise rfl (takes_of rfl rfl rfl rfl) (pmk_own0 PySem.F.excBase_Exception T.x_Unfit T.g_Unfit T.k_Unfit (raises_own T.b_Unfit T.t_Unfit) rfl)))
        pss_nil)
      (pss_cons ps_never (pss_cons ps_never (pss_cons ps_never (pss_cons ps_never (pss_cons ps_never (pss_one ps_never))))))), ?_⟩)
    · obtain ⟨rd, dr, l, fo, r, p, k, ls, rfl, _⟩ := h
      rfl
    · obtain ⟨rd, dr, l, fo, r, p, k, ls, rfl, hd, _, _, _, _, _, _, _, _, _, kE, kQ⟩ := h
      refine ⟨_, rfl, _, _, rfl, rfl, _, rfl, if_true_of rfl ?_⟩
      exact kE rfl H But2.refl
  | succ d ih =>
    refine T.F_read_term.okX sc_read_term (fun vs H Q E h => ?_) (fun cdv A outer s H vs Q E hr h => ⟨_, (pss_cons (ps_if (pt_cmpR op_gt (pv 2) (pe_cst rfl T.g_DEEPEST_TERM) (nomark _))
      (pss_one (ps_raise rfl (takes_of rfl rfl rfl rfl) (pmk_own0 PySem.F.excBase_Exception T.x_Unfit T.g_Unfit T.k_Unfit (raises_own T.b_Unfit T.t_Unfit) rfl)))
      pss_nil)
    (pss_cons (ps_set (i := 4) sc_read_term.nd rfl (Or.inl rfl) (pe_meth0 (pv 0) T.cl_Reader T.m_Reader_take (ok_Reader_take T) (hr.mono (by omega)) T.b_Reader_take .nil (passes_call (takes_of rfl rfl rfl rfl) (fun _ _ _ _ h => h))))
    (pss_cons (ps_if (pt_cmpR op_gt (pv 4) (pe_cst rfl T.g_IF) (nomark _))
      (pss_one (ps_raise rfl (takes_of rfl rfl rfl rfl) (pmk_own0 PySem.F.excBase_Exception T.x_Unfit T.g_Unfit T.k_Unfit (raises_own T.b_Unfit T.t_Unfit) rfl)))
      pss_nil)
    (pss_cons (ps_set (i := 5) sc_read_term.nd rfl (Or.inl rfl) (pe_make T.mk_Part (ok_Part_init T) (hr.mono (by omega)) rfl T.g_Part T.b_Part_init .nil pass0 (pa_cons (pv 4) (pa_cons (pe_callB call_len_seq rfl T.n_len (by decide +kernel) (pa_cons (pv 3) pa_nil)) (pa_cons (pe_call (ok_read_told T) (hr.mono (by omega)) rfl T.g_read_told T.k_read_told T.b_read_told .nil (passes_call (takes_of rfl rfl rfl rfl) (fun _ _ _ _ h => h)) (pa_cons (pv 0) (pa_cons (pv 4) (pa_cons (pv 1) pa_nil)))) pa_nil)))))
    (pss_cons (ps_expr (pe_bm PySem.F.plainAttrs_list PySem.F.slot_list_append PySem.F.type_list_append mt_append (pv 3) (pa_cons (pv 5) pa_nil)))
    (pss_cons (ps_for (passes_of rfl) rfl (pi_range1 rfl T.n_range (pa_cons (pe_ix ix_tup (pe_cst (v := .ref T.t_PART_COUNTS) rfl ⟨_, T.g_PART_COUNTS, rfl⟩) (pv 4) (fun _ _ => rfl)) pa_nil)) (pg_name (i := 6) sc_read_term.nd rfl (Or.inl rfl))
      (pss_one (ps_expr (pe_bm PySem.F.plainAttrs_list PySem.F.slot_list_append PySem.F.type_list_append mt_append (pe_fld (pv 5) rfl) (pa_cons (pe_call ih hr rfl T.g_read_term T.k_read_term T.b_read_term .nil (passes_call (takes_of rfl rfl rfl rfl) (fun _ _ _ _ h => h)) (pa_cons (pv 0) (pa_cons (pv 1) (pa_cons (pe_op op_add (pv 2) pe_int) (pa_cons (pv 3) pa_nil))))) pa_nil)))))
    (pss_one (ps_ret (pv 5))))))))), ?_⟩)
    · obtain ⟨rd, dr, l, fo, r, p, k, ls, rfl, _⟩ := h
      rfl
    · obtain ⟨rd, dr, l, fo, r, p, k, ls, rfl, hd, ha, hs, hlf, hp, h100, hfo, hlp, hnd, hex, kE, kQ⟩ := h
      have ed : (((21 - (d + 1) : Nat) : Int) + 1) = ((21 - d : Nat) : Int) := by omega
      refine ⟨_, rfl, _, _, rfl, rfl, _, rfl, if_false_of (decide_eq_false (by omega)) ?_⟩
      refine ⟨_, rfl, rd, dr, _, rfl, ha, rdF_no l p, rd, dr, l, _, p, rfl, ha, nats_map r ▸ hs, (fun q => ?_), (fun z hz => ?_)⟩
      · rw [List.length_map] at q
        refine kE ?_ H But2.refl
        rw [List.drop_eq_nil_of_le q]
        rfl
      obtain ⟨h, hz', rfl⟩ := nat_at hz
      have hp1 : p < r.length := (List.getElem?_eq_some_iff.mp hz').1
      rw [drop_at hz'] at kE kQ
      have c1 : upd H rd (.ins T.C_Reader dr (rdF l (p + 1))) rd = some (.ins T.C_Reader dr (rdF l (p + 1))) := upd_same
      have b1 : But rd H (upd H rd (.ins T.C_Reader dr (rdF l (p + 1)))) := But.upd1
      generalize upd H rd (.ins T.C_Reader dr (rdF l (p + 1))) = H1 at c1 b1 ⊢
      have s1 : SqL K H1 l (nats r) := b1.seq ha hs
      have hfr : fo ≠ rd := fun e => by rw [e, ha] at hfo; cases hfo
      have hfo1 := b1 _ _ hfo hfr
      refine ⟨_, rfl, _, _, rfl, rfl, _, rfl, ?_⟩
      by_cases c11 : 11 < h
      · refine if_true_of (decide_eq_true (by omega)) ?_
        exact kE (rm_bad k d h _ c11) H1 b1.two
      refine if_false_of (decide_eq_false (by omega)) ?_
      rw [rm_eq k d h _ (by omega)] at kE kQ
      unfold readAll at kE kQ
      -- Part(head, len(found), read_told(..))
      refine ⟨_, rfl, _, rfl, fo, _, rfl, .inl (SqL.of hfo1), _, rfl, _, rfl, _, rfl, rd, dr, l, r, p + 1, k, h, rfl, c1, s1, by omega, (fun e H2 b2 => ?_), (fun o rest e H2 tv p2 hp2 hd2 c2 b2 ho => ?_)⟩
      · refine kE ?_ H2 (b1.trans b2).two
        rw [e]
      rw [e] at kE kQ
      simp only at kE kQ
      subst hd2
      have b02 : But rd H H2 := b1.trans b2
      have hfo2 := b02 _ _ hfo hfr
      have s2 : SqL K H2 l (nats r) := b02.seq ha hs
      have tl := told_ok e
      have tf := told_fits e
      have hp12 : p + 1 ≤ p2 := by
        have := tl.2
        rw [List.length_drop, List.length_drop] at this
        omega
      intro x dx nx ndx ne
      rw [List.length_map]
      refine ⟨x, dx, h, ls.length, tv, rfl, upd_same, fun H3 pl hpl cx cpl bx => ⟨rfl, ?_⟩⟩
      have s23 : Same H2 H3 := Same.made nx ndx bx
      have hx0 : H x = none := by
        cases q : H x with
        | none => rfl
        | some o =>
          by_cases g : x = rd
          · rw [g, c2] at nx; cases nx
          · rw [b02 x o q g] at nx; cases nx
      have hpl2 : H2 pl = none := by
        have hplx : pl ≠ x := fun q => by rw [q, upd_same] at hpl; cases hpl
        rw [upd_ne hplx] at hpl
        by_cases g : pl = dx
        · rw [g, upd_same] at hpl; cases hpl
        · rw [upd_ne g] at hpl; exact hpl
      have hpl0 : H pl = none := by
        cases q : H pl with
        | none => rfl
        | some o =>
          by_cases g : pl = rd
          · rw [g, c2] at hpl2; cases hpl2
          · rw [b02 pl o q g] at hpl2; cases hpl2
      have hfo3 := s23 _ _ hfo2
      have c3 := s23 _ _ c2
      have s3 : SqL K H3 l (nats r) := s23.seq s2
      have b03 : But rd H H3 := b02.trans (Same.but s23)
      have ho3 := ho.mono (Same.tups s23)
      have hxf : x ≠ fo := fun q => by rw [q, hfo] at hx0; cases hx0
      have hpf : pl ≠ fo := fun q => by rw [q, hfo] at hpl0; cases hpl0
      have hxr : x ≠ rd := fun q => by rw [q, ha] at hx0; cases hx0
      have hpr : pl ≠ rd := fun q => by rw [q, ha] at hpl0; cases hpl0
      have hxp : x ≠ pl := fun q => by rw [q, cpl] at cx; cases cx
      -- found.append(part)
      refine ⟨_, rfl, .inl ⟨rfl, _, SqL.of hfo3⟩, _, rfl, fo, _, _, rfl, rfl, hfo3, (by rw [List.length_map]; exact small1000 (by omega)), ?_⟩
      have efo : ls.map V.ref ++ [V.ref x] = (ls ++ [x]).map V.ref := by rw [List.map_append]; rfl
      rw [efo]
      have cfo4 : upd H3 fo (.lst ((ls ++ [x]).map V.ref)) fo = some (.lst ((ls ++ [x]).map V.ref)) := upd_same
      have k4 : ∀ b o, b ≠ fo → H3 b = some o → upd H3 fo (.lst ((ls ++ [x]).map V.ref)) b = some o := fun b o hb e => by rw [upd_ne hb]; exact e
      have f4 : ∀ b, upd H3 fo (.lst ((ls ++ [x]).map V.ref)) b = none → H3 b = none := fun b e => by
        by_cases q : b = fo
        · rw [q, upd_same] at e; cases e
        · rw [upd_ne q] at e; exact e
      generalize upd H3 fo (.lst ((ls ++ [x]).map V.ref)) = H4 at cfo4 k4 f4 ⊢
      have b04 : But2 rd fo H H4 := fun b o e h1 h2 => k4 b o h2 (b03 b o e h1)
      have c4 := k4 _ _ hfr.symm c3
      have cx4 := k4 _ _ hxf cx
      have cpl4 := k4 _ _ hpf cpl
      have ho4 : ToldAt H4 o tv := ho3.mono fun c zs e => k4 _ _ (fun q => by rw [q, hfo3] at e; cases e) e
      have hxls : x ∉ ls := fun q => by
        obtain ⟨o', e'⟩ := hex x q
        rw [hx0] at e'; cases e'
      -- the own parts
      refine ⟨_, rfl, T.t_PART_COUNTS, _, _, _, rfl, rfl, T.q_PART_COUNTS _, atI_nat (cnt_at (by omega)), ((cnt h : Nat) : Int), rfl, by have := cnt_le h; omega, by have := cnt_le h; omega, ?_⟩
      rw [show (((cnt h : Nat) : Int)).toNat = cnt h from Int.toNat_natCast _]
      refine for_range (lo := 0) (n := cnt h) (fun j σ Hc => ∃ (lk : List Trm) (new : List Addr) (as : List Addr) (pj : Nat) (v6 : Option V), readKids k d j (r.drop p2) = some (lk, r.drop pj) ∧ pj ≤ r.length ∧ Hc rd = some (.ins T.C_Reader dr (rdF l pj)) ∧ Hc fo = some (.lst ((ls ++ x :: new).map V.ref)) ∧ new.length = sizes lk ∧ (ls ++ x :: new).length ≤ pj ∧
          Hc x = some (.ins T.C_Part dx (ptF h ls.length tv pl d0)) ∧ Hc pl = some (.lst (as.map V.ref)) ∧ KidsAt (ls ++ x :: new) (nos (ls.length + 1) lk) as ∧ AllAt (PartAt T.C_Part Hc (fun b => H b = none ∧ b ≠ pl) (ls ++ x :: new) D0) (ls.length + 1) (lk.flatMap nodes) ∧ (ls ++ x :: new).Nodup ∧ (∀ b ∈ new, H b = none) ∧ (∀ b ∈ new, ∃ o, Hc b = some o) ∧
          But2 rd fo H Hc ∧ ToldAt Hc o tv ∧ σ = [some (.ref rd), some (.int (k : Int)), some (.int ((21 - (d + 1) : Nat) : Int)), some (.ref fo), some (.int (h : Int)), some (.ref x), v6]) ?_ ?_ ?_
      · refine ⟨[], [], [], p2, none, rfl, hp2, c4, cfo4, rfl, ?_, cx4, cpl4, trivial, AllAt.nil, ?_, (fun b hb => by cases hb), (fun b hb => by cases hb), b04, ho4, rfl⟩
        · rw [List.length_append]
          show ls.length + 1 ≤ p2
          omega
        · rw [List.nodup_append]
          refine ⟨hnd, by simp, fun a ha' b hb => ?_⟩
          rw [List.mem_singleton.mp hb]
          exact fun q => hxls (by rw [← q]; exact ha')
      · rintro j σ Hc hj ⟨lk, new, as, pj, v6, ek, hpj, cr, cf, hnl, hlj, cx5, cp5, ka, pa, nd5, fr5, ex5, b5, ho5, rfl⟩
        refine ⟨_, rfl, x, _, dx, _, _, rfl, cx5, T.cl_Part, T.n_Part_parts, ptF_parts, .inl ⟨rfl, _, SqL.of cp5⟩, ?_⟩
        have hexc : ∀ a ∈ ls ++ x :: new, ∃ o, Hc a = some o := by
          intro a hA
          rcases List.mem_append.mp hA with q | q
          · obtain ⟨o', e'⟩ := hex a q
            by_cases g1 : a = rd
            · rw [g1]; exact ⟨_, cr⟩
            · by_cases g2 : a = fo
              · rw [g2]; exact ⟨_, cf⟩
              · exact ⟨_, b5 a o' e' g1 g2⟩
          · rcases List.mem_cons.mp q with q | q
            · rw [q]; exact ⟨_, cx5⟩
            · exact ex5 a q
        refine ⟨_, rfl, _, rfl, _, rfl, _, _, rfl, rfl, _, rfl, rd, dr, l, fo, r, pj, k, ls ++ x :: new, (by show [V.ref rd, V.int (k : Int), V.int (((21 - (d + 1) : Nat) : Int) + 1), V.ref fo] = _; rw [ed]), by omega, cr, b5.seq ha hlf hs, hlf, hpj, h100, cf, hlj, nd5, hexc, (fun e5 H6 b6 => ?_), (fun t' rest' e5 H6 a' new' p6 hp6 hd6 cr6 cf6 hn6 ha6 nd6 fr6 ex6 hl6 tm6 b6 => ?_)⟩
        · refine kE ?_ H6 (b5.trans b6)
          have e6 : readKids k d (j + 1) (r.drop p2) = none := by
            rw [kids_succ ek, e5]
            rfl
          rw [kids_none e6 (cnt h) (by omega)]
        · subst hd6
          have hpf5 : pl ≠ fo := hpf
          have cp6 := b6 _ _ cp5 hpr hpf
          have lena : as.length ≤ 3 := by
            have h1 := ka.len
            rw [nos_len, kids_read_len ek] at h1
            have := cnt_le h
            omega
          refine ⟨pl, _, _, rfl, rfl, cp6, (by rw [List.length_map]; exact small1000 (by omega)), ?_⟩
          have eas : as.map V.ref ++ [V.ref a'] = (as ++ [a']).map V.ref := by rw [List.map_append]; rfl
          rw [eas]
          have cp7 : upd H6 pl (.lst ((as ++ [a']).map V.ref)) pl = some (.lst ((as ++ [a']).map V.ref)) := upd_same
          have k7 : ∀ b o, b ≠ pl → H6 b = some o → upd H6 pl (.lst ((as ++ [a']).map V.ref)) b = some o := fun b o hb e => by rw [upd_ne hb]; exact e
          generalize upd H6 pl (.lst ((as ++ [a']).map V.ref)) = H7 at cp7 k7 ⊢
          have eL : (ls ++ x :: new) ++ new' = ls ++ x :: (new ++ new') := by rw [List.append_assoc]; rfl
          rw [eL] at cf6 ha6 nd6 hl6 tm6
          have hlen0 : (ls ++ x :: new).length = ls.length + 1 + sizes lk := by
            rw [List.length_append, List.length_cons, hnl]
            omega
          rw [hlen0] at ha6 tm6
          refine ⟨lk ++ [t'], new ++ new', as ++ [a'], p6, some (.int (0 + (j : Int))), ?_, hp6, k7 _ _ hpr.symm cr6, k7 _ _ hpf.symm cf6, ?_, hl6, ?_, cp7, ?_, ?_, nd6, ?_, ?_, ?_, ?_, rfl⟩
          · rw [kids_succ ek, e5]
            rfl
          · rw [List.length_append, hn6, hnl, sizes_snoc]
          · exact k7 _ _ hxp (b6 _ _ cx5 hxr hxf)
          · rw [nos_snoc]
            refine KidsAt.snoc ha6 ?_
            have := ka.more (more := new')
            rw [eL] at this
            exact this
          · rw [List.flatMap_append, AllAt.app]
            refine ⟨?_, ?_⟩
            · refine pa.imp fun q s _ x5 => ?_
              have := PartAt.keep (more := new') (G' := fun b => H b = none ∧ b ≠ pl) (H' := H7) x5 cr cf cp5 (fun b hb => ⟨fun e => (by rw [e, hfo] at hb; cases hb.1), hb.2⟩) (fun b hb => hb) (fun b o e h1 h2 h3 => k7 b o h3 (b6 b o e h1 h2))
              rw [eL] at this
              exact this
            · rw [List.flatMap_cons, List.flatMap_nil, List.append_nil]
              have hsz : (lk.flatMap nodes).length = sizes lk := rfl
              rw [hsz]
              refine tm6.imp fun q s _ x6 => ?_
              have := PartAt.keep (more := []) (G' := fun b => H b = none ∧ b ≠ pl) (H' := H7) x6 cr6 cf6 cp6 (fun b hb => ⟨fun e => (by rw [e, cf] at hb; cases hb), fun e => (by rw [e, cp5] at hb; cases hb)⟩) (fun b hb => ⟨b5.free cr cf hb, fun e => by rw [e, cp5] at hb; cases hb⟩) (fun b o e h1 h2 h3 => k7 b o h3 e)
              rw [List.append_nil] at this
              exact this
          · intro b hb
            rcases List.mem_append.mp hb with q | q
            · exact fr5 b q
            · exact b5.free cr cf (fr6 b q)
          · intro b hb
            rcases List.mem_append.mp hb with q | q
            · obtain ⟨o', e'⟩ := ex5 b q
              by_cases g0 : b = pl
              · rw [g0]; exact ⟨_, cp7⟩
              · by_cases g1 : b = rd
                · rw [g1]; exact ⟨_, k7 _ _ hpr.symm cr6⟩
                · by_cases g2 : b = fo
                  · rw [g2]; exact ⟨_, k7 _ _ hpf.symm cf6⟩
                  · exact ⟨_, k7 _ _ g0 (b6 b o' e' g1 g2)⟩
            · obtain ⟨o', e'⟩ := ex6 b q
              by_cases g0 : b = pl
              · rw [g0]; exact ⟨_, cp7⟩
              · exact ⟨_, k7 _ _ g0 e'⟩
          · intro b o e h1 h2
            exact k7 b o (fun q => by rw [q, hpl0] at e; cases e) (b6 b o (b5 b o e h1 h2) h1 h2)
          · exact ho5.mono fun c zs e => k7 _ _ (fun q => by rw [q, cp5] at e; cases e) (b6 _ _ e (fun q => by rw [q, cr] at e; cases e) (fun q => by rw [q, cf] at e; cases e))
      · rintro σ Hc ⟨lk, new, as, pj, v6, ek, hpj, cr, cf, hnl, hlj, cx5, cp5, ka, pa, nd5, fr5, ex5, b5, ho5, rfl⟩
        rw [ek] at kQ
        obtain ⟨m1, m2, m3⟩ := mk_parts (by omega) tf (kids_read_len ek)
        refine ⟨_, rfl, kQ (mkTm h o lk) (r.drop pj) rfl Hc x (x :: new) pj hpj rfl cr cf ?_ ?_ nd5 ?_ ?_ hlj ?_ b5⟩
        · rw [List.length_cons, size_eq, m2, hnl]
          omega
        · rw [List.getElem?_append_right (Nat.le_refl _), Nat.sub_self]
          rfl
        · intro b hb
          rcases List.mem_cons.mp hb with q | q
          · rw [q]; exact hx0
          · exact fr5 b q
        · intro b hb
          rcases List.mem_cons.mp hb with q | q
          · rw [q]; exact ⟨_, cx5⟩
          · exact ex5 b q
        · unfold TermAt
          rw [nodes_eq, AllAt.cons, m2]
          refine ⟨⟨x, dx, pl, tv, as, ?_, ?_, hpl0, cp5, ?_, ?_⟩, pa.imp fun q s _ x5 => ?_⟩
          · rw [List.getElem?_append_right (Nat.le_refl _), Nat.sub_self]
            rfl
          · rw [m1]
            exact cx5
          · rw [m2]
            exact ka
          · rw [m3]
            exact ho5
          · obtain ⟨a1, dx1, pl1, tv1, as1, y1, y2, y3, y4, y5, y6⟩ := x5
            exact ⟨a1, dx1, pl1, tv1, as1, y1, y2, y3.1, y4, y5, y6⟩
end
end FC
namespace FC
open PySem PySem.Spec PyProof.Rows L2
open Pa05 (Ty typed)
/-! ### kinds as data, and faults -/
theorem pe_fldK {X : Cx} {K : PySem.W.Frag} {e : Expr} {ta : TE} {f : Str} {pos : Pos} (h : X.K = K) (he : PE X e ta) (hb : attributeBase e f X.env (eval e X.env) = eval e X.env) : PE X (.Attribute e f pos) (tFld K ta f) := by
  subst h
  exact pe_fld he hb
def kd : Ty → PyData
  | .var i => .tuple [.int 0, .int (i : Int)]
  | .two => .tuple [.int 1]
  | .pair a b => .tuple [.int 2, kd a, kd b]
  | .either a b => .tuple [.int 3, kd a, kd b]
  | .fn a b => .tuple [.int 4, kd a, kd b]
theorem kd_lay : ∀ a : Ty, (kd a).canLay0 = true
  | .var i => by simp [kd, PyData.canLay0, PyData.canLayAll0]
  | .two => by simp [kd, PyData.canLay0, PyData.canLayAll0]
  | .pair a b => by simp [kd, PyData.canLay0, PyData.canLayAll0, kd_lay a, kd_lay b]
  | .either a b => by simp [kd, PyData.canLay0, PyData.canLayAll0, kd_lay a, kd_lay b]
  | .fn a b => by simp [kd, PyData.canLay0, PyData.canLayAll0, kd_lay a, kd_lay b]
theorem kd_depth : ∀ a : Ty, (kd a).depth ≤ dp a
  | .var i => by simp [kd, PyData.depth, PyData.depthAll, dp]
  | .two => by simp [kd, PyData.depth, PyData.depthAll, dp]
  | .pair a b => by
    have h1 := kd_depth a
    have h2 := kd_depth b
    simp only [kd, PyData.depth, PyData.depthAll, dp]
    omega
  | .either a b => by
    have h1 := kd_depth a
    have h2 := kd_depth b
    simp only [kd, PyData.depth, PyData.depthAll, dp]
    omega
  | .fn a b => by
    have h1 := kd_depth a
    have h2 := kd_depth b
    simp only [kd, PyData.depth, PyData.depthAll, dp]
    omega
theorem kd_shaped {a : Ty} (h : dp a ≤ 64) : SeqAt.shaped (kd a) = true := by
  unfold SeqAt.shaped
  rw [kd_lay, decide_eq_true (Nat.le_trans (kd_depth a) h)]
  rfl
theorem eqv_tup (xs ys : List PyData) : PyData.eqv (.tuple xs) (.tuple ys) = PyData.eqvAll xs ys := by
  first | rfl | simp only [PyData.eqv]
theorem eqv_int (i j : Int) : PyData.eqv (.int i) (.int j) = (i == j) := by
  first | rfl | simp only [PyData.eqv]
theorem eqvA_cons (x y : PyData) (xs ys : List PyData) : PyData.eqvAll (x :: xs) (y :: ys) = (PyData.eqv x y && PyData.eqvAll xs ys) := by
  first | rfl | simp only [PyData.eqvAll]
theorem eqvA_nil : PyData.eqvAll [] [] = true := by
  first | rfl | simp only [PyData.eqvAll]
theorem eqv_ne {h k : Int} {xs ys : List PyData} (c : h ≠ k) : PyData.eqv (.tuple (.int h :: xs)) (.tuple (.int k :: ys)) = false := by
  rw [eqv_tup, eqvA_cons, eqv_int, beq_eq_false_iff_ne.mpr c, Bool.false_and]
theorem eqv_two {h : Int} {x y u v : PyData} : PyData.eqv (.tuple [.int h, x, y]) (.tuple [.int h, u, v]) = (PyData.eqv x u && PyData.eqv y v) := by
  rw [eqv_tup, eqvA_cons, eqv_int, eqvA_cons, eqvA_cons, eqvA_nil, beq_self_eq_true, Bool.true_and, Bool.and_true]
theorem kd_eqv : ∀ a b : Ty, PyData.eqv (kd a) (kd b) = decide (a = b) := by
  intro a
  induction a with
  | var i =>
    intro b
    cases b with
    | var j =>
      show PyData.eqv (.tuple [.int 0, .int (i : Int)]) (.tuple [.int 0, .int (j : Int)]) = _
      rw [eqv_tup, eqvA_cons, eqv_int, eqvA_cons, eqv_int, eqvA_nil, beq_self_eq_true, Bool.true_and, Bool.and_true]
      by_cases c : i = j
      · subst c; simp
      · have : ((i : Int) == (j : Int)) = false := beq_eq_false_iff_ne.mpr (fun e => c (by omega))
        rw [this, decide_eq_false (fun e => c (by injection e))]
    | two => rw [decide_eq_false (fun e => by cases e)]; exact eqv_ne (by decide)
    | pair x y => rw [decide_eq_false (fun e => by cases e)]; exact eqv_ne (by decide)
    | either x y => rw [decide_eq_false (fun e => by cases e)]; exact eqv_ne (by decide)
    | fn x y => rw [decide_eq_false (fun e => by cases e)]; exact eqv_ne (by decide)
  | two =>
    intro b
    cases b with
    | two => rw [decide_eq_true rfl]; show PyData.eqv (.tuple [.int 1]) (.tuple [.int 1]) = true; rw [eqv_tup, eqvA_cons, eqv_int, eqvA_nil]; rfl
    | var j => rw [decide_eq_false (fun e => by cases e)]; exact eqv_ne (by decide)
    | pair x y => rw [decide_eq_false (fun e => by cases e)]; exact eqv_ne (by decide)
    | either x y => rw [decide_eq_false (fun e => by cases e)]; exact eqv_ne (by decide)
    | fn x y => rw [decide_eq_false (fun e => by cases e)]; exact eqv_ne (by decide)
  | pair x y ix iy =>
    intro b
    cases b with
    | pair u v =>
      refine eqv_two.trans ?_
      rw [ix, iy, ← Bool.decide_and]
      exact decide_eq_decide.mpr ⟨fun e => by rw [e.1, e.2], fun e => by injection e with e1 e2; exact ⟨e1, e2⟩⟩
    | var j => rw [decide_eq_false (fun e => by cases e)]; exact eqv_ne (by decide)
    | two  => rw [decide_eq_false (fun e => by cases e)]; exact eqv_ne (by decide)
    | either u v => rw [decide_eq_false (fun e => by cases e)]; exact eqv_ne (by decide)
    | fn u v => rw [decide_eq_false (fun e => by cases e)]; exact eqv_ne (by decide)
  | either x y ix iy =>
    intro b
    cases b with
    | either u v =>
      refine eqv_two.trans ?_
      rw [ix, iy, ← Bool.decide_and]
      exact decide_eq_decide.mpr ⟨fun e => by rw [e.1, e.2], fun e => by injection e with e1 e2; exact ⟨e1, e2⟩⟩
    | var j => rw [decide_eq_false (fun e => by cases e)]; exact eqv_ne (by decide)
    | two  => rw [decide_eq_false (fun e => by cases e)]; exact eqv_ne (by decide)
    | pair u v => rw [decide_eq_false (fun e => by cases e)]; exact eqv_ne (by decide)
    | fn u v => rw [decide_eq_false (fun e => by cases e)]; exact eqv_ne (by decide)
  | fn x y ix iy =>
    intro b
    cases b with
    | fn u v =>
      refine eqv_two.trans ?_
      rw [ix, iy, ← Bool.decide_and]
      exact decide_eq_decide.mpr ⟨fun e => by rw [e.1, e.2], fun e => by injection e with e1 e2; exact ⟨e1, e2⟩⟩
    | var j => rw [decide_eq_false (fun e => by cases e)]; exact eqv_ne (by decide)
    | two  => rw [decide_eq_false (fun e => by cases e)]; exact eqv_ne (by decide)
    | pair u v => rw [decide_eq_false (fun e => by cases e)]; exact eqv_ne (by decide)
    | either u v => rw [decide_eq_false (fun e => by cases e)]; exact eqv_ne (by decide)
theorem KindAt.dp {K : PySem.W.Frag} {H : Hp} : ∀ {a : Ty} {q : Addr}, KindAt H a q → Dp K H (.ref q) (kd a)
  | .var i, _, h => .tup (SqT.of h) (.cons (.int _) (.cons (.int _) .nil))
  | .two, _, h => .tup (SqT.of h) (.cons (.int _) .nil)
  | .pair _ _, _, ⟨b, c, h, hb, hc⟩ => .tup (SqT.of h) (.cons (.int _) (.cons hb.dp (.cons hc.dp .nil)))
  | .either _ _, _, ⟨b, c, h, hb, hc⟩ => .tup (SqT.of h) (.cons (.int _) (.cons hb.dp (.cons hc.dp .nil)))
  | .fn _ _, _, ⟨b, c, h, hb, hc⟩ => .tup (SqT.of h) (.cons (.int _) (.cons hb.dp (.cons hc.dp .nil)))
def tyHd : Ty → Nat
  | .var _ => 0
  | .two => 1
  | .pair _ _ => 2
  | .either _ _ => 3
  | .fn _ _ => 4
theorem KindAt.head {H : Hp} : ∀ {a : Ty} {q : Addr}, KindAt H a q → ∃ tl, H q = some (.tup (.int ((tyHd a : Nat) : Int) :: tl))
  | .var i, _, h => ⟨_, h⟩
  | .two, _, h => ⟨_, h⟩
  | .pair _ _, _, ⟨b, c, h, _, _⟩ => ⟨_, h⟩
  | .either _ _, _, ⟨b, c, h, _, _⟩ => ⟨_, h⟩
  | .fn _ _, _, ⟨b, c, h, _, _⟩ => ⟨_, h⟩
def KindsL (H : Hp) : List Addr → List Ty → Prop
  | [], [] => True
  | q :: qs, x :: xs => KindAt H x q ∧ KindsL H qs xs
  | _, _ => False
theorem KindsL.len {H : Hp} : ∀ {qs : List Addr} {xs : List Ty}, KindsL H qs xs → qs.length = xs.length
  | [], [], _ => rfl
  | _ :: _, _ :: _, h => congrArg (· + 1) (KindsL.len h.2)
  | [], _ :: _, h => h.elim
  | _ :: _, [], h => h.elim
theorem KindsL.mono {H H' : Hp} (t : Tups H H') : ∀ {qs : List Addr} {xs : List Ty}, KindsL H qs xs → KindsL H' qs xs
  | [], [], _ => trivial
  | _ :: _, _ :: _, h => ⟨h.1.mono t, KindsL.mono t h.2⟩
  | [], _ :: _, h => h.elim
  | _ :: _, [], h => h.elim
theorem KindsL.snoc {H : Hp} {q : Addr} {x : Ty} (e : KindAt H x q) : ∀ {qs : List Addr} {xs : List Ty}, KindsL H qs xs → KindsL H (qs ++ [q]) (xs ++ [x])
  | [], [], _ => ⟨e, trivial⟩
  | _ :: _, _ :: _, h => ⟨h.1, KindsL.snoc e h.2⟩
  | [], _ :: _, h => h.elim
  | _ :: _, [], h => h.elim
theorem KindsL.at {H : Hp} : ∀ {qs : List Addr} {xs : List Ty}, KindsL H qs xs → ∀ {j : Nat} {x : Ty}, xs[j]? = some x → ∃ q, qs[j]? = some q ∧ KindAt H x q
  | [], [], _, j, x, e => by simp at e
  | q :: _, _ :: _, h, 0, x, e => ⟨q, rfl, by rw [← Option.some.inj e]; exact h.1⟩
  | _ :: _, _ :: _, h, j + 1, x, e => KindsL.at h.2 (j := j) e
  | [], _ :: _, h, _, _, _ => h.elim
  | _ :: _, [], h, _, _, _ => h.elim
/-- parts whose kinds lie at qs -/
def KKAt (C : Addr) (H : Hp) : List Addr → List Addr → Prop
  | [], [] => True
  | a :: as, q :: qs => (∃ dx fs, H a = some (.ins C dx fs) ∧ fs.lookup ("kind" : Str) = some (.ref q)) ∧ KKAt C H as qs
  | _, _ => False
theorem KKAt.len {C : Addr} {H : Hp} : ∀ {as qs : List Addr}, KKAt C H as qs → as.length = qs.length
  | [], [], _ => rfl
  | _ :: _, _ :: _, h => congrArg (· + 1) (KKAt.len h.2)
  | [], _ :: _, h => h.elim
  | _ :: _, [], h => h.elim
theorem KKAt.at {C : Addr} {H : Hp} : ∀ {as qs : List Addr}, KKAt C H as qs → ∀ {j : Nat} {a : Addr}, as[j]? = some a → ∃ q dx fs, qs[j]? = some q ∧ H a = some (.ins C dx fs) ∧ fs.lookup ("kind" : Str) = some (.ref q)
  | [], [], _, j, x, e => by simp at e
  | _ :: _, q :: _, h, 0, x, e => by
    obtain ⟨⟨dx, fs, h1, h2⟩, _⟩ := h
    exact ⟨q, dx, fs, rfl, by rw [← Option.some.inj e]; exact h1, h2⟩
  | _ :: _, _ :: _, h, j + 1, x, e => KKAt.at h.2 (j := j) e
  | [], _ :: _, h, _, _, _ => h.elim
  | _ :: _, [], h, _, _, _ => h.elim
theorem KKAt.snoc {C : Addr} {H : Hp} {a q dx : Addr} {fs : List (Str × V)} (h1 : H a = some (.ins C dx fs)) (h2 : fs.lookup ("kind" : Str) = some (.ref q)) : ∀ {as qs : List Addr}, KKAt C H as qs → KKAt C H (as ++ [a]) (qs ++ [q])
  | [], [], _ => ⟨⟨dx, fs, h1, h2⟩, trivial⟩
  | _ :: _, _ :: _, h => ⟨h.1, KKAt.snoc h1 h2 h.2⟩
  | [], _ :: _, h => h.elim
  | _ :: _, [], h => h.elim
theorem KKAt.mono {C : Addr} {H H' : Hp} (s : Same H H') : ∀ {as qs : List Addr}, KKAt C H as qs → KKAt C H' as qs
  | [], [], _ => trivial
  | _ :: _, _ :: _, h => ⟨(by obtain ⟨dx, fs, h1, h2⟩ := h.1; exact ⟨dx, fs, s _ _ h1, h2⟩), KKAt.mono s h.2⟩
  | [], _ :: _, h => h.elim
  | _ :: _, [], h => h.elim
theorem rev_get {α : Type} {l : List α} {i : Nat} (h : i < l.length) : l.reverse[l.length - 1 - i]? = l[i]? := by
  rw [List.getElem?_reverse (by omega), show l.length - 1 - (l.length - 1 - i) = i by omega]
section
variable {P : Program} {w : World} {K : PySem.W.Frag} {mg : Str → Option Value} {base : Heap}
/-- the error of a faulty term, its fields in a dict of its own -/
def Faulty (E : XK) (T : Txt K mg) (H : Hp) (n why : Nat) : Prop := ∀ d, H d = none → E (.ref T.C_FaultyTerm) (some d) (upd H d (.xd (ftF (.int (n : Int)) (.int (why : Int)))))
def sp_want (T : Txt K mg) : Sp := fun vs H Q E => ∃ (a q dx : Addr) (fs : List (Str × V)) (n h : Nat) (x : Ty), vs = [.ref a, .ref q, .int (h : Int)] ∧ H a = some (.ins T.C_Part dx fs) ∧ fs.lookup ("number" : Str) = some (.int (n : Int)) ∧ KindAt H x q ∧
  (tyHd x ≠ h → Faulty E T H n 2) ∧ (tyHd x = h → Q .non H)
theorem ok_want (T : Txt K mg) : FnOk P w K mg base (L2.CX P w) 1 T.f_want T.fd_want ["part", "kind", "head"] (sp_want T) := by
  refine T.F_want.okX sc_want (fun vs H Q E h => ?_) (fun cdv A outer s H vs Q E hr h => ⟨_, (pss_one (ps_if (pt_cmpR op_ne (pe_ix ix_tup (pv 1) pe_int (fun _ _ => rfl)) (pv 2) (nomark _))
      (pss_one (ps_raiseFt rfl T.ft_FaultyTerm hr (takes_of rfl rfl rfl rfl) (pa_cons (pe_fld (pv 0) rfl) (pa_cons (pe_cst rfl T.g_NOT_WANTED) pa_nil))))
      pss_nil)), ?_⟩)
  · obtain ⟨a, q, dx, fs, n, h, x, rfl, _⟩ := h
    rfl
  · obtain ⟨a, q, dx, fs, n, h, x, rfl, ha, hn, hq, kE, kQ⟩ := h
    obtain ⟨tl, ht⟩ := hq.head
    refine ⟨_, rfl, q, _, _, _, rfl, rfl, SqT.of ht, atI_nat (j := 0) rfl, _, rfl, rfl, _, rfl, ?_⟩
    by_cases c : tyHd x = h
    · refine if_false_of ?_ (kQ c)
      rw [c]
      simp
    · refine if_true_of ?_ ?_
      · have : decide (V.int ((tyHd x : Nat) : Int) = V.int ((h : Nat) : Int)) = false := decide_eq_false (fun e => c (by injection e with e; omega))
        rw [this]
        rfl
      · refine ⟨_, rfl, a, _, dx, _, _, rfl, ha, T.cl_Part, T.n_Part_number, hn, _, _, rfl, fun d hd => ?_⟩
        exact kE c d hd
def sp_want_same (T : Txt K mg) : Sp := fun vs H Q E => ∃ (a q p dx : Addr) (fs : List (Str × V)) (n : Nat) (x y : Ty), vs = [.ref a, .ref q, .ref p] ∧ H a = some (.ins T.C_Part dx fs) ∧ fs.lookup ("number" : Str) = some (.int (n : Int)) ∧ KindAt H x q ∧ KindAt H y p ∧ dp x ≤ 64 ∧ dp y ≤ 64 ∧
  (x ≠ y → Faulty E T H n 3) ∧ (x = y → Q .non H)
theorem ok_want_same (T : Txt K mg) : FnOk P w K mg base (L2.CX P w) 1 T.f_want_same T.fd_want_same ["part", "first", "second"] (sp_want_same T) := by
  refine T.F_want_same.okX sc_want_same (fun vs H Q E h => ?_) (fun cdv A outer s H vs Q E hr h => ⟨_, (pss_one (ps_if (pt_cmpR (op_neD hr.units) (pv 1) (pv 2) (nomark _))
      (pss_one (ps_raiseFt rfl T.ft_FaultyTerm hr (takes_of rfl rfl rfl rfl) (pa_cons (pe_fld (pv 0) rfl) (pa_cons (pe_cst rfl T.g_NOT_THE_SAME) pa_nil))))
      pss_nil)), ?_⟩)
  · obtain ⟨a, q, p, dx, fs, n, x, y, rfl, _⟩ := h
    rfl
  · obtain ⟨a, q, p, dx, fs, n, x, y, rfl, ha, hn, hq, hp, dx', dy, kE, kQ⟩ := h
    refine ⟨_, rfl, _, rfl, kd x, kd y, hq.dp, hp.dp, kd_shaped dx', kd_shaped dy, _, rfl, ?_⟩
    rw [kd_eqv]
    by_cases c : x = y
    · refine if_false_of ?_ (kQ c)
      rw [decide_eq_true c]
      rfl
    · refine if_true_of ?_ ?_
      · rw [decide_eq_false c]
        rfl
      · refine ⟨_, rfl, a, _, dx, _, _, rfl, ha, T.cl_Part, T.n_Part_number, hn, _, _, rfl, fun d hd => ?_⟩
        exact kE c d hd
def sp_variable_kind (T : Txt K mg) : Sp := fun vs H Q E => ∃ (a ar dx : Addr) (fs : List (Str × V)) (n i : Nat) (qs : List Addr) (l : List Ty), vs = [.ref a, .ref ar] ∧ H a = some (.ins T.C_Part dx fs) ∧ fs.lookup ("number" : Str) = some (.int (n : Int)) ∧ fs.lookup ("told" : Str) = some (.int (i : Int)) ∧ H ar = some (.lst (qs.map V.ref)) ∧ KindsL H qs l.reverse ∧
  (l[i]? = none → Faulty E T H n 1) ∧ (∀ x q, l[i]? = some x → KindAt H x q → Q (.ref q) H)
theorem ok_variable_kind (T : Txt K mg) : FnOk P w K mg base (L2.CX P w) 1 T.f_variable_kind T.fd_variable_kind ["part", "around"] (sp_variable_kind T) := by
  refine T.F_variable_kind.okX sc_variable_kind (fun vs H Q E h => ?_) (fun cdv A outer s H vs Q E hr h => ⟨_, (pss_cons (ps_if (pt_cmpR op_ge (pe_fld (pv 0) rfl) (pe_callB call_len_seq rfl T.n_len (by decide +kernel) (pa_cons (pv 1) pa_nil)) (nomark _))
      (pss_one (ps_raiseFt rfl T.ft_FaultyTerm hr (takes_of rfl rfl rfl rfl) (pa_cons (pe_fld (pv 0) rfl) (pa_cons (pe_cst rfl T.g_NO_FUNCTION) pa_nil))))
      pss_nil)
    (pss_one (ps_ret (pe_ix ix_list (pv 1) (pe_op op_sub (pe_op op_sub (pe_callB call_len_seq rfl T.n_len (by decide +kernel) (pa_cons (pv 1) pa_nil)) pe_int) (pe_fld (pv 0) rfl)) (fun _ _ => rfl))))), ?_⟩)
  · obtain ⟨a, ar, dx, fs, n, i, qs, l, rfl, _⟩ := h
    rfl
  · obtain ⟨a, ar, dx, fs, n, i, qs, l, rfl, ha, hn, ht, har, hk, kE, kQ⟩ := h
    have hl := hk.len
    rw [List.length_reverse] at hl
    refine ⟨_, rfl, a, _, dx, _, _, rfl, ha, T.cl_Part, T.n_Part_told, ht, _, rfl, ar, _, rfl, .inl (SqL.of har), _, _, rfl, rfl, _, rfl, ?_⟩
    rw [List.length_map]
    by_cases c : l.length ≤ i
    · refine if_true_of (decide_eq_true (by omega)) ?_
      refine ⟨_, rfl, a, _, dx, _, _, rfl, ha, T.cl_Part, T.n_Part_number, hn, _, _, rfl, fun d hd => ?_⟩
      exact kE (List.getElem?_eq_none c) d hd
    · refine if_false_of (decide_eq_false (by omega)) ?_
      obtain ⟨x, hx⟩ : ∃ x, l[i]? = some x := ⟨l[i]'(by omega), List.getElem?_eq_getElem (by omega)⟩
      obtain ⟨q, hq, kq⟩ := hk.at (j := l.length - 1 - i) (x := x) (by rw [rev_get (by omega)]; exact hx)
      refine ⟨_, rfl, _, rfl, ar, _, rfl, .inl (SqL.of har), _, _, rfl, rfl, _, rfl, a, _, dx, _, _, rfl, ha, T.cl_Part, T.n_Part_told, ht, _, _, rfl, rfl, ar, _, _, .ref q, rfl, rfl, SqL.of har, ?_, kQ x q hx kq⟩
      rw [List.length_map, hl, show ((l.length : Nat) : Int) - 1 - (i : Int) = ((l.length - 1 - i : Nat) : Int) by omega]
      exact atI_nat (by rw [List.getElem?_map, hq]; rfl)

def sp_put_kind (T : Txt K mg) : Sp := fun vs H Q E => ∃ (a q p dx : Addr) (fs : List (Str × V)) (n : Nat) (x y : Ty), vs = [.ref a, .ref q, .ref p] ∧ H a = some (.ins T.C_Part dx fs) ∧ fs.lookup ("number" : Str) = some (.int (n : Int)) ∧ KindAt H x q ∧ KindAt H y p ∧ dp x ≤ 64 ∧ dp y ≤ 64 ∧
  (tyHd x ≠ 4 → Faulty E T H n 2) ∧ (∀ u v, x = .fn u v → u ≠ y → Faulty E T H n 3) ∧ (∀ u v r, x = .fn u v → u = y → KindAt H v r → Q (.ref r) H)
theorem ok_put_kind (T : Txt K mg) : FnOk P w K mg base (L2.CX P w) 2 T.f_put_kind T.fd_put_kind ["part", "function", "argument"] (sp_put_kind T) := by
  refine T.F_put_kind.okX sc_put_kind (fun vs H Q E h => ?_) (fun cdv A outer s H vs Q E hr h => ⟨_, (pss_cons (ps_expr (pe_call (ok_want T) (hr.mono (by decide)) rfl T.g_want T.k_want T.b_want .nil (passes_call (takes_of rfl rfl rfl rfl) (fun _ _ _ _ h => h)) (pa_cons (pv 0) (pa_cons (pv 1) (pa_cons (pe_cst rfl T.g_FUNCTION) pa_nil)))))
    (pss_cons (ps_expr (pe_call (ok_want_same T) (hr.mono (by decide)) rfl T.g_want_same T.k_want_same T.b_want_same .nil (passes_call (takes_of rfl rfl rfl rfl) (fun _ _ _ _ h => h)) (pa_cons (pv 0) (pa_cons (pe_ix ix_tup (pv 1) pe_int (fun _ _ => rfl)) (pa_cons (pv 2) pa_nil)))))
    (pss_one (ps_ret (pe_ix ix_tup (pv 1) pe_int (fun _ _ => rfl)))))), ?_⟩)
  · obtain ⟨a, q, p, dx, fs, n, x, y, rfl, _⟩ := h
    rfl
  · obtain ⟨a, q, p, dx, fs, n, x, y, rfl, ha, hn, hq, hp, dx', dy, k2, k3, kQ⟩ := h
    refine ⟨_, rfl, _, rfl, a, q, dx, fs, n, 4, x, rfl, ha, hn, hq, k2, fun c => ?_⟩
    cases x with
    | fn u v =>
      obtain ⟨b, c', h1, hb, hc⟩ := hq
      have e : max (dp u) (dp v) + 1 ≤ 64 := dx'
      refine ⟨_, rfl, _, rfl, q, _, _, _, rfl, rfl, SqT.of h1, atI_nat (j := 1) rfl, _, rfl, a, b, p, dx, fs, n, u, y, rfl, ha, hn, hb, hp, by omega, dy, k3 u v rfl, fun g => ?_⟩
      exact ⟨_, rfl, q, _, _, _, rfl, rfl, SqT.of h1, atI_nat (j := 2) rfl, kQ u v c' rfl g hc⟩
    | var i => exact absurd c (by simp [tyHd])
    | two => exact absurd c (by simp [tyHd])
    | pair u v => exact absurd c (by simp [tyHd])
    | either u v => exact absurd c (by simp [tyHd])
def sp_if_kind (T : Txt K mg) : Sp := fun vs H Q E => ∃ (a q p r dx : Addr) (fs : List (Str × V)) (n : Nat) (x y z : Ty), vs = [.ref a, .ref q, .ref p, .ref r] ∧ H a = some (.ins T.C_Part dx fs) ∧ fs.lookup ("number" : Str) = some (.int (n : Int)) ∧ KindAt H x q ∧ KindAt H y p ∧ KindAt H z r ∧ dp y ≤ 64 ∧ dp z ≤ 64 ∧
  (tyHd x ≠ 1 → Faulty E T H n 2) ∧ (tyHd x = 1 → y ≠ z → Faulty E T H n 3) ∧ (tyHd x = 1 → y = z → Q (.ref p) H)
theorem ok_if_kind (T : Txt K mg) : FnOk P w K mg base (L2.CX P w) 2 T.f_if_kind T.fd_if_kind ["part", "asked", "for_yes", "for_no"] (sp_if_kind T) := by
  refine T.F_if_kind.okX sc_if_kind (fun vs H Q E h => ?_) (fun cdv A outer s H vs Q E hr h => ⟨_, (pss_cons (ps_expr (pe_call (ok_want T) (hr.mono (by decide)) rfl T.g_want T.k_want T.b_want .nil (passes_call (takes_of rfl rfl rfl rfl) (fun _ _ _ _ h => h)) (pa_cons (pv 0) (pa_cons (pv 1) (pa_cons (pe_cst rfl T.g_TWO) pa_nil)))))
    (pss_cons (ps_expr (pe_call (ok_want_same T) (hr.mono (by decide)) rfl T.g_want_same T.k_want_same T.b_want_same .nil (passes_call (takes_of rfl rfl rfl rfl) (fun _ _ _ _ h => h)) (pa_cons (pv 0) (pa_cons (pv 2) (pa_cons (pv 3) pa_nil)))))
    (pss_one (ps_ret (pv 2))))), ?_⟩)
  · obtain ⟨a, q, p, r, dx, fs, n, x, y, z, rfl, _⟩ := h
    rfl
  · obtain ⟨a, q, p, r, dx, fs, n, x, y, z, rfl, ha, hn, hq, hp, hr', dy, dz, k2, k3, kQ⟩ := h
    refine ⟨_, rfl, _, rfl, a, q, dx, fs, n, 1, x, rfl, ha, hn, hq, k2, fun c => ?_⟩
    refine ⟨_, rfl, _, rfl, _, rfl, a, p, r, dx, fs, n, y, z, rfl, ha, hn, hp, hr', dy, dz, k3 c, fun g => ?_⟩
    exact ⟨_, rfl, kQ c g⟩
def sp_cases_kind (T : Txt K mg) : Sp := fun vs H Q E => ∃ (a q p r dx : Addr) (fs : List (Str × V)) (n : Nat) (x y z : Ty), vs = [.ref a, .ref q, .ref p, .ref r] ∧ H a = some (.ins T.C_Part dx fs) ∧ fs.lookup ("number" : Str) = some (.int (n : Int)) ∧ KindAt H x q ∧ KindAt H y p ∧ KindAt H z r ∧ dp x ≤ 64 ∧ dp y ≤ 64 ∧ dp z ≤ 64 ∧
  ((tyHd x ≠ 3 ∨ tyHd y ≠ 4 ∨ tyHd z ≠ 4) → Faulty E T H n 2) ∧
  (∀ x1 x2 y1 y2 z1 z2, x = .either x1 x2 → y = .fn y1 y2 → z = .fn z1 z2 → ¬ (x1 = y1 ∧ x2 = z1 ∧ y2 = z2) → Faulty E T H n 3) ∧
  (∀ x1 x2 y1 y2 z1 z2 u, x = .either x1 x2 → y = .fn y1 y2 → z = .fn z1 z2 → (x1 = y1 ∧ x2 = z1 ∧ y2 = z2) → KindAt H y2 u → Q (.ref u) H)
theorem ok_cases_kind (T : Txt K mg) : FnOk P w K mg base (L2.CX P w) 2 T.f_cases_kind T.fd_cases_kind ["part", "chosen", "for_left", "for_right"] (sp_cases_kind T) := by
  refine T.F_cases_kind.okX sc_cases_kind (fun vs H Q E h => ?_) (fun cdv A outer s H vs Q E hr h => ⟨_, (pss_cons (ps_expr (pe_call (ok_want T) (hr.mono (by decide)) rfl T.g_want T.k_want T.b_want .nil (passes_call (takes_of rfl rfl rfl rfl) (fun _ _ _ _ h => h)) (pa_cons (pv 0) (pa_cons (pv 1) (pa_cons (pe_cst rfl T.g_EITHER) pa_nil)))))
    (pss_cons (ps_expr (pe_call (ok_want T) (hr.mono (by decide)) rfl T.g_want T.k_want T.b_want .nil (passes_call (takes_of rfl rfl rfl rfl) (fun _ _ _ _ h => h)) (pa_cons (pv 0) (pa_cons (pv 2) (pa_cons (pe_cst rfl T.g_FUNCTION) pa_nil)))))
    (pss_cons (ps_expr (pe_call (ok_want T) (hr.mono (by decide)) rfl T.g_want T.k_want T.b_want .nil (passes_call (takes_of rfl rfl rfl rfl) (fun _ _ _ _ h => h)) (pa_cons (pv 0) (pa_cons (pv 3) (pa_cons (pe_cst rfl T.g_FUNCTION) pa_nil)))))
    (pss_cons (ps_expr (pe_call (ok_want_same T) (hr.mono (by decide)) rfl T.g_want_same T.k_want_same T.b_want_same .nil (passes_call (takes_of rfl rfl rfl rfl) (fun _ _ _ _ h => h)) (pa_cons (pv 0) (pa_cons (pe_ix ix_tup (pv 2) pe_int (fun _ _ => rfl)) (pa_cons (pe_ix ix_tup (pv 1) pe_int (fun _ _ => rfl)) pa_nil)))))
    (pss_cons (ps_expr (pe_call (ok_want_same T) (hr.mono (by decide)) rfl T.g_want_same T.k_want_same T.b_want_same .nil (passes_call (takes_of rfl rfl rfl rfl) (fun _ _ _ _ h => h)) (pa_cons (pv 0) (pa_cons (pe_ix ix_tup (pv 3) pe_int (fun _ _ => rfl)) (pa_cons (pe_ix ix_tup (pv 1) pe_int (fun _ _ => rfl)) pa_nil)))))
    (pss_cons (ps_expr (pe_call (ok_want_same T) (hr.mono (by decide)) rfl T.g_want_same T.k_want_same T.b_want_same .nil (passes_call (takes_of rfl rfl rfl rfl) (fun _ _ _ _ h => h)) (pa_cons (pv 0) (pa_cons (pe_ix ix_tup (pv 2) pe_int (fun _ _ => rfl)) (pa_cons (pe_ix ix_tup (pv 3) pe_int (fun _ _ => rfl)) pa_nil)))))
    (pss_one (ps_ret (pe_ix ix_tup (pv 2) pe_int (fun _ _ => rfl)))))))))), ?_⟩)
  · obtain ⟨a, q, p, r, dx, fs, n, x, y, z, rfl, _⟩ := h
    rfl
  · obtain ⟨a, q, p, r, dx, fs, n, x, y, z, rfl, ha, hn, hq, hp, hr', dx', dy, dz, k2, k3, kQ⟩ := h
    refine ⟨_, rfl, _, rfl, a, q, dx, fs, n, 3, x, rfl, ha, hn, hq, (fun c => k2 (.inl c)), fun c => ?_⟩
    refine ⟨_, rfl, _, rfl, a, p, dx, fs, n, 4, y, rfl, ha, hn, hp, (fun c => k2 (.inr (.inl c))), fun c2 => ?_⟩
    refine ⟨_, rfl, _, rfl, a, r, dx, fs, n, 4, z, rfl, ha, hn, hr', (fun c => k2 (.inr (.inr c))), fun c3 => ?_⟩
    have hx : ∃ x1 x2, x = .either x1 x2 := by cases x <;> first | exact ⟨_, _, rfl⟩ | exact absurd c (by simp [tyHd])
    have hy : ∃ x1 x2, y = .fn x1 x2 := by cases y <;> first | exact ⟨_, _, rfl⟩ | exact absurd c2 (by simp [tyHd])
    have hz : ∃ x1 x2, z = .fn x1 x2 := by cases z <;> first | exact ⟨_, _, rfl⟩ | exact absurd c3 (by simp [tyHd])
    obtain ⟨x1, x2, rfl⟩ := hx
    obtain ⟨y1, y2, rfl⟩ := hy
    obtain ⟨z1, z2, rfl⟩ := hz
    obtain ⟨b1, b2, h1, hb1, hb2⟩ := hq
    obtain ⟨c1', c2', h2, hc1, hc2⟩ := hp
    obtain ⟨d1, d2, h3, hd1, hd2⟩ := hr'
    have ex : max (dp x1) (dp x2) + 1 ≤ 64 := dx'
    have ey : max (dp y1) (dp y2) + 1 ≤ 64 := dy
    have ez : max (dp z1) (dp z2) + 1 ≤ 64 := dz
    have k3 := k3 x1 x2 y1 y2 z1 z2 rfl rfl rfl
    refine ⟨_, rfl, _, rfl, p, _, _, _, rfl, rfl, SqT.of h2, atI_nat (j := 1) rfl, _, rfl, q, _, _, _, rfl, rfl, SqT.of h1, atI_nat (j := 1) rfl, a, c1', b1, dx, fs, n, y1, x1, rfl, ha, hn, hc1, hb1, by omega, by omega, (fun g => k3 (fun e => g e.1.symm)), fun g1 => ?_⟩
    refine ⟨_, rfl, _, rfl, r, _, _, _, rfl, rfl, SqT.of h3, atI_nat (j := 1) rfl, _, rfl, q, _, _, _, rfl, rfl, SqT.of h1, atI_nat (j := 2) rfl, a, d1, b2, dx, fs, n, z1, x2, rfl, ha, hn, hd1, hb2, by omega, by omega, (fun g => k3 (fun e => g e.2.1.symm)), fun g2 => ?_⟩
    refine ⟨_, rfl, _, rfl, p, _, _, _, rfl, rfl, SqT.of h2, atI_nat (j := 2) rfl, _, rfl, r, _, _, _, rfl, rfl, SqT.of h3, atI_nat (j := 2) rfl, a, c2', d2, dx, fs, n, y2, z2, rfl, ha, hn, hc2, hd2, by omega, by omega, (fun g => k3 (fun e => g e.2.2)), fun g3 => ?_⟩
    exact ⟨_, rfl, p, _, _, _, rfl, rfl, SqT.of h2, atI_nat (j := 2) rfl, kQ x1 x2 y1 y2 z1 z2 c2' rfl rfl rfl ⟨g1.symm, g2.symm, g3⟩ hc2⟩

/-- all fields of a part, its kind as it may be -/
def sp_found_kind (T : Txt K mg) : Sp := fun vs H Q E => ∃ (a ar dx pl : Addr) (tv : V) (D : Dyn) (as kqs qs : List Addr) (n : Nat) (t : Trm) (xs l : List Ty), vs = [.ref a, .ref ar] ∧ H a = some (.ins T.C_Part dx (ptF (hd t) n tv pl D)) ∧ H pl = some (.lst (as.map V.ref)) ∧ ToldAt H (toldOf t) tv ∧ KKAt T.C_Part H as kqs ∧ KindsL H kqs xs ∧ xs.length = (kids t).length ∧ (∀ x ∈ xs, dp x ≤ 64) ∧
  H ar = some (.lst (qs.map V.ref)) ∧ KindsL H qs l.reverse ∧
  (∀ e, foundK l n t xs = .error e → ∀ H', Same H H' → Faulty E T H' e.place e.why) ∧
  (∀ x, foundK l n t xs = .ok x → ∀ (H' : Hp) (q : Addr), Same H H' → KindAt H' x q → Q (.ref q) H')
theorem ok_found_kind (T : Txt K mg) : FnOk P w K mg base (L2.CX P w) 3 T.f_found_kind T.fd_found_kind ["part", "around"] (sp_found_kind T) := by
  refine T.F_found_kind.okX sc_found_kind (fun vs H Q E h => ?_) (fun cdv A outer s H vs Q E hr h => ⟨_, (pss_cons (ps_setLc (i := 2) (own := [("own", 3)]) (by rfl) sc_found_kind.nd rfl rfl (sw_true rfl rfl rfl (by decide +kernel)) (pi_list (pe_fld (pv 0) rfl)) (blkOk_by (own := [("own", 3)]) (N := ["part", "around", "kinds", "own"]) (sc := defScope s_found_kind) (by decide +kernel)) (fun _ _ _ _ _ => (pg_name (i := 3) sc_found_kind.nd rfl (Or.inl rfl))) (fun _ _ _ _ _ => pts_nil) (fun _ _ _ _ _ => (pe_fldK (K := K) rfl (pv 3) rfl)))
    (pss_cons (ps_if (pt_cmpR op_eq (pe_fld (pv 0) rfl) (pe_cst rfl T.g_VARIABLE_TERM) (nomark _))
      (pss_one (ps_ret (pe_call (ok_variable_kind T) (hr.mono (by decide)) rfl T.g_variable_kind T.k_variable_kind T.b_variable_kind .nil (passes_call (takes_of rfl rfl rfl rfl) (fun _ _ _ _ h => h)) (pa_cons (pv 0) (pa_cons (pv 1) pa_nil)))))
      pss_nil)
    (pss_cons (ps_if (pt_cmpR op_eq (pe_fld (pv 0) rfl) (pe_cst rfl T.g_PAIR_TERM) (nomark _))
      (pss_one (ps_ret (pe_tup (pa_cons (pe_cst rfl T.g_PAIR) (pa_cons (pe_ix ix_list (pv 2) pe_int (fun _ _ => rfl)) (pa_cons (pe_ix ix_list (pv 2) pe_int (fun _ _ => rfl)) pa_nil))))))
      pss_nil)
    (pss_cons (ps_if (pt_cmpR op_eq (pe_fld (pv 0) rfl) (pe_cst rfl T.g_FIRST) (nomark _))
      (pss_cons (ps_expr (pe_call (ok_want T) (hr.mono (by decide)) rfl T.g_want T.k_want T.b_want .nil (passes_call (takes_of rfl rfl rfl rfl) (fun _ _ _ _ h => h)) (pa_cons (pv 0) (pa_cons (pe_ix ix_list (pv 2) pe_int (fun _ _ => rfl)) (pa_cons (pe_cst rfl T.g_PAIR) pa_nil)))))
      (pss_one (ps_ret (pe_ix ix_tup (pe_ix ix_list (pv 2) pe_int (fun _ _ => rfl)) pe_int (fun _ _ => rfl)))))
      pss_nil)
    (pss_cons (ps_if (pt_cmpR op_eq (pe_fld (pv 0) rfl) (pe_cst rfl T.g_SECOND) (nomark _))
      (pss_cons (ps_expr (pe_call (ok_want T) (hr.mono (by decide)) rfl T.g_want T.k_want T.b_want .nil (passes_call (takes_of rfl rfl rfl rfl) (fun _ _ _ _ h => h)) (pa_cons (pv 0) (pa_cons (pe_ix ix_list (pv 2) pe_int (fun _ _ => rfl)) (pa_cons (pe_cst rfl T.g_PAIR) pa_nil)))))
      (pss_one (ps_ret (pe_ix ix_tup (pe_ix ix_list (pv 2) pe_int (fun _ _ => rfl)) pe_int (fun _ _ => rfl)))))
      pss_nil)
    (pss_cons (ps_if (pt_cmpR op_eq (pe_fld (pv 0) rfl) (pe_cst rfl T.g_LEFT) (nomark _))
      (pss_one (ps_ret (pe_tup (pa_cons (pe_cst rfl T.g_EITHER) (pa_cons (pe_ix ix_list (pv 2) pe_int (fun _ _ => rfl)) (pa_cons (pe_fld (pv 0) rfl) pa_nil))))))
      pss_nil)
    (pss_cons (ps_if (pt_cmpR op_eq (pe_fld (pv 0) rfl) (pe_cst rfl T.g_RIGHT) (nomark _))
      (pss_one (ps_ret (pe_tup (pa_cons (pe_cst rfl T.g_EITHER) (pa_cons (pe_fld (pv 0) rfl) (pa_cons (pe_ix ix_list (pv 2) pe_int (fun _ _ => rfl)) pa_nil))))))
      pss_nil)
    (pss_cons (ps_if (pt_cmpR op_eq (pe_fld (pv 0) rfl) (pe_cst rfl T.g_CASES) (nomark _))
      (pss_one (ps_ret (pe_call (ok_cases_kind T) (hr.mono (by decide)) rfl T.g_cases_kind T.k_cases_kind T.b_cases_kind .nil (passes_call (takes_of rfl rfl rfl rfl) (fun _ _ _ _ h => h)) (pa_cons (pv 0) (pa_cons (pe_ix ix_list (pv 2) pe_int (fun _ _ => rfl)) (pa_cons (pe_ix ix_list (pv 2) pe_int (fun _ _ => rfl)) (pa_cons (pe_ix ix_list (pv 2) pe_int (fun _ _ => rfl)) pa_nil)))))))
      pss_nil)
    (pss_cons (ps_if (pt_cmpR op_eq (pe_fld (pv 0) rfl) (pe_cst rfl T.g_FUNCTION_TERM) (nomark _))
      (pss_one (ps_ret (pe_tup (pa_cons (pe_cst rfl T.g_FUNCTION) (pa_cons (pe_fld (pv 0) rfl) (pa_cons (pe_ix ix_list (pv 2) pe_int (fun _ _ => rfl)) pa_nil))))))
      pss_nil)
    (pss_cons (ps_if (pt_cmpR op_eq (pe_fld (pv 0) rfl) (pe_cst rfl T.g_PUT) (nomark _))
      (pss_one (ps_ret (pe_call (ok_put_kind T) (hr.mono (by decide)) rfl T.g_put_kind T.k_put_kind T.b_put_kind .nil (passes_call (takes_of rfl rfl rfl rfl) (fun _ _ _ _ h => h)) (pa_cons (pv 0) (pa_cons (pe_ix ix_list (pv 2) pe_int (fun _ _ => rfl)) (pa_cons (pe_ix ix_list (pv 2) pe_int (fun _ _ => rfl)) pa_nil))))))
      pss_nil)
    (pss_cons (ps_if (pt_cmpR op_eq (pe_fld (pv 0) rfl) (pe_cst rfl T.g_IF) (nomark _))
      (pss_one (ps_ret (pe_call (ok_if_kind T) (hr.mono (by decide)) rfl T.g_if_kind T.k_if_kind T.b_if_kind .nil (passes_call (takes_of rfl rfl rfl rfl) (fun _ _ _ _ h => h)) (pa_cons (pv 0) (pa_cons (pe_ix ix_list (pv 2) pe_int (fun _ _ => rfl)) (pa_cons (pe_ix ix_list (pv 2) pe_int (fun _ _ => rfl)) (pa_cons (pe_ix ix_list (pv 2) pe_int (fun _ _ => rfl)) pa_nil)))))))
      pss_nil)
    (pss_one (ps_ret (pe_tup (pa_cons (pe_cst rfl T.g_TWO) pa_nil))))))))))))))), ?_⟩)
  · obtain ⟨a, ar, dx, pl, tv, D, as, kqs, qs, n, t, xs, l, rfl, _⟩ := h
    rfl
  · obtain ⟨a, ar, dx, pl, tv, D, as, kqs, qs, n, t, xs, l, rfl, ha, hpl, ht, kk, kl, hxl, hdp, har, hl, kE, kQ⟩ := h
    have lens : as.length = kqs.length := kk.len
    have lens2 : kqs.length = xs.length := kl.len
    have l3 : xs.length ≤ 3 := by
      rw [hxl, kids_len]
      exact cnt_le _
    refine ⟨_, rfl, a, _, dx, _, _, rfl, ha, T.cl_Part, T.n_Part_parts, ptF_parts, pl, rfl, ⟨_, SqL.of hpl⟩, fun B hB => ?_⟩
    refine lc_list (K := K) (a := pl) (xs := as.map V.ref) (fun j Hd => Same H Hd ∧ Hd B = some (.lst ((kqs.take j).map V.ref))) ⟨Same.new hB, upd_same⟩ ?_ ?_ ?_
    · rintro j Hd _ ⟨s1, _⟩
      exact SqL.of (s1 _ _ hpl)
    · rintro j v Hd hv ⟨s1, c1⟩
      rw [List.getElem?_map] at hv
      obtain ⟨b, hb, rfl⟩ : ∃ b, as[j]? = some b ∧ v = .ref b := by
        cases e : as[j]? with
        | none => rw [e] at hv; cases hv
        | some y => rw [e] at hv; exact ⟨y, rfl, (Option.some.inj hv).symm⟩
      obtain ⟨q, dx1, fs1, hq, hb1, hb2⟩ := kk.at hb
      refine ⟨rfl, ?_⟩
      refine ⟨_, rfl, b, _, dx1, _, _, rfl, s1 _ _ hb1, T.cl_Part, T.n_Part_kind, hb2, _, c1, ?_, ?_, ?_⟩
      · rw [List.length_map, List.length_take]
        exact small1000 (by omega)
      · intro c o e
        rw [upd_ne (ne_of_none e hB)]
        exact s1 c o e
      · rw [upd_same, List.take_add_one, hq, List.map_append]
        rfl
    · rintro Hd ⟨s1, c1⟩
      rw [List.length_map, lens, List.take_length] at c1
      have ha1 := s1 _ _ ha
      have hpl1 := s1 _ _ hpl
      have har1 := s1 _ _ har
      have ht1 := ht.mono (Same.tups s1)
      have kl1 := kl.mono (Same.tups s1)
      have hl1 := hl.mono (Same.tups s1)
      have fl : ∀ {n' why : Nat}, (∀ H', Same H H' → Faulty E T H' n' why) → Faulty E T Hd n' why := fun f => f Hd s1
      cases t with
      | var i =>
        refine ⟨_, rfl, a, _, dx, _, _, rfl, ha1, T.cl_Part, T.n_Part_head, ptF_head, rfl, _, rfl, if_true_of rfl ?_⟩
        have ht2 : tv = .int (i : Int) := ht1
        refine ⟨_, rfl, _, rfl, a, ar, dx, _, n, i, qs, l, rfl, ha1, ptF_number, ptF_told.trans (congrArg some ht2), har1, hl1, (fun e => ?_), (fun x q e kx => ?_)⟩
        · refine fl (kE ⟨n, 1⟩ ?_)
          simp only [foundK, e]
        · refine kQ x ?_ Hd q s1 kx
          simp only [foundK, e]
      | pair u v =>
        refine ⟨_, rfl, a, _, dx, _, _, rfl, ha1, T.cl_Part, T.n_Part_head, ptF_head, rfl, _, rfl, if_false_of rfl ?_⟩
        refine ⟨_, rfl, a, _, dx, _, _, rfl, ha1, T.cl_Part, T.n_Part_head, ptF_head, rfl, _, rfl, if_true_of rfl ?_⟩
        obtain ⟨x1, x2, rfl⟩ : ∃ x1 x2, xs = [x1, x2] := by
          match xs, hxl with
          | [x1, x2], _ => exact ⟨x1, x2, rfl⟩
        obtain ⟨q1, q2, rfl⟩ : ∃ q1 q2, kqs = [q1, q2] := by
          match kqs, lens2 with
          | [x1, x2], _ => exact ⟨x1, x2, rfl⟩
        obtain ⟨g1, g2, _⟩ := kl1
        refine ⟨_, rfl, B, _, _, _, rfl, rfl, SqL.of c1, atI_nat (j := 0) rfl, _, rfl, B, _, _, _, rfl, rfl, SqL.of c1, atI_nat (j := 1) rfl, (by show 3 ≤ sizeLine; decide), fun p hp => ?_⟩
        have sn := Same.new (o := .tup [.int 2, .ref q1, .ref q2]) hp
        exact kQ (.pair x1 x2) rfl _ p (Same.trans s1 sn) ⟨q1, q2, upd_same, g1.mono (Same.tups sn), g2.mono (Same.tups sn)⟩
      | first u =>
        refine ⟨_, rfl, a, _, dx, _, _, rfl, ha1, T.cl_Part, T.n_Part_head, ptF_head, rfl, _, rfl, if_false_of rfl ?_⟩
        refine ⟨_, rfl, a, _, dx, _, _, rfl, ha1, T.cl_Part, T.n_Part_head, ptF_head, rfl, _, rfl, if_false_of rfl ?_⟩
        refine ⟨_, rfl, a, _, dx, _, _, rfl, ha1, T.cl_Part, T.n_Part_head, ptF_head, rfl, _, rfl, if_true_of rfl ?_⟩
        obtain ⟨x1, rfl⟩ : ∃ x1, xs = [x1] := by
          match xs, hxl with
          | [x1], _ => exact ⟨x1, rfl⟩
        obtain ⟨q1, rfl⟩ : ∃ q1, kqs = [q1] := by
          match kqs, lens2 with
          | [x1], _ => exact ⟨x1, rfl⟩
        obtain ⟨g1, _⟩ := kl1
        refine ⟨_, rfl, _, rfl, B, _, _, _, rfl, rfl, SqL.of c1, atI_nat (j := 0) rfl, a, q1, dx, _, n, 2, x1, rfl, ha1, ptF_number, g1, (fun e => ?_), (fun e => ?_)⟩
        · refine fl (kE ⟨n, 2⟩ ?_)
          cases x1 <;> first | rfl | exact absurd rfl e
        · cases x1 with
          | pair y z =>
            obtain ⟨b, c, h1, hb, hc⟩ := g1
            exact ⟨_, rfl, B, _, _, _, rfl, rfl, SqL.of c1, atI_nat (j := 0) rfl, q1, _, _, _, rfl, rfl, SqT.of h1, atI_nat (j := 1) rfl, kQ y rfl Hd b s1 hb⟩
          | var i => exact absurd e (by simp [tyHd])
          | two => exact absurd e (by simp [tyHd])
          | either y z => exact absurd e (by simp [tyHd])
          | fn y z => exact absurd e (by simp [tyHd])
      | second u =>
        refine ⟨_, rfl, a, _, dx, _, _, rfl, ha1, T.cl_Part, T.n_Part_head, ptF_head, rfl, _, rfl, if_false_of rfl ?_⟩
        refine ⟨_, rfl, a, _, dx, _, _, rfl, ha1, T.cl_Part, T.n_Part_head, ptF_head, rfl, _, rfl, if_false_of rfl ?_⟩
        refine ⟨_, rfl, a, _, dx, _, _, rfl, ha1, T.cl_Part, T.n_Part_head, ptF_head, rfl, _, rfl, if_false_of rfl ?_⟩
        refine ⟨_, rfl, a, _, dx, _, _, rfl, ha1, T.cl_Part, T.n_Part_head, ptF_head, rfl, _, rfl, if_true_of rfl ?_⟩
        obtain ⟨x1, rfl⟩ : ∃ x1, xs = [x1] := by
          match xs, hxl with
          | [x1], _ => exact ⟨x1, rfl⟩
        obtain ⟨q1, rfl⟩ : ∃ q1, kqs = [q1] := by
          match kqs, lens2 with
          | [x1], _ => exact ⟨x1, rfl⟩
        obtain ⟨g1, _⟩ := kl1
        refine ⟨_, rfl, _, rfl, B, _, _, _, rfl, rfl, SqL.of c1, atI_nat (j := 0) rfl, a, q1, dx, _, n, 2, x1, rfl, ha1, ptF_number, g1, (fun e => ?_), (fun e => ?_)⟩
        · refine fl (kE ⟨n, 2⟩ ?_)
          cases x1 <;> first | rfl | exact absurd rfl e
        · cases x1 with
          | pair y z =>
            obtain ⟨b, c, h1, hb, hc⟩ := g1
            exact ⟨_, rfl, B, _, _, _, rfl, rfl, SqL.of c1, atI_nat (j := 0) rfl, q1, _, _, _, rfl, rfl, SqT.of h1, atI_nat (j := 2) rfl, kQ z rfl Hd c s1 hc⟩
          | var i => exact absurd e (by simp [tyHd])
          | two => exact absurd e (by simp [tyHd])
          | either y z => exact absurd e (by simp [tyHd])
          | fn y z => exact absurd e (by simp [tyHd])
      | left o u =>
        refine ⟨_, rfl, a, _, dx, _, _, rfl, ha1, T.cl_Part, T.n_Part_head, ptF_head, rfl, _, rfl, if_false_of rfl ?_⟩
        refine ⟨_, rfl, a, _, dx, _, _, rfl, ha1, T.cl_Part, T.n_Part_head, ptF_head, rfl, _, rfl, if_false_of rfl ?_⟩
        refine ⟨_, rfl, a, _, dx, _, _, rfl, ha1, T.cl_Part, T.n_Part_head, ptF_head, rfl, _, rfl, if_false_of rfl ?_⟩
        refine ⟨_, rfl, a, _, dx, _, _, rfl, ha1, T.cl_Part, T.n_Part_head, ptF_head, rfl, _, rfl, if_false_of rfl ?_⟩
        refine ⟨_, rfl, a, _, dx, _, _, rfl, ha1, T.cl_Part, T.n_Part_head, ptF_head, rfl, _, rfl, if_true_of rfl ?_⟩
        obtain ⟨x1, rfl⟩ : ∃ x1, xs = [x1] := by
          match xs, hxl with
          | [x1], _ => exact ⟨x1, rfl⟩
        obtain ⟨q1, rfl⟩ : ∃ q1, kqs = [q1] := by
          match kqs, lens2 with
          | [x1], _ => exact ⟨x1, rfl⟩
        obtain ⟨g1, _⟩ := kl1
        obtain ⟨qt, et, kt⟩ := ht1
        subst et
        refine ⟨_, rfl, B, _, _, _, rfl, rfl, SqL.of c1, atI_nat (j := 0) rfl, _, rfl, a, _, dx, _, _, rfl, ha1, T.cl_Part, T.n_Part_told, ptF_told, (by show 3 ≤ sizeLine; decide), fun p hp => ?_⟩
        have sn := Same.new (o := .tup [.int 3, .ref q1, .ref qt]) hp
        exact kQ (.either x1 o) rfl _ p (Same.trans s1 sn) ⟨q1, qt, upd_same, g1.mono (Same.tups sn), kt.mono (Same.tups sn)⟩
      | right o u =>
        refine ⟨_, rfl, a, _, dx, _, _, rfl, ha1, T.cl_Part, T.n_Part_head, ptF_head, rfl, _, rfl, if_false_of rfl ?_⟩
        refine ⟨_, rfl, a, _, dx, _, _, rfl, ha1, T.cl_Part, T.n_Part_head, ptF_head, rfl, _, rfl, if_false_of rfl ?_⟩
        refine ⟨_, rfl, a, _, dx, _, _, rfl, ha1, T.cl_Part, T.n_Part_head, ptF_head, rfl, _, rfl, if_false_of rfl ?_⟩
        refine ⟨_, rfl, a, _, dx, _, _, rfl, ha1, T.cl_Part, T.n_Part_head, ptF_head, rfl, _, rfl, if_false_of rfl ?_⟩
        refine ⟨_, rfl, a, _, dx, _, _, rfl, ha1, T.cl_Part, T.n_Part_head, ptF_head, rfl, _, rfl, if_false_of rfl ?_⟩
        refine ⟨_, rfl, a, _, dx, _, _, rfl, ha1, T.cl_Part, T.n_Part_head, ptF_head, rfl, _, rfl, if_true_of rfl ?_⟩
        obtain ⟨x1, rfl⟩ : ∃ x1, xs = [x1] := by
          match xs, hxl with
          | [x1], _ => exact ⟨x1, rfl⟩
        obtain ⟨q1, rfl⟩ : ∃ q1, kqs = [q1] := by
          match kqs, lens2 with
          | [x1], _ => exact ⟨x1, rfl⟩
        obtain ⟨g1, _⟩ := kl1
        obtain ⟨qt, et, kt⟩ := ht1
        subst et
        refine ⟨_, rfl, a, _, dx, _, _, rfl, ha1, T.cl_Part, T.n_Part_told, ptF_told, _, rfl, B, _, _, _, rfl, rfl, SqL.of c1, atI_nat (j := 0) rfl, (by show 3 ≤ sizeLine; decide), fun p hp => ?_⟩
        have sn := Same.new (o := .tup [.int 3, .ref qt, .ref q1]) hp
        exact kQ (.either o x1) rfl _ p (Same.trans s1 sn) ⟨qt, q1, upd_same, kt.mono (Same.tups sn), g1.mono (Same.tups sn)⟩
      | cases u v z =>
        refine ⟨_, rfl, a, _, dx, _, _, rfl, ha1, T.cl_Part, T.n_Part_head, ptF_head, rfl, _, rfl, if_false_of rfl ?_⟩
        refine ⟨_, rfl, a, _, dx, _, _, rfl, ha1, T.cl_Part, T.n_Part_head, ptF_head, rfl, _, rfl, if_false_of rfl ?_⟩
        refine ⟨_, rfl, a, _, dx, _, _, rfl, ha1, T.cl_Part, T.n_Part_head, ptF_head, rfl, _, rfl, if_false_of rfl ?_⟩
        refine ⟨_, rfl, a, _, dx, _, _, rfl, ha1, T.cl_Part, T.n_Part_head, ptF_head, rfl, _, rfl, if_false_of rfl ?_⟩
        refine ⟨_, rfl, a, _, dx, _, _, rfl, ha1, T.cl_Part, T.n_Part_head, ptF_head, rfl, _, rfl, if_false_of rfl ?_⟩
        refine ⟨_, rfl, a, _, dx, _, _, rfl, ha1, T.cl_Part, T.n_Part_head, ptF_head, rfl, _, rfl, if_false_of rfl ?_⟩
        refine ⟨_, rfl, a, _, dx, _, _, rfl, ha1, T.cl_Part, T.n_Part_head, ptF_head, rfl, _, rfl, if_true_of rfl ?_⟩
        obtain ⟨x1, x2, x3, rfl⟩ : ∃ x1 x2 x3, xs = [x1, x2, x3] := by
          match xs, hxl with
          | [x1, x2, x3], _ => exact ⟨x1, x2, x3, rfl⟩
        obtain ⟨q1, q2, q3, rfl⟩ : ∃ q1 q2 q3, kqs = [q1, q2, q3] := by
          match kqs, lens2 with
          | [x1, x2, x3], _ => exact ⟨x1, x2, x3, rfl⟩
        obtain ⟨g1, g2, g3, _⟩ := kl1
        refine ⟨_, rfl, _, rfl, B, _, _, _, rfl, rfl, SqL.of c1, atI_nat (j := 0) rfl, _, rfl, B, _, _, _, rfl, rfl, SqL.of c1, atI_nat (j := 1) rfl, _, rfl, B, _, _, _, rfl, rfl, SqL.of c1, atI_nat (j := 2) rfl, a, q1, q2, q3, dx, _, n, x1, x2, x3, rfl, ha1, ptF_number, g1, g2, g3, hdp _ (by simp), hdp _ (by simp), hdp _ (by simp), (fun e => ?_), (fun a1 a2 b1 b2 c1 c2 e1 e2 e3 e => ?_), (fun a1 a2 b1 b2 c1 c2 w e1 e2 e3 e kw => ?_)⟩
        · refine fl (kE ⟨n, 2⟩ ?_)
          cases x1 <;> cases x2 <;> cases x3 <;> first | rfl | exact absurd e (by simp [tyHd])
        · subst e1 e2 e3
          refine fl (kE ⟨n, 3⟩ ?_)
          simp only [foundK]
          rw [if_neg e]
        · subst e1 e2 e3
          refine kQ b2 ?_ Hd w s1 kw
          simp only [foundK]
          rw [if_pos e]
      | lam o u =>
        refine ⟨_, rfl, a, _, dx, _, _, rfl, ha1, T.cl_Part, T.n_Part_head, ptF_head, rfl, _, rfl, if_false_of rfl ?_⟩
        refine ⟨_, rfl, a, _, dx, _, _, rfl, ha1, T.cl_Part, T.n_Part_head, ptF_head, rfl, _, rfl, if_false_of rfl ?_⟩
        refine ⟨_, rfl, a, _, dx, _, _, rfl, ha1, T.cl_Part, T.n_Part_head, ptF_head, rfl, _, rfl, if_false_of rfl ?_⟩
        refine ⟨_, rfl, a, _, dx, _, _, rfl, ha1, T.cl_Part, T.n_Part_head, ptF_head, rfl, _, rfl, if_false_of rfl ?_⟩
        refine ⟨_, rfl, a, _, dx, _, _, rfl, ha1, T.cl_Part, T.n_Part_head, ptF_head, rfl, _, rfl, if_false_of rfl ?_⟩
        refine ⟨_, rfl, a, _, dx, _, _, rfl, ha1, T.cl_Part, T.n_Part_head, ptF_head, rfl, _, rfl, if_false_of rfl ?_⟩
        refine ⟨_, rfl, a, _, dx, _, _, rfl, ha1, T.cl_Part, T.n_Part_head, ptF_head, rfl, _, rfl, if_false_of rfl ?_⟩
        refine ⟨_, rfl, a, _, dx, _, _, rfl, ha1, T.cl_Part, T.n_Part_head, ptF_head, rfl, _, rfl, if_true_of rfl ?_⟩
        obtain ⟨x1, rfl⟩ : ∃ x1, xs = [x1] := by
          match xs, hxl with
          | [x1], _ => exact ⟨x1, rfl⟩
        obtain ⟨q1, rfl⟩ : ∃ q1, kqs = [q1] := by
          match kqs, lens2 with
          | [x1], _ => exact ⟨x1, rfl⟩
        obtain ⟨g1, _⟩ := kl1
        obtain ⟨qt, et, kt⟩ := ht1
        subst et
        refine ⟨_, rfl, a, _, dx, _, _, rfl, ha1, T.cl_Part, T.n_Part_told, ptF_told, _, rfl, B, _, _, _, rfl, rfl, SqL.of c1, atI_nat (j := 0) rfl, (by show 3 ≤ sizeLine; decide), fun p hp => ?_⟩
        have sn := Same.new (o := .tup [.int 4, .ref qt, .ref q1]) hp
        exact kQ (.fn o x1) rfl _ p (Same.trans s1 sn) ⟨qt, q1, upd_same, kt.mono (Same.tups sn), g1.mono (Same.tups sn)⟩
      | app u v =>
        refine ⟨_, rfl, a, _, dx, _, _, rfl, ha1, T.cl_Part, T.n_Part_head, ptF_head, rfl, _, rfl, if_false_of rfl ?_⟩
        refine ⟨_, rfl, a, _, dx, _, _, rfl, ha1, T.cl_Part, T.n_Part_head, ptF_head, rfl, _, rfl, if_false_of rfl ?_⟩
        refine ⟨_, rfl, a, _, dx, _, _, rfl, ha1, T.cl_Part, T.n_Part_head, ptF_head, rfl, _, rfl, if_false_of rfl ?_⟩
        refine ⟨_, rfl, a, _, dx, _, _, rfl, ha1, T.cl_Part, T.n_Part_head, ptF_head, rfl, _, rfl, if_false_of rfl ?_⟩
        refine ⟨_, rfl, a, _, dx, _, _, rfl, ha1, T.cl_Part, T.n_Part_head, ptF_head, rfl, _, rfl, if_false_of rfl ?_⟩
        refine ⟨_, rfl, a, _, dx, _, _, rfl, ha1, T.cl_Part, T.n_Part_head, ptF_head, rfl, _, rfl, if_false_of rfl ?_⟩
        refine ⟨_, rfl, a, _, dx, _, _, rfl, ha1, T.cl_Part, T.n_Part_head, ptF_head, rfl, _, rfl, if_false_of rfl ?_⟩
        refine ⟨_, rfl, a, _, dx, _, _, rfl, ha1, T.cl_Part, T.n_Part_head, ptF_head, rfl, _, rfl, if_false_of rfl ?_⟩
        refine ⟨_, rfl, a, _, dx, _, _, rfl, ha1, T.cl_Part, T.n_Part_head, ptF_head, rfl, _, rfl, if_true_of rfl ?_⟩
        obtain ⟨x1, x2, rfl⟩ : ∃ x1 x2, xs = [x1, x2] := by
          match xs, hxl with
          | [x1, x2], _ => exact ⟨x1, x2, rfl⟩
        obtain ⟨q1, q2, rfl⟩ : ∃ q1 q2, kqs = [q1, q2] := by
          match kqs, lens2 with
          | [x1, x2], _ => exact ⟨x1, x2, rfl⟩
        obtain ⟨g1, g2, _⟩ := kl1
        refine ⟨_, rfl, _, rfl, B, _, _, _, rfl, rfl, SqL.of c1, atI_nat (j := 0) rfl, _, rfl, B, _, _, _, rfl, rfl, SqL.of c1, atI_nat (j := 1) rfl, a, q1, q2, dx, _, n, x1, x2, rfl, ha1, ptF_number, g1, g2, hdp _ (by simp), hdp _ (by simp), (fun e => ?_), (fun y z e1 e => ?_), (fun y z w e1 e kw => ?_)⟩
        · refine fl (kE ⟨n, 2⟩ ?_)
          cases x1 <;> first | rfl | exact absurd rfl e
        · subst e1
          refine fl (kE ⟨n, 3⟩ ?_)
          simp only [foundK]
          rw [if_neg e]
        · subst e1
          refine kQ z ?_ Hd w s1 kw
          simp only [foundK]
          rw [if_pos e]
      | yes =>
        refine ⟨_, rfl, a, _, dx, _, _, rfl, ha1, T.cl_Part, T.n_Part_head, ptF_head, rfl, _, rfl, if_false_of rfl ?_⟩
        refine ⟨_, rfl, a, _, dx, _, _, rfl, ha1, T.cl_Part, T.n_Part_head, ptF_head, rfl, _, rfl, if_false_of rfl ?_⟩
        refine ⟨_, rfl, a, _, dx, _, _, rfl, ha1, T.cl_Part, T.n_Part_head, ptF_head, rfl, _, rfl, if_false_of rfl ?_⟩
        refine ⟨_, rfl, a, _, dx, _, _, rfl, ha1, T.cl_Part, T.n_Part_head, ptF_head, rfl, _, rfl, if_false_of rfl ?_⟩
        refine ⟨_, rfl, a, _, dx, _, _, rfl, ha1, T.cl_Part, T.n_Part_head, ptF_head, rfl, _, rfl, if_false_of rfl ?_⟩
        refine ⟨_, rfl, a, _, dx, _, _, rfl, ha1, T.cl_Part, T.n_Part_head, ptF_head, rfl, _, rfl, if_false_of rfl ?_⟩
        refine ⟨_, rfl, a, _, dx, _, _, rfl, ha1, T.cl_Part, T.n_Part_head, ptF_head, rfl, _, rfl, if_false_of rfl ?_⟩
        refine ⟨_, rfl, a, _, dx, _, _, rfl, ha1, T.cl_Part, T.n_Part_head, ptF_head, rfl, _, rfl, if_false_of rfl ?_⟩
        refine ⟨_, rfl, a, _, dx, _, _, rfl, ha1, T.cl_Part, T.n_Part_head, ptF_head, rfl, _, rfl, if_false_of rfl ?_⟩
        refine ⟨_, rfl, a, _, dx, _, _, rfl, ha1, T.cl_Part, T.n_Part_head, ptF_head, rfl, _, rfl, if_false_of rfl ?_⟩
        refine ⟨(by show 1 ≤ sizeLine; decide), fun p hp => ?_⟩
        exact kQ .two rfl _ p (Same.trans s1 (Same.new hp)) upd_same
      | no =>
        refine ⟨_, rfl, a, _, dx, _, _, rfl, ha1, T.cl_Part, T.n_Part_head, ptF_head, rfl, _, rfl, if_false_of rfl ?_⟩
        refine ⟨_, rfl, a, _, dx, _, _, rfl, ha1, T.cl_Part, T.n_Part_head, ptF_head, rfl, _, rfl, if_false_of rfl ?_⟩
        refine ⟨_, rfl, a, _, dx, _, _, rfl, ha1, T.cl_Part, T.n_Part_head, ptF_head, rfl, _, rfl, if_false_of rfl ?_⟩
        refine ⟨_, rfl, a, _, dx, _, _, rfl, ha1, T.cl_Part, T.n_Part_head, ptF_head, rfl, _, rfl, if_false_of rfl ?_⟩
        refine ⟨_, rfl, a, _, dx, _, _, rfl, ha1, T.cl_Part, T.n_Part_head, ptF_head, rfl, _, rfl, if_false_of rfl ?_⟩
        refine ⟨_, rfl, a, _, dx, _, _, rfl, ha1, T.cl_Part, T.n_Part_head, ptF_head, rfl, _, rfl, if_false_of rfl ?_⟩
        refine ⟨_, rfl, a, _, dx, _, _, rfl, ha1, T.cl_Part, T.n_Part_head, ptF_head, rfl, _, rfl, if_false_of rfl ?_⟩
        refine ⟨_, rfl, a, _, dx, _, _, rfl, ha1, T.cl_Part, T.n_Part_head, ptF_head, rfl, _, rfl, if_false_of rfl ?_⟩
        refine ⟨_, rfl, a, _, dx, _, _, rfl, ha1, T.cl_Part, T.n_Part_head, ptF_head, rfl, _, rfl, if_false_of rfl ?_⟩
        refine ⟨_, rfl, a, _, dx, _, _, rfl, ha1, T.cl_Part, T.n_Part_head, ptF_head, rfl, _, rfl, if_false_of rfl ?_⟩
        refine ⟨(by show 1 ≤ sizeLine; decide), fun p hp => ?_⟩
        exact kQ .two rfl _ p (Same.trans s1 (Same.new hp)) upd_same
      | if_ u v z =>
        refine ⟨_, rfl, a, _, dx, _, _, rfl, ha1, T.cl_Part, T.n_Part_head, ptF_head, rfl, _, rfl, if_false_of rfl ?_⟩
        refine ⟨_, rfl, a, _, dx, _, _, rfl, ha1, T.cl_Part, T.n_Part_head, ptF_head, rfl, _, rfl, if_false_of rfl ?_⟩
        refine ⟨_, rfl, a, _, dx, _, _, rfl, ha1, T.cl_Part, T.n_Part_head, ptF_head, rfl, _, rfl, if_false_of rfl ?_⟩
        refine ⟨_, rfl, a, _, dx, _, _, rfl, ha1, T.cl_Part, T.n_Part_head, ptF_head, rfl, _, rfl, if_false_of rfl ?_⟩
        refine ⟨_, rfl, a, _, dx, _, _, rfl, ha1, T.cl_Part, T.n_Part_head, ptF_head, rfl, _, rfl, if_false_of rfl ?_⟩
        refine ⟨_, rfl, a, _, dx, _, _, rfl, ha1, T.cl_Part, T.n_Part_head, ptF_head, rfl, _, rfl, if_false_of rfl ?_⟩
        refine ⟨_, rfl, a, _, dx, _, _, rfl, ha1, T.cl_Part, T.n_Part_head, ptF_head, rfl, _, rfl, if_false_of rfl ?_⟩
        refine ⟨_, rfl, a, _, dx, _, _, rfl, ha1, T.cl_Part, T.n_Part_head, ptF_head, rfl, _, rfl, if_false_of rfl ?_⟩
        refine ⟨_, rfl, a, _, dx, _, _, rfl, ha1, T.cl_Part, T.n_Part_head, ptF_head, rfl, _, rfl, if_false_of rfl ?_⟩
        refine ⟨_, rfl, a, _, dx, _, _, rfl, ha1, T.cl_Part, T.n_Part_head, ptF_head, rfl, _, rfl, if_true_of rfl ?_⟩
        obtain ⟨x1, x2, x3, rfl⟩ : ∃ x1 x2 x3, xs = [x1, x2, x3] := by
          match xs, hxl with
          | [x1, x2, x3], _ => exact ⟨x1, x2, x3, rfl⟩
        obtain ⟨q1, q2, q3, rfl⟩ : ∃ q1 q2 q3, kqs = [q1, q2, q3] := by
          match kqs, lens2 with
          | [x1, x2, x3], _ => exact ⟨x1, x2, x3, rfl⟩
        obtain ⟨g1, g2, g3, _⟩ := kl1
        refine ⟨_, rfl, _, rfl, B, _, _, _, rfl, rfl, SqL.of c1, atI_nat (j := 0) rfl, _, rfl, B, _, _, _, rfl, rfl, SqL.of c1, atI_nat (j := 1) rfl, _, rfl, B, _, _, _, rfl, rfl, SqL.of c1, atI_nat (j := 2) rfl, a, q1, q2, q3, dx, _, n, x1, x2, x3, rfl, ha1, ptF_number, g1, g2, g3, hdp _ (by simp), hdp _ (by simp), (fun e => ?_), (fun e0 e => ?_), (fun e0 e => ?_)⟩
        · refine fl (kE ⟨n, 2⟩ ?_)
          cases x1 <;> first | rfl | exact absurd rfl e
        · refine fl (kE ⟨n, 3⟩ ?_)
          cases x1 with
          | two =>
            simp only [foundK]
            rw [if_neg e]
          | var i => exact absurd e0 (by simp [tyHd])
          | pair y z => exact absurd e0 (by simp [tyHd])
          | either y z => exact absurd e0 (by simp [tyHd])
          | fn y z => exact absurd e0 (by simp [tyHd])
        · refine kQ x2 ?_ Hd q2 s1 g2
          cases x1 with
          | two =>
            simp only [foundK]
            rw [if_pos e]
          | var i => exact absurd e0 (by simp [tyHd])
          | pair y z => exact absurd e0 (by simp [tyHd])
          | either y z => exact absurd e0 (by simp [tyHd])
          | fn y z => exact absurd e0 (by simp [tyHd])
end
end FC
namespace FC
open PySem PySem.Spec PyProof.Rows L2
open Pa05 (Ty typed)
theorem TmOk.kid {k : Nat} {t s : Trm} (h : TmOk k t) (hs : s ∈ kids t) : TmOk k s := fun u hu a ha => h u (by
  rw [nodes_eq]
  exact List.mem_cons_of_mem _ (List.mem_flatMap.mpr ⟨s, hs, hu⟩)) a ha
theorem TmOk.here {k : Nat} {t : Trm} (h : TmOk k t) {a : Ty} (e : toldOf t = .ty a) : TyOk k a ∧ dp a ≤ 6 := h t (by rw [nodes_eq]; exact List.mem_cons_self ..) a e
def EnvOk (k : Nat) (l : List Ty) : Prop := ∀ x ∈ l, TyOk k x ∧ dp x ≤ 6
theorem EnvOk.kid {k : Nat} {l : List Ty} {t : Trm} (h : EnvOk k l) (ht : TmOk k t) : EnvOk k (inEnv t l) := by
  cases t with
  | lam a u =>
    intro x hx
    rcases List.mem_cons.mp hx with q | q
    · rw [q]; exact ht.here rfl
    · exact h x q
  | _ => exact h
theorem typed_dp {k : Nat} (t : Trm) : ∀ (l : List Ty) (i : Nat) (a : Ty), typed l i t = .ok a → EnvOk k l → TmOk k t → TyOk k a ∧ dp a ≤ 6 + tdp t := by
  induction t with
  | var j =>
    intro l i a h hl ht
    rw [typed] at h
    cases e : l[j]? with
    | none => rw [e] at h; cases h
    | some b =>
      rw [e] at h
      cases h
      have := hl a (List.mem_of_getElem? e)
      exact ⟨this.1, by have := this.2; show dp a ≤ 6 + 1; omega⟩
  | pair t s iht ihs =>
    intro l i a h hl ht
    rw [typed] at h
    cases e1 : typed l (i + 1) t with
    | error f => rw [e1] at h; cases h
    | ok x =>
      cases e2 : typed l (i + 1 + t.size) s with
      | error f => rw [e1, e2] at h; cases h
      | ok y =>
        rw [e1, e2] at h
        cases h
        obtain ⟨a1, a2⟩ := iht l _ x e1 hl (ht.kid (by simp [kids]))
        obtain ⟨b1, b2⟩ := ihs l _ y e2 hl (ht.kid (by simp [kids]))
        exact ⟨⟨a1, b1⟩, by show max (dp x) (dp y) + 1 ≤ 6 + (max (tdp t) (tdp s) + 1); omega⟩
  | first t iht =>
    intro l i a h hl ht
    rw [typed] at h
    cases e1 : typed l (i + 1) t with
    | error f => rw [e1] at h; cases h
    | ok x =>
      rw [e1] at h
      obtain ⟨a1, a2⟩ := iht l _ x e1 hl (ht.kid (by simp [kids]))
      cases x with
      | pair y z =>
        cases h
        have a2' : max (dp a) (dp z) + 1 ≤ 6 + tdp t := a2
        exact ⟨a1.1, by show dp a ≤ 6 + (tdp t + 1); omega⟩
      | _ => cases h
  | second t iht =>
    intro l i a h hl ht
    rw [typed] at h
    cases e1 : typed l (i + 1) t with
    | error f => rw [e1] at h; cases h
    | ok x =>
      rw [e1] at h
      obtain ⟨a1, a2⟩ := iht l _ x e1 hl (ht.kid (by simp [kids]))
      cases x with
      | pair y z =>
        cases h
        have a2' : max (dp y) (dp a) + 1 ≤ 6 + tdp t := a2
        exact ⟨a1.2, by show dp a ≤ 6 + (tdp t + 1); omega⟩
      | _ => cases h
  | left b t iht =>
    intro l i a h hl ht
    rw [typed] at h
    cases e1 : typed l (i + 1) t with
    | error f => rw [e1] at h; cases h
    | ok x =>
      rw [e1] at h
      cases h
      obtain ⟨a1, a2⟩ := iht l _ x e1 hl (ht.kid (by simp [kids]))
      obtain ⟨b1, b2⟩ := ht.here (a := b) rfl
      exact ⟨⟨a1, b1⟩, by show max (dp x) (dp b) + 1 ≤ 6 + (tdp t + 1); omega⟩
  | right b t iht =>
    intro l i a h hl ht
    rw [typed] at h
    cases e1 : typed l (i + 1) t with
    | error f => rw [e1] at h; cases h
    | ok x =>
      rw [e1] at h
      cases h
      obtain ⟨a1, a2⟩ := iht l _ x e1 hl (ht.kid (by simp [kids]))
      obtain ⟨b1, b2⟩ := ht.here (a := b) rfl
      exact ⟨⟨b1, a1⟩, by show max (dp b) (dp x) + 1 ≤ 6 + (tdp t + 1); omega⟩
  | cases t u v iht ihu ihv =>
    intro l i a h hl ht
    rw [typed] at h
    cases e1 : typed l (i + 1) t with
    | error f => rw [e1] at h; cases h
    | ok x =>
      cases e2 : typed l (i + 1 + t.size) u with
      | error f => rw [e1, e2] at h; cases h
      | ok y =>
        cases e3 : typed l (i + 1 + t.size + u.size) v with
        | error f => rw [e1, e2, e3] at h; cases h
        | ok z =>
          rw [e1, e2, e3] at h
          obtain ⟨b1, b2⟩ := ihu l _ y e2 hl (ht.kid (by simp [kids]))
          have key : ∀ c d, y = .fn c d → a = d → TyOk k a ∧ dp a ≤ 6 + tdp (.cases t u v) := by
            rintro c d rfl rfl
            have b2' : max (dp c) (dp a) + 1 ≤ 6 + tdp u := b2
            exact ⟨b1.2, by show dp a ≤ 6 + (max (tdp t) (max (tdp u) (tdp v)) + 1); omega⟩
          cases x <;> cases y <;> cases z <;> first | (simp only at h; split at h <;> first | (cases h; exact key _ _ rfl rfl) | cases h) | cases h
  | lam b t iht =>
    intro l i a h hl ht
    rw [typed] at h
    cases e1 : typed (b :: l) (i + 1) t with
    | error f => rw [e1] at h; cases h
    | ok x =>
      rw [e1] at h
      cases h
      obtain ⟨a1, a2⟩ := iht (b :: l) _ x e1 (hl.kid ht) (ht.kid (by simp [kids]))
      obtain ⟨b1, b2⟩ := ht.here (a := b) rfl
      exact ⟨⟨b1, a1⟩, by show max (dp b) (dp x) + 1 ≤ 6 + (tdp t + 1); omega⟩
  | app t s iht ihs =>
    intro l i a h hl ht
    rw [typed] at h
    cases e1 : typed l (i + 1) t with
    | error f => rw [e1] at h; cases h
    | ok x =>
      cases e2 : typed l (i + 1 + t.size) s with
      | error f => rw [e1, e2] at h; cases h
      | ok y =>
        rw [e1, e2] at h
        obtain ⟨a1, a2⟩ := iht l _ x e1 hl (ht.kid (by simp [kids]))
        have key : ∀ c d, x = .fn c d → a = d → TyOk k a ∧ dp a ≤ 6 + tdp (.app t s) := by
          rintro c d rfl rfl
          have a2' : max (dp c) (dp a) + 1 ≤ 6 + tdp t := a2
          exact ⟨a1.2, by show dp a ≤ 6 + (max (tdp t) (tdp s) + 1); omega⟩
        cases x <;> first | (simp only at h; split at h <;> first | (cases h; exact key _ _ rfl rfl) | cases h) | cases h
  | yes =>
    intro l i a h hl ht
    cases h
    exact ⟨trivial, by show 1 ≤ 6 + 1; omega⟩
  | no =>
    intro l i a h hl ht
    cases h
    exact ⟨trivial, by show 1 ≤ 6 + 1; omega⟩
  | if_ t u v iht ihu ihv =>
    intro l i a h hl ht
    rw [typed] at h
    cases e1 : typed l (i + 1) t with
    | error f => rw [e1] at h; cases h
    | ok x =>
      cases e2 : typed l (i + 1 + t.size) u with
      | error f => rw [e1, e2] at h; cases h
      | ok y =>
        cases e3 : typed l (i + 1 + t.size + u.size) v with
        | error f => rw [e1, e2, e3] at h; cases h
        | ok z =>
          rw [e1, e2, e3] at h
          obtain ⟨b1, b2⟩ := ihu l _ y e2 hl (ht.kid (by simp [kids]))
          have key : a = y → TyOk k a ∧ dp a ≤ 6 + tdp (.if_ t u v) := by
            rintro rfl
            exact ⟨b1, by show dp a ≤ 6 + (max (tdp t) (max (tdp u) (tdp v)) + 1); omega⟩
          cases x <;> first | (simp only at h; split at h <;> first | (cases h; exact key rfl) | cases h) | cases h
def withK (D : Dyn) (v : V) : Dyn := ⟨v, D.ext, D.wt⟩
def setK (D : Nat → Dyn) (n : Nat) (v : V) : Nat → Dyn := fun m => if m = n then withK (D n) v else D m
theorem setK_same {D : Nat → Dyn} {n : Nat} {v : V} : setK D n v n = withK (D n) v := if_pos rfl
theorem setK_ne {D : Nat → Dyn} {n m : Nat} {v : V} (h : m ≠ n) : setK D n v m = D m := if_neg h
/-- all but the parts from lo to hi stays -/
def PFr (ls : List Addr) (lo hi : Nat) (H H' : Hp) : Prop := ∀ b o, H b = some o → (∀ m, lo ≤ m → m < hi → ls[m]? ≠ some b) → H' b = some o
theorem PFr.refl {ls : List Addr} {lo hi : Nat} {H : Hp} : PFr ls lo hi H H := fun _ _ e _ => e
theorem PFr.trans {ls : List Addr} {lo hi : Nat} {H H1 H2 : Hp} (x : PFr ls lo hi H H1) (y : PFr ls lo hi H1 H2) : PFr ls lo hi H H2 := fun b o e h => y b o (x b o e h) h
theorem PFr.wide {ls : List Addr} {lo hi lo' hi' : Nat} {H H1 : Hp} (x : PFr ls lo hi H H1) (h1 : lo' ≤ lo) (h2 : hi ≤ hi') : PFr ls lo' hi' H H1 := fun b o e h => x b o e fun m a c => h m (by omega) (by omega)
theorem Same.pfr {ls : List Addr} {lo hi : Nat} {H H1 : Hp} (x : Same H H1) : PFr ls lo hi H H1 := fun b o e _ => x b o e
/-- the parts from lo to hi are there -/
def Ins (C : Addr) (H : Hp) (ls : List Addr) (lo hi : Nat) : Prop := ∀ m b, lo ≤ m → m < hi → ls[m]? = some b → ∃ dx fs, H b = some (.ins C dx fs)
theorem AllAt.ins {C : Addr} {H : Hp} {G : Addr → Prop} {ls : List Addr} {D : Nat → Dyn} {b : Nat} {L : List Trm} (h : AllAt (PartAt C H G ls D) b L) : Ins C H ls b (b + L.length) := fun m c h1 h2 e => by
  have hk : m - b < L.length := by omega
  obtain ⟨a, dx, pl, tv, as, e1, e2, _⟩ := h (m - b) L[m - b] (List.getElem?_eq_getElem hk)
  rw [show b + (m - b) = m by omega] at e1
  rw [e] at e1
  cases e1
  exact ⟨_, _, e2⟩
theorem PFr.keep {C : Addr} {ls : List Addr} {lo hi : Nat} {H H' : Hp} (x : PFr ls lo hi H H') (i : Ins C H ls lo hi) {c : Addr} {o : HO} (e : H c = some o) (h : ∀ dx fs, o ≠ .ins C dx fs) : H' c = some o := x c o e fun m h1 h2 q => by
  obtain ⟨dx, fs, e'⟩ := i m c h1 h2 q
  rw [e] at e'
  exact h dx fs (Option.some.inj e')
theorem PFr.tups {C : Addr} {ls : List Addr} {lo hi : Nat} {H H' : Hp} (x : PFr ls lo hi H H') (i : Ins C H ls lo hi) : Tups H H' := fun c xs e => x.keep i e (fun dx fs q => by cases q)
theorem PartAt.fr {C : Addr} {H H' : Hp} {G : Addr → Prop} {ls : List Addr} {D D' : Nat → Dyn} {n lo hi : Nat} {t : Trm} (x : PartAt C H G ls D n t) (f : PFr ls lo hi H H') (i : Ins C H ls lo hi) (nd : ls.Nodup) (ho : n < lo ∨ hi ≤ n) (hD : D' n = D n) : PartAt C H' G ls D' n t := by
  obtain ⟨a, dx, pl, tv, as, h1, h2, h3, h4, h5, h6⟩ := x
  refine ⟨a, dx, pl, tv, as, h1, ?_, h3, f.keep i h4 (fun _ _ q => by cases q), h5, h6.mono (f.tups i)⟩
  rw [hD]
  exact f a _ h2 fun m g1 g2 q => by
    have := nodup_get nd h1 q
    omega
def KOk (H : Hp) (D : Nat → Dyn) (n : Nat) (p : List Ty × Trm) : Prop := ∃ q x, (D n).kind = .ref q ∧ KindAt H x q ∧ typed p.1 0 p.2 = .ok x
theorem KOk.mono {H H' : Hp} {D D' : Nat → Dyn} {n : Nat} {p : List Ty × Trm} (x : KOk H D n p) (t : Tups H H') (hD : D' n = D n) : KOk H' D' n p := by
  obtain ⟨q, y, h1, h2, h3⟩ := x
  exact ⟨q, y, by rw [hD]; exact h1, h2.mono t, h3⟩
theorem kids_kinds {C : Addr} {H : Hp} {G : Addr → Prop} {ls : List Addr} {D : Nat → Dyn} {l : List Ty} : ∀ {ts : List Trm} {n : Nat} {as : List Addr} {xs : List Ty}, AllAt (PartAt C H G ls D) n (ts.flatMap nodes) → AllAt (KOk H D) n (ts.flatMap (nodesE l)) → KidsAt ls (nos n ts) as → kidsTyped l n ts = .ok xs → ∃ kqs, KKAt C H as kqs ∧ KindsL H kqs xs
  | [], n, as, xs, _, _, h3, h4 => by
    cases h4
    cases as with
    | nil => exact ⟨[], trivial, trivial⟩
    | cons a as => exact h3.elim
  | t :: ts, n, as, xs, h1, h2, h3, h4 => by
    cases as with
    | nil => exact h3.elim
    | cons a as =>
      have h3' : ls[n]? = some a ∧ KidsAt ls (nos (n + t.size) ts) as := h3
      rw [List.flatMap_cons, AllAt.app, nodes_len] at h1
      rw [List.flatMap_cons, AllAt.app, nodesE_len] at h2
      unfold kidsTyped at h4
      cases e1 : typed l n t with
      | error f => rw [e1] at h4; cases h4
      | ok x =>
        rw [e1] at h4
        simp only at h4
        cases e2 : kidsTyped l (n + t.size) ts with
        | error f => rw [e2] at h4; cases h4
        | ok ys =>
          rw [e2] at h4
          cases h4
          obtain ⟨kqs, k1, k2⟩ := kids_kinds h1.2 h2.2 h3'.2 e2
          have p := h1.1
          rw [nodes_eq, AllAt.cons] at p
          obtain ⟨a', dx, pl, tv, as', p1, p2, _⟩ := p.1
          rw [h3'.1] at p1
          cases p1
          have o := h2.1
          rw [nodesE_eq, AllAt.cons] at o
          obtain ⟨q, y, o1, o2, o3⟩ := o.1
          have := typed_at t l 0 n y o3
          rw [e1] at this
          cases this
          exact ⟨q :: kqs, ⟨⟨dx, _, p2, ptF_kind.trans (congrArg some o1)⟩, k1⟩, o2, k2⟩
theorem kt_dp {k : Nat} {l : List Ty} (hl : EnvOk k l) : ∀ {ts : List Trm} {n : Nat} {xs : List Ty}, kidsTyped l n ts = .ok xs → (∀ s ∈ ts, TmOk k s ∧ tdp s ≤ 20) → ∀ x ∈ xs, dp x ≤ 26
  | [], n, xs, h, _, x, hx => by
    cases h
    cases hx
  | t :: ts, n, xs, h, ht, x, hx => by
    unfold kidsTyped at h
    cases e1 : typed l n t with
    | error f => rw [e1] at h; cases h
    | ok y =>
      rw [e1] at h
      simp only at h
      cases e2 : kidsTyped l (n + t.size) ts with
      | error f => rw [e2] at h; cases h
      | ok ys =>
        rw [e2] at h
        cases h
        rcases List.mem_cons.mp hx with q | q
        · subst q
          have h1 := ht t (List.mem_cons_self ..)
          have := (typed_dp t l n x e1 hl h1.1).2
          omega
        · exact kt_dp hl e2 (fun s hs => ht s (List.mem_cons_of_mem _ hs)) x q
section
variable {P : Program} {w : World} {K : PySem.W.Frag} {mg : Str → Option Value} {base : Heap}
def sp_give_kinds (T : Txt K mg) (d : Nat) : Sp := fun vs H Q E => ∃ (a ar : Addr) (ls : List Addr) (D : Nat → Dyn) (n k : Nat) (t : Trm) (G : Addr → Prop) (l : List Ty) (qs : List Addr), vs = [.ref a, .ref ar] ∧ ls[n]? = some a ∧ ls.Nodup ∧ TermAt T.C_Part H G ls D n t ∧ tdp t ≤ d ∧ TmOk k t ∧ H ar = some (.lst (qs.map V.ref)) ∧ KindsL H qs l.reverse ∧ EnvOk k l ∧ l.length + d ≤ 20 ∧
  (∀ e, typed l n t = .error e → ∀ H', PFr ls n (n + t.size) H H' → Faulty E T H' e.place e.why) ∧
  (∀ x, typed l n t = .ok x → ∀ (H' : Hp) (D' : Nat → Dyn), PFr ls n (n + t.size) H H' → TermAt T.C_Part H' G ls D' n t → AllAt (KOk H' D') n (nodesE l t) → (∀ m, m < n ∨ n + t.size ≤ m → D' m = D m) → Q .non H')
theorem ok_give_kinds (T : Txt K mg) : ∀ d, FnOk P w K mg base (L2.CX P w) (d + 4) T.f_give_kinds T.fd_give_kinds ["part", "around"] (sp_give_kinds T d) := by
  intro d
  induction d with
  | zero =>
    refine T.F_give_kinds.okX sc_give_kinds (fun vs H Q E h => ?_) (fun cdv A outer s H vs Q E hr h => ?_)
    · obtain ⟨a, ar, ls, D, n, k, t, G, l, qs, rfl, _⟩ := h
      rfl
    · obtain ⟨a, ar, ls, D, n, k, t, G, l, qs, rfl, _, _, _, hd, _⟩ := h
      exfalso
      have := tdp_pos t
      omega
  | succ d ih =>
    refine T.F_give_kinds.okX sc_give_kinds (fun vs H Q E h => ?_) (fun cdv A outer s H vs Q E hr h => ⟨_, (pss_cons (ps_set (i := 2) sc_give_kinds.nd rfl (Or.inl rfl) (pv 1))
    (C8.pss_cut (ps_if (pt_cmpR op_eq (pe_fld (pv 0) rfl) (pe_cst rfl T.g_FUNCTION_TERM) (nomark _))
      (pss_one (ps_set (i := 2) sc_give_kinds.nd rfl (Or.inl rfl) (pe_op op_cat (pv 1) (pe_lst (pa_cons (pe_fld (pv 0) rfl) pa_nil)))))
      pss_nil)
    (pss_cons (ps_for (passes_of rfl) rfl (pi_list (pe_fld (pv 0) rfl)) (pg_name (i := 3) sc_give_kinds.nd rfl (Or.inl rfl))
      (pss_one (ps_expr (pe_call ih hr rfl T.g_give_kinds T.k_give_kinds T.b_give_kinds .nil (passes_call (takes_of rfl rfl rfl rfl) (fun _ _ _ _ h => h)) (pa_cons (pv 3) (pa_cons (pv 2) pa_nil))))))
    (pss_one (ps_fld (pv 0) (pe_call (ok_found_kind T) (hr.mono (by omega)) rfl T.g_found_kind T.k_found_kind T.b_found_kind .nil (passes_call (takes_of rfl rfl rfl rfl) (fun _ _ _ _ h => h)) (pa_cons (pv 0) (pa_cons (pv 1) pa_nil))) rfl))))), ?_⟩)
    · obtain ⟨a, ar, ls, D, n, k, t, G, l, qs, rfl, _⟩ := h
      rfl
    · obtain ⟨a, ar, ls, D, n, k, t, G, l, qs, rfl, hls, nd, tm, hdt, tok, har, hl, lok, hlen, kE, kQ⟩ := h
      have tm0 : PartAt T.C_Part H G ls D n t ∧ AllAt (PartAt T.C_Part H G ls D) (n + 1) ((kids t).flatMap nodes) := by
        have := tm
        unfold TermAt at this
        rw [nodes_eq, AllAt.cons] at this
        exact this
      obtain ⟨pn, pk⟩ := tm0
      have insAll := tm.ins
      rw [nodes_len] at insAll
      have eT := typed_eq l n t
      have hql := hl.len
      rw [List.length_reverse] at hql
      obtain ⟨a', dx, pl, tv, as, e1, e2, gG, e4, e5, e6⟩ := pn
      rw [hls] at e1
      cases e1
      have szt := size_eq t
      -- inside
      refine ⟨_, rfl, fun σ H1 => ∃ (ins : Addr) (qs' : List Addr), Same H H1 ∧ H1 ins = some (.lst (qs'.map V.ref)) ∧ KindsL H1 qs' (inEnv t l).reverse ∧ σ = [some (.ref a), some (.ref ar), some (.ref ins), none], ?_, ?_⟩
      · refine ⟨_, rfl, a, _, dx, _, _, rfl, e2, T.cl_Part, T.n_Part_head, ptF_head, rfl, _, rfl, ?_⟩
        by_cases c : ∃ b u, t = .lam b u
        · obtain ⟨b, u, rfl⟩ := c
          obtain ⟨qt, rfl, kt⟩ := e6
          refine if_true_of rfl ?_
          refine ⟨_, rfl, _, rfl, a, _, dx, _, _, rfl, e2, T.cl_Part, T.n_Part_told, ptF_told, (by show 1 ≤ sizeLine; decide), fun l1 hl1 => ?_⟩
          refine ⟨ar, l1, _, _, rfl, rfl, Same.new hl1 _ _ har, upd_same, ?_, fun p hp => ?_⟩
          · rw [List.length_map]
            show _ + 1 ≤ sizeLine
            exact Nat.le_of_lt (small1000 (by omega))
          · have s2 : Same H (upd (upd H l1 (.lst [.ref qt])) p (.lst (qs.map V.ref ++ [.ref qt]))) := Same.trans (Same.new hl1) (Same.new hp)
            refine ⟨p, qs ++ [qt], s2, ?_, ?_, rfl⟩
            · rw [upd_same, List.map_append]
              rfl
            · show KindsL _ _ (b :: l).reverse
              rw [List.reverse_cons]
              exact KindsL.snoc (kt.mono (Same.tups s2)) (hl.mono (Same.tups s2))
        · have en : inEnv t l = l := by
            cases t with
            | lam b u => exact absurd ⟨b, u, rfl⟩ c
            | _ => rfl
          refine if_false_of ?_ ⟨ar, qs, Same.refl H, har, by rw [en]; exact hl, rfl⟩
          have : hd t ≠ 7 := by
            cases t with
            | lam b u => exact absurd ⟨b, u, rfl⟩ c
            | _ => simp [hd]
          exact decide_eq_false (fun q => this (by injection q with q; omega))
      · rintro σ H1 ⟨ins, qs', s1, hins, hq', rfl⟩
        have e21 := s1 _ _ e2
        have e41 := s1 _ _ e4
        refine ⟨_, rfl, a, _, dx, _, _, rfl, e21, T.cl_Part, T.n_Part_parts, ptF_parts, pl, rfl, ⟨_, SqL.of e41⟩, ?_⟩
        have lenk : as.length = (kids t).length := by rw [e5.len, nos_len]
        have all1 : AllAt (PartAt T.C_Part H1 G ls D) (n + 1) ((kids t).flatMap nodes) := pk.imp fun q u _ x => x.fr (lo := 0) (hi := 0) (Same.pfr s1) (fun m b h1 h2 => absurd h2 (by omega)) nd (.inr (by omega)) rfl
        have ins1 := all1.ins
        have hsz : ((kids t).flatMap nodes).length = sizes (kids t) := rfl
        rw [hsz] at ins1
        have env1 := EnvOk.kid lok tok
        refine for_list (K := K) (a := pl) (xs := as.map V.ref) (fun j σ Hc => ∃ (Dj : Nat → Dyn) (v3 : Option V) (xs : List Ty), PFr ls (n + 1) (n + 1 + sizes ((kids t).take j)) H1 Hc ∧ PartAt T.C_Part Hc G ls Dj n t ∧ AllAt (PartAt T.C_Part Hc G ls Dj) (n + 1) ((kids t).flatMap nodes) ∧ kidsTyped (inEnv t l) (n + 1) ((kids t).take j) = .ok xs ∧ AllAt (KOk Hc Dj) (n + 1) (((kids t).take j).flatMap (nodesE (inEnv t l))) ∧ (∀ m, m < n + 1 ∨ n + 1 + sizes ((kids t).take j) ≤ m → Dj m = D m) ∧ σ = [some (.ref a), some (.ref ar), some (.ref ins), v3])
          ⟨D, none, [], PFr.refl, ⟨a, dx, pl, tv, as, hls, e21, gG, e41, e5, e6.mono (Same.tups s1)⟩, all1, rfl, AllAt.nil, fun m _ => rfl, rfl⟩ ?_ ?_ ?_
        · rintro j σ Hc _ ⟨Dj, v3, xs, f, _⟩
          have sub : sizes ((kids t).take j) ≤ sizes (kids t) := by
            have : sizes (kids t) = sizes ((kids t).take j ++ (kids t).drop j) := by rw [List.take_append_drop]
            rw [this]
            unfold sizes
            rw [List.flatMap_append, List.length_append]
            omega
          exact SqL.of (f.keep (C := T.C_Part) (fun m b h1 h2 => ins1 m b h1 (by omega)) e41 (fun _ _ q => by cases q))
        · rintro j v σ Hc hv ⟨Dj, v3, xs, f, pnj, allj, ekt, kkj, hDj, rfl⟩
          rw [List.getElem?_map] at hv
          obtain ⟨b, hb, rfl⟩ : ∃ b, as[j]? = some b ∧ v = .ref b := by
            cases e : as[j]? with
            | none => rw [e] at hv; cases hv
            | some y => rw [e] at hv; exact ⟨y, rfl, (Option.some.inj hv).symm⟩
          have hj : j < (kids t).length := by
            have := (List.getElem?_eq_some_iff.mp hb).1
            omega
          obtain ⟨b', hb1, hb2⟩ := e5.at (nos_at (n + 1) (kids t) j hj)
          rw [hb] at hb1
          cases hb1
          have hsplit : kids t = (kids t).take j ++ ((kids t)[j] :: (kids t).drop (j + 1)) := by
            rw [List.getElem_cons_drop, List.take_append_drop]
          have htake : (kids t).take (j + 1) = (kids t).take j ++ [(kids t)[j]] := by
            rw [List.take_add_one, List.getElem?_eq_getElem hj]
            rfl
          have hmem : (kids t)[j] ∈ kids t := List.getElem_mem hj
          have hszs : sizes (kids t) = sizes ((kids t).take j) + ((kids t)[j].size + sizes ((kids t).drop (j + 1))) := by
            have e9 : sizes (kids t) = sizes ((kids t).take j ++ ((kids t)[j] :: (kids t).drop (j + 1))) := congrArg sizes hsplit
            rw [e9, ← sizes_cons]
            unfold sizes
            rw [List.flatMap_append, List.length_append]
          have hsz1 : sizes ((kids t).take (j + 1)) = sizes ((kids t).take j) + (kids t)[j].size := by rw [htake, sizes_snoc]
          have allj' := allj
          rw [hsplit, List.flatMap_append, AllAt.app, List.flatMap_cons, AllAt.app] at allj'
          obtain ⟨al1, al2, al3⟩ := allj'
          have eL1 : (((kids t).take j).flatMap nodes).length = sizes ((kids t).take j) := rfl
          rw [eL1] at al2 al3
          generalize etj : (kids t)[j] = tj at *
          rw [nodes_len] at al3
          have sfr := Same.pfr s1 (ls := ls) (lo := n) (hi := n + t.size)
          have insj : Ins T.C_Part H1 ls (n + 1) (n + 1 + sizes ((kids t).take j)) := fun m b h1 h2 => ins1 m b h1 (by omega)
          have tpj := f.tups insj
          refine ⟨_, rfl, _, rfl, b, ins, ls, Dj, n + 1 + sizes ((kids t).take j), k, tj, G, inEnv t l, qs', rfl, hb2, nd, al2, (by have := tdp_kids hmem; omega), tok.kid hmem, f.keep insj hins (fun _ _ q => by cases q), hq'.mono tpj, env1, ?_, (fun e he H' f' => ?_), (fun x hx H' D' f' tm' kk' hD' => ?_)⟩
          · have : (inEnv t l).length ≤ l.length + 1 := by
              cases t <;> simp [inEnv]
            omega
          · refine kE e ?_ H' ?_
            · rw [eT]
              have e7 : kidsTyped (inEnv t l) (n + 1) ((kids t).take (j + 1)) = .error e := by
                rw [htake, kt_snoc ekt, he]
              have e8 : kidsTyped (inEnv t l) (n + 1) (kids t) = .error e := by
                have := kt_err (rest := (kids t).drop (j + 1)) e7
                rw [List.take_append_drop] at this
                exact this
              rw [e8]
            · exact (sfr.trans (f.wide (by omega) (by omega))).trans (f'.wide (by omega) (by omega))
          · have insc : Ins T.C_Part Hc ls (n + 1 + sizes ((kids t).take j)) (n + 1 + sizes ((kids t).take j) + tj.size) := by
              have := AllAt.ins al2
              rw [nodes_len] at this
              exact this
            have tp' := f'.tups insc
            refine ⟨D', _, xs ++ [x], ?_, ?_, ?_, ?_, ?_, ?_, rfl⟩
            · exact (f.wide (Nat.le_refl _) (by omega)).trans (f'.wide (by omega) (by omega))
            · exact pnj.fr f' insc nd (.inl (by omega)) (hD' n (.inl (by omega)))
            · rw [hsplit, List.flatMap_append, AllAt.app, List.flatMap_cons, AllAt.app]
              rw [eL1, nodes_len]
              refine ⟨al1.imp fun q u hq x5 => ?_, tm', al3.imp fun q u hq x5 => ?_⟩
              · have hq' : q < sizes ((kids t).take j) := hq
                exact x5.fr f' insc nd (.inl (by omega)) (hD' _ (.inl (by omega)))
              · exact x5.fr f' insc nd (.inr (by omega)) (hD' _ (.inr (by omega)))
            · rw [htake, kt_snoc ekt, hx]
            · rw [htake, List.flatMap_append, AllAt.app, sizesE, List.flatMap_cons, List.flatMap_nil, List.append_nil]
              refine ⟨kkj.imp fun q u hq x5 => ?_, kk'⟩
              have hq' : q < sizes ((kids t).take j) := by rw [sizesE] at hq; exact hq
              exact x5.mono tp' (hD' _ (.inl (by omega)))
            · intro m hm
              rw [hsz1] at hm
              rw [hD' m (by omega)]
              exact hDj m (by omega)
        · rintro σ Hc ⟨Dj, v3, xs, f, pnj, allj, ekt, kkj, hDj, rfl⟩
          rw [List.length_map, lenk] at f ekt kkj hDj
          rw [List.take_length] at f ekt kkj hDj
          rw [ekt] at eT
          have tpj := f.tups ins1
          have harc := f.keep ins1 (s1 _ _ har) (fun _ _ q => by cases q)
          have hlc := (hl.mono (Same.tups s1)).mono tpj
          obtain ⟨a2, dx2, pl2, tv2, as2, p1, p2, p3, p4, p5, p6⟩ := pnj
          rw [hls] at p1
          cases p1
          obtain ⟨kqs, kk1, kk2⟩ := kids_kinds allj kkj p5 ekt
          have bdp : ∀ x ∈ xs, dp x ≤ 64 := fun x hx => by
            have := kt_dp env1 ekt (fun s hs => ⟨tok.kid hs, by have := tdp_kids hs; omega⟩) x hx
            omega
          have sfr := (Same.pfr s1 (ls := ls) (lo := n) (hi := n + t.size)).trans (f.wide (by omega) (by omega))
          refine ⟨_, rfl, _, rfl, a, ar, dx2, pl2, tv2, Dj n, as2, kqs, qs, n, t, xs, l, rfl, p2, p4, p6, kk1, kk2, kt_len ekt, bdp, harc, hlc, (fun e he H' s' => ?_), (fun x hx H' q s' kq => ?_)⟩
          · refine kE e ?_ H' (sfr.trans (Same.pfr s'))
            rw [eT]
            exact he
          · refine ⟨_, rfl, a, _, dx2, _, rfl, s' _ _ p2, T.cl_Part, T.n_Part_kind, (by show 7 < 1000; decide), ?_⟩
            have epk : putF "kind" (.ref q) (ptF (hd t) n tv2 pl2 (Dj n)) = ptF (hd t) n tv2 pl2 (withK (Dj n) (.ref q)) := ptF_put_kind (.ref q)
            rw [epk]
            have ea : ∀ m, ls[m]? = some a → m = n := fun m e => nodup_get nd e hls
            have fU : PFr ls n (n + 1) Hc (upd H' a (.ins T.C_Part dx2 (ptF (hd t) n tv2 pl2 (withK (Dj n) (.ref q))))) := fun b o e h => by
              have hb : b ≠ a := fun z => h n (Nat.le_refl _) (by omega) (by rw [z]; exact hls)
              rw [upd_ne hb]
              exact s' b o e
            have insn : Ins T.C_Part Hc ls n (n + 1) := fun m b h1 h2 e => by
              have : m = n := by omega
              subst this
              rw [hls] at e
              cases e
              exact ⟨_, _, p2⟩
            have tpU := fU.tups insn
            have tp2 : Tups H' (upd H' a (.ins T.C_Part dx2 (ptF (hd t) n tv2 pl2 (withK (Dj n) (.ref q))))) := fun c zs e => by
              rw [upd_ne (fun z => by rw [z, s' _ _ p2] at e; cases e)]
              exact e
            have cU : upd H' a (.ins T.C_Part dx2 (ptF (hd t) n tv2 pl2 (withK (Dj n) (.ref q)))) a = some (.ins T.C_Part dx2 (ptF (hd t) n tv2 pl2 (withK (Dj n) (.ref q)))) := upd_same
            generalize upd H' a (.ins T.C_Part dx2 (ptF (hd t) n tv2 pl2 (withK (Dj n) (.ref q)))) = HU at fU tpU tp2 cU ⊢
            have hx' : typed l n t = .ok x := by rw [eT]; exact hx
            refine kQ x hx' HU (setK Dj n (.ref q)) (sfr.trans (fU.wide (Nat.le_refl _) (by omega))) ?_ ?_ ?_
            · unfold TermAt
              rw [nodes_eq, AllAt.cons]
              refine ⟨⟨a, dx2, pl2, tv2, as2, hls, ?_, p3, fU.keep insn p4 (fun _ _ q => by cases q), p5, p6.mono tpU⟩, allj.imp fun q' u _ x5 => ?_⟩
              · rw [cU, setK_same]
              · exact x5.fr fU insn nd (.inr (by omega)) (setK_ne (by omega))
            · rw [nodesE_eq, AllAt.cons]
              refine ⟨⟨q, x, by rw [setK_same]; rfl, kq.mono tp2, typed_at t l n 0 x hx'⟩, kkj.imp fun q' u _ x5 => ?_⟩
              exact x5.mono tpU (setK_ne (by omega))
            · intro m hm
              rw [setK_ne (by omega)]
              exact hDj m (by omega)
end
end FC
namespace FC
open PySem PySem.Spec PyProof.Rows L2
open Pa05 (Ty readTm readTy)
def rowTm (k : Nat) (r : List Nat) : Option Trm := match readTm k 20 r with
  | some (t, []) => some t
  | _ => none
section
variable {P : Program} {w : World} {K : PySem.W.Frag} {mg : Str → Option Value} {base : Heap}
def sp_read_term_row (T : Txt K mg) : Sp := fun vs H Q E => ∃ (l : Addr) (r : List Nat) (k : Nat), vs = [.ref l, .int (k : Int)] ∧ H l = some (.lst (nats r)) ∧ r.length ≤ 100 ∧
  (rowTm k r = none → ∀ H' : Hp, Same H H' → E (.ref T.C_Unfit) none H') ∧
  (∀ t, rowTm k r = some t → ∀ (H' : Hp) (fo : Addr) (ls : List Addr), Same H H' → H' fo = some (.lst (ls.map V.ref)) → ls.length = t.size → ls.Nodup → (∀ b ∈ ls, H b = none) → TermAt T.C_Part H' (fun b => H b = none) ls D0 0 t → TmOk k t → tdp t ≤ 20 → t.size ≤ 100 → Q (.ref fo) H')
theorem ok_read_term_row (T : Txt K mg) : FnOk P w K mg base (L2.CX P w) 34 T.f_read_term_row T.fd_read_term_row ["row", "variables"] (sp_read_term_row T) := by
  refine T.F_read_term_row.okX sc_read_term_row (fun vs H Q E h => ?_) (fun cdv A outer s H vs Q E hr h => ⟨_, (pss_cons (ps_set (i := 2) sc_read_term_row.nd rfl (Or.inl rfl) (pe_make T.mk_Reader (ok_Reader_init T) (hr.mono (by decide)) rfl T.g_Reader T.b_Reader_init .nil pass0 (pa_cons (pv 0) pa_nil)))
    (pss_cons (ps_set (i := 3) sc_read_term_row.nd rfl (Or.inl rfl) (pe_lst pa_nil))
    (pss_cons (ps_expr (pe_call (ok_read_term T 20) (hr.mono (by decide)) rfl T.g_read_term T.k_read_term T.b_read_term .nil (passes_call (takes_of rfl rfl rfl rfl) (fun _ _ _ _ h => h)) (pa_cons (pv 2) (pa_cons (pv 1) (pa_cons pe_int (pa_cons (pv 3) pa_nil))))))
    (pss_cons (ps_if (pt_not (pt_val (pe_meth0 (pv 2) T.cl_Reader T.m_Reader_at_end (ok_Reader_at_end T) (hr.mono (by decide)) T.b_Reader_at_end .nil pass0)))
      (pss_one (ps_raise rfl (takes_of rfl rfl rfl rfl) (pmk_own0 PySem.F.excBase_Exception T.x_Unfit T.g_Unfit T.k_Unfit (raises_own T.b_Unfit T.t_Unfit) rfl)))
      pss_nil)
    (pss_one (ps_ret (pv 3))))))), ?_⟩)
  · obtain ⟨l, r, k, rfl, _⟩ := h
    rfl
  · obtain ⟨l, r, k, rfl, hs, h100, kE, kQ⟩ := h
    refine ⟨_, rfl, fun x dx nx nd ne => ?_⟩
    refine ⟨x, dx, l, rfl, upd_same, fun H1 hx bu => ⟨rfl, ?_⟩⟩
    have s1 : Same H H1 := Same.made nx nd bu
    refine ⟨(by show 0 ≤ sizeLine; decide), fun fo hfo => ?_⟩
    have s2 : Same H1 (upd H1 fo (.lst [])) := Same.new hfo
    have cfo : upd H1 fo (.lst []) fo = some (.lst (([] : List Addr).map V.ref)) := upd_same
    have nfo : H fo = none := s1.free hfo
    generalize upd H1 fo (.lst []) = H2 at s2 cfo ⊢
    have s12 := Same.trans s1 s2
    have hl2 := s12 _ _ hs
    have hlf : l ≠ fo := ne_of_none hs nfo
    have back : ∀ H', But2 x fo H2 H' → Same H H' := fun H' b c o e => b c o (s12 c o e) (ne_of_none e nx) (ne_of_none e nfo)
    refine ⟨_, rfl, _, rfl, _, rfl, x, dx, l, fo, r, 0, k, [], rfl, by decide, s2 _ _ hx, SqL.of hl2, hlf, Nat.zero_le _, h100, cfo, Nat.zero_le _, List.nodup_nil, (fun a ha => by cases ha), (fun e H' b => ?_), (fun t rest e H' a new p' hp' hd hrd hf hn ha hnd hfr hex hlp tm b => ?_)⟩
    · refine kE ?_ H' (back H' b)
      rw [List.drop_zero] at e
      unfold rowTm
      rw [e]
    · rw [List.drop_zero] at e
      rw [List.nil_append] at hf ha hnd hlp tm
      have s3 := back H' b
      refine ⟨_, rfl, x, dx, _, rfl, hrd, rdF_no l p', x, dx, l, _, p', rfl, hrd, nats_map r ▸ SqL.of (s3 _ _ hs), _, rfl, ?_⟩
      rw [List.length_map]
      by_cases c : r.length ≤ p'
      · rw [decide_eq_true c]
        refine if_false_of rfl ?_
        have e0 : r.drop p' = [] := List.drop_eq_nil_of_le c
        obtain ⟨o1, o2, o3⟩ := tm_read_ok k 20 r t _ e
        have hsz : t.size ≤ 100 := by omega
        refine ⟨_, rfl, kQ t ?_ H' fo new s3 hf hn hnd ?_ ?_ o1 o2 hsz⟩
        · unfold rowTm
          rw [e, ← hd, e0]
        · intro z hz
          exact s12.free (hfr z hz)
        · refine AllAt.imp tm fun q s _ x5 => ?_
          obtain ⟨a1, dx1, pl1, tv1, as1, y1, y2, y3, y4, y5, y6⟩ := x5
          exact ⟨a1, dx1, pl1, tv1, as1, y1, y2, s12.free y3, y4, y5, y6⟩
      · rw [decide_eq_false c]
        refine if_true_of rfl ?_
        refine kE ?_ H' s3
        unfold rowTm
        rw [e, ← hd]
        cases e0 : r.drop p' with
        | nil =>
          have := congrArg List.length e0
          rw [List.length_drop] at this
          simp at this
          omega
        | cons z zs => rfl
/-- what is still to be told of several types, the last one first -/
def rowsOf : List Ty → List Nat
  | [] => []
  | x :: xs => rowsOf xs ++ Pa05.toldTy x
theorem rowsOf_snoc (x : Ty) : ∀ xs : List Ty, rowsOf (xs ++ [x]) = Pa05.toldTy x ++ rowsOf xs
  | [] => by simp [rowsOf]
  | y :: xs => by simp [rowsOf, rowsOf_snoc x xs]
theorem told_len : ∀ a : Ty, 1 ≤ (Pa05.toldTy a).length
  | .var _ => by simp [Pa05.toldTy]
  | .two => by simp [Pa05.toldTy]
  | .pair _ _ => by simp [Pa05.toldTy]
  | .either _ _ => by simp [Pa05.toldTy]
  | .fn _ _ => by simp [Pa05.toldTy]
theorem told_bin {h : Nat} {x y : Ty} (hh : h = 2 ∨ h = 3 ∨ h = 4) : Pa05.toldTy (bin h x y) = h :: (Pa05.toldTy x ++ Pa05.toldTy y) := by
  rcases hh with rfl | rfl | rfl <;> rfl
theorem snoc_cases {α : Type} (l : List α) : l = [] ∨ ∃ m x, l = m ++ [x] := by
  rcases List.eq_nil_or_concat l with h | ⟨m, x, h⟩
  · exact .inl h
  · exact .inr ⟨m, x, by rw [h]; simp⟩
theorem KindsL.unsnoc {H : Hp} {x : Ty} : ∀ {qs : List Addr} {xs : List Ty}, KindsL H qs (xs ++ [x]) → ∃ qs' q, qs = qs' ++ [q] ∧ KindsL H qs' xs ∧ KindAt H x q
  | [], [], h => h.elim
  | [q], [], h => ⟨[], q, rfl, trivial, h.1⟩
  | _ :: _ :: _, [], h => h.2.elim
  | [], _ :: _, h => h.elim
  | q :: qs, y :: xs, h => by
    obtain ⟨qs', q', e, h1, h2⟩ := KindsL.unsnoc (qs := qs) (xs := xs) h.2
    exact ⟨q :: qs', q', by rw [e]; rfl, ⟨h.1, h1⟩, h2⟩
def sp_kind_row (T : Txt K mg) : Sp := fun vs H Q _ => ∃ (q : Addr) (a : Ty), vs = [.ref q] ∧ KindAt H a q ∧ (Pa05.toldTy a).length ≤ 1000000 ∧ ∀ (H' : Hp) (l : Addr), Same H H' → H l = none → H' l = some (.lst (nats (Pa05.toldTy a))) → Q (.ref l) H'
theorem ok_kind_row (T : Txt K mg) : FnOk P w K mg base CX0 1 T.f_kind_row T.fd_kind_row ["kind"] (sp_kind_row T) := by
  refine T.F_kind_row.ok sc_kind_row (fun vs H Q E h => ?_) (fun cdv A outer s H vs Q E hr h => ⟨_, (pss_cons (ps_set (i := 1) sc_kind_row.nd rfl (Or.inl rfl) (pe_lst pa_nil))
    (pss_cons (ps_set (i := 2) sc_kind_row.nd rfl (Or.inl rfl) (pe_lst (pa_cons (pv 0) pa_nil)))
    (pss_cons (ps_while PassesOwn.never (pt_cmpR op_gt (pe_callB call_len_seq rfl T.n_len (by decide +kernel) (pa_cons (pv 2) pa_nil)) pe_int (nomark _))
      (pss_cons (ps_set (i := 3) sc_kind_row.nd rfl (Or.inl rfl) (pe_bm0 PySem.F.plainAttrs_list PySem.F.slot_list_pop PySem.F.type_list_pop mt_pop (pv 2)))
      (pss_cons (ps_expr (pe_bm PySem.F.plainAttrs_list PySem.F.slot_list_append PySem.F.type_list_append mt_append (pv 1) (pa_cons (pe_ix ix_tup (pv 3) pe_int (fun _ _ => rfl)) pa_nil)))
      (pss_one (ps_if (pt_cmpR op_eq (pe_ix ix_tup (pv 3) pe_int (fun _ _ => rfl)) (pe_cst rfl T.g_VARIABLE) (nomark _))
        (pss_one (ps_expr (pe_bm PySem.F.plainAttrs_list PySem.F.slot_list_append PySem.F.type_list_append mt_append (pv 1) (pa_cons (pe_ix ix_tup (pv 3) pe_int (fun _ _ => rfl)) pa_nil))))
        (pss_one (ps_if (pt_cmpR op_ne (pe_ix ix_tup (pv 3) pe_int (fun _ _ => rfl)) (pe_cst rfl T.g_TWO) (nomark _))
          (pss_cons (ps_expr (pe_bm PySem.F.plainAttrs_list PySem.F.slot_list_append PySem.F.type_list_append mt_append (pv 2) (pa_cons (pe_ix ix_tup (pv 3) pe_int (fun _ _ => rfl)) pa_nil)))
          (pss_one (ps_expr (pe_bm PySem.F.plainAttrs_list PySem.F.slot_list_append PySem.F.type_list_append mt_append (pv 2) (pa_cons (pe_ix ix_tup (pv 3) pe_int (fun _ _ => rfl)) pa_nil)))))
          pss_nil)))))))
    (pss_one (ps_ret (pv 1)))))), ?_⟩)
  · obtain ⟨q, a, rfl, _⟩ := h
    rfl
  · obtain ⟨q, a, rfl, hq, hlen, k⟩ := h
    refine ⟨(by show 0 ≤ sizeLine; decide), fun R hR => ?_⟩
    have s1 : Same H (upd H R (.lst [])) := Same.new hR
    have c1 : upd H R (.lst []) R = some (.lst []) := upd_same
    generalize upd H R (.lst []) = H1 at s1 c1 ⊢
    refine ⟨_, rfl, (by show 1 ≤ sizeLine; decide), fun W hW => ?_⟩
    have s2 : Same H1 (upd H1 W (.lst [.ref q])) := Same.new hW
    have c2 : upd H1 W (.lst [.ref q]) W = some (.lst ([q].map V.ref)) := upd_same
    have hRW : R ≠ W := ne_of_none c1 hW
    have nW : H W = none := s1.free hW
    generalize upd H1 W (.lst [.ref q]) = H2 at s2 c2 ⊢
    have c12 := s2 _ _ c1
    have s12 := Same.trans s1 s2
    refine while_by (fun σ Hc => ∃ (done : List Nat) (xs : List Ty) (qs : List Addr) (v3 : Option V), But2 R W H2 Hc ∧ Hc R = some (.lst (nats done)) ∧ Hc W = some (.lst (qs.map V.ref)) ∧ KindsL Hc qs xs ∧ done ++ rowsOf xs = Pa05.toldTy a ∧ σ = [some (.ref q), some (.ref R), some (.ref W), v3]) (fun σ Hc => match Hc R with
        | some (.lst l) => 1000001 - l.length
        | _ => 0) ⟨[], [a], [q], none, But2.refl, c12, c2, ⟨hq.mono (Same.tups s12), trivial⟩, by simp [rowsOf], rfl⟩ ?_ ?_
    rotate_left
    · rintro σ Hc Q1 Q2 hQ ⟨v, u1, p, ys, u2, u3, i, j, u4, u5, b, u6, u7⟩
      exact ⟨v, u1, p, ys, u2, u3, i, j, u4, u5, b, u6, hQ _ _ u7⟩
    rintro σ Hc ⟨done, xs, qs, v3, b, cR, cW, kl, he, rfl⟩
    have hl := kl.len
    have tot : done.length + (rowsOf xs).length = (Pa05.toldTy a).length := by rw [← he, List.length_append]
    refine ⟨_, rfl, W, _, rfl, .inl (SqL.of cW), _, _, rfl, rfl, _, rfl, ?_⟩
    rw [List.length_map]
    rcases snoc_cases xs with e | ⟨xs', x, e⟩
    · subst e
      refine if_false_of (decide_eq_false (by rw [hl]; show ¬ (0 : Int) < 0; omega)) ?_
      refine ⟨_, rfl, k Hc R ?_ hR ?_⟩
      · intro c o e'
        exact b c o (s12 c o e') (ne_of_none e' hR) (ne_of_none e' nW)
      · rw [cR, ← he]
        simp [rowsOf]
    · subst e
      rw [rowsOf_snoc] at he tot
      rw [List.length_append] at tot
      obtain ⟨qs', q', rfl, kl', kx⟩ := kl.unsnoc
      refine if_true_of (decide_eq_true (by rw [List.length_append]; show (0 : Int) < _; simp)) ?_
      have eW : (qs' ++ [q']).map V.ref = qs'.map V.ref ++ [V.ref q'] := by rw [List.map_append]; rfl
      rw [eW] at cW
      have hlast : (qs'.map V.ref ++ [V.ref q'])[(qs'.map V.ref ++ [V.ref q']).length - 1]? = some (V.ref q') := by
        rw [List.length_append, List.getElem?_append_right (by simp)]
        simp
      refine ⟨_, rfl, .inl ⟨rfl, _, SqL.of cW⟩, W, _, _, rfl, rfl, cW, hlast, ?_⟩
      have edl : (qs'.map V.ref ++ [V.ref q']).dropLast = qs'.map V.ref := List.dropLast_concat
      rw [edl]
      have cW1 : upd Hc W (.lst (qs'.map V.ref)) W = some (.lst (qs'.map V.ref)) := upd_same
      have cR1 : upd Hc W (.lst (qs'.map V.ref)) R = some (.lst (nats done)) := by rw [upd_ne hRW]; exact cR
      have tp1 : Tups Hc (upd Hc W (.lst (qs'.map V.ref))) := fun c ys e' => by
        rw [upd_ne (fun z => by rw [z, cW] at e'; cases e')]
        exact e'
      have b1 : But2 R W H2 (upd Hc W (.lst (qs'.map V.ref))) := b.trans (But.two' But.upd1)
      generalize upd Hc W (.lst (qs'.map V.ref)) = Hd at cW1 cR1 tp1 b1 ⊢
      have kx1 := kx.mono tp1
      have kl1 := kl'.mono tp1
      obtain ⟨tl, hx⟩ := kx1.head
      have dlen : done.length < 16777216 - 2 := by
        have := told_len x
        omega
      -- row.append(part[0])
      refine ⟨_, rfl, .inl ⟨rfl, _, SqL.of cR1⟩, _, rfl, q', _, _, _, rfl, rfl, SqT.of hx, atI_nat (j := 0) rfl, R, _, _, rfl, rfl, cR1, (by rw [nats_length]; exact lt_line (by omega)), ?_⟩
      have en1 : nats done ++ [V.int ((tyHd x : Nat) : Int)] = nats (done ++ [tyHd x]) := (nats_snoc done (tyHd x)).symm
      rw [en1]
      have cR2 : upd Hd R (.lst (nats (done ++ [tyHd x]))) R = some (.lst (nats (done ++ [tyHd x]))) := upd_same
      have cW2 : upd Hd R (.lst (nats (done ++ [tyHd x]))) W = some (.lst (qs'.map V.ref)) := by rw [upd_ne hRW.symm]; exact cW1
      have tp2 : Tups Hd (upd Hd R (.lst (nats (done ++ [tyHd x])))) := fun c ys e' => by
        rw [upd_ne (fun z => by rw [z, cR1] at e'; cases e')]
        exact e'
      have b2 : But2 R W H2 (upd Hd R (.lst (nats (done ++ [tyHd x])))) := b1.trans (But.two But.upd1)
      generalize upd Hd R (.lst (nats (done ++ [tyHd x]))) = He at cR2 cW2 tp2 b2 ⊢
      have kx2 := kx1.mono tp2
      have kl2 := kl1.mono tp2
      have hx2 := tp2 _ _ hx
      have mu : (match Hc R with
        | some (.lst l) => 1000001 - l.length
        | _ => 0) = 1000001 - done.length := by rw [cR]; show 1000001 - (nats done).length = _; rw [nats_length]
      rcases form x with i | _ | ⟨h, y, z, hh⟩
      · have hq0 : He q' = some (.tup [.int 0, .int (i : Int)]) := kx2
        refine ⟨_, rfl, q', _, _, _, rfl, rfl, SqT.of hq0, atI_nat (j := 0) rfl, rfl, _, rfl, if_true_of rfl ?_⟩
        refine ⟨_, rfl, .inl ⟨rfl, _, SqL.of cR2⟩, _, rfl, q', _, _, _, rfl, rfl, SqT.of hq0, atI_nat (j := 1) rfl, R, _, _, rfl, rfl, cR2, (by rw [nats_length, List.length_append]; show done.length + 1 < sizeLine; exact lt_line (by omega)), ?_⟩
        have en2 : nats (done ++ [tyHd (.var i)]) ++ [V.int ((i : Nat) : Int)] = nats (done ++ [0, i]) := by
          rw [← nats_snoc, List.append_assoc]
          rfl
        rw [en2]
        refine ⟨⟨done ++ [0, i], xs', qs', _, b2.trans (But.two But.upd1), upd_same, by rw [upd_ne hRW.symm]; exact cW2, kl2.mono (fun c ys e' => by rw [upd_ne (fun z => by rw [z, cR2] at e'; cases e')]; exact e'), ?_, rfl⟩, ?_⟩
        · rw [← he, List.append_assoc]
          rfl
        · rw [mu, upd_same]
          show 1000001 - (nats (done ++ [0, i])).length < _
          rw [nats_length, List.length_append]
          show 1000001 - (done.length + 2) < _
          have : (Pa05.toldTy (.var i)).length = 2 := rfl
          omega
      · have hq0 : He q' = some (.tup [.int 1]) := kx2
        refine ⟨_, rfl, q', _, _, _, rfl, rfl, SqT.of hq0, atI_nat (j := 0) rfl, rfl, _, rfl, if_false_of rfl ?_⟩
        refine ⟨_, rfl, q', _, _, _, rfl, rfl, SqT.of hq0, atI_nat (j := 0) rfl, rfl, _, rfl, if_false_of rfl ?_⟩
        refine ⟨⟨done ++ [1], xs', qs', _, b2, cR2, cW2, kl2, ?_, rfl⟩, ?_⟩
        · rw [← he, List.append_assoc]
          rfl
        · rw [mu, cR2]
          show 1000001 - (nats (done ++ [1])).length < _
          rw [nats_length, List.length_append]
          show 1000001 - (done.length + 1) < _
          have : (Pa05.toldTy .two).length = 1 := rfl
          omega
      · obtain ⟨b', c', hq0, hb, hc⟩ := kx2.of_bin hh
        have h0 : decide (V.int ((h : Nat) : Int) = V.int 0) = false := decide_eq_false (fun q => by injection q with q; omega)
        have h1 : (!decide (V.int ((h : Nat) : Int) = V.int 1)) = true := by
          rw [decide_eq_false (fun q => by injection q with q; omega)]
          rfl
        have etd := told_bin (x := y) (y := z) hh
        have ehd : tyHd (bin h y z) = h := by rcases hh with rfl | rfl | rfl <;> rfl
        rw [ehd] at cR2
        have lq : qs'.length ≤ 16777216 - 3 := by
          have h1 := kl'.len
          have h2 : ∀ zs : List Ty, zs.length ≤ (rowsOf zs).length := by
            intro zs
            induction zs with
            | nil => exact Nat.le_refl _
            | cons u us ih =>
              show us.length + 1 ≤ (rowsOf us ++ Pa05.toldTy u).length
              rw [List.length_append]
              have := told_len u
              omega
          have := h2 xs'
          omega
        refine ⟨_, rfl, q', _, _, _, rfl, rfl, SqT.of hq0, atI_nat (j := 0) rfl, rfl, _, rfl, if_false_of h0 ?_⟩
        refine ⟨_, rfl, q', _, _, _, rfl, rfl, SqT.of hq0, atI_nat (j := 0) rfl, rfl, _, rfl, if_true_of h1 ?_⟩
        refine ⟨_, rfl, .inl ⟨rfl, _, SqL.of cW2⟩, _, rfl, q', _, _, _, rfl, rfl, SqT.of hq0, atI_nat (j := 2) rfl, W, _, _, rfl, rfl, cW2, (by rw [List.length_map]; exact lt_line (by omega)), ?_⟩
        have en3 : qs'.map V.ref ++ [V.ref c'] = (qs' ++ [c']).map V.ref := by rw [List.map_append]; rfl
        rw [en3]
        have cW3 : upd He W (.lst ((qs' ++ [c']).map V.ref)) W = some (.lst ((qs' ++ [c']).map V.ref)) := upd_same
        have cR3 : upd He W (.lst ((qs' ++ [c']).map V.ref)) R = some (.lst (nats (done ++ [h]))) := by rw [upd_ne hRW]; exact cR2
        have tp3 : Tups He (upd He W (.lst ((qs' ++ [c']).map V.ref))) := fun c ys e' => by
          rw [upd_ne (fun z => by rw [z, cW2] at e'; cases e')]
          exact e'
        have b3 : But2 R W H2 (upd He W (.lst ((qs' ++ [c']).map V.ref))) := b2.trans (But.two' But.upd1)
        generalize upd He W (.lst ((qs' ++ [c']).map V.ref)) = Hf at cW3 cR3 tp3 b3 ⊢
        refine ⟨_, rfl, .inl ⟨rfl, _, SqL.of cW3⟩, _, rfl, q', _, _, _, rfl, rfl, SqT.of (tp3 _ _ hq0), atI_nat (j := 1) rfl, W, _, _, rfl, rfl, cW3, (by rw [List.length_map, List.length_append]; show qs'.length + 1 < sizeLine; exact lt_line (by omega)), ?_⟩
        have en4 : (qs' ++ [c']).map V.ref ++ [V.ref b'] = ((qs' ++ [c']) ++ [b']).map V.ref := by rw [List.map_append (l₁ := qs' ++ [c'])]; rfl
        rw [en4]
        have tp4 : Tups Hf (upd Hf W (.lst (((qs' ++ [c']) ++ [b']).map V.ref))) := fun c ys e' => by
          rw [upd_ne (fun z => by rw [z, cW3] at e'; cases e')]
          exact e'
        refine ⟨⟨done ++ [h], (xs' ++ [z]) ++ [y], (qs' ++ [c']) ++ [b'], _, b3.trans (But.two' But.upd1), by rw [upd_ne hRW]; exact cR3, upd_same, ?_, ?_, rfl⟩, ?_⟩
        · exact KindsL.snoc ((hb.mono tp3).mono tp4) (KindsL.snoc ((hc.mono tp3).mono tp4) ((kl2.mono tp3).mono tp4))
        · rw [← he, rowsOf_snoc, rowsOf_snoc, etd]
          simp
        · rw [mu, upd_ne hRW, cR3]
          show 1000001 - (nats (done ++ [h])).length < _
          rw [nats_length, List.length_append]
          show 1000001 - (done.length + 1) < _
          have : 1 ≤ (Pa05.toldTy (bin h y z)).length := told_len _
          omega
end
end FC
namespace FC
open PySem PySem.Spec PyProof.Rows L2
open Pa05 (Ty typed)
section
variable {P : Program} {w : World} {K : PySem.W.Frag} {mg : Str → Option Value} {base : Heap}
/-- what is asked of the meaning of a term whose parts have their kinds -/
def sp_term_meaning (T : Txt K mg) : Sp := fun vs H Q E => ∃ (fo z a0 : Addr) (ls : List Addr) (D : Nat → Dyn) (t : Trm) (G : Addr → Prop) (sz : List Nat) (a : Ty), vs = [.ref fo, .ref z] ∧ H fo = some (.lst (ls.map V.ref)) ∧ ls.length = t.size ∧ ls.Nodup ∧ ls[0]? = some a0 ∧ TermAt T.C_Part H G ls D 0 t ∧ AllAt (KOk H D) 0 (nodesE [] t) ∧ typed [] 0 t = .ok a ∧
  H z = some (.lst (nats sz)) ∧ (∀ x ∈ sz, x ≤ 3) ∧ sz.length ≤ 3 ∧ TmOk sz.length t ∧ tdp t ≤ 20 ∧ t.size ≤ 100 ∧
  (¬ (Pa05.held 256 (numOf sz) [] t = true ∧ t.work (numOf sz) ≤ 65536) → ∀ H', PFr ls 0 t.size H H' → E (.ref T.C_TooLarge) none H') ∧
  ((Pa05.held 256 (numOf sz) [] t = true ∧ t.work (numOf sz) ≤ 65536) → ∀ (H' : Hp) (dx : Addr) (fs : List (Str × V)), PFr ls 0 t.size H H' → H' a0 = some (.ins T.C_Part dx fs) → fs.lookup ("kind" : Str) = some (D 0).kind → Q (.int ((t.val (numOf sz) [] : Nat) : Int)) H')
end
end FC
/-! The list of calls, call by call: what is asked of it, and what is due, told without the counts. Plain Lean alone. -/
namespace FC
open Pa05
def intsOf (r : List Nat) : List Int := r.map fun (n : Nat) => (n : Int)
/-- a call's numbers in the list -/
def flat : Call → List Int
  | .begin k => [0, (k : Int)]
  | .sets i n m => [1, (i : Int), (n : Int), (m : Int)]
  | .relate i x y => [2, (i : Int), (x : Int), (y : Int)]
  | .size j r => 3 :: (j : Int) :: (r.length : Int) :: intsOf r
  | .meaning j r => 4 :: (j : Int) :: (r.length : Int) :: intsOf r
  | .related x y r => 5 :: (x : Int) :: (y : Int) :: (r.length : Int) :: intsOf r
  | .count r => 6 :: (r.length : Int) :: intsOf r
  | .kept r => 7 :: (r.length : Int) :: intsOf r
def RowOk (r : List Nat) : Prop := r.length ≤ 100 ∧ ∀ x ∈ r, x < 4294967296
def CallOk : Call → Prop
  | .begin k => k < 4294967296
  | .sets i n m => i < 4294967296 ∧ n < 4294967296 ∧ m < 4294967296
  | .relate i x y => i < 4294967296 ∧ x < 4294967296 ∧ y < 4294967296
  | .size j r => j < 4294967296 ∧ RowOk r
  | .meaning j r => j < 4294967296 ∧ RowOk r
  | .related x y r => x < 4294967296 ∧ y < 4294967296 ∧ RowOk r
  | .count r => RowOk r
  | .kept r => RowOk r
def told1 (a : Ans) : List Int := ((a.l.length : Int) + 1) :: a.v :: intsOf a.l
/-- what is due, from a state on -/
def tell : State → List Call → List Int
  | _, [] => []
  | s, c :: cs => told1 (step s c).2 ++ tell (step s c).1 cs
theorem nat_iff {z : Int} (h : Pa05Neutral.nat z = true) : 0 ≤ z ∧ z < 4294967296 := by
  unfold Pa05Neutral.nat at h
  rw [Bool.and_eq_true, decide_eq_true_eq, decide_eq_true_eq] at h
  exact ⟨h.1, by have := h.2; omega⟩
theorem ints_toNat : ∀ (l : List Int), l.all Pa05Neutral.nat = true → intsOf (l.map Int.toNat) = l
  | [], _ => rfl
  | z :: l, h => by
    rw [List.all_cons, Bool.and_eq_true] at h
    have e := nat_iff h.1
    show ((z.toNat : Nat) : Int) :: intsOf (l.map Int.toNat) = z :: l
    rw [ints_toNat l h.2, Int.toNat_of_nonneg e.1]
theorem ok_toNat {l : List Int} (h : l.all Pa05Neutral.nat = true) : ∀ x ∈ l.map Int.toNat, x < 4294967296 := by
  intro x hx
  obtain ⟨z, hz, rfl⟩ := List.mem_map.mp hx
  have e := nat_iff (List.all_eq_true.mp h z hz)
  omega
theorem asked1_all {c : List Int} (h : Pa05Neutral.asked1 c = true) : c.all Pa05Neutral.nat = true ∧ Pa05Neutral.callOf c = Pa05Neutral.callIn (c.map Int.toNat) ∧ (Pa05Neutral.callIn (c.map Int.toNat)).isSome = true := by
  unfold Pa05Neutral.asked1 Pa05Neutral.callOf at h
  by_cases e : c.all Pa05Neutral.nat = false
  · rw [if_pos e] at h
    cases h
  · rw [if_neg e] at h
    refine ⟨by cases q : c.all Pa05Neutral.nat with | true => rfl | false => exact absurd q e, ?_, h⟩
    unfold Pa05Neutral.callOf
    rw [if_neg e]
theorem row_some {r x s : List Int} (h : PyFlat.row r = some (x, s)) : r = (x.length : Int) :: (x ++ s) := by
  cases r with
  | nil => cases h
  | cons n r =>
    unfold PyFlat.row at h
    dsimp only at h
    by_cases c : 0 ≤ n ∧ n.toNat ≤ r.length
    · rw [if_pos c] at h
      cases h
      rw [List.take_append_drop, List.length_take]
      congr 1
      omega
    · rw [if_neg c] at h
      cases h
theorem rows_one {r s : List Int} {xs : List (List Int)} (h : PyFlat.rows 1 r = some (xs, s)) : ∃ x, xs = [x] ∧ r = (x.length : Int) :: (x ++ s) := by
  unfold PyFlat.rows at h
  cases e : PyFlat.row r with
  | none =>
    rw [e] at h
    cases h
  | some q =>
    obtain ⟨x, t⟩ := q
    rw [e] at h
    have h' : (match PyFlat.rows 0 t with | none => none | some (xs, t) => some (x :: xs, t)) = some (xs, s) := h
    unfold PyFlat.rows at h'
    cases h'
    exact ⟨x, rfl, row_some e⟩
theorem len_of_isSome {r : List Nat} {c : Call} (h : (if r.length ≤ 100 then some c else none).isSome = true) : r.length ≤ 100 := by
  by_cases e : r.length ≤ 100
  · exact e
  · rw [if_neg e] at h
    cases h
/-- one call, read off the list -/
theorem call_one {l t : List Int} {c : List (List Int)} (h : PyFlat.call PyPa05.shape l = some (c, t)) (ha : Pa05Neutral.asked1 ((PyPa05.whole c).headD []) = true) :
    ∃ x : Call, Pa05Neutral.callOf ((PyPa05.whole c).headD []) = some x ∧ l = flat x ++ t ∧ CallOk x ∧ (((PyPa05.whole c).headD []).head? = some 7 ↔ ∃ r, x = .kept r) := by
  cases l with
  | nil => cases h
  | cons p r =>
    unfold PyFlat.call at h
    dsimp only at h
    have sh : ∀ n k, PyPa05.shape p = some (n, k) → ∃ xs t', n ≤ r.length ∧ PyFlat.rows k (r.drop n) = some (xs, t') ∧ c = (p :: r.take n) :: xs ∧ t = t' := by
      intro n k e
      rw [e] at h
      have h' : (if r.length < n then none else match PyFlat.rows k (r.drop n) with | none => none | some (xs, t) => some ((p :: r.take n) :: xs, t)) = some (c, t) := h
      by_cases q : r.length < n
      · rw [if_pos q] at h'
        cases h'
      · rw [if_neg q] at h'
        cases e2 : PyFlat.rows k (r.drop n) with
        | none =>
          rw [e2] at h'
          cases h'
        | some y =>
          obtain ⟨xs, t'⟩ := y
          rw [e2] at h'
          cases h'
          exact ⟨xs, _, by omega, rfl, rfl, rfl⟩
    by_cases p0 : p = 0
    · subst p0
      obtain ⟨xs, t', hl, hr, hc, rfl⟩ := sh 1 0 rfl
      cases hr
      match r, hl with
      | x0 :: r, _ =>
        subst hc
        have ha' : Pa05Neutral.asked1 [0, x0] = true := ha
        obtain ⟨a1, a2, a3⟩ := asked1_all ha'
        have e0 := nat_iff (List.all_eq_true.mp a1 x0 (by simp))
        refine ⟨.begin x0.toNat, a2, ?_, (by show x0.toNat < _; omega), ?_⟩
        · show (0 : Int) :: x0 :: r = 0 :: ((x0.toNat : Nat) : Int) :: r
          rw [Int.toNat_of_nonneg e0.1]
        · constructor
          · intro q; cases q
          · rintro ⟨r, q⟩; cases q
    by_cases p1 : p = 1
    · subst p1
      obtain ⟨xs, t', hl, hr, hc, rfl⟩ := sh 3 0 rfl
      cases hr
      match r, hl with
      | x0 :: x1 :: x2 :: r, _ =>
        subst hc
        have ha' : Pa05Neutral.asked1 [1, x0, x1, x2] = true := ha
        obtain ⟨a1, a2, a3⟩ := asked1_all ha'
        have e0 := nat_iff (List.all_eq_true.mp a1 x0 (by simp))
        have e1 := nat_iff (List.all_eq_true.mp a1 x1 (by simp))
        have e2 := nat_iff (List.all_eq_true.mp a1 x2 (by simp))
        refine ⟨.sets x0.toNat x1.toNat x2.toNat, a2, ?_, ⟨(by omega), (by omega), (by omega)⟩, ?_⟩
        · show (1 : Int) :: x0 :: x1 :: x2 :: r = 1 :: ((x0.toNat : Nat) : Int) :: ((x1.toNat : Nat) : Int) :: ((x2.toNat : Nat) : Int) :: r
          rw [Int.toNat_of_nonneg e0.1, Int.toNat_of_nonneg e1.1, Int.toNat_of_nonneg e2.1]
        · constructor
          · intro q; cases q
          · rintro ⟨r, q⟩; cases q
    by_cases p2 : p = 2
    · subst p2
      obtain ⟨xs, t', hl, hr, hc, rfl⟩ := sh 3 0 rfl
      cases hr
      match r, hl with
      | x0 :: x1 :: x2 :: r, _ =>
        subst hc
        have ha' : Pa05Neutral.asked1 [2, x0, x1, x2] = true := ha
        obtain ⟨a1, a2, a3⟩ := asked1_all ha'
        have e0 := nat_iff (List.all_eq_true.mp a1 x0 (by simp))
        have e1 := nat_iff (List.all_eq_true.mp a1 x1 (by simp))
        have e2 := nat_iff (List.all_eq_true.mp a1 x2 (by simp))
        refine ⟨.relate x0.toNat x1.toNat x2.toNat, a2, ?_, ⟨(by omega), (by omega), (by omega)⟩, ?_⟩
        · show (2 : Int) :: x0 :: x1 :: x2 :: r = 2 :: ((x0.toNat : Nat) : Int) :: ((x1.toNat : Nat) : Int) :: ((x2.toNat : Nat) : Int) :: r
          rw [Int.toNat_of_nonneg e0.1, Int.toNat_of_nonneg e1.1, Int.toNat_of_nonneg e2.1]
        · constructor
          · intro q; cases q
          · rintro ⟨r, q⟩; cases q
    by_cases p3 : p = 3
    · subst p3
      obtain ⟨xs, t', hl, hr, hc, rfl⟩ := sh 1 1 rfl
      obtain ⟨x, rfl, hx⟩ := rows_one hr
      match r, hl with
      | x0 :: r, _ =>
        subst hc
        have hx' : r = (x.length : Int) :: (x ++ t) := hx
        have ha' : Pa05Neutral.asked1 (3 :: x0 :: x) = true := ha
        obtain ⟨a1, a2, a3⟩ := asked1_all ha'
        have e0 := nat_iff (List.all_eq_true.mp a1 x0 (by simp))
        have ex : x.all Pa05Neutral.nat = true := by
          rw [List.all_cons, Bool.and_eq_true, List.all_cons, Bool.and_eq_true] at a1
          exact a1.2.2
        have hlen : (x.map Int.toNat).length ≤ 100 := len_of_isSome a3
        have a4 : Pa05Neutral.callIn ((3 :: x0 :: x).map Int.toNat) = some (.size x0.toNat (x.map Int.toNat)) := if_pos hlen
        refine ⟨.size x0.toNat (x.map Int.toNat), a2.trans a4, ?_, ⟨(by omega), hlen, ok_toNat ex⟩, ?_⟩
        · show (3 : Int) :: x0 :: r = 3 :: ((x0.toNat : Nat) : Int) :: (((x.map Int.toNat).length : Nat) : Int) :: (intsOf (x.map Int.toNat) ++ t)
          rw [Int.toNat_of_nonneg e0.1, ints_toNat x ex, List.length_map, hx']
        · constructor
          · intro q; cases q
          · rintro ⟨r, q⟩; cases q
    by_cases p4 : p = 4
    · subst p4
      obtain ⟨xs, t', hl, hr, hc, rfl⟩ := sh 1 1 rfl
      obtain ⟨x, rfl, hx⟩ := rows_one hr
      match r, hl with
      | x0 :: r, _ =>
        subst hc
        have hx' : r = (x.length : Int) :: (x ++ t) := hx
        have ha' : Pa05Neutral.asked1 (4 :: x0 :: x) = true := ha
        obtain ⟨a1, a2, a3⟩ := asked1_all ha'
        have e0 := nat_iff (List.all_eq_true.mp a1 x0 (by simp))
        have ex : x.all Pa05Neutral.nat = true := by
          rw [List.all_cons, Bool.and_eq_true, List.all_cons, Bool.and_eq_true] at a1
          exact a1.2.2
        have hlen : (x.map Int.toNat).length ≤ 100 := len_of_isSome a3
        have a4 : Pa05Neutral.callIn ((4 :: x0 :: x).map Int.toNat) = some (.meaning x0.toNat (x.map Int.toNat)) := if_pos hlen
        refine ⟨.meaning x0.toNat (x.map Int.toNat), a2.trans a4, ?_, ⟨(by omega), hlen, ok_toNat ex⟩, ?_⟩
        · show (4 : Int) :: x0 :: r = 4 :: ((x0.toNat : Nat) : Int) :: (((x.map Int.toNat).length : Nat) : Int) :: (intsOf (x.map Int.toNat) ++ t)
          rw [Int.toNat_of_nonneg e0.1, ints_toNat x ex, List.length_map, hx']
        · constructor
          · intro q; cases q
          · rintro ⟨r, q⟩; cases q
    by_cases p5 : p = 5
    · subst p5
      obtain ⟨xs, t', hl, hr, hc, rfl⟩ := sh 2 1 rfl
      obtain ⟨x, rfl, hx⟩ := rows_one hr
      match r, hl with
      | x0 :: x1 :: r, _ =>
        subst hc
        have hx' : r = (x.length : Int) :: (x ++ t) := hx
        have ha' : Pa05Neutral.asked1 (5 :: x0 :: x1 :: x) = true := ha
        obtain ⟨a1, a2, a3⟩ := asked1_all ha'
        have e0 := nat_iff (List.all_eq_true.mp a1 x0 (by simp))
        have e1 := nat_iff (List.all_eq_true.mp a1 x1 (by simp))
        have ex : x.all Pa05Neutral.nat = true := by
          rw [List.all_cons, Bool.and_eq_true, List.all_cons, Bool.and_eq_true, List.all_cons, Bool.and_eq_true] at a1
          exact a1.2.2.2
        have hlen : (x.map Int.toNat).length ≤ 100 := len_of_isSome a3
        have a4 : Pa05Neutral.callIn ((5 :: x0 :: x1 :: x).map Int.toNat) = some (.related x0.toNat x1.toNat (x.map Int.toNat)) := if_pos hlen
        refine ⟨.related x0.toNat x1.toNat (x.map Int.toNat), a2.trans a4, ?_, ⟨(by omega), (by omega), hlen, ok_toNat ex⟩, ?_⟩
        · show (5 : Int) :: x0 :: x1 :: r = 5 :: ((x0.toNat : Nat) : Int) :: ((x1.toNat : Nat) : Int) :: (((x.map Int.toNat).length : Nat) : Int) :: (intsOf (x.map Int.toNat) ++ t)
          rw [Int.toNat_of_nonneg e0.1, Int.toNat_of_nonneg e1.1, ints_toNat x ex, List.length_map, hx']
        · constructor
          · intro q; cases q
          · rintro ⟨r, q⟩; cases q
    by_cases p6 : p = 6
    · subst p6
      obtain ⟨xs, t', hl, hr, hc, rfl⟩ := sh 0 1 rfl
      obtain ⟨x, rfl, hx⟩ := rows_one hr
      subst hc
      have hx' : r = (x.length : Int) :: (x ++ t) := hx
      have ha' : Pa05Neutral.asked1 (6 :: x) = true := ha
      obtain ⟨a1, a2, a3⟩ := asked1_all ha'
      have ex : x.all Pa05Neutral.nat = true := by
        rw [List.all_cons, Bool.and_eq_true] at a1
        exact a1.2
      have hlen : (x.map Int.toNat).length ≤ 100 := len_of_isSome a3
      have a4 : Pa05Neutral.callIn ((6 :: x).map Int.toNat) = some (.count (x.map Int.toNat)) := if_pos hlen
      refine ⟨.count (x.map Int.toNat), a2.trans a4, ?_, ⟨hlen, ok_toNat ex⟩, ?_⟩
      · show (6 : Int) :: r = 6 :: (((x.map Int.toNat).length : Nat) : Int) :: (intsOf (x.map Int.toNat) ++ t)
        rw [ints_toNat x ex, List.length_map, hx']
      · constructor
        · intro q; cases q
        · rintro ⟨r, q⟩; cases q
    by_cases p7 : p = 7
    · subst p7
      obtain ⟨xs, t', hl, hr, hc, rfl⟩ := sh 0 1 rfl
      obtain ⟨x, rfl, hx⟩ := rows_one hr
      subst hc
      have hx' : r = (x.length : Int) :: (x ++ t) := hx
      have ha' : Pa05Neutral.asked1 (7 :: x) = true := ha
      obtain ⟨a1, a2, a3⟩ := asked1_all ha'
      have ex : x.all Pa05Neutral.nat = true := by
        rw [List.all_cons, Bool.and_eq_true] at a1
        exact a1.2
      have hlen : (x.map Int.toNat).length ≤ 100 := len_of_isSome a3
      have a4 : Pa05Neutral.callIn ((7 :: x).map Int.toNat) = some (.kept (x.map Int.toNat)) := if_pos hlen
      refine ⟨.kept (x.map Int.toNat), a2.trans a4, ?_, ⟨hlen, ok_toNat ex⟩, ?_⟩
      · show (7 : Int) :: r = 7 :: (((x.map Int.toNat).length : Nat) : Int) :: (intsOf (x.map Int.toNat) ++ t)
        rw [ints_toNat x ex, List.length_map, hx']
      · constructor
        · intro _; exact ⟨_, rfl⟩
        · intro _; rfl
    · exfalso
      have e : PyPa05.shape p = none := by
        unfold PyPa05.shape
        rw [if_neg p0, if_neg p1, if_neg p2, if_neg p3, if_neg p4, if_neg p5, if_neg p6, if_neg p7]
      rw [e] at h
      cases h
theorem calls_all : ∀ (f : Nat) (l : List Int) (raw : List (List (List Int))), PyFlat.calls PyPa05.shape f l = some raw → (∀ c ∈ raw, Pa05Neutral.asked1 ((PyPa05.whole c).headD []) = true) →
    ∃ cs : List Call, cs.length = raw.length ∧ (∀ c ∈ cs, CallOk c) ∧ l = cs.flatMap flat ∧
      ∀ s : State, PyFlat.told (PyFlat.played (fun s c => Pa05Neutral.step s (c.headD [])) s (raw.map PyPa05.whole)) = tell s cs
  | f, [], raw, h, _ => by
    unfold PyFlat.calls at h
    cases h
    exact ⟨[], rfl, (fun c hc => by cases hc), rfl, fun _ => rfl⟩
  | 0, _ :: _, raw, h, _ => by
    unfold PyFlat.calls at h
    cases h
  | f + 1, p :: r, raw, h, ha => by
    unfold PyFlat.calls at h
    cases e : PyFlat.call PyPa05.shape (p :: r) with
    | none =>
      rw [e] at h
      cases h
    | some q =>
      obtain ⟨c, t⟩ := q
      rw [e] at h
      have h' : (match PyFlat.calls PyPa05.shape f t with | none => none | some cs => some (c :: cs)) = some raw := h
      cases e2 : PyFlat.calls PyPa05.shape f t with
      | none =>
        rw [e2] at h'
        cases h'
      | some raw' =>
        rw [e2] at h'
        cases h'
        obtain ⟨x, hx, hl, hk, _⟩ := call_one e (ha c (by simp))
        obtain ⟨cs, n1, n2, n3, n4⟩ := calls_all f t raw' e2 (fun c hc => ha c (by simp [hc]))
        refine ⟨x :: cs, by simp [n1], ?_, ?_, fun s => ?_⟩
        · intro d hd
          cases hd with
          | head => exact hk
          | tail _ hd => exact n2 d hd
        · rw [List.flatMap_cons, ← n3]
          exact hl
        · have st : ∀ s, Pa05Neutral.step s ((PyPa05.whole c).headD []) = ((step s x).1, Pa05Neutral.out (step s x).2) := by
            intro s
            unfold Pa05Neutral.step
            rw [hx]
          rw [List.map_cons]
          show PyFlat.told ((Pa05Neutral.step s ((PyPa05.whole c).headD [])).2 :: PyFlat.played _ (Pa05Neutral.step s ((PyPa05.whole c).headD [])).1 (raw'.map PyPa05.whole)) = _
          rw [st s]
          unfold PyFlat.told
          rw [List.flatMap_cons]
          have := n4 (step s x).1
          unfold PyFlat.told at this
          rw [this]
          show (((Pa05Neutral.out (step s x).2).length : Int) :: Pa05Neutral.out (step s x).2) ++ _ = told1 (step s x).2 ++ _
          congr 1
          unfold told1 Pa05Neutral.out intsOf
          simp
/-- **What is asked, and what is due.** -/
theorem asked_is {l : List Int} (h : PyPa05.answers_asked l = true) : ∃ cs : List Call, (∀ c ∈ cs, CallOk c) ∧ cs.length ≤ 60 ∧ l = cs.flatMap flat ∧ PyPa05.answers l = tell init cs ∧ (tell init cs).length ≤ 10000000 := by
  unfold PyPa05.answers_asked at h
  cases e : PyFlat.calls PyPa05.shape l.length l with
  | none =>
    rw [e] at h
    cases h
  | some raw =>
    rw [e] at h
    have h' : (!raw.isEmpty && PyFlat.atMost 60 raw && PyInside.calls PyPa05.bound raw && Pa05Neutral.asked ((raw.map PyPa05.whole).map fun c => c.headD []) && PyFlat.short 10000000 (PyPa05.answers l)) = true := h
    rw [Bool.and_eq_true, Bool.and_eq_true, Bool.and_eq_true, Bool.and_eq_true] at h'
    obtain ⟨⟨⟨⟨h1, h2⟩, h3⟩, h4⟩, h5⟩ := h'
    unfold Pa05Neutral.asked at h4
    rw [Bool.and_eq_true] at h4
    have ha : ∀ c ∈ raw, Pa05Neutral.asked1 ((PyPa05.whole c).headD []) = true := by
      intro c hc
      exact List.all_eq_true.mp h4.1 _ (List.mem_map.mpr ⟨PyPa05.whole c, List.mem_map.mpr ⟨c, hc, rfl⟩, rfl⟩)
    obtain ⟨cs, n1, n2, n3, n4⟩ := calls_all l.length l raw e ha
    have ea : PyPa05.answers l = tell init cs := by
      have ec : PyPa05.calls l = some (raw.map PyPa05.whole) := by
        unfold PyPa05.calls
        rw [e]
      unfold PyPa05.answers
      rw [ec]
      exact n4 init
    refine ⟨cs, n2, ?_, n3, ea, ?_⟩
    · rw [n1]
      exact of_decide_eq_true h2
    · rw [← ea]
      exact of_decide_eq_true h5
end FC
/-! What terms mean lies within their types. Plain Lean alone. -/
namespace FC
open Pa05
theorem table_lt {q : Nat} : ∀ l : List Nat, (∀ y ∈ l, y < q) → table q l < q ^ l.length
  | [], _ => by simp [table]
  | y :: l, h => by
    have h1 := h y (List.mem_cons_self ..)
    have h2 := table_lt l fun z hz => h z (List.mem_cons_of_mem _ hz)
    have h3 : q * (table q l + 1) ≤ q * q ^ l.length := Nat.mul_le_mul_left q h2
    rw [Nat.mul_add, Nat.mul_one] at h3
    show y + q * table q l < q ^ (l.length + 1)
    rw [Nat.pow_succ, Nat.mul_comm (q ^ l.length) q]
    omega
theorem ty_of {l : List (Ty × Nat)} {t : Tm} {a : Ty} {i : Nat} (h : typed (l.map fun x => x.1) i t = .ok a) : tyOf l t = a := by
  unfold tyOf
  rw [typed_at t _ i 0 a h]
def EnvLt (n : Nat → Nat) (l : List (Ty × Nat)) : Prop := ∀ p ∈ l, p.2 < p.1.card n
theorem fn_pos {q c f x : Nat} (hf : f < q ^ c) (hx : x < c) : 0 < q := by
  cases q with
  | zero =>
    rw [Nat.zero_pow (by omega)] at hf
    omega
  | succ q => omega
theorem at_lt' {q c f x : Nat} (hf : f < q ^ c) (hx : x < c) : at_ q f x < q := Nat.mod_lt _ (fn_pos hf hx)
theorem val_lt {n : Nat → Nat} (t : Tm) : ∀ (l : List (Ty × Nat)) (i : Nat) (a : Ty), typed (l.map fun x => x.1) i t = .ok a → EnvLt n l → t.val n l < a.card n := by
  induction t with
  | var j =>
    intro l i a h hl
    rw [typed] at h
    cases e : (l.map fun x => x.1)[j]? with
    | none => rw [e] at h; cases h
    | some b =>
      rw [e] at h
      cases h
      rw [List.getElem?_map] at e
      cases e2 : l[j]? with
      | none => rw [e2] at e; cases e
      | some p =>
        rw [e2] at e
        cases e
        show (l.getD j (.two, 0)).2 < _
        rw [List.getD_eq_getElem?_getD, e2]
        exact hl p (List.mem_of_getElem? e2)
  | pair t s iht ihs =>
    intro l i a h hl
    rw [typed] at h
    cases e1 : typed (l.map fun x => x.1) (i + 1) t with
    | error f => rw [e1] at h; cases h
    | ok x =>
      cases e2 : typed (l.map fun x => x.1) (i + 1 + t.size) s with
      | error f => rw [e1, e2] at h; cases h
      | ok y =>
        rw [e1, e2] at h
        cases h
        have h1 := iht l _ x e1 hl
        have h2 := ihs l _ y e2 hl
        show t.val n l * (tyOf l s).card n + s.val n l < x.card n * y.card n
        rw [ty_of e2]
        have h3 : (t.val n l + 1) * y.card n ≤ x.card n * y.card n := Nat.mul_le_mul_right _ h1
        rw [Nat.add_mul, Nat.one_mul] at h3
        omega
  | first t iht =>
    intro l i a h hl
    rw [typed] at h
    cases e1 : typed (l.map fun x => x.1) (i + 1) t with
    | error f => rw [e1] at h; cases h
    | ok x =>
      rw [e1] at h
      have h1 := iht l _ x e1 hl
      cases x with
      | pair y z =>
        cases h
        show (match tyOf l t with
          | .pair _ b => t.val n l / b.card n
          | _ => 0) < _
        rw [ty_of e1]
        exact Nat.div_lt_of_lt_mul (by rw [Nat.mul_comm]; exact h1)
      | _ => cases h
  | second t iht =>
    intro l i a h hl
    rw [typed] at h
    cases e1 : typed (l.map fun x => x.1) (i + 1) t with
    | error f => rw [e1] at h; cases h
    | ok x =>
      rw [e1] at h
      have h1 := iht l _ x e1 hl
      cases x with
      | pair y z =>
        cases h
        show (match tyOf l t with
          | .pair _ b => t.val n l % b.card n
          | _ => 0) < _
        rw [ty_of e1]
        have h1' : t.val n l < y.card n * a.card n := h1
        refine Nat.mod_lt _ ?_
        cases q : a.card n with
        | zero => rw [q, Nat.mul_zero] at h1'; omega
        | succ m => omega
      | _ => cases h
  | left b t iht =>
    intro l i a h hl
    rw [typed] at h
    cases e1 : typed (l.map fun x => x.1) (i + 1) t with
    | error f => rw [e1] at h; cases h
    | ok x =>
      rw [e1] at h
      cases h
      have h1 := iht l _ x e1 hl
      show t.val n l < x.card n + b.card n
      omega
  | right b t iht =>
    intro l i a h hl
    rw [typed] at h
    cases e1 : typed (l.map fun x => x.1) (i + 1) t with
    | error f => rw [e1] at h; cases h
    | ok x =>
      rw [e1] at h
      cases h
      have h1 := iht l _ x e1 hl
      show b.card n + t.val n l < b.card n + x.card n
      omega
  | cases t u v iht ihu ihv =>
    intro l i a h hl
    rw [typed] at h
    cases e1 : typed (l.map fun x => x.1) (i + 1) t with
    | error f => rw [e1] at h; cases h
    | ok x =>
      cases e2 : typed (l.map fun x => x.1) (i + 1 + t.size) u with
      | error f => rw [e1, e2] at h; cases h
      | ok y =>
        cases e3 : typed (l.map fun x => x.1) (i + 1 + t.size + u.size) v with
        | error f => rw [e1, e2, e3] at h; cases h
        | ok z =>
          rw [e1, e2, e3] at h
          have h1 := iht l _ x e1 hl
          have h2 := ihu l _ y e2 hl
          have h3 := ihv l _ z e3 hl
          have key : ∀ x1 x2 y2, x = .either x1 x2 → y = .fn x1 y2 → z = .fn x2 y2 → a = y2 → (Tm.cases t u v).val n l < a.card n := by
            rintro x1 x2 y2 rfl rfl rfl rfl
            show (match tyOf l t, tyOf l u with
              | .either a _, .fn _ d => if t.val n l < a.card n then at_ (d.card n) (u.val n l) (t.val n l) else at_ (d.card n) (v.val n l) (t.val n l - a.card n)
              | _, _ => 0) < _
            rw [ty_of e1, ty_of e2]
            have h1' : t.val n l < x1.card n + x2.card n := h1
            simp only
            by_cases c : t.val n l < x1.card n
            · rw [if_pos c]
              exact at_lt' h2 c
            · rw [if_neg c]
              exact at_lt' h3 (by omega)
          cases x <;> cases y <;> cases z <;> first | (simp only at h; split at h <;> first | (rename_i c; obtain ⟨c1, c2, c3⟩ := c; subst c1 c2 c3; cases h; exact key _ _ _ rfl rfl rfl rfl) | cases h) | cases h
  | lam b t iht =>
    intro l i a h hl
    rw [typed] at h
    cases e1 : typed (b :: l.map fun x => x.1) (i + 1) t with
    | error f => rw [e1] at h; cases h
    | ok x =>
      rw [e1] at h
      cases h
      have e1' : ∀ z : Nat, typed (((b, z) :: l).map fun x => x.1) (i + 1) t = .ok x := fun z => e1
      show table ((tyOf ((b, 0) :: l) t).card n) ((List.range (b.card n)).map fun z => t.val n ((b, z) :: l)) < x.card n ^ b.card n
      rw [ty_of (e1' 0)]
      have := table_lt (q := x.card n) ((List.range (b.card n)).map fun z => t.val n ((b, z) :: l)) (by
        intro y hy
        obtain ⟨z, hz, rfl⟩ := List.mem_map.mp hy
        refine iht ((b, z) :: l) _ x (e1' z) ?_
        intro p hp
        rcases List.mem_cons.mp hp with q | q
        · rw [q]; exact List.mem_range.mp hz
        · exact hl p q)
      rw [List.length_map, List.length_range] at this
      exact this
  | app t s iht ihs =>
    intro l i a h hl
    rw [typed] at h
    cases e1 : typed (l.map fun x => x.1) (i + 1) t with
    | error f => rw [e1] at h; cases h
    | ok x =>
      cases e2 : typed (l.map fun x => x.1) (i + 1 + t.size) s with
      | error f => rw [e1, e2] at h; cases h
      | ok y =>
        rw [e1, e2] at h
        have h1 := iht l _ x e1 hl
        have h2 := ihs l _ y e2 hl
        have key : ∀ d, x = .fn y d → a = d → (Tm.app t s).val n l < a.card n := by
          rintro d rfl rfl
          show (match tyOf l t with
            | .fn _ b => at_ (b.card n) (t.val n l) (s.val n l)
            | _ => 0) < _
          rw [ty_of e1]
          exact at_lt' h1 h2
        cases x <;> first | (simp only at h; split at h <;> first | (rename_i c; subst c; cases h; exact key _ rfl rfl) | cases h) | cases h
  | yes =>
    intro l i a h hl
    cases h
    show 1 < 2
    omega
  | no =>
    intro l i a h hl
    cases h
    show 0 < 2
    omega
  | if_ t u v iht ihu ihv =>
    intro l i a h hl
    rw [typed] at h
    cases e1 : typed (l.map fun x => x.1) (i + 1) t with
    | error f => rw [e1] at h; cases h
    | ok x =>
      cases e2 : typed (l.map fun x => x.1) (i + 1 + t.size) u with
      | error f => rw [e1, e2] at h; cases h
      | ok y =>
        cases e3 : typed (l.map fun x => x.1) (i + 1 + t.size + u.size) v with
        | error f => rw [e1, e2, e3] at h; cases h
        | ok z =>
          rw [e1, e2, e3] at h
          have h2 := ihu l _ y e2 hl
          have h3 := ihv l _ z e3 hl
          have key : y = z → a = y → (Tm.if_ t u v).val n l < a.card n := by
            rintro rfl rfl
            show (if t.val n l = 1 then u.val n l else v.val n l) < _
            by_cases c : t.val n l = 1
            · rw [if_pos c]; exact h2
            · rw [if_neg c]; exact h3
          cases x <;> first | (simp only at h; split at h <;> first | (rename_i c; cases h; exact key c rfl) | cases h) | cases h
end FC
/-! What is held, part by part; weights. Plain Lean alone. -/
namespace FC
open Pa05
def okS (top : Nat) (n : Nat → Nat) (p : List Ty × Tm) : Bool := match typed p.1 0 p.2 with
  | .error _ => false
  | .ok a => (small top n a).isSome
theorem small_fn_arg {top : Nat} {n : Nat → Nat} {a b : Ty} (h : (small top n (.fn a b)).isSome = true) : (small top n a).isSome = true := by
  unfold small at h
  cases e : small top n a with
  | none => rw [e] at h; simp at h
  | some x => rfl
theorem held_iff {top : Nat} {n : Nat → Nat} (t : Tm) : ∀ l : List Ty, held top n l t = true ↔ ∀ p ∈ nodesE l t, okS top n p = true := by
  induction t with
  | var k =>
    intro l
    have e : held top n l (.var k) = (okS top n (l, .var k) && (true)) := by
      rw [held] <;> first | rfl | (intros; rename_i q; cases q)
    rw [e]
    simp [nodesE]
  | pair t s iht ihs =>
    intro l
    have e : held top n l (.pair t s) = (okS top n (l, .pair t s) && (held top n l t && held top n l s)) := by
      rw [held]
      rfl
    rw [e]
    simp only [nodesE, List.forall_mem_cons, List.forall_mem_append, Bool.and_eq_true, iht, ihs]
  | first t iht =>
    intro l
    have e : held top n l (.first t) = (okS top n (l, .first t) && (held top n l t)) := by
      rw [held]
      rfl
    rw [e]
    simp only [nodesE, List.forall_mem_cons, Bool.and_eq_true, iht]
  | second t iht =>
    intro l
    have e : held top n l (.second t) = (okS top n (l, .second t) && (held top n l t)) := by
      rw [held]
      rfl
    rw [e]
    simp only [nodesE, List.forall_mem_cons, Bool.and_eq_true, iht]
  | left b t iht =>
    intro l
    have e : held top n l (.left b t) = (okS top n (l, .left b t) && (held top n l t)) := by
      rw [held]
      rfl
    rw [e]
    simp only [nodesE, List.forall_mem_cons, Bool.and_eq_true, iht]
  | right b t iht =>
    intro l
    have e : held top n l (.right b t) = (okS top n (l, .right b t) && (held top n l t)) := by
      rw [held]
      rfl
    rw [e]
    simp only [nodesE, List.forall_mem_cons, Bool.and_eq_true, iht]
  | cases t u v iht ihu ihv =>
    intro l
    have e : held top n l (.cases t u v) = (okS top n (l, .cases t u v) && (held top n l t && (held top n l u && held top n l v))) := by
      rw [held]
      rfl
    rw [e]
    simp only [nodesE, List.forall_mem_cons, List.forall_mem_append, Bool.and_eq_true, iht, ihu, ihv]
  | lam b t iht =>
    intro l
    have e : held top n l (.lam b t) = (okS top n (l, .lam b t) && ((small top n b).isSome && held top n (b :: l) t)) := by
      rw [held]
      rfl
    rw [e]
    simp only [nodesE, List.forall_mem_cons, Bool.and_eq_true, iht]
    constructor
    · rintro ⟨h1, h2, h3⟩
      exact ⟨h1, h3⟩
    · rintro ⟨h1, h3⟩
      refine ⟨h1, ?_, h3⟩
      unfold okS at h1
      simp only at h1
      rw [typed] at h1
      cases e : typed (b :: l) (0 + 1) t with
      | error f => rw [e] at h1; cases h1
      | ok x =>
        rw [e] at h1
        exact small_fn_arg h1
  | app t s iht ihs =>
    intro l
    have e : held top n l (.app t s) = (okS top n (l, .app t s) && (held top n l t && held top n l s)) := by
      rw [held]
      rfl
    rw [e]
    simp only [nodesE, List.forall_mem_cons, List.forall_mem_append, Bool.and_eq_true, iht, ihs]
  | yes =>
    intro l
    have e : held top n l (.yes) = (okS top n (l, .yes) && (true)) := by
      rw [held] <;> first | rfl | (intros; rename_i q; cases q)
    rw [e]
    simp [nodesE]
  | no =>
    intro l
    have e : held top n l (.no) = (okS top n (l, .no) && (true)) := by
      rw [held] <;> first | rfl | (intros; rename_i q; cases q)
    rw [e]
    simp [nodesE]
  | if_ t u v iht ihu ihv =>
    intro l
    have e : held top n l (.if_ t u v) = (okS top n (l, .if_ t u v) && (held top n l t && (held top n l u && held top n l v))) := by
      rw [held]
      rfl
    rw [e]
    simp only [nodesE, List.forall_mem_cons, List.forall_mem_append, Bool.and_eq_true, iht, ihu, ihv]
/-- the greatest, 1 of none -/
def best : List Nat → Nat
  | [] => 1
  | [x] => x
  | x :: y :: l => max x (best (y :: l))
theorem best_mem : ∀ {l : List Nat}, l ≠ [] → best l ∈ l
  | [], h => absurd rfl h
  | [x], _ => List.mem_cons_self ..
  | x :: y :: l, _ => by
    have := best_mem (l := y :: l) (by simp)
    show max x (best (y :: l)) ∈ x :: y :: l
    by_cases c : x ≤ best (y :: l)
    · rw [Nat.max_eq_right c]
      exact List.mem_cons_of_mem _ this
    · rw [Nat.max_eq_left (by omega)]
      exact List.mem_cons_self ..
theorem best_le : ∀ {l : List Nat} {x : Nat}, x ∈ l → x ≤ best l
  | [], x, h => by cases h
  | [y], x, h => by rw [List.mem_singleton.mp h]; exact Nat.le_refl _
  | y :: z :: l, x, h => by
    show x ≤ max y (best (z :: l))
    rcases List.mem_cons.mp h with q | q
    · omega
    · have := best_le q
      omega
theorem best_of {l : List Nat} {m : Nat} (h1 : m ∈ l) (h2 : ∀ x ∈ l, x ≤ m) : best l = m := by
  have h3 : l ≠ [] := fun e => by rw [e] at h1; cases h1
  have h4 := h2 _ (best_mem h3)
  have h5 := best_le h1
  omega
theorem work_lam (n : Nat → Nat) (a : Ty) (t : Tm) : (Tm.lam a t).work n = a.card n * t.work n := rfl
theorem work_other (n : Nat → Nat) (t : Tm) (h : ∀ a u, t ≠ .lam a u) : t.work n = best ((kids t).map (Tm.work n)) := by
  cases t with
  | lam a u => exact absurd rfl (h a u)
  | _ => rfl
end FC
/-! Blocks of parts. Plain Lean alone. -/
namespace FC
open Pa05
theorem blk_list {l : List Ty} : ∀ {ts : List Tm}, (∀ t ∈ ts, ∀ (l : List Ty) (m : Nat) (e : List Ty) (s : Tm), (nodesE l t)[m]? = some (e, s) → ∀ (i : Nat) (p : List Ty × Tm), (nodesE e s)[i]? = some p → (nodesE l t)[m + i]? = some p) →
    ∀ (m : Nat) (e : List Ty) (s : Tm), (ts.flatMap (nodesE l))[m]? = some (e, s) → ∀ (i : Nat) (p : List Ty × Tm), (nodesE e s)[i]? = some p → (ts.flatMap (nodesE l))[m + i]? = some p
  | [], _, m, e, s, h, _, _, _ => by simp at h
  | t :: ts, ih, m, e, s, h, i, p, hp => by
    rw [List.flatMap_cons] at h ⊢
    by_cases c : m < (nodesE l t).length
    · rw [List.getElem?_append_left c] at h
      have := ih t (List.mem_cons_self ..) l m e s h i p hp
      rw [List.getElem?_append_left (List.getElem?_eq_some_iff.mp this).1]
      exact this
    · rw [List.getElem?_append_right (by omega)] at h
      have := blk_list (fun t' ht' => ih t' (List.mem_cons_of_mem _ ht')) (m - (nodesE l t).length) e s h i p hp
      rw [List.getElem?_append_right (by omega), show m + i - (nodesE l t).length = m - (nodesE l t).length + i by omega]
      exact this
theorem kid_size {t s : Tm} (h : s ∈ kids t) : s.size < t.size := by
  cases t <;> simp [kids] at h <;> simp only [Tm.size] <;> (try rcases h with rfl | rfl | rfl) <;> (try rcases h with rfl | rfl) <;> (try subst h) <;> omega
/-- the parts of a part lie behind it, as its own -/
theorem blk : ∀ (k : Nat) (t : Tm), t.size ≤ k → ∀ (l : List Ty) (m : Nat) (e : List Ty) (s : Tm), (nodesE l t)[m]? = some (e, s) → ∀ (i : Nat) (p : List Ty × Tm), (nodesE e s)[i]? = some p → (nodesE l t)[m + i]? = some p := by
  intro k
  induction k with
  | zero =>
    intro t hk
    have := size_eq t
    omega
  | succ k ih =>
    intro t hk l m e s h i p hp
    rw [nodesE_eq] at h ⊢
    cases m with
    | zero =>
      have q : (l, t) = (e, s) := Option.some.inj h
      cases q
      rw [nodesE_eq] at hp
      rw [Nat.zero_add]
      exact hp
    | succ m =>
      have h' : ((kids t).flatMap (nodesE (inEnv t l)))[m]? = some (e, s) := h
      have := blk_list (l := inEnv t l) (ts := kids t) (fun t' ht' => ih t' (by have := kid_size ht'; omega)) m e s h' i p hp
      rw [show m + 1 + i = (m + i) + 1 by omega]
      exact this
theorem blk_kids {t : Tm} {l : List Ty} {P : Nat → List Ty × Tm → Prop} {m : Nat} {e : List Ty} {s : Tm} (h : (nodesE l t)[m]? = some (e, s)) (hP : ∀ k p, m < k → (nodesE l t)[k]? = some p → P k p) : AllAt P (m + 1) ((kids s).flatMap (nodesE (inEnv s e))) := by
  intro i p hi
  refine hP _ p (by omega) ?_
  have := blk t.size t (Nat.le_refl _) l m e s h (i + 1) p (by rw [nodesE_eq]; exact hi)
  rw [show m + 1 + i = m + (i + 1) by omega]
  exact this
theorem mem_inside (t : Tm) : ∀ (l : List Ty) (p : List Ty × Tm), p ∈ nodesE l t → p.2 ∈ nodes t ∧ tdp p.2 ≤ tdp t := by
  induction t with
  | var k => intro l p hp; rw [List.mem_singleton.mp hp]; exact ⟨List.mem_cons_self .., Nat.le_refl _⟩
  | yes => intro l p hp; rw [List.mem_singleton.mp hp]; exact ⟨List.mem_cons_self .., Nat.le_refl _⟩
  | no => intro l p hp; rw [List.mem_singleton.mp hp]; exact ⟨List.mem_cons_self .., Nat.le_refl _⟩
  | pair t s iht ihs =>
    intro l p hp
    rcases List.mem_cons.mp hp with q | q
    · rw [q]; exact ⟨List.mem_cons_self .., Nat.le_refl _⟩
    · rcases List.mem_append.mp q with q | q
      · obtain ⟨a, b⟩ := iht l p q
        exact ⟨List.mem_cons_of_mem _ (List.mem_append_left _ a), by show _ ≤ max _ _ + 1; omega⟩
      · obtain ⟨a, b⟩ := ihs l p q
        exact ⟨List.mem_cons_of_mem _ (List.mem_append_right _ a), by show _ ≤ max _ _ + 1; omega⟩
  | app t s iht ihs =>
    intro l p hp
    rcases List.mem_cons.mp hp with q | q
    · rw [q]; exact ⟨List.mem_cons_self .., Nat.le_refl _⟩
    · rcases List.mem_append.mp q with q | q
      · obtain ⟨a, b⟩ := iht l p q
        exact ⟨List.mem_cons_of_mem _ (List.mem_append_left _ a), by show _ ≤ max _ _ + 1; omega⟩
      · obtain ⟨a, b⟩ := ihs l p q
        exact ⟨List.mem_cons_of_mem _ (List.mem_append_right _ a), by show _ ≤ max _ _ + 1; omega⟩
  | first t iht =>
    intro l p hp
    rcases List.mem_cons.mp hp with q | q
    · rw [q]; exact ⟨List.mem_cons_self .., Nat.le_refl _⟩
    · obtain ⟨a, b⟩ := iht l p q
      exact ⟨List.mem_cons_of_mem _ a, by show _ ≤ _ + 1; omega⟩
  | second t iht =>
    intro l p hp
    rcases List.mem_cons.mp hp with q | q
    · rw [q]; exact ⟨List.mem_cons_self .., Nat.le_refl _⟩
    · obtain ⟨a, b⟩ := iht l p q
      exact ⟨List.mem_cons_of_mem _ a, by show _ ≤ _ + 1; omega⟩
  | left c t iht =>
    intro l p hp
    rcases List.mem_cons.mp hp with q | q
    · rw [q]; exact ⟨List.mem_cons_self .., Nat.le_refl _⟩
    · obtain ⟨a, b⟩ := iht l p q
      exact ⟨List.mem_cons_of_mem _ a, by show _ ≤ _ + 1; omega⟩
  | right c t iht =>
    intro l p hp
    rcases List.mem_cons.mp hp with q | q
    · rw [q]; exact ⟨List.mem_cons_self .., Nat.le_refl _⟩
    · obtain ⟨a, b⟩ := iht l p q
      exact ⟨List.mem_cons_of_mem _ a, by show _ ≤ _ + 1; omega⟩
  | lam c t iht =>
    intro l p hp
    rcases List.mem_cons.mp hp with q | q
    · rw [q]; exact ⟨List.mem_cons_self .., Nat.le_refl _⟩
    · obtain ⟨a, b⟩ := iht (c :: l) p q
      exact ⟨List.mem_cons_of_mem _ a, by show _ ≤ _ + 1; omega⟩
  | cases t u v iht ihu ihv =>
    intro l p hp
    rcases List.mem_cons.mp hp with q | q
    · rw [q]; exact ⟨List.mem_cons_self .., Nat.le_refl _⟩
    · rcases List.mem_append.mp q with q | q
      · obtain ⟨a, b⟩ := iht l p q
        exact ⟨List.mem_cons_of_mem _ (List.mem_append_left _ a), by show _ ≤ max _ (max _ _) + 1; omega⟩
      · rcases List.mem_append.mp q with q | q
        · obtain ⟨a, b⟩ := ihu l p q
          exact ⟨List.mem_cons_of_mem _ (List.mem_append_right _ (List.mem_append_left _ a)), by show _ ≤ max _ (max _ _) + 1; omega⟩
        · obtain ⟨a, b⟩ := ihv l p q
          exact ⟨List.mem_cons_of_mem _ (List.mem_append_right _ (List.mem_append_right _ a)), by show _ ≤ max _ (max _ _) + 1; omega⟩
  | if_ t u v iht ihu ihv =>
    intro l p hp
    rcases List.mem_cons.mp hp with q | q
    · rw [q]; exact ⟨List.mem_cons_self .., Nat.le_refl _⟩
    · rcases List.mem_append.mp q with q | q
      · obtain ⟨a, b⟩ := iht l p q
        exact ⟨List.mem_cons_of_mem _ (List.mem_append_left _ a), by show _ ≤ max _ (max _ _) + 1; omega⟩
      · rcases List.mem_append.mp q with q | q
        · obtain ⟨a, b⟩ := ihu l p q
          exact ⟨List.mem_cons_of_mem _ (List.mem_append_right _ (List.mem_append_left _ a)), by show _ ≤ max _ (max _ _) + 1; omega⟩
        · obtain ⟨a, b⟩ := ihv l p q
          exact ⟨List.mem_cons_of_mem _ (List.mem_append_right _ (List.mem_append_right _ a)), by show _ ≤ max _ (max _ _) + 1; omega⟩
/-- what is around a part: what was around the term, or told in it -/
theorem env_inside (t : Tm) : ∀ (l : List Ty) (p : List Ty × Tm), p ∈ nodesE l t → ∀ x ∈ p.1, x ∈ l ∨ ∃ s ∈ nodes t, toldOf s = .ty x := by
  have wk : ∀ {t u : Tm} {l : List Ty} {p : List Ty × Tm}, (∀ x ∈ p.1, x ∈ l ∨ ∃ s ∈ nodes u, toldOf s = .ty x) → (∀ s ∈ nodes u, s ∈ nodes t) → ∀ x ∈ p.1, x ∈ l ∨ ∃ s ∈ nodes t, toldOf s = .ty x := by
    intro t u l p h hs x hx
    rcases h x hx with q | ⟨s, q1, q2⟩
    · exact .inl q
    · exact .inr ⟨s, hs s q1, q2⟩
  induction t with
  | var k => intro l p hp x hx; rw [List.mem_singleton.mp hp] at hx; exact .inl hx
  | yes => intro l p hp x hx; rw [List.mem_singleton.mp hp] at hx; exact .inl hx
  | no => intro l p hp x hx; rw [List.mem_singleton.mp hp] at hx; exact .inl hx
  | pair t s iht ihs =>
    intro l p hp
    rcases List.mem_cons.mp hp with q | q
    · rw [q]; exact fun x hx => .inl hx
    · rcases List.mem_append.mp q with q | q
      · exact wk (iht l p q) fun s hs => by simp [nodes, hs]
      · exact wk (ihs l p q) fun s hs => by simp [nodes, hs]
  | app t s iht ihs =>
    intro l p hp
    rcases List.mem_cons.mp hp with q | q
    · rw [q]; exact fun x hx => .inl hx
    · rcases List.mem_append.mp q with q | q
      · exact wk (iht l p q) fun s hs => by simp [nodes, hs]
      · exact wk (ihs l p q) fun s hs => by simp [nodes, hs]
  | first t iht =>
    intro l p hp
    rcases List.mem_cons.mp hp with q | q
    · rw [q]; exact fun x hx => .inl hx
    · exact wk (iht l p q) fun s hs => by simp [nodes, hs]
  | second t iht =>
    intro l p hp
    rcases List.mem_cons.mp hp with q | q
    · rw [q]; exact fun x hx => .inl hx
    · exact wk (iht l p q) fun s hs => by simp [nodes, hs]
  | left c t iht =>
    intro l p hp
    rcases List.mem_cons.mp hp with q | q
    · rw [q]; exact fun x hx => .inl hx
    · exact wk (iht l p q) fun s hs => by simp [nodes, hs]
  | right c t iht =>
    intro l p hp
    rcases List.mem_cons.mp hp with q | q
    · rw [q]; exact fun x hx => .inl hx
    · exact wk (iht l p q) fun s hs => by simp [nodes, hs]
  | lam c t iht =>
    intro l p hp
    rcases List.mem_cons.mp hp with q | q
    · rw [q]; exact fun x hx => .inl hx
    · intro x hx
      rcases iht (c :: l) p q x hx with g | ⟨s, g1, g2⟩
      · rcases List.mem_cons.mp g with g | g
        · exact .inr ⟨.lam c t, by simp [nodes], by rw [g]; rfl⟩
        · exact .inl g
      · exact .inr ⟨s, by simp [nodes, g1], g2⟩
  | cases t u v iht ihu ihv =>
    intro l p hp
    rcases List.mem_cons.mp hp with q | q
    · rw [q]; exact fun x hx => .inl hx
    · rcases List.mem_append.mp q with q | q
      · exact wk (iht l p q) fun s hs => by simp [nodes, hs]
      · rcases List.mem_append.mp q with q | q
        · exact wk (ihu l p q) fun s hs => by simp [nodes, hs]
        · exact wk (ihv l p q) fun s hs => by simp [nodes, hs]
  | if_ t u v iht ihu ihv =>
    intro l p hp
    rcases List.mem_cons.mp hp with q | q
    · rw [q]; exact fun x hx => .inl hx
    · rcases List.mem_append.mp q with q | q
      · exact wk (iht l p q) fun s hs => by simp [nodes, hs]
      · rcases List.mem_append.mp q with q | q
        · exact wk (ihu l p q) fun s hs => by simp [nodes, hs]
        · exact wk (ihv l p q) fun s hs => by simp [nodes, hs]
theorem best_max (x y : Nat) : ∀ l : List Nat, best (max x y :: l) = max x (best (y :: l))
  | [] => rfl
  | z :: l => by
    show max (max x y) (best (z :: l)) = max x (max y (best (z :: l)))
    omega
theorem fold_best : ∀ (l : List Nat) (x : Nat), (l.map fun (n : Nat) => (n : Int)).foldl max (x : Int) = ((best (x :: l) : Nat) : Int)
  | [], x => rfl
  | y :: l, x => by
    show (l.map fun (n : Nat) => (n : Int)).foldl max (max (x : Int) (y : Int)) = _
    rw [show max (x : Int) (y : Int) = ((max x y : Nat) : Int) by omega, fold_best l (max x y), best_max]
    rfl
end FC
/-! Tables of meanings: one number for each choice of what stands around. Plain Lean alone. -/
namespace FC
open Pa05
/-- how many choices there are; what stands around, innermost first -/
def prodAt (n : Nat → Nat) : List Ty → Nat
  | [] => 1
  | b :: l => b.card n * prodAt n l
def envAt (n : Nat → Nat) : List Ty → Nat → List (Ty × Nat)
  | [], _ => []
  | b :: l, c => (b, c % b.card n) :: envAt n l (c / b.card n)
theorem envAt_types {n : Nat → Nat} : ∀ (l : List Ty) (c : Nat), (envAt n l c).map (fun x => x.1) = l
  | [], _ => rfl
  | b :: l, c => congrArg (b :: ·) (envAt_types l (c / b.card n))
theorem envAt_len {n : Nat → Nat} (l : List Ty) (c : Nat) : (envAt n l c).length = l.length := by
  have := congrArg List.length (envAt_types (n := n) l c)
  rwa [List.length_map] at this
theorem envAt_lt {n : Nat → Nat} : ∀ (l : List Ty) (c : Nat), c < prodAt n l → EnvLt n (envAt n l c)
  | [], _, _ => fun p hp => by cases hp
  | b :: l, c, h => by
    have hb : 0 < b.card n := by
      rcases Nat.eq_zero_or_pos (b.card n) with h0 | h0
      · rw [prodAt, h0, Nat.zero_mul] at h; omega
      · exact h0
    intro p hp
    rcases List.mem_cons.mp hp with e | e
    · rw [e]; exact Nat.mod_lt _ hb
    · exact envAt_lt l (c / b.card n) (Nat.div_lt_of_lt_mul h) p e
theorem envAt_cons {n : Nat → Nat} {b : Ty} {l : List Ty} {x c : Nat} (hx : x < b.card n) : envAt n (b :: l) (x + b.card n * c) = (b, x) :: envAt n l c := by
  have h1 : (x + b.card n * c) % b.card n = x := by rw [Nat.add_mul_mod_self_left, Nat.mod_eq_of_lt hx]
  have h2 : (x + b.card n * c) / b.card n = c := by rw [Nat.add_mul_div_left _ _ (by omega), Nat.div_eq_of_lt hx, Nat.zero_add]
  rw [envAt, h1, h2]
theorem envAt_get {n : Nat → Nat} : ∀ (l : List Ty) (c k : Nat), (envAt n l c)[k]? = l[k]?.map fun b => (b, c / prodAt n (l.take k) % b.card n)
  | [], _, k => by simp [envAt]
  | b :: l, c, 0 => by simp [envAt, prodAt]
  | b :: l, c, k + 1 => by
    rw [envAt, List.getElem?_cons_succ, List.getElem?_cons_succ, envAt_get l _ k, List.take_succ_cons, prodAt, Nat.div_div_eq_div_mul]
/-- the table of a term -/
def tabOf (n : Nat → Nat) (l : List Ty) (t : Tm) : List Nat := (List.range (prodAt n l)).map fun c => t.val n (envAt n l c)
theorem tabOf_len {n : Nat → Nat} {l : List Ty} {t : Tm} : (tabOf n l t).length = prodAt n l := by simp [tabOf]
theorem tabOf_nil {n : Nat → Nat} {t : Tm} : tabOf n [] t = [t.val n []] := rfl
theorem tabOf_get {n : Nat → Nat} {l : List Ty} {t : Tm} {c : Nat} (h : c < prodAt n l) : (tabOf n l t)[c]? = some (t.val n (envAt n l c)) := by simp [tabOf, h]
theorem tabOf_lt {n : Nat → Nat} {l : List Ty} {t : Tm} {i : Nat} {a : Ty} (h : typed l i t = .ok a) : ∀ x ∈ tabOf n l t, x < a.card n := by
  intro x hx
  obtain ⟨c, hc, rfl⟩ := List.mem_map.mp hx
  exact val_lt t _ i a (by rw [envAt_types]; exact h) (envAt_lt l c (List.mem_range.mp hc))
theorem tabOf_one {n : Nat → Nat} {l : List Ty} {t : Tm} {i : Nat} {a : Ty} (h : typed l i t = .ok a) (h1 : a.card n = 1) : tabOf n l t = List.replicate (prodAt n l) 0 := by
  rw [List.eq_replicate_iff]
  refine ⟨tabOf_len, fun x hx => ?_⟩
  have := tabOf_lt h x hx
  omega
theorem tabOf_var {n : Nat → Nat} {l : List Ty} {k : Nat} {b : Ty} (h : l[k]? = some b) : tabOf n l (.var k) = (List.range (prodAt n l)).map fun c => c / prodAt n (l.take k) % b.card n := by
  refine List.map_congr_left fun c _ => ?_
  show ((envAt n l c).getD k (.two, 0)).2 = _
  rw [List.getD_eq_getElem?_getD, envAt_get, h]
  rfl
/-! functions: argument by argument -/
theorem table_snoc (q y : Nat) : ∀ l : List Nat, table q (l ++ [y]) = table q l + y * q ^ l.length
  | [] => by simp [table]
  | x :: l => by
    show x + q * table q (l ++ [y]) = x + q * table q l + y * q ^ (l.length + 1)
    rw [table_snoc q y l, Nat.mul_add, Nat.pow_succ, Nat.mul_left_comm q y, Nat.mul_comm q (q ^ l.length)]
    omega
/-- the table of a function, so far -/
def lamTo (n : Nat → Nat) (l : List Ty) (b : Ty) (t : Tm) (q a : Nat) : List Nat := (List.range (prodAt n l)).map fun c => table q ((List.range a).map fun x => t.val n ((b, x) :: envAt n l c))
theorem lamTo_zero {n : Nat → Nat} {l : List Ty} {b : Ty} {t : Tm} {q : Nat} : lamTo n l b t q 0 = List.replicate (prodAt n l) 0 := by
  rw [List.eq_replicate_iff]
  refine ⟨by simp [lamTo], fun x hx => ?_⟩
  obtain ⟨c, _, rfl⟩ := List.mem_map.mp hx
  rfl
theorem lamTo_succ {n : Nat → Nat} {l : List Ty} {b : Ty} {t : Tm} {q a c : Nat} : table q ((List.range (a + 1)).map fun x => t.val n ((b, x) :: envAt n l c)) = table q ((List.range a).map fun x => t.val n ((b, x) :: envAt n l c)) + t.val n ((b, a) :: envAt n l c) * q ^ a := by
  rw [List.range_succ, List.map_append, List.map_cons, List.map_nil, table_snoc, List.length_map, List.length_range]
theorem lamTo_all {n : Nat → Nat} {l : List Ty} {b d : Ty} {t : Tm} {i : Nat} (h : typed (b :: l) i t = .ok d) : lamTo n l b t (d.card n) (b.card n) = tabOf n l (.lam b t) := by
  refine List.map_congr_left fun c _ => ?_
  show _ = table ((tyOf ((b, 0) :: envAt n l c) t).card n) _
  rw [ty_of (i := i) (a := d) (by rw [List.map_cons, envAt_types]; exact h)]
/-- the body's table at one argument -/
theorem body_at {n : Nat → Nat} {l : List Ty} {b : Ty} {t : Tm} {a : Nat} (h : a < b.card n) (c : Nat) : t.val n (envAt n (b :: l) (a + b.card n * c)) = t.val n ((b, a) :: envAt n l c) := by rw [envAt_cons h]
/-! weights -/
theorem tyOf_env {l l' : List (Ty × Nat)} (e : l.map (fun x => x.1) = l'.map (fun x => x.1)) (t : Tm) : tyOf l t = tyOf l' t := by unfold tyOf; rw [e]
/-- a part without weight means the same whatever stands around -/
theorem val_closed {n : Nat → Nat} (t : Tm) : ∀ (l l' : List (Ty × Nat)), l.map (fun x => x.1) = l'.map (fun x => x.1) → t.work n = 0 → t.val n l = t.val n l' := by
  induction t with
  | var k => intro l l' _ h; simp [Tm.work] at h
  | yes => intro l l' _ h; rfl
  | no => intro l l' _ h; rfl
  | pair t s iht ihs =>
    intro l l' e h
    rw [Tm.work] at h
    rw [Tm.val, Tm.val, iht l l' e (by omega), ihs l l' e (by omega), tyOf_env e s]
  | first t iht => intro l l' e h; rw [Tm.work] at h; rw [Tm.val, Tm.val, iht l l' e h, tyOf_env e t]
  | second t iht => intro l l' e h; rw [Tm.work] at h; rw [Tm.val, Tm.val, iht l l' e h, tyOf_env e t]
  | left b t iht => intro l l' e h; rw [Tm.work] at h; rw [Tm.val, Tm.val, iht l l' e h]
  | right b t iht => intro l l' e h; rw [Tm.work] at h; rw [Tm.val, Tm.val, iht l l' e h]
  | cases t u v iht ihu ihv =>
    intro l l' e h
    rw [Tm.work] at h
    rw [Tm.val, Tm.val, iht l l' e (by omega), ihu l l' e (by omega), ihv l l' e (by omega), tyOf_env e t, tyOf_env e u]
  | lam b t iht =>
    intro l l' e h
    rw [Tm.work] at h
    have e0 : ∀ x, ((b, x) :: l).map (fun x => x.1) = ((b, x) :: l').map (fun x => x.1) := fun x => by simp [e]
    rw [Tm.val, Tm.val, tyOf_env (e0 0) t]
    congr 1
    refine List.map_congr_left fun x hx => ?_
    have hx' := List.mem_range.mp hx
    rcases Nat.mul_eq_zero.mp h with h0 | h0
    · omega
    · exact iht _ _ (e0 x) h0
  | app t s iht ihs =>
    intro l l' e h
    rw [Tm.work] at h
    rw [Tm.val, Tm.val, iht l l' e (by omega), ihs l l' e (by omega), tyOf_env e t]
  | if_ c t u ihc iht ihu =>
    intro l l' e h
    rw [Tm.work] at h
    rw [Tm.val, Tm.val, ihc l l' e (by omega), iht l l' e (by omega), ihu l l' e (by omega)]
/-- the choices around a part times its weight: no more than the whole's -/
theorem around_work {n : Nat → Nat} (t : Tm) : ∀ (l : List Ty) (p : List Ty × Tm), p ∈ nodesE l t → prodAt n p.1 * p.2.work n ≤ prodAt n l * t.work n := by
  have up : ∀ {a b c d : Nat}, a ≤ b * c → c ≤ d → a ≤ b * d := fun h1 h2 => Nat.le_trans h1 (Nat.mul_le_mul_left _ h2)
  induction t with
  | var k => intro l p hp; rw [List.mem_singleton.mp hp]; exact Nat.le_refl _
  | yes => intro l p hp; rw [List.mem_singleton.mp hp]; exact Nat.le_refl _
  | no => intro l p hp; rw [List.mem_singleton.mp hp]; exact Nat.le_refl _
  | pair t s iht ihs =>
    intro l p hp
    rcases List.mem_cons.mp hp with e | e
    · rw [e]; exact Nat.le_refl _
    · rw [Tm.work]
      rcases List.mem_append.mp e with e | e
      · exact up (iht l p e) (by omega)
      · exact up (ihs l p e) (by omega)
  | first t iht =>
    intro l p hp
    rcases List.mem_cons.mp hp with e | e
    · rw [e]; exact Nat.le_refl _
    · rw [Tm.work]; exact iht l p e
  | second t iht =>
    intro l p hp
    rcases List.mem_cons.mp hp with e | e
    · rw [e]; exact Nat.le_refl _
    · rw [Tm.work]; exact iht l p e
  | left b t iht =>
    intro l p hp
    rcases List.mem_cons.mp hp with e | e
    · rw [e]; exact Nat.le_refl _
    · rw [Tm.work]; exact iht l p e
  | right b t iht =>
    intro l p hp
    rcases List.mem_cons.mp hp with e | e
    · rw [e]; exact Nat.le_refl _
    · rw [Tm.work]; exact iht l p e
  | cases t u v iht ihu ihv =>
    intro l p hp
    rcases List.mem_cons.mp hp with e | e
    · rw [e]; exact Nat.le_refl _
    · rw [Tm.work]
      rcases List.mem_append.mp e with e | e
      · exact up (iht l p e) (by omega)
      · rcases List.mem_append.mp e with e | e
        · exact up (ihu l p e) (by omega)
        · exact up (ihv l p e) (by omega)
  | lam b t iht =>
    intro l p hp
    rcases List.mem_cons.mp hp with e | e
    · rw [e]; exact Nat.le_refl _
    · have := iht (b :: l) p e
      rw [prodAt, Nat.mul_comm (b.card n), Nat.mul_assoc] at this
      rw [Tm.work]; exact this
  | app t s iht ihs =>
    intro l p hp
    rcases List.mem_cons.mp hp with e | e
    · rw [e]; exact Nat.le_refl _
    · rw [Tm.work]
      rcases List.mem_append.mp e with e | e
      · exact up (iht l p e) (by omega)
      · exact up (ihs l p e) (by omega)
  | if_ t u v iht ihu ihv =>
    intro l p hp
    rcases List.mem_cons.mp hp with e | e
    · rw [e]; exact Nat.le_refl _
    · rw [Tm.work]
      rcases List.mem_append.mp e with e | e
      · exact up (iht l p e) (by omega)
      · rcases List.mem_append.mp e with e | e
        · exact up (ihu l p e) (by omega)
        · exact up (ihv l p e) (by omega)
theorem around_le {n : Nat → Nat} {t : Tm} {p : List Ty × Tm} {m : Nat} (h : p ∈ nodesE [] t) (hw : t.work n ≤ m) (h0 : p.2.work n ≠ 0) : prodAt n p.1 ≤ m := by
  have h1 := around_work (n := n) t [] p h
  rw [prodAt, Nat.one_mul] at h1
  have h2 : prodAt n p.1 * 1 ≤ prodAt n p.1 * p.2.work n := Nat.mul_le_mul_left _ (by omega)
  omega
end FC
/-! Tables over any family of environments of the same types. Plain Lean alone. -/
namespace FC
open Pa05
/-- m environments, each of the types l, each within them -/
def EnOk (n : Nat → Nat) (l : List Ty) (m : Nat) (en : Nat → List (Ty × Nat)) : Prop := ∀ c, c < m → (en c).map (fun x => x.1) = l ∧ EnvLt n (en c)
theorem envAt_ok {n : Nat → Nat} (l : List Ty) : EnOk n l (prodAt n l) (envAt n l) := fun c hc => ⟨envAt_types l c, envAt_lt l c hc⟩
def tabE (n : Nat → Nat) (m : Nat) (en : Nat → List (Ty × Nat)) (t : Tm) : List Nat := (List.range m).map fun c => t.val n (en c)
theorem tabE_envAt {n : Nat → Nat} {l : List Ty} {t : Tm} : tabE n (prodAt n l) (envAt n l) t = tabOf n l t := rfl
theorem tabE_len {n : Nat → Nat} {m : Nat} {en : Nat → List (Ty × Nat)} {t : Tm} : (tabE n m en t).length = m := by simp [tabE]
theorem tabE_get {n : Nat → Nat} {m : Nat} {en : Nat → List (Ty × Nat)} {t : Tm} {c : Nat} (h : c < m) : (tabE n m en t)[c]? = some (t.val n (en c)) := by simp [tabE, h]
theorem en_val_lt {n : Nat → Nat} {l : List Ty} {m : Nat} {en : Nat → List (Ty × Nat)} {t : Tm} {i c : Nat} {a : Ty} (hE : EnOk n l m en) (h : typed l i t = .ok a) (hc : c < m) : t.val n (en c) < a.card n :=
  val_lt t _ i a (by rw [(hE c hc).1]; exact h) (hE c hc).2
theorem tabE_lt {n : Nat → Nat} {l : List Ty} {m : Nat} {en : Nat → List (Ty × Nat)} {t : Tm} {i : Nat} {a : Ty} (hE : EnOk n l m en) (h : typed l i t = .ok a) : ∀ x ∈ tabE n m en t, x < a.card n := by
  intro x hx
  obtain ⟨c, hc, rfl⟩ := List.mem_map.mp hx
  exact en_val_lt hE h (List.mem_range.mp hc)
theorem tabE_one {n : Nat → Nat} {l : List Ty} {m : Nat} {en : Nat → List (Ty × Nat)} {t : Tm} {i : Nat} {a : Ty} (hE : EnOk n l m en) (h : typed l i t = .ok a) (h1 : a.card n = 1) : tabE n m en t = List.replicate m 0 := by
  rw [List.eq_replicate_iff]
  refine ⟨tabE_len, fun x hx => ?_⟩
  have := tabE_lt hE h x hx
  omega
theorem tabE_const {n : Nat → Nat} {m : Nat} {en : Nat → List (Ty × Nat)} {t : Tm} {v : Nat} (h : ∀ c, c < m → t.val n (en c) = v) : tabE n m en t = List.replicate m v := by
  rw [List.eq_replicate_iff]
  refine ⟨tabE_len, fun x hx => ?_⟩
  obtain ⟨c, hc, rfl⟩ := List.mem_map.mp hx
  exact h c (List.mem_range.mp hc)
/-- within a function: its argument changes fastest -/
def inE (n : Nat → Nat) (b : Ty) (en : Nat → List (Ty × Nat)) : Nat → List (Ty × Nat) := fun c => (b, c % b.card n) :: en (c / b.card n)
theorem inE_envAt {n : Nat → Nat} {b : Ty} {l : List Ty} : inE n b (envAt n l) = envAt n (b :: l) := rfl
theorem inE_ok {n : Nat → Nat} {b : Ty} {l : List Ty} {m : Nat} {en : Nat → List (Ty × Nat)} (hE : EnOk n l m en) : EnOk n (b :: l) (m * b.card n) (inE n b en) := by
  intro c hc
  have hb : 0 < b.card n := by
    rcases Nat.eq_zero_or_pos (b.card n) with h0 | h0
    · rw [h0, Nat.mul_zero] at hc; omega
    · exact h0
  obtain ⟨h1, h2⟩ := hE (c / b.card n) (Nat.div_lt_of_lt_mul (by rw [Nat.mul_comm]; exact hc))
  refine ⟨congrArg (b :: ·) h1, fun p hp => ?_⟩
  rcases List.mem_cons.mp hp with e | e
  · rw [e]; exact Nat.mod_lt _ hb
  · exact h2 p e
theorem inE_at {n : Nat → Nat} {b : Ty} {en : Nat → List (Ty × Nat)} {x : Nat} (hx : x < b.card n) (c : Nat) : inE n b en (x + b.card n * c) = (b, x) :: en c := by
  have h1 : (x + b.card n * c) % b.card n = x := by rw [Nat.add_mul_mod_self_left, Nat.mod_eq_of_lt hx]
  have h2 : (x + b.card n * c) / b.card n = c := by rw [Nat.add_mul_div_left _ _ (by omega), Nat.div_eq_of_lt hx, Nat.zero_add]
  unfold inE
  rw [h1, h2]
/-- the table of a function, so far -/
def lamE (n : Nat → Nat) (m : Nat) (en : Nat → List (Ty × Nat)) (b : Ty) (t : Tm) (q a : Nat) : List Nat := (List.range m).map fun c => table q ((List.range a).map fun x => t.val n ((b, x) :: en c))
theorem lamE_len {n : Nat → Nat} {m : Nat} {en : Nat → List (Ty × Nat)} {b : Ty} {t : Tm} {q a : Nat} : (lamE n m en b t q a).length = m := by simp [lamE]
theorem lamE_zero {n : Nat → Nat} {m : Nat} {en : Nat → List (Ty × Nat)} {b : Ty} {t : Tm} {q : Nat} : lamE n m en b t q 0 = List.replicate m 0 := by
  rw [List.eq_replicate_iff]
  refine ⟨lamE_len, fun x hx => ?_⟩
  obtain ⟨c, _, rfl⟩ := List.mem_map.mp hx
  rfl
theorem lamE_succ {n : Nat → Nat} {en : Nat → List (Ty × Nat)} {b : Ty} {t : Tm} {q a c : Nat} : table q ((List.range (a + 1)).map fun x => t.val n ((b, x) :: en c)) = table q ((List.range a).map fun x => t.val n ((b, x) :: en c)) + t.val n ((b, a) :: en c) * q ^ a := by
  rw [List.range_succ, List.map_append, List.map_cons, List.map_nil, table_snoc, List.length_map, List.length_range]
theorem lamE_all {n : Nat → Nat} {l : List Ty} {m : Nat} {en : Nat → List (Ty × Nat)} {b d : Ty} {t : Tm} {i : Nat} (hE : EnOk n l m en) (h : typed (b :: l) i t = .ok d) : lamE n m en b t (d.card n) (b.card n) = tabE n m en (.lam b t) := by
  refine List.map_congr_left fun c hc => ?_
  show _ = table ((tyOf ((b, 0) :: en c) t).card n) _
  rw [ty_of (i := i) (a := d) (by rw [List.map_cons, (hE c (List.mem_range.mp hc)).1]; exact h)]
/-- one choice, for parts without weight -/
def en0 (l : List Ty) : Nat → List (Ty × Nat) := fun _ => l.map fun b => (b, 0)
theorem en0_types (l : List Ty) (c : Nat) : (en0 l c).map (fun x => x.1) = l := by
  unfold en0
  rw [List.map_map]
  exact List.map_id' _
theorem en0_ok {n : Nat → Nat} {l : List Ty} (h : ∀ x ∈ l, 1 ≤ x.card n) : EnOk n l 1 (en0 l) := fun c _ => ⟨en0_types l c, fun p hp => by
  obtain ⟨b, hb, rfl⟩ := List.mem_map.mp hp
  exact h b hb⟩
theorem tabE_closed {n : Nat → Nat} {l : List Ty} {m : Nat} {en : Nat → List (Ty × Nat)} {t : Tm} (hE : EnOk n l m en) (h0 : t.work n = 0) : tabE n m en t = List.replicate m (t.val n (en0 l 0)) :=
  tabE_const fun c hc => val_closed t _ _ (by rw [(hE c hc).1, en0_types]) h0
theorem tabE_en0 {n : Nat → Nat} {l : List Ty} {t : Tm} : tabE n 1 (en0 l) t = [t.val n (en0 l 0)] := rfl
theorem work_kid {n : Nat → Nat} {t s : Tm} (h : s ∈ kids t) (hl : ∀ b u, t ≠ .lam b u) : s.work n ≤ t.work n := by
  cases t with
  | lam b u => exact absurd rfl (hl b u)
  | _ => simp [kids] at h <;> (try rcases h with rfl | h) <;> (try rcases h with rfl | h) <;> (try subst h) <;> simp only [Tm.work] <;> omega
end FC
namespace FC
open PySem PySem.Spec PyProof.Rows L2
/-! ### max(xs, default=d) of a list of whole numbers -/
def rMaxD (K : PySem.W.Frag) : List V → List V → Hp → VK → Prop := fun vs zs H Q => ∃ (a : Addr) (ns : List Int) (d : Int), vs = [V.ref a] ∧ zs = [V.int d] ∧ SqL K H a (ns.map V.int) ∧ (ns = [] → Q (.int d) H) ∧ ∀ n0 nr, ns = n0 :: nr → Q (.int (nr.foldl max n0)) H
theorem ints_reads {h : Heap} : ∀ {its : List Value} {ns : List Int}, IntsAre its ns → ReadsAll h its (ns.map PyData.int) []
  | _, _, .nil => .nil
  | _, _, .cons n t r => ReadsAll.cons (as := []) (bs := []) (Reads.int n t) (ints_reads r)
theorem ints_depth : ∀ ns : List Int, PyData.depthAll (ns.map PyData.int) = 0
  | [] => by simp [PyData.depthAll]
  | n :: ns => by simp [PyData.depthAll, PyData.depth, ints_depth ns]
theorem ints_alike (ns : List Int) : PySem.W.AlikeAll (ns.map PyData.int) := by
  refine ⟨fun x hx y hy => ?_, fun x hx => ?_⟩
  · obtain ⟨i, _, rfl⟩ := List.mem_map.mp hx
    obtain ⟨j, _, rfl⟩ := List.mem_map.mp hy
    first | rfl | simp [PySem.W.alike]
  · obtain ⟨i, _, rfl⟩ := List.mem_map.mp hx
    exact fun e => by cases e
theorem cr_maxD {X : Cx} {k : Nat} (hc : X.calm = true) (hr : Room k X.A) : CallRK X (.builtin "max") ["default"] (rMaxD X.K) := by
  intro pins s σ H vs zs us ws Q I r r2 h
  obtain ⟨a, ns, d, rfl, rfl, hs, h0, h1⟩ := h
  obtain ⟨its, rv, hl, _⟩ := I.list hs
  rw [Vals.ref1 r]
  cases r2 with
  | @cons _ u _ us2 ru rn =>
    cases rn
    refine PySem.W.max_list_default (xs := ns.map PyData.int) (I.ok.hd hc) hl.isList (by rw [List.toList_toArray]; exact ints_reads rv.ints) (ints_alike ns) (by rw [ints_depth]; have := hr.units; omega) (fun e h' tk hk => ?_) (fun y ys i v h' tk bs e hv rd hk => ?_)
    · have e' : ns = [] := List.map_eq_nil_iff.mp e
      exact ⟨.int d, H, I.kept hk, ru, h0 e'⟩
    · cases ns with
      | nil => cases e
      | cons n0 nr =>
        have e1 : PyData.int n0 = y := (List.cons.inj e).1
        have e2 : nr.map PyData.int = ys := (List.cons.inj e).2
        subst e1 e2
        rw [PySem.W.maxD_ints] at rd
        cases rd with
        | int _ t => exact ⟨.int _, H, I.kept hk, ⟨_, rfl⟩, h1 n0 nr rfl⟩
end FC
namespace FC
open PySem PySem.Spec PyProof.Rows L2
open Pa05 (Ty typed)
/-! ### the parts measured -/
def WWAt (C : Addr) (H : Hp) : List Addr → List Nat → Prop
  | [], [] => True
  | a :: as, v :: vs => (∃ dx fs, H a = some (.ins C dx fs) ∧ fs.lookup ("weight" : Str) = some (.int (v : Int))) ∧ WWAt C H as vs
  | _, _ => False
theorem WWAt.len {C : Addr} {H : Hp} : ∀ {as : List Addr} {vs : List Nat}, WWAt C H as vs → as.length = vs.length
  | [], [], _ => rfl
  | _ :: _, _ :: _, h => congrArg (· + 1) (WWAt.len h.2)
  | [], _ :: _, h => h.elim
  | _ :: _, [], h => h.elim
theorem WWAt.at {C : Addr} {H : Hp} : ∀ {as : List Addr} {vs : List Nat}, WWAt C H as vs → ∀ {j : Nat} {a : Addr}, as[j]? = some a → ∃ v dx fs, vs[j]? = some v ∧ H a = some (.ins C dx fs) ∧ fs.lookup ("weight" : Str) = some (.int (v : Int))
  | [], [], _, j, x, e => by simp at e
  | _ :: _, v :: _, h, 0, x, e => by
    obtain ⟨⟨dx, fs, h1, h2⟩, _⟩ := h
    exact ⟨v, dx, fs, rfl, by rw [← Option.some.inj e]; exact h1, h2⟩
  | _ :: _, _ :: _, h, j + 1, x, e => WWAt.at h.2 (j := j) e
  | [], _ :: _, h, _, _, _ => h.elim
  | _ :: _, [], h, _, _, _ => h.elim
def WOk (nn : Nat → Nat) (D : Nat → Dyn) (n : Nat) (p : List Ty × Trm) : Prop := (D n).wt = .int ((p.2.work nn : Nat) : Int)
def EOk (nn : Nat → Nat) (D : Nat → Dyn) (n : Nat) (p : List Ty × Trm) : Prop := ∃ x c, typed p.1 0 p.2 = .ok x ∧ Pa05.small 256 nn x = some c ∧ (D n).ext = .int (c : Int)
theorem kids_weights {C : Addr} {H : Hp} {G : Addr → Prop} {ls : List Addr} {D : Nat → Dyn} {nn : Nat → Nat} {l : List Ty} : ∀ {ts : List Trm} {n : Nat} {as : List Addr}, AllAt (PartAt C H G ls D) n (ts.flatMap nodes) → AllAt (WOk nn D) n (ts.flatMap (nodesE l)) → KidsAt ls (nos n ts) as → WWAt C H as (ts.map (Pa05.Tm.work nn))
  | [], n, as, _, _, h3 => by
    cases as with
    | nil => trivial
    | cons a as => exact h3.elim
  | t :: ts, n, as, h1, h2, h3 => by
    cases as with
    | nil => exact h3.elim
    | cons a as =>
      have h3' : ls[n]? = some a ∧ KidsAt ls (nos (n + t.size) ts) as := h3
      rw [List.flatMap_cons, AllAt.app, nodes_len] at h1
      rw [List.flatMap_cons, AllAt.app, nodesE_len] at h2
      have p := h1.1
      rw [nodes_eq, AllAt.cons] at p
      obtain ⟨a', dx, pl, tv, as', p1, p2, _⟩ := p.1
      rw [h3'.1] at p1
      cases p1
      have o := h2.1
      rw [nodesE_eq, AllAt.cons] at o
      have o1 : (D n).wt = .int ((t.work nn : Nat) : Int) := o.1
      exact ⟨⟨dx, _, p2, ptF_weight.trans (congrArg some o1)⟩, kids_weights h1.2 h2.2 h3'.2⟩
/-- a fact of all parts by their numbers, with what is around them, and without -/
theorem at_snd {l : List Ty} {t : Trm} {k : Nat} {p : List Ty × Trm} (h : (nodesE l t)[k]? = some p) : (nodes t)[k]? = some p.2 := by
  rw [← nodesE_snd t l, List.getElem?_map, h]
  rfl
def withE (D : Dyn) (v : V) : Dyn := ⟨D.kind, v, D.wt⟩
def setE (D : Nat → Dyn) (n : Nat) (v : V) : Nat → Dyn := fun m => if m = n then withE (D n) v else D m
theorem setE_same {D : Nat → Dyn} {n : Nat} {v : V} : setE D n v n = withE (D n) v := if_pos rfl
theorem setE_ne {D : Nat → Dyn} {n m : Nat} {v : V} (h : m ≠ n) : setE D n v m = D m := if_neg h
def withW (D : Dyn) (v : V) : Dyn := ⟨D.kind, D.ext, v⟩
def setW (D : Nat → Dyn) (n : Nat) (v : V) : Nat → Dyn := fun m => if m = n then withW (D n) v else D m
theorem setW_same {D : Nat → Dyn} {n : Nat} {v : V} : setW D n v n = withW (D n) v := if_pos rfl
theorem setW_ne {D : Nat → Dyn} {n m : Nat} {v : V} (h : m ≠ n) : setW D n v m = D m := if_neg h
/-- one part is given something: all parts, by what was known of them -/
theorem TermAt.give {C : Addr} {H : Hp} {G : Addr → Prop} {ls : List Addr} {D D' : Nat → Dyn} {t : Trm} {m : Nat} {a dx pl : Addr} {tv : V} {as : List Addr} {s : Trm} (tm : TermAt C H G ls D 0 t) (nd : ls.Nodup) (hs : (nodes t)[m]? = some s) (h1 : ls[m]? = some a) (h2 : H a = some (.ins C dx (ptF (hd s) m tv pl (D m)))) (h3 : G pl) (h4 : H pl = some (.lst (as.map V.ref))) (h5 : KidsAt ls (nos (m + 1) (kids s)) as) (h6 : ToldAt H (toldOf s) tv) (hD : ∀ k, k ≠ m → D' k = D k) :
    TermAt C (upd H a (.ins C dx (ptF (hd s) m tv pl (D' m)))) G ls D' 0 t ∧ PFr ls m (m + 1) H (upd H a (.ins C dx (ptF (hd s) m tv pl (D' m)))) ∧ Ins C H ls m (m + 1) := by
  have f : PFr ls m (m + 1) H (upd H a (.ins C dx (ptF (hd s) m tv pl (D' m)))) := fun b o e h => by
    have hb : b ≠ a := fun z => h m (Nat.le_refl _) (by omega) (by rw [z]; exact h1)
    rw [upd_ne hb]
    exact e
  have i : Ins C H ls m (m + 1) := fun k b g1 g2 e => by
    have : k = m := by omega
    subst this
    rw [h1] at e
    cases e
    exact ⟨_, _, h2⟩
  refine ⟨fun k u hu => ?_, f, i⟩
  rw [Nat.zero_add]
  by_cases c : k = m
  · subst c
    rw [hs] at hu
    cases hu
    exact ⟨a, dx, pl, tv, as, h1, upd_same, h3, f.keep i h4 (fun _ _ q => by cases q), h5, h6.mono (f.tups i)⟩
  · have := tm k u hu
    rw [Nat.zero_add] at this
    exact this.fr f i nd (by omega) (hD k c)
section
variable {P : Program} {w : World} {K : PySem.W.Frag} {mg : Str → Option Value} {base : Heap}
def sp_found_weight (T : Txt K mg) : Sp := fun vs H Q E => ∃ (a z dx pl : Addr) (tv : V) (D : Dyn) (as : List Addr) (n : Nat) (t : Trm) (sz : List Nat), vs = [.ref a, .ref z] ∧ H a = some (.ins T.C_Part dx (ptF (hd t) n tv pl D)) ∧ H pl = some (.lst (as.map V.ref)) ∧ ToldAt H (toldOf t) tv ∧ WWAt T.C_Part H as ((kids t).map (Pa05.Tm.work (numOf sz))) ∧ SqL K H z (nats sz) ∧
  (∀ x, toldOf t = .ty x → TyOk sz.length x ∧ dp x ≤ 6) ∧ (∀ b u, t = .lam b u → (Pa05.small 256 (numOf sz) b).isSome = true) ∧ ∀ H', Same H H' → Q (.int ((t.work (numOf sz) : Nat) : Int)) H'
theorem ok_found_weight (T : Txt K mg) : FnOk P w K mg base (L2.CX P w) 30 T.f_found_weight T.fd_found_weight ["part", "set_sizes"] (sp_found_weight T) := by
  refine T.F_found_weight.okX sc_found_weight (fun vs H Q E h => ?_) (fun cdv A outer s H vs Q E hr h => ⟨_, (pss_cons (ps_if (pt_cmpR op_eq (pe_fld (pv 0) rfl) (pe_cst rfl T.g_FUNCTION_TERM) (nomark _))
      (pss_one (ps_ret (pe_op op_mul (pe_call (ok_kind_size T 6) (hr.mono (by decide)) rfl T.g_kind_size T.k_kind_size T.b_kind_size .nil (passes_call (takes_of rfl rfl rfl rfl) (fun _ _ _ _ h => h)) (pa_cons (pe_fld (pv 0) rfl) (pa_cons (pv 1) (pa_cons (pe_cst rfl T.g_LARGEST) pa_nil)))) (pe_fld (pe_ix ix_list (pe_fld (pv 0) rfl) pe_int (fun _ _ => rfl)) rfl))))
      pss_nil)
    (pss_one (ps_ret (pe_callBK (cr_maxD rfl hr) rfl T.n_max (by decide +kernel) (pa_cons (pe_lc (own := [("own", 2)]) (by rfl) sc_found_weight.nd (pi_list (pe_fld (pv 0) rfl)) (blkOk_by (own := [("own", 2)]) (N := ["part", "set_sizes", "own"]) (sc := defScope s_found_weight) (by decide +kernel)) (fun _ _ _ _ _ => (pg_name (i := 2) sc_found_weight.nd rfl (Or.inl rfl))) (fun _ _ _ _ _ => pts_nil) (fun _ _ _ _ _ => (pe_fldK (K := K) rfl (pv 2) rfl))) pa_nil) (pk_cons pe_int pk_nil))))), ?_⟩)
  · obtain ⟨a, z, dx, pl, tv, D, as, n, t, sz, rfl, _⟩ := h
    rfl
  · obtain ⟨a, z, dx, pl, tv, D, as, n, t, sz, rfl, ha, hpl, ht, ww, hz, htok, hsm, k⟩ := h
    refine ⟨_, rfl, a, _, dx, _, _, rfl, ha, T.cl_Part, T.n_Part_head, ptF_head, rfl, _, rfl, ?_⟩
    by_cases c : ∃ b u, t = .lam b u
    · obtain ⟨b, u, rfl⟩ := c
      refine if_true_of rfl ?_
      obtain ⟨qt, rfl, kt⟩ := ht
      obtain ⟨o1, o2⟩ := htok b rfl
      obtain ⟨cc, ec⟩ := Option.isSome_iff_exists.mp (hsm b u rfl)
      have lc := small_le _ _ _ _ ec
      have cd := small_card _ _ _ _ ec
      have hl := ww.len
      obtain ⟨k1, rfl⟩ : ∃ k1, as = [k1] := List.length_eq_one_iff.mp hl
      obtain ⟨⟨dx1, fs1, g1, g2⟩, _⟩ := ww
      refine ⟨_, rfl, a, _, dx, _, _, rfl, ha, T.cl_Part, T.n_Part_told, ptF_told, _, rfl, qt, z, b, sz, 256, rfl, kt, hz, o1, o2, by decide, (fun e => by rw [ec] at e; cases e), (fun x e => ?_)⟩
      rw [ec] at e
      cases e
      refine ⟨_, rfl, a, _, dx, _, _, rfl, ha, T.cl_Part, T.n_Part_parts, ptF_parts, pl, _, _, .ref k1, rfl, rfl, SqL.of hpl, atI_nat (j := 0) rfl, k1, _, dx1, _, _, rfl, g1, T.cl_Part, T.n_Part_weight, g2, _, _, rfl, rfl, .inl ⟨by omega, by omega⟩, ?_⟩
      have := k H (Same.refl H)
      rw [work_lam, cd, Int.natCast_mul] at this
      exact this
    · refine if_false_of ?_ ?_
      · have : hd t ≠ 7 := by
          cases t with
          | lam b u => exact absurd ⟨b, u, rfl⟩ c
          | _ => simp [hd]
        exact decide_eq_false (fun q => this (by injection q with q; omega))
      · have hl := ww.len
        rw [List.length_map] at hl
        have l3 : (kids t).length ≤ 3 := by
          rw [kids_len]
          exact cnt_le _
        generalize ews : (kids t).map (Pa05.Tm.work (numOf sz)) = ws at ww
        have lws : ws.length = (kids t).length := by rw [← ews, List.length_map]
        refine ⟨_, rfl, a, _, dx, _, _, rfl, ha, T.cl_Part, T.n_Part_parts, ptF_parts, pl, rfl, ⟨_, SqL.of hpl⟩, fun B hB => ?_⟩
        refine lc_list (K := K) (a := pl) (xs := as.map V.ref) (fun j Hd => Same H Hd ∧ Hd B = some (.lst (nats (ws.take j)))) ⟨Same.new hB, upd_same⟩ ?_ ?_ ?_
        · rintro j Hd _ ⟨s1, _⟩
          exact SqL.of (s1 _ _ hpl)
        · rintro j v Hd hv ⟨s1, c1⟩
          rw [List.getElem?_map] at hv
          obtain ⟨b, hb, rfl⟩ : ∃ b, as[j]? = some b ∧ v = .ref b := by
            cases e : as[j]? with
            | none => rw [e] at hv; cases hv
            | some y => rw [e] at hv; exact ⟨y, rfl, (Option.some.inj hv).symm⟩
          obtain ⟨wv, dx1, fs1, hw, hb1, hb2⟩ := ww.at hb
          refine ⟨rfl, ?_⟩
          refine ⟨_, rfl, b, _, dx1, _, _, rfl, s1 _ _ hb1, T.cl_Part, T.n_Part_weight, hb2, _, c1, ?_, ?_, ?_⟩
          · rw [nats_length, List.length_take]
            exact small1000 (by omega)
          · intro c o e
            rw [upd_ne (ne_of_none e hB)]
            exact s1 c o e
          · rw [upd_same, List.take_add_one, hw]
            exact congrArg (fun q => some (HO.lst q)) (nats_snoc (ws.take j) wv).symm
        · rintro Hd ⟨s1, c1⟩
          rw [List.length_map, hl, ← lws, List.take_length] at c1
          have ew : t.work (numOf sz) = best ws := by rw [← ews]; exact work_other _ t (fun b u e => c ⟨b, u, e⟩)
          have kk := k Hd s1
          rw [ew] at kk
          refine ⟨B, ws.map fun (n : Nat) => (n : Int), 1, rfl, rfl, (by rw [← nats_map]; exact SqL.of c1), (fun e => ?_), (fun n0 nr e => ?_)⟩
          · have : ws = [] := List.map_eq_nil_iff.mp e
            rw [this] at kk
            exact kk
          · cases ws with
            | nil => cases e
            | cons w0 wr =>
              cases e
              rw [fold_best]
              exact kk
end
end FC
namespace FC
open PySem PySem.Spec PyProof.Rows L2
open Pa05 (Ty typed)
theorem KOk.kind {H H' : Hp} {D D' : Nat → Dyn} {n : Nat} {p : List Ty × Trm} (x : KOk H D n p) (t : Tups H H') (hD : (D' n).kind = (D n).kind) : KOk H' D' n p := by
  obtain ⟨q, y, h1, h2, h3⟩ := x
  exact ⟨q, y, by rw [hD]; exact h1, h2.mono t, h3⟩
theorem AllAt.snd {P : Nat → Trm → Prop} {b : Nat} {L : List (List Ty × Trm)} (h : AllAt (fun k p => P k p.2) b L) : AllAt P b (L.map Prod.snd) := fun k s e => by
  rw [List.getElem?_map] at e
  cases q : L[k]? with
  | none => rw [q] at e; cases e
  | some p =>
    rw [q] at e
    cases e
    exact h k p q
theorem flat_snd (l : List Ty) (ts : List Trm) : (ts.flatMap (nodesE l)).map Prod.snd = ts.flatMap nodes := by
  rw [List.map_flatMap]
  congr 1
  funext t
  exact nodesE_snd t l
theorem node_ok {k : Nat} {t : Trm} (ht : TmOk k t) {p : List Ty × Trm} (hp : p ∈ nodesE [] t) {x : Ty} (h : typed p.1 0 p.2 = .ok x) (hd : tdp t ≤ 20) : TyOk k x ∧ dp x ≤ 26 := by
  obtain ⟨h1, h2⟩ := mem_inside t [] p hp
  have env : EnvOk k p.1 := fun y hy => by
    rcases env_inside t [] p hp y hy with q | ⟨s, q1, q2⟩
    · cases q
    · exact ht s q1 y q2
  have sub : TmOk k p.2 := by
    -- the parts of a part are parts
    obtain ⟨m, hm⟩ := List.getElem?_of_mem hp
    intro u hu a ha
    obtain ⟨i, hi⟩ := List.getElem?_of_mem hu
    have hi' : ∃ q, (nodesE p.1 p.2)[i]? = some q ∧ q.2 = u := by
      rw [← nodesE_snd p.2 p.1, List.getElem?_map] at hi
      cases e : (nodesE p.1 p.2)[i]? with
      | none => rw [e] at hi; cases hi
      | some q => rw [e] at hi; exact ⟨q, rfl, Option.some.inj hi⟩
    obtain ⟨q, hq, rfl⟩ := hi'
    have := blk t.size t (Nat.le_refl _) [] m p.1 p.2 hm i q hq
    exact ht q.2 (mem_inside t [] q (List.mem_of_getElem? this)).1 a ha
  obtain ⟨o1, o2⟩ := typed_dp p.2 p.1 0 x h env sub
  exact ⟨o1, by omega⟩
section
variable {P : Program} {w : World} {K : PySem.W.Frag} {mg : Str → Option Value} {base : Heap}
def sp_measure_parts (T : Txt K mg) : Sp := fun vs H Q E => ∃ (fo z : Addr) (ls : List Addr) (D : Nat → Dyn) (t : Trm) (G : Addr → Prop) (sz : List Nat), vs = [.ref fo, .ref z] ∧ H fo = some (.lst (ls.map V.ref)) ∧ ls.length = t.size ∧ ls.Nodup ∧ TermAt T.C_Part H G ls D 0 t ∧ AllAt (KOk H D) 0 (nodesE [] t) ∧ H z = some (.lst (nats sz)) ∧ TmOk sz.length t ∧ tdp t ≤ 20 ∧
  (¬ (Pa05.held 256 (numOf sz) [] t = true ∧ t.work (numOf sz) ≤ 65536) → ∀ H', PFr ls 0 t.size H H' → E (.ref T.C_TooLarge) none H') ∧
  ((Pa05.held 256 (numOf sz) [] t = true ∧ t.work (numOf sz) ≤ 65536) → ∀ (H' : Hp) (D' : Nat → Dyn), PFr ls 0 t.size H H' → TermAt T.C_Part H' G ls D' 0 t → AllAt (KOk H' D') 0 (nodesE [] t) → AllAt (EOk (numOf sz) D') 0 (nodesE [] t) → AllAt (WOk (numOf sz) D') 0 (nodesE [] t) → (∀ m, (D' m).kind = (D m).kind) → Q .non H')
theorem ok_measure_parts (T : Txt K mg) : FnOk P w K mg base (L2.CX P w) 40 T.f_measure_parts T.fd_measure_parts ["parts", "set_sizes"] (sp_measure_parts T) := by
  refine T.F_measure_parts.okX sc_measure_parts (fun vs H Q E h => ?_) (fun cdv A outer s H vs Q E hr h => ⟨_, (pss_cons (ps_for (passes_of rfl) rfl (pi_list (pv 0)) (pg_name (i := 2) sc_measure_parts.nd rfl (Or.inl rfl))
      (pss_one (ps_fld (pv 2) (pe_call (ok_kind_size T 26) (hr.mono (by decide)) rfl T.g_kind_size T.k_kind_size T.b_kind_size .nil (passes_call (takes_of rfl rfl rfl rfl) (fun _ _ _ _ h => h)) (pa_cons (pe_fld (pv 2) rfl) (pa_cons (pv 1) (pa_cons (pe_cst rfl T.g_LARGEST) pa_nil)))) rfl)))
    (pss_cons (ps_for (passes_of rfl) rfl (pi_reversed rfl T.n_reversed (pa_cons (pv 0) pa_nil)) (pg_name (i := 2) sc_measure_parts.nd rfl (Or.inl rfl))
      (pss_one (ps_fld (pv 2) (pe_call (ok_found_weight T) (hr.mono (by decide)) rfl T.g_found_weight T.k_found_weight T.b_found_weight .nil (passes_call (takes_of rfl rfl rfl rfl) (fun _ _ _ _ h => h)) (pa_cons (pv 2) (pa_cons (pv 1) pa_nil))) rfl)))
    (pss_one (ps_if (pt_cmpR op_gt (pe_fld (pe_ix ix_list (pv 0) pe_int (fun _ _ => rfl)) rfl) (pe_cst rfl T.g_HEAVIEST_TERM) (nomark _))
      (pss_one (ps_raise rfl (takes_of rfl rfl rfl rfl) (pmk_own0 PySem.F.excBase_Exception T.x_TooLarge T.g_TooLarge T.k_TooLarge (raises_own T.b_TooLarge T.t_TooLarge) rfl)))
      pss_nil)))), ?_⟩)
  · obtain ⟨fo, z, ls, D, t, G, sz, rfl, _⟩ := h
    rfl
  · obtain ⟨fo, z, ls, D, t, G, sz, rfl, hfo, hlen, nd, tm, kk, hz, tok, hdt, kE, kQ⟩ := h
    have ins0 := tm.ins
    rw [nodes_len, Nat.zero_add] at ins0
    have lenN : (nodesE [] t).length = t.size := nodesE_len [] t
    have nodeAt : ∀ j, j < t.size → ∃ p, (nodesE [] t)[j]? = some p := fun j hj => ⟨(nodesE [] t)[j]'(by omega), List.getElem?_eq_getElem (by omega)⟩
    refine ⟨_, rfl, fo, rfl, ⟨_, SqL.of hfo⟩, ?_⟩
    refine for_list (K := K) (a := fo) (xs := ls.map V.ref) (fun j σ Hc => ∃ (D' : Nat → Dyn) (v2 : Option V), PFr ls 0 t.size H Hc ∧ TermAt T.C_Part Hc G ls D' 0 t ∧ (∀ m, (D' m).kind = (D m).kind) ∧ (∀ m p, m < j → (nodesE [] t)[m]? = some p → EOk (numOf sz) D' m p) ∧ σ = [some (.ref fo), some (.ref z), v2]) ⟨D, none, PFr.refl, tm, fun _ => rfl, (fun m p h => by omega), rfl⟩ ?_ ?_ ?_
    · rintro j σ Hc _ ⟨D', v2, f, _⟩
      exact SqL.of (f.keep ins0 hfo (fun _ _ q => by cases q))
    · rintro j v σ Hc hv ⟨D', v2, f, tm', hk, he, rfl⟩
      rw [List.getElem?_map] at hv
      obtain ⟨b, hb, rfl⟩ : ∃ b, ls[j]? = some b ∧ v = .ref b := by
        cases e : ls[j]? with
        | none => rw [e] at hv; cases hv
        | some y => rw [e] at hv; exact ⟨y, rfl, (Option.some.inj hv).symm⟩
      have hj : j < t.size := by
        have := (List.getElem?_eq_some_iff.mp hb).1
        omega
      obtain ⟨p, hp⟩ := nodeAt j hj
      have hpm := List.mem_of_getElem? hp
      have pa := tm' j p.2 (at_snd hp)
      rw [Nat.zero_add] at pa
      obtain ⟨a', dx, pl, tv, as, e1, e2, e3, e4, e5, e6⟩ := pa
      rw [hb] at e1
      cases e1
      have ko := kk j p hp
      rw [Nat.zero_add] at ko
      obtain ⟨q, x, o1, o2, o3⟩ := ko.kind (D' := D') (f.tups ins0) (hk j)
      obtain ⟨y1, y2⟩ := node_ok tok hpm o3 hdt
      refine ⟨_, rfl, b, _, dx, _, _, rfl, e2, T.cl_Part, T.n_Part_kind, ptF_kind.trans (congrArg some o1), _, rfl, q, z, x, sz, 256, rfl, o2, SqL.of (f.keep ins0 hz (fun _ _ q => by cases q)), y1, y2, by decide, (fun e => ?_), (fun c e => ?_)⟩
      · refine kE (fun g => ?_) Hc f
        have := (held_iff t []).mp g.1 p hpm
        unfold okS at this
        rw [o3] at this
        simp only at this
        rw [e] at this
        cases this
      · refine ⟨_, rfl, b, _, dx, _, rfl, e2, T.cl_Part, T.n_Part_extent, (by show 7 < 1000; decide), ?_⟩
        have epk : putF "extent" (.int (c : Int)) (ptF (hd p.2) j tv pl (D' j)) = ptF (hd p.2) j tv pl (setE D' j (.int (c : Int)) j) := by
          rw [setE_same]
          exact ptF_put_ext (.int (c : Int))
        rw [epk]
        obtain ⟨tm2, f2, i2⟩ := tm'.give (D' := setE D' j (.int (c : Int))) nd (at_snd hp) hb e2 e3 e4 e5 e6 (fun k hk => setE_ne hk)
        refine ⟨setE D' j (.int (c : Int)), _, f.trans (f2.wide (Nat.zero_le _) (by omega)), tm2, (fun m => ?_), (fun m p' hm hp' => ?_), rfl⟩
        · by_cases g : m = j
          · subst g
            rw [setE_same]
            exact hk m
          · rw [setE_ne g]
            exact hk m
        · by_cases g : m = j
          · subst g
            rw [hp] at hp'
            cases hp'
            exact ⟨x, c, o3, e, by rw [setE_same]; rfl⟩
          · obtain ⟨x', c', q1, q2, q3⟩ := he m p' (by omega) hp'
            exact ⟨x', c', q1, q2, by rw [setE_ne g]; exact q3⟩
    · rintro σ Hc ⟨D1, v2, f1, tm1, hk1, he1, rfl⟩
      rw [List.length_map, hlen] at he1
      have ext1 : ∀ m p, (nodesE [] t)[m]? = some p → EOk (numOf sz) D1 m p := fun m p hp => he1 m p (by have := (List.getElem?_eq_some_iff.mp hp).1; omega) hp
      have helds : Pa05.held 256 (numOf sz) [] t = true := by
        rw [held_iff]
        intro p hp
        obtain ⟨m, hm⟩ := List.getElem?_of_mem hp
        obtain ⟨x, c, q1, q2, _⟩ := ext1 m p hm
        unfold okS
        rw [q1]
        simp only
        rw [q2]
        rfl
      have hfo1 := f1.keep ins0 hfo (fun _ _ q => by cases q)
      refine ⟨_, rfl, fo, _, rfl, SqL.of hfo1, ?_⟩
      refine for_it (walk_rev (xs := ls.map V.ref)) (fun i σ Hd => ∃ (D' : Nat → Dyn) (v2 : Option V), PFr ls 0 t.size H Hd ∧ TermAt T.C_Part Hd G ls D' 0 t ∧ (∀ m, (D' m).kind = (D m).kind) ∧ (∀ m p, (nodesE [] t)[m]? = some p → EOk (numOf sz) D' m p) ∧ (∀ m p, t.size - i ≤ m → (nodesE [] t)[m]? = some p → WOk (numOf sz) D' m p) ∧ σ = [some (.ref fo), some (.ref z), v2]) ⟨D1, v2, f1, tm1, hk1, ext1, (fun m p h hp => by have := (List.getElem?_eq_some_iff.mp hp).1; omega), rfl⟩ ?_ ?_ ?_
      · rintro i σ Hd _ ⟨D', v2, f, _⟩
        exact SqL.of (f.keep ins0 hfo (fun _ _ q => by cases q))
      · rintro i v σ Hd Hd' hi ⟨D', v2, f, tm', hk, he, hw, rfl⟩ ⟨rfl, hv⟩
        rw [List.length_map] at hi hv
        rw [List.getElem?_map] at hv
        obtain ⟨b, hb, rfl⟩ : ∃ b, ls[ls.length - 1 - i]? = some b ∧ v = .ref b := by
          cases e : ls[ls.length - 1 - i]? with
          | none => rw [e] at hv; cases hv
          | some y => rw [e] at hv; exact ⟨y, rfl, (Option.some.inj hv).symm⟩
        generalize em : ls.length - 1 - i = m at hb
        have hm : m < t.size := by omega
        obtain ⟨p, hp⟩ := nodeAt m hm
        have hpm := List.mem_of_getElem? hp
        have pa := tm' m p.2 (at_snd hp)
        rw [Nat.zero_add] at pa
        obtain ⟨a', dx, pl, tv, as, e1, e2, e3, e4, e5, e6⟩ := pa
        rw [hb] at e1
        cases e1
        have parts1 : AllAt (PartAt T.C_Part Hd' G ls D') (m + 1) ((kids p.2).flatMap nodes) := by
          have := blk_kids (P := fun k p => PartAt T.C_Part Hd' G ls D' k p.2) hp (fun k p' _ hp' => by
            have := tm' k p'.2 (at_snd hp')
            rw [Nat.zero_add] at this
            exact this)
          have := AllAt.snd this
          rw [flat_snd] at this
          exact this
        have wts := blk_kids (P := WOk (numOf sz) D') hp (fun k p' hk' hp' => hw k p' (by omega) hp')
        have ww := kids_weights parts1 wts e5
        have told6 : ∀ x, toldOf p.2 = .ty x → TyOk sz.length x ∧ dp x ≤ 6 := fun x hx => tok p.2 (mem_inside t [] p hpm).1 x hx
        have smal : ∀ b u, p.2 = .lam b u → (Pa05.small 256 (numOf sz) b).isSome = true := fun b u hbu => by
          obtain ⟨x, c, q1, q2, _⟩ := he m p hp
          rw [hbu] at q1
          rw [typed] at q1
          cases e : typed (b :: p.1) (0 + 1) u with
          | error g => rw [e] at q1; cases q1
          | ok y =>
            rw [e] at q1
            cases q1
            exact small_fn_arg (b := y) (by rw [q2]; rfl)
        refine ⟨_, rfl, _, rfl, b, z, dx, pl, tv, D' m, as, m, p.2, sz, rfl, e2, e4, e6, ww, SqL.of (f.keep ins0 hz (fun _ _ q => by cases q)), told6, smal, fun He s2 => ?_⟩
        refine ⟨_, rfl, b, _, dx, _, rfl, s2 _ _ e2, T.cl_Part, T.n_Part_weight, (by show 7 < 1000; decide), ?_⟩
        have tm2 : TermAt T.C_Part He G ls D' 0 t := AllAt.imp tm' fun q u _ x => x.fr (lo := 0) (hi := 0) (Same.pfr s2) (fun m b h1 h2 => absurd h2 (by omega)) nd (.inr (by omega)) rfl
        have epk : putF "weight" (.int ((p.2.work (numOf sz) : Nat) : Int)) (ptF (hd p.2) m tv pl (D' m)) = ptF (hd p.2) m tv pl (setW D' m (.int ((p.2.work (numOf sz) : Nat) : Int)) m) := by
          rw [setW_same]
          exact ptF_put_wt _
        rw [epk]
        obtain ⟨tm3, f3, i3⟩ := tm2.give (D' := setW D' m (.int ((p.2.work (numOf sz) : Nat) : Int))) nd (at_snd hp) hb (s2 _ _ e2) e3 (s2 _ _ e4) e5 (e6.mono (Same.tups s2)) (fun k hk => setW_ne hk)
        refine ⟨setW D' m (.int ((p.2.work (numOf sz) : Nat) : Int)), _, (f.trans (Same.pfr s2)).trans (f3.wide (Nat.zero_le _) (by omega)), tm3, (fun k => ?_), (fun k p' hp' => ?_), (fun k p' hk' hp' => ?_), rfl⟩
        · by_cases g : k = m
          · subst g
            rw [setW_same]
            exact hk k
          · rw [setW_ne g]
            exact hk k
        · obtain ⟨x', c', q1, q2, q3⟩ := he k p' hp'
          refine ⟨x', c', q1, q2, ?_⟩
          by_cases g : k = m
          · subst g
            rw [setW_same]
            exact q3
          · rw [setW_ne g]
            exact q3
        · by_cases g : k = m
          · subst g
            rw [hp] at hp'
            cases hp'
            show (setW D' k _ k).wt = _
            rw [setW_same]
            rfl
          · show (setW D' m _ k).wt = _
            rw [setW_ne g]
            exact hw k p' (by omega) hp'
      · rintro σ Hd ⟨D2, v2, f, tm', hk, he, hw, rfl⟩
        rw [List.length_map, hlen, Nat.sub_self] at hw
        have tpos : 0 < t.size := by
          have := size_eq t
          omega
        obtain ⟨a0, ha0⟩ : ∃ a0, ls[0]? = some a0 := ⟨ls[0]'(by omega), List.getElem?_eq_getElem (by omega)⟩
        have p0 : (nodesE [] t)[0]? = some ([], t) := by rw [nodesE_eq]; rfl
        have pa := tm' 0 t (at_snd p0)
        rw [Nat.zero_add] at pa
        obtain ⟨a', dx, pl, tv, as, e1, e2, e3, e4, e5, e6⟩ := pa
        rw [ha0] at e1
        cases e1
        have w0 : (D2 0).wt = .int ((t.work (numOf sz) : Nat) : Int) := hw 0 _ (Nat.zero_le _) p0
        refine ⟨_, rfl, fo, _, _, .ref a0, rfl, rfl, SqL.of (f.keep ins0 hfo (fun _ _ q => by cases q)), atI_nat (j := 0) (by rw [List.getElem?_map, ha0]; rfl), a0, _, dx, _, _, rfl, e2, T.cl_Part, T.n_Part_weight, ptF_weight.trans (congrArg some w0), _, _, rfl, rfl, _, rfl, ?_⟩
        by_cases g : t.work (numOf sz) ≤ 65536
        · refine if_false_of (decide_eq_false (by omega)) ?_
          refine kQ ⟨helds, g⟩ Hd D2 f tm' (AllAt.imp kk fun q u _ x => x.kind (f.tups ins0) (hk _)) ?_ ?_ hk
          · intro m p hp
            rw [Nat.zero_add]
            exact he m p hp
          · intro m p hp
            rw [Nat.zero_add]
            exact hw m p (Nat.zero_le _) hp
        · exact if_true_of (decide_eq_true (by omega)) (kE (fun q => g q.2) Hd f)
end
end FC
namespace FC
open PySem PySem.Spec PyProof.Rows L2
open Pa05 (Ty typed)
def prodL (l : List Nat) : Nat := l.foldl (· * ·) 1
theorem prodL_snoc (l : List Nat) (x : Nat) : prodL (l ++ [x]) = prodL l * x := by simp [prodL, List.foldl_append]
theorem prodL_rev {n : Nat → Nat} : ∀ l : List Ty, prodL ((l.map (Ty.card n)).reverse) = prodAt n l
  | [] => rfl
  | b :: l => by rw [List.map_cons, List.reverse_cons, prodL_snoc, prodL_rev l, prodAt, Nat.mul_comm]
section
variable {P : Program} {w : World} {K : PySem.W.Frag} {mg : Str → Option Value} {base : Heap}
def sp_choices (T : Txt K mg) : Sp := fun vs H Q _ => ∃ (a : Addr) (sz : List Nat), vs = [.ref a] ∧ SqL K H a (nats sz) ∧ (∀ x ∈ sz, x < 1073741824) ∧ ∀ H', Same H H' → Q (.int ((prodL sz : Nat) : Int)) H'
theorem ok_choices (T : Txt K mg) : FnOk P w K mg base CX0 1 T.f_choices T.fd_choices ["around"] (sp_choices T) := by
  refine T.F_choices.ok sc_choices (fun vs H Q E h => ?_) (fun cdv A outer s H vs Q E hr h => ⟨_, (pss_cons (ps_set (i := 1) sc_choices.nd rfl (Or.inl rfl) pe_int)
    (pss_cons (ps_for PassesOwn.never rfl (pi_list (pv 0)) (pg_name (i := 2) sc_choices.nd rfl (Or.inl rfl))
      (pss_one (ps_set (i := 1) sc_choices.nd rfl (Or.inl rfl) (pe_op op_mul (pv 1) (pv 2)))))
    (pss_one (ps_ret (pv 1))))), ?_⟩)
  · obtain ⟨a, sz, rfl, _⟩ := h
    rfl
  · obtain ⟨a, sz, rfl, hs, b1, k⟩ := h
    refine ⟨_, rfl, a, rfl, ⟨_, hs⟩, ?_⟩
    refine for_list (xs := nats sz) (fun i σ H' => Same H H' ∧ ∃ v : Option V, σ = [some (.ref a), some (.int ((prodL (sz.take i) : Nat) : Int)), v]) ⟨Same.refl H, none, rfl⟩ ?_ ?_ ?_
    · rintro i σ H' _ ⟨sm, _⟩
      exact sm.seq hs
    · rintro i x σ H' hx ⟨sm, v, rfl⟩
      obtain ⟨p, hp', rfl⟩ := nats_get hx
      have e1 : sz.take (i + 1) = sz.take i ++ [p] := by rw [List.take_add_one, hp']; rfl
      have h1 := b1 p (List.mem_of_getElem? hp')
      refine ⟨_, rfl, _, rfl, _, _, rfl, rfl, .inr ⟨by omega, by omega⟩, sm, some (.int (p : Int)), ?_⟩
      rw [e1, prodL_snoc, Int.natCast_mul]
      rfl
    · rintro σ H' ⟨sm, v, rfl⟩
      rw [nats_length, List.take_length]
      exact ⟨_, rfl, k H' sm⟩
def powsTo (q i : Nat) : List Nat := (List.range i).map fun j => q ^ j
theorem powsTo_succ (q i : Nat) : powsTo q (i + 1) = powsTo q i ++ [q ^ i] := by simp [powsTo, List.range_succ]
def sp_powers_of (T : Txt K mg) : Sp := fun vs H Q _ => ∃ (q c : Nat), vs = [.int (q : Int), .int (c : Int)] ∧ c ≤ 256 ∧ q ≤ 256 ∧ ∀ H' p, Same H H' → H p = none → H' p = some (.lst (nats (powsTo q c))) → Q (.ref p) H'
theorem ok_powers_of (T : Txt K mg) : FnOk P w K mg base CX0 1 T.f_powers_of T.fd_powers_of ["base", "count"] (sp_powers_of T) := by
  refine T.F_powers_of.ok sc_powers_of (fun vs H Q E h => ?_) (fun cdv A outer s H vs Q E hr h => ⟨_, (pss_cons (ps_set (i := 2) sc_powers_of.nd rfl (Or.inl rfl) (pe_lst pa_nil))
    (pss_cons (ps_set (i := 3) sc_powers_of.nd rfl (Or.inl rfl) pe_int)
    (pss_cons (ps_for PassesOwn.never rfl (pi_range1 rfl T.n_range (pa_cons (pv 1) pa_nil)) (pg_name (i := 4) sc_powers_of.nd rfl (Or.inl rfl))
      (pss_cons (ps_expr (pe_bm PySem.F.plainAttrs_list PySem.F.slot_list_append PySem.F.type_list_append mt_append (pv 2) (pa_cons (pv 3) pa_nil)))
      (pss_one (ps_set (i := 3) sc_powers_of.nd rfl (Or.inl rfl) (pe_op op_mul (pv 3) (pv 0))))))
    (pss_one (ps_ret (pv 2)))))), ?_⟩)
  · obtain ⟨q, c, rfl, _⟩ := h
    rfl
  · obtain ⟨q, c, rfl, hc, hq, k⟩ := h
    refine ⟨by decide, fun R hR => ?_⟩
    refine ⟨_, rfl, (c : Int), rfl, by omega, by omega, ?_⟩
    rw [show ((c : Int)).toNat = c from Int.toNat_natCast c]
    refine for_range (lo := 0) (n := c) (fun i σ Hc => Same H Hc ∧ Hc R = some (.lst (nats (powsTo q i))) ∧ ∃ v : Option V, σ = [some (.int (q : Int)), some (.int (c : Int)), some (.ref R), some (.int ((q ^ i : Nat) : Int)), v]) ⟨Same.new hR, upd_same, none, rfl⟩ ?_ ?_
    · rintro i σ Hc hi ⟨s1, c1, v, rfl⟩
      refine ⟨_, rfl, .inl ⟨rfl, _, SqL.of c1⟩, _, rfl, R, _, _, rfl, rfl, c1, (by rw [nats_length]; simp only [powsTo, List.length_map, List.length_range]; exact small1000 (by omega)), ?_⟩
      refine ⟨_, rfl, _, rfl, _, _, rfl, rfl, .inr ⟨by omega, by omega⟩, ?_, ?_, some (.int (0 + (i : Int))), ?_⟩
      · intro b u e
        rw [upd_ne (ne_of_none e hR)]
        exact s1 b u e
      · rw [upd_same, powsTo_succ, nats_app]
        rfl
      · rw [Nat.pow_succ, Int.natCast_mul]
        rfl
    · rintro σ Hc ⟨s1, c1, v, rfl⟩
      exact ⟨_, rfl, k Hc R s1 hR c1⟩
end
end FC
namespace FC
open PySem PySem.Spec PyProof.Rows L2
open Pa05 (Ty Tm typed)
/-- the sizes around, the innermost last -/
def szs (n : Nat → Nat) (l : List Ty) : List Nat := (l.map (Ty.card n)).reverse
theorem szs_len (n : Nat → Nat) (l : List Ty) : (szs n l).length = l.length := by simp [szs]
theorem szs_cons (n : Nat → Nat) (b : Ty) (l : List Ty) : szs n (b :: l) = szs n l ++ [b.card n] := by simp [szs]
theorem szs_get {n : Nat → Nat} {l : List Ty} {k : Nat} {b : Ty} (h : l[k]? = some b) : (szs n l)[l.length - 1 - k]? = some (b.card n) := by
  have hk : k < l.length := (List.getElem?_eq_some_iff.mp h).1
  unfold szs
  rw [List.getElem?_reverse (by rw [List.length_map]; omega), List.length_map, show l.length - 1 - (l.length - 1 - k) = k by omega, List.getElem?_map, h]
  rfl
theorem szs_drop {n : Nat → Nat} {l : List Ty} {k : Nat} (hk : k ≤ l.length) : (szs n l).drop (l.length - k) = szs n (l.take k) := by
  unfold szs
  rw [List.drop_reverse, List.length_map, show l.length - (l.length - k) = k by omega, List.map_take]
theorem prodAt_split {n : Nat → Nat} : ∀ (l : List Ty) (k : Nat), prodAt n l = prodAt n (l.take k) * prodAt n (l.drop k)
  | [], k => by simp [prodAt]
  | b :: l, 0 => by simp [prodAt]
  | b :: l, k + 1 => by rw [List.take_succ_cons, List.drop_succ_cons, prodAt, prodAt, prodAt_split l k, Nat.mul_assoc]
theorem pos_of_prod {a b : Nat} (h : 0 < a * b) : 0 < a ∧ 0 < b := ⟨Nat.pos_of_mul_pos_right h, Nat.pos_of_mul_pos_left h⟩
theorem prodAt_take {n : Nat → Nat} {l : List Ty} (k : Nat) (h : 0 < prodAt n l) : 0 < prodAt n (l.take k) ∧ prodAt n (l.take k) ≤ prodAt n l := by
  have e := prodAt_split (n := n) l k
  rw [e] at h
  obtain ⟨h1, h2⟩ := pos_of_prod h
  refine ⟨h1, ?_⟩
  rw [e]
  exact Nat.le_mul_of_pos_right _ h2
theorem prodAt_card {n : Nat → Nat} : ∀ {l : List Ty} {b : Ty}, 0 < prodAt n l → b ∈ l → 0 < b.card n
  | c :: l, b, h, hb => by
    obtain ⟨h1, h2⟩ := pos_of_prod h
    rcases List.mem_cons.mp hb with rfl | q
    · exact h1
    · exact prodAt_card h2 q
theorem cut_from {n : Nat → Nat} {l : List Ty} {k : Nat} (hk : k < l.length) {i : Int} (hi : i = ((l.length - k : Nat) : Int)) : cutV (nats (szs n l)) (some i) none = nats (szs n (l.take k)) := by
  subst hi
  unfold cutV
  rw [HT.sIx_nat, HT.sIx_none, nats_length, szs_len, Nat.min_eq_left (by omega), List.take_of_length_le (by rw [List.length_drop, nats_length, szs_len]; omega), ← szs_drop (Nat.le_of_lt hk)]
  unfold nats
  rw [List.map_drop]
theorem small65537 {m : Nat} (h : m ≤ 65537) : m < sizeLine := by
  have : sizeLine = 16777216 := sizeLine_eq
  omega
theorem same_none {H H1 : Hp} {D : Addr} (s : Same H H1) (h : H1 D = none) : H D = none := by
  cases e : H D with
  | none => rfl
  | some o =>
    have := s D o e
    rw [h] at this
    cases this
theorem same_put {H H1 : Hp} {D : Addr} {o : HO} (s : Same H H1) (h : H D = none) : Same H (upd H1 D o) := fun b u e => by
  rw [upd_ne (ne_of_none e h)]
  exact s b u e
theorem nats_take {l : List Nat} {i x : Nat} (h : l[i]? = some x) : nats (l.take i) ++ [V.int (x : Int)] = nats (l.take (i + 1)) := by
  rw [List.take_add_one, h, nats_app]
  rfl
section
variable {P : Program} {w : World} {K : PySem.W.Frag} {mg : Str → Option Value} {base : Heap}
def sp_variable_table (T : Txt K mg) : Sp := fun vs H Q _ => ∃ (k : Nat) (a : Addr) (l : List Ty) (b : Ty) (n : Nat → Nat), vs = [.int (k : Int), .ref a] ∧ SqL K H a (nats (szs n l)) ∧ l[k]? = some b ∧ l.length ≤ 100 ∧ (∀ x ∈ l, x.card n ≤ 256) ∧ prodAt n l ≤ 65536 ∧
  ∀ H' p, Same H H' → H p = none → H' p = some (.lst (nats (tabOf n l (.var k)))) → Q (.ref p) H'
theorem ok_variable_table (T : Txt K mg) : FnOk P w K mg base CX0 2 T.f_variable_table T.fd_variable_table ["told", "around"] (sp_variable_table T) := by
  refine T.F_variable_table.ok sc_variable_table (fun vs H Q E h => ?_) (fun cdv A outer s H vs Q E hr h => ⟨_, (pss_cons (ps_set (i := 2) sc_variable_table.nd rfl (Or.inl rfl) (pe_op op_sub (pe_op op_sub (pe_callB call_len_seq rfl T.n_len (by decide +kernel) (pa_cons (pv 1) pa_nil)) pe_int) (pv 0)))
    (pss_cons (ps_set (i := 3) sc_variable_table.nd rfl (Or.inr rfl) (pe_ix ix_list (pv 1) (pv 2) (fun _ _ => rfl)))
    (pss_cons (ps_set (i := 4) sc_variable_table.nd rfl (Or.inr rfl) (pe_call (ok_choices T) (hr.mono (by decide)) rfl T.g_choices T.k_choices T.b_choices .nil pass0 (pa_cons (pe_slice sl_list (pv 1) (po_some (pe_op op_add (pv 2) pe_int)) po_none) pa_nil)))
    (pss_one (ps_ret (pe_lc (own := [("choice", 5)]) (by rfl) sc_variable_table.nd (pi_range1 rfl T.n_range (pa_cons (pe_call (ok_choices T) (hr.mono (by decide)) rfl T.g_choices T.k_choices T.b_choices .nil pass0 (pa_cons (pv 1) pa_nil)) pa_nil)) (blkOk_by (own := [("choice", 5)]) (N := ["told", "around", "place", "size", "step", "choice"]) (sc := defScope s_variable_table) (by decide +kernel)) (fun _ _ _ _ _ => (pg_name (i := 5) sc_variable_table.nd rfl (Or.inl rfl))) (fun _ _ _ _ _ => pts_nil) (fun _ _ _ _ _ => (pe_op op_modN (pe_op op_fdivN (pv 5) (pv 4)) (pv 3))))))))), ?_⟩)
  · obtain ⟨k, a, l, b, n, rfl, _⟩ := h
    rfl
  · obtain ⟨k, a, l, b, n, rfl, hs, hb, hl, hc, hp, kQ⟩ := h
    have hk : k < l.length := (List.getElem?_eq_some_iff.mp hb).1
    have szsB : ∀ (l' : List Ty), (∀ x ∈ l', x.card n ≤ 256) → ∀ x ∈ szs n l', x < 1073741824 := fun l' h x hx => by
      unfold szs at hx
      rw [List.mem_reverse, List.mem_map] at hx
      obtain ⟨y, hy, rfl⟩ := hx
      have := h y hy
      omega
    have ep : (((nats (szs n l)).length : Nat) : Int) - 1 - (k : Int) = ((l.length - 1 - k : Nat) : Int) := by rw [nats_length, szs_len]; omega
    refine ⟨_, rfl, a, nats (szs n l), rfl, .inl hs, _, _, rfl, rfl, _, rfl, _, _, rfl, rfl, ?_⟩
    dsimp only
    rw [ep]
    have hat : (nats (szs n l))[l.length - 1 - k]? = some (.int ((b.card n : Nat) : Int)) := nats_at (szs_get hb)
    refine ⟨_, rfl, _, rfl, a, _, _, _, rfl, rfl, hs, atI_nat hat, ?_⟩
    refine ⟨_, rfl, _, rfl, _, _, rfl, rfl, _, rfl, a, _, rfl, hs, fun c hcn => ?_⟩
    have s1 : Same H (upd H c (.lst (cutV (nats (szs n l)) (some (((l.length - 1 - k : Nat) : Int) + 1)) none))) := Same.new hcn
    refine ⟨c, szs n (l.take k), rfl, SqL.of (upd_same.trans (congrArg (fun z => some (HO.lst z)) (cut_from hk (by omega)))), szsB _ (fun x hx => hc x (List.mem_of_mem_take hx)), fun H2 s2 => ?_⟩
    have s12 := Same.trans s1 s2
    refine ⟨_, rfl, a, szs n l, rfl, s12.seq hs, szsB l hc, fun H3 s3 => ?_⟩
    have s13 := Same.trans s12 s3
    have ePl : prodL (szs n l) = prodAt n l := prodL_rev l
    have ePk : prodL (szs n (l.take k)) = prodAt n (l.take k) := prodL_rev _
    refine ⟨_, rfl, by omega, by omega, fun D hD => ?_⟩
    have hDH : H D = none := same_none s13 hD
    rw [ePl, Int.toNat_natCast, ePk]
    refine lc_range (lo := 0) (n := prodAt n l) (fun i Hd => Same H3 Hd ∧ Hd D = some (.lst (nats ((tabOf n l (.var k)).take i)))) ⟨Same.new hD, upd_same⟩ ?_ ?_
    · rintro i Hd hi ⟨s4, d4⟩
      obtain ⟨p1, p2⟩ := prodAt_take (n := n) (l := l) k (by omega)
      have p3 := prodAt_card (n := n) (l := l) (b := b) (by omega) (List.mem_of_getElem? hb)
      refine ⟨rfl, _, rfl, _, rfl, _, _, rfl, rfl, ⟨by omega, by omega⟩, _, rfl, _, _, rfl, rfl, (by omega), _, d4, ?_, ?_, ?_⟩
      · rw [nats_length, List.length_take, tabOf_len]
        exact small65537 (by omega)
      · exact same_put s4 hD
      · have e := tabOf_get (n := n) (l := l) (t := .var k) hi
        have e2 : (tabOf n l (.var k))[i]? = some (i / prodAt n (l.take k) % b.card n) := by rw [tabOf_var hb, List.getElem?_map, List.getElem?_range hi]; rfl
        rw [upd_same, ← nats_take e2]
        show some (HO.lst (_ ++ [V.int (Int.fmod (Int.fdiv (0 + (i : Int)) ((prodAt n (l.take k) : Nat) : Int)) ((b.card n : Nat) : Int))])) = _
        rw [Int.zero_add, fdiv_nat, fmod_nat]
    · rintro Hd ⟨s4, d4⟩
      rw [← tabOf_len (t := .var k), List.take_length] at d4
      exact kQ Hd D (Same.trans s13 s4) hDH d4
end
end FC
namespace FC
open PySem PySem.Spec PyProof.Rows L2
theorem pg_tupK {X : Cx} {K : PySem.W.Frag} {pos : Pos} {es : List Expr} {k : Nat} {t : TGs} {n : Nat} (h : X.K = K) (hc : X.calm = true) (hg : PGs X es t)
    (hn : (assignEach es X.env).length = n := by rfl) (hst : (assignEach es X.env).findIdx? (·.1) = none := by rfl) : PG X (.Tuple es k pos) (gTup K n t) := by
  subst h
  exact pg_tup hc hg hn hst
section
variable {P : Program} {w : World} {K : PySem.W.Frag} {mg : Str → Option Value} {base : Heap}
def sp_put_table (T : Txt K mg) : Sp := fun vs H Q _ => ∃ (a b : Addr) (fs xs : List Nat) (g t : Nat), vs = [.ref a, .ref b, .int (g : Int), .int (t : Int)] ∧ SqL K H a (nats fs) ∧ SqL K H b (nats xs) ∧ fs.length ≤ 65536 ∧ xs.length = fs.length ∧ (∀ x ∈ xs, x < t) ∧ t ≤ 256 ∧ g ≤ 256 ∧ (fs ≠ [] → 0 < g ∧ g ^ t ≤ 256) ∧
  ∀ H' p, Same H H' → H p = none → H' p = some (.lst (nats (List.zipWith (Pa05.at_ g) fs xs))) → Q (.ref p) H'
theorem ok_put_table (T : Txt K mg) : FnOk P w K mg base CX0 2 T.f_put_table T.fd_put_table ["functions", "arguments", "given", "taken"] (sp_put_table T) := by
  refine T.F_put_table.ok sc_put_table (fun vs H Q E h => ?_) (fun cdv A outer s H vs Q E hr h => ⟨_, (pss_cons (ps_set (i := 4) sc_put_table.nd rfl (Or.inr rfl) (pe_call (ok_powers_of T) (hr.mono (by decide)) rfl T.g_powers_of T.k_powers_of T.b_powers_of .nil pass0 (pa_cons (pv 2) (pa_cons (pv 3) pa_nil))))
    (pss_one (ps_ret (pe_lc (own := [("function", 5), ("argument", 6)]) (by rfl) sc_put_table.nd (pi_zip rfl T.n_zip (pa_cons (pv 0) (pa_cons (pv 1) pa_nil))) (blkOk_by (own := [("function", 5), ("argument", 6)]) (N := ["functions", "arguments", "given", "taken", "powers", "function", "argument"]) (sc := defScope s_put_table) (by decide +kernel)) (fun _ _ _ _ _ => (pg_tupK (K := K) (n := 2) rfl rfl (pgs_cons (pg_name (i := 5) sc_put_table.nd rfl (Or.inl rfl)) (pgs_cons (pg_name (i := 6) sc_put_table.nd rfl (Or.inl rfl)) pgs_nil)))) (fun _ _ _ _ _ => pts_nil) (fun _ _ _ _ _ => (pe_op op_modN (pe_op op_fdivN (pv 5) (pe_ix (ix_listK (K := K) rfl) (pv 4) (pv 6) (fun _ _ => rfl))) (pv 2))))))), ?_⟩)
  · obtain ⟨a, b, fs, xs, g, t, rfl, _⟩ := h
    rfl
  · obtain ⟨a, b, fs, xs, g, t, rfl, ha, hb, h1, h2, h3, h4, h5, h6, kQ⟩ := h
    refine ⟨_, rfl, _, rfl, g, t, rfl, h4, h5, fun H1 p s1 hp d1 => ?_⟩
    refine ⟨_, rfl, _, rfl, a, b, nats fs, nats xs, rfl, s1.seq ha, s1.seq hb, fun D hD => ?_⟩
    refine lc_it (walk_zip (xs := nats fs) (ys := nats xs) rfl) (fun i Hd => Same H1 Hd ∧ Hd D = some (.lst (nats ((List.zipWith (Pa05.at_ g) fs xs).take i)))) ⟨Same.new hD, upd_same⟩ ?_ ?_ ?_
    · rintro i Hd _ ⟨s2, _⟩
      exact ⟨s2.seq (s1.seq ha), s2.seq (s1.seq hb)⟩
    · rintro i x Hd Hd' hi ⟨s2, d2⟩ ⟨U, fv, xv, rfl, hU, rfl, e1, e2⟩
      obtain ⟨f, hf, rfl⟩ := nats_get e1
      obtain ⟨y, hy, rfl⟩ := nats_get e2
      obtain ⟨g1, g2⟩ := h6 (fun q => by rw [q] at hf; simp at hf)
      have hyt := h3 y (List.mem_of_getElem? hy)
      have hpw : (powsTo g t)[y]? = some (g ^ y) := by unfold powsTo; rw [List.getElem?_map, List.getElem?_range hyt]; rfl
      have hpl : g ^ y ≤ 256 := Nat.le_trans (Nat.pow_le_pow_right g1 (Nat.le_of_lt hyt)) g2
      have hpp : 0 < g ^ y := Nat.pow_pos g1
      have s3 : Same Hd (upd Hd U (.tup [.int (f : Int), .int (y : Int)])) := Same.new hU
      have s23 := Same.trans s2 s3
      have d3 := s3 _ _ d2
      refine ⟨U, _, rfl, SqT.of upd_same, rfl, _, _, rfl, _, _, rfl, rfl, rfl, ?_⟩
      refine ⟨_, rfl, _, rfl, _, rfl, p, _, _, _, rfl, rfl, SqL.of (s23 _ _ d1), atI_nat (nats_at hpw), _, _, rfl, rfl, ⟨by omega, by omega⟩, _, rfl, _, _, rfl, rfl, (by omega), _, d3, ?_, ?_, ?_⟩
      · rw [nats_length, List.length_take, List.length_zipWith]
        exact small65537 (by omega)
      · exact same_put s23 hD
      · have e : (List.zipWith (Pa05.at_ g) fs xs)[i]? = some (Pa05.at_ g f y) := by rw [List.getElem?_zipWith, hf, hy]
        rw [upd_same, ← nats_take e]
        show some (HO.lst (_ ++ [V.int (Int.fmod (Int.fdiv (f : Int) ((g ^ y : Nat) : Int)) (g : Int))])) = _
        rw [fdiv_nat, fmod_nat]
        rfl
    · rintro Hd ⟨s2, d2⟩
      rw [List.take_of_length_le (by rw [List.length_zipWith, nats_length, nats_length]; exact Nat.le_refl _)] at d2
      exact kQ Hd D (Same.trans s1 s2) (same_none s1 hD) d2
end
end FC
namespace FC
open PySem PySem.Spec PyProof.Rows L2
/-! ### zip of three lists -/
namespace Z3
abbrev IsTri (h : Heap) (T : Addr) (a b c : Value) : Prop := h.get? T = some { cls := .type "tuple", data := .seq #[a, b, c] }
structure Apart3 (z TI TO i1 i2 i3 l1 l2 l3 : Addr) : Prop where
  TIz : TI ≠ z
  TOz : TO ≠ z
  i1z : i1 ≠ z
  i2z : i2 ≠ z
  i3z : i3 ≠ z
  TITO : TI ≠ TO
  TIi1 : TI ≠ i1
  TIi2 : TI ≠ i2
  TIi3 : TI ≠ i3
  TOi1 : TO ≠ i1
  TOi2 : TO ≠ i2
  TOi3 : TO ≠ i3
  i12 : i1 ≠ i2
  i13 : i1 ≠ i3
  i23 : i2 ≠ i3
  l1z : l1 ≠ z
  l2z : l2 ≠ z
  l2i1 : l2 ≠ i1
  l2TO : l2 ≠ TO
  l3z : l3 ≠ z
  l3i1 : l3 ≠ i1
  l3i2 : l3 ≠ i2
  l3TO : l3 ≠ TO
section
variable {prog : Program} {w : World} {A : Around} {E : Value → Shared → Prop} {s : Shared}
theorem upd_tri {T : Addr} {a b c x : Value} {k : Nat} {Q : Unit → Shared → Prop} (hT : IsTri s.heap T a b c)
    (h : ∀ h', h'.get? T = some { cls := .type "tuple", data := .seq ((#[a, b, c] : Array Value).setIfInBounds k x) } → Heap.SameBut T s.heap h' → Q () { s with heap := h' }) :
    wpAny (model prog w) A (updateSeq T (·.setIfInBounds k x)) Q E s := by
  refine wpAny_updateSeq hT rfl (h _ ?_ (Heap.SameBut.update ..))
  rw [Heap.get?_update_self _ hT rfl]
  simp [Obj.mapSeq]
theorem next_item {z TI TO i1 i2 i3 l1 l2 l3 : Addr} {k1 k2 k3 : Nat} {xs ys zs : Array Value} {x y u a b c : Value} {Q : Value → Shared → Prop} (D : Apart3 z TI TO i1 i2 i3 l1 l2 l3)
    (hz : IsZip s.heap z TI TO .none) (hTI : IsTri s.heap TI (.ref i1) (.ref i2) (.ref i3)) (hTO : IsTri s.heap TO a b c)
    (h1 : s.heap.IsListIter i1 l1 k1) (h2 : s.heap.IsListIter i2 l2 k2) (h3 : s.heap.IsListIter i3 l3 k3) (hl1 : s.heap.IsList l1 xs) (hl2 : s.heap.IsList l2 ys) (hl3 : s.heap.IsList l3 zs) (hx : xs[k1]? = some x) (hy : ys[k2]? = some y) (hu : zs[k3]? = some u)
    (hQ : ∀ h', IsZip h' z TI TO (rawInt s.heap.objs.size) → IsTri h' TO x y u → h'.IsListIter i1 l1 (k1 + 1) → h'.IsListIter i2 l2 (k2 + 1) → h'.IsListIter i3 l3 (k3 + 1) → IsTri h' s.heap.objs.size x y u → h'.objs.size = s.heap.objs.size + 1 →
      (∀ c o, c ≠ z → c ≠ TO → c ≠ i1 → c ≠ i2 → c ≠ i3 → s.heap.get? c = some o → h'.get? c = some o) → Q (.ref s.heap.objs.size) { s with heap := h' }) :
    wpAny (model prog w) A (Builtin.«zip.__next__» ⟨[.ref z], []⟩) (fun fin s' => ∃ v, fin = .done (.ret v) ∧ Q v s') E s := by
  show wpAny _ _ (field (.ref z) 2 >>= _) _ _ _
  refine wpAny_bind (wpAny_field hz rfl (x := .bool false) rfl ?_)
  show wpAny _ _ (field (.ref z) 3 >>= _) _ _ _
  refine wpAny_bind (wpAny_field hz rfl (x := .ref TI) rfl ?_)
  refine wpAny_bind (wpAny_seqItems hTI rfl ?_)
  show wpAny _ _ (Builtin.SmallTypes.ownedTupleIsFree (.ref z) >>= _) _ _ _
  refine wpAny_bind ?_
  unfold Builtin.SmallTypes.ownedTupleIsFree
  refine wpAny_bind (wpAny_field hz rfl (x := .none) rfl (wpAny_pure ?_))
  simp only [if_true]
  refine wpAny_bind (wpAny_rule ?_)
  refine wpAny_bind (wpAny_field hz rfl (x := .ref TO) rfl ?_)
  refine wpAny_bind (wpAny_setField_rec hz (by simp) fun h₁ hz₁ hs₁ => ?_)
  replace hz₁ : IsZip h₁ z TI TO .ellipsis := hz₁
  refine wpAny_bind ?_
  simp only [List.zipIdx_cons, List.zipIdx_nil, List.forIn_cons, List.forIn_nil]
  -- the first
  refine wpAny_bind (wpAny_bind (wpAny_onRaise ?_))
  show wpAny _ _ (Builtin.SmallTypes.nextOf (.ref i1) >>= _) _ _ _
  refine wpAny_bind (wpAny_nextOf_list_item (h1.extBut hs₁.extBut D.i1z) (hl1.extBut hs₁.extBut D.l1z) hx fun h₂ h1₂ hs₂ => wpAny_pure ?_)
  have hTO₂ : IsTri h₂ TO a b c := hs₂.extBut _ _ D.TOi1 (hs₁.extBut _ _ D.TOz hTO)
  refine wpAny_bind (wpAny_seqItems hTO₂ rfl ?_)
  refine wpAny_bind (upd_tri hTO₂ fun h₃ hTO₃ hs₃ => ?_)
  replace hTO₃ : IsTri h₃ TO x b c := hTO₃
  refine wpAny_bind (wpAny_letGo (wpAny_pure ?_))
  -- the second
  refine wpAny_bind (wpAny_bind (wpAny_onRaise ?_))
  show wpAny _ _ (Builtin.SmallTypes.nextOf (.ref i2) >>= _) _ _ _
  refine wpAny_bind (wpAny_nextOf_list_item (((h2.extBut hs₁.extBut D.i2z).extBut hs₂.extBut D.i12.symm).extBut hs₃.extBut D.TOi2.symm)
    (((hl2.extBut hs₁.extBut D.l2z).extBut hs₂.extBut D.l2i1).extBut hs₃.extBut D.l2TO) hy fun h₄ h2₄ hs₄ => wpAny_pure ?_)
  have hTO₄ : IsTri h₄ TO x b c := hs₄.extBut _ _ D.TOi2 hTO₃
  refine wpAny_bind (wpAny_seqItems hTO₄ rfl ?_)
  refine wpAny_bind (upd_tri hTO₄ fun h₅ hTO₅ hs₅ => ?_)
  replace hTO₅ : IsTri h₅ TO x y c := hTO₅
  refine wpAny_bind (wpAny_letGo (wpAny_pure ?_))
  -- the third
  refine wpAny_bind (wpAny_bind (wpAny_onRaise ?_))
  show wpAny _ _ (Builtin.SmallTypes.nextOf (.ref i3) >>= _) _ _ _
  refine wpAny_bind (wpAny_nextOf_list_item (((((h3.extBut hs₁.extBut D.i3z).extBut hs₂.extBut D.i13.symm).extBut hs₃.extBut D.TOi3.symm).extBut hs₄.extBut D.i23.symm).extBut hs₅.extBut D.TOi3.symm)
    (((((hl3.extBut hs₁.extBut D.l3z).extBut hs₂.extBut D.l3i1).extBut hs₃.extBut D.l3TO).extBut hs₄.extBut D.l3i2).extBut hs₅.extBut D.l3TO) hu fun h₆ h3₆ hs₆ => wpAny_pure ?_)
  have hTO₆ : IsTri h₆ TO x y c := hs₆.extBut _ _ D.TOi3 hTO₅
  refine wpAny_bind (wpAny_seqItems hTO₆ rfl ?_)
  refine wpAny_bind (upd_tri hTO₆ fun h₇ hTO₇ hs₇ => ?_)
  replace hTO₇ : IsTri h₇ TO x y u := hTO₇
  refine wpAny_bind (wpAny_letGo (wpAny_pure (wpAny_pure ?_)))
  -- the tuple
  refine wpAny_bind (wpAny_seqItems hTO₇ rfl ?_)
  refine wpAny_bind (wpAny_newTuple ?_)
  have hsz : h₇.objs.size = s.heap.objs.size := by rw [hs₇.1, hs₆.1, hs₅.1, hs₄.1, hs₃.1, hs₂.1, hs₁.1]
  have hz₇ : IsZip h₇ z TI TO .ellipsis := hs₇.extBut _ _ D.TOz.symm (hs₆.extBut _ _ D.i3z.symm (hs₅.extBut _ _ D.TOz.symm (hs₄.extBut _ _ D.i2z.symm (hs₃.extBut _ _ D.TOz.symm (hs₂.extBut _ _ D.i1z.symm hz₁)))))
  have hk₇ : ∀ c o, c ≠ z → c ≠ TO → c ≠ i1 → c ≠ i2 → c ≠ i3 → s.heap.get? c = some o → h₇.get? c = some o := fun c o c1 c2 c3 c4 c5 e =>
    hs₇.extBut _ _ c2 (hs₆.extBut _ _ c5 (hs₅.extBut _ _ c2 (hs₄.extBut _ _ c4 (hs₃.extBut _ _ c2 (hs₂.extBut _ _ c3 (hs₁.extBut _ _ c1 e))))))
  have h1₇ : h₇.IsListIter i1 l1 (k1 + 1) := ((((h1₂.extBut hs₃.extBut D.TOi1.symm).extBut hs₄.extBut D.i12).extBut hs₅.extBut D.TOi1.symm).extBut hs₆.extBut D.i13).extBut hs₇.extBut D.TOi1.symm
  have h2₇ : h₇.IsListIter i2 l2 (k2 + 1) := ((h2₄.extBut hs₅.extBut D.TOi2.symm).extBut hs₆.extBut D.i23).extBut hs₇.extBut D.TOi2.symm
  have h3₇ : h₇.IsListIter i3 l3 (k3 + 1) := h3₆.extBut hs₇.extBut D.TOi3.symm
  have hzlt : z < h₇.objs.size := Heap.lt_size hz₇
  show wpAny _ _ (Builtin.SmallTypes.ownedTupleHandOut (.ref z) (.ref h₇.objs.size) >>= _) _ _ _
  refine wpAny_bind ?_
  unfold Builtin.SmallTypes.ownedTupleHandOut
  have hz₈ : IsZip (h₇.push { cls := .type "tuple", data := .seq #[x, y, u] }) z TI TO .ellipsis := Heap.get?_push_of_some _ hz₇
  refine wpAny_bind (wpAny_setField_rec hz₈ (by simp) fun h₉ hz₉ hs₉ => ?_)
  replace hz₉ : IsZip h₉ z TI TO (rawInt h₇.objs.size) := hz₉
  refine wpAny_setField_rec hz₉ (by simp) fun hA hzA hsA => ?_
  replace hzA : IsZip hA z TI TO (rawInt h₇.objs.size) := hzA
  have up : ∀ c o, c ≠ z → h₇.get? c = some o → hA.get? c = some o := fun c o c1 e => hsA.extBut _ _ c1 (hs₉.extBut _ _ c1 (Heap.get?_push_of_some _ e))
  have hTA : IsTri hA h₇.objs.size x y u := hsA.extBut _ _ (Nat.ne_of_gt hzlt) (hs₉.extBut _ _ (Nat.ne_of_gt hzlt) (Heap.get?_push_size _ rfl))
  have hzs : hA.objs.size = h₇.objs.size + 1 := by rw [hsA.1, hs₉.1, Heap.size_push]
  rw [hsz] at hzA hTA hzs
  refine wpAny_pure ⟨_, rfl, ?_⟩
  show Q (.ref h₇.objs.size) _
  rw [hsz]
  exact hQ hA hzA (up _ _ D.TOz hTO₇) (h1₇.at fun o e => up _ o D.i1z e) (h2₇.at fun o e => up _ o D.i2z e) (h3₇.at fun o e => up _ o D.i3z e) hTA hzs fun c o c1 c2 c3 c4 c5 e => up c o c1 (hk₇ c o c1 c2 c3 c4 c5 e)
/-- the end, where the first list is over (the lists are of one length) -/
theorem next_end {z TI TO i1 i2 i3 l1 : Addr} {k1 : Nat} {xs : Array Value} {a b c : Value} {Q : Fin → Shared → Prop} (hh : A.handled = none) (i1z : i1 ≠ z) (l1z : l1 ≠ z)
    (hz : IsZip s.heap z TI TO .none) (hTI : IsTri s.heap TI (.ref i1) (.ref i2) (.ref i3)) (hTO : IsTri s.heap TO a b c)
    (h1 : s.heap.IsListIter i1 l1 k1) (hl1 : s.heap.IsList l1 xs) (hx : xs[k1]? = none)
    (hE : ∀ h' e, (∀ c o, c ≠ z → c ≠ i1 → s.heap.get? c = some o → h'.get? c = some o) → (∃ o, h'.get? e = some o ∧ o.cls = .type "StopIteration") → E (.ref e) { s with heap := h' }) :
    wpAny (model prog w) A (Builtin.«zip.__next__» ⟨[.ref z], []⟩) Q E s := by
  show wpAny _ _ (field (.ref z) 2 >>= _) _ _ _
  refine wpAny_bind (wpAny_field hz rfl (x := .bool false) rfl ?_)
  show wpAny _ _ (field (.ref z) 3 >>= _) _ _ _
  refine wpAny_bind (wpAny_field hz rfl (x := .ref TI) rfl ?_)
  refine wpAny_bind (wpAny_seqItems hTI rfl ?_)
  show wpAny _ _ (Builtin.SmallTypes.ownedTupleIsFree (.ref z) >>= _) _ _ _
  refine wpAny_bind ?_
  unfold Builtin.SmallTypes.ownedTupleIsFree
  refine wpAny_bind (wpAny_field hz rfl (x := .none) rfl (wpAny_pure ?_))
  simp only [if_true]
  refine wpAny_bind (wpAny_rule ?_)
  refine wpAny_bind (wpAny_field hz rfl (x := .ref TO) rfl ?_)
  refine wpAny_bind (wpAny_setField_rec hz (by simp) fun h₁ hz₁ hs₁ => ?_)
  replace hz₁ : IsZip h₁ z TI TO .ellipsis := hz₁
  refine wpAny_bind ?_
  simp only [List.zipIdx_cons, List.zipIdx_nil, List.forIn_cons, List.forIn_nil]
  refine wpAny_bind (wpAny_bind (wpAny_onRaise ?_))
  show wpAny _ _ (Builtin.SmallTypes.nextOf (.ref i1) >>= _) _ _ _
  refine wpAny_bind (wpAny_nextOf_list_end hh (h1.extBut hs₁.extBut i1z) (hl1.extBut hs₁.extBut l1z) hx fun h₂ e hs₂ he => ?_)
  obtain ⟨oe, hoe, hce⟩ := he
  have hz₂ : IsZip h₂ z TI TO .ellipsis := hs₂ _ _ i1z.symm hz₁
  have hez : e ≠ z := fun x => by subst x; rw [hz₂] at hoe; cases hoe; simp at hce
  exact wpAny_setField_rec hz₂ (by simp) fun h₃ _ hs₃ => hE h₃ e (fun c o c1 c3 x => hs₃.extBut _ _ c1 (hs₂ _ _ c3 (hs₁.extBut _ _ c1 x))) ⟨oe, hs₃.extBut _ _ hez hoe, hce⟩
theorem py_item {z TI TO i1 i2 i3 l1 l2 l3 : Addr} {k1 k2 k3 : Nat} {xs ys zs : Array Value} {x y u a b c : Value} {Q : Option Value → Shared → Prop} (D : Apart3 z TI TO i1 i2 i3 l1 l2 l3)
    (hz : IsZip s.heap z TI TO .none) (hTI : IsTri s.heap TI (.ref i1) (.ref i2) (.ref i3)) (hTO : IsTri s.heap TO a b c)
    (h1 : s.heap.IsListIter i1 l1 k1) (h2 : s.heap.IsListIter i2 l2 k2) (h3 : s.heap.IsListIter i3 l3 k3) (hl1 : s.heap.IsList l1 xs) (hl2 : s.heap.IsList l2 ys) (hl3 : s.heap.IsList l3 zs) (hx : xs[k1]? = some x) (hy : ys[k2]? = some y) (hu : zs[k3]? = some u)
    (hQ : ∀ h', IsZip h' z TI TO (rawInt s.heap.objs.size) → IsTri h' TO x y u → h'.IsListIter i1 l1 (k1 + 1) → h'.IsListIter i2 l2 (k2 + 1) → h'.IsListIter i3 l3 (k3 + 1) → IsTri h' s.heap.objs.size x y u → h'.objs.size = s.heap.objs.size + 1 →
      (∀ c o, c ≠ z → c ≠ TO → c ≠ i1 → c ≠ i2 → c ≠ i3 → s.heap.get? c = some o → h'.get? c = some o) → Q (some (.ref s.heap.objs.size)) { s with heap := h' }) :
    wpAny (model prog w) A (pyNext (.ref z)) Q E s := by
  have hT : s.TypeIs (.ref z) "zip" := ⟨_, hz, rfl⟩
  unfold pyNext
  exact wpAny_bind (wpAny_attempt (wpAny_callSpecial?_slot (name := Str.ofString "__next__") hT F.slot_zip_next
    (wpAny_call_entry F.slot_zip_next hT F.entry_zip_next
      (next_item D hz hTI hTO h1 h2 h3 hl1 hl2 hl3 hx hy hu fun h' a1 a2 a3 a4 a5 a6 a7 a8 => wpAny_pure (hQ h' a1 a2 a3 a4 a5 a6 a7 a8)) (F.args_zip_next_1 _))))
theorem py_end {z TI TO i1 i2 i3 l1 : Addr} {k1 : Nat} {xs : Array Value} {a b c : Value} {Q : Option Value → Shared → Prop} (hh : A.handled = none) (i1z : i1 ≠ z) (l1z : l1 ≠ z)
    (hz : IsZip s.heap z TI TO .none) (hTI : IsTri s.heap TI (.ref i1) (.ref i2) (.ref i3)) (hTO : IsTri s.heap TO a b c)
    (h1 : s.heap.IsListIter i1 l1 k1) (hl1 : s.heap.IsList l1 xs) (hx : xs[k1]? = none)
    (hQ : ∀ h', (∀ c o, c ≠ z → c ≠ i1 → s.heap.get? c = some o → h'.get? c = some o) → Q none { s with heap := h' }) : wpAny (model prog w) A (pyNext (.ref z)) Q E s := by
  have hT : s.TypeIs (.ref z) "zip" := ⟨_, hz, rfl⟩
  unfold pyNext
  refine wpAny_bind (wpAny_attempt (wpAny_callSpecial?_slot (name := Str.ofString "__next__") hT F.slot_zip_next
    (wpAny_call_entry F.slot_zip_next hT F.entry_zip_next (next_end hh i1z l1z hz hTI hTO h1 hl1 hx fun h' e hk he => ?_) (F.args_zip_next_1 _))))
  obtain ⟨o, ho, hc⟩ := he
  refine wpAny_bind (wpAny_isInstance (T := "StopIteration") (b := true) ⟨o, ho, hc⟩ isSubtype_stop ?_)
  exact wpAny_pure (hQ _ hk)
end
/-! the making of it -/
theorem typeCall3 (a b c : Value) : checkTypeCall "zip" ⟨[a, b, c], []⟩ = pure () := by kernel_rfl
theorem newCall3 (a b c : Value) : checkBuiltinCall "zip.__new__" ⟨[.type "zip", a, b, c], []⟩ = pure () := by kernel_rfl
theorem init4 (a b c d : Value) : argsOk "object.__init__" ⟨[a, b, c, d], []⟩ := by
  unfold argsOk; rw [signature?_of (id := "object.__init__") (n := ['_', '_', 't', 'i', 'n', 'i', '_', '_']) (o := ['t', 'c', 'e', 'j', 'b', 'o']) (by kernel_rfl) F.owner_object]; kernel_rfl
abbrev H1 (h : Heap) (l1 : Addr) : Heap := h.push { cls := .type "list_iterator", data := .fields #[.ref l1, .int 0 0] }
abbrev H2 (h : Heap) (l1 l2 : Addr) : Heap := (H1 h l1).push { cls := .type "list_iterator", data := .fields #[.ref l2, .int 0 0] }
abbrev H3 (h : Heap) (l1 l2 l3 : Addr) : Heap := (H2 h l1 l2).push { cls := .type "list_iterator", data := .fields #[.ref l3, .int 0 0] }
abbrev H4 (h : Heap) (l1 l2 l3 : Addr) : Heap := (H3 h l1 l2 l3).push { cls := .type "tuple", data := .seq #[.ref h.objs.size, .ref (H1 h l1).objs.size, .ref (H2 h l1 l2).objs.size] }
abbrev H5 (h : Heap) (l1 l2 l3 : Addr) : Heap := (H4 h l1 l2 l3).push { cls := .type "tuple", data := .seq #[.none, .none, .none] }
abbrev H6 (h : Heap) (l1 l2 l3 : Addr) : Heap := (H5 h l1 l2 l3).push { cls := .type "zip", data := .fields #[.none, .bool false, .bool false, .ref (H3 h l1 l2 l3).objs.size, .ref (H4 h l1 l2 l3).objs.size] }
theorem meets3 (l1 l2 l3 : Addr) (xs ys zs : Array Value) :
    Meets (Builtin.«zip.__new__» ⟨[.type "zip", .ref l1, .ref l2, .ref l3], []⟩) (fun _ R s => s.heap.IsList l1 xs ∧ s.heap.IsList l2 ys ∧ s.heap.IsList l3 zs ∧
      R (.ok (.ret (.ref (H5 s.heap l1 l2 l3).objs.size))) { s with heap := H6 s.heap l1 l2 l3 }) :=
  .of_wp fun prog w A R s h => by
    obtain ⟨hp, g, d, tk, os⟩ := s; obtain ⟨hl1, hl2, hl3, h⟩ := h
    have hsub := sub_zip
    have hL1 : Heap.IsList (Shared.heap ⟨hp, g, d, tk, os⟩) l1 xs := hl1
    have hL2 : Heap.IsList (Shared.heap ⟨hp.push { cls := .type "list_iterator", data := .fields #[.ref l1, .int 0 0] }, g, d, tk, os⟩) l2 ys := Heap.IsList.push hl2 _
    have hL3 : Heap.IsList (Shared.heap ⟨(hp.push { cls := .type "list_iterator", data := .fields #[.ref l1, .int 0 0] }).push { cls := .type "list_iterator", data := .fields #[.ref l2, .int 0 0] }, g, d, tk, os⟩) l3 zs := Heap.IsList.push (Heap.IsList.push hl3 _) _
    wp_walk using wpAny_pyIter_list hL1, wpAny_pyIter_list hL2, wpAny_pyIter_list hL3
    exact ⟨_, rfl, h⟩
section
variable {prog : Program} {w : World} {A : Around} {E : Value → Shared → Prop} {s : Shared}
theorem call3 {l1 l2 l3 : Addr} {xs ys zs : Array Value} {Q : Value → Shared → Prop} (hl1 : s.heap.IsList l1 xs) (hl2 : s.heap.IsList l2 ys) (hl3 : s.heap.IsList l3 zs)
    (h : ∀ h', IsZip h' (s.heap.objs.size + 5) (s.heap.objs.size + 3) (s.heap.objs.size + 4) .none → IsTri h' (s.heap.objs.size + 3) (.ref s.heap.objs.size) (.ref (s.heap.objs.size + 1)) (.ref (s.heap.objs.size + 2)) →
      IsTri h' (s.heap.objs.size + 4) .none .none .none → h'.IsListIter s.heap.objs.size l1 0 → h'.IsListIter (s.heap.objs.size + 1) l2 0 → h'.IsListIter (s.heap.objs.size + 2) l3 0 →
      (∀ c o, s.heap.get? c = some o → h'.get? c = some o) → Q (.ref (s.heap.objs.size + 5)) { s with heap := h' }) :
    wpAny (model prog w) A (call (.type "zip") [.ref l1, .ref l2, .ref l3]) Q E s := by
  refine callType_new F.called_zip (by decide) (typeCall3 _ _ _) (newCall3 _ _ _) (fun obj => init4 obj _ _ _) F.entry_zip_new
    (meets3 l1 l2 l3 xs ys zs) ⟨hl1, hl2, hl3, ?_⟩
  have z1 : (H1 s.heap l1).objs.size = s.heap.objs.size + 1 := Heap.size_push ..
  have z2 : (H2 s.heap l1 l2).objs.size = s.heap.objs.size + 2 := by rw [Heap.size_push, z1]
  have z3 : (H3 s.heap l1 l2 l3).objs.size = s.heap.objs.size + 3 := by rw [Heap.size_push, z2]
  have z4 : (H4 s.heap l1 l2 l3).objs.size = s.heap.objs.size + 4 := by rw [Heap.size_push, z3]
  have z5 : (H5 s.heap l1 l2 l3).objs.size = s.heap.objs.size + 5 := by rw [Heap.size_push, z4]
  have up : ∀ {h : Heap} {a : Addr} {o u : Obj}, h.get? a = some o → (h.push u).get? a = some o := fun e => Heap.get?_push_of_some _ e
  have g6 : (H6 s.heap l1 l2 l3).get? (H5 s.heap l1 l2 l3).objs.size = some _ := Heap.get?_push_size _ rfl
  have g5 : (H6 s.heap l1 l2 l3).get? (H4 s.heap l1 l2 l3).objs.size = some _ := up (Heap.get?_push_size _ rfl)
  have g4 : (H6 s.heap l1 l2 l3).get? (H3 s.heap l1 l2 l3).objs.size = some _ := up (up (Heap.get?_push_size _ rfl))
  have g3 : (H6 s.heap l1 l2 l3).get? (H2 s.heap l1 l2).objs.size = some _ := up (up (up (Heap.get?_push_size _ rfl)))
  have g2 : (H6 s.heap l1 l2 l3).get? (H1 s.heap l1).objs.size = some _ := up (up (up (up (Heap.get?_push_size _ rfl))))
  have g1 : (H6 s.heap l1 l2 l3).get? s.heap.objs.size = some _ := up (up (up (up (up (Heap.get?_push_size _ rfl)))))
  show _ ∧ _
  rw [z3, z4, z5] at g6
  rw [z1, z2, z3] at g4
  rw [z4] at g5
  rw [z2] at g3
  rw [z1] at g2
  rw [z5]
  exact ⟨⟨_, g6, rfl⟩, h _ g6 g4 g5 ⟨_, g1, rfl, rfl⟩ ⟨_, g2, rfl, rfl⟩ ⟨_, g3, rfl, rfl⟩ fun c o x => up (up (up (up (up (up x)))))⟩
end
end Z3
end FC
namespace FC
open PySem PySem.Spec PyProof.Rows L2
namespace Z3
/-- the lists at a, b and c as they stand at each turn, the items in new tuples; the end: the first list's -/
def Itz3 (K : PySem.W.Frag) (a b c : Addr) : It :=
  ⟨fun i H => ∃ (xs ys zs : List V) (x y z : V), SqL K H a xs ∧ SqL K H b ys ∧ SqL K H c zs ∧ xs[i]? = some x ∧ ys[i]? = some y ∧ zs[i]? = some z,
    fun i H v H' => ∃ T x y z, v = .ref T ∧ H T = none ∧ H' = upd H T (.tup [x, y, z]) ∧ (∀ xs, SqL K H a xs → xs[i]? = some x) ∧ (∀ ys, SqL K H b ys → ys[i]? = some y) ∧ ∀ zs, SqL K H c zs → zs[i]? = some z,
    fun i H => ∃ xs : List V, SqL K H a xs ∧ xs.length ≤ i⟩
theorem turn_zip3 {P : Program} {w : World} {K : PySem.W.Frag} {elts : List Expr} {kk : Nat} {tpos : Pos} {a b d z TI TO i1 i2 i3 : Addr} (D : Apart3 z TI TO i1 i2 i3 a b d) :
    Turn P w K (.Tuple elts kk tpos) (Itz3 K a b d) [z, TI, TO, i1, i2, i3] z (fun i h => IsZip h z TI TO .none ∧ IsTri h TI (.ref i1) (.ref i2) (.ref i3) ∧ (∃ x y u, IsTri h TO x y u) ∧ h.IsListIter i1 a i ∧ h.IsListIter i2 b i ∧ h.IsListIter i3 d i) where
  mem := by simp
  obj := fun i h st c hc => by
    obtain ⟨hz, hTI, ⟨x, y, u, hTO⟩, ⟨o1, e1, _, d1⟩, ⟨o2, e2, _, d2⟩, ⟨o3, e3, _, d3⟩⟩ := st
    have e' : c = z ∨ c = TI ∨ c = TO ∨ c = i1 ∨ c = i2 ∨ c = i3 := by simpa using hc
    rcases e' with q | q | q | q | q | q
    · rw [q]; exact ⟨_, hz, fun v q => nomatch q⟩
    · rw [q]; exact ⟨_, hTI, fun v q => nomatch q⟩
    · rw [q]; exact ⟨_, hTO, fun v q => nomatch q⟩
    · rw [q]; exact ⟨o1, e1, fun v q => by rw [d1] at q; cases q⟩
    · rw [q]; exact ⟨o2, e2, fun v q => by rw [d2] at q; cases q⟩
    · rw [q]; exact ⟨o3, e3, fun v q => by rw [d3] at q; cases q⟩
  keep := fun i h h' st k => by
    obtain ⟨hz, hTI, ⟨x, y, u, hTO⟩, h1, h2, h3⟩ := st
    exact ⟨k z (by simp) _ hz, k TI (by simp) _ hTI, ⟨x, y, u, k TO (by simp) _ hTO⟩, h1.at fun o q => k i1 (by simp) o q, h2.at fun o q => k i2 (by simp) o q, h3.at fun o q => k i3 (by simp) o q⟩
  item := by
    intro X hP hw hK hc i pins s σ H E I hf st hg
    subst hP hw hK
    obtain ⟨hz, hTI, ⟨x0, y0, u0, hTO⟩, h1, h2, h3⟩ := st
    obtain ⟨xs, ys, zs, x, y, v, hqx, hqy, hqz, hx, hy, hv⟩ := hg
    obtain ⟨its, rv, p, _⟩ := I.list hqx
    obtain ⟨its2, rv2, p2, _⟩ := I.list hqy
    obtain ⟨its3, rv3, p3, _⟩ := I.list hqz
    obtain ⟨u, hu, ru⟩ := rv.get hx
    obtain ⟨u2, hu2, ru2⟩ := rv2.get hy
    obtain ⟨u3, hu3, ru3⟩ := rv3.get hv
    have hzl : z < s.heap.objs.size := Heap.lt_size hz
    refine py_item D hz hTI hTO h1 h2 h3 p.isList p2.isList p3.isList (x := u) (y := u2) (u := u3) (by simpa using hu) (by simpa using hu2) (by simpa using hu3) fun h' z' TO' h1' h2' h3' hT hsz hk => ?_
    refine ⟨_, rfl, wpAny_letOwnedTupleGo_zip (s := { s with heap := h' }) z' fun h'' z'' sb => ?_⟩
    have hT2 : h''.get? s.heap.objs.size = some { cls := .type "tuple", data := .seq #[u, u2, u3] } := (sb.2 _ (Nat.ne_of_gt hzl)).trans hT
    have new : ObjOk X.prog X.w (upd H s.heap.objs.size (.tup [x, y, v])) h'' s.heap.objs.size (.tup [x, y, v]) :=
      ⟨by show 3 ≤ sizeLine; decide, [u, u2, u3], .cons ru (.cons ru2 (.cons ru3 .nil)), ⟨_, hT2, rfl, _, rfl⟩⟩
    have I1 : Inv X pins σ (upd H s.heap.objs.size (.tup [x, y, v])) { s with heap := h'' } :=
      I.turnedNew (t' := s.toks) (ch := [z, TI, TO, i1, i2, i3]) (fun c o hb q => (sb.2 c (fun q' => hb (by simp [q']))).trans (hk c o (fun q' => hb (by simp [q'])) (fun q' => hb (by simp [q'])) (fun q' => hb (by simp [q'])) (fun q' => hb (by simp [q'])) (fun q' => hb (by simp [q'])) q)) hf (Nat.le_refl _) new
    refine ⟨.ref s.heap.objs.size, _, I1, rfl, ⟨_, x, y, v, rfl, I.hok.fresh (Nat.le_refl _), rfl, fun l hl => by rw [I.list_inj hl hqx]; exact hx, fun l hl => by rw [I.list_inj hl hqy]; exact hy, fun l hl => by rw [I.list_inj hl hqz]; exact hv⟩, ⟨z'', ?_, ⟨u, u2, u3, ?_⟩, ?_, ?_, ?_⟩, fun c hcm => ?_⟩
    · exact (sb.2 _ D.TIz).trans (hk _ _ D.TIz D.TITO D.TIi1 D.TIi2 D.TIi3 hTI)
    · exact (sb.2 _ D.TOz).trans TO'
    · exact h1'.at fun o q => (sb.2 _ D.i1z).trans q
    · exact h2'.at fun o q => (sb.2 _ D.i2z).trans q
    · exact h3'.at fun o q => (sb.2 _ D.i3z).trans q
    · have hlt : c < s.heap.objs.size := by
        have e' : c = z ∨ c = TI ∨ c = TO ∨ c = i1 ∨ c = i2 ∨ c = i3 := by simpa using hcm
        rcases e' with q | q | q | q | q | q
        · rw [q]; exact hzl
        · rw [q]; exact Heap.lt_size hTI
        · rw [q]; exact Heap.lt_size hTO
        · rw [q]; obtain ⟨_, e1, _⟩ := h1; exact Heap.lt_size e1
        · rw [q]; obtain ⟨_, e2, _⟩ := h2; exact Heap.lt_size e2
        · rw [q]; obtain ⟨_, e3, _⟩ := h3; exact Heap.lt_size e3
      rw [upd_ne (Nat.ne_of_lt hlt)]
      exact (hf c hcm).1
  done := by
    intro X hP hw hK hc i pins s σ H E I hf st hg
    subst hP hw hK
    obtain ⟨hz, hTI, ⟨x0, y0, u0, hTO⟩, h1, h2, h3⟩ := st
    obtain ⟨xs, hqx, hend⟩ := hg
    obtain ⟨its, rv, p, _⟩ := I.list hqx
    have l1 := rv.length
    have he : its.toArray[i]? = none := by simp; omega
    have hc1 : a ≠ z := fun q => D.l1z q
    exact py_end (I.ok.hd hc) D.i1z hc1 hz hTI hTO h1 p.isList he fun h' hk => ⟨rfl, I.turnedL (t' := s.toks) (ch := [z, TI, TO, i1, i2, i3]) (fun c o hb q =>
      hk c o (fun q' => hb (by simp [q'])) (fun q' => hb (by simp [q'])) q) hf⟩
  self := fun A i s Q E st h => wpAny_pyIter_zip st.1 h
theorem apart_new (n a b c : Nat) (la : a < n) (lb : b < n) (lc : c < n) : Apart3 (n + 5) (n + 3) (n + 4) n (n + 1) (n + 2) a b c := by
  constructor <;> (show (_ : Nat) ≠ _) <;> omega
def iZip3 (K : PySem.W.Frag) (ta : TA) : TI := fun σ H R => ta σ H fun vs H1 => ∃ a b c xs ys zs, vs = [.ref a, .ref b, .ref c] ∧ SqL K H1 a xs ∧ SqL K H1 b ys ∧ SqL K H1 c zs ∧ R (Itz3 K a b c) H1
theorem pi_zip3 {X : Cx} {e e2 e3 : Expr} {ta : TA} {p pos tpos : Pos} {elts : List Expr} {kk : Nat} (hg : Gl X "zip") (hm : X.mg "zip" = none) (ha : PA X [e, e2, e3] ta)
    (hs : starEach [e, e2, e3] X.env = (false, eval e X.env) :: starEach [e2, e3] X.env := by rfl) (hpl : (backTo pos (starEach [e2, e3] X.env)).any (·.1) = false := by rfl) :
    PI X (.Tuple elts kk tpos) (.Call (.Name "zip" p) [e, e2, e3] [] pos) (iZip3 X.K ta) := by
  refine ⟨fun pins s σ H R I h => ?_⟩
  refine Call_ (ld_blt I hg hm PyProof.Rows.boot_zip (PyProof.Rows.callWith_type1 (thn (ha.run pos pins s σ H _ I h) fun us s1 ⟨vs, H1, I1, r1, q1⟩ => ?_) hs hpl))
  obtain ⟨a, b, c, xs, ys, zs, ex, hqx, hqy, hqz, q⟩ := q1
  subst ex
  cases r1 with
  | cons r rr =>
    cases rr with
    | cons r' rr =>
      cases rr with
      | cons r'' rr =>
        cases rr
        cases r
        cases r'
        cases r''
        obtain ⟨its, rv, p1, _⟩ := I1.list hqx
        obtain ⟨its2, rv2, p2, _⟩ := I1.list hqy
        obtain ⟨its3, rv3, p3, _⟩ := I1.list hqz
        have la : a < s1.heap.objs.size := p1.lt
        have lb : b < s1.heap.objs.size := p2.lt
        have lc : c < s1.heap.objs.size := p3.lt
        refine call3 p1.isList p2.isList p3.isList fun h' hz hTI hTO h1 h2 h3 hk => wpAny_pyIter_zip hz ?_
        have I2 : Inv X pins σ H1 { s1 with heap := h' } := I1.kept (t' := s1.toks) hk
        refine ⟨s1.heap.objs.size + 5, [s1.heap.objs.size + 5, s1.heap.objs.size + 3, s1.heap.objs.size + 4, s1.heap.objs.size, s1.heap.objs.size + 1, s1.heap.objs.size + 2], _, _, H1, rfl, I2, turn_zip3 (apart_new s1.heap.objs.size a b c la lb lc), ⟨hz, hTI, ⟨_, _, _, hTO⟩, h1, h2, h3⟩, fun c hcm => ?_, q⟩
        have e' : c = s1.heap.objs.size + 5 ∨ c = s1.heap.objs.size + 3 ∨ c = s1.heap.objs.size + 4 ∨ c = s1.heap.objs.size ∨ c = s1.heap.objs.size + 1 ∨ c = s1.heap.objs.size + 2 := by simpa using hcm
        have hle : s1.heap.objs.size ≤ c := by
          rcases e' with z | z | z | z | z | z <;> rw [z] <;> first | exact Nat.le_add_right _ _ | exact Nat.le_refl _
        exact I1.fpOk hle (I1.hok.fresh hle)
theorem walk_zip3 {K : PySem.W.Frag} {a b c : Addr} {xs ys zs : List V} {n : Nat} (hx : xs.length = n) (hy : ys.length = n) (hz : zs.length = n) :
    Walk (Itz3 K a b c) n (fun H => SqL K H a xs ∧ SqL K H b ys ∧ SqL K H c zs)
      (fun i H v H' => ∃ T x y z, v = .ref T ∧ H T = none ∧ H' = upd H T (.tup [x, y, z]) ∧ xs[i]? = some x ∧ ys[i]? = some y ∧ zs[i]? = some z) := by
  refine ⟨fun i _ hi q => ?_, fun _ q => ⟨xs, q.1, by omega⟩, fun i H v H' _ q y => ?_⟩
  · have h1 : i < xs.length := by omega
    have h2 : i < ys.length := by omega
    have h3 : i < zs.length := by omega
    exact ⟨xs, ys, zs, xs[i], ys[i], zs[i], q.1, q.2.1, q.2.2, by simp [h1], by simp [h2], by simp [h3]⟩
  · obtain ⟨T, x, z, u, h1, h2, h3, h4, h5, h6⟩ := y
    exact ⟨T, x, z, u, h1, h2, h3, h4 xs q.1, h5 ys q.2.1, h6 zs q.2.2⟩
end Z3
end FC
namespace FC
open PySem PySem.Spec PyProof.Rows L2
/-! ### xs[lo:hi:st] of a list -/
namespace Z3
def cutSt (xs : List V) (lo hi st : Option Int) : List V :=
  (sliceRange (sliceBounds lo hi st xs.length).1 (sliceBounds lo hi st xs.length).2.1 (sliceBounds lo hi st xs.length).2.2).filterMap (xs[·]?)
theorem vals_pick {xs : List V} {its : List Value} (r : Vals xs its) : ∀ l : List Nat, Vals (l.filterMap (xs[·]?)) (l.filterMap (its.toArray[·]?)) := by
  intro l
  have hl := r.length
  induction l with
  | nil => exact .nil
  | cons i l ih =>
    rw [List.filterMap_cons, List.filterMap_cons]
    by_cases hi : i < xs.length
    · have hx : xs[i]? = some xs[i] := by simp [hi]
      obtain ⟨u, hu, ru⟩ := r.get hx
      have hu' : its.toArray[i]? = some u := by simpa using hu
      rw [hx, hu']
      exact .cons ru ih
    · have hx : xs[i]? = none := by simp; omega
      have hu' : its.toArray[i]? = none := by simp; omega
      rw [hx, hu']
      exact ih
theorem cutSt_vals {xs : List V} {its : List Value} (r : Vals xs its) (lo hi st : Option Int) : Vals (cutSt xs lo hi st) (slicePick its.toArray lo hi st).toList := by
  have hl := r.length
  unfold cutSt slicePick
  rw [List.size_toArray, ← hl]
  exact vals_pick r _
theorem cutSt_length {xs : List V} {its : List Value} (r : Vals xs its) (lo hi st : Option Int) : (cutSt xs lo hi st).length ≤ xs.length := by
  have h1 := (cutSt_vals r lo hi st).length
  have h2 := slicePick_size_le its.toArray lo hi st
  have h3 := r.length
  simp only [Array.length_toList, List.size_toArray] at h1 h2
  omega
section
variable {X : Cx} {e : Expr} {te : TE} {lo hi : Option Expr} {st : Expr} {tl th ts : TO} {pos p2 : Pos}
def tSt (K : PySem.W.Frag) (te : TE) (tl th ts : TO) : TE := fun σ H Q => te σ H fun x H1 => tl σ H1 fun l H2 => th σ H2 fun u H3 => ts σ H3 fun k H4 =>
  k ≠ some 0 ∧ ∃ a xs, x = .ref a ∧ SqL K H4 a xs ∧ ∀ p, H4 p = none → Q (.ref p) (upd H4 p (.lst (cutSt xs l u k)))
theorem pe_sliceSt (he : PE X e te) (hl : PO X lo tl) (hu : PO X hi th) (hk : PO X (some st) ts) : PE X (.Subscript e (.Slice lo hi (some st) p2) pos) (tSt X.K te tl th ts) := by
  refine ⟨fun pins s σ H Q I h => ?_⟩
  refine Subscript_ (thn (he.run pins s σ H _ I h) fun v s1 ⟨x, H1, I1, r1, q1⟩ => ?_)
  refine wpAny_Slice (thn (hl.run pins s1 σ H1 _ I1 q1) fun vl s2 ⟨l, H2, I2, pl, q2⟩ => thn (hu.run pins s2 σ H2 _ I2 q2) fun vu s3 ⟨u, H3, I3, pu, q3⟩ =>
    thn (hk.run pins s3 σ H3 _ I3 q3) fun vk s4 ⟨k, H4, I4, pk, q4⟩ => ?_)
  obtain ⟨k0, a, xs, ex, hx, q⟩ := q4
  subst ex
  cases r1
  have I5 : Inv X pins σ H4 { s4 with heap := s4.heap.push { cls := .type "slice", data := .fields #[vl, vu, vk] } } := I4.kept (t' := s4.toks) fun b ob q => Heap.get?_push_of_some _ q
  obtain ⟨its, r, ht, hz⟩ := I5.list hx
  have hlen := r.length
  show wpAny (model X.prog X.w) X.A (subscriptTail e (.Slice lo hi (some st) p2) (.ref a) (.ref s4.heap.objs.size)) (EP X pins σ Q) X.xe { s4 with heap := s4.heap.push { cls := .type "slice", data := .fields #[vl, vu, vk] } }
  refine tail_any (ops := [.ref a, .ref s4.heap.objs.size]) ht.isList.typeIs slot_list_getitem.lookup ?_ (by with_unfolding_all rfl)
  refine wpAny_getItem_list_slice ht.isList (Heap.IsSliceOf.new ..) pl pu pk k0 ?_ (by rw [List.size_toArray] <;> omega)
  have V1 := cutSt_vals r l u k
  refine ⟨.ref _, _, I5.laid (t' := s4.toks) (o := .lst (cutSt xs l u k)) (fun b ob q => Heap.get?_push_of_some _ q) (Nat.le_refl _) ?_, rfl, q _ (I5.hok.fresh (Nat.le_refl _))⟩
  exact ⟨Nat.le_trans (cutSt_length r l u k) hz, _, 0, V1, Heap.get?_push_size _ rfl⟩
end
theorem pick_all {xs : List V} {g : Nat → Nat} {f : Nat → V} : ∀ (l : List Nat), (∀ k ∈ l, xs[g k]? = some (f (g k))) → l.filterMap ((xs[·]?) ∘ g) = l.map fun k => f (g k)
  | [], _ => rfl
  | k :: l, h => by
    have h1 : ((xs[·]?) ∘ g) k = some (f (g k)) := h k (List.mem_cons_self ..)
    rw [List.filterMap_cons, h1, List.map_cons]
    exact congrArg _ (pick_all l fun j hj => h j (List.mem_cons_of_mem _ hj))
/-- every n-th from a on, of a list of m times n -/
theorem cutSt_every {f : Nat → V} {m n a : Nat} (hn : 0 < n) (ha : a < n) : cutSt ((List.range (m * n)).map f) (some (a : Int)) none (some (n : Int)) = (List.range m).map fun k => f (a + n * k) := by
  have hb : sliceBounds (some (a : Int)) none (some (n : Int)) (m * n) = (((min a (m * n) : Nat) : Int), ((m * n : Nat) : Int), (n : Int)) := by
    have h1 : (n : Int) > 0 := by omega
    have h2 : ¬ ((a : Int) < 0) := by omega
    simp only [sliceBounds, Option.getD_some, h1, h2, if_true, if_false]
    congr 1
    omega
  unfold cutSt
  rw [List.length_map, List.length_range, hb]
  dsimp only
  have hr : sliceRange ((min a (m * n) : Nat) : Int) ((m * n : Nat) : Int) (n : Int) = (List.range m).map fun k => a + n * k := by
    unfold sliceRange
    have h1 : (n : Int) > 0 := by omega
    simp only [h1, if_true]
    rcases Nat.eq_zero_or_pos m with h0 | h0
    · subst h0; simp
    · have hmn : n ≤ m * n := Nat.le_mul_of_pos_left n h0
      have hmin : min a (m * n) = a := by omega
      rw [hmin]
      have h2 : (a : Int) < ((m * n : Nat) : Int) := by omega
      simp only [h2, if_true]
      have hc : (((m * n : Nat) : Int) - (a : Int) + (n : Int) - 1) / (n : Int) = (m : Int) := by
        have e : ((m * n : Nat) : Int) - (a : Int) + (n : Int) - 1 = ((n - 1 - a : Nat) : Int) + (m : Int) * (n : Int) := by
          rw [Int.natCast_mul]; omega
        rw [e, Int.add_mul_ediv_right _ _ (by omega), Int.ediv_eq_zero_of_lt (by omega) (by omega)]
        omega
      rw [hc, Int.toNat_natCast]
      apply List.map_congr_left
      intro k _
      have : (a : Int) + (n : Int) * (k : Int) = ((a + n * k : Nat) : Int) := by rw [Int.natCast_add, Int.natCast_mul]
      rw [this, Int.toNat_natCast]
  rw [hr, List.filterMap_map]
  have all : ∀ k ∈ List.range m, ((List.range (m * n)).map f)[a + n * k]? = some (f (a + n * k)) := by
    intro k hk
    have hkm : k < m := List.mem_range.1 hk
    have hlt : a + n * k < m * n := by
      have h1 : n * (k + 1) ≤ n * m := Nat.mul_le_mul_left n hkm
      rw [Nat.mul_add, Nat.mul_one, Nat.mul_comm n m] at h1
      omega
    simp [hlt]
  exact pick_all _ all
end Z3
end FC
namespace FC
open PySem PySem.Spec PyProof.Rows L2
def tabF (m : Nat) (f : Nat → Nat) : List Nat := (List.range m).map f
theorem tabF_len {m : Nat} {f : Nat → Nat} : (tabF m f).length = m := by simp [tabF]
theorem tabF_get {m i : Nat} {f : Nat → Nat} (h : i < m) : (tabF m f)[i]? = some (f i) := by simp [tabF, h]
theorem tabF_at {m i : Nat} {f : Nat → Nat} {x : V} (h : (nats (tabF m f))[i]? = some x) : i < m ∧ x = .int ((f i : Nat) : Int) := by
  obtain ⟨p, hp, rfl⟩ := nats_get h
  have hi : i < m := by
    have := (List.getElem?_eq_some_iff.mp hp).1
    rwa [tabF_len] at this
  rw [tabF_get hi] at hp
  cases hp
  exact ⟨hi, rfl⟩
section
variable {P : Program} {w : World} {K : PySem.W.Frag} {mg : Str → Option Value} {base : Heap}
def sp_cases_table (T : Txt K mg) : Sp := fun vs H Q _ => ∃ (a dx pl k0 dk tb t0 t1 t2 : Addr) (fs gs : List (Str × V)) (kr : List V) (fn fu fv : Nat → Nat) (m g e sz : Nat), vs = [.ref a, .ref tb, .int (sz : Int)] ∧
  H a = some (.ins T.C_Part dx fs) ∧ fs.lookup ("extent" : Str) = some (.int (g : Int)) ∧ fs.lookup ("parts" : Str) = some (.ref pl) ∧ H pl = some (.lst (.ref k0 :: kr)) ∧ H k0 = some (.ins T.C_Part dk gs) ∧ gs.lookup ("extent" : Str) = some (.int (e : Int)) ∧
  H tb = some (.lst [.ref t0, .ref t1, .ref t2]) ∧ SqL K H t0 (nats (tabF m fn)) ∧ SqL K H t1 (nats (tabF m fu)) ∧ SqL K H t2 (nats (tabF m fv)) ∧ m ≤ 65536 ∧ e ≤ 256 ∧ g ≤ 256 ∧
  (∀ i, i < m → fn i < e ∧ 0 < g ∧ (fn i < sz → g ^ fn i ≤ 256) ∧ (sz ≤ fn i → g ^ (fn i - sz) ≤ 256)) ∧
  ∀ H' p, Same H H' → H p = none → H' p = some (.lst (nats (tabF m fun i => if fn i < sz then Pa05.at_ g (fu i) (fn i) else Pa05.at_ g (fv i) (fn i - sz)))) → Q (.ref p) H'
theorem ok_cases_table (T : Txt K mg) : FnOk P w K mg base CX0 2 T.f_cases_table T.fd_cases_table ["part", "tables", "size"] (sp_cases_table T) := by
  refine T.F_cases_table.ok sc_cases_table (fun vs H Q E h => ?_) (fun cdv A outer s H vs Q E hr h => ⟨_, (pss_cons (ps_set (i := 3) sc_cases_table.nd rfl (Or.inr rfl) (pe_fld (pv 0) rfl))
    (pss_cons (ps_set (i := 4) sc_cases_table.nd rfl (Or.inr rfl) (pe_call (ok_powers_of T) (hr.mono (by decide)) rfl T.g_powers_of T.k_powers_of T.b_powers_of .nil pass0 (pa_cons (pv 3) (pa_cons (pe_fld (pe_ix ix_list (pe_fld (pv 0) rfl) pe_int (fun _ _ => rfl)) rfl) pa_nil))))
    (pss_one (ps_ret (pe_lc (own := [("number", 5), ("for_left", 6), ("for_right", 7)]) (by rfl) sc_cases_table.nd (Z3.pi_zip3 rfl T.n_zip (pa_cons (pe_ix ix_list (pv 1) pe_int (fun _ _ => rfl)) (pa_cons (pe_ix ix_list (pv 1) pe_int (fun _ _ => rfl)) (pa_cons (pe_ix ix_list (pv 1) pe_int (fun _ _ => rfl)) pa_nil)))) (blkOk_by (own := [("number", 5), ("for_left", 6), ("for_right", 7)]) (N := ["part", "tables", "size", "given", "powers", "number", "for_left", "for_right"]) (sc := defScope s_cases_table) (by decide +kernel)) (fun _ _ _ _ _ => (pg_tupK (K := K) (n := 3) rfl rfl (pgs_cons (pg_name (i := 5) sc_cases_table.nd rfl (Or.inl rfl)) (pgs_cons (pg_name (i := 6) sc_cases_table.nd rfl (Or.inl rfl)) (pgs_cons (pg_name (i := 7) sc_cases_table.nd rfl (Or.inl rfl)) pgs_nil))))) (fun _ _ _ _ _ => pts_nil) (fun _ _ _ _ _ => (pe_ifExp (pt_cmpR op_lt (pv 5) (pv 2) (nomark _)) (pe_op op_modN (pe_op op_fdivN (pv 6) (pe_ix (ix_listK (K := K) rfl) (pv 4) (pv 5) (fun _ _ => rfl))) (pv 3)) (pe_op op_modN (pe_op op_fdivN (pv 7) (pe_ix (ix_listK (K := K) rfl) (pv 4) (pe_op op_sub (pv 5) (pv 2)) (fun _ _ => rfl))) (pv 3))))))))), ?_⟩)
  · obtain ⟨a, dx, pl, k0, dk, tb, t0, t1, t2, fs, gs, kr, fn, fu, fv, m, g, e, sz, rfl, _⟩ := h
    rfl
  · obtain ⟨a, dx, pl, k0, dk, tb, t0, t1, t2, fs, gs, kr, fn, fu, fv, m, g, e, sz, rfl, ha, fe, fp, hpl, hk0, ge, htb, h0, h1, h2, hm, he, hg, hb, kQ⟩ := h
    refine ⟨_, rfl, a, _, dx, _, _, rfl, ha, T.cl_Part, T.n_Part_extent, fe, ?_⟩
    refine ⟨_, rfl, _, rfl, a, _, dx, _, _, rfl, ha, T.cl_Part, T.n_Part_parts, fp, pl, _, _, _, rfl, rfl, SqL.of hpl, atI_nat (j := 0) rfl, k0, _, dk, _, _, rfl, hk0, T.cl_Part, T.n_Part_extent, ge, g, e, rfl, he, hg, fun H1 p s1 hp d1 => ?_⟩
    have htb1 := s1 _ _ htb
    refine ⟨_, rfl, tb, _, _, _, rfl, rfl, SqL.of htb1, atI_nat (j := 0) rfl, _, rfl, tb, _, _, _, rfl, rfl, SqL.of htb1, atI_nat (j := 1) rfl, _, rfl, tb, _, _, _, rfl, rfl, SqL.of htb1, atI_nat (j := 2) rfl, t0, t1, t2, _, _, _, rfl, s1.seq h0, s1.seq h1, s1.seq h2, fun D hD => ?_⟩
    refine lc_it (Z3.walk_zip3 (xs := nats (tabF m fn)) (ys := nats (tabF m fu)) (zs := nats (tabF m fv)) (n := m) (by rw [nats_length, tabF_len]) (by rw [nats_length, tabF_len]) (by rw [nats_length, tabF_len])) (fun i Hd => Same H1 Hd ∧ Hd D = some (.lst (nats ((tabF m fun i => if fn i < sz then Pa05.at_ g (fu i) (fn i) else Pa05.at_ g (fv i) (fn i - sz)).take i)))) ⟨Same.new hD, upd_same⟩ ?_ ?_ ?_
    · rintro i Hd _ ⟨s2, _⟩
      exact ⟨s2.seq (s1.seq h0), s2.seq (s1.seq h1), s2.seq (s1.seq h2)⟩
    · rintro i x Hd Hd' hi ⟨s2, d2⟩ ⟨U, v1, v2, v3, rfl, hU, rfl, e1, e2, e3⟩
      obtain ⟨_, rfl⟩ := tabF_at e1
      obtain ⟨_, rfl⟩ := tabF_at e2
      obtain ⟨_, rfl⟩ := tabF_at e3
      obtain ⟨b1, b2, b3, b4⟩ := hb i hi
      have s3 : Same Hd (upd Hd U (.tup [.int ((fn i : Nat) : Int), .int ((fu i : Nat) : Int), .int ((fv i : Nat) : Int)])) := Same.new hU
      have s23 := Same.trans s2 s3
      have d3 := s3 _ _ d2
      have hpw : ∀ y, y < e → (powsTo g e)[y]? = some (g ^ y) := fun y hy => by unfold powsTo; rw [List.getElem?_map, List.getElem?_range hy]; rfl
      have tg := tabF_get (m := m) (f := fun i => if fn i < sz then Pa05.at_ g (fu i) (fn i) else Pa05.at_ g (fv i) (fn i - sz)) hi
      have len : (nats ((tabF m fun i => if fn i < sz then Pa05.at_ g (fu i) (fn i) else Pa05.at_ g (fv i) (fn i - sz)).take i)).length < sizeLine := by
        rw [nats_length, List.length_take, tabF_len]
        exact small65537 (by omega)
      refine ⟨U, _, rfl, SqT.of upd_same, rfl, _, _, rfl, _, _, rfl, _, _, rfl, rfl, rfl, ?_⟩
      refine ⟨_, rfl, _, rfl, _, _, rfl, rfl, _, rfl, ?_⟩
      by_cases c : fn i < sz
      · refine if_true_of (decide_eq_true (by omega)) ?_
        have q1 := b3 c
        have q2 : 0 < g ^ fn i := Nat.pow_pos b2
        refine ⟨_, rfl, _, rfl, _, rfl, p, _, _, _, rfl, rfl, SqL.of (s23 _ _ d1), atI_nat (nats_at (hpw _ b1)), _, _, rfl, rfl, ⟨by omega, by omega⟩, _, rfl, _, _, rfl, rfl, (by omega), _, d3, len, same_put s23 hD, ?_⟩
        rw [upd_same, ← nats_take tg]
        dsimp only
        rw [if_pos c, fdiv_nat, fmod_nat]
        rfl
      · refine if_false_of (decide_eq_false (by omega)) ?_
        have q1 := b4 (by omega)
        have q2 : 0 < g ^ (fn i - sz) := Nat.pow_pos b2
        have es : ((fn i : Nat) : Int) - (sz : Int) = ((fn i - sz : Nat) : Int) := by omega
        refine ⟨_, rfl, _, rfl, _, rfl, _, rfl, _, _, rfl, rfl, p, nats (powsTo g e), _, .int ((g ^ (fn i - sz) : Nat) : Int), rfl, rfl, SqL.of (s23 _ _ d1), (congrArg (atI (nats (powsTo g e))) es).trans (atI_nat (nats_at (hpw _ (by omega)))), _, _, rfl, rfl, ⟨by omega, by omega⟩, _, rfl, _, _, rfl, rfl, (by omega), _, d3, len, same_put s23 hD, ?_⟩
        rw [upd_same, ← nats_take tg]
        dsimp only
        rw [if_neg c, fdiv_nat, fmod_nat]
        rfl
    · rintro Hd ⟨s2, d2⟩
      rw [List.take_of_length_le (by rw [tabF_len]; exact Nat.le_refl _)] at d2
      exact kQ Hd D (Same.trans s1 s2) (same_none s1 hD) d2
end
end FC
namespace FC
open PySem PySem.Spec PyProof.Rows L2
open Pa05 (Ty Tm typed)
/-- a type that is held, and none too deep -/
def Fits (sz : List Nat) (y : Ty) : Prop := (∃ c, Pa05.small 256 (numOf sz) y = some c) ∧ TyOk sz.length y ∧ dp y ≤ 26
theorem Fits.le {sz : List Nat} {y : Ty} (h : Fits sz y) : y.card (numOf sz) ≤ 256 := by
  obtain ⟨⟨c, e⟩, _⟩ := h
  rw [small_card _ _ _ _ e]
  exact small_le _ _ _ _ e
theorem Fits.eq {sz : List Nat} {y : Ty} {x : Nat} (h : Fits sz y) (e : Pa05.small 256 (numOf sz) y = some x) : x = y.card (numOf sz) := (small_card _ _ _ _ e).symm
theorem Fits.no {sz : List Nat} {y : Ty} (h : Fits sz y) (e : Pa05.small 256 (numOf sz) y = none) : False := by
  obtain ⟨⟨c, e'⟩, _⟩ := h
  rw [e] at e'
  cases e'
theorem small_pair {top : Nat} {n : Nat → Nat} {a b : Ty} {c : Nat} (h : Pa05.small top n (.pair a b) = some c) : (∃ x, Pa05.small top n a = some x) ∧ ∃ y, Pa05.small top n b = some y := by
  unfold Pa05.small at h
  cases e1 : Pa05.small top n a with
  | none => rw [e1] at h; cases h
  | some x =>
    cases e2 : Pa05.small top n b with
    | none => rw [e1, e2] at h; cases h
    | some y => exact ⟨⟨x, rfl⟩, ⟨y, rfl⟩⟩
theorem small_either {top : Nat} {n : Nat → Nat} {a b : Ty} {c : Nat} (h : Pa05.small top n (.either a b) = some c) : (∃ x, Pa05.small top n a = some x) ∧ ∃ y, Pa05.small top n b = some y := by
  unfold Pa05.small at h
  cases e1 : Pa05.small top n a with
  | none => rw [e1] at h; cases h
  | some x =>
    cases e2 : Pa05.small top n b with
    | none => rw [e1, e2] at h; cases h
    | some y => exact ⟨⟨x, rfl⟩, ⟨y, rfl⟩⟩
theorem Fits.pair {sz : List Nat} {a b : Ty} (h : Fits sz (.pair a b)) : Fits sz a ∧ Fits sz b := by
  obtain ⟨⟨c, e⟩, ⟨o1, o2⟩, d⟩ := h
  obtain ⟨s1, s2⟩ := small_pair e
  have d' : max (dp a) (dp b) + 1 ≤ 26 := d
  exact ⟨⟨s1, o1, by omega⟩, ⟨s2, o2, by omega⟩⟩
theorem Fits.either {sz : List Nat} {a b : Ty} (h : Fits sz (.either a b)) : Fits sz a ∧ Fits sz b := by
  obtain ⟨⟨c, e⟩, ⟨o1, o2⟩, d⟩ := h
  obtain ⟨s1, s2⟩ := small_either e
  have d' : max (dp a) (dp b) + 1 ≤ 26 := d
  exact ⟨⟨s1, o1, by omega⟩, ⟨s2, o2, by omega⟩⟩
/-- the own parts, by their types -/
def KX (C : Addr) (H : Hp) (nn : Nat → Nat) : List Addr → List Ty → Prop
  | [], [] => True
  | a :: as, x :: xs => (∃ dx fs q, H a = some (.ins C dx fs) ∧ fs.lookup ("extent" : Str) = some (.int ((x.card nn : Nat) : Int)) ∧ fs.lookup ("kind" : Str) = some (.ref q) ∧ KindAt H x q) ∧ KX C H nn as xs
  | _, _ => False
def TX (K : PySem.W.Frag) (H : Hp) (nn : Nat → Nat) (mm : Nat) (en : Nat → List (Ty × Nat)) : List Addr → List Trm → Prop
  | [], [] => True
  | b :: bs, t :: ts => H b = some (.lst (nats (tabE nn mm en t))) ∧ TX K H nn mm en bs ts
  | _, _ => False
def KT (l : List Ty) : List Trm → List Ty → Prop
  | [], [] => True
  | t :: ts, x :: xs => (∃ i, typed l i t = .ok x) ∧ KT l ts xs
  | _, _ => False
theorem KT.one {l : List Ty} {t : Trm} {xs : List Ty} (h : KT l [t] xs) : ∃ x i, xs = [x] ∧ typed l i t = .ok x := by
  cases xs with
  | nil => exact h.elim
  | cons x r =>
    cases r with
    | nil => exact ⟨x, h.1.choose, rfl, h.1.choose_spec⟩
    | cons y r => exact h.2.elim
theorem KT.two {l : List Ty} {t u : Trm} {xs : List Ty} (h : KT l [t, u] xs) : ∃ x y i j, xs = [x, y] ∧ typed l i t = .ok x ∧ typed l j u = .ok y := by
  cases xs with
  | nil => exact h.elim
  | cons x r =>
    obtain ⟨y, j, rfl, e⟩ := KT.one h.2
    exact ⟨x, y, h.1.choose, j, rfl, h.1.choose_spec, e⟩
theorem KT.three {l : List Ty} {t u v : Trm} {xs : List Ty} (h : KT l [t, u, v] xs) : ∃ x y z i j k, xs = [x, y, z] ∧ typed l i t = .ok x ∧ typed l j u = .ok y ∧ typed l k v = .ok z := by
  cases xs with
  | nil => exact h.elim
  | cons x r =>
    obtain ⟨y, z, j, k, rfl, e1, e2⟩ := KT.two h.2
    exact ⟨x, y, z, h.1.choose, j, k, rfl, h.1.choose_spec, e1, e2⟩
abbrev KX1 (C : Addr) (H : Hp) (nn : Nat → Nat) (a : Addr) (x : Ty) : Prop := ∃ dx fs q, H a = some (.ins C dx fs) ∧ fs.lookup ("extent" : Str) = some (.int ((x.card nn : Nat) : Int)) ∧ fs.lookup ("kind" : Str) = some (.ref q) ∧ KindAt H x q
theorem KX.one {C : Addr} {H : Hp} {nn : Nat → Nat} {x : Ty} {as : List Addr} (h : KX C H nn as [x]) : ∃ a, as = [a] ∧ KX1 C H nn a x := by
  cases as with
  | nil => exact h.elim
  | cons a r =>
    cases r with
    | nil => exact ⟨a, rfl, h.1⟩
    | cons b r => exact h.2.elim
theorem KX.two {C : Addr} {H : Hp} {nn : Nat → Nat} {x y : Ty} {as : List Addr} (h : KX C H nn as [x, y]) : ∃ a b, as = [a, b] ∧ KX1 C H nn a x ∧ KX1 C H nn b y := by
  cases as with
  | nil => exact h.elim
  | cons a r =>
    obtain ⟨b, rfl, e⟩ := KX.one h.2
    exact ⟨a, b, rfl, h.1, e⟩
theorem KX.three {C : Addr} {H : Hp} {nn : Nat → Nat} {x y z : Ty} {as : List Addr} (h : KX C H nn as [x, y, z]) : ∃ a b c, as = [a, b, c] ∧ KX1 C H nn a x ∧ KX1 C H nn b y ∧ KX1 C H nn c z := by
  cases as with
  | nil => exact h.elim
  | cons a r =>
    obtain ⟨b, c, rfl, e1, e2⟩ := KX.two h.2
    exact ⟨a, b, c, rfl, h.1, e1, e2⟩
theorem TX.one {K : PySem.W.Frag} {H : Hp} {nn : Nat → Nat} {mm : Nat} {en : Nat → List (Ty × Nat)} {t : Trm} {bs : List Addr} (h : TX K H nn mm en bs [t]) : ∃ b, bs = [b] ∧ H b = some (.lst (nats (tabE nn mm en t))) := by
  cases bs with
  | nil => exact h.elim
  | cons b r =>
    cases r with
    | nil => exact ⟨b, rfl, h.1⟩
    | cons c r => exact h.2.elim
theorem TX.two {K : PySem.W.Frag} {H : Hp} {nn : Nat → Nat} {mm : Nat} {en : Nat → List (Ty × Nat)} {t u : Trm} {bs : List Addr} (h : TX K H nn mm en bs [t, u]) : ∃ b c, bs = [b, c] ∧ H b = some (.lst (nats (tabE nn mm en t))) ∧ H c = some (.lst (nats (tabE nn mm en u))) := by
  cases bs with
  | nil => exact h.elim
  | cons b r =>
    obtain ⟨c, rfl, e⟩ := TX.one h.2
    exact ⟨b, c, rfl, h.1, e⟩
theorem TX.three {K : PySem.W.Frag} {H : Hp} {nn : Nat → Nat} {mm : Nat} {en : Nat → List (Ty × Nat)} {t u v : Trm} {bs : List Addr} (h : TX K H nn mm en bs [t, u, v]) : ∃ b c d, bs = [b, c, d] ∧ H b = some (.lst (nats (tabE nn mm en t))) ∧ H c = some (.lst (nats (tabE nn mm en u))) ∧ H d = some (.lst (nats (tabE nn mm en v))) := by
  cases bs with
  | nil => exact h.elim
  | cons b r =>
    obtain ⟨c, d, rfl, e1, e2⟩ := TX.two h.2
    exact ⟨b, c, d, rfl, h.1, e1, e2⟩
abbrev wv (nn : Nat → Nat) (en : Nat → List (Ty × Nat)) (t : Trm) : Nat → Nat := fun c => Tm.val nn (en c) t
theorem wv_lt {nn : Nat → Nat} {l : List Ty} {mm : Nat} {en : Nat → List (Ty × Nat)} {t : Trm} {i c : Nat} {x : Ty} (hE : EnOk nn l mm en) (h : typed l i t = .ok x) (hc : c < mm) : wv nn en t c < x.card nn := en_val_lt hE h hc
theorem ty_env {nn : Nat → Nat} {l : List Ty} {mm : Nat} {en : Nat → List (Ty × Nat)} {t : Trm} {i : Nat} {x : Ty} {c : Nat} (hE : EnOk nn l mm en) (hc : c < mm) (h : typed l i t = .ok x) : Pa05.tyOf (en c) t = x := ty_of (i := i) (by rw [(hE c hc).1]; exact h)
theorem pos_card {a b c : Nat} (h : c < a * b) : 0 < b := by
  rcases Nat.eq_zero_or_pos b with e | e
  · rw [e, Nat.mul_zero] at h; omega
  · exact e
theorem typed_app_inv {l : List Ty} {i j1 j2 : Nat} {t u : Trm} {x y1 y2 : Ty} (h : typed l i (.app t u) = .ok x) (k1 : typed l j1 t = .ok y1) (k2 : typed l j2 u = .ok y2) : y1 = .fn y2 x := by
  rw [typed, typed_at t l j1 _ y1 k1, typed_at u l j2 _ y2 k2] at h
  cases y1 with
  | fn p q =>
    dsimp only at h
    by_cases g : p = y2
    · rw [if_pos g] at h
      subst g
      cases h
      rfl
    · rw [if_neg g] at h
      cases h
  | _ => cases h
theorem typed_cases_inv {l : List Ty} {i j1 j2 j3 : Nat} {t u v : Trm} {x y1 y2 y3 : Ty} (h : typed l i (.cases t u v) = .ok x) (k1 : typed l j1 t = .ok y1) (k2 : typed l j2 u = .ok y2) (k3 : typed l j3 v = .ok y3) : ∃ p q, y1 = .either p q ∧ y2 = .fn p x ∧ y3 = .fn q x := by
  rw [typed, typed_at t l j1 _ y1 k1, typed_at u l j2 _ y2 k2, typed_at v l j3 _ y3 k3] at h
  cases y1 with
  | either p q =>
    cases y2 with
    | fn c d =>
      cases y3 with
      | fn e f =>
        dsimp only at h
        by_cases g : p = c ∧ q = e ∧ d = f
        · rw [if_pos g] at h
          obtain ⟨rfl, rfl, rfl⟩ := g
          cases h
          exact ⟨_, _, rfl, rfl, rfl⟩
        · rw [if_neg g] at h
          cases h
      | _ => cases h
    | _ => cases y3 <;> cases h
  | _ => cases y2 <;> cases y3 <;> cases h
section
variable {P : Program} {w : World} {K : PySem.W.Frag} {mg : Str → Option Value} {base : Heap}
def sp_joined_table (T : Txt K mg) : Sp := fun vs H Q E => ∃ (a dx pl tb z : Addr) (tv : V) (D : Dyn) (no : Nat) (t : Trm) (l : List Ty) (sz : List Nat) (as bs : List Addr) (x : Ty) (xs : List Ty) (i0 mm : Nat) (en : Nat → List (Ty × Nat)), vs = [.ref a, .ref tb, .ref z] ∧
  H a = some (.ins T.C_Part dx (ptF (hd t) no tv pl D)) ∧ D.ext = .int ((x.card (numOf sz) : Nat) : Int) ∧ H pl = some (.lst (as.map V.ref)) ∧ ToldAt H (toldOf t) tv ∧ typed l i0 t = .ok x ∧ Fits sz x ∧
  KX T.C_Part H (numOf sz) as xs ∧ KT l (kids t) xs ∧ (∀ y ∈ xs, Fits sz y) ∧ H tb = some (.lst (bs.map V.ref)) ∧ TX K H (numOf sz) mm en bs (kids t) ∧ SqL K H z (nats sz) ∧ kids t ≠ [] ∧ (∀ b u, t ≠ .lam b u) ∧ mm ≤ 65536 ∧ EnOk (numOf sz) l mm en ∧
  ∀ H' p, Same H H' → (H p = none ∨ p ∈ bs) → H' p = some (.lst (nats (tabE (numOf sz) mm en t))) → Q (.ref p) H'
theorem ok_joined_table (T : Txt K mg) : FnOk P w K mg base CX0 30 T.f_joined_table T.fd_joined_table ["part", "tables", "set_sizes"] (sp_joined_table T) := by
  refine T.F_joined_table.ok sc_joined_table (fun vs H Q E h => ?_) (fun cdv A outer s H vs Q E hr h => ⟨_, (pss_cons (ps_set (i := 3) sc_joined_table.nd rfl (Or.inl rfl) (pe_ix ix_list (pe_fld (pv 0) rfl) pe_int (fun _ _ => rfl)))
    (pss_cons (ps_if (pt_cmpR op_eq (pe_fld (pv 0) rfl) (pe_cst rfl T.g_PAIR_TERM) (nomark _))
      (pss_cons (ps_set (i := 4) sc_joined_table.nd rfl (Or.inr rfl) (pe_fld (pe_ix ix_list (pe_fld (pv 0) rfl) pe_int (fun _ _ => rfl)) rfl))
      (pss_one (ps_ret (pe_lc (own := [("first", 5), ("second", 6)]) (by rfl) sc_joined_table.nd (pi_zip rfl T.n_zip (pa_cons (pe_ix ix_list (pv 1) pe_int (fun _ _ => rfl)) (pa_cons (pe_ix ix_list (pv 1) pe_int (fun _ _ => rfl)) pa_nil))) (blkOk_by (own := [("first", 5), ("second", 6)]) (N := ["part", "tables", "set_sizes", "own", "size", "first", "second", "number", "asked", "yes", "no"]) (sc := defScope s_joined_table) (by decide +kernel)) (fun _ _ _ _ _ => (pg_tupK (K := K) (n := 2) rfl rfl (pgs_cons (pg_name (i := 5) sc_joined_table.nd rfl (Or.inl rfl)) (pgs_cons (pg_name (i := 6) sc_joined_table.nd rfl (Or.inl rfl)) pgs_nil)))) (fun _ _ _ _ _ => pts_nil) (fun _ _ _ _ _ => (pe_op op_add (pe_op op_mul (pv 5) (pv 4)) (pv 6)))))))
      pss_nil)
    (pss_cons (ps_if (pt_cmpR op_eq (pe_fld (pv 0) rfl) (pe_cst rfl T.g_FIRST) (nomark _))
      (pss_cons (ps_set (i := 4) sc_joined_table.nd rfl (Or.inr rfl) (pe_call (ok_kind_size T 26) (hr.mono (by decide)) rfl T.g_kind_size T.k_kind_size T.b_kind_size .nil passL (pa_cons (pe_ix ix_tup (pe_fld (pv 3) rfl) pe_int (fun _ _ => rfl)) (pa_cons (pv 2) (pa_cons (pe_cst rfl T.g_LARGEST) pa_nil)))))
      (pss_one (ps_ret (pe_lc (own := [("number", 7)]) (by rfl) sc_joined_table.nd (pi_list (pe_ix ix_list (pv 1) pe_int (fun _ _ => rfl))) (blkOk_by (own := [("number", 7)]) (N := ["part", "tables", "set_sizes", "own", "size", "first", "second", "number", "asked", "yes", "no"]) (sc := defScope s_joined_table) (by decide +kernel)) (fun _ _ _ _ _ => (pg_name (i := 7) sc_joined_table.nd rfl (Or.inl rfl))) (fun _ _ _ _ _ => pts_nil) (fun _ _ _ _ _ => (pe_op op_fdivN (pv 7) (pv 4)))))))
      pss_nil)
    (pss_cons (ps_if (pt_cmpR op_eq (pe_fld (pv 0) rfl) (pe_cst rfl T.g_SECOND) (nomark _))
      (pss_one (ps_ret (pe_lc (own := [("number", 7)]) (by rfl) sc_joined_table.nd (pi_list (pe_ix ix_list (pv 1) pe_int (fun _ _ => rfl))) (blkOk_by (own := [("number", 7)]) (N := ["part", "tables", "set_sizes", "own", "size", "first", "second", "number", "asked", "yes", "no"]) (sc := defScope s_joined_table) (by decide +kernel)) (fun _ _ _ _ _ => (pg_name (i := 7) sc_joined_table.nd rfl (Or.inl rfl))) (fun _ _ _ _ _ => pts_nil) (fun _ _ _ _ _ => (pe_op op_modN (pv 7) (pe_fldK (K := K) rfl (pv 0) rfl))))))
      pss_nil)
    (pss_cons (ps_if (pt_cmpR op_eq (pe_fld (pv 0) rfl) (pe_cst rfl T.g_LEFT) (nomark _))
      (pss_one (ps_ret (pe_ix ix_list (pv 1) pe_int (fun _ _ => rfl))))
      pss_nil)
    (pss_cons (ps_if (pt_cmpR op_eq (pe_fld (pv 0) rfl) (pe_cst rfl T.g_RIGHT) (nomark _))
      (pss_cons (ps_set (i := 4) sc_joined_table.nd rfl (Or.inr rfl) (pe_call (ok_kind_size T 26) (hr.mono (by decide)) rfl T.g_kind_size T.k_kind_size T.b_kind_size .nil passL (pa_cons (pe_fld (pv 0) rfl) (pa_cons (pv 2) (pa_cons (pe_cst rfl T.g_LARGEST) pa_nil)))))
      (pss_one (ps_ret (pe_lc (own := [("number", 7)]) (by rfl) sc_joined_table.nd (pi_list (pe_ix ix_list (pv 1) pe_int (fun _ _ => rfl))) (blkOk_by (own := [("number", 7)]) (N := ["part", "tables", "set_sizes", "own", "size", "first", "second", "number", "asked", "yes", "no"]) (sc := defScope s_joined_table) (by decide +kernel)) (fun _ _ _ _ _ => (pg_name (i := 7) sc_joined_table.nd rfl (Or.inl rfl))) (fun _ _ _ _ _ => pts_nil) (fun _ _ _ _ _ => (pe_op op_add (pv 7) (pv 4)))))))
      pss_nil)
    (pss_cons (ps_if (pt_cmpR op_eq (pe_fld (pv 0) rfl) (pe_cst rfl T.g_CASES) (nomark _))
      (pss_cons (ps_set (i := 4) sc_joined_table.nd rfl (Or.inr rfl) (pe_call (ok_kind_size T 26) (hr.mono (by decide)) rfl T.g_kind_size T.k_kind_size T.b_kind_size .nil passL (pa_cons (pe_ix ix_tup (pe_fld (pv 3) rfl) pe_int (fun _ _ => rfl)) (pa_cons (pv 2) (pa_cons (pe_cst rfl T.g_LARGEST) pa_nil)))))
      (pss_one (ps_ret (pe_call (ok_cases_table T) (hr.mono (by decide)) rfl T.g_cases_table T.k_cases_table T.b_cases_table .nil pass0 (pa_cons (pv 0) (pa_cons (pv 1) (pa_cons (pv 4) pa_nil)))))))
      pss_nil)
    (pss_cons (ps_if (pt_cmpR op_eq (pe_fld (pv 0) rfl) (pe_cst rfl T.g_PUT) (nomark _))
      (pss_one (ps_ret (pe_call (ok_put_table T) (hr.mono (by decide)) rfl T.g_put_table T.k_put_table T.b_put_table .nil pass0 (pa_cons (pe_ix ix_list (pv 1) pe_int (fun _ _ => rfl)) (pa_cons (pe_ix ix_list (pv 1) pe_int (fun _ _ => rfl)) (pa_cons (pe_fld (pv 0) rfl) (pa_cons (pe_fld (pe_ix ix_list (pe_fld (pv 0) rfl) pe_int (fun _ _ => rfl)) rfl) pa_nil)))))))
      pss_nil)
    (pss_one (ps_ret (pe_lc (own := [("asked", 8), ("yes", 9), ("no", 10)]) (by rfl) sc_joined_table.nd (Z3.pi_zip3 rfl T.n_zip (pa_cons (pe_ix ix_list (pv 1) pe_int (fun _ _ => rfl)) (pa_cons (pe_ix ix_list (pv 1) pe_int (fun _ _ => rfl)) (pa_cons (pe_ix ix_list (pv 1) pe_int (fun _ _ => rfl)) pa_nil)))) (blkOk_by (own := [("asked", 8), ("yes", 9), ("no", 10)]) (N := ["part", "tables", "set_sizes", "own", "size", "first", "second", "number", "asked", "yes", "no"]) (sc := defScope s_joined_table) (by decide +kernel)) (fun _ _ _ _ _ => (pg_tupK (K := K) (n := 3) rfl rfl (pgs_cons (pg_name (i := 8) sc_joined_table.nd rfl (Or.inl rfl)) (pgs_cons (pg_name (i := 9) sc_joined_table.nd rfl (Or.inl rfl)) (pgs_cons (pg_name (i := 10) sc_joined_table.nd rfl (Or.inl rfl)) pgs_nil))))) (fun _ _ _ _ _ => pts_nil) (fun _ _ _ _ _ => (pe_ifExp (pt_cmpR op_eq (pv 8) pe_int (nomark _)) (pv 9) (pv 10)))))))))))))), ?_⟩)
  · obtain ⟨a, dx, pl, tb, z, tv, D, no, t, l, sz, as, bs, x, xs, i0, mm, en, rfl, _⟩ := h
    rfl
  · obtain ⟨a, dx, pl, tb, z, tv, D, no, t, l, sz, as, bs, x, xs, i0, mm, en, rfl, ha, hx, hpl, ht, ty, fx, kx, kt, fk, htb, tx, hz, hk, hl, hm, hE, kQ⟩ := h
    cases t with
    | var k => exact absurd rfl hk
    | yes => exact absurd rfl hk
    | no => exact absurd rfl hk
    | lam b u => exact absurd rfl (hl b u)
    | pair t1 t2 =>
      obtain ⟨y1, y2, i1, i2, rfl, k1, k2⟩ := KT.two kt
      obtain ⟨c1, c2, rfl, ⟨dx1, fs1, q1, g1, g2, g3, g4⟩, ⟨dx2, fs2, q2, g5, g6, g7, g8⟩⟩ := KX.two kx
      obtain ⟨b1, b2, rfl, hb1, hb2⟩ := TX.two tx
      have hb1 := SqL.of (K := K) hb1
      have hb2 := SqL.of (K := K) hb2
      refine ⟨_, rfl, a, _, dx, _, _, rfl, ha, T.cl_Part, T.n_Part_parts, ptF_parts, pl, _, _, _, rfl, rfl, SqL.of hpl, atI_nat (j := 0) rfl, ?_⟩
      refine ⟨_, rfl, a, _, dx, _, _, rfl, ha, T.cl_Part, T.n_Part_head, ptF_head, rfl, _, rfl, if_true_of rfl ?_⟩
      refine ⟨_, rfl, a, _, dx, _, _, rfl, ha, T.cl_Part, T.n_Part_parts, ptF_parts, pl, _, _, _, rfl, rfl, SqL.of hpl, atI_nat (j := 1) rfl, c2, _, dx2, _, _, rfl, g5, T.cl_Part, T.n_Part_extent, g6, ?_⟩
      refine ⟨_, rfl, tb, _, _, _, rfl, rfl, SqL.of htb, atI_nat (j := 0) rfl, _, rfl, tb, _, _, _, rfl, rfl, SqL.of htb, atI_nat (j := 1) rfl, b1, b2, _, _, rfl, hb1, hb2, fun B hB => ?_⟩
      refine lc_it (walk_zip (xs := nats (tabE (numOf sz) mm en t1)) (ys := nats (tabE (numOf sz) mm en t2)) (n := mm) (by rw [nats_length, nats_length, tabE_len, tabE_len, Nat.min_self])) (fun i Hd => Same H Hd ∧ Hd B = some (.lst (nats ((tabE (numOf sz) mm en (.pair t1 t2)).take i)))) ⟨Same.new hB, upd_same⟩ ?_ ?_ ?_
      · rintro i Hd _ ⟨s2, _⟩
        exact ⟨s2.seq hb1, s2.seq hb2⟩
      · rintro i x Hd Hd' hi ⟨s2, d2⟩ ⟨U, v1, v2, rfl, hU, rfl, e1, e2⟩
        obtain ⟨_, rfl⟩ := tabF_at (m := mm) (f := wv (numOf sz) en t1) e1
        obtain ⟨_, rfl⟩ := tabF_at (m := mm) (f := wv (numOf sz) en t2) e2
        have s3 : Same Hd (upd Hd U (.tup [.int ((wv (numOf sz) en t1 i : Nat) : Int), .int ((wv (numOf sz) en t2 i : Nat) : Int)])) := Same.new hU
        have s23 := Same.trans s2 s3
        have d3 := s3 _ _ d2
        have f2 := fk y2 (by simp)
        have c256 : y2.card (numOf sz) ≤ 256 := f2.le
        refine ⟨U, _, rfl, SqT.of upd_same, rfl, _, _, rfl, _, _, rfl, rfl, rfl, ?_⟩
        refine ⟨_, rfl, _, rfl, _, _, rfl, rfl, .inr ⟨by omega, by omega⟩, _, rfl, _, _, rfl, rfl, _, d3, ?_, same_put s23 hB, ?_⟩
        · rw [nats_length, List.length_take, tabE_len]
          exact small65537 (by omega)
        · have tg : (tabE (numOf sz) mm en (.pair t1 t2))[i]? = some (wv (numOf sz) en t1 i * y2.card (numOf sz) + wv (numOf sz) en t2 i) := by
            rw [tabE_get hi, Tm.val, ty_env hE hi k2]
          rw [upd_same, ← nats_take tg, Int.natCast_add, Int.natCast_mul]
      · rintro Hd ⟨s2, d2⟩
        rw [List.take_of_length_le (by rw [tabE_len]; exact Nat.le_refl _)] at d2
        exact kQ Hd B s2 (.inl hB) d2
    | first t1 =>
      obtain ⟨y1, i1, rfl, k1⟩ := KT.one kt
      obtain ⟨c1, rfl, ⟨dx1, fs1, q1, g1, g2, g3, g4⟩⟩ := KX.one kx
      obtain ⟨b1, rfl, hb1⟩ := TX.one tx
      have hb1 := SqL.of (K := K) hb1
      rw [typed, typed_at t1 l i1 _ y1 k1] at ty
      cases y1 with
      | var i => cases ty
      | two => cases ty
      | either p q => cases ty
      | fn p q => cases ty
      | pair p q =>
      cases ty
      obtain ⟨qa, qb, gq, ga, gb⟩ := g4
      obtain ⟨fp, fq⟩ := (fk _ (List.mem_cons_self ..)).pair
      have c256 := fq.le
      refine ⟨_, rfl, a, _, dx, _, _, rfl, ha, T.cl_Part, T.n_Part_parts, ptF_parts, pl, _, _, _, rfl, rfl, SqL.of hpl, atI_nat (j := 0) rfl, ?_⟩
      refine ⟨_, rfl, a, _, dx, _, _, rfl, ha, T.cl_Part, T.n_Part_head, ptF_head, rfl, _, rfl, if_false_of rfl ?_⟩
      refine ⟨_, rfl, a, _, dx, _, _, rfl, ha, T.cl_Part, T.n_Part_head, ptF_head, rfl, _, rfl, if_true_of rfl ?_⟩
      refine ⟨_, rfl, c1, _, dx1, _, _, rfl, g1, T.cl_Part, T.n_Part_kind, g3, q1, _, _, _, rfl, rfl, SqT.of gq, atI_nat (j := 2) rfl, _, rfl, _, z, _, sz, 256, rfl, gb, hz, fq.2.1, fq.2.2, by decide, (fun e => (fq.no e).elim), (fun xx e => ?_)⟩
      rw [fq.eq e]
      refine ⟨_, rfl, tb, _, _, _, rfl, rfl, SqL.of htb, atI_nat (j := 0) rfl, b1, rfl, ⟨_, hb1⟩, fun B hB => ?_⟩
      refine lc_list (K := K) (a := b1) (xs := nats (tabE (numOf sz) mm en t1)) (fun i Hd => Same H Hd ∧ Hd B = some (.lst (nats ((tabE (numOf sz) mm en (.first t1)).take i)))) ⟨Same.new hB, upd_same⟩ ?_ ?_ ?_
      · rintro i Hd _ ⟨s2, _⟩
        exact s2.seq hb1
      · rintro i v Hd hv ⟨s2, d2⟩
        obtain ⟨hi, rfl⟩ := tabF_at (m := mm) (f := wv (numOf sz) en t1) hv
        have vlt := wv_lt hE k1 hi
        have qpos := pos_card vlt
        refine ⟨rfl, ?_⟩
        refine ⟨_, rfl, _, rfl, _, _, rfl, rfl, ⟨by omega, by omega⟩, _, d2, ?_, same_put s2 hB, ?_⟩
        · rw [nats_length, List.length_take, tabE_len]
          exact small65537 (by omega)
        · have tg : (tabE (numOf sz) mm en (.first t1))[i]? = some (wv (numOf sz) en t1 i / q.card (numOf sz)) := by
            rw [tabE_get hi, Tm.val, ty_env hE hi k1]
          rw [upd_same, ← nats_take tg]
          dsimp only
          rw [fdiv_nat]
      · rintro Hd ⟨s2, d2⟩
        rw [nats_length, tabE_len, List.take_of_length_le (by rw [tabE_len]; exact Nat.le_refl _)] at d2
        exact kQ Hd B s2 (.inl hB) d2
    | second t1 =>
      obtain ⟨y1, i1, rfl, k1⟩ := KT.one kt
      obtain ⟨c1, rfl, ⟨dx1, fs1, q1, g1, g2, g3, g4⟩⟩ := KX.one kx
      obtain ⟨b1, rfl, hb1⟩ := TX.one tx
      have hb1 := SqL.of (K := K) hb1
      rw [typed, typed_at t1 l i1 _ y1 k1] at ty
      cases y1 with
      | var i => cases ty
      | two => cases ty
      | either p q => cases ty
      | fn p q => cases ty
      | pair p q =>
      cases ty
      refine ⟨_, rfl, a, _, dx, _, _, rfl, ha, T.cl_Part, T.n_Part_parts, ptF_parts, pl, _, _, _, rfl, rfl, SqL.of hpl, atI_nat (j := 0) rfl, ?_⟩
      refine ⟨_, rfl, a, _, dx, _, _, rfl, ha, T.cl_Part, T.n_Part_head, ptF_head, rfl, _, rfl, if_false_of rfl ?_⟩
      refine ⟨_, rfl, a, _, dx, _, _, rfl, ha, T.cl_Part, T.n_Part_head, ptF_head, rfl, _, rfl, if_false_of rfl ?_⟩
      refine ⟨_, rfl, a, _, dx, _, _, rfl, ha, T.cl_Part, T.n_Part_head, ptF_head, rfl, _, rfl, if_true_of rfl ?_⟩
      refine ⟨_, rfl, tb, _, _, _, rfl, rfl, SqL.of htb, atI_nat (j := 0) rfl, b1, rfl, ⟨_, hb1⟩, fun B hB => ?_⟩
      refine lc_list (K := K) (a := b1) (xs := nats (tabE (numOf sz) mm en t1)) (fun i Hd => Same H Hd ∧ Hd B = some (.lst (nats ((tabE (numOf sz) mm en (.second t1)).take i)))) ⟨Same.new hB, upd_same⟩ ?_ ?_ ?_
      · rintro i Hd _ ⟨s2, _⟩
        exact s2.seq hb1
      · rintro i v Hd hv ⟨s2, d2⟩
        obtain ⟨hi, rfl⟩ := tabF_at (m := mm) (f := wv (numOf sz) en t1) hv
        have vlt := wv_lt hE k1 hi
        have qpos := pos_card vlt
        refine ⟨rfl, ?_⟩
        refine ⟨_, rfl, _, rfl, a, _, dx, _, _, rfl, s2 _ _ ha, T.cl_Part, T.n_Part_extent, ptF_extent.trans (congrArg some hx), _, _, rfl, rfl, by omega, _, d2, ?_, same_put s2 hB, ?_⟩
        · rw [nats_length, List.length_take, tabE_len]
          exact small65537 (by omega)
        · have tg : (tabE (numOf sz) mm en (.second t1))[i]? = some (wv (numOf sz) en t1 i % x.card (numOf sz)) := by
            rw [tabE_get hi, Tm.val, ty_env hE hi k1]
          rw [upd_same, ← nats_take tg]
          dsimp only
          rw [fmod_nat]
      · rintro Hd ⟨s2, d2⟩
        rw [nats_length, tabE_len, List.take_of_length_le (by rw [tabE_len]; exact Nat.le_refl _)] at d2
        exact kQ Hd B s2 (.inl hB) d2
    | left b t1 =>
      obtain ⟨y1, i1, rfl, k1⟩ := KT.one kt
      obtain ⟨c1, rfl, ⟨dx1, fs1, q1, g1, g2, g3, g4⟩⟩ := KX.one kx
      obtain ⟨b1, rfl, hb1⟩ := TX.one tx
      refine ⟨_, rfl, a, _, dx, _, _, rfl, ha, T.cl_Part, T.n_Part_parts, ptF_parts, pl, _, _, _, rfl, rfl, SqL.of hpl, atI_nat (j := 0) rfl, ?_⟩
      refine ⟨_, rfl, a, _, dx, _, _, rfl, ha, T.cl_Part, T.n_Part_head, ptF_head, rfl, _, rfl, if_false_of rfl ?_⟩
      refine ⟨_, rfl, a, _, dx, _, _, rfl, ha, T.cl_Part, T.n_Part_head, ptF_head, rfl, _, rfl, if_false_of rfl ?_⟩
      refine ⟨_, rfl, a, _, dx, _, _, rfl, ha, T.cl_Part, T.n_Part_head, ptF_head, rfl, _, rfl, if_false_of rfl ?_⟩
      refine ⟨_, rfl, a, _, dx, _, _, rfl, ha, T.cl_Part, T.n_Part_head, ptF_head, rfl, _, rfl, if_true_of rfl ?_⟩
      refine ⟨_, rfl, tb, _, _, _, rfl, rfl, SqL.of htb, atI_nat (j := 0) rfl, ?_⟩
      exact kQ H b1 (Same.refl H) (.inr (List.mem_cons_self ..)) hb1
    | right b t1 =>
      obtain ⟨y1, i1, rfl, k1⟩ := KT.one kt
      obtain ⟨c1, rfl, ⟨dx1, fs1, q1, g1, g2, g3, g4⟩⟩ := KX.one kx
      obtain ⟨b1, rfl, hb1⟩ := TX.one tx
      have hb1 := SqL.of (K := K) hb1
      rw [typed, typed_at t1 l i1 _ y1 k1] at ty
      cases ty
      obtain ⟨qt, rfl, kt⟩ := ht
      obtain ⟨fp, fq⟩ := fx.either
      have c256 := fp.le
      refine ⟨_, rfl, a, _, dx, _, _, rfl, ha, T.cl_Part, T.n_Part_parts, ptF_parts, pl, _, _, _, rfl, rfl, SqL.of hpl, atI_nat (j := 0) rfl, ?_⟩
      refine ⟨_, rfl, a, _, dx, _, _, rfl, ha, T.cl_Part, T.n_Part_head, ptF_head, rfl, _, rfl, if_false_of rfl ?_⟩
      refine ⟨_, rfl, a, _, dx, _, _, rfl, ha, T.cl_Part, T.n_Part_head, ptF_head, rfl, _, rfl, if_false_of rfl ?_⟩
      refine ⟨_, rfl, a, _, dx, _, _, rfl, ha, T.cl_Part, T.n_Part_head, ptF_head, rfl, _, rfl, if_false_of rfl ?_⟩
      refine ⟨_, rfl, a, _, dx, _, _, rfl, ha, T.cl_Part, T.n_Part_head, ptF_head, rfl, _, rfl, if_false_of rfl ?_⟩
      refine ⟨_, rfl, a, _, dx, _, _, rfl, ha, T.cl_Part, T.n_Part_head, ptF_head, rfl, _, rfl, if_true_of rfl ?_⟩
      refine ⟨_, rfl, a, _, dx, _, _, rfl, ha, T.cl_Part, T.n_Part_told, ptF_told, _, rfl, qt, z, _, sz, 256, rfl, kt, hz, fp.2.1, fp.2.2, by decide, (fun e => (fp.no e).elim), (fun xx e => ?_)⟩
      rw [fp.eq e]
      refine ⟨_, rfl, tb, _, _, _, rfl, rfl, SqL.of htb, atI_nat (j := 0) rfl, b1, rfl, ⟨_, hb1⟩, fun B hB => ?_⟩
      refine lc_list (K := K) (a := b1) (xs := nats (tabE (numOf sz) mm en t1)) (fun i Hd => Same H Hd ∧ Hd B = some (.lst (nats ((tabE (numOf sz) mm en (.right b t1)).take i)))) ⟨Same.new hB, upd_same⟩ ?_ ?_ ?_
      · rintro i Hd _ ⟨s2, _⟩
        exact s2.seq hb1
      · rintro i v Hd hv ⟨s2, d2⟩
        obtain ⟨hi, rfl⟩ := tabF_at (m := mm) (f := wv (numOf sz) en t1) hv
        have vlt := wv_lt hE k1 hi
        refine ⟨rfl, ?_⟩
        refine ⟨_, rfl, _, rfl, _, _, rfl, rfl, _, d2, ?_, same_put s2 hB, ?_⟩
        · rw [nats_length, List.length_take, tabE_len]
          exact small65537 (by omega)
        · have tg : (tabE (numOf sz) mm en (.right b t1))[i]? = some (wv (numOf sz) en t1 i + b.card (numOf sz)) := by
            rw [tabE_get hi, Tm.val, Nat.add_comm]
          rw [upd_same, ← nats_take tg]
          rw [Int.natCast_add]
      · rintro Hd ⟨s2, d2⟩
        rw [nats_length, tabE_len, List.take_of_length_le (by rw [tabE_len]; exact Nat.le_refl _)] at d2
        exact kQ Hd B s2 (.inl hB) d2
    | cases t1 t2 t3 =>
      obtain ⟨y1, y2, y3, i1, i2, i3, rfl, k1, k2, k3⟩ := KT.three kt
      obtain ⟨c1, c2, c3, rfl, ⟨dx1, fs1, q1, g1, g2, g3, g4⟩, ⟨dx2, fs2, q2, g5, g6, g7, g8⟩, _⟩ := KX.three kx
      obtain ⟨b1, b2, b3, rfl, hb1, hb2, hb3⟩ := TX.three tx
      have hb1 := SqL.of (K := K) hb1
      have hb2 := SqL.of (K := K) hb2
      have hb3 := SqL.of (K := K) hb3
      obtain ⟨p, q, rfl, rfl, rfl⟩ := typed_cases_inv ty k1 k2 k3
      obtain ⟨qa, qb, gq, ga, gb⟩ := g4
      have f1 := fk _ (List.mem_cons_self ..)
      have f2 := fk (.fn p x) (by simp)
      have f3 := fk (.fn q x) (by simp)
      obtain ⟨fp, fq⟩ := f1.either
      have c256 := fp.le
      have cx := fx.le
      refine ⟨_, rfl, a, _, dx, _, _, rfl, ha, T.cl_Part, T.n_Part_parts, ptF_parts, pl, _, _, _, rfl, rfl, SqL.of hpl, atI_nat (j := 0) rfl, ?_⟩
      refine ⟨_, rfl, a, _, dx, _, _, rfl, ha, T.cl_Part, T.n_Part_head, ptF_head, rfl, _, rfl, if_false_of rfl ?_⟩
      refine ⟨_, rfl, a, _, dx, _, _, rfl, ha, T.cl_Part, T.n_Part_head, ptF_head, rfl, _, rfl, if_false_of rfl ?_⟩
      refine ⟨_, rfl, a, _, dx, _, _, rfl, ha, T.cl_Part, T.n_Part_head, ptF_head, rfl, _, rfl, if_false_of rfl ?_⟩
      refine ⟨_, rfl, a, _, dx, _, _, rfl, ha, T.cl_Part, T.n_Part_head, ptF_head, rfl, _, rfl, if_false_of rfl ?_⟩
      refine ⟨_, rfl, a, _, dx, _, _, rfl, ha, T.cl_Part, T.n_Part_head, ptF_head, rfl, _, rfl, if_false_of rfl ?_⟩
      refine ⟨_, rfl, a, _, dx, _, _, rfl, ha, T.cl_Part, T.n_Part_head, ptF_head, rfl, _, rfl, if_true_of rfl ?_⟩
      refine ⟨_, rfl, c1, _, dx1, _, _, rfl, g1, T.cl_Part, T.n_Part_kind, g3, q1, _, _, _, rfl, rfl, SqT.of gq, atI_nat (j := 1) rfl, _, rfl, _, z, _, sz, 256, rfl, ga, hz, fp.2.1, fp.2.2, by decide, (fun e => (fp.no e).elim), (fun xx e => ?_)⟩
      rw [fp.eq e]
      refine ⟨_, rfl, _, rfl, _, rfl, a, dx, pl, c1, dx1, tb, b1, b2, b3, _, _, _, wv (numOf sz) en t1, wv (numOf sz) en t2, wv (numOf sz) en t3, mm, x.card (numOf sz), (Ty.either p q).card (numOf sz), p.card (numOf sz), rfl, ha, ptF_extent.trans (congrArg some hx), ptF_parts, hpl, g1, g2, htb, hb1, hb2, hb3, hm, f1.le, cx, (fun i hi => ?_), fun H' pp s' hp' d' => ?_⟩
      · have v1 := wv_lt hE k1 hi
        have v2 := wv_lt hE k2 hi
        have v3 := wv_lt hE k3 hi
        have v1' : wv (numOf sz) en t1 i < p.card (numOf sz) + q.card (numOf sz) := v1
        have v2' : wv (numOf sz) en t2 i < x.card (numOf sz) ^ p.card (numOf sz) := v2
        have v3' : wv (numOf sz) en t3 i < x.card (numOf sz) ^ q.card (numOf sz) := v3
        have w2 : x.card (numOf sz) ^ p.card (numOf sz) ≤ 256 := f2.le
        have w3 : x.card (numOf sz) ^ q.card (numOf sz) ≤ 256 := f3.le
        have xpos : 0 < x.card (numOf sz) := by
          by_cases c : wv (numOf sz) en t1 i < p.card (numOf sz)
          · exact fn_pos v2' c
          · exact fn_pos (x := wv (numOf sz) en t1 i - p.card (numOf sz)) v3' (by omega)
        exact ⟨v1, xpos, fun c => Nat.le_trans (Nat.pow_le_pow_right xpos (Nat.le_of_lt c)) w2, fun c => Nat.le_trans (Nat.pow_le_pow_right xpos (by omega)) w3⟩
      · refine kQ H' pp s' (.inl hp') (d'.trans (congrArg (fun z => some (HO.lst (nats z))) ?_))
        refine List.map_congr_left fun c hc => ?_
        show _ = Tm.val (numOf sz) (en c) (.cases t1 t2 t3)
        rw [Tm.val, ty_env hE (List.mem_range.mp hc) k1, ty_env hE (List.mem_range.mp hc) k2]
    | app t1 t2 =>
      obtain ⟨y1, y2, i1, i2, rfl, k1, k2⟩ := KT.two kt
      obtain ⟨c1, c2, rfl, ⟨dx1, fs1, q1, g1, g2, g3, g4⟩, ⟨dx2, fs2, q2, g5, g6, g7, g8⟩⟩ := KX.two kx
      obtain ⟨b1, b2, rfl, hb1, hb2⟩ := TX.two tx
      have hb1 := SqL.of (K := K) hb1
      have hb2 := SqL.of (K := K) hb2
      obtain rfl := typed_app_inv ty k1 k2
      have f1 := fk _ (List.mem_cons_self ..)
      have f2 := fk y2 (by simp)
      have cx := fx.le
      have c2' := f2.le
      refine ⟨_, rfl, a, _, dx, _, _, rfl, ha, T.cl_Part, T.n_Part_parts, ptF_parts, pl, _, _, _, rfl, rfl, SqL.of hpl, atI_nat (j := 0) rfl, ?_⟩
      refine ⟨_, rfl, a, _, dx, _, _, rfl, ha, T.cl_Part, T.n_Part_head, ptF_head, rfl, _, rfl, if_false_of rfl ?_⟩
      refine ⟨_, rfl, a, _, dx, _, _, rfl, ha, T.cl_Part, T.n_Part_head, ptF_head, rfl, _, rfl, if_false_of rfl ?_⟩
      refine ⟨_, rfl, a, _, dx, _, _, rfl, ha, T.cl_Part, T.n_Part_head, ptF_head, rfl, _, rfl, if_false_of rfl ?_⟩
      refine ⟨_, rfl, a, _, dx, _, _, rfl, ha, T.cl_Part, T.n_Part_head, ptF_head, rfl, _, rfl, if_false_of rfl ?_⟩
      refine ⟨_, rfl, a, _, dx, _, _, rfl, ha, T.cl_Part, T.n_Part_head, ptF_head, rfl, _, rfl, if_false_of rfl ?_⟩
      refine ⟨_, rfl, a, _, dx, _, _, rfl, ha, T.cl_Part, T.n_Part_head, ptF_head, rfl, _, rfl, if_false_of rfl ?_⟩
      refine ⟨_, rfl, a, _, dx, _, _, rfl, ha, T.cl_Part, T.n_Part_head, ptF_head, rfl, _, rfl, if_true_of rfl ?_⟩
      refine ⟨_, rfl, tb, _, _, _, rfl, rfl, SqL.of htb, atI_nat (j := 0) rfl, _, rfl, tb, _, _, _, rfl, rfl, SqL.of htb, atI_nat (j := 1) rfl, _, rfl, a, _, dx, _, _, rfl, ha, T.cl_Part, T.n_Part_extent, ptF_extent.trans (congrArg some hx), _, rfl, a, _, dx, _, _, rfl, ha, T.cl_Part, T.n_Part_parts, ptF_parts, pl, _, _, _, rfl, rfl, SqL.of hpl, atI_nat (j := 1) rfl, c2, _, dx2, _, _, rfl, g5, T.cl_Part, T.n_Part_extent, g6, b1, b2, tabE (numOf sz) mm en t1, tabE (numOf sz) mm en t2, x.card (numOf sz), y2.card (numOf sz), rfl, hb1, hb2, (by rw [tabE_len]; exact hm), (by rw [tabE_len, tabE_len]), tabE_lt hE k2, c2', cx, (fun ne => ?_), fun H' pp s' hp' d' => ?_⟩
      · have hpos : 0 < mm := by
          rcases Nat.eq_zero_or_pos (mm) with e | e
          · exact absurd (by unfold tabE; rw [e]; rfl) ne
          · exact e
        have v1 : wv (numOf sz) en t1 0 < x.card (numOf sz) ^ y2.card (numOf sz) := wv_lt hE k1 hpos
        have v2 := wv_lt hE k2 hpos
        exact ⟨fn_pos v1 v2, f1.le⟩
      · refine kQ H' pp s' (.inl hp') (d'.trans (congrArg (fun z => some (HO.lst (nats z))) ?_))
        unfold tabE
        rw [List.zipWith_map, List.zipWith_self]
        refine List.map_congr_left fun c hc => ?_
        rw [Tm.val.eq_def (numOf sz) (en c) (.app t1 t2)]
        dsimp only
        rw [ty_env hE (List.mem_range.mp hc) k1]
    | if_ t1 t2 t3 =>
      obtain ⟨y1, y2, y3, i1, i2, i3, rfl, k1, k2, k3⟩ := KT.three kt
      obtain ⟨c1, c2, c3, rfl, ⟨dx1, fs1, q1, g1, g2, g3, g4⟩, ⟨dx2, fs2, q2, g5, g6, g7, g8⟩, _⟩ := KX.three kx
      obtain ⟨b1, b2, b3, rfl, hb1, hb2, hb3⟩ := TX.three tx
      have hb1 := SqL.of (K := K) hb1
      have hb2 := SqL.of (K := K) hb2
      have hb3 := SqL.of (K := K) hb3
      refine ⟨_, rfl, a, _, dx, _, _, rfl, ha, T.cl_Part, T.n_Part_parts, ptF_parts, pl, _, _, _, rfl, rfl, SqL.of hpl, atI_nat (j := 0) rfl, ?_⟩
      refine ⟨_, rfl, a, _, dx, _, _, rfl, ha, T.cl_Part, T.n_Part_head, ptF_head, rfl, _, rfl, if_false_of rfl ?_⟩
      refine ⟨_, rfl, a, _, dx, _, _, rfl, ha, T.cl_Part, T.n_Part_head, ptF_head, rfl, _, rfl, if_false_of rfl ?_⟩
      refine ⟨_, rfl, a, _, dx, _, _, rfl, ha, T.cl_Part, T.n_Part_head, ptF_head, rfl, _, rfl, if_false_of rfl ?_⟩
      refine ⟨_, rfl, a, _, dx, _, _, rfl, ha, T.cl_Part, T.n_Part_head, ptF_head, rfl, _, rfl, if_false_of rfl ?_⟩
      refine ⟨_, rfl, a, _, dx, _, _, rfl, ha, T.cl_Part, T.n_Part_head, ptF_head, rfl, _, rfl, if_false_of rfl ?_⟩
      refine ⟨_, rfl, a, _, dx, _, _, rfl, ha, T.cl_Part, T.n_Part_head, ptF_head, rfl, _, rfl, if_false_of rfl ?_⟩
      refine ⟨_, rfl, a, _, dx, _, _, rfl, ha, T.cl_Part, T.n_Part_head, ptF_head, rfl, _, rfl, if_false_of rfl ?_⟩
      refine ⟨_, rfl, tb, _, _, _, rfl, rfl, SqL.of htb, atI_nat (j := 0) rfl, _, rfl, tb, _, _, _, rfl, rfl, SqL.of htb, atI_nat (j := 1) rfl, _, rfl, tb, _, _, _, rfl, rfl, SqL.of htb, atI_nat (j := 2) rfl, b1, b2, b3, _, _, _, rfl, hb1, hb2, hb3, fun B hB => ?_⟩
      refine lc_it (Z3.walk_zip3 (xs := nats (tabE (numOf sz) mm en t1)) (ys := nats (tabE (numOf sz) mm en t2)) (zs := nats (tabE (numOf sz) mm en t3)) (n := mm) (by rw [nats_length, tabE_len]) (by rw [nats_length, tabE_len]) (by rw [nats_length, tabE_len])) (fun i Hd => Same H Hd ∧ Hd B = some (.lst (nats ((tabE (numOf sz) mm en (.if_ t1 t2 t3)).take i)))) ⟨Same.new hB, upd_same⟩ ?_ ?_ ?_
      · rintro i Hd _ ⟨s2, _⟩
        exact ⟨s2.seq hb1, s2.seq hb2, s2.seq hb3⟩
      · rintro i v Hd Hd' hi ⟨s2, d2⟩ ⟨U, v1, v2, v3, rfl, hU, rfl, e1, e2, e3⟩
        obtain ⟨_, rfl⟩ := tabF_at (m := mm) (f := wv (numOf sz) en t1) e1
        obtain ⟨_, rfl⟩ := tabF_at (m := mm) (f := wv (numOf sz) en t2) e2
        obtain ⟨_, rfl⟩ := tabF_at (m := mm) (f := wv (numOf sz) en t3) e3
        have s3 : Same Hd (upd Hd U (.tup [.int ((wv (numOf sz) en t1 i : Nat) : Int), .int ((wv (numOf sz) en t2 i : Nat) : Int), .int ((wv (numOf sz) en t3 i : Nat) : Int)])) := Same.new hU
        have s23 := Same.trans s2 s3
        have d3 := s3 _ _ d2
        have len : (nats ((tabE (numOf sz) mm en (.if_ t1 t2 t3)).take i)).length < sizeLine := by
          rw [nats_length, List.length_take, tabE_len]
          exact small65537 (by omega)
        have tg : (tabE (numOf sz) mm en (.if_ t1 t2 t3))[i]? = some (if wv (numOf sz) en t1 i = 1 then wv (numOf sz) en t2 i else wv (numOf sz) en t3 i) := by
          rw [tabE_get hi, Tm.val]
        refine ⟨U, _, rfl, SqT.of upd_same, rfl, _, _, rfl, _, _, rfl, _, _, rfl, rfl, rfl, ?_⟩
        refine ⟨_, rfl, rfl, _, rfl, ?_⟩
        by_cases c : wv (numOf sz) en t1 i = 1
        · refine if_true_of (decide_eq_true (by rw [c]; rfl)) ?_
          refine ⟨_, rfl, _, d3, len, same_put s23 hB, ?_⟩
          rw [upd_same, ← nats_take tg, if_pos c]
        · refine if_false_of (decide_eq_false (fun q => c (by injection q with q; omega))) ?_
          refine ⟨_, rfl, _, d3, len, same_put s23 hB, ?_⟩
          rw [upd_same, ← nats_take tg, if_neg c]
      · rintro Hd ⟨s2, d2⟩
        rw [List.take_of_length_le (by rw [tabE_len]; exact Nat.le_refl _)] at d2
        exact kQ Hd B s2 (.inl hB) d2
end
end FC
namespace FC
open PySem PySem.Spec PyProof.Rows L2
open Pa05 (Ty Tm typed)
theorem cut_given {n : Nat → Nat} {mm : Nat} {en : Nat → List (Ty × Nat)} {b : Ty} {u : Trm} {i : Nat} (hi : i < b.card n) : Z3.cutSt (nats (tabE n (mm * b.card n) (inE n b en) u)) (some (0 + (i : Int))) none (some ((b.card n : Nat) : Int)) = nats (tabF mm fun c => Tm.val n ((b, i) :: en c) u) := by
  have e : nats (tabE n (mm * b.card n) (inE n b en) u) = (List.range (mm * b.card n)).map (fun c => V.int ((Tm.val n (inE n b en c) u : Nat) : Int)) := by
    unfold nats tabE
    rw [List.map_map]
    rfl
  rw [e, Int.zero_add, Z3.cutSt_every (by omega) hi]
  unfold nats tabF
  rw [List.map_map]
  refine List.map_congr_left fun c hc => ?_
  show V.int _ = V.int _
  rw [inE_at hi]
theorem body_lt {n : Nat → Nat} {l : List Ty} {mm : Nat} {en : Nat → List (Ty × Nat)} {b y : Ty} {u : Trm} {i1 i c : Nat} (hE : EnOk n l mm en) (ty : typed (b :: l) i1 u = .ok y) (hi : i < b.card n) (hc : c < mm) : Tm.val n ((b, i) :: en c) u < y.card n := by
  refine val_lt u _ i1 y (by rw [List.map_cons, (hE c hc).1]; exact ty) ?_
  intro p hp
  rcases List.mem_cons.mp hp with e | e
  · rw [e]; exact hi
  · exact (hE c hc).2 p e
theorem zeros_nats (m : Nat) : (List.replicate m [V.int 0]).flatten = nats (List.replicate m 0) := by
  unfold nats
  rw [List.map_replicate]
  induction m with
  | zero => rfl
  | succ m ih => rw [List.replicate_succ, List.flatten_cons, ih]; rfl
section
variable {P : Program} {w : World} {K : PySem.W.Frag} {mg : Str → Option Value} {base : Heap}
def sp_function_table (T : Txt K mg) (S : Sp) : Sp := fun vs H Q E => ∃ (a dx pl ar z k1 dx1 : Addr) (fs1 : List (Str × V)) (tv : V) (D : Dyn) (no : Nat) (b : Ty) (u : Trm) (l : List Ty) (sz : List Nat) (y : Ty) (i1 mm : Nat) (en : Nat → List (Ty × Nat)) (g0 : List Nat), vs = [.ref a, .ref ar, .ref z] ∧
  H a = some (.ins T.C_Part dx (ptF 7 no tv pl D)) ∧ H pl = some (.lst [.ref k1]) ∧ ToldAt H (.ty b) tv ∧ Fits sz b ∧ H k1 = some (.ins T.C_Part dx1 fs1) ∧ fs1.lookup ("extent" : Str) = some (.int ((y.card (numOf sz) : Nat) : Int)) ∧ typed (b :: l) i1 u = .ok y ∧ y.card (numOf sz) ≤ 256 ∧
  H ar = some (.lst (nats (g0))) ∧ SqL K H z (nats sz) ∧ g0.length ≤ 100 ∧ mm ≤ 65536 ∧ mm * b.card (numOf sz) ≤ 65536 ∧ (∀ x ∈ g0, x ≤ 256) ∧ prodL g0 = mm ∧ EnOk (numOf sz) l mm en ∧
  (∀ H1 ar' Q' E', Same H H1 → H1 ar' = some (.lst (nats (g0 ++ [b.card (numOf sz)]))) → (∀ H2 p, Same H1 H2 → H1 p = none → H2 p = some (.lst (nats (tabE (numOf sz) (mm * b.card (numOf sz)) (inE (numOf sz) b en) u))) → Q' (.ref p) H2) → S [.ref k1, .ref ar', .ref z] H1 Q' E') ∧
  ∀ H' p, Same H H' → H p = none → H' p = some (.lst (nats (tabE (numOf sz) mm en (.lam b u)))) → Q (.ref p) H'
theorem ok_function_table_of (T : Txt K mg) (S : Sp) (lv : Nat) (hlv : 29 ≤ lv) (ih : FnOk P w K mg base CX0 lv T.f_part_table T.fd_part_table ["part", "around", "set_sizes"] S) : FnOk P w K mg base CX0 (lv + 1) T.f_function_table T.fd_function_table ["part", "around", "set_sizes"] (sp_function_table T S) := by
  refine T.F_function_table.ok sc_function_table (fun vs H Q E h => ?_) (fun cdv A outer s H vs Q E hr h => ⟨_, (pss_cons (ps_set (i := 3) sc_function_table.nd rfl (Or.inl rfl) (pe_call (ok_kind_size T 26) (hr.mono (by omega)) rfl T.g_kind_size T.k_kind_size T.b_kind_size .nil passL (pa_cons (pe_fld (pv 0) rfl) (pa_cons (pv 2) (pa_cons (pe_cst rfl T.g_LARGEST) pa_nil)))))
    (pss_cons (ps_set (i := 4) sc_function_table.nd rfl (Or.inl rfl) (pe_ix ix_list (pe_fld (pv 0) rfl) pe_int (fun _ _ => rfl)))
    (pss_cons (ps_set (i := 5) sc_function_table.nd rfl (Or.inl rfl) (pe_call ih (hr.mono (by omega)) rfl T.g_part_table T.k_part_table T.b_part_table .nil pass0 (pa_cons (pv 4) (pa_cons (pe_op op_cat (pv 1) (pe_lst (pa_cons (pv 3) pa_nil))) (pa_cons (pv 2) pa_nil)))))
    (pss_cons (ps_set (i := 6) sc_function_table.nd rfl (Or.inl rfl) (pe_op op_rep (pe_lst (pa_cons pe_int pa_nil)) (pe_call (ok_choices T) (hr.mono (by omega)) rfl T.g_choices T.k_choices T.b_choices .nil pass0 (pa_cons (pv 1) pa_nil))))
    (pss_cons (ps_set (i := 7) sc_function_table.nd rfl (Or.inr rfl) pe_int)
    (pss_cons (ps_for PassesOwn.never rfl (pi_range1 rfl T.n_range (pa_cons (pv 3) pa_nil)) (pg_name (i := 8) sc_function_table.nd rfl (Or.inl rfl))
      (pss_cons (ps_setLc (i := 6) (own := [("number", 9), ("value", 10)]) (by rfl) sc_function_table.nd rfl rfl (sw_true rfl rfl rfl (by decide +kernel)) (pi_zip rfl T.n_zip (pa_cons (pv 6) (pa_cons (Z3.pe_sliceSt (pv 5) (po_some (pv 8)) po_none (po_some (pv 3))) pa_nil))) (blkOk_by (own := [("number", 9), ("value", 10)]) (N := ["part", "around", "set_sizes", "size", "body", "given", "table", "power", "argument", "number", "value"]) (sc := defScope s_function_table) (by decide +kernel)) (fun _ _ _ _ _ => (pg_tupK (K := K) (n := 2) rfl rfl (pgs_cons (pg_name (i := 9) sc_function_table.nd rfl (Or.inl rfl)) (pgs_cons (pg_name (i := 10) sc_function_table.nd rfl (Or.inl rfl)) pgs_nil)))) (fun _ _ _ _ _ => pts_nil) (fun _ _ _ _ _ => (pe_op op_add (pv 9) (pe_op op_mul (pv 10) (pv 7)))))
      (pss_one (ps_set (i := 7) sc_function_table.nd rfl (Or.inr rfl) (pe_op op_mul (pv 7) (pe_fld (pv 4) rfl))))))
    (pss_one (ps_ret (pv 6))))))))), ?_⟩)
  · obtain ⟨a, dx, pl, ar, z, k1, dx1, fs1, tv, D, no, b, u, l, sz, y, i1, mm, en, g0, rfl, _⟩ := h
    rfl
  · obtain ⟨a, dx, pl, ar, z, k1, dx1, fs1, tv, D, no, b, u, l, sz, y, i1, mm, en, g0, rfl, ha, hpl, ht, fb, hk1, ge, ty, hy, har, hz, hl, hm, hm2, hg0, eP, hE, hS, kQ⟩ := h
    obtain ⟨qt, rfl, kt⟩ := ht
    have cb := fb.le
    refine ⟨_, rfl, a, _, dx, _, _, rfl, ha, T.cl_Part, T.n_Part_told, ptF_told, _, rfl, qt, z, _, sz, 256, rfl, kt, hz, fb.2.1, fb.2.2, by decide, (fun e => (fb.no e).elim), (fun xx e => ?_)⟩
    rw [fb.eq e]
    refine ⟨_, rfl, a, _, dx, _, _, rfl, ha, T.cl_Part, T.n_Part_parts, ptF_parts, pl, _, _, _, rfl, rfl, SqL.of hpl, atI_nat (j := 0) rfl, ?_⟩
    have pb : ∀ x ∈ g0, x < 1073741824 := fun x hx => by
      have := hg0 x hx
      omega
    refine ⟨_, rfl, _, rfl, _, rfl, Nat.le_of_lt (small1000 (by show 1 ≤ 1000; decide)), fun p1 hp1 => ?_⟩
    have s1 : Same H (upd H p1 (.lst [.int ((b.card (numOf sz) : Nat) : Int)])) := Same.new hp1
    refine ⟨ar, p1, _, _, rfl, rfl, s1 _ _ har, upd_same, (by rw [nats_length]; exact Nat.le_of_lt (small1000 (by show g0.length + 1 ≤ 1000; omega))), fun p2 hp2 => ?_⟩
    have s2 := Same.trans s1 (Same.new (o := .lst (nats (g0) ++ [.int ((b.card (numOf sz) : Nat) : Int)])) hp2)
    refine ⟨_, rfl, ?_⟩
    refine hS _ p2 _ _ s2 (upd_same.trans (by rw [nats_app]; rfl)) (fun H3 g s3 _ hg0' => ?_)
    have hg := SqL.of (K := K) hg0'
    have s13 := Same.trans s2 s3
    refine ⟨Nat.le_of_lt (small1000 (by decide)), fun p3 hp3 => ?_⟩
    have s14 := Same.trans s13 (Same.new (o := .lst [.int 0]) hp3)
    refine ⟨_, rfl, ar, g0, rfl, SqL.of (s14 _ _ har), pb, fun H4 s4 => ?_⟩
    rw [eP]
    have s15 := Same.trans s14 s4
    refine ⟨p3, _, _, rfl, rfl, s4 _ _ upd_same, by omega, by omega, ?_, fun p4 hp4 => ?_⟩
    · rw [Int.toNat_natCast]
      exact Nat.le_of_lt (small65537 (by show 1 * _ ≤ 65537; omega))
    rw [Int.toNat_natCast, zeros_nats, ← lamE_zero (b := b) (t := u) (q := y.card (numOf sz))]
    have s35 : Same H3 H4 := Same.trans (Same.new hp3) s4
    refine ⟨_, rfl, ((b.card (numOf sz) : Nat) : Int), rfl, by omega, by omega, ?_⟩
    rw [Int.toNat_natCast]
    refine for_range (lo := 0) (n := b.card (numOf sz)) (fun i σ Hd => Same H Hd ∧ SqL K Hd g (nats (tabE (numOf sz) (mm * b.card (numOf sz)) (inE (numOf sz) b en) u)) ∧ ∃ (tb : Addr) (v8 : Option V), H tb = none ∧ Hd tb = some (.lst (nats (lamE (numOf sz) mm en b u (y.card (numOf sz)) i))) ∧ σ = [some (.ref a), some (.ref ar), some (.ref z), some (.int ((b.card (numOf sz) : Nat) : Int)), some (.ref k1), some (.ref g), some (.ref tb), some (.int ((y.card (numOf sz) ^ i : Nat) : Int)), v8, none, none]) ⟨Same.trans s15 (Same.new hp4), (Same.trans s35 (Same.new hp4)).seq hg, p4, none, same_none s15 hp4, upd_same, rfl⟩ ?_ ?_
    · rintro i σ Hd hi ⟨r1, r2, tb, v8, r0, r3, rfl⟩
      refine ⟨_, rfl, _, rfl, _, rfl, _, rfl, _, rfl, _, rfl, (fun q => ?_), g, _, rfl, r2, fun ps hps => ?_⟩
      · injection q with q
        omega
      rw [cut_given hi]
      have t1 : Same Hd (upd Hd ps (.lst (nats (tabF (mm) fun c => Tm.val (numOf sz) ((b, i) :: en c) u)))) := Same.new hps
      refine ⟨tb, ps, _, _, rfl, SqL.of (t1 _ _ r3), SqL.of upd_same, fun B hB => ?_⟩
      refine lc_it (walk_zip (xs := nats (lamE (numOf sz) mm en b u (y.card (numOf sz)) i)) (ys := nats (tabF (mm) fun c => Tm.val (numOf sz) ((b, i) :: en c) u)) (n := mm) (by rw [nats_length, nats_length, tabF_len, lamE_len, Nat.min_self])) (fun j He => Same Hd He ∧ He ps = some (.lst (nats (tabF (mm) fun c => Tm.val (numOf sz) ((b, i) :: en c) u))) ∧ He B = some (.lst (nats ((lamE (numOf sz) mm en b u (y.card (numOf sz)) (i + 1)).take j)))) ⟨Same.trans t1 (Same.new hB), Same.new hB _ _ upd_same, upd_same⟩ ?_ ?_ ?_
      · rintro j He _ ⟨w1, w2, _⟩
        exact ⟨SqL.of (w1 _ _ r3), SqL.of w2⟩
      · rintro j v He He' hj ⟨w1, w2, w3⟩ ⟨U, v1, v2, rfl, hU, rfl, e1, e2⟩
        obtain ⟨_, rfl⟩ := tabF_at (m := mm) (f := fun c => Pa05.table (y.card (numOf sz)) ((List.range i).map fun x => Tm.val (numOf sz) ((b, x) :: en c) u)) e1
        obtain ⟨_, rfl⟩ := tabF_at (m := mm) (f := fun c => Tm.val (numOf sz) ((b, i) :: en c) u) e2
        have vlt := body_lt hE ty hi hj
        have t3 : Same He (upd He U (.tup [.int ((Pa05.table (y.card (numOf sz)) ((List.range i).map fun x => Tm.val (numOf sz) ((b, x) :: en j) u) : Nat) : Int), .int ((Tm.val (numOf sz) ((b, i) :: en j) u : Nat) : Int)])) := Same.new hU
        have tg : (lamE (numOf sz) mm en b u (y.card (numOf sz)) (i + 1))[j]? = some (Pa05.table (y.card (numOf sz)) ((List.range i).map fun x => Tm.val (numOf sz) ((b, x) :: en j) u) + Tm.val (numOf sz) ((b, i) :: en j) u * y.card (numOf sz) ^ i) := by
          unfold lamE
          rw [List.getElem?_map, List.getElem?_range hj, ← lamE_succ]
          rfl
        have hUB : B ≠ U := ne_of_none w3 hU
        have hpB : ps ≠ B := ne_of_none (Same.refl _ _ _ upd_same) hB
        refine ⟨U, _, rfl, SqT.of upd_same, rfl, _, _, rfl, _, _, rfl, rfl, rfl, ?_⟩
        refine ⟨_, rfl, _, rfl, _, rfl, _, _, rfl, rfl, .inl ⟨by omega, by omega⟩, _, _, rfl, rfl, _, t3 _ _ w3, ?_, same_put (Same.trans w1 t3) (same_none t1 hB), ?_, ?_⟩
        · rw [nats_length, List.length_take, lamE_len]
          exact small65537 (by omega)
        · rw [upd_ne hpB]
          exact t3 _ _ w2
        · rw [upd_same, ← nats_take tg, Int.natCast_add, Int.natCast_mul]
      · rintro He ⟨w1, w2, w3⟩
        rw [List.take_of_length_le (by rw [lamE_len]; exact Nat.le_refl _)] at w3
        refine ⟨_, rfl, _, rfl, k1, _, dx1, _, _, rfl, Same.trans r1 w1 _ _ hk1, T.cl_Part, T.n_Part_extent, ge, _, _, rfl, rfl, .inr ⟨by omega, by omega⟩, Same.trans r1 w1, Same.seq w1 r2, B, some (.int (0 + (i : Int))), same_none (Same.trans r1 t1) hB, w3, ?_⟩
        rw [Nat.pow_succ, Int.natCast_mul]
        rfl
    · rintro σ Hd ⟨r1, r2, tb, v8, r0, r3, rfl⟩
      refine ⟨_, rfl, kQ Hd tb r1 r0 ?_⟩
      rw [← lamE_all hE ty]
      exact r3
end
end FC
namespace FC
open PySem PySem.Spec PyProof.Rows L2
open Pa05 (Ty Tm typed)
/-- the own parts of a part, by their numbers -/
theorem kid_nodes {ls : List Addr} {t0 : Trm} {e : List Ty} : ∀ {ts : List Trm} {n : Nat} {as : List Addr}, (∀ (i : Nat) (p : List Ty × Trm), (ts.flatMap (nodesE e))[i]? = some p → (nodesE [] t0)[n + i]? = some p) → KidsAt ls (nos n ts) as →
    ∀ (j : Nat) (kid : Trm), ts[j]? = some kid → ∃ (n' : Nat) (b : Addr), as[j]? = some b ∧ ls[n']? = some b ∧ (nodesE [] t0)[n']? = some (e, kid)
  | [], _, _, _, _, j, kid, hj => by simp at hj
  | t :: ts, n, as, h, hk, j, kid, hj => by
    cases as with
    | nil => exact hk.elim
    | cons a as =>
      have hk' : ls[n]? = some a ∧ KidsAt ls (nos (n + t.size) ts) as := hk
      cases j with
      | zero =>
        cases hj
        refine ⟨n, a, rfl, hk'.1, ?_⟩
        have := h 0 (e, t) (by rw [List.flatMap_cons, nodesE_eq]; rfl)
        rwa [Nat.add_zero] at this
      | succ j =>
        refine kid_nodes (n := n + t.size) (fun i p hp => ?_) hk'.2 j kid hj
        have := h (t.size + i) p (by rw [List.flatMap_cons, List.getElem?_append_right (by rw [nodesE_len]; omega), nodesE_len, Nat.add_sub_cancel_left]; exact hp)
        rwa [← Nat.add_assoc] at this
section
variable {K : PySem.W.Frag} {mg : Str → Option Value}
/-- what is known of the part of number m -/
def NodeAt (C : Addr) (H : Hp) (ls : List Addr) (D : Nat → Dyn) (t0 : Trm) (sz : List Nat) (m : Nat) (l : List Ty) (t : Trm) (a : Addr) : Prop := ∃ (dx pl q : Addr) (tv : V) (as : List Addr) (x : Ty),
  H a = some (.ins C dx (ptF (hd t) m tv pl (D m))) ∧ H pl = some (.lst (as.map V.ref)) ∧ ToldAt H (toldOf t) tv ∧ typed l 0 t = .ok x ∧ (D m).ext = .int ((x.card (numOf sz) : Nat) : Int) ∧ (D m).kind = .ref q ∧ KindAt H x q ∧ Fits sz x ∧ KidsAt ls (nos (m + 1) (kids t)) as ∧
  ∀ (j : Nat) (kid : Trm), (kids t)[j]? = some kid → ∃ (n' : Nat) (b : Addr), as[j]? = some b ∧ ls[n']? = some b ∧ (nodesE [] t0)[n']? = some (inEnv t l, kid)
theorem node_at {C : Addr} {H : Hp} {G : Addr → Prop} {ls : List Addr} {D : Nat → Dyn} {t0 : Trm} {sz : List Nat} {m : Nat} {l : List Ty} {t : Trm} {a : Addr} (tm : TermAt C H G ls D 0 t0) (kk : AllAt (KOk H D) 0 (nodesE [] t0)) (ee : AllAt (EOk (numOf sz) D) 0 (nodesE [] t0)) (tok : TmOk sz.length t0) (hdt : tdp t0 ≤ 20)
    (hn : (nodesE [] t0)[m]? = some (l, t)) (ha : ls[m]? = some a) : NodeAt C H ls D t0 sz m l t a := by
  have pa := tm m t (at_snd hn)
  rw [Nat.zero_add] at pa
  obtain ⟨a', dx, pl, tv, as, e1, e2, e3, e4, e5, e6⟩ := pa
  rw [ha] at e1
  cases e1
  have ko := kk m _ hn
  rw [Nat.zero_add] at ko
  obtain ⟨q, x, o1, o2, o3⟩ := ko
  have eo := ee m _ hn
  rw [Nat.zero_add] at eo
  obtain ⟨x', c, y1, y2, y3⟩ := eo
  have ex : x' = x := by
    have : (Except.ok x' : Except Pa05.Fault Ty) = .ok x := y1.symm.trans o3
    injection this
  subst ex
  obtain ⟨z1, z2⟩ := node_ok tok (List.mem_of_getElem? hn) o3 hdt
  refine ⟨dx, pl, q, tv, as, x', e2, e4, e6, o3, ?_, o1, o2, ⟨⟨c, y2⟩, z1, z2⟩, e5, kid_nodes (fun i p hp => ?_) e5⟩
  · rw [small_card _ _ _ _ y2]
    exact y3
  · have := blk t0.size t0 (Nat.le_refl _) [] m l t hn (i + 1) p (by rw [nodesE_eq]; exact hp)
    rw [show m + 1 + i = m + (i + 1) by omega]
    exact this
theorem kids_all {C : Addr} {H : Hp} {sz : List Nat} {e : List Ty} : ∀ {ts : List Trm} {as : List Addr}, as.length = ts.length → (∀ (j : Nat) (kid : Trm), ts[j]? = some kid → ∃ (b : Addr) (x : Ty), as[j]? = some b ∧ typed e 0 kid = .ok x ∧ Fits sz x ∧ KX1 C H (numOf sz) b x) →
    ∃ xs, KX C H (numOf sz) as xs ∧ KT e ts xs ∧ ∀ y ∈ xs, Fits sz y
  | [], [], _, _ => ⟨[], trivial, trivial, fun y hy => by cases hy⟩
  | t :: ts, a :: as, hl, h => by
    obtain ⟨xs, h1, h2, h3⟩ := kids_all (ts := ts) (as := as) (by simpa using hl) (fun j kid hj => h (j + 1) kid hj)
    obtain ⟨b, x, hb, hx, hf, hk⟩ := h 0 t rfl
    cases hb
    refine ⟨x :: xs, ⟨hk, h1⟩, ⟨⟨0, hx⟩, h2⟩, fun y hy => ?_⟩
    rcases List.mem_cons.mp hy with rfl | q
    · exact hf
    · exact h3 y q
  | [], _ :: _, hl, _ => by simp at hl
  | _ :: _, [], hl, _ => by simp at hl
theorem NodeAt.kx {C : Addr} {H : Hp} {ls : List Addr} {D : Nat → Dyn} {t0 : Trm} {sz : List Nat} {m : Nat} {l : List Ty} {t : Trm} {a : Addr} (h : NodeAt C H ls D t0 sz m l t a) : ∃ x, typed l 0 t = .ok x ∧ Fits sz x ∧ KX1 C H (numOf sz) a x := by
  obtain ⟨dx, pl, q, tv, as, x, h1, h2, h3, h4, h5, h6, h7, h8, _⟩ := h
  exact ⟨x, h4, h8, dx, _, q, h1, ptF_extent.trans (congrArg some h5), ptF_kind.trans (congrArg some h6), h7⟩
end
end FC
namespace FC
open PySem PySem.Spec PyProof.Rows L2
open Pa05 (Ty Tm typed)
theorem reps_nats (m v : Nat) : (List.replicate m [V.int (v : Int)]).flatten = nats (List.replicate m v) := by
  unfold nats
  rw [List.map_replicate]
  induction m with
  | zero => rfl
  | succ m ih => rw [List.replicate_succ, List.flatten_cons, ih]; rfl
theorem Fits.fn {sz : List Nat} {a b : Ty} (h : Fits sz (.fn a b)) : Fits sz a := by
  obtain ⟨⟨c, e⟩, ⟨o1, o2⟩, d⟩ := h
  have d' : max (dp a) (dp b) + 1 ≤ 26 := d
  exact ⟨Option.isSome_iff_exists.mp (small_fn_arg (b := b) (by rw [e]; rfl)), o1, by omega⟩
theorem TX.mono {K : PySem.W.Frag} {H H' : Hp} {nn : Nat → Nat} {mm : Nat} {en : Nat → List (Ty × Nat)} : ∀ {bs : List Addr} {ts : List Trm}, (∀ b ∈ bs, ∀ o, H b = some o → H' b = some o) → TX K H nn mm en bs ts → TX K H' nn mm en bs ts
  | [], [], _, _ => trivial
  | b :: bs, t :: ts, h, x => ⟨h b (List.mem_cons_self ..) _ x.1, TX.mono (fun c hc => h c (List.mem_cons_of_mem _ hc)) x.2⟩
  | [], _ :: _, _, x => x.elim
  | _ :: _, [], _, x => x.elim
theorem TX.snoc {K : PySem.W.Frag} {H : Hp} {nn : Nat → Nat} {mm : Nat} {en : Nat → List (Ty × Nat)} {b : Addr} {t : Trm} (hb : H b = some (.lst (nats (tabE nn mm en t)))) : ∀ {bs : List Addr} {ts : List Trm}, TX K H nn mm en bs ts → TX K H nn mm en (bs ++ [b]) (ts ++ [t])
  | [], [], _ => ⟨hb, trivial⟩
  | _ :: _, _ :: _, x => ⟨x.1, TX.snoc hb x.2⟩
  | [], _ :: _, x => x.elim
  | _ :: _, [], x => x.elim
theorem work_var {n : Nat → Nat} {k : Nat} : (Pa05.Tm.var k).work n ≠ 0 := by simp [Pa05.Tm.work]
/-- a test of two halves that does not hold -/
theorem skip2 {c : Bool} {A Z R : Prop} (hZ : R → Z) (h : R) (hA : c = true → R → A) : if c = true then A else Z := by
  cases c with
  | true => exact hA rfl h
  | false => exact hZ h
section
variable {P : Program} {w : World} {K : PySem.W.Frag} {mg : Str → Option Value} {base : Heap}
def sp_part_table (T : Txt K mg) (d : Nat) : Sp := fun vs H Q E => ∃ (a ar z : Addr) (ls : List Addr) (D : Nat → Dyn) (G : Addr → Prop) (t0 : Trm) (m : Nat) (l : List Ty) (t : Trm) (sz g : List Nat) (mm : Nat) (en : Nat → List (Ty × Nat)), vs = [.ref a, .ref ar, .ref z] ∧ ls[m]? = some a ∧ (nodesE [] t0)[m]? = some (l, t) ∧ 2 * tdp t ≤ d ∧ (g ≠ [] → 2 * tdp t + 1 ≤ d) ∧
  ls.Nodup ∧ TermAt T.C_Part H G ls D 0 t0 ∧ AllAt (KOk H D) 0 (nodesE [] t0) ∧ AllAt (EOk (numOf sz) D) 0 (nodesE [] t0) ∧ AllAt (WOk (numOf sz) D) 0 (nodesE [] t0) ∧ TmOk sz.length t0 ∧ tdp t0 ≤ 20 ∧ t0.work (numOf sz) ≤ 65536 ∧ H ar = some (.lst (nats g)) ∧ SqL K H z (nats sz) ∧
  g.length + d ≤ 100 ∧ (∀ x ∈ l, 1 ≤ x.card (numOf sz) ∧ x.card (numOf sz) ≤ 256) ∧ (∀ x ∈ g, x ≤ 256) ∧ prodL g = mm ∧ mm ≤ 65536 ∧ EnOk (numOf sz) l mm en ∧ (t.work (numOf sz) ≠ 0 → g = szs (numOf sz) l ∧ mm = prodAt (numOf sz) l ∧ en = envAt (numOf sz) l) ∧
  ∀ H' p, Same H H' → H p = none → H' p = some (.lst (nats (tabE (numOf sz) mm en t))) → Q (.ref p) H'
theorem ok_part_table (T : Txt K mg) : ∀ d, FnOk P w K mg base CX0 (2 * d + 30) T.f_part_table T.fd_part_table ["part", "around", "set_sizes"] (sp_part_table T d) := by
  intro d
  induction d with
  | zero =>
    refine T.F_part_table.ok sc_part_table (fun vs H Q E h => ?_) (fun cdv A outer s H vs Q E hr h => ?_)
    · obtain ⟨a, ar, z, ls, D, G, t0, m, l, t, sz, g, mm, en, rfl, _⟩ := h
      rfl
    · obtain ⟨a, ar, z, ls, D, G, t0, m, l, t, sz, g, mm, en, rfl, _, _, hd, _⟩ := h
      have := tdp_pos t
      omega
  | succ d ih =>
    refine T.F_part_table.ok sc_part_table (fun vs H Q E h => ?_) (fun cdv A outer s H vs Q E hr h => ⟨_, (pss_cons (ps_if (pt_cmpR op_eq (pe_fld (pv 0) rfl) pe_int (nomark _))
      (pss_one (ps_ret (pe_op op_rep (pe_lst (pa_cons pe_int pa_nil)) (pe_call (ok_choices T) (hr.mono (by omega)) rfl T.g_choices T.k_choices T.b_choices .nil pass0 (pa_cons (pv 1) pa_nil)))))
      pss_nil)
    (pss_cons (ps_if (PW.pt (pw_and (pt_cmpR op_eq (pe_fld (pv 0) rfl) pe_int (nomark _)) (pw_and1 (pt_cmpR op_gt (pe_callB call_len_seq rfl T.n_len (by decide +kernel) (pa_cons (pv 1) pa_nil)) pe_int (nomark _)))))
      (pss_one (ps_ret (pe_op op_rep (pe_call ih (hr.mono (by omega)) rfl T.g_part_table T.k_part_table T.b_part_table .nil pass0 (pa_cons (pv 0) (pa_cons (pe_lst pa_nil) (pa_cons (pv 2) pa_nil)))) (pe_call (ok_choices T) (hr.mono (by omega)) rfl T.g_choices T.k_choices T.b_choices .nil pass0 (pa_cons (pv 1) pa_nil)))))
      pss_nil)
    (pss_cons (ps_if (pt_cmpR op_eq (pe_fld (pv 0) rfl) (pe_cst rfl T.g_VARIABLE_TERM) (nomark _))
      (pss_one (ps_ret (pe_call (ok_variable_table T) (hr.mono (by omega)) rfl T.g_variable_table T.k_variable_table T.b_variable_table .nil pass0 (pa_cons (pe_fld (pv 0) rfl) (pa_cons (pv 1) pa_nil)))))
      pss_nil)
    (pss_cons (ps_if (pt_cmpR op_eq (pe_fld (pv 0) rfl) (pe_cst rfl T.g_FUNCTION_TERM) (nomark _))
      (pss_one (ps_ret (pe_call (ok_function_table_of T _ _ (by omega) ih) (hr.mono (by omega)) rfl T.g_function_table T.k_function_table T.b_function_table .nil pass0 (pa_cons (pv 0) (pa_cons (pv 1) (pa_cons (pv 2) pa_nil))))))
      pss_nil)
    (pss_cons (ps_if (pt_cmpR op_eq (pe_fld (pv 0) rfl) (pe_cst rfl T.g_YES) (nomark _))
      (pss_one (ps_ret (pe_op op_rep (pe_lst (pa_cons pe_int pa_nil)) (pe_call (ok_choices T) (hr.mono (by omega)) rfl T.g_choices T.k_choices T.b_choices .nil pass0 (pa_cons (pv 1) pa_nil)))))
      pss_nil)
    (pss_cons (ps_if (pt_cmpR op_eq (pe_fld (pv 0) rfl) (pe_cst rfl T.g_NO) (nomark _))
      (pss_one (ps_ret (pe_op op_rep (pe_lst (pa_cons pe_int pa_nil)) (pe_call (ok_choices T) (hr.mono (by omega)) rfl T.g_choices T.k_choices T.b_choices .nil pass0 (pa_cons (pv 1) pa_nil)))))
      pss_nil)
    (pss_one (ps_ret (pe_call (ok_joined_table T) (hr.mono (by omega)) rfl T.g_joined_table T.k_joined_table T.b_joined_table .nil pass0 (pa_cons (pv 0) (pa_cons (pe_lc (own := [("own", 3)]) (by rfl) sc_part_table.nd (pi_list (pe_fld (pv 0) rfl)) (blkOk_by (own := [("own", 3)]) (N := ["part", "around", "set_sizes", "own"]) (sc := defScope s_part_table) (by decide +kernel)) (fun _ _ _ _ _ => (pg_name (i := 3) sc_part_table.nd rfl (Or.inl rfl))) (fun _ _ _ _ _ => pts_nil) (fun _ _ _ _ _ => (pe_call ih (hr.mono (by omega)) rfl T.g_part_table T.k_part_table T.b_part_table .nil pass0 (pa_cons (pv 3) (pa_cons (pv 1) (pa_cons (pv 2) pa_nil)))))) (pa_cons (pv 2) pa_nil)))))))))))), ?_⟩)
    · obtain ⟨a, ar, z, ls, D, G, t0, m, l, t, sz, g, mm, en, rfl, _⟩ := h
      rfl
    · obtain ⟨a, ar, z, ls, D, G, t0, m, l, t, sz, g, mm, en, rfl, hla, hn, hd, hd1, nd, tm, kk, ee, ww, tok, hdt, hw0, har, hz, hll, hc, hg, eP, hm, hE, tie, kQ⟩ := h
      obtain ⟨dx, pl, q, tv, as, x, n1, n2, n3, n4, n5, n6, n7, n8, n9, n10⟩ := node_at tm kk ee tok hdt hn hla
      have w0 : (D m).wt = .int ((t.work (numOf sz) : Nat) : Int) := by
        have := ww m _ hn
        rw [Nat.zero_add] at this
        exact this
      have pb : ∀ x ∈ g, x < 1073741824 := fun x hx => by
        have := hg x hx
        omega
      have mono : ∀ {H1 : Hp}, Same H H1 → TermAt T.C_Part H1 G ls D 0 t0 ∧ AllAt (KOk H1 D) 0 (nodesE [] t0) := fun s1 =>
        ⟨AllAt.imp tm fun q u _ x => x.fr (lo := 0) (hi := 0) (Same.pfr s1) (fun m b h1 h2 => absurd h2 (by omega)) nd (.inr (by omega)) rfl, AllAt.imp kk fun q u _ x => x.mono (Same.tups s1) rfl⟩
      refine ⟨_, rfl, a, _, dx, _, _, rfl, n1, T.cl_Part, T.n_Part_extent, ptF_extent.trans (congrArg some n5), rfl, _, rfl, ?_⟩
      by_cases c : x.card (numOf sz) = 1
      · refine if_true_of (decide_eq_true (by rw [c]; rfl)) ?_
        refine ⟨Nat.le_of_lt (small1000 (by decide)), fun p3 hp3 => ?_⟩
        have s3 : Same H (upd H p3 (.lst [.int 0])) := Same.new hp3
        refine ⟨_, rfl, ar, g, rfl, SqL.of (s3 _ _ har), pb, fun H4 s4 => ?_⟩
        rw [eP]
        refine ⟨p3, _, _, rfl, rfl, s4 _ _ upd_same, by omega, by omega, ?_, fun p4 hp4 => ?_⟩
        · rw [Int.toNat_natCast]
          exact Nat.le_of_lt (small65537 (by show 1 * _ ≤ 65537; omega))
        rw [Int.toNat_natCast]
        have s34 := Same.trans s3 s4
        exact kQ _ p4 (Same.trans s34 (Same.new hp4)) (same_none s34 hp4) (upd_same.trans (by rw [tabE_one hE n4 c]; exact congrArg (fun z => some (HO.lst z)) (reps_nats _ 0)))
      · refine if_false_of (decide_eq_false (fun e => c (by injection e with e; omega))) ?_
        refine ⟨_, rfl, a, _, dx, _, _, rfl, n1, T.cl_Part, T.n_Part_weight, ptF_weight.trans (congrArg some w0), rfl, _, rfl, ?_⟩
        by_cases cw : t.work (numOf sz) = 0 ∧ g ≠ []
        · obtain ⟨c0, cg⟩ := cw
          have gl : 0 < g.length := List.length_pos_iff.mpr cg
          have hd2 := hd1 cg
          refine if_true_of (decide_eq_true (by rw [c0]; rfl)) ?_
          refine ⟨_, rfl, ar, nats g, rfl, .inl (SqL.of har), _, _, rfl, rfl, _, rfl, if_true_of (decide_eq_true (by rw [nats_length]; omega)) ?_⟩
          refine ⟨_, rfl, by decide, fun p1 hp1 => ?_⟩
          have s1 : Same H (upd H p1 (.lst [])) := Same.new hp1
          refine ⟨_, rfl, a, p1, z, ls, D, G, t0, m, l, t, sz, [], 1, en0 l, rfl, hla, hn, by omega, (fun q => absurd rfl q), nd, (mono s1).1, (mono s1).2, ee, ww, tok, hdt, hw0, upd_same, s1.seq hz, (by show 0 + d ≤ 100; omega), hc, (fun x hx => by cases hx), rfl, by decide, en0_ok (fun x hx => (hc x hx).1), (fun q => absurd c0 q), fun H2 p2 s2 hp2 d2 => ?_⟩
          have s12 := Same.trans s1 s2
          refine ⟨_, rfl, ar, g, rfl, SqL.of (s12 _ _ har), pb, fun H4 s4 => ?_⟩
          rw [eP]
          have s14 := Same.trans s12 s4
          refine ⟨p2, _, _, rfl, rfl, s4 _ _ d2, by omega, by omega, ?_, fun p4 hp4 => ?_⟩
          · rw [Int.toNat_natCast, nats_length, tabE_len]
            exact Nat.le_of_lt (small65537 (by omega))
          rw [Int.toNat_natCast]
          exact kQ _ p4 (Same.trans s14 (Same.new hp4)) (same_none s14 hp4) (upd_same.trans (by rw [tabE_closed hE c0]; exact congrArg (fun z => some (HO.lst z)) (reps_nats _ _)))
        · refine skip2 (fun hr => if_false_of rfl hr) ?_ (fun h0 hr => ?_)
          case refine_2 =>
            have h0' := of_decide_eq_true h0
            have h1 : t.work (numOf sz) = 0 := by
              injection h0' with h0'
              omega
            have h2 : g = [] := Classical.byContradiction fun q => cw ⟨h1, q⟩
            refine ⟨_, rfl, ar, nats g, rfl, .inl (SqL.of har), _, _, rfl, rfl, _, rfl, if_false_of (decide_eq_false (by rw [nats_length, h2]; decide)) hr⟩
          have g0 : t.work (numOf sz) = 0 → mm = 1 := fun q => by
            have h2 : g = [] := Classical.byContradiction fun q' => cw ⟨q, q'⟩
            rw [← eP, h2]
            rfl
          by_cases ct : (∃ k, t = .var k) ∨ (∃ b u, t = .lam b u) ∨ t = .yes ∨ t = .no
          · rcases ct with ⟨k, rfl⟩ | ⟨b, u, rfl⟩ | rfl | rfl
            · have hk : l[k]? = some x := by
                rw [typed] at n4
                cases e : l[k]? with
                | none => rw [e] at n4; cases n4
                | some y => rw [e] at n4; cases n4; rfl
              have n3' : tv = .int (k : Int) := n3
              subst n3'
              obtain ⟨rfl, e2, rfl⟩ := tie work_var
              rw [szs_len] at hll
              refine ⟨_, rfl, a, _, dx, _, _, rfl, n1, T.cl_Part, T.n_Part_head, ptF_head, rfl, _, rfl, if_true_of rfl ?_⟩
              refine ⟨_, rfl, a, _, dx, _, _, rfl, n1, T.cl_Part, T.n_Part_told, ptF_told, _, rfl, k, ar, l, x, (numOf sz), rfl, SqL.of har, hk, by omega, (fun y hy => (hc y hy).2), (by omega), fun H' p s1 hp d1 => kQ H' p s1 hp (by rw [e2]; exact d1)⟩
            · obtain ⟨n', k1, h1, h2, h3⟩ := n10 0 u rfl
              obtain ⟨y, ty, fy, dx1, fs1, q1, g1, g2, g3, g4⟩ := (node_at tm kk ee tok hdt h3 h2).kx
              have has : as = [k1] := by
                have hl := n9.len
                rw [nos_len] at hl
                obtain ⟨c1, rfl⟩ := List.length_eq_one_iff.mp hl
                cases h1
                rfl
              subst has
              have ty' : typed (b :: l) 0 u = .ok y := ty
              have ex : x = .fn b y := by
                rw [typed, typed_at u _ 0 _ y ty'] at n4
                cases n4
                rfl
              subst ex
              have fb := n8.fn
              have hd' : 2 * (tdp u + 1) ≤ d + 1 := hd
              have hb1 : 1 ≤ b.card (numOf sz) := by
                rcases Nat.eq_zero_or_pos (b.card (numOf sz)) with e0 | e0
                · exact absurd (by show y.card (numOf sz) ^ b.card (numOf sz) = 1; rw [e0, Nat.pow_zero]) c
                · exact e0
              have hwl : u.work (numOf sz) ≠ 0 → (Tm.lam b u).work (numOf sz) ≠ 0 := fun q e => by
                rw [Tm.work] at e
                rcases Nat.mul_eq_zero.mp e with r | r
                · omega
                · exact q r
              have hb2 := fb.le
              have hm2 : mm * b.card (numOf sz) ≤ 65536 := by
                by_cases cu : u.work (numOf sz) = 0
                · rw [g0 (by rw [Tm.work, cu, Nat.mul_zero])]
                  omega
                · have := around_le (List.mem_of_getElem? h3) hw0 cu
                  obtain ⟨_, e2, _⟩ := tie (hwl cu)
                  rw [e2, Nat.mul_comm]
                  exact this
              refine ⟨_, rfl, a, _, dx, _, _, rfl, n1, T.cl_Part, T.n_Part_head, ptF_head, rfl, _, rfl, if_false_of rfl ?_⟩
              refine ⟨_, rfl, a, _, dx, _, _, rfl, n1, T.cl_Part, T.n_Part_head, ptF_head, rfl, _, rfl, if_true_of rfl ?_⟩
              refine ⟨_, rfl, _, rfl, _, rfl, a, dx, pl, ar, z, k1, dx1, fs1, tv, D m, m, b, u, l, sz, y, 0, mm, en, g, rfl, n1, n2, n3, fb, g1, g2, ty', fy.le, har, hz, by omega, hm, hm2, hg, eP, hE, (fun H1 ar' Q' E' s1 e1 cont => ?_), kQ⟩
              refine ⟨k1, ar', z, ls, D, G, t0, n', b :: l, u, sz, g ++ [b.card (numOf sz)], mm * b.card (numOf sz), inE (numOf sz) b en, rfl, h2, h3, by omega, (fun _ => by omega), nd, (mono s1).1, (mono s1).2, ee, ww, tok, hdt, hw0, e1, s1.seq hz, (by rw [List.length_append]; show g.length + 1 + d ≤ 100; omega), (fun y hy => ?_), (fun y hy => ?_), (by rw [prodL_snoc, eP]), hm2, inE_ok hE, (fun q => ?_), cont⟩
              · rcases List.mem_cons.mp hy with rfl | r
                · exact ⟨hb1, hb2⟩
                · exact hc y r
              · rcases List.mem_append.mp hy with r | r
                · exact hg y r
                · rw [List.mem_singleton.mp r]
                  exact hb2
              · obtain ⟨e1, e2, e3⟩ := tie (hwl q)
                exact ⟨by rw [e1, szs_cons], by rw [e2, prodAt, Nat.mul_comm], by rw [e3, inE_envAt]⟩
            · refine ⟨_, rfl, a, _, dx, _, _, rfl, n1, T.cl_Part, T.n_Part_head, ptF_head, rfl, _, rfl, if_false_of rfl ?_⟩
              refine ⟨_, rfl, a, _, dx, _, _, rfl, n1, T.cl_Part, T.n_Part_head, ptF_head, rfl, _, rfl, if_false_of rfl ?_⟩
              refine ⟨_, rfl, a, _, dx, _, _, rfl, n1, T.cl_Part, T.n_Part_head, ptF_head, rfl, _, rfl, if_true_of rfl ?_⟩
              refine ⟨Nat.le_of_lt (small1000 (by decide)), fun p3 hp3 => ?_⟩
              have s3 : Same H (upd H p3 (.lst [.int 1])) := Same.new hp3
              refine ⟨_, rfl, ar, g, rfl, SqL.of (s3 _ _ har), pb, fun H4 s4 => ?_⟩
              rw [eP]
              refine ⟨p3, _, _, rfl, rfl, s4 _ _ upd_same, by omega, by omega, ?_, fun p4 hp4 => ?_⟩
              · rw [Int.toNat_natCast]
                exact Nat.le_of_lt (small65537 (by show 1 * _ ≤ 65537; omega))
              rw [Int.toNat_natCast]
              have s34 := Same.trans s3 s4
              exact kQ _ p4 (Same.trans s34 (Same.new hp4)) (same_none s34 hp4) (upd_same.trans (by rw [tabE_const (v := 1) (fun e _ => by rw [Tm.val])]; exact congrArg (fun z => some (HO.lst z)) (reps_nats _ 1)))
            · refine ⟨_, rfl, a, _, dx, _, _, rfl, n1, T.cl_Part, T.n_Part_head, ptF_head, rfl, _, rfl, if_false_of rfl ?_⟩
              refine ⟨_, rfl, a, _, dx, _, _, rfl, n1, T.cl_Part, T.n_Part_head, ptF_head, rfl, _, rfl, if_false_of rfl ?_⟩
              refine ⟨_, rfl, a, _, dx, _, _, rfl, n1, T.cl_Part, T.n_Part_head, ptF_head, rfl, _, rfl, if_false_of rfl ?_⟩
              refine ⟨_, rfl, a, _, dx, _, _, rfl, n1, T.cl_Part, T.n_Part_head, ptF_head, rfl, _, rfl, if_true_of rfl ?_⟩
              refine ⟨Nat.le_of_lt (small1000 (by decide)), fun p3 hp3 => ?_⟩
              have s3 : Same H (upd H p3 (.lst [.int 0])) := Same.new hp3
              refine ⟨_, rfl, ar, g, rfl, SqL.of (s3 _ _ har), pb, fun H4 s4 => ?_⟩
              rw [eP]
              refine ⟨p3, _, _, rfl, rfl, s4 _ _ upd_same, by omega, by omega, ?_, fun p4 hp4 => ?_⟩
              · rw [Int.toNat_natCast]
                exact Nat.le_of_lt (small65537 (by show 1 * _ ≤ 65537; omega))
              rw [Int.toNat_natCast]
              have s34 := Same.trans s3 s4
              exact kQ _ p4 (Same.trans s34 (Same.new hp4)) (same_none s34 hp4) (upd_same.trans (by rw [tabE_const (v := 0) (fun e _ => by rw [Tm.val])]; exact congrArg (fun z => some (HO.lst z)) (reps_nats _ 0)))
          · have hne : (∀ k, t ≠ .var k) ∧ (∀ b u, t ≠ .lam b u) ∧ t ≠ .yes ∧ t ≠ .no := ⟨fun k e => ct (.inl ⟨k, e⟩), fun b u e => ct (.inr (.inl ⟨b, u, e⟩)), fun e => ct (.inr (.inr (.inl e))), fun e => ct (.inr (.inr (.inr e)))⟩
            clear ct
            have hh : FC.hd t ≠ 0 ∧ FC.hd t ≠ 7 ∧ FC.hd t ≠ 9 ∧ FC.hd t ≠ 10 ∧ kids t ≠ [] ∧ inEnv t l = l := by
              obtain ⟨e1, e2, e3, e4⟩ := hne
              clear n1 n3 n4 n9 n10 hn kQ tie w0 cw g0
              cases t with
              | var k => exact absurd rfl (e1 k)
              | lam b u => exact absurd rfl (e2 b u)
              | yes => exact absurd rfl e3
              | no => exact absurd rfl e4
              | _ => simp [FC.hd, kids, inEnv]
            obtain ⟨i1, i2, i3, i4, i5, i6⟩ := hh
            rw [i6] at n10
            refine ⟨_, rfl, a, _, dx, _, _, rfl, n1, T.cl_Part, T.n_Part_head, ptF_head, rfl, _, rfl, if_false_of (decide_eq_false (fun q => i1 (by injection q with q; omega))) ?_⟩
            refine ⟨_, rfl, a, _, dx, _, _, rfl, n1, T.cl_Part, T.n_Part_head, ptF_head, rfl, _, rfl, if_false_of (decide_eq_false (fun q => i2 (by injection q with q; omega))) ?_⟩
            refine ⟨_, rfl, a, _, dx, _, _, rfl, n1, T.cl_Part, T.n_Part_head, ptF_head, rfl, _, rfl, if_false_of (decide_eq_false (fun q => i3 (by injection q with q; omega))) ?_⟩
            refine ⟨_, rfl, a, _, dx, _, _, rfl, n1, T.cl_Part, T.n_Part_head, ptF_head, rfl, _, rfl, if_false_of (decide_eq_false (fun q => i4 (by injection q with q; omega))) ?_⟩
            have hlen : as.length = (kids t).length := by
              have := n9.len
              rwa [nos_len] at this
            have l3 : (kids t).length ≤ 3 := by
              rw [kids_len]
              exact cnt_le _
            refine ⟨_, rfl, _, rfl, a, _, dx, _, _, rfl, n1, T.cl_Part, T.n_Part_parts, ptF_parts, pl, rfl, ⟨_, SqL.of n2⟩, fun B hB => ?_⟩
            refine lc_list (K := K) (a := pl) (xs := as.map V.ref) (fun j Hd => Same H Hd ∧ ∃ bs : List Addr, bs.length = j ∧ (∀ p ∈ bs, H p = none ∧ p ≠ B) ∧ Hd B = some (.lst (bs.map V.ref)) ∧ TX K Hd (numOf sz) mm en bs ((kids t).take j)) ⟨Same.new hB, [], rfl, (fun p hp => by cases hp), upd_same, trivial⟩ ?_ ?_ ?_
            · rintro j Hd _ ⟨s1, _⟩
              exact SqL.of (s1 _ _ n2)
            · rintro j v Hd hv ⟨s1, bs, r1, r2, r3, r4⟩
              rw [List.getElem?_map] at hv
              obtain ⟨k, hk, rfl⟩ : ∃ k, as[j]? = some k ∧ v = .ref k := by
                cases e : as[j]? with
                | none => rw [e] at hv; cases hv
                | some y => rw [e] at hv; exact ⟨y, rfl, (Option.some.inj hv).symm⟩
              have hj : j < (kids t).length := by
                have := (List.getElem?_eq_some_iff.mp hk).1
                omega
              obtain ⟨kid, hkid⟩ : ∃ kid, (kids t)[j]? = some kid := ⟨_, List.getElem?_eq_getElem hj⟩
              obtain ⟨n', k', h1, h2, h3⟩ := n10 j kid hkid
              rw [hk] at h1
              cases h1
              have hkm := List.mem_of_getElem? hkid
              have td := tdp_kids hkm
              have wk : kid.work (numOf sz) ≤ t.work (numOf sz) := work_kid hkm hne.2.1
              refine ⟨rfl, ?_⟩
              refine ⟨_, rfl, _, rfl, _, rfl, k, ar, z, ls, D, G, t0, n', l, kid, sz, g, mm, en, rfl, h2, h3, by omega, (fun _ => by omega), nd, (mono s1).1, (mono s1).2, ee, ww, tok, hdt, hw0, s1 _ _ har, s1.seq hz, by omega, hc, hg, eP, hm, hE, (fun q => tie (by omega)), fun H' p s' hp d' => ?_⟩
              have s2 := Same.trans s1 s'
              have hpB : p ≠ B := fun q => by
                rw [q, r3] at hp
                cases hp
              refine ⟨_, s' _ _ r3, ?_, same_put s2 hB, bs ++ [p], ?_, ?_, ?_, ?_⟩
              · rw [List.length_map, r1]
                exact small1000 (by omega)
              · rw [List.length_append, r1]
                rfl
              · intro p' hp'
                rcases List.mem_append.mp hp' with q | q
                · exact r2 p' q
                · rw [List.mem_singleton.mp q]
                  exact ⟨same_none s1 hp, hpB⟩
              · rw [upd_same, List.map_append]
                rfl
              · rw [List.take_add_one, hkid]
                exact TX.snoc ((upd_ne hpB).trans d') (TX.mono (fun b hb o ho => (upd_ne (r2 b hb).2).trans (s' _ _ ho)) r4)
            · rintro Hd ⟨s1, bs, r1, r2, r3, r4⟩
              rw [List.length_map, hlen, List.take_length] at r4
              obtain ⟨xs, kx, kt, fk⟩ := kids_all (C := T.C_Part) (H := Hd) (sz := sz) (e := l) hlen (fun j kid hj => by
                obtain ⟨n', b, h1, h2, h3⟩ := n10 j kid hj
                obtain ⟨y, ty, fy, ky⟩ := (node_at (mono s1).1 (mono s1).2 ee tok hdt h3 h2).kx
                exact ⟨b, y, h1, ty, fy, ky⟩)
              refine ⟨_, rfl, a, dx, pl, B, z, tv, D m, m, t, l, sz, as, bs, x, xs, 0, mm, en, rfl, s1 _ _ n1, n5, s1 _ _ n2, n3.mono (Same.tups s1), n4, n8, kx, kt, fk, r3, r4, s1.seq hz, i5, hne.2.1, hm, hE, fun H' p s' hp d' => kQ H' p (Same.trans s1 s') ?_ d'⟩
              rcases hp with q | q
              · exact same_none s1 q
              · exact (r2 p q).1
end
end FC
namespace FC
open PySem PySem.Spec PyProof.Rows L2
open Pa05 (Ty Tm typed)
section
variable {P : Program} {w : World} {K : PySem.W.Frag} {mg : Str → Option Value} {base : Heap}
theorem ok_term_meaning (T : Txt K mg) : FnOk P w K mg base (L2.CX P w) 120 T.f_term_meaning T.fd_term_meaning ["parts", "set_sizes"] (sp_term_meaning T) := by
  refine T.F_term_meaning.okX sc_term_meaning (fun vs H Q E h => ?_) (fun cdv A outer s H vs Q E hr h => ⟨_, (pss_cons (ps_expr (pe_call (ok_measure_parts T) (hr.mono (by decide)) rfl T.g_measure_parts T.k_measure_parts T.b_measure_parts .nil (passes_call (takes_of rfl rfl rfl rfl) (fun _ _ _ _ h => h)) (pa_cons (pv 0) (pa_cons (pv 1) pa_nil))))
    (pss_one (ps_ret (pe_ix ix_list (pe_call (ok_part_table T 40) (hr.mono (by decide)) rfl T.g_part_table T.k_part_table T.b_part_table .nil pass0 (pa_cons (pe_ix ix_list (pv 0) pe_int (fun _ _ => rfl)) (pa_cons (pe_lst pa_nil) (pa_cons (pv 1) pa_nil)))) pe_int (fun _ _ => rfl))))), ?_⟩)
  · obtain ⟨fo, z, a0, ls, D, t, G, sz, a, rfl, _⟩ := h
    rfl
  · obtain ⟨fo, z, a0, ls, D, t, G, sz, a, rfl, hfo, hlen, nd, ha0, tm, kk, he, hz, h3, hl3, tok, hdt, hsz, kE, kQ⟩ := h
    have ins0 := tm.ins
    rw [nodes_len, Nat.zero_add] at ins0
    have p0 : (nodesE [] t)[0]? = some ([], t) := by rw [nodesE_eq]; rfl
    refine ⟨_, rfl, _, rfl, fo, z, ls, D, t, G, sz, rfl, hfo, hlen, nd, tm, kk, hz, tok, hdt, kE, (fun g H1 D1 f1 tm1 kk1 ee1 ww1 hk1 => ?_)⟩
    have hfo1 := f1.keep ins0 hfo (fun _ _ q => by cases q)
    have hz1 := f1.keep ins0 hz (fun _ _ q => by cases q)
    refine ⟨_, rfl, fo, _, _, .ref a0, rfl, rfl, SqL.of hfo1, atI_nat (j := 0) (by rw [List.getElem?_map, ha0]; rfl), by decide, fun p1 hp1 => ?_⟩
    have s1 : Same H1 (upd H1 p1 (.lst [])) := Same.new hp1
    have tm2 := AllAt.imp tm1 fun q u _ x => x.fr (lo := 0) (hi := 0) (Same.pfr s1) (fun m b h1 h2 => absurd h2 (by omega)) nd (.inr (by omega)) rfl
    have kk2 := AllAt.imp kk1 fun q u _ x => x.mono (Same.tups s1) rfl
    refine ⟨_, rfl, a0, p1, z, ls, D1, G, t, 0, [], t, sz, [], 1, envAt (numOf sz) [], rfl, ha0, p0, by omega, (fun q => absurd rfl q), nd, tm2, kk2, ee1, ww1, tok, hdt, g.2, upd_same, SqL.of (s1 _ _ hz1), by decide, (fun x hx => by cases hx), (fun x hx => by cases hx), rfl, by decide, envAt_ok [], (fun _ => ⟨rfl, rfl, rfl⟩), fun H2 p2 s2 hp2 d2 => ?_⟩
    have s12 := Same.trans s1 s2
    have pa := tm1 0 t (at_snd p0)
    rw [Nat.zero_add] at pa
    obtain ⟨a', dx, pl, tv, as, e1, e2, e3, e4, e5, e6⟩ := pa
    rw [ha0] at e1
    cases e1
    refine ⟨p2, _, _, _, rfl, rfl, SqL.of d2, atI_nat (j := 0) rfl, ?_⟩
    exact kQ g H2 dx _ (f1.trans (Same.pfr s12)) (s12 _ _ e2) (ptF_kind.trans (congrArg some (hk1 0)))
end
end FC
namespace FC
open PySem PySem.Spec PyProof.Rows L2
open Pa05 (Ty typed)
theorem told_dp : ∀ a : Ty, (Pa05.toldTy a).length + 1 ≤ 3 * 2 ^ dp a := by
  have bin : ∀ (x y : Ty) (l : Nat), (Pa05.toldTy x).length + 1 ≤ 3 * 2 ^ dp x → (Pa05.toldTy y).length + 1 ≤ 3 * 2 ^ dp y → l = 1 + (Pa05.toldTy x).length + (Pa05.toldTy y).length → l + 1 ≤ 3 * 2 ^ (max (dp x) (dp y) + 1) := by
    intro x y l h1 h2 e
    have g1 : 2 ^ dp x ≤ 2 ^ max (dp x) (dp y) := Nat.pow_le_pow_right (by omega) (by omega)
    have g2 : 2 ^ dp y ≤ 2 ^ max (dp x) (dp y) := Nat.pow_le_pow_right (by omega) (by omega)
    rw [Nat.pow_succ]
    omega
  intro a
  induction a with
  | var i => show 2 + 1 ≤ 3 * 2 ^ 1; omega
  | two => show 1 + 1 ≤ 3 * 2 ^ 1; omega
  | pair x y ix iy => exact bin x y _ ix iy (by simp [Pa05.toldTy]; omega)
  | either x y ix iy => exact bin x y _ ix iy (by simp [Pa05.toldTy]; omega)
  | fn x y ix iy => exact bin x y _ ix iy (by simp [Pa05.toldTy]; omega)
theorem told_192 {a : Ty} (h : dp a ≤ 6) : (Pa05.toldTy a).length ≤ 192 := by
  have h1 := told_dp a
  have h2 : 2 ^ dp a ≤ 2 ^ 6 := Nat.pow_le_pow_right (by omega) h
  omega
theorem typed_len {k : Nat} (t : Trm) : ∀ (l : List Ty) (i : Nat) (a : Ty), typed l i t = .ok a → EnvOk k l → TmOk k t → (Pa05.toldTy a).length ≤ 193 * t.size := by
  induction t with
  | var j =>
    intro l i a h hl ht
    rw [typed] at h
    cases e : l[j]? with
    | none => rw [e] at h; cases h
    | some b =>
      rw [e] at h
      cases h
      have := told_192 (hl a (List.mem_of_getElem? e)).2
      show _ ≤ 193 * 1
      omega
  | pair t s iht ihs =>
    intro l i a h hl ht
    rw [typed] at h
    cases e1 : typed l (i + 1) t with
    | error f => rw [e1] at h; cases h
    | ok x =>
      cases e2 : typed l (i + 1 + t.size) s with
      | error f => rw [e1, e2] at h; cases h
      | ok y =>
        rw [e1, e2] at h
        cases h
        have a1 := iht l _ x e1 hl (ht.kid (by simp [kids]))
        have b1 := ihs l _ y e2 hl (ht.kid (by simp [kids]))
        simp only [Pa05.toldTy, Pa05.Tm.size, List.length_cons, List.length_append]
        omega
  | first t iht =>
    intro l i a h hl ht
    rw [typed] at h
    cases e1 : typed l (i + 1) t with
    | error f => rw [e1] at h; cases h
    | ok x =>
      rw [e1] at h
      have a1 := iht l _ x e1 hl (ht.kid (by simp [kids]))
      cases x with
      | pair y z =>
        cases h
        simp only [Pa05.toldTy, Pa05.Tm.size, List.length_cons, List.length_append] at a1 ⊢
        omega
      | _ => cases h
  | second t iht =>
    intro l i a h hl ht
    rw [typed] at h
    cases e1 : typed l (i + 1) t with
    | error f => rw [e1] at h; cases h
    | ok x =>
      rw [e1] at h
      have a1 := iht l _ x e1 hl (ht.kid (by simp [kids]))
      cases x with
      | pair y z =>
        cases h
        simp only [Pa05.toldTy, Pa05.Tm.size, List.length_cons, List.length_append] at a1 ⊢
        omega
      | _ => cases h
  | left b t iht =>
    intro l i a h hl ht
    rw [typed] at h
    cases e1 : typed l (i + 1) t with
    | error f => rw [e1] at h; cases h
    | ok x =>
      rw [e1] at h
      cases h
      have a1 := iht l _ x e1 hl (ht.kid (by simp [kids]))
      have b1 := told_192 (ht.here (a := b) rfl).2
      simp only [Pa05.toldTy, Pa05.Tm.size, List.length_cons, List.length_append]
      omega
  | right b t iht =>
    intro l i a h hl ht
    rw [typed] at h
    cases e1 : typed l (i + 1) t with
    | error f => rw [e1] at h; cases h
    | ok x =>
      rw [e1] at h
      cases h
      have a1 := iht l _ x e1 hl (ht.kid (by simp [kids]))
      have b1 := told_192 (ht.here (a := b) rfl).2
      simp only [Pa05.toldTy, Pa05.Tm.size, List.length_cons, List.length_append]
      omega
  | cases t u v iht ihu ihv =>
    intro l i a h hl ht
    rw [typed] at h
    cases e1 : typed l (i + 1) t with
    | error f => rw [e1] at h; cases h
    | ok x =>
      cases e2 : typed l (i + 1 + t.size) u with
      | error f => rw [e1, e2] at h; cases h
      | ok y =>
        cases e3 : typed l (i + 1 + t.size + u.size) v with
        | error f => rw [e1, e2, e3] at h; cases h
        | ok z =>
          rw [e1, e2, e3] at h
          have b1 := ihu l _ y e2 hl (ht.kid (by simp [kids]))
          have key : ∀ c d, y = .fn c d → a = d → (Pa05.toldTy a).length ≤ 193 * (Pa05.Tm.cases t u v).size := by
            rintro c d rfl rfl
            simp only [Pa05.toldTy, Pa05.Tm.size, List.length_cons, List.length_append] at b1 ⊢
            omega
          cases x <;> cases y <;> cases z <;> first | (simp only at h; split at h <;> first | (cases h; exact key _ _ rfl rfl) | cases h) | cases h
  | lam b t iht =>
    intro l i a h hl ht
    rw [typed] at h
    cases e1 : typed (b :: l) (i + 1) t with
    | error f => rw [e1] at h; cases h
    | ok x =>
      rw [e1] at h
      cases h
      have a1 := iht (b :: l) _ x e1 (hl.kid ht) (ht.kid (by simp [kids]))
      have b1 := told_192 (ht.here (a := b) rfl).2
      simp only [Pa05.toldTy, Pa05.Tm.size, List.length_cons, List.length_append]
      omega
  | app t s iht ihs =>
    intro l i a h hl ht
    rw [typed] at h
    cases e1 : typed l (i + 1) t with
    | error f => rw [e1] at h; cases h
    | ok x =>
      cases e2 : typed l (i + 1 + t.size) s with
      | error f => rw [e1, e2] at h; cases h
      | ok y =>
        rw [e1, e2] at h
        have a1 := iht l _ x e1 hl (ht.kid (by simp [kids]))
        have key : ∀ c d, x = .fn c d → a = d → (Pa05.toldTy a).length ≤ 193 * (Pa05.Tm.app t s).size := by
          rintro c d rfl rfl
          simp only [Pa05.toldTy, Pa05.Tm.size, List.length_cons, List.length_append] at a1 ⊢
          omega
        cases x <;> first | (simp only at h; split at h <;> first | (cases h; exact key _ _ rfl rfl) | cases h) | cases h
  | yes =>
    intro l i a h hl ht
    cases h
    show 1 ≤ 193 * 1
    omega
  | no =>
    intro l i a h hl ht
    cases h
    show 1 ≤ 193 * 1
    omega
  | if_ t u v iht ihu ihv =>
    intro l i a h hl ht
    rw [typed] at h
    cases e1 : typed l (i + 1) t with
    | error f => rw [e1] at h; cases h
    | ok x =>
      cases e2 : typed l (i + 1 + t.size) u with
      | error f => rw [e1, e2] at h; cases h
      | ok y =>
        cases e3 : typed l (i + 1 + t.size + u.size) v with
        | error f => rw [e1, e2, e3] at h; cases h
        | ok z =>
          rw [e1, e2, e3] at h
          have b1 := ihu l _ y e2 hl (ht.kid (by simp [kids]))
          have key : a = y → (Pa05.toldTy a).length ≤ 193 * (Pa05.Tm.if_ t u v).size := by
            rintro rfl
            simp only [Pa05.Tm.size]
            omega
          cases x <;> first | (simp only at h; split at h <;> first | (cases h; exact key rfl) | cases h) | cases h
section
variable {P : Program} {w : World} {K : PySem.W.Frag} {mg : Str → Option Value} {base : Heap}
def sp_House_meaning (T : Txt K mg) : Sp := fun vs H Q E => ∃ (h l : Addr) (s : Pa05.State) (F : Addr → Prop) (j : Nat) (r : List Nat), vs = [.ref h, .int (j : Int), .ref l] ∧ HouseAt T H h s F ∧ H l = some (.lst (nats r)) ∧ r.length ≤ 100 ∧
  ((1 < j ∨ rowTm s.k r = none) → ∀ H' : Hp, Same H H' → E (.ref T.C_Unfit) none H') ∧
  (∀ t e, ¬ 1 < j → rowTm s.k r = some t → typed [] 0 t = .error e → ∀ H' : Hp, Same H H' → Faulty E T H' e.place e.why) ∧
  (∀ t a, ¬ 1 < j → rowTm s.k r = some t → typed [] 0 t = .ok a → ¬ (Pa05.held 256 (s.side j) [] t = true ∧ t.work (s.side j) ≤ 65536) → ∀ H' : Hp, Same H H' → E (.ref T.C_TooLarge) none H') ∧
  (∀ t a, ¬ 1 < j → rowTm s.k r = some t → typed [] 0 t = .ok a → (Pa05.held 256 (s.side j) [] t = true ∧ t.work (s.side j) ≤ 65536) → ∀ (H' : Hp) (p : Addr), Same H H' → H p = none → H' p = some (.lst (ansV ((t.val (s.side j) [] : Nat) : Int) (Pa05.toldTy a))) → Q (.ref p) H')
theorem ok_House_meaning (T : Txt K mg) : FnOk P w K mg base (L2.CX P w) 125 T.f_House_meaning T.fd_House_meaning ["self", "side", "row"] (sp_House_meaning T) := by
  refine T.F_House_meaning.okX sc_House_meaning (fun vs H Q E h => ?_) (fun cdv A outer s H vs Q E hr h => ⟨_, (pss_cons (ps_if (pt_cmpR op_ge (pv 1) (pe_cst rfl T.g_SIDES) (nomark _))
      (pss_one (ps_raise rfl (takes_of rfl rfl rfl rfl) (pmk_own0 PySem.F.excBase_Exception T.x_Unfit T.g_Unfit T.k_Unfit (raises_own T.b_Unfit T.t_Unfit) rfl)))
      pss_nil)
    (pss_cons (ps_set (i := 3) sc_House_meaning.nd rfl (Or.inl rfl) (pe_call (ok_read_term_row T) (hr.mono (by decide)) rfl T.g_read_term_row T.k_read_term_row T.b_read_term_row .nil (passes_call (takes_of rfl rfl rfl rfl) (fun _ _ _ _ h => h)) (pa_cons (pv 2) (pa_cons (pe_meth0 (pv 0) T.cl_House T.m_House_variables (ok_House_variables T) (hr.mono (by decide)) T.b_House_variables .nil pass0) pa_nil))))
    (pss_cons (ps_expr (pe_call (ok_give_kinds T 20) (hr.mono (by decide)) rfl T.g_give_kinds T.k_give_kinds T.b_give_kinds .nil (passes_call (takes_of rfl rfl rfl rfl) (fun _ _ _ _ h => h)) (pa_cons (pe_ix ix_list (pv 3) pe_int (fun _ _ => rfl)) (pa_cons (pe_lst pa_nil) pa_nil))))
    (pss_cons (ps_set (i := 4) sc_House_meaning.nd rfl (Or.inl rfl) (pe_call (ok_term_meaning T) (hr.mono (by decide)) rfl T.g_term_meaning T.k_term_meaning T.b_term_meaning .nil (passes_call (takes_of rfl rfl rfl rfl) (fun _ _ _ _ h => h)) (pa_cons (pv 3) (pa_cons (pe_ix ix_list (pe_fld (pv 0) rfl) (pv 1) (fun _ _ => rfl)) pa_nil))))
    (pss_one (ps_ret (pe_op op_cat (pe_lst (pa_cons (pv 4) pa_nil)) (pe_call (ok_kind_row T) (hr.mono (by decide)) rfl T.g_kind_row T.k_kind_row T.b_kind_row .nil pass0 (pa_cons (pe_fld (pe_ix ix_list (pv 3) pe_int (fun _ _ => rfl)) rfl) pa_nil))))))))), ?_⟩)
  · obtain ⟨h, l, s, F, j, r, rfl, _⟩ := h
    rfl
  · obtain ⟨h, l, s, F, j, r, rfl, ⟨dx, S, R, L, M, trs, z⟩, hl, h100, kU, kF, kT, kQ⟩ := h
    have xl := z.len
    refine ⟨_, rfl, _, _, rfl, rfl, _, rfl, ?_⟩
    by_cases c1 : 1 < j
    · exact if_true_of (decide_eq_true (by omega)) (kU (.inl c1) H (Same.refl H))
    refine if_false_of (decide_eq_false (by omega)) ?_
    have ek : trs.length = s.k := xl
    refine ⟨_, rfl, _, rfl, h, dx, _, rfl, z.obj, hsF_no S R, h, dx, S, R, trs, rfl, z.obj, z.rel, l, r, trs.length, rfl, hl, h100, (fun e H1 s1 => ?_), (fun t e H1 fo ls s1 hfo hlen nd fr tm tok tdl tsz => ?_)⟩
    · rw [ek] at e
      exact kU (.inr e) H1 s1
    rw [ek] at e tok
    have kF := fun f => kF t f c1 e
    have kT := fun a => kT t a c1 e
    have kQ := fun a => kQ t a c1 e
    have tpos : 0 < t.size := by
      rw [size_eq]
      omega
    obtain ⟨a0, ha0⟩ : ∃ a0, ls[0]? = some a0 := ⟨ls[0]'(by omega), List.getElem?_eq_getElem (by omega)⟩
    have frame : ∀ H' H'', Same H H' → PFr ls 0 t.size H' H'' → Same H H'' := fun H' H'' s f b o eb => f b o (s b o eb) fun m _ _ q => by
      have := fr b (List.mem_of_getElem? q)
      rw [this] at eb
      cases eb
    -- give_kinds(parts[0], [])
    refine ⟨_, rfl, fo, _, _, .ref a0, rfl, rfl, SqL.of hfo, atI_nat (j := 0) (by rw [List.getElem?_map, ha0]; rfl), (by show 0 ≤ sizeLine; decide), fun ar har => ?_⟩
    have s2 : Same H1 (upd H1 ar (.lst [])) := Same.new har
    have car : upd H1 ar (.lst []) ar = some (.lst (([] : List Addr).map V.ref)) := upd_same
    generalize upd H1 ar (.lst []) = H2 at s2 car ⊢
    have s12 := Same.trans s1 s2
    have tm2 : TermAt T.C_Part H2 (fun b => H b = none) ls D0 0 t := AllAt.imp tm fun q u _ x => x.fr (lo := 0) (hi := 0) (Same.pfr s2) (fun m b h1 h2 => absurd h2 (by omega)) nd (.inr (by omega)) rfl
    have hfo2 := s2 _ _ hfo
    have ins2 := tm2.ins
    rw [nodes_len, Nat.zero_add] at ins2
    refine ⟨a0, ar, ls, D0, 0, s.k, t, _, [], [], rfl, ha0, nd, tm2, tdl, tok, car, trivial, (fun x hx => by cases hx), by decide, (fun f he H' pf => ?_), (fun a he H3 D3 pf tm3 kk3 hD3 => ?_)⟩
    · rw [Nat.zero_add] at pf
      exact kF f he H' (frame H2 H' s12 pf)
    rw [Nat.zero_add] at pf
    have s3 := frame H2 H3 s12 pf
    have z3 := z.mono s3
    have hfo3 := pf.keep ins2 hfo2 (fun _ _ q => by cases q)
    have ins3 := tm3.ins
    rw [nodes_len, Nat.zero_add] at ins3
    have kT := kT a he
    have kQ := kQ a he
    have fin : ∀ (n : Nat) (H4 : Hp) (v : V), v = .int (n : Int) → n = t.val (s.side j) [] → (Pa05.held 256 (s.side j) [] t = true ∧ t.work (s.side j) ≤ 65536) → PFr ls 0 t.size H3 H4 → (∃ dx fs, H4 a0 = some (.ins T.C_Part dx fs) ∧ fs.lookup ("kind" : Str) = some (D3 0).kind) →
        ∃ (q : Addr), (D3 0).kind = .ref q ∧ KindAt H4 a q ∧ H4 fo = some (.lst (ls.map V.ref)) ∧ Same H H4 := by
      intro n H4 v ev en g pf4 _
      have kk0 := kk3
      rw [nodesE_eq, AllAt.cons] at kk0
      obtain ⟨q, x, o1, o2, o3⟩ := kk0.1
      rw [he] at o3
      cases o3
      exact ⟨q, o1, o2.mono (pf4.tups ins3), pf4.keep ins3 hfo3 (fun _ _ q => by cases q), frame H3 H4 s3 pf4⟩
    have lenT : (Pa05.toldTy a).length ≤ 19300 := by
      have := typed_len t [] 0 a he (fun x hx => by cases hx) tok
      omega
    have tail : ∀ (n : Nat) (H4 : Hp) (v : V), v = .int (n : Int) → n = t.val (s.side j) [] → (Pa05.held 256 (s.side j) [] t = true ∧ t.work (s.side j) ≤ 65536) → PFr ls 0 t.size H3 H4 → (∃ dx fs, H4 a0 = some (.ins T.C_Part dx fs) ∧ fs.lookup ("kind" : Str) = some (D3 0).kind) →
        ∀ l1, H4 l1 = none → ∃ q, (∃ dx fs, upd H4 l1 (.lst [.int (n : Int)]) a0 = some (.ins T.C_Part dx fs) ∧ fs.lookup ("kind" : Str) = some (.ref q)) ∧ upd H4 l1 (.lst [.int (n : Int)]) fo = some (.lst (ls.map V.ref)) ∧ KindAt (upd H4 l1 (.lst [.int (n : Int)])) a q ∧
          ∀ H5 lr, Same (upd H4 l1 (.lst [.int (n : Int)])) H5 → H5 lr = some (.lst (nats (Pa05.toldTy a))) → ∀ p, H5 p = none → Q (.ref p) (upd H5 p (.lst ([.int (n : Int)] ++ nats (Pa05.toldTy a)))) := by
      intro n H4 v ev en g pf4 h4 l1 hl1
      obtain ⟨q, o1, o2, o3, o4⟩ := fin n H4 v ev en g pf4 h4
      obtain ⟨dx4, fs4, g1, g2⟩ := h4
      rw [o1] at g2
      have sn : Same H4 (upd H4 l1 (.lst [.int (n : Int)])) := Same.new hl1
      refine ⟨q, ⟨dx4, fs4, sn _ _ g1, g2⟩, sn _ _ o3, o2.mono (Same.tups sn), fun H5 lr s5 c5 p hp => ?_⟩
      have sall := Same.trans o4 (Same.trans sn s5)
      refine kQ g _ p (Same.trans sall (Same.new hp)) (sall.free hp) ?_
      rw [upd_same, ← en]
      rfl
    have hj : j = 0 ∨ j = 1 := by omega
    have le3 : ∀ x ∈ s.sets.map (fun x => x.1), x ≤ 3 := fun x hx => by
      obtain ⟨y, hy, rfl⟩ := List.mem_map.mp hx
      exact (z.n3 y hy).1
    have le3' : ∀ x ∈ s.sets.map (fun x => x.2.1), x ≤ 3 := fun x hx => by
      obtain ⟨y, hy, rfl⟩ := List.mem_map.mp hx
      exact (z.n3 y hy).2
    rcases hj with rfl | rfl
    · refine ⟨_, rfl, _, rfl, h, _, dx, _, _, rfl, z3.obj, T.cl_House, T.n_House_set_sizes, hsF_sizes S R, _, rfl, S, _, _, _, rfl, rfl, SqL.of z3.sz, atI_nat (j := 0) rfl, fo, L, a0, ls, D3, t, _, _, a, rfl, hfo3, hlen, nd, ha0, tm3, kk3, he, z3.left, le3, by rw [List.length_map]; exact z.k3, by rw [List.length_map]; exact tok, tdl, tsz, (fun g H4 pf4 => ?_), (fun g H4 dx4 fs4 pf4 h4 h5 => ?_)⟩
      · rw [n_num] at g
        exact kT g H4 (frame H3 H4 s3 pf4)
      rw [n_num] at g ⊢
      have h4 : ∃ dx fs, H4 a0 = some (.ins T.C_Part dx fs) ∧ fs.lookup ("kind" : Str) = some (D3 0).kind := ⟨dx4, fs4, h4, h5⟩
      generalize en : t.val s.n [] = n
      refine ⟨_, rfl, (by show 1 ≤ sizeLine; decide), fun l1 hl1 => ?_⟩
      obtain ⟨q, ⟨dx5, fs5, g1, g2⟩, o3, o2, fin5⟩ := tail n H4 _ rfl en.symm g pf4 h4 l1 hl1
      have cl1 : upd H4 l1 (.lst [.int (n : Int)]) l1 = some (.lst [.int (n : Int)]) := upd_same
      generalize upd H4 l1 (.lst [.int (n : Int)]) = H5 at g1 o3 o2 fin5 cl1 ⊢
      refine ⟨_, rfl, fo, _, _, .ref a0, rfl, rfl, SqL.of o3, atI_nat (j := 0) (by rw [List.getElem?_map, ha0]; rfl), a0, _, dx5, _, _, rfl, g1, T.cl_Part, T.n_Part_kind, g2, q, a, rfl, o2, by omega, fun H6 lr s6 hlr c6 => ?_⟩
      refine ⟨l1, lr, _, _, rfl, rfl, s6 _ _ cl1, c6, ?_, fun p hp => fin5 H6 lr s6 c6 p hp⟩
      rw [nats_length]
      show 1 + _ ≤ sizeLine
      exact le_line (by omega)
    · refine ⟨_, rfl, _, rfl, h, _, dx, _, _, rfl, z3.obj, T.cl_House, T.n_House_set_sizes, hsF_sizes S R, _, rfl, S, _, _, _, rfl, rfl, SqL.of z3.sz, atI_nat (j := 1) rfl, fo, M, a0, ls, D3, t, _, _, a, rfl, hfo3, hlen, nd, ha0, tm3, kk3, he, z3.right, le3', by rw [List.length_map]; exact z.k3, by rw [List.length_map]; exact tok, tdl, tsz, (fun g H4 pf4 => ?_), (fun g H4 dx4 fs4 pf4 h4 h5 => ?_)⟩
      · rw [m_num] at g
        exact kT g H4 (frame H3 H4 s3 pf4)
      rw [m_num] at g ⊢
      have h4 : ∃ dx fs, H4 a0 = some (.ins T.C_Part dx fs) ∧ fs.lookup ("kind" : Str) = some (D3 0).kind := ⟨dx4, fs4, h4, h5⟩
      generalize en : t.val s.m [] = n
      refine ⟨_, rfl, (by show 1 ≤ sizeLine; decide), fun l1 hl1 => ?_⟩
      obtain ⟨q, ⟨dx5, fs5, g1, g2⟩, o3, o2, fin5⟩ := tail n H4 _ rfl en.symm g pf4 h4 l1 hl1
      have cl1 : upd H4 l1 (.lst [.int (n : Int)]) l1 = some (.lst [.int (n : Int)]) := upd_same
      generalize upd H4 l1 (.lst [.int (n : Int)]) = H5 at g1 o3 o2 fin5 cl1 ⊢
      refine ⟨_, rfl, fo, _, _, .ref a0, rfl, rfl, SqL.of o3, atI_nat (j := 0) (by rw [List.getElem?_map, ha0]; rfl), a0, _, dx5, _, _, rfl, g1, T.cl_Part, T.n_Part_kind, g2, q, a, rfl, o2, by omega, fun H6 lr s6 hlr c6 => ?_⟩
      refine ⟨l1, lr, _, _, rfl, rfl, s6 _ _ cl1, c6, ?_, fun p hp => fin5 H6 lr s6 c6 p hp⟩
      rw [nats_length]
      show 1 + _ ≤ sizeLine
      exact le_line (by omega)
end
end FC
namespace FC
open PySem PySem.Spec PyProof.Rows L2
open Pa05 (Ty typed Call State Ans step)
theorem ints_nats (r : List Nat) : (intsOf r).map V.int = nats r := (nats_map r).symm
theorem tooMany_eq (s : State) : tooMany (s.sets.map fun x => x.1) = true ↔ ((List.range s.k).any (fun i => decide (2 < s.n i)) = true ∨ 8 < Pa05.bitsOf s.n s.k) := by
  have e1 : Pa05.bitsOf s.n s.k = sqs (s.sets.map fun x => x.1) := by
    rw [← bitsOf_all, n_num, List.length_map]
    rfl
  have e2 : (s.sets.map fun x => x.1).any (fun x => decide (2 < x)) = (List.range s.k).any (fun i => decide (2 < s.n i)) := by
    rw [Bool.eq_iff_iff, List.any_eq_true, List.any_eq_true]
    constructor
    · rintro ⟨x, hx, h⟩
      obtain ⟨i, hi⟩ := List.getElem?_of_mem hx
      have hil : i < s.sets.length := by
        have := (List.getElem?_eq_some_iff.mp hi).1
        rw [List.length_map] at this
        exact this
      refine ⟨i, List.mem_range.mpr hil, ?_⟩
      rw [n_at hil] at hi
      rw [Option.some.inj hi]
      exact h
    · rintro ⟨i, hi, h⟩
      have hil : i < s.sets.length := List.mem_range.mp hi
      exact ⟨s.n i, List.mem_of_getElem? (n_at hil), h⟩
  unfold tooMany
  rw [Bool.or_eq_true, e1, e2, decide_eq_true_eq]
theorem fits_iff {top heavy : Nat} {n m : Nat → Nat} {a : Ty} : fits top heavy n m a = true ↔ (∃ x y, Pa05.small top n a = some x ∧ Pa05.small top m a = some y) ∧ ¬ heavy < a.work (fun b => b.card n * b.card m) := by
  constructor
  · intro h
    obtain ⟨h1, h2, h3⟩ := fits_small h
    exact ⟨⟨_, _, h1, h2⟩, by omega⟩
  · rintro ⟨⟨x, y, h1, h2⟩, h3⟩
    unfold fits
    rw [h1, h2, decide_eq_true (by omega)]
    rfl
/-- what stands behind a call -/
structure After {K : PySem.W.Frag} {mg : Str → Option Value} (T : Txt K mg) (H H' : Hp) (h rd dr l : Addr) (p' : Nat) (s' : State) (F : Addr → Prop) : Prop where
  house : HouseAt T H' h s' (fun b => F b ∨ H b = none)
  rdr : H' rd = some (.ins T.C_Reader dr (rdF l p'))
  keep : ∀ b o, H b = some o → ¬ F b → b ≠ rd → H' b = some o
theorem After.more {K : PySem.W.Frag} {mg : Str → Option Value} {T : Txt K mg} {H H' H'' : Hp} {h rd dr l : Addr} {p' : Nat} {s' : State} {F : Addr → Prop} (x : After T H H' h rd dr l p' s' F) (s : Same H' H'') : After T H H'' h rd dr l p' s' F :=
  ⟨x.house.mono s, s _ _ x.rdr, fun b o e h1 h2 => s _ _ (x.keep b o e h1 h2)⟩
theorem HouseIs.put {K : PySem.W.Frag} {mg : Str → Option Value} {T : Txt K mg} {H : Hp} {h : Addr} {s : Pa05.State} {F : Addr → Prop} {dx S R L M : Addr} {trs : List Addr} (x : HouseIs T H h s F dx S R L M trs) {rd : Addr} (hr : ¬ F rd) (o : HO) : HouseIs T (upd H rd o) h s F dx S R L M trs := by
  have k : ∀ b u, F b → H b = some u → upd H rd o b = some u := fun b u fb e => by
    rw [upd_ne (fun q => hr (by rw [← q]; exact fb))]
    exact e
  exact ⟨k _ _ x.fh x.obj, k _ _ x.fS x.sz, k _ _ x.fL x.left, k _ _ x.fM x.right, k _ _ x.fR x.rel, x.len, fun i a e => k _ _ (x.ft a (List.mem_of_getElem? e)) (x.rels i a e), x.k1, x.k3, x.n3, x.lm, x.lt, x.mt, x.nd, x.fh, x.fS, x.fR, x.fL, x.fM, x.ft⟩
theorem HouseAt.put {K : PySem.W.Frag} {mg : Str → Option Value} {T : Txt K mg} {H : Hp} {h : Addr} {s : Pa05.State} {F : Addr → Prop} (x : HouseAt T H h s F) {rd : Addr} (hr : ¬ F rd) (o : HO) : HouseAt T (upd H rd o) h s F := by
  obtain ⟨dx, S, R, L, M, trs, x⟩ := x
  exact ⟨dx, S, R, L, M, trs, x.put hr o⟩
section
variable {K : PySem.W.Frag} {mg : Str → Option Value} {T : Txt K mg} {H H' : Hp} {h rd dr l : Addr} {p' : Nat} {s s' : State} {F : Addr → Prop}
/-- the reader has gone on, nothing else -/
theorem After.took (x : HouseAt T H h s F) (hr : ¬ F rd) : After T H (upd H rd (.ins T.C_Reader dr (rdF l p'))) h rd dr l p' s F :=
  ⟨(x.put hr _).wide (fun _ => .inl), upd_same, fun b o e _ h2 => by rw [upd_ne h2]; exact e⟩
/-- the reader has gone on, then a method that changes the house -/
theorem After.did (hr : ¬ F rd) (y : HouseAt T H' h s' (fun b => F b ∨ upd H rd (.ins T.C_Reader dr (rdF l p')) b = none)) (f : Fr F (upd H rd (.ins T.C_Reader dr (rdF l p'))) H') : After T H H' h rd dr l p' s' F := by
  have e0 : upd H rd (.ins T.C_Reader dr (rdF l p')) rd = some (.ins T.C_Reader dr (rdF l p')) := upd_same
  refine ⟨y.wide fun b hb => ?_, f _ _ e0 hr, fun b o e h1 h2 => f b o (by rw [upd_ne h2]; exact e) h1⟩
  rcases hb with hb | hb
  · exact .inl hb
  · refine .inr ?_
    have : b ≠ rd := fun q => by rw [q, e0] at hb; cases hb
    rw [upd_ne this] at hb
    exact hb
end
section
variable {P : Program} {w : World} {K : PySem.W.Frag} {mg : Str → Option Value} {base : Heap}
def sp_House_init (T : Txt K mg) : Sp := fun vs H Q _ => ∃ (h dx : Addr), vs = [.ref h] ∧ H h = some (.ins T.C_House dx []) ∧ ∀ H' : Hp, HouseAt T H' h Pa05.init (fun b => b = h ∨ H b = none) → But h H H' → Q .non H'
theorem ok_House_init (T : Txt K mg) : FnOk P w K mg base CX0 2 T.f_House_init T.fd_House_init ["self"] (sp_House_init T) := by
  refine T.F_House_init.ok sc_House_init (fun vs H Q E h => ?_) (fun cdv A outer s H vs Q E hr h => ⟨_, (pss_one (ps_expr (pe_meth (pv 0) T.cl_House T.m_House_begin (ok_House_begin T) (hr.mono (by decide)) T.b_House_begin .nil passL (pa_cons pe_int pa_nil)))), ?_⟩)
  · obtain ⟨h, dx, rfl, _⟩ := h
    rfl
  · obtain ⟨h, dx, rfl, hh, k⟩ := h
    refine ⟨_, rfl, h, dx, _, rfl, hh, rfl, h, dx, [], 1, rfl, hh, .inl rfl, (fun q => by omega), (fun _ _ H' l ha b _ _ => ?_)⟩
    exact k H' ha b
def sp_answer_call (T : Txt K mg) : Sp := fun vs H Q E => ∃ (h rd dr l : Addr) (s : State) (F : Addr → Prop) (xs : List Int) (p : Nat) (c : Call), vs = [.ref h, .ref rd] ∧ HouseAt T H h s F ∧ H rd = some (.ins T.C_Reader dr (rdF l p)) ∧ ¬ F rd ∧ SqL K H l (xs.map V.int) ∧ (∃ rest, xs.drop p = flat c ++ rest) ∧ CallOk c ∧
  ((step s c).2 = Pa05.ok (-1) → ∀ H', After T H H' h rd dr l (p + (flat c).length) (step s c).1 F → E (.ref T.C_Unfit) none H') ∧
  ((step s c).2 = Pa05.ok (-3) → ∀ H', After T H H' h rd dr l (p + (flat c).length) (step s c).1 F → E (.ref T.C_TooManyRelations) none H') ∧
  ((step s c).2 = Pa05.ok (-8) → ∀ H', After T H H' h rd dr l (p + (flat c).length) (step s c).1 F → E (.ref T.C_TooLarge) none H') ∧
  (∀ e : Pa05.Fault, (step s c).2 = ⟨-7, [e.place, e.why]⟩ → ∀ H', After T H H' h rd dr l (p + (flat c).length) (step s c).1 F → Faulty E T H' e.place e.why) ∧
  (∀ (H' : Hp) (q : Addr), After T H H' h rd dr l (p + (flat c).length) (step s c).1 F → H q = none → H' q = some (.lst (ansV (step s c).2.v (step s c).2.l)) → Q (.ref q) H')
theorem got {xs : List Int} {p : Nat} {a rest : List Int} (h : xs.drop p = a ++ rest) {j : Nat} {z : Int} (e : a[j]? = some z) : xs[p + j]? = some z := by
  rw [← List.getElem?_drop, h, List.getElem?_append_left (List.getElem?_eq_some_iff.mp e).1]
  exact e
theorem got_row {xs : List Int} {p k : Nat} {a rest : List Int} {r : List Nat} (h : xs.drop p = a ++ rest) (ea : a = a.take (k + 1) ++ intsOf r) (hk : k + 1 ≤ a.length) : ((xs.drop (p + k + 1)).take r.length) = intsOf r ∧ p + k + 1 + r.length ≤ xs.length := by
  have e1 : xs.drop (p + k + 1) = intsOf r ++ rest := by
    rw [Nat.add_assoc, ← List.drop_drop, h, List.drop_append_of_le_length hk]
    congr 1
    have := congrArg (List.drop (k + 1)) ea
    rw [this, List.drop_append_of_le_length (by rw [List.length_take]; omega), List.drop_eq_nil_of_le (by rw [List.length_take]; omega), List.nil_append]
  have hl : (intsOf r).length = r.length := List.length_map ..
  refine ⟨?_, ?_⟩
  · rw [e1, List.take_append_of_le_length (by omega), List.take_of_length_le (by omega)]
  · have := congrArg List.length e1
    rw [List.length_drop, List.length_append, hl] at this
    by_cases c : r.length = 0
    · have h2 := congrArg List.length h
      rw [List.length_drop, List.length_append] at h2
      omega
    · omega

set_option maxHeartbeats 8000000 in
theorem ok_answer_call (T : Txt K mg) : FnOk P w K mg base (L2.CX P w) 130 T.f_answer_call T.fd_answer_call ["house", "reader"] (sp_answer_call T) := by
  refine T.F_answer_call.okX sc_answer_call (fun vs H Q E h => ?_) (fun cdv A outer s H vs Q E hr h => ⟨_, (pss_cons (ps_set (i := 2) sc_answer_call.nd rfl (Or.inl rfl) (pe_meth0 (pv 1) T.cl_Reader T.m_Reader_take (ok_Reader_take T) (hr.mono (by decide)) T.b_Reader_take .nil (passes_call (takes_of rfl rfl rfl rfl) (fun _ _ _ _ h => h))))
    (pss_cons (ps_if (pt_cmpR op_eq (pv 2) (pe_cst rfl T.g_BEGIN) (nomark _))
      (pss_one (ps_ret (pe_meth (pv 0) T.cl_House T.m_House_begin (ok_House_begin T) (hr.mono (by decide)) T.b_House_begin .nil (passes_call (takes_of rfl rfl rfl rfl) (fun _ _ _ _ h => h)) (pa_cons (pe_meth0 (pv 1) T.cl_Reader T.m_Reader_take (ok_Reader_take T) (hr.mono (by decide)) T.b_Reader_take .nil (passes_call (takes_of rfl rfl rfl rfl) (fun _ _ _ _ h => h))) pa_nil))))
      pss_nil)
    (pss_cons (ps_if (pt_cmpR op_eq (pv 2) (pe_cst rfl T.g_SETS) (nomark _))
      (pss_one (ps_ret (pe_meth (pv 0) T.cl_House T.m_House_sets (ok_House_sets T) (hr.mono (by decide)) T.b_House_sets .nil (passes_call (takes_of rfl rfl rfl rfl) (fun _ _ _ _ h => h)) (pa_cons (pe_meth0 (pv 1) T.cl_Reader T.m_Reader_take (ok_Reader_take T) (hr.mono (by decide)) T.b_Reader_take .nil (passes_call (takes_of rfl rfl rfl rfl) (fun _ _ _ _ h => h))) (pa_cons (pe_meth0 (pv 1) T.cl_Reader T.m_Reader_take (ok_Reader_take T) (hr.mono (by decide)) T.b_Reader_take .nil (passes_call (takes_of rfl rfl rfl rfl) (fun _ _ _ _ h => h))) (pa_cons (pe_meth0 (pv 1) T.cl_Reader T.m_Reader_take (ok_Reader_take T) (hr.mono (by decide)) T.b_Reader_take .nil (passes_call (takes_of rfl rfl rfl rfl) (fun _ _ _ _ h => h))) pa_nil))))))
      pss_nil)
    (pss_cons (ps_if (pt_cmpR op_eq (pv 2) (pe_cst rfl T.g_RELATE) (nomark _))
      (pss_one (ps_ret (pe_meth (pv 0) T.cl_House T.m_House_relate (ok_House_relate T) (hr.mono (by decide)) T.b_House_relate .nil (passes_call (takes_of rfl rfl rfl rfl) (fun _ _ _ _ h => h)) (pa_cons (pe_meth0 (pv 1) T.cl_Reader T.m_Reader_take (ok_Reader_take T) (hr.mono (by decide)) T.b_Reader_take .nil (passes_call (takes_of rfl rfl rfl rfl) (fun _ _ _ _ h => h))) (pa_cons (pe_meth0 (pv 1) T.cl_Reader T.m_Reader_take (ok_Reader_take T) (hr.mono (by decide)) T.b_Reader_take .nil (passes_call (takes_of rfl rfl rfl rfl) (fun _ _ _ _ h => h))) (pa_cons (pe_meth0 (pv 1) T.cl_Reader T.m_Reader_take (ok_Reader_take T) (hr.mono (by decide)) T.b_Reader_take .nil (passes_call (takes_of rfl rfl rfl rfl) (fun _ _ _ _ h => h))) pa_nil))))))
      pss_nil)
    (pss_cons (ps_if (pt_cmpR op_eq (pv 2) (pe_cst rfl T.g_SIZE) (nomark _))
      (pss_one (ps_ret (pe_meth (pv 0) T.cl_House T.m_House_size (ok_House_size T) (hr.mono (by decide)) T.b_House_size .nil (passes_call (takes_of rfl rfl rfl rfl) (fun _ _ _ _ h => h)) (pa_cons (pe_meth0 (pv 1) T.cl_Reader T.m_Reader_take (ok_Reader_take T) (hr.mono (by decide)) T.b_Reader_take .nil (passes_call (takes_of rfl rfl rfl rfl) (fun _ _ _ _ h => h))) (pa_cons (pe_meth0 (pv 1) T.cl_Reader T.m_Reader_take_row (ok_Reader_take_row T) (hr.mono (by decide)) T.b_Reader_take_row .nil (passes_call (takes_of rfl rfl rfl rfl) (fun _ _ _ _ h => h))) pa_nil)))))
      pss_nil)
    (pss_cons (ps_if (pt_cmpR op_eq (pv 2) (pe_cst rfl T.g_MEANING) (nomark _))
      (pss_one (ps_ret (pe_meth (pv 0) T.cl_House T.m_House_meaning (ok_House_meaning T) (hr.mono (by decide)) T.b_House_meaning .nil (passes_call (takes_of rfl rfl rfl rfl) (fun _ _ _ _ h => h)) (pa_cons (pe_meth0 (pv 1) T.cl_Reader T.m_Reader_take (ok_Reader_take T) (hr.mono (by decide)) T.b_Reader_take .nil (passes_call (takes_of rfl rfl rfl rfl) (fun _ _ _ _ h => h))) (pa_cons (pe_meth0 (pv 1) T.cl_Reader T.m_Reader_take_row (ok_Reader_take_row T) (hr.mono (by decide)) T.b_Reader_take_row .nil (passes_call (takes_of rfl rfl rfl rfl) (fun _ _ _ _ h => h))) pa_nil)))))
      pss_nil)
    (pss_cons (ps_if (pt_cmpR op_eq (pv 2) (pe_cst rfl T.g_RELATED) (nomark _))
      (pss_one (ps_ret (pe_meth (pv 0) T.cl_House T.m_House_related (ok_House_related T) (hr.mono (by decide)) T.b_House_related .nil (passes_call (takes_of rfl rfl rfl rfl) (fun _ _ _ _ h => h)) (pa_cons (pe_meth0 (pv 1) T.cl_Reader T.m_Reader_take (ok_Reader_take T) (hr.mono (by decide)) T.b_Reader_take .nil (passes_call (takes_of rfl rfl rfl rfl) (fun _ _ _ _ h => h))) (pa_cons (pe_meth0 (pv 1) T.cl_Reader T.m_Reader_take (ok_Reader_take T) (hr.mono (by decide)) T.b_Reader_take .nil (passes_call (takes_of rfl rfl rfl rfl) (fun _ _ _ _ h => h))) (pa_cons (pe_meth0 (pv 1) T.cl_Reader T.m_Reader_take_row (ok_Reader_take_row T) (hr.mono (by decide)) T.b_Reader_take_row .nil (passes_call (takes_of rfl rfl rfl rfl) (fun _ _ _ _ h => h))) pa_nil))))))
      pss_nil)
    (pss_cons (ps_if (pt_cmpR op_eq (pv 2) (pe_cst rfl T.g_COUNT) (nomark _))
      (pss_one (ps_ret (pe_meth (pv 0) T.cl_House T.m_House_count (ok_House_count T) (hr.mono (by decide)) T.b_House_count .nil (passes_call (takes_of rfl rfl rfl rfl) (fun _ _ _ _ h => h)) (pa_cons (pe_meth0 (pv 1) T.cl_Reader T.m_Reader_take_row (ok_Reader_take_row T) (hr.mono (by decide)) T.b_Reader_take_row .nil (passes_call (takes_of rfl rfl rfl rfl) (fun _ _ _ _ h => h))) pa_nil))))
      pss_nil)
    (pss_cons (ps_if (pt_cmpR op_eq (pv 2) (pe_cst rfl T.g_KEPT) (nomark _))
      (pss_one (ps_ret (pe_meth (pv 0) T.cl_House T.m_House_kept (ok_House_kept T) (hr.mono (by decide)) T.b_House_kept .nil (passes_call (takes_of rfl rfl rfl rfl) (fun _ _ _ _ h => h)) (pa_cons (pe_meth0 (pv 1) T.cl_Reader T.m_Reader_take_row (ok_Reader_take_row T) (hr.mono (by decide)) T.b_Reader_take_row .nil (passes_call (takes_of rfl rfl rfl rfl) (fun _ _ _ _ h => h))) pa_nil))))
      pss_nil)
    (pss_one (ps_raise rfl (takes_of rfl rfl rfl rfl) (pmk_own0 PySem.F.excBase_Exception T.x_UnknownCall T.g_UnknownCall T.k_UnknownCall (raises_own T.b_UnknownCall T.t_UnknownCall) rfl)))))))))))), ?_⟩)
  · obtain ⟨h, rd, dr, l, s, F, xs, p, c, rfl, _⟩ := h
    rfl
  · obtain ⟨h, rd, dr, l, s, F, xs, p, c, rfl, hA, hrd, hFr, hs, ⟨rest, hx⟩, cok, k1, k3, k8, k7, kQ⟩ := h
    have sq : ∀ q, SqL K (upd H rd (.ins T.C_Reader dr (rdF l q))) l (xs.map V.int) := fun q => sq_ins hs hrd
    have cr : ∀ q, upd H rd (.ins T.C_Reader dr (rdF l q)) rd = some (.ins T.C_Reader dr (rdF l q)) := fun q => upd_same
    have uu : ∀ q q', upd (upd H rd (.ins T.C_Reader dr (rdF l q))) rd (.ins T.C_Reader dr (rdF l q')) = upd H rd (.ins T.C_Reader dr (rdF l q')) := fun q q' => upd_upd
    have hAt : ∀ q, HouseAt T (upd H rd (.ins T.C_Reader dr (rdF l q))) h s F := fun q => hA.put hFr _
    have tk : ∀ q, After T H (upd H rd (.ins T.C_Reader dr (rdF l q))) h rd dr l q s F := fun q => After.took hA hFr
    have fre : ∀ q b, upd H rd (.ins T.C_Reader dr (rdF l q)) b = none → H b = none := fun q b e => by
      have : b ≠ rd := fun z => by rw [z, upd_same] at e; cases e
      rw [upd_ne this] at e
      exact e
    have hlen0 : 0 < (flat c).length := by cases c <;> simp [flat]
    have hp0 : p < xs.length := by
      have := congrArg List.length hx
      rw [List.length_drop, List.length_append] at this
      omega
    cases c with
    | begin k =>
      refine ⟨_, rfl, rd, dr, _, rfl, hrd, rdF_no l p, rd, dr, l, xs, p, rfl, hrd, hs, (fun q => absurd q (by omega)), (fun z hz => ?_)⟩
      have hz0 := got hx (j := 0) rfl
      rw [Nat.add_zero, hz] at hz0
      cases hz0
      refine ⟨_, rfl, rfl, _, rfl, if_true_of rfl ?_⟩
      obtain ⟨dx, S, R, L, M, trs, z0⟩ := hAt (p + 1)
      refine ⟨_, rfl, h, dx, _, rfl, z0.obj, hsF_no S R, _, rfl, rd, dr, _, rfl, cr (p + 1), rdF_no l (p + 1), rd, dr, l, xs, p + 1, rfl, cr (p + 1), sq (p + 1), (fun q => absurd q (by have := (List.getElem?_eq_some_iff.mp (got hx (j := 1) rfl)).1; omega)), (fun z1 hz1 => ?_)⟩
      rw [got hx (j := 1) rfl] at hz1
      cases hz1
      rw [uu]
      obtain ⟨dx, S, R, L, M, trs, z⟩ := hAt (p + 2)
      refine ⟨h, dx, _, k, rfl, z.obj, .inr ⟨S, R, rfl⟩, (fun g => ?_), (fun g1 g2 H' lq ha b hfr hc => ?_)⟩
      · have e : step s (.begin k) = (s, Pa05.ok (-1)) := if_pos g
        rw [e] at k1
        exact k1 rfl _ (tk _)
      · have e : step s (.begin k) = (⟨List.replicate k (1, 1, [])⟩, Pa05.ok 0) := if_neg (by show ¬ (k < 1 ∨ 3 < k); omega)
        rw [e] at kQ
        refine kQ H' lq (After.did hFr (ha.wide fun b hb => ?_) (fun b' o e' hb' => ?_)) (fre _ _ hfr) hc
        · rcases hb with hb | hb
          · rw [hb]; exact .inl z.fh
          · exact .inr hb
        · exact b b' o e' (fun q => hb' (by rw [q]; exact z.fh))
    -- sets
    | sets i n m =>
      refine ⟨_, rfl, rd, dr, _, rfl, hrd, rdF_no l p, rd, dr, l, xs, p, rfl, hrd, hs, (fun q => absurd q (by omega)), (fun z hz => ?_)⟩
      have hz0 := got hx (j := 0) rfl
      rw [Nat.add_zero, hz] at hz0
      cases hz0
      refine ⟨_, rfl, rfl, _, rfl, if_false_of rfl ?_⟩
      refine ⟨_, rfl, rfl, _, rfl, if_true_of rfl ?_⟩
      obtain ⟨dx, S, R, L, M, trs, z0⟩ := hAt (p + 1)
      refine ⟨_, rfl, h, dx, _, rfl, z0.obj, hsF_no S R, _, rfl, rd, dr, _, rfl, cr (p + 1), rdF_no l (p + 1), rd, dr, l, xs, p + 1, rfl, cr (p + 1), sq (p + 1), (fun q => absurd q (by have := (List.getElem?_eq_some_iff.mp (got hx (j := 1) rfl)).1; omega)), (fun z1 hz1 => ?_)⟩
      rw [got hx (j := 1) rfl] at hz1
      cases hz1
      rw [uu]
      refine ⟨_, rfl, rd, dr, _, rfl, cr (p + 2), rdF_no l (p + 2), rd, dr, l, xs, p + 2, rfl, cr (p + 2), sq (p + 2), (fun q => absurd q (by have := (List.getElem?_eq_some_iff.mp (got hx (j := 2) rfl)).1; omega)), (fun z2 hz2 => ?_)⟩
      rw [got hx (j := 2) rfl] at hz2
      cases hz2
      rw [uu]
      refine ⟨_, rfl, rd, dr, _, rfl, cr (p + 3), rdF_no l (p + 3), rd, dr, l, xs, p + 3, rfl, cr (p + 3), sq (p + 3), (fun q => absurd q (by have := (List.getElem?_eq_some_iff.mp (got hx (j := 3) rfl)).1; omega)), (fun z3 hz3 => ?_)⟩
      rw [got hx (j := 3) rfl] at hz3
      cases hz3
      rw [uu]
      refine ⟨h, s, F, i, n, m, rfl, hAt (p + 4), (fun g => ?_), (fun g H' lq ha f hfr hc => ?_)⟩
      · have e : step s (.sets i n m) = (s, Pa05.ok (-1)) := if_pos g
        rw [e] at k1
        exact k1 rfl _ (tk _)
      · have e : step s (.sets i n m) = (⟨s.sets.set i (n, m, [])⟩, Pa05.ok 0) := if_neg g
        rw [e] at kQ
        exact kQ H' lq (After.did hFr ha f) (fre _ _ hfr) hc
    -- relate
    | relate i x y =>
      refine ⟨_, rfl, rd, dr, _, rfl, hrd, rdF_no l p, rd, dr, l, xs, p, rfl, hrd, hs, (fun q => absurd q (by omega)), (fun z hz => ?_)⟩
      have hz0 := got hx (j := 0) rfl
      rw [Nat.add_zero, hz] at hz0
      cases hz0
      refine ⟨_, rfl, rfl, _, rfl, if_false_of rfl ?_⟩
      refine ⟨_, rfl, rfl, _, rfl, if_false_of rfl ?_⟩
      refine ⟨_, rfl, rfl, _, rfl, if_true_of rfl ?_⟩
      obtain ⟨dx, S, R, L, M, trs, z0⟩ := hAt (p + 1)
      refine ⟨_, rfl, h, dx, _, rfl, z0.obj, hsF_no S R, _, rfl, rd, dr, _, rfl, cr (p + 1), rdF_no l (p + 1), rd, dr, l, xs, p + 1, rfl, cr (p + 1), sq (p + 1), (fun q => absurd q (by have := (List.getElem?_eq_some_iff.mp (got hx (j := 1) rfl)).1; omega)), (fun z1 hz1 => ?_)⟩
      rw [got hx (j := 1) rfl] at hz1
      cases hz1
      rw [uu]
      refine ⟨_, rfl, rd, dr, _, rfl, cr (p + 2), rdF_no l (p + 2), rd, dr, l, xs, p + 2, rfl, cr (p + 2), sq (p + 2), (fun q => absurd q (by have := (List.getElem?_eq_some_iff.mp (got hx (j := 2) rfl)).1; omega)), (fun z2 hz2 => ?_)⟩
      rw [got hx (j := 2) rfl] at hz2
      cases hz2
      rw [uu]
      refine ⟨_, rfl, rd, dr, _, rfl, cr (p + 3), rdF_no l (p + 3), rd, dr, l, xs, p + 3, rfl, cr (p + 3), sq (p + 3), (fun q => absurd q (by have := (List.getElem?_eq_some_iff.mp (got hx (j := 3) rfl)).1; omega)), (fun z3 hz3 => ?_)⟩
      rw [got hx (j := 3) rfl] at hz3
      cases hz3
      rw [uu]
      refine ⟨h, s, F, i, x, y, rfl, hAt (p + 4), (fun g => ?_), (fun g g2 H' lq sm hfr hc => ?_), (fun g g2 H' lq ha f hfr hc => ?_)⟩
      · have e : step s (.relate i x y) = (s, Pa05.ok (-1)) := if_pos g
        rw [e] at k1
        exact k1 rfl _ (tk _)
      · have e : step s (.relate i x y) = (s, Pa05.ok 0) := (if_neg g).trans (if_pos g2)
        rw [e] at kQ
        exact kQ H' lq ((tk _).more sm) (fre _ _ hfr) hc
      · have e : step s (.relate i x y) = (⟨s.sets.set i (s.n i, s.m i, (x, y) :: (s.sets.getD i (0, 0, [])).2.2)⟩, Pa05.ok 1) := (if_neg g).trans (if_neg g2)
        rw [e] at kQ
        exact kQ H' lq (After.did hFr ha f) (fre _ _ hfr) hc
    -- size
    | size j r =>
      refine ⟨_, rfl, rd, dr, _, rfl, hrd, rdF_no l p, rd, dr, l, xs, p, rfl, hrd, hs, (fun q => absurd q (by omega)), (fun z hz => ?_)⟩
      have hz0 := got hx (j := 0) rfl
      rw [Nat.add_zero, hz] at hz0
      cases hz0
      refine ⟨_, rfl, rfl, _, rfl, if_false_of rfl ?_⟩
      refine ⟨_, rfl, rfl, _, rfl, if_false_of rfl ?_⟩
      refine ⟨_, rfl, rfl, _, rfl, if_false_of rfl ?_⟩
      refine ⟨_, rfl, rfl, _, rfl, if_true_of rfl ?_⟩
      obtain ⟨dx, S, R, L, M, trs, z0⟩ := hAt (p + 1)
      refine ⟨_, rfl, h, dx, _, rfl, z0.obj, hsF_no S R, _, rfl, rd, dr, _, rfl, cr (p + 1), rdF_no l (p + 1), rd, dr, l, xs, p + 1, rfl, cr (p + 1), sq (p + 1), (fun q => absurd q (by have := (List.getElem?_eq_some_iff.mp (got hx (j := 1) rfl)).1; omega)), (fun z1 hz1 => ?_)⟩
      rw [got hx (j := 1) rfl] at hz1
      cases hz1
      rw [uu]
      refine ⟨_, rfl, rd, dr, _, rfl, cr (p + 2), rdF_no l (p + 2), rd, dr, l, xs, p + 2, r.length, rfl, cr (p + 2), sq (p + 2), got hx (j := 2) rfl, (got_row (k := 2) hx rfl (by simp [flat])).2, (fun rq hrq => ?_)⟩
      rw [uu, (got_row (k := 2) hx rfl (by simp [flat])).1, ints_nats]
      have srow : Same (upd H rd (.ins T.C_Reader dr (rdF l (p + 2 + 1 + r.length)))) (upd (upd H rd (.ins T.C_Reader dr (rdF l (p + 2 + 1 + r.length)))) rq (.lst (nats r))) := Same.new (by
        have hne : rq ≠ rd := fun z => by rw [z, cr] at hrq; cases hrq
        rw [upd_ne hne]
        rw [upd_ne hne] at hrq
        exact hrq)
      have crow : upd (upd H rd (.ins T.C_Reader dr (rdF l (p + 2 + 1 + r.length)))) rq (.lst (nats r)) rq = some (.lst (nats r)) := upd_same
      have epl : p + (flat (.size j r)).length = p + 2 + 1 + r.length := by
        simp [flat, intsOf]
        omega
      rw [epl] at k1 k3 k8 k7 kQ
      have tkr := (tk (p + 2 + 1 + r.length)).more srow
      have hAr := (hAt (p + 2 + 1 + r.length)).mono srow
      have frr : ∀ b, upd (upd H rd (.ins T.C_Reader dr (rdF l (p + 2 + 1 + r.length)))) rq (.lst (nats r)) b = none → H b = none := fun b e => fre _ b (srow.free e)
      generalize upd (upd H rd (.ins T.C_Reader dr (rdF l (p + 2 + 1 + r.length)))) rq (.lst (nats r)) = Hr at crow tkr hAr frr ⊢
      refine ⟨h, rq, s, F, j, r, rfl, hAr, SqL.of crow, (fun g H' sm => ?_), (fun a g ga gs H' sm => ?_), (fun a cc g ga gs H' lq sm hfr hc => ?_)⟩
      · have e : step s (.size j r) = (s, Pa05.ok (-1)) := by
          show (s, match s.type r with
            | none => Pa05.ok (-1)
            | some a => if 1 < j then Pa05.ok (-1) else match Pa05.small Pa05.TOP (s.side j) a with
              | none => Pa05.ok (-8)
              | some x => Pa05.ok (x : Nat)) = _
          cases et : s.type r with
          | none => rfl
          | some a =>
            rcases g with g | g
            · simp only [if_pos g]
            · rw [et] at g; cases g
        rw [e] at k1
        exact k1 rfl _ (tkr.more sm)
      · have e : step s (.size j r) = (s, Pa05.ok (-8)) := by
          show (s, match s.type r with
            | none => Pa05.ok (-1)
            | some a => if 1 < j then Pa05.ok (-1) else match Pa05.small Pa05.TOP (s.side j) a with
              | none => Pa05.ok (-8)
              | some x => Pa05.ok (x : Nat)) = _
          rw [ga]
          simp only [if_neg g]
          rw [show Pa05.small Pa05.TOP (s.side j) a = none from gs]
        rw [e] at k8
        exact k8 rfl _ (tkr.more sm)
      · have e : step s (.size j r) = (s, Pa05.ok (cc : Nat)) := by
          show (s, match s.type r with
            | none => Pa05.ok (-1)
            | some a => if 1 < j then Pa05.ok (-1) else match Pa05.small Pa05.TOP (s.side j) a with
              | none => Pa05.ok (-8)
              | some x => Pa05.ok (x : Nat)) = _
          rw [ga]
          simp only [if_neg g]
          rw [show Pa05.small Pa05.TOP (s.side j) a = some cc from gs]
        rw [e] at kQ
        exact kQ H' lq (tkr.more sm) (frr _ hfr) hc
    -- meaning
    | meaning j r =>
      refine ⟨_, rfl, rd, dr, _, rfl, hrd, rdF_no l p, rd, dr, l, xs, p, rfl, hrd, hs, (fun q => absurd q (by omega)), (fun z hz => ?_)⟩
      have hz0 := got hx (j := 0) rfl
      rw [Nat.add_zero, hz] at hz0
      cases hz0
      refine ⟨_, rfl, rfl, _, rfl, if_false_of rfl ?_⟩
      refine ⟨_, rfl, rfl, _, rfl, if_false_of rfl ?_⟩
      refine ⟨_, rfl, rfl, _, rfl, if_false_of rfl ?_⟩
      refine ⟨_, rfl, rfl, _, rfl, if_false_of rfl ?_⟩
      refine ⟨_, rfl, rfl, _, rfl, if_true_of rfl ?_⟩
      obtain ⟨dx, S, R, L, M, trs, z0⟩ := hAt (p + 1)
      refine ⟨_, rfl, h, dx, _, rfl, z0.obj, hsF_no S R, _, rfl, rd, dr, _, rfl, cr (p + 1), rdF_no l (p + 1), rd, dr, l, xs, p + 1, rfl, cr (p + 1), sq (p + 1), (fun q => absurd q (by have := (List.getElem?_eq_some_iff.mp (got hx (j := 1) rfl)).1; omega)), (fun z1 hz1 => ?_)⟩
      rw [got hx (j := 1) rfl] at hz1
      cases hz1
      rw [uu]
      refine ⟨_, rfl, rd, dr, _, rfl, cr (p + 2), rdF_no l (p + 2), rd, dr, l, xs, p + 2, r.length, rfl, cr (p + 2), sq (p + 2), got hx (j := 2) rfl, (got_row (k := 2) hx rfl (by simp [flat])).2, (fun rq hrq => ?_)⟩
      rw [uu, (got_row (k := 2) hx rfl (by simp [flat])).1, ints_nats]
      have srow : Same (upd H rd (.ins T.C_Reader dr (rdF l (p + 2 + 1 + r.length)))) (upd (upd H rd (.ins T.C_Reader dr (rdF l (p + 2 + 1 + r.length)))) rq (.lst (nats r))) := Same.new (by
        have hne : rq ≠ rd := fun z => by rw [z, cr] at hrq; cases hrq
        rw [upd_ne hne]
        rw [upd_ne hne] at hrq
        exact hrq)
      have crow : upd (upd H rd (.ins T.C_Reader dr (rdF l (p + 2 + 1 + r.length)))) rq (.lst (nats r)) rq = some (.lst (nats r)) := upd_same
      have epl : p + (flat (.meaning j r)).length = p + 2 + 1 + r.length := by
        simp [flat, intsOf]
        omega
      rw [epl] at k1 k3 k8 k7 kQ
      have tkr := (tk (p + 2 + 1 + r.length)).more srow
      have hAr := (hAt (p + 2 + 1 + r.length)).mono srow
      have frr : ∀ b, upd (upd H rd (.ins T.C_Reader dr (rdF l (p + 2 + 1 + r.length)))) rq (.lst (nats r)) b = none → H b = none := fun b e => fre _ b (srow.free e)
      generalize upd (upd H rd (.ins T.C_Reader dr (rdF l (p + 2 + 1 + r.length)))) rq (.lst (nats r)) = Hr at crow tkr hAr frr ⊢
      have rowS : ∀ t, rowTm s.k r = some t → Pa05.readTm s.k Pa05.NEST r = some (t, []) := fun t e => by
        unfold rowTm at e
        cases q : Pa05.readTm s.k 20 r with
        | none => rw [q] at e; cases e
        | some y =>
          obtain ⟨u, ur⟩ := y
          rw [q] at e
          cases ur with
          | nil => cases e; exact q
          | cons _ _ => cases e
      refine ⟨h, rq, s, F, j, r, rfl, hAr, crow, cok.2.1, (fun g H' sm => ?_), (fun t f g gt gy H' sm => ?_), (fun t a g gt gy gh H' sm => ?_), (fun t a g gt gy gh H' lq sm hfr hc => ?_)⟩
      · have e : step s (.meaning j r) = (s, Pa05.ok (-1)) := by
          show (s, match Pa05.readTm s.k Pa05.NEST r with
            | some (t, []) => if 1 < j then Pa05.ok (-1) else (match typed [] 0 t with
              | .error e => ⟨-7, [e.place, e.why]⟩
              | .ok a => if Pa05.held Pa05.TOP (s.side j) [] t = true ∧ t.work (s.side j) ≤ Pa05.WORK then ⟨(t.val (s.side j) [] : Nat), Pa05.toldTy a⟩ else Pa05.ok (-8))
            | _ => Pa05.ok (-1)) = _
          cases q : Pa05.readTm s.k Pa05.NEST r with
          | none => rfl
          | some y =>
            obtain ⟨u, ur⟩ := y
            cases ur with
            | cons _ _ => rfl
            | nil =>
              rcases g with g | g
              · simp only [if_pos g]
              · have : rowTm s.k r = some u := by
                  unfold rowTm
                  rw [show Pa05.readTm s.k 20 r = some (u, []) from q]
                rw [this] at g; cases g
        rw [e] at k1
        exact k1 rfl _ (tkr.more sm)
      · have e : step s (.meaning j r) = (s, ⟨-7, [f.place, f.why]⟩) := by
          show (s, match Pa05.readTm s.k Pa05.NEST r with
            | some (t, []) => if 1 < j then Pa05.ok (-1) else (match typed [] 0 t with
              | .error e => ⟨-7, [e.place, e.why]⟩
              | .ok a => if Pa05.held Pa05.TOP (s.side j) [] t = true ∧ t.work (s.side j) ≤ Pa05.WORK then ⟨(t.val (s.side j) [] : Nat), Pa05.toldTy a⟩ else Pa05.ok (-8))
            | _ => Pa05.ok (-1)) = _
          rw [rowS t gt]
          simp only [if_neg g]
          rw [gy]
        rw [e] at k7
        exact k7 f rfl _ (tkr.more sm)
      · have e : step s (.meaning j r) = (s, Pa05.ok (-8)) := by
          show (s, match Pa05.readTm s.k Pa05.NEST r with
            | some (t, []) => if 1 < j then Pa05.ok (-1) else (match typed [] 0 t with
              | .error e => ⟨-7, [e.place, e.why]⟩
              | .ok a => if Pa05.held Pa05.TOP (s.side j) [] t = true ∧ t.work (s.side j) ≤ Pa05.WORK then ⟨(t.val (s.side j) [] : Nat), Pa05.toldTy a⟩ else Pa05.ok (-8))
            | _ => Pa05.ok (-1)) = _
          rw [rowS t gt]
          simp only [if_neg g]
          rw [gy]
          simp only
          exact congrArg (Prod.mk s) (if_neg gh)
        rw [e] at k8
        exact k8 rfl _ (tkr.more sm)
      · have e : step s (.meaning j r) = (s, ⟨(t.val (s.side j) [] : Nat), Pa05.toldTy a⟩) := by
          show (s, match Pa05.readTm s.k Pa05.NEST r with
            | some (t, []) => if 1 < j then Pa05.ok (-1) else (match typed [] 0 t with
              | .error e => ⟨-7, [e.place, e.why]⟩
              | .ok a => if Pa05.held Pa05.TOP (s.side j) [] t = true ∧ t.work (s.side j) ≤ Pa05.WORK then ⟨(t.val (s.side j) [] : Nat), Pa05.toldTy a⟩ else Pa05.ok (-8))
            | _ => Pa05.ok (-1)) = _
          rw [rowS t gt]
          simp only [if_neg g]
          rw [gy]
          simp only
          exact congrArg (Prod.mk s) (if_pos gh)
        rw [e] at kQ
        exact kQ H' lq (tkr.more sm) (frr _ hfr) hc
    -- related
    | related x y r =>
      refine ⟨_, rfl, rd, dr, _, rfl, hrd, rdF_no l p, rd, dr, l, xs, p, rfl, hrd, hs, (fun q => absurd q (by omega)), (fun z hz => ?_)⟩
      have hz0 := got hx (j := 0) rfl
      rw [Nat.add_zero, hz] at hz0
      cases hz0
      refine ⟨_, rfl, rfl, _, rfl, if_false_of rfl ?_⟩
      refine ⟨_, rfl, rfl, _, rfl, if_false_of rfl ?_⟩
      refine ⟨_, rfl, rfl, _, rfl, if_false_of rfl ?_⟩
      refine ⟨_, rfl, rfl, _, rfl, if_false_of rfl ?_⟩
      refine ⟨_, rfl, rfl, _, rfl, if_false_of rfl ?_⟩
      refine ⟨_, rfl, rfl, _, rfl, if_true_of rfl ?_⟩
      obtain ⟨dx, S, R, L, M, trs, z0⟩ := hAt (p + 1)
      refine ⟨_, rfl, h, dx, _, rfl, z0.obj, hsF_no S R, _, rfl, rd, dr, _, rfl, cr (p + 1), rdF_no l (p + 1), rd, dr, l, xs, p + 1, rfl, cr (p + 1), sq (p + 1), (fun q => absurd q (by have := (List.getElem?_eq_some_iff.mp (got hx (j := 1) rfl)).1; omega)), (fun z1 hz1 => ?_)⟩
      rw [got hx (j := 1) rfl] at hz1
      cases hz1
      rw [uu]
      refine ⟨_, rfl, rd, dr, _, rfl, cr (p + 2), rdF_no l (p + 2), rd, dr, l, xs, p + 2, rfl, cr (p + 2), sq (p + 2), (fun q => absurd q (by have := (List.getElem?_eq_some_iff.mp (got hx (j := 2) rfl)).1; omega)), (fun z2 hz2 => ?_)⟩
      rw [got hx (j := 2) rfl] at hz2
      cases hz2
      rw [uu]
      refine ⟨_, rfl, rd, dr, _, rfl, cr (p + 3), rdF_no l (p + 3), rd, dr, l, xs, p + 3, r.length, rfl, cr (p + 3), sq (p + 3), got hx (j := 3) rfl, (got_row (k := 3) hx rfl (by simp [flat])).2, (fun rq hrq => ?_)⟩
      rw [uu, (got_row (k := 3) hx rfl (by simp [flat])).1, ints_nats]
      have srow : Same (upd H rd (.ins T.C_Reader dr (rdF l (p + 3 + 1 + r.length)))) (upd (upd H rd (.ins T.C_Reader dr (rdF l (p + 3 + 1 + r.length)))) rq (.lst (nats r))) := Same.new (by
        have hne : rq ≠ rd := fun z => by rw [z, cr] at hrq; cases hrq
        rw [upd_ne hne]
        rw [upd_ne hne] at hrq
        exact hrq)
      have crow : upd (upd H rd (.ins T.C_Reader dr (rdF l (p + 3 + 1 + r.length)))) rq (.lst (nats r)) rq = some (.lst (nats r)) := upd_same
      have epl : p + (flat (.related x y r)).length = p + 3 + 1 + r.length := by
        simp [flat, intsOf]
        omega
      rw [epl] at k1 k3 k8 k7 kQ
      have tkr := (tk (p + 3 + 1 + r.length)).more srow
      have hAr := (hAt (p + 3 + 1 + r.length)).mono srow
      have frr : ∀ b, upd (upd H rd (.ins T.C_Reader dr (rdF l (p + 3 + 1 + r.length)))) rq (.lst (nats r)) b = none → H b = none := fun b e => fre _ b (srow.free e)
      generalize upd (upd H rd (.ins T.C_Reader dr (rdF l (p + 3 + 1 + r.length)))) rq (.lst (nats r)) = Hr at crow tkr hAr frr ⊢
      refine ⟨h, rq, s, F, x, y, r, rfl, hAr, SqL.of crow, (fun g H' sm => ?_), (fun a ga gf H' sm => ?_), (fun a ga gf gx H' sm => ?_), (fun a ga gf gx H' lq sm hfr hc => ?_)⟩
      · have e : step s (.related x y r) = (s, Pa05.ok (-1)) := by
          show (s, match s.type r with
            | none => Pa05.ok (-1)
            | some a => match Pa05.small Pa05.TOP s.n a, Pa05.small Pa05.TOP s.m a with
              | some p, some q => if Pa05.PAIRS < a.work (fun b => b.card s.n * b.card s.m) then Pa05.ok (-8) else if p ≤ x ∨ q ≤ y then Pa05.ok (-1) else Pa05.ok (if a.rel s.n s.m s.r x y = true then 1 else 0)
              | _, _ => Pa05.ok (-8)) = _
          rw [g]
        rw [e] at k1
        exact k1 rfl _ (tkr.more sm)
      · have e : step s (.related x y r) = (s, Pa05.ok (-8)) := by
          show (s, match s.type r with
            | none => Pa05.ok (-1)
            | some a => match Pa05.small Pa05.TOP s.n a, Pa05.small Pa05.TOP s.m a with
              | some p, some q => if Pa05.PAIRS < a.work (fun b => b.card s.n * b.card s.m) then Pa05.ok (-8) else if p ≤ x ∨ q ≤ y then Pa05.ok (-1) else Pa05.ok (if a.rel s.n s.m s.r x y = true then 1 else 0)
              | _, _ => Pa05.ok (-8)) = _
          rw [ga]
          simp only
          cases q1 : Pa05.small Pa05.TOP s.n a with
          | none => rfl
          | some x1 =>
            cases q2 : Pa05.small Pa05.TOP s.m a with
            | none => rfl
            | some x2 =>
              have : ¬ ¬ Pa05.PAIRS < a.work (fun b => b.card s.n * b.card s.m) := fun q3 => by
                have := fits_iff.mpr ⟨⟨x1, x2, q1, q2⟩, q3⟩
                exact Bool.noConfusion (this.symm.trans gf)
              simp only
              rw [if_pos (Classical.not_not.mp this)]
        rw [e] at k8
        exact k8 rfl _ (tkr.more sm)
      · obtain ⟨f1, f2, f3⟩ := fits_small gf
        have e : step s (.related x y r) = (s, Pa05.ok (-1)) := by
          show (s, match s.type r with
            | none => Pa05.ok (-1)
            | some a => match Pa05.small Pa05.TOP s.n a, Pa05.small Pa05.TOP s.m a with
              | some p, some q => if Pa05.PAIRS < a.work (fun b => b.card s.n * b.card s.m) then Pa05.ok (-8) else if p ≤ x ∨ q ≤ y then Pa05.ok (-1) else Pa05.ok (if a.rel s.n s.m s.r x y = true then 1 else 0)
              | _, _ => Pa05.ok (-8)) = _
          rw [ga]
          simp only
          rw [show Pa05.small Pa05.TOP s.n a = _ from f1, show Pa05.small Pa05.TOP s.m a = _ from f2]
          simp only
          rw [if_neg (by show ¬ 1000000 < _; omega), if_pos gx]
        rw [e] at k1
        exact k1 rfl _ (tkr.more sm)
      · obtain ⟨f1, f2, f3⟩ := fits_small gf
        have e : step s (.related x y r) = (s, Pa05.ok (if a.rel s.n s.m s.r x y = true then 1 else 0)) := by
          show (s, match s.type r with
            | none => Pa05.ok (-1)
            | some a => match Pa05.small Pa05.TOP s.n a, Pa05.small Pa05.TOP s.m a with
              | some p, some q => if Pa05.PAIRS < a.work (fun b => b.card s.n * b.card s.m) then Pa05.ok (-8) else if p ≤ x ∨ q ≤ y then Pa05.ok (-1) else Pa05.ok (if a.rel s.n s.m s.r x y = true then 1 else 0)
              | _, _ => Pa05.ok (-8)) = _
          rw [ga]
          simp only
          rw [show Pa05.small Pa05.TOP s.n a = _ from f1, show Pa05.small Pa05.TOP s.m a = _ from f2]
          simp only
          rw [if_neg (by show ¬ 1000000 < _; omega), if_neg gx]
        rw [e] at kQ
        exact kQ H' lq (tkr.more sm) (frr _ hfr) hc
    -- count
    | count r =>
      refine ⟨_, rfl, rd, dr, _, rfl, hrd, rdF_no l p, rd, dr, l, xs, p, rfl, hrd, hs, (fun q => absurd q (by omega)), (fun z hz => ?_)⟩
      have hz0 := got hx (j := 0) rfl
      rw [Nat.add_zero, hz] at hz0
      cases hz0
      refine ⟨_, rfl, rfl, _, rfl, if_false_of rfl ?_⟩
      refine ⟨_, rfl, rfl, _, rfl, if_false_of rfl ?_⟩
      refine ⟨_, rfl, rfl, _, rfl, if_false_of rfl ?_⟩
      refine ⟨_, rfl, rfl, _, rfl, if_false_of rfl ?_⟩
      refine ⟨_, rfl, rfl, _, rfl, if_false_of rfl ?_⟩
      refine ⟨_, rfl, rfl, _, rfl, if_false_of rfl ?_⟩
      refine ⟨_, rfl, rfl, _, rfl, if_true_of rfl ?_⟩
      obtain ⟨dx, S, R, L, M, trs, z0⟩ := hAt (p + 1)
      refine ⟨_, rfl, h, dx, _, rfl, z0.obj, hsF_no S R, _, rfl, rd, dr, _, rfl, cr (p + 1), rdF_no l (p + 1), rd, dr, l, xs, p + 1, r.length, rfl, cr (p + 1), sq (p + 1), got hx (j := 1) rfl, (got_row (k := 1) hx rfl (by simp [flat])).2, (fun rq hrq => ?_)⟩
      rw [uu, (got_row (k := 1) hx rfl (by simp [flat])).1, ints_nats]
      have srow : Same (upd H rd (.ins T.C_Reader dr (rdF l (p + 1 + 1 + r.length)))) (upd (upd H rd (.ins T.C_Reader dr (rdF l (p + 1 + 1 + r.length)))) rq (.lst (nats r))) := Same.new (by
        have hne : rq ≠ rd := fun z => by rw [z, cr] at hrq; cases hrq
        rw [upd_ne hne]
        rw [upd_ne hne] at hrq
        exact hrq)
      have crow : upd (upd H rd (.ins T.C_Reader dr (rdF l (p + 1 + 1 + r.length)))) rq (.lst (nats r)) rq = some (.lst (nats r)) := upd_same
      have epl : p + (flat (.count r)).length = p + 1 + 1 + r.length := by
        simp [flat, intsOf]
        omega
      rw [epl] at k1 k3 k8 k7 kQ
      have tkr := (tk (p + 1 + 1 + r.length)).more srow
      have hAr := (hAt (p + 1 + 1 + r.length)).mono srow
      have frr : ∀ b, upd (upd H rd (.ins T.C_Reader dr (rdF l (p + 1 + 1 + r.length)))) rq (.lst (nats r)) b = none → H b = none := fun b e => fre _ b (srow.free e)
      generalize upd (upd H rd (.ins T.C_Reader dr (rdF l (p + 1 + 1 + r.length)))) rq (.lst (nats r)) = Hr at crow tkr hAr frr ⊢
      refine ⟨h, rq, s, F, r, rfl, hAr, SqL.of crow, (fun g H' sm => ?_), (fun a ga gf H' sm => ?_), (fun a ga gf H' lq sm hfr hc => ?_)⟩
      · have e : step s (.count r) = (s, Pa05.ok (-1)) := by
          show (s, match s.type r with
            | none => Pa05.ok (-1)
            | some a => match Pa05.small Pa05.FEW s.n a, Pa05.small Pa05.FEW s.m a with
              | some _, some _ => if Pa05.FEWPAIRS < a.work (fun b => b.card s.n * b.card s.m) then Pa05.ok (-8) else ⟨((Pa05.pairs s.n s.m s.r a).length : Nat), match Pa05.pairs s.n s.m s.r a with
                | [] => []
                | x :: _ => [x.1, x.2]⟩
              | _, _ => Pa05.ok (-8)) = _
          rw [g]
        rw [e] at k1
        exact k1 rfl _ (tkr.more sm)
      · have e : step s (.count r) = (s, Pa05.ok (-8)) := by
          show (s, match s.type r with
            | none => Pa05.ok (-1)
            | some a => match Pa05.small Pa05.FEW s.n a, Pa05.small Pa05.FEW s.m a with
              | some _, some _ => if Pa05.FEWPAIRS < a.work (fun b => b.card s.n * b.card s.m) then Pa05.ok (-8) else ⟨((Pa05.pairs s.n s.m s.r a).length : Nat), match Pa05.pairs s.n s.m s.r a with
                | [] => []
                | x :: _ => [x.1, x.2]⟩
              | _, _ => Pa05.ok (-8)) = _
          rw [ga]
          simp only
          cases q1 : Pa05.small Pa05.FEW s.n a with
          | none => rfl
          | some x1 =>
            cases q2 : Pa05.small Pa05.FEW s.m a with
            | none => rfl
            | some x2 =>
              have : ¬ ¬ Pa05.FEWPAIRS < a.work (fun b => b.card s.n * b.card s.m) := fun q3 => by
                have := fits_iff.mpr ⟨⟨x1, x2, q1, q2⟩, q3⟩
                exact Bool.noConfusion (this.symm.trans gf)
              simp only
              rw [if_pos (Classical.not_not.mp this)]
        rw [e] at k8
        exact k8 rfl _ (tkr.more sm)
      · obtain ⟨f1, f2, f3⟩ := fits_small gf
        have e : step s (.count r) = (s, ⟨((Pa05.pairs s.n s.m s.r a).length : Nat), firstOf (Pa05.pairs s.n s.m s.r a)⟩) := by
          show (s, match s.type r with
            | none => Pa05.ok (-1)
            | some a => match Pa05.small Pa05.FEW s.n a, Pa05.small Pa05.FEW s.m a with
              | some _, some _ => if Pa05.FEWPAIRS < a.work (fun b => b.card s.n * b.card s.m) then Pa05.ok (-8) else ⟨((Pa05.pairs s.n s.m s.r a).length : Nat), match Pa05.pairs s.n s.m s.r a with
                | [] => []
                | x :: _ => [x.1, x.2]⟩
              | _, _ => Pa05.ok (-8)) = _
          rw [ga]
          simp only
          rw [show Pa05.small Pa05.FEW s.n a = _ from f1, show Pa05.small Pa05.FEW s.m a = _ from f2]
          simp only
          rw [if_neg (by show ¬ 4096 < _; omega)]
          cases Pa05.pairs s.n s.m s.r a <;> rfl
        rw [e] at kQ
        exact kQ H' lq (tkr.more sm) (frr _ hfr) hc
    -- kept
    | kept r =>
      refine ⟨_, rfl, rd, dr, _, rfl, hrd, rdF_no l p, rd, dr, l, xs, p, rfl, hrd, hs, (fun q => absurd q (by omega)), (fun z hz => ?_)⟩
      have hz0 := got hx (j := 0) rfl
      rw [Nat.add_zero, hz] at hz0
      cases hz0
      refine ⟨_, rfl, rfl, _, rfl, if_false_of rfl ?_⟩
      refine ⟨_, rfl, rfl, _, rfl, if_false_of rfl ?_⟩
      refine ⟨_, rfl, rfl, _, rfl, if_false_of rfl ?_⟩
      refine ⟨_, rfl, rfl, _, rfl, if_false_of rfl ?_⟩
      refine ⟨_, rfl, rfl, _, rfl, if_false_of rfl ?_⟩
      refine ⟨_, rfl, rfl, _, rfl, if_false_of rfl ?_⟩
      refine ⟨_, rfl, rfl, _, rfl, if_false_of rfl ?_⟩
      refine ⟨_, rfl, rfl, _, rfl, if_true_of rfl ?_⟩
      obtain ⟨dx, S, R, L, M, trs, z0⟩ := hAt (p + 1)
      refine ⟨_, rfl, h, dx, _, rfl, z0.obj, hsF_no S R, _, rfl, rd, dr, _, rfl, cr (p + 1), rdF_no l (p + 1), rd, dr, l, xs, p + 1, r.length, rfl, cr (p + 1), sq (p + 1), got hx (j := 1) rfl, (got_row (k := 1) hx rfl (by simp [flat])).2, (fun rq hrq => ?_)⟩
      rw [uu, (got_row (k := 1) hx rfl (by simp [flat])).1, ints_nats]
      have srow : Same (upd H rd (.ins T.C_Reader dr (rdF l (p + 1 + 1 + r.length)))) (upd (upd H rd (.ins T.C_Reader dr (rdF l (p + 1 + 1 + r.length)))) rq (.lst (nats r))) := Same.new (by
        have hne : rq ≠ rd := fun z => by rw [z, cr] at hrq; cases hrq
        rw [upd_ne hne]
        rw [upd_ne hne] at hrq
        exact hrq)
      have crow : upd (upd H rd (.ins T.C_Reader dr (rdF l (p + 1 + 1 + r.length)))) rq (.lst (nats r)) rq = some (.lst (nats r)) := upd_same
      have epl : p + (flat (.kept r)).length = p + 1 + 1 + r.length := by
        simp [flat, intsOf]
        omega
      rw [epl] at k1 k3 k8 k7 kQ
      have tkr := (tk (p + 1 + 1 + r.length)).more srow
      have hAr := (hAt (p + 1 + 1 + r.length)).mono srow
      have frr : ∀ b, upd (upd H rd (.ins T.C_Reader dr (rdF l (p + 1 + 1 + r.length)))) rq (.lst (nats r)) b = none → H b = none := fun b e => fre _ b (srow.free e)
      generalize upd (upd H rd (.ins T.C_Reader dr (rdF l (p + 1 + 1 + r.length)))) rq (.lst (nats r)) = Hr at crow tkr hAr frr ⊢
      refine ⟨h, rq, s, F, r, rfl, hAr, SqL.of crow, (fun g H' sm => ?_), (fun a ga gm H' sm => ?_), (fun a ga gm gf H' sm => ?_), (fun a ga gm gf H' lq sm hfr hc => ?_)⟩
      · have e : step s (.kept r) = (s, Pa05.ok (-1)) := by
          show (s, match s.type r with
            | none => Pa05.ok (-1)
            | some a => if (List.range s.k).any (fun i => decide (2 < s.n i)) = true ∨ 8 < Pa05.bitsOf s.n s.k then Pa05.ok (-3) else match Pa05.small Pa05.FEW s.n a with
              | none => Pa05.ok (-8)
              | some _ => if Pa05.FEWPAIRS < a.work (fun b => b.card s.n * b.card s.n) then Pa05.ok (-8) else ⟨((Pa05.kept s.n s.k a).length : Nat), Pa05.kept s.n s.k a⟩) = _
          rw [g]
        rw [e] at k1
        exact k1 rfl _ (tkr.more sm)
      · have e : step s (.kept r) = (s, Pa05.ok (-3)) := by
          show (s, match s.type r with
            | none => Pa05.ok (-1)
            | some a => if (List.range s.k).any (fun i => decide (2 < s.n i)) = true ∨ 8 < Pa05.bitsOf s.n s.k then Pa05.ok (-3) else match Pa05.small Pa05.FEW s.n a with
              | none => Pa05.ok (-8)
              | some _ => if Pa05.FEWPAIRS < a.work (fun b => b.card s.n * b.card s.n) then Pa05.ok (-8) else ⟨((Pa05.kept s.n s.k a).length : Nat), Pa05.kept s.n s.k a⟩) = _
          rw [ga]
          simp only
          rw [if_pos ((tooMany_eq s).mp gm)]
        rw [e] at k3
        exact k3 rfl _ (tkr.more sm)
      · have e : step s (.kept r) = (s, Pa05.ok (-8)) := by
          show (s, match s.type r with
            | none => Pa05.ok (-1)
            | some a => if (List.range s.k).any (fun i => decide (2 < s.n i)) = true ∨ 8 < Pa05.bitsOf s.n s.k then Pa05.ok (-3) else match Pa05.small Pa05.FEW s.n a with
              | none => Pa05.ok (-8)
              | some _ => if Pa05.FEWPAIRS < a.work (fun b => b.card s.n * b.card s.n) then Pa05.ok (-8) else ⟨((Pa05.kept s.n s.k a).length : Nat), Pa05.kept s.n s.k a⟩) = _
          rw [ga]
          simp only
          rw [if_neg (fun q => by have := (tooMany_eq s).mpr q; rw [this] at gm; cases gm)]
          cases q1 : Pa05.small Pa05.FEW s.n a with
          | none => rfl
          | some x1 =>
            have : ¬ ¬ Pa05.FEWPAIRS < a.work (fun b => b.card s.n * b.card s.n) := fun q3 => by
              have := fits_iff.mpr ⟨⟨x1, x1, q1, q1⟩, q3⟩
              exact Bool.noConfusion (this.symm.trans gf)
            simp only
            rw [if_pos (Classical.not_not.mp this)]
        rw [e] at k8
        exact k8 rfl _ (tkr.more sm)
      · obtain ⟨f1, f2, f3⟩ := fits_small gf
        have e : step s (.kept r) = (s, ⟨((Pa05.kept s.n s.k a).length : Nat), Pa05.kept s.n s.k a⟩) := by
          show (s, match s.type r with
            | none => Pa05.ok (-1)
            | some a => if (List.range s.k).any (fun i => decide (2 < s.n i)) = true ∨ 8 < Pa05.bitsOf s.n s.k then Pa05.ok (-3) else match Pa05.small Pa05.FEW s.n a with
              | none => Pa05.ok (-8)
              | some _ => if Pa05.FEWPAIRS < a.work (fun b => b.card s.n * b.card s.n) then Pa05.ok (-8) else ⟨((Pa05.kept s.n s.k a).length : Nat), Pa05.kept s.n s.k a⟩) = _
          rw [ga]
          simp only
          rw [if_neg (fun q => by have := (tooMany_eq s).mpr q; rw [this] at gm; cases gm), show Pa05.small Pa05.FEW s.n a = _ from f1]
          simp only
          rw [if_neg (by show ¬ 4096 < _; omega)]
        rw [e] at kQ
        exact kQ H' lq (tkr.more sm) (frr _ hfr) hc
end
end FC
namespace FC
open PySem PySem.Spec PyProof.Rows L2
open Pa05 (Ty typed Call State Ans step)
theorem HouseAt.own {K : PySem.W.Frag} {mg : Str → Option Value} {T : Txt K mg} {H : Hp} {h : Addr} {s : Pa05.State} {F : Addr → Prop} (x : HouseAt T H h s F) : HouseAt T H h s (fun b => F b ∧ ∃ o, H b = some o) := by
  obtain ⟨dx, S, R, L, M, trs, x⟩ := x
  refine ⟨dx, S, R, L, M, trs, x.obj, x.sz, x.left, x.right, x.rel, x.len, x.rels, x.k1, x.k3, x.n3, x.lm, x.lt, x.mt, x.nd, ⟨x.fh, _, x.obj⟩, ⟨x.fS, _, x.sz⟩, ⟨x.fR, _, x.rel⟩, ⟨x.fL, _, x.left⟩, ⟨x.fM, _, x.right⟩, fun t ht => ⟨x.ft t ht, ?_⟩⟩
  obtain ⟨i, hi⟩ := List.getElem?_of_mem ht
  exact ⟨_, x.rels i t hi⟩
theorem flat_pos (c : Call) : 0 < (flat c).length := by cases c <;> simp [flat]
theorem drop_flat {cs1 cs2 : List Call} : ((cs1 ++ cs2).flatMap flat).drop (cs1.flatMap flat).length = cs2.flatMap flat := by
  rw [List.flatMap_append, List.drop_left]
theorem ansV_int (a : Ans) : ansV a.v a.l = (a.v :: intsOf a.l).map V.int := by
  show V.int a.v :: nats a.l = V.int a.v :: (intsOf a.l).map V.int
  rw [ints_nats]
section
variable {P : Program} {w : World} {K : PySem.W.Frag} {mg : Str → Option Value} {base : Heap}
def sp_answer_or_refusal (T : Txt K mg) : Sp := fun vs H Q _ => ∃ (h rd dr l : Addr) (s : State) (F : Addr → Prop) (xs : List Int) (p : Nat) (c : Call), vs = [.ref h, .ref rd] ∧ HouseAt T H h s F ∧ H rd = some (.ins T.C_Reader dr (rdF l p)) ∧ ¬ F rd ∧ SqL K H l (xs.map V.int) ∧ (∃ rest, xs.drop p = flat c ++ rest) ∧ CallOk c ∧
  (∀ (H' : Hp) (q : Addr), After T H H' h rd dr l (p + (flat c).length) (step s c).1 F → (∀ b o, H b = some o → ¬ F b → b ≠ rd → b ≠ q) → H' q = some (.lst (ansV (step s c).2.v (step s c).2.l)) → Q (.ref q) H')
theorem ok_answer_or_refusal (T : Txt K mg) : FnOk P w K mg base CX0 131 T.f_answer_or_refusal T.fd_answer_or_refusal ["house", "reader"] (sp_answer_or_refusal T) := by
  refine T.F_answer_or_refusal.ok sc_answer_or_refusal (fun vs H Q E h => ?_) (fun cdv A outer s H vs Q E hr h => ⟨_, (pss_one (ps_tries (tb := _) sc_answer_or_refusal.nd rfl rfl takes0 (fun W pn xe tk po => (pss_one (ps_ret (pe_callS (ok_answer_call T) (hr.mono (by decide)) rfl T.g_answer_call T.k_answer_call T.b_answer_call (fun σ => passAt tk σ) (pa_cons (pv 0) (pa_cons (pv 1) pa_nil))))))
      (ClausesOk.plain ⟨rfl, by decide, .inl T.g_Unfit⟩ (fun _ _ _ _ _ _ _ => (pss_one (ps_ret (pe_lst (pa_cons (pe_un un_neg pe_int) pa_nil))))) (ClausesOk.plain ⟨rfl, by decide, .inl T.g_TooManyRelations⟩ (fun _ _ _ _ _ _ _ => (pss_one (ps_ret (pe_lst (pa_cons (pe_un un_neg pe_int) pa_nil))))) (ClausesOk.nmd (i := 2) ⟨rfl, by decide, .inl T.g_FaultyTerm⟩ rfl rfl (fun a oe cls d pn hz hf => (pss_one (ps_ret (pe_lst (pa_cons (pe_un un_neg pe_int) (pa_cons (pe_xf (FT.xfc T.ft_FaultyTerm) T.ft_FaultyTerm.noP hz hf (pv 2)) (pa_cons (pe_xf (FT.xfc T.ft_FaultyTerm) T.ft_FaultyTerm.noF hz hf (pv 2)) pa_nil))))))) (ClausesOk.plain ⟨rfl, by decide, .inl T.g_TooLarge⟩ (fun _ _ _ _ _ _ _ => (pss_one (ps_ret (pe_lst (pa_cons (pe_un un_neg pe_int) pa_nil))))) ClausesOk.nil)))))), ?_⟩)
  · obtain ⟨h, rd, dr, l, s, F, xs, p, c, rfl, _⟩ := h
    rfl
  · obtain ⟨h, rd, dr, l, s, F, xs, p, c, rfl, hA, hrd, hFr, hs, hx, cok, k⟩ := h
    have fin : ∀ (H' : Hp) (q : Addr) (v : Int) (r : List Nat), After T H H' h rd dr l (p + (flat c).length) (step s c).1 F → (step s c).2 = ⟨v, r⟩ → H' q = none → Q (.ref q) (upd H' q (.lst (ansV v r))) := by
      intro H' q v r ha e hq
      refine k _ q (ha.more (Same.new hq)) (fun b o eb h1 h2 z => ?_) ?_
      · have := ha.keep b o eb h1 h2
        rw [z, hq] at this
        cases this
      · rw [upd_same, e]
    refine ⟨_, rfl, _, rfl, h, rd, dr, l, s, F, xs, p, c, rfl, hA, hrd, hFr, hs, hx, cok, (fun e H' ha => ?_), (fun e H' ha => ?_), (fun e H' ha => ?_), (fun f e H' ha d hd => ?_), (fun H' q ha hq hc => ?_)⟩
    · refine ⟨true, T.e_Unfit_Unfit, (fun _ a _ => ?_), (fun q => Bool.noConfusion q)⟩
      exact ⟨_, rfl, (by show 1 ≤ sizeLine; decide), fun q hq => fin H' q (-1) [] ha e hq⟩
    · refine ⟨false, T.e_TooManyRelations_Unfit, (fun q => Bool.noConfusion q), (fun _ => ⟨true, T.e_TooManyRelations_TooManyRelations, (fun _ a _ => ?_), (fun q => Bool.noConfusion q)⟩)⟩
      exact ⟨_, rfl, (by show 1 ≤ sizeLine; decide), fun q hq => fin H' q (-3) [] ha e hq⟩
    · refine ⟨false, T.e_TooLarge_Unfit, (fun q => Bool.noConfusion q), (fun _ => ⟨false, T.e_TooLarge_TooManyRelations, (fun q => Bool.noConfusion q), (fun _ => ⟨false, T.e_TooLarge_FaultyTerm, (fun q => Bool.noConfusion q), (fun _ => ⟨true, T.e_TooLarge_TooLarge, (fun _ a _ => ?_), (fun q => Bool.noConfusion q)⟩)⟩)⟩)⟩
      exact ⟨_, rfl, (by show 1 ≤ sizeLine; decide), fun q hq => fin H' q (-8) [] ha e hq⟩
    · refine ⟨false, T.e_FaultyTerm_Unfit, (fun q => Bool.noConfusion q), (fun _ => ⟨false, T.e_FaultyTerm_TooManyRelations, (fun q => Bool.noConfusion q), (fun _ => ⟨true, T.e_FaultyTerm_FaultyTerm, (fun _ a _ => ?_), (fun q => Bool.noConfusion q)⟩)⟩)⟩
      have e1 : (ftF (.int (f.place : Int)) (.int (f.why : Int))).lookup ("part_number" : Str) = some (.int (f.place : Int)) := lk_here
      have e2 : (ftF (.int (f.place : Int)) (.int (f.why : Int))).lookup ("fault" : Str) = some (.int (f.why : Int)) := (lk_past (by decide +kernel)).trans lk_here
      refine ⟨_, rfl, _, rfl, rfl, rfl, d, _, _, rfl, upd_same, e1, _, rfl, rfl, rfl, d, _, _, rfl, upd_same, e2, (by show 3 ≤ sizeLine; decide), fun q hq => ?_⟩
      exact fin _ q (-7) [f.place, f.why] (ha.more (Same.new hd)) e hq
    · exact k H' q ha (fun b o eb h1 h2 z => by rw [z, hq] at eb; cases eb) hc
def spAns (K : PySem.W.Frag) : Sp := fun vs H Q _ => ∃ (a : Addr) (ns : List Int), vs = [.ref a] ∧ SqL K H a (ns.map V.int) ∧ ns.length ≤ 6240 ∧ (∀ x ∈ ns, 0 ≤ x ∧ x ≤ 4294967295) ∧ PyPa05.answers_asked ns = true ∧
  ∀ (H' : Hp) (p : Addr), H' p = some (.lst ((PyPa05.answers ns).map V.int)) → Q (.ref p) H'
theorem ok_answers1 (T : Txt K mg) : FnOk P w K mg base CX0 135 T.f_answers T.fd_answers ["calls"] (spAns K) := by
  refine T.F_answers.ok sc_answers (fun vs H Q E h => ?_) (fun cdv A outer s H vs Q E hr h => ⟨_, (pss_cons (ps_set (i := 1) sc_answers.nd rfl (Or.inl rfl) (pe_make0 T.mk_House (ok_House_init T) (hr.mono (by decide)) rfl T.g_House T.b_House_init .nil pass0))
    (pss_cons (ps_set (i := 2) sc_answers.nd rfl (Or.inl rfl) (pe_make T.mk_Reader (ok_Reader_init T) (hr.mono (by decide)) rfl T.g_Reader T.b_Reader_init .nil pass0 (pa_cons (pv 0) pa_nil)))
    (pss_cons (ps_set (i := 3) sc_answers.nd rfl (Or.inl rfl) (pe_lst pa_nil))
    (pss_cons (ps_while PassesOwn.never (pt_not (pt_val (pe_meth0 (pv 2) T.cl_Reader T.m_Reader_at_end (ok_Reader_at_end T) (hr.mono (by decide)) T.b_Reader_at_end .nil pass0)))
      (pss_cons (ps_set (i := 4) sc_answers.nd rfl (Or.inl rfl) (pe_call (ok_answer_or_refusal T) (hr.mono (by decide)) rfl T.g_answer_or_refusal T.k_answer_or_refusal T.b_answer_or_refusal .nil pass0 (pa_cons (pv 1) (pa_cons (pv 2) pa_nil))))
      (pss_cons (ps_expr (pe_bm PySem.F.plainAttrs_list PySem.F.slot_list_append PySem.F.type_list_append mt_append (pv 3) (pa_cons (pe_callB call_len_seq rfl T.n_len (by decide +kernel) (pa_cons (pv 4) pa_nil)) pa_nil)))
      (pss_one (ps_expr (pe_bm PySem.F.plainAttrs_list PySem.F.slot_list_extend PySem.F.type_list_extend mt_extend (pv 3) (pa_cons (pv 4) pa_nil)))))))
    (pss_one (ps_ret (pv 3))))))), ?_⟩)
  · obtain ⟨a, ns, rfl, _⟩ := h
    rfl
  · obtain ⟨l, ns, rfl, hs, h6240, hb, hask, k⟩ := h
    obtain ⟨cs, cok, c60, hns, hans, hlen⟩ := asked_is hask
    rw [hans] at k
    intro h dx nh ndx ne
    refine ⟨h, dx, rfl, upd_same, fun H1 ha1 b1 => ⟨rfl, ?_⟩⟩
    have s1 : Same H H1 := Same.made nh ndx b1
    obtain ⟨F1, ha1, hF1, hF1'⟩ : ∃ F1 : Addr → Prop, HouseAt T H1 h Pa05.init F1 ∧ (∀ b, F1 b → H b = none) ∧ ∀ b, F1 b → H1 b ≠ none := by
      refine ⟨_, ha1.own, ?_, ?_⟩
      · rintro b ⟨q | q, _⟩
        · rw [q]; exact nh
        · have g1 : b ≠ h := fun z => by rw [z, upd_same] at q; cases q
          rw [upd_ne g1] at q
          by_cases g2 : b = dx
          · rw [g2]; exact ndx
          · rw [upd_ne g2] at q; exact q
      · rintro b ⟨_, o, e⟩ z
        rw [e] at z; cases z
    refine ⟨_, rfl, fun rd dr nrd ndr ne2 => ?_⟩
    refine ⟨rd, dr, l, rfl, upd_same, fun H2 hrd b2 => ⟨rfl, ?_⟩⟩
    have s2 : Same H1 H2 := Same.made nrd ndr b2
    have hFr : ¬ F1 rd := fun q => hF1' rd q nrd
    refine ⟨(by show 0 ≤ sizeLine; decide), fun an han => ?_⟩
    have s3 : Same H2 (upd H2 an (.lst [])) := Same.new han
    have can : upd H2 an (.lst []) an = some (.lst (([] : List Int).map V.int)) := upd_same
    generalize upd H2 an (.lst []) = H3 at s3 can ⊢
    have hFa : ¬ F1 an := fun q => hF1' an q (s2.free han)
    have hra : rd ≠ an := ne_of_none hrd han
    have nrd0 : H rd = none := s1.free nrd
    have nan0 : H an = none := s1.free (s2.free han)
    refine while_by (fun σ Hc => ∃ (cs1 cs2 : List Call) (st : State) (F : Addr → Prop) (done : List Int) (v4 : Option V), cs = cs1 ++ cs2 ∧ HouseAt T Hc h st F ∧ (∀ b, F b → H b = none) ∧ ¬ F rd ∧ ¬ F an ∧ Hc rd = some (.ins T.C_Reader dr (rdF l (cs1.flatMap flat).length)) ∧ Hc an = some (.lst (done.map V.int)) ∧ done ++ tell st cs2 = tell Pa05.init cs ∧ Same H Hc ∧ σ = [some (.ref l), some (.ref h), some (.ref rd), some (.ref an), v4]) (fun σ Hc => match Hc an with
        | some (.lst ys) => 20000000 - ys.length
        | _ => 0) ⟨[], cs, Pa05.init, F1, [], none, rfl, (ha1.mono s2).mono s3, hF1, hFr, hFa, s3 _ _ hrd, can, rfl, Same.trans s1 (Same.trans s2 s3), rfl⟩ ?_ ?_
    rotate_left
    · rintro σ Hc Q1 Q2 hQ ⟨v, u1, a, dx, fs, u2, u3, u4, a', dx', l', xs', p', u5, u6, u7, b, u8, u9⟩
      exact ⟨v, u1, a, dx, fs, u2, u3, u4, a', dx', l', xs', p', u5, u6, u7, b, u8, hQ _ _ u9⟩
    rintro σ Hc ⟨cs1, cs2, st, F, done, v4, ecs, hA, hF, fr, fa, crd, cand, etl, sm, rfl⟩
    have hsc := sm.seq hs
    refine ⟨_, rfl, rd, dr, _, rfl, crd, rdF_no l _, rd, dr, l, ns, _, rfl, crd, hsc, _, rfl, ?_⟩
    have edrop : ns.drop (cs1.flatMap flat).length = cs2.flatMap flat := by rw [hns, ecs, drop_flat]
    cases cs2 with
    | nil =>
      have e0 : ns.length ≤ (cs1.flatMap flat).length := List.drop_eq_nil_iff.mp edrop
      rw [decide_eq_true e0]
      refine if_false_of rfl ⟨_, rfl, k Hc an ?_⟩
      rw [cand, ← etl]
      simp [tell]
    | cons c cs2 =>
      have hpos := flat_pos c
      have e0 : ¬ ns.length ≤ (cs1.flatMap flat).length := by
        have := congrArg List.length edrop
        rw [List.length_drop, List.flatMap_cons, List.length_append] at this
        omega
      rw [decide_eq_false e0]
      refine if_true_of rfl ?_
      have hc : c ∈ cs := by rw [ecs]; simp
      refine ⟨_, rfl, _, rfl, h, rd, dr, l, st, F, ns, _, c, rfl, hA, crd, fr, hsc, ⟨_, edrop.trans (List.flatMap_cons ..)⟩, cok c hc, fun H' q ha hq hans' => ?_⟩
      have cand' := ha.keep _ _ cand fa hra.symm
      have hqa : an ≠ q := hq _ _ cand fa hra.symm
      have etl' : done ++ (told1 (step st c).2 ++ tell (step st c).1 cs2) = tell Pa05.init cs := etl
      have ll : done.length + ((told1 (step st c).2).length + (tell (step st c).1 cs2).length) = (tell Pa05.init cs).length := by
        rw [← etl', List.length_append, List.length_append]
      have lt1 : (told1 (step st c).2).length = (step st c).2.l.length + 2 := by
        simp [told1, intsOf]
      -- answered.append(len(answer))
      refine ⟨_, rfl, .inl ⟨rfl, _, SqL.of cand'⟩, _, rfl, q, _, rfl, .inl (SqL.of hans'), an, _, _, rfl, rfl, cand', (by rw [List.length_map]; exact lt_line (by omega)), ?_⟩
      have ev : done.map V.int ++ [V.int (((ansV (step st c).2.v (step st c).2.l).length : Nat) : Int)] = (done ++ [((step st c).2.l.length : Int) + 1]).map V.int := by
        rw [List.map_append]
        show _ ++ [V.int ((((nats (step st c).2.l).length + 1 : Nat)) : Int)] = _
        rw [nats_length]
        rfl
      rw [ev]
      have can1 : upd H' an (.lst ((done ++ [((step st c).2.l.length : Int) + 1]).map V.int)) an = some (.lst ((done ++ [((step st c).2.l.length : Int) + 1]).map V.int)) := upd_same
      have q1 : upd H' an (.lst ((done ++ [((step st c).2.l.length : Int) + 1]).map V.int)) q = some (.lst (ansV (step st c).2.v (step st c).2.l)) := by rw [upd_ne hqa.symm]; exact hans'
      have k1 : ∀ b o, b ≠ an → H' b = some o → upd H' an (.lst ((done ++ [((step st c).2.l.length : Int) + 1]).map V.int)) b = some o := fun b o hb e => by rw [upd_ne hb]; exact e
      have hA1 := ha.house.put (rd := an) (fun z => by
        rcases z with z | z
        · exact fa z
        · rw [cand] at z; cases z) (.lst ((done ++ [((step st c).2.l.length : Int) + 1]).map V.int))
      generalize upd H' an (.lst ((done ++ [((step st c).2.l.length : Int) + 1]).map V.int)) = H4 at can1 q1 k1 hA1 ⊢
      -- answered.extend(answer)
      refine ⟨_, rfl, .inl ⟨rfl, _, SqL.of can1⟩, _, rfl, an, q, _, _, rfl, rfl, can1, q1, ?_, ?_⟩
      · rw [List.length_map, List.length_append]
        show _ + 1 + ((nats (step st c).2.l).length + 1) ≤ sizeLine
        rw [nats_length]
        exact le_line (by omega)
      · have ev2 : (done ++ [((step st c).2.l.length : Int) + 1]).map V.int ++ ansV (step st c).2.v (step st c).2.l = (done ++ told1 (step st c).2).map V.int := by
          rw [ansV_int, ← List.map_append, List.append_assoc]
          rfl
        rw [ev2]
        have hA2 := hA1.put (rd := an) (fun z => by
          rcases z with z | z
          · exact fa z
          · rw [cand] at z; cases z) (.lst ((done ++ told1 (step st c).2).map V.int))
        refine ⟨⟨cs1 ++ [c], cs2, (step st c).1, _, done ++ told1 (step st c).2, _, by rw [ecs]; simp, hA2, ?_, ?_, ?_, ?_, upd_same, ?_, ?_, rfl⟩, ?_⟩
        · rintro b (q' | q')
          · exact hF b q'
          · exact sm.free q'
        · rintro (q' | q')
          · exact fr q'
          · rw [crd] at q'; cases q'
        · rintro (q' | q')
          · exact fa q'
          · rw [cand] at q'; cases q'
        · rw [upd_ne hra, k1 _ _ hra ha.rdr, List.flatMap_append, List.length_append, List.flatMap_cons, List.flatMap_nil, List.append_nil]
        · rw [List.append_assoc]
          exact etl'
        · intro b o e
          have g1 : b ≠ an := ne_of_none e nan0
          have g2 : b ≠ rd := ne_of_none e nrd0
          rw [upd_ne g1]
          exact k1 b o g1 (ha.keep b o (sm b o e) (fun z => by rw [hF b z] at e; cases e) g2)
        · show (match upd H4 an _ an with
            | some (.lst ys) => 20000000 - ys.length
            | _ => 0) < (match Hc an with
            | some (.lst ys) => 20000000 - ys.length
            | _ => 0)
          rw [upd_same, cand]
          show 20000000 - ((done ++ told1 (step st c).2).map V.int).length < 20000000 - (done.map V.int).length
          rw [List.length_map, List.length_map, List.length_append]
          omega
end
theorem ok_answers {P : Program} {w : World} {K : PySem.W.Frag} {mg : Str → Option Value} (T : FC.Txt K mg) (base : Heap) : K.In base → base.Ns mainGlobals mg → FnOk P w K mg base CX0 135 T.f_answers T.fd_answers ["calls"] (FC.spAns K) := fun _ _ => ok_answers1 T
end FC
namespace FC
open PySem PySem.Spec PyProof.Rows L2
def all_mk {K : PySem.W.Frag} {h : Heap} {mg : Str → Option Value} (X : K.In h) (G : h.Ns mainGlobals mg)
    {C_Reader C_Part C_House C_Unfit C_TooManyRelations C_FaultyTerm C_TooLarge C_UnknownCall I_FaultyTerm xN_FaultyTerm f_Reader_init f_Reader_at_end f_Reader_take f_Reader_take_row f_read_kind dt_read_kind f_read_variable f_read_kind_row f_kind_row f_kind_size f_joined_size f_functions_size f_Part_init f_read_term_row f_read_term f_read_told f_give_kinds f_found_kind f_variable_kind f_cases_kind f_put_kind f_if_kind f_want f_want_same f_refuse_too_large f_kind_weight f_kind_relation f_pair_relation f_function_relation f_allowed_marks f_functions_within f_spread f_places f_is_marked f_refuse_too_many f_pairs_of_all f_kept_values f_chosen_relations f_term_meaning f_measure_parts f_found_weight f_part_table f_choices f_variable_table f_function_table f_joined_table f_cases_table f_put_table f_powers_of f_House_init f_House_begin f_House_variables f_House_sets f_House_relate f_House_size f_House_meaning f_House_relation_of f_House_related f_House_count f_House_kept f_answers f_answer_or_refusal f_answer_call t_PART_COUNTS : Addr} {xod_FaultyTerm xan_FaultyTerm od_Reader_init an_Reader_init od_Reader_at_end an_Reader_at_end od_Reader_take an_Reader_take od_Reader_take_row an_Reader_take_row od_read_kind an_read_kind dod_read_kind od_read_variable an_read_variable od_read_kind_row an_read_kind_row od_kind_row an_kind_row od_kind_size an_kind_size od_joined_size an_joined_size od_functions_size an_functions_size od_Part_init an_Part_init od_read_term_row an_read_term_row od_read_term an_read_term od_read_told an_read_told od_give_kinds an_give_kinds od_found_kind an_found_kind od_variable_kind an_variable_kind od_cases_kind an_cases_kind od_put_kind an_put_kind od_if_kind an_if_kind od_want an_want od_want_same an_want_same od_refuse_too_large an_refuse_too_large od_kind_weight an_kind_weight od_kind_relation an_kind_relation od_pair_relation an_pair_relation od_function_relation an_function_relation od_allowed_marks an_allowed_marks od_functions_within an_functions_within od_spread an_spread od_places an_places od_is_marked an_is_marked od_refuse_too_many an_refuse_too_many od_pairs_of_all an_pairs_of_all od_kept_values an_kept_values od_chosen_relations an_chosen_relations od_term_meaning an_term_meaning od_measure_parts an_measure_parts od_found_weight an_found_weight od_part_table an_part_table od_choices an_choices od_variable_table an_variable_table od_function_table an_function_table od_joined_table an_joined_table od_cases_table an_cases_table od_put_table an_put_table od_powers_of an_powers_of od_House_init an_House_init od_House_begin an_House_begin od_House_variables an_House_variables od_House_sets an_House_sets od_House_relate an_House_relate od_House_size an_House_size od_House_meaning an_House_meaning od_House_relation_of an_House_relation_of od_House_related an_House_related od_House_count an_House_count od_House_kept an_House_kept od_answers an_answers od_answer_or_refusal an_answer_or_refusal od_answer_call an_answer_call tod_PART_COUNTS : Option Addr}
    {xsl_FaultyTerm sl_Reader_init sl_Reader_at_end sl_Reader_take sl_Reader_take_row sl_read_kind dsl_read_kind sl_read_variable sl_read_kind_row sl_kind_row sl_kind_size sl_joined_size sl_functions_size sl_Part_init sl_read_term_row sl_read_term sl_read_told sl_give_kinds sl_found_kind sl_variable_kind sl_cases_kind sl_put_kind sl_if_kind sl_want sl_want_same sl_refuse_too_large sl_kind_weight sl_kind_relation sl_pair_relation sl_function_relation sl_allowed_marks sl_functions_within sl_spread sl_places sl_is_marked sl_refuse_too_many sl_pairs_of_all sl_kept_values sl_chosen_relations sl_term_meaning sl_measure_parts sl_found_weight sl_part_table sl_choices sl_variable_table sl_function_table sl_joined_table sl_cases_table sl_put_table sl_powers_of sl_House_init sl_House_begin sl_House_variables sl_House_sets sl_House_relate sl_House_size sl_House_meaning sl_House_relation_of sl_House_related sl_House_count sl_House_kept sl_answers sl_answer_or_refusal sl_answer_call tsl_PART_COUNTS : Array (Option Value)} {xoc_FaultyTerm xkV_FaultyTerm xdc_FaultyTerm xpm_FaultyTerm xcd_FaultyTerm xct_FaultyTerm oc_Reader_init kV_Reader_init dc_Reader_init pm_Reader_init cd_Reader_init ct_Reader_init oc_Reader_at_end kV_Reader_at_end dc_Reader_at_end pm_Reader_at_end cd_Reader_at_end ct_Reader_at_end oc_Reader_take kV_Reader_take dc_Reader_take pm_Reader_take cd_Reader_take ct_Reader_take oc_Reader_take_row kV_Reader_take_row dc_Reader_take_row pm_Reader_take_row cd_Reader_take_row ct_Reader_take_row oc_read_kind kV_read_kind dc_read_kind pm_read_kind cd_read_kind ct_read_kind doc_read_kind oc_read_variable kV_read_variable dc_read_variable pm_read_variable cd_read_variable ct_read_variable oc_read_kind_row kV_read_kind_row dc_read_kind_row pm_read_kind_row cd_read_kind_row ct_read_kind_row oc_kind_row kV_kind_row dc_kind_row pm_kind_row cd_kind_row ct_kind_row oc_kind_size kV_kind_size dc_kind_size pm_kind_size cd_kind_size ct_kind_size oc_joined_size kV_joined_size dc_joined_size pm_joined_size cd_joined_size ct_joined_size oc_functions_size kV_functions_size dc_functions_size pm_functions_size cd_functions_size ct_functions_size oc_Part_init kV_Part_init dc_Part_init pm_Part_init cd_Part_init ct_Part_init oc_read_term_row kV_read_term_row dc_read_term_row pm_read_term_row cd_read_term_row ct_read_term_row oc_read_term kV_read_term dc_read_term pm_read_term cd_read_term ct_read_term oc_read_told kV_read_told dc_read_told pm_read_told cd_read_told ct_read_told oc_give_kinds kV_give_kinds dc_give_kinds pm_give_kinds cd_give_kinds ct_give_kinds oc_found_kind kV_found_kind dc_found_kind pm_found_kind cd_found_kind ct_found_kind oc_variable_kind kV_variable_kind dc_variable_kind pm_variable_kind cd_variable_kind ct_variable_kind oc_cases_kind kV_cases_kind dc_cases_kind pm_cases_kind cd_cases_kind ct_cases_kind oc_put_kind kV_put_kind dc_put_kind pm_put_kind cd_put_kind ct_put_kind oc_if_kind kV_if_kind dc_if_kind pm_if_kind cd_if_kind ct_if_kind oc_want kV_want dc_want pm_want cd_want ct_want oc_want_same kV_want_same dc_want_same pm_want_same cd_want_same ct_want_same oc_refuse_too_large kV_refuse_too_large dc_refuse_too_large pm_refuse_too_large cd_refuse_too_large ct_refuse_too_large oc_kind_weight kV_kind_weight dc_kind_weight pm_kind_weight cd_kind_weight ct_kind_weight oc_kind_relation kV_kind_relation dc_kind_relation pm_kind_relation cd_kind_relation ct_kind_relation oc_pair_relation kV_pair_relation dc_pair_relation pm_pair_relation cd_pair_relation ct_pair_relation oc_function_relation kV_function_relation dc_function_relation pm_function_relation cd_function_relation ct_function_relation oc_allowed_marks kV_allowed_marks dc_allowed_marks pm_allowed_marks cd_allowed_marks ct_allowed_marks oc_functions_within kV_functions_within dc_functions_within pm_functions_within cd_functions_within ct_functions_within oc_spread kV_spread dc_spread pm_spread cd_spread ct_spread oc_places kV_places dc_places pm_places cd_places ct_places oc_is_marked kV_is_marked dc_is_marked pm_is_marked cd_is_marked ct_is_marked oc_refuse_too_many kV_refuse_too_many dc_refuse_too_many pm_refuse_too_many cd_refuse_too_many ct_refuse_too_many oc_pairs_of_all kV_pairs_of_all dc_pairs_of_all pm_pairs_of_all cd_pairs_of_all ct_pairs_of_all oc_kept_values kV_kept_values dc_kept_values pm_kept_values cd_kept_values ct_kept_values oc_chosen_relations kV_chosen_relations dc_chosen_relations pm_chosen_relations cd_chosen_relations ct_chosen_relations oc_term_meaning kV_term_meaning dc_term_meaning pm_term_meaning cd_term_meaning ct_term_meaning oc_measure_parts kV_measure_parts dc_measure_parts pm_measure_parts cd_measure_parts ct_measure_parts oc_found_weight kV_found_weight dc_found_weight pm_found_weight cd_found_weight ct_found_weight oc_part_table kV_part_table dc_part_table pm_part_table cd_part_table ct_part_table oc_choices kV_choices dc_choices pm_choices cd_choices ct_choices oc_variable_table kV_variable_table dc_variable_table pm_variable_table cd_variable_table ct_variable_table oc_function_table kV_function_table dc_function_table pm_function_table cd_function_table ct_function_table oc_joined_table kV_joined_table dc_joined_table pm_joined_table cd_joined_table ct_joined_table oc_cases_table kV_cases_table dc_cases_table pm_cases_table cd_cases_table ct_cases_table oc_put_table kV_put_table dc_put_table pm_put_table cd_put_table ct_put_table oc_powers_of kV_powers_of dc_powers_of pm_powers_of cd_powers_of ct_powers_of oc_House_init kV_House_init dc_House_init pm_House_init cd_House_init ct_House_init oc_House_begin kV_House_begin dc_House_begin pm_House_begin cd_House_begin ct_House_begin oc_House_variables kV_House_variables dc_House_variables pm_House_variables cd_House_variables ct_House_variables oc_House_sets kV_House_sets dc_House_sets pm_House_sets cd_House_sets ct_House_sets oc_House_relate kV_House_relate dc_House_relate pm_House_relate cd_House_relate ct_House_relate oc_House_size kV_House_size dc_House_size pm_House_size cd_House_size ct_House_size oc_House_meaning kV_House_meaning dc_House_meaning pm_House_meaning cd_House_meaning ct_House_meaning oc_House_relation_of kV_House_relation_of dc_House_relation_of pm_House_relation_of cd_House_relation_of ct_House_relation_of oc_House_related kV_House_related dc_House_related pm_House_related cd_House_related ct_House_related oc_House_count kV_House_count dc_House_count pm_House_count cd_House_count ct_House_count oc_House_kept kV_House_kept dc_House_kept pm_House_kept cd_House_kept ct_House_kept oc_answers kV_answers dc_answers pm_answers cd_answers ct_answers oc_answer_or_refusal kV_answer_or_refusal dc_answer_or_refusal pm_answer_or_refusal cd_answer_or_refusal ct_answer_or_refusal oc_answer_call kV_answer_call dc_answer_call pm_answer_call cd_answer_call ct_answer_call : Value} {tk_VARIABLE tk_TWO tk_PAIR tk_EITHER tk_FUNCTION tk_DEEPEST tk_LARGEST tk_VARIABLE_TERM tk_PAIR_TERM tk_FIRST tk_SECOND tk_LEFT tk_RIGHT tk_CASES tk_FUNCTION_TERM tk_PUT tk_YES tk_NO tk_IF tk_DEEPEST_TERM tk_NO_FUNCTION tk_NOT_WANTED tk_NOT_THE_SAME tk_LARGEST_KEPT_SET tk_MOST_PAIRS tk_HEAVIEST_TERM tk_BEGIN tk_SETS tk_RELATE tk_SIZE tk_MEANING tk_RELATED tk_COUNT tk_KEPT tk_SIDES tk_MOST_VARIABLES tk_LARGEST_SET tk_HEAVIEST_KIND tk_LARGEST_COUNTED tk_HEAVIEST_COUNTED dtk0_read_kind ttk0_PART_COUNTS ttk1_PART_COUNTS ttk2_PART_COUNTS ttk3_PART_COUNTS ttk4_PART_COUNTS ttk5_PART_COUNTS ttk6_PART_COUNTS ttk7_PART_COUNTS ttk8_PART_COUNTS ttk9_PART_COUNTS ttk10_PART_COUNTS ttk11_PART_COUNTS : Tok}
    {dn_read_kind tn_PART_COUNTS : Nat}
    {xnm_FaultyTerm xq_FaultyTerm : Str} {xbs_FaultyTerm xsub_FaultyTerm : List Value} {xsn_FaultyTerm : List Str} {xab_FaultyTerm : Bool} {xcol_FaultyTerm : Option Bool} {xdd_FaultyTerm : Option Addr} {xm0_FaultyTerm xm1_FaultyTerm xm2_FaultyTerm xm3_FaultyTerm xm5_FaultyTerm : Option Value}
    (a_Reader : PySem.W.nsIn K mainGlobals "Reader" = some (some (.ref C_Reader)))
    (pg_Reader : PySem.W.plainGet K C_Reader Str.empty = true)
    (hd_Reader : PySem.W.hasDictIn K C_Reader = true)
    (po_Reader : PySem.W.plainOver K C_Reader = true)
    (sa_Reader : PySem.W.findIn K (.ref C_Reader) "__setattr__" = some (some (.builtin "object.__setattr__")))
    (mk_Reader : PySem.W.makesIn K C_Reader = true)
    (kc_Reader : PySem.W.keepIn K (.ref C_Reader) = true)
    (n_Reader_numbers : PySem.W.findIn K (.ref C_Reader) "numbers" = some none)
    (n_Reader_place : PySem.W.findIn K (.ref C_Reader) "place" = some none)
    (a_Part : PySem.W.nsIn K mainGlobals "Part" = some (some (.ref C_Part)))
    (pg_Part : PySem.W.plainGet K C_Part Str.empty = true)
    (hd_Part : PySem.W.hasDictIn K C_Part = true)
    (po_Part : PySem.W.plainOver K C_Part = true)
    (sa_Part : PySem.W.findIn K (.ref C_Part) "__setattr__" = some (some (.builtin "object.__setattr__")))
    (mk_Part : PySem.W.makesIn K C_Part = true)
    (kc_Part : PySem.W.keepIn K (.ref C_Part) = true)
    (n_Part_head : PySem.W.findIn K (.ref C_Part) "head" = some none)
    (n_Part_number : PySem.W.findIn K (.ref C_Part) "number" = some none)
    (n_Part_told : PySem.W.findIn K (.ref C_Part) "told" = some none)
    (n_Part_parts : PySem.W.findIn K (.ref C_Part) "parts" = some none)
    (n_Part_kind : PySem.W.findIn K (.ref C_Part) "kind" = some none)
    (n_Part_extent : PySem.W.findIn K (.ref C_Part) "extent" = some none)
    (n_Part_weight : PySem.W.findIn K (.ref C_Part) "weight" = some none)
    (a_House : PySem.W.nsIn K mainGlobals "House" = some (some (.ref C_House)))
    (pg_House : PySem.W.plainGet K C_House Str.empty = true)
    (hd_House : PySem.W.hasDictIn K C_House = true)
    (po_House : PySem.W.plainOver K C_House = true)
    (sa_House : PySem.W.findIn K (.ref C_House) "__setattr__" = some (some (.builtin "object.__setattr__")))
    (mk_House : PySem.W.makesIn K C_House = true)
    (kc_House : PySem.W.keepIn K (.ref C_House) = true)
    (n_House_set_sizes : PySem.W.findIn K (.ref C_House) "set_sizes" = some none)
    (n_House_told_relations : PySem.W.findIn K (.ref C_House) "told_relations" = some none)
    (a_Unfit : PySem.W.nsIn K mainGlobals "Unfit" = some (some (.ref C_Unfit)))
    (a_TooManyRelations : PySem.W.nsIn K mainGlobals "TooManyRelations" = some (some (.ref C_TooManyRelations)))
    (a_FaultyTerm : PySem.W.nsIn K mainGlobals "FaultyTerm" = some (some (.ref C_FaultyTerm)))
    (a_TooLarge : PySem.W.nsIn K mainGlobals "TooLarge" = some (some (.ref C_TooLarge)))
    (a_UnknownCall : PySem.W.nsIn K mainGlobals "UnknownCall" = some (some (.ref C_UnknownCall)))
    (x_Unfit : PySem.W.excIn K C_Unfit [.type "Exception", .type "BaseException", .type "object"] "Exception.__new__" = true)
    (k_Unfit : PySem.W.keepIn K (.ref C_Unfit) = true)
    (b_Unfit : PySem.W.subIn K (.ref C_Unfit) (.type "BaseException") = some true)
    (t_Unfit : PySem.W.typeIn K (.ref C_Unfit) = some (.type "type"))
    (i_Unfit : PySem.W.isClsIn K C_Unfit = true)
    (s_Unfit_Unfit : PySem.W.subIn K (.ref C_Unfit) (.ref C_Unfit) = some true)
    (s_Unfit_TooManyRelations : PySem.W.subIn K (.ref C_Unfit) (.ref C_TooManyRelations) = some false)
    (s_Unfit_FaultyTerm : PySem.W.subIn K (.ref C_Unfit) (.ref C_FaultyTerm) = some false)
    (s_Unfit_TooLarge : PySem.W.subIn K (.ref C_Unfit) (.ref C_TooLarge) = some false)
    (s_Unfit_UnknownCall : PySem.W.subIn K (.ref C_Unfit) (.ref C_UnknownCall) = some false)
    (x_TooManyRelations : PySem.W.excIn K C_TooManyRelations [.type "Exception", .type "BaseException", .type "object"] "Exception.__new__" = true)
    (k_TooManyRelations : PySem.W.keepIn K (.ref C_TooManyRelations) = true)
    (b_TooManyRelations : PySem.W.subIn K (.ref C_TooManyRelations) (.type "BaseException") = some true)
    (t_TooManyRelations : PySem.W.typeIn K (.ref C_TooManyRelations) = some (.type "type"))
    (i_TooManyRelations : PySem.W.isClsIn K C_TooManyRelations = true)
    (s_TooManyRelations_Unfit : PySem.W.subIn K (.ref C_TooManyRelations) (.ref C_Unfit) = some false)
    (s_TooManyRelations_TooManyRelations : PySem.W.subIn K (.ref C_TooManyRelations) (.ref C_TooManyRelations) = some true)
    (s_TooManyRelations_FaultyTerm : PySem.W.subIn K (.ref C_TooManyRelations) (.ref C_FaultyTerm) = some false)
    (s_TooManyRelations_TooLarge : PySem.W.subIn K (.ref C_TooManyRelations) (.ref C_TooLarge) = some false)
    (s_TooManyRelations_UnknownCall : PySem.W.subIn K (.ref C_TooManyRelations) (.ref C_UnknownCall) = some false)
    (k_FaultyTerm : PySem.W.keepIn K (.ref C_FaultyTerm) = true)
    (b_FaultyTerm : PySem.W.subIn K (.ref C_FaultyTerm) (.type "BaseException") = some true)
    (t_FaultyTerm : PySem.W.typeIn K (.ref C_FaultyTerm) = some (.type "type"))
    (i_FaultyTerm : PySem.W.isClsIn K C_FaultyTerm = true)
    (s_FaultyTerm_Unfit : PySem.W.subIn K (.ref C_FaultyTerm) (.ref C_Unfit) = some false)
    (s_FaultyTerm_TooManyRelations : PySem.W.subIn K (.ref C_FaultyTerm) (.ref C_TooManyRelations) = some false)
    (s_FaultyTerm_FaultyTerm : PySem.W.subIn K (.ref C_FaultyTerm) (.ref C_FaultyTerm) = some true)
    (s_FaultyTerm_TooLarge : PySem.W.subIn K (.ref C_FaultyTerm) (.ref C_TooLarge) = some false)
    (s_FaultyTerm_UnknownCall : PySem.W.subIn K (.ref C_FaultyTerm) (.ref C_UnknownCall) = some false)
    (x_TooLarge : PySem.W.excIn K C_TooLarge [.type "Exception", .type "BaseException", .type "object"] "Exception.__new__" = true)
    (k_TooLarge : PySem.W.keepIn K (.ref C_TooLarge) = true)
    (b_TooLarge : PySem.W.subIn K (.ref C_TooLarge) (.type "BaseException") = some true)
    (t_TooLarge : PySem.W.typeIn K (.ref C_TooLarge) = some (.type "type"))
    (i_TooLarge : PySem.W.isClsIn K C_TooLarge = true)
    (s_TooLarge_Unfit : PySem.W.subIn K (.ref C_TooLarge) (.ref C_Unfit) = some false)
    (s_TooLarge_TooManyRelations : PySem.W.subIn K (.ref C_TooLarge) (.ref C_TooManyRelations) = some false)
    (s_TooLarge_FaultyTerm : PySem.W.subIn K (.ref C_TooLarge) (.ref C_FaultyTerm) = some false)
    (s_TooLarge_TooLarge : PySem.W.subIn K (.ref C_TooLarge) (.ref C_TooLarge) = some true)
    (s_TooLarge_UnknownCall : PySem.W.subIn K (.ref C_TooLarge) (.ref C_UnknownCall) = some false)
    (x_UnknownCall : PySem.W.excIn K C_UnknownCall [.type "Exception", .type "BaseException", .type "object"] "Exception.__new__" = true)
    (k_UnknownCall : PySem.W.keepIn K (.ref C_UnknownCall) = true)
    (b_UnknownCall : PySem.W.subIn K (.ref C_UnknownCall) (.type "BaseException") = some true)
    (t_UnknownCall : PySem.W.typeIn K (.ref C_UnknownCall) = some (.type "type"))
    (i_UnknownCall : PySem.W.isClsIn K C_UnknownCall = true)
    (s_UnknownCall_Unfit : PySem.W.subIn K (.ref C_UnknownCall) (.ref C_Unfit) = some false)
    (s_UnknownCall_TooManyRelations : PySem.W.subIn K (.ref C_UnknownCall) (.ref C_TooManyRelations) = some false)
    (s_UnknownCall_FaultyTerm : PySem.W.subIn K (.ref C_UnknownCall) (.ref C_FaultyTerm) = some false)
    (s_UnknownCall_TooLarge : PySem.W.subIn K (.ref C_UnknownCall) (.ref C_TooLarge) = some false)
    (s_UnknownCall_UnknownCall : PySem.W.subIn K (.ref C_UnknownCall) (.ref C_UnknownCall) = some true)
    (xL_FaultyTerm : K.lookup C_FaultyTerm = some (excClassObj xnm_FaultyTerm xq_FaultyTerm C_FaultyTerm xN_FaultyTerm xbs_FaultyTerm [.type "Exception", .type "BaseException", .type "object"] true xsn_FaultyTerm xsub_FaultyTerm xab_FaultyTerm xcol_FaultyTerm xdd_FaultyTerm xm0_FaultyTerm xm1_FaultyTerm xm2_FaultyTerm xm3_FaultyTerm xm5_FaultyTerm "Exception.__new__"))
    (xsa_FaultyTerm : PySem.W.findIn K (.ref C_FaultyTerm) "__setattr__" = some (some (.builtin "object.__setattr__")))
    (xga_FaultyTerm : PySem.W.findIn K (.ref C_FaultyTerm) "__getattribute__" = some (some (.builtin "BaseException.__getattribute__")))
    (xgg_FaultyTerm : PySem.W.findIn K (.ref C_FaultyTerm) "__getattr__" = some none)
    (xn0_FaultyTerm : PySem.W.findIn K (.ref C_FaultyTerm) "part_number" = some none)
    (xn1_FaultyTerm : PySem.W.findIn K (.ref C_FaultyTerm) "fault" = some none)
    (xi_FaultyTerm : PySem.W.findIn K (.ref C_FaultyTerm) "__init__" = some (some (.ref I_FaultyTerm)))
    (xt_FaultyTerm : PySem.W.typeIn K (.ref I_FaultyTerm) = some (.type "function"))
    (xh_FaultyTerm : PySem.W.hasDictIn K C_FaultyTerm = true)
    (xl_FaultyTerm : K.lookup I_FaultyTerm = some ⟨xoc_FaultyTerm, xod_FaultyTerm, .func (PySem.W.fnOf "__init__" "FaultyTerm.__init__" (FT.ftA ⟨8, 17, 8, 21⟩ ⟨8, 23, 8, 34⟩ ⟨8, 36, 8, 41⟩) (FT.ftB ⟨9, 8, 9, 12⟩ ⟨9, 8, 9, 24⟩ ⟨9, 27, 9, 38⟩ ⟨9, 8, 9, 38⟩ ⟨10, 8, 10, 12⟩ ⟨10, 8, 10, 18⟩ ⟨10, 21, 10, 26⟩ ⟨10, 8, 10, 26⟩) FT.ftS .none xkV_FaultyTerm xdc_FaultyTerm xpm_FaultyTerm xan_FaultyTerm xcd_FaultyTerm xct_FaultyTerm), xsl_FaultyTerm⟩)
    (xc_FaultyTerm : PySem.W.codeIn K xcd_FaultyTerm "FaultyTerm.__init__" = true)
    (a_Reader_init : PySem.W.findIn K (.ref C_Reader) "__init__" = some (some (.ref f_Reader_init)))
    (i_Reader_init : PySem.W.isFn K (.ref f_Reader_init) = true)
    (l_Reader_init : K.lookup f_Reader_init = some ⟨oc_Reader_init, od_Reader_init, .func (PySem.W.fnOf "__init__" "Reader.__init__" (defArgs s_Reader_init) (defBody s_Reader_init) (defScope s_Reader_init) .none kV_Reader_init dc_Reader_init pm_Reader_init an_Reader_init cd_Reader_init ct_Reader_init), sl_Reader_init⟩)
    (c_Reader_init : PySem.W.codeIn K cd_Reader_init "Reader.__init__" = true)
    (k_Reader_init : PySem.W.keepIn K (.ref f_Reader_init) = true)
    (a_Reader_at_end : PySem.W.findIn K (.ref C_Reader) "at_end" = some (some (.ref f_Reader_at_end)))
    (i_Reader_at_end : PySem.W.isFn K (.ref f_Reader_at_end) = true)
    (l_Reader_at_end : K.lookup f_Reader_at_end = some ⟨oc_Reader_at_end, od_Reader_at_end, .func (PySem.W.fnOf "at_end" "Reader.at_end" (defArgs s_Reader_at_end) (defBody s_Reader_at_end) (defScope s_Reader_at_end) .none kV_Reader_at_end dc_Reader_at_end pm_Reader_at_end an_Reader_at_end cd_Reader_at_end ct_Reader_at_end), sl_Reader_at_end⟩)
    (c_Reader_at_end : PySem.W.codeIn K cd_Reader_at_end "Reader.at_end" = true)
    (k_Reader_at_end : PySem.W.keepIn K (.ref f_Reader_at_end) = true)
    (a_Reader_take : PySem.W.findIn K (.ref C_Reader) "take" = some (some (.ref f_Reader_take)))
    (i_Reader_take : PySem.W.isFn K (.ref f_Reader_take) = true)
    (l_Reader_take : K.lookup f_Reader_take = some ⟨oc_Reader_take, od_Reader_take, .func (PySem.W.fnOf "take" "Reader.take" (defArgs s_Reader_take) (defBody s_Reader_take) (defScope s_Reader_take) .none kV_Reader_take dc_Reader_take pm_Reader_take an_Reader_take cd_Reader_take ct_Reader_take), sl_Reader_take⟩)
    (c_Reader_take : PySem.W.codeIn K cd_Reader_take "Reader.take" = true)
    (k_Reader_take : PySem.W.keepIn K (.ref f_Reader_take) = true)
    (a_Reader_take_row : PySem.W.findIn K (.ref C_Reader) "take_row" = some (some (.ref f_Reader_take_row)))
    (i_Reader_take_row : PySem.W.isFn K (.ref f_Reader_take_row) = true)
    (l_Reader_take_row : K.lookup f_Reader_take_row = some ⟨oc_Reader_take_row, od_Reader_take_row, .func (PySem.W.fnOf "take_row" "Reader.take_row" (defArgs s_Reader_take_row) (defBody s_Reader_take_row) (defScope s_Reader_take_row) .none kV_Reader_take_row dc_Reader_take_row pm_Reader_take_row an_Reader_take_row cd_Reader_take_row ct_Reader_take_row), sl_Reader_take_row⟩)
    (c_Reader_take_row : PySem.W.codeIn K cd_Reader_take_row "Reader.take_row" = true)
    (k_Reader_take_row : PySem.W.keepIn K (.ref f_Reader_take_row) = true)
    (a_read_kind : PySem.W.nsIn K mainGlobals "read_kind" = some (some (.ref f_read_kind)))
    (l_read_kind : K.lookup f_read_kind = some ⟨oc_read_kind, od_read_kind, .func (PySem.W.fnOf "read_kind" "read_kind" (defArgs s_read_kind) (defBody s_read_kind) (defScope s_read_kind) (.ref dt_read_kind) kV_read_kind dc_read_kind pm_read_kind an_read_kind cd_read_kind ct_read_kind), sl_read_kind⟩)
    (ld_read_kind : K.lookup dt_read_kind = some ⟨doc_read_kind, dod_read_kind, .seq #[.int 1 dtk0_read_kind] dn_read_kind, dsl_read_kind⟩)
    (c_read_kind : PySem.W.codeIn K cd_read_kind "read_kind" = true)
    (k_read_kind : PySem.W.keepIn K (.ref f_read_kind) = true)
    (a_read_variable : PySem.W.nsIn K mainGlobals "read_variable" = some (some (.ref f_read_variable)))
    (l_read_variable : K.lookup f_read_variable = some ⟨oc_read_variable, od_read_variable, .func (PySem.W.fnOf "read_variable" "read_variable" (defArgs s_read_variable) (defBody s_read_variable) (defScope s_read_variable) .none kV_read_variable dc_read_variable pm_read_variable an_read_variable cd_read_variable ct_read_variable), sl_read_variable⟩)
    (c_read_variable : PySem.W.codeIn K cd_read_variable "read_variable" = true)
    (k_read_variable : PySem.W.keepIn K (.ref f_read_variable) = true)
    (a_read_kind_row : PySem.W.nsIn K mainGlobals "read_kind_row" = some (some (.ref f_read_kind_row)))
    (l_read_kind_row : K.lookup f_read_kind_row = some ⟨oc_read_kind_row, od_read_kind_row, .func (PySem.W.fnOf "read_kind_row" "read_kind_row" (defArgs s_read_kind_row) (defBody s_read_kind_row) (defScope s_read_kind_row) .none kV_read_kind_row dc_read_kind_row pm_read_kind_row an_read_kind_row cd_read_kind_row ct_read_kind_row), sl_read_kind_row⟩)
    (c_read_kind_row : PySem.W.codeIn K cd_read_kind_row "read_kind_row" = true)
    (k_read_kind_row : PySem.W.keepIn K (.ref f_read_kind_row) = true)
    (a_kind_row : PySem.W.nsIn K mainGlobals "kind_row" = some (some (.ref f_kind_row)))
    (l_kind_row : K.lookup f_kind_row = some ⟨oc_kind_row, od_kind_row, .func (PySem.W.fnOf "kind_row" "kind_row" (defArgs s_kind_row) (defBody s_kind_row) (defScope s_kind_row) .none kV_kind_row dc_kind_row pm_kind_row an_kind_row cd_kind_row ct_kind_row), sl_kind_row⟩)
    (c_kind_row : PySem.W.codeIn K cd_kind_row "kind_row" = true)
    (k_kind_row : PySem.W.keepIn K (.ref f_kind_row) = true)
    (a_kind_size : PySem.W.nsIn K mainGlobals "kind_size" = some (some (.ref f_kind_size)))
    (l_kind_size : K.lookup f_kind_size = some ⟨oc_kind_size, od_kind_size, .func (PySem.W.fnOf "kind_size" "kind_size" (defArgs s_kind_size) (defBody s_kind_size) (defScope s_kind_size) .none kV_kind_size dc_kind_size pm_kind_size an_kind_size cd_kind_size ct_kind_size), sl_kind_size⟩)
    (c_kind_size : PySem.W.codeIn K cd_kind_size "kind_size" = true)
    (k_kind_size : PySem.W.keepIn K (.ref f_kind_size) = true)
    (a_joined_size : PySem.W.nsIn K mainGlobals "joined_size" = some (some (.ref f_joined_size)))
    (l_joined_size : K.lookup f_joined_size = some ⟨oc_joined_size, od_joined_size, .func (PySem.W.fnOf "joined_size" "joined_size" (defArgs s_joined_size) (defBody s_joined_size) (defScope s_joined_size) .none kV_joined_size dc_joined_size pm_joined_size an_joined_size cd_joined_size ct_joined_size), sl_joined_size⟩)
    (c_joined_size : PySem.W.codeIn K cd_joined_size "joined_size" = true)
    (k_joined_size : PySem.W.keepIn K (.ref f_joined_size) = true)
    (a_functions_size : PySem.W.nsIn K mainGlobals "functions_size" = some (some (.ref f_functions_size)))
    (l_functions_size : K.lookup f_functions_size = some ⟨oc_functions_size, od_functions_size, .func (PySem.W.fnOf "functions_size" "functions_size" (defArgs s_functions_size) (defBody s_functions_size) (defScope s_functions_size) .none kV_functions_size dc_functions_size pm_functions_size an_functions_size cd_functions_size ct_functions_size), sl_functions_size⟩)
    (c_functions_size : PySem.W.codeIn K cd_functions_size "functions_size" = true)
    (k_functions_size : PySem.W.keepIn K (.ref f_functions_size) = true)
    (a_Part_init : PySem.W.findIn K (.ref C_Part) "__init__" = some (some (.ref f_Part_init)))
    (i_Part_init : PySem.W.isFn K (.ref f_Part_init) = true)
    (l_Part_init : K.lookup f_Part_init = some ⟨oc_Part_init, od_Part_init, .func (PySem.W.fnOf "__init__" "Part.__init__" (defArgs s_Part_init) (defBody s_Part_init) (defScope s_Part_init) .none kV_Part_init dc_Part_init pm_Part_init an_Part_init cd_Part_init ct_Part_init), sl_Part_init⟩)
    (c_Part_init : PySem.W.codeIn K cd_Part_init "Part.__init__" = true)
    (k_Part_init : PySem.W.keepIn K (.ref f_Part_init) = true)
    (a_read_term_row : PySem.W.nsIn K mainGlobals "read_term_row" = some (some (.ref f_read_term_row)))
    (l_read_term_row : K.lookup f_read_term_row = some ⟨oc_read_term_row, od_read_term_row, .func (PySem.W.fnOf "read_term_row" "read_term_row" (defArgs s_read_term_row) (defBody s_read_term_row) (defScope s_read_term_row) .none kV_read_term_row dc_read_term_row pm_read_term_row an_read_term_row cd_read_term_row ct_read_term_row), sl_read_term_row⟩)
    (c_read_term_row : PySem.W.codeIn K cd_read_term_row "read_term_row" = true)
    (k_read_term_row : PySem.W.keepIn K (.ref f_read_term_row) = true)
    (a_read_term : PySem.W.nsIn K mainGlobals "read_term" = some (some (.ref f_read_term)))
    (l_read_term : K.lookup f_read_term = some ⟨oc_read_term, od_read_term, .func (PySem.W.fnOf "read_term" "read_term" (defArgs s_read_term) (defBody s_read_term) (defScope s_read_term) .none kV_read_term dc_read_term pm_read_term an_read_term cd_read_term ct_read_term), sl_read_term⟩)
    (c_read_term : PySem.W.codeIn K cd_read_term "read_term" = true)
    (k_read_term : PySem.W.keepIn K (.ref f_read_term) = true)
    (a_read_told : PySem.W.nsIn K mainGlobals "read_told" = some (some (.ref f_read_told)))
    (l_read_told : K.lookup f_read_told = some ⟨oc_read_told, od_read_told, .func (PySem.W.fnOf "read_told" "read_told" (defArgs s_read_told) (defBody s_read_told) (defScope s_read_told) .none kV_read_told dc_read_told pm_read_told an_read_told cd_read_told ct_read_told), sl_read_told⟩)
    (c_read_told : PySem.W.codeIn K cd_read_told "read_told" = true)
    (k_read_told : PySem.W.keepIn K (.ref f_read_told) = true)
    (a_give_kinds : PySem.W.nsIn K mainGlobals "give_kinds" = some (some (.ref f_give_kinds)))
    (l_give_kinds : K.lookup f_give_kinds = some ⟨oc_give_kinds, od_give_kinds, .func (PySem.W.fnOf "give_kinds" "give_kinds" (defArgs s_give_kinds) (defBody s_give_kinds) (defScope s_give_kinds) .none kV_give_kinds dc_give_kinds pm_give_kinds an_give_kinds cd_give_kinds ct_give_kinds), sl_give_kinds⟩)
    (c_give_kinds : PySem.W.codeIn K cd_give_kinds "give_kinds" = true)
    (k_give_kinds : PySem.W.keepIn K (.ref f_give_kinds) = true)
    (a_found_kind : PySem.W.nsIn K mainGlobals "found_kind" = some (some (.ref f_found_kind)))
    (l_found_kind : K.lookup f_found_kind = some ⟨oc_found_kind, od_found_kind, .func (PySem.W.fnOf "found_kind" "found_kind" (defArgs s_found_kind) (defBody s_found_kind) (defScope s_found_kind) .none kV_found_kind dc_found_kind pm_found_kind an_found_kind cd_found_kind ct_found_kind), sl_found_kind⟩)
    (c_found_kind : PySem.W.codeIn K cd_found_kind "found_kind" = true)
    (k_found_kind : PySem.W.keepIn K (.ref f_found_kind) = true)
    (a_variable_kind : PySem.W.nsIn K mainGlobals "variable_kind" = some (some (.ref f_variable_kind)))
    (l_variable_kind : K.lookup f_variable_kind = some ⟨oc_variable_kind, od_variable_kind, .func (PySem.W.fnOf "variable_kind" "variable_kind" (defArgs s_variable_kind) (defBody s_variable_kind) (defScope s_variable_kind) .none kV_variable_kind dc_variable_kind pm_variable_kind an_variable_kind cd_variable_kind ct_variable_kind), sl_variable_kind⟩)
    (c_variable_kind : PySem.W.codeIn K cd_variable_kind "variable_kind" = true)
    (k_variable_kind : PySem.W.keepIn K (.ref f_variable_kind) = true)
    (a_cases_kind : PySem.W.nsIn K mainGlobals "cases_kind" = some (some (.ref f_cases_kind)))
    (l_cases_kind : K.lookup f_cases_kind = some ⟨oc_cases_kind, od_cases_kind, .func (PySem.W.fnOf "cases_kind" "cases_kind" (defArgs s_cases_kind) (defBody s_cases_kind) (defScope s_cases_kind) .none kV_cases_kind dc_cases_kind pm_cases_kind an_cases_kind cd_cases_kind ct_cases_kind), sl_cases_kind⟩)
    (c_cases_kind : PySem.W.codeIn K cd_cases_kind "cases_kind" = true)
    (k_cases_kind : PySem.W.keepIn K (.ref f_cases_kind) = true)
    (a_put_kind : PySem.W.nsIn K mainGlobals "put_kind" = some (some (.ref f_put_kind)))
    (l_put_kind : K.lookup f_put_kind = some ⟨oc_put_kind, od_put_kind, .func (PySem.W.fnOf "put_kind" "put_kind" (defArgs s_put_kind) (defBody s_put_kind) (defScope s_put_kind) .none kV_put_kind dc_put_kind pm_put_kind an_put_kind cd_put_kind ct_put_kind), sl_put_kind⟩)
    (c_put_kind : PySem.W.codeIn K cd_put_kind "put_kind" = true)
    (k_put_kind : PySem.W.keepIn K (.ref f_put_kind) = true)
    (a_if_kind : PySem.W.nsIn K mainGlobals "if_kind" = some (some (.ref f_if_kind)))
    (l_if_kind : K.lookup f_if_kind = some ⟨oc_if_kind, od_if_kind, .func (PySem.W.fnOf "if_kind" "if_kind" (defArgs s_if_kind) (defBody s_if_kind) (defScope s_if_kind) .none kV_if_kind dc_if_kind pm_if_kind an_if_kind cd_if_kind ct_if_kind), sl_if_kind⟩)
    (c_if_kind : PySem.W.codeIn K cd_if_kind "if_kind" = true)
    (k_if_kind : PySem.W.keepIn K (.ref f_if_kind) = true)
    (a_want : PySem.W.nsIn K mainGlobals "want" = some (some (.ref f_want)))
    (l_want : K.lookup f_want = some ⟨oc_want, od_want, .func (PySem.W.fnOf "want" "want" (defArgs s_want) (defBody s_want) (defScope s_want) .none kV_want dc_want pm_want an_want cd_want ct_want), sl_want⟩)
    (c_want : PySem.W.codeIn K cd_want "want" = true)
    (k_want : PySem.W.keepIn K (.ref f_want) = true)
    (a_want_same : PySem.W.nsIn K mainGlobals "want_same" = some (some (.ref f_want_same)))
    (l_want_same : K.lookup f_want_same = some ⟨oc_want_same, od_want_same, .func (PySem.W.fnOf "want_same" "want_same" (defArgs s_want_same) (defBody s_want_same) (defScope s_want_same) .none kV_want_same dc_want_same pm_want_same an_want_same cd_want_same ct_want_same), sl_want_same⟩)
    (c_want_same : PySem.W.codeIn K cd_want_same "want_same" = true)
    (k_want_same : PySem.W.keepIn K (.ref f_want_same) = true)
    (a_refuse_too_large : PySem.W.nsIn K mainGlobals "refuse_too_large" = some (some (.ref f_refuse_too_large)))
    (l_refuse_too_large : K.lookup f_refuse_too_large = some ⟨oc_refuse_too_large, od_refuse_too_large, .func (PySem.W.fnOf "refuse_too_large" "refuse_too_large" (defArgs s_refuse_too_large) (defBody s_refuse_too_large) (defScope s_refuse_too_large) .none kV_refuse_too_large dc_refuse_too_large pm_refuse_too_large an_refuse_too_large cd_refuse_too_large ct_refuse_too_large), sl_refuse_too_large⟩)
    (c_refuse_too_large : PySem.W.codeIn K cd_refuse_too_large "refuse_too_large" = true)
    (k_refuse_too_large : PySem.W.keepIn K (.ref f_refuse_too_large) = true)
    (a_kind_weight : PySem.W.nsIn K mainGlobals "kind_weight" = some (some (.ref f_kind_weight)))
    (l_kind_weight : K.lookup f_kind_weight = some ⟨oc_kind_weight, od_kind_weight, .func (PySem.W.fnOf "kind_weight" "kind_weight" (defArgs s_kind_weight) (defBody s_kind_weight) (defScope s_kind_weight) .none kV_kind_weight dc_kind_weight pm_kind_weight an_kind_weight cd_kind_weight ct_kind_weight), sl_kind_weight⟩)
    (c_kind_weight : PySem.W.codeIn K cd_kind_weight "kind_weight" = true)
    (k_kind_weight : PySem.W.keepIn K (.ref f_kind_weight) = true)
    (a_kind_relation : PySem.W.nsIn K mainGlobals "kind_relation" = some (some (.ref f_kind_relation)))
    (l_kind_relation : K.lookup f_kind_relation = some ⟨oc_kind_relation, od_kind_relation, .func (PySem.W.fnOf "kind_relation" "kind_relation" (defArgs s_kind_relation) (defBody s_kind_relation) (defScope s_kind_relation) .none kV_kind_relation dc_kind_relation pm_kind_relation an_kind_relation cd_kind_relation ct_kind_relation), sl_kind_relation⟩)
    (c_kind_relation : PySem.W.codeIn K cd_kind_relation "kind_relation" = true)
    (k_kind_relation : PySem.W.keepIn K (.ref f_kind_relation) = true)
    (a_pair_relation : PySem.W.nsIn K mainGlobals "pair_relation" = some (some (.ref f_pair_relation)))
    (l_pair_relation : K.lookup f_pair_relation = some ⟨oc_pair_relation, od_pair_relation, .func (PySem.W.fnOf "pair_relation" "pair_relation" (defArgs s_pair_relation) (defBody s_pair_relation) (defScope s_pair_relation) .none kV_pair_relation dc_pair_relation pm_pair_relation an_pair_relation cd_pair_relation ct_pair_relation), sl_pair_relation⟩)
    (c_pair_relation : PySem.W.codeIn K cd_pair_relation "pair_relation" = true)
    (k_pair_relation : PySem.W.keepIn K (.ref f_pair_relation) = true)
    (a_function_relation : PySem.W.nsIn K mainGlobals "function_relation" = some (some (.ref f_function_relation)))
    (l_function_relation : K.lookup f_function_relation = some ⟨oc_function_relation, od_function_relation, .func (PySem.W.fnOf "function_relation" "function_relation" (defArgs s_function_relation) (defBody s_function_relation) (defScope s_function_relation) .none kV_function_relation dc_function_relation pm_function_relation an_function_relation cd_function_relation ct_function_relation), sl_function_relation⟩)
    (c_function_relation : PySem.W.codeIn K cd_function_relation "function_relation" = true)
    (k_function_relation : PySem.W.keepIn K (.ref f_function_relation) = true)
    (a_allowed_marks : PySem.W.nsIn K mainGlobals "allowed_marks" = some (some (.ref f_allowed_marks)))
    (l_allowed_marks : K.lookup f_allowed_marks = some ⟨oc_allowed_marks, od_allowed_marks, .func (PySem.W.fnOf "allowed_marks" "allowed_marks" (defArgs s_allowed_marks) (defBody s_allowed_marks) (defScope s_allowed_marks) .none kV_allowed_marks dc_allowed_marks pm_allowed_marks an_allowed_marks cd_allowed_marks ct_allowed_marks), sl_allowed_marks⟩)
    (c_allowed_marks : PySem.W.codeIn K cd_allowed_marks "allowed_marks" = true)
    (k_allowed_marks : PySem.W.keepIn K (.ref f_allowed_marks) = true)
    (a_functions_within : PySem.W.nsIn K mainGlobals "functions_within" = some (some (.ref f_functions_within)))
    (l_functions_within : K.lookup f_functions_within = some ⟨oc_functions_within, od_functions_within, .func (PySem.W.fnOf "functions_within" "functions_within" (defArgs s_functions_within) (defBody s_functions_within) (defScope s_functions_within) .none kV_functions_within dc_functions_within pm_functions_within an_functions_within cd_functions_within ct_functions_within), sl_functions_within⟩)
    (c_functions_within : PySem.W.codeIn K cd_functions_within "functions_within" = true)
    (k_functions_within : PySem.W.keepIn K (.ref f_functions_within) = true)
    (a_spread : PySem.W.nsIn K mainGlobals "spread" = some (some (.ref f_spread)))
    (l_spread : K.lookup f_spread = some ⟨oc_spread, od_spread, .func (PySem.W.fnOf "spread" "spread" (defArgs s_spread) (defBody s_spread) (defScope s_spread) .none kV_spread dc_spread pm_spread an_spread cd_spread ct_spread), sl_spread⟩)
    (c_spread : PySem.W.codeIn K cd_spread "spread" = true)
    (k_spread : PySem.W.keepIn K (.ref f_spread) = true)
    (a_places : PySem.W.nsIn K mainGlobals "places" = some (some (.ref f_places)))
    (l_places : K.lookup f_places = some ⟨oc_places, od_places, .func (PySem.W.fnOf "places" "places" (defArgs s_places) (defBody s_places) (defScope s_places) .none kV_places dc_places pm_places an_places cd_places ct_places), sl_places⟩)
    (c_places : PySem.W.codeIn K cd_places "places" = true)
    (k_places : PySem.W.keepIn K (.ref f_places) = true)
    (a_is_marked : PySem.W.nsIn K mainGlobals "is_marked" = some (some (.ref f_is_marked)))
    (l_is_marked : K.lookup f_is_marked = some ⟨oc_is_marked, od_is_marked, .func (PySem.W.fnOf "is_marked" "is_marked" (defArgs s_is_marked) (defBody s_is_marked) (defScope s_is_marked) .none kV_is_marked dc_is_marked pm_is_marked an_is_marked cd_is_marked ct_is_marked), sl_is_marked⟩)
    (c_is_marked : PySem.W.codeIn K cd_is_marked "is_marked" = true)
    (k_is_marked : PySem.W.keepIn K (.ref f_is_marked) = true)
    (a_refuse_too_many : PySem.W.nsIn K mainGlobals "refuse_too_many" = some (some (.ref f_refuse_too_many)))
    (l_refuse_too_many : K.lookup f_refuse_too_many = some ⟨oc_refuse_too_many, od_refuse_too_many, .func (PySem.W.fnOf "refuse_too_many" "refuse_too_many" (defArgs s_refuse_too_many) (defBody s_refuse_too_many) (defScope s_refuse_too_many) .none kV_refuse_too_many dc_refuse_too_many pm_refuse_too_many an_refuse_too_many cd_refuse_too_many ct_refuse_too_many), sl_refuse_too_many⟩)
    (c_refuse_too_many : PySem.W.codeIn K cd_refuse_too_many "refuse_too_many" = true)
    (k_refuse_too_many : PySem.W.keepIn K (.ref f_refuse_too_many) = true)
    (a_pairs_of_all : PySem.W.nsIn K mainGlobals "pairs_of_all" = some (some (.ref f_pairs_of_all)))
    (l_pairs_of_all : K.lookup f_pairs_of_all = some ⟨oc_pairs_of_all, od_pairs_of_all, .func (PySem.W.fnOf "pairs_of_all" "pairs_of_all" (defArgs s_pairs_of_all) (defBody s_pairs_of_all) (defScope s_pairs_of_all) .none kV_pairs_of_all dc_pairs_of_all pm_pairs_of_all an_pairs_of_all cd_pairs_of_all ct_pairs_of_all), sl_pairs_of_all⟩)
    (c_pairs_of_all : PySem.W.codeIn K cd_pairs_of_all "pairs_of_all" = true)
    (k_pairs_of_all : PySem.W.keepIn K (.ref f_pairs_of_all) = true)
    (a_kept_values : PySem.W.nsIn K mainGlobals "kept_values" = some (some (.ref f_kept_values)))
    (l_kept_values : K.lookup f_kept_values = some ⟨oc_kept_values, od_kept_values, .func (PySem.W.fnOf "kept_values" "kept_values" (defArgs s_kept_values) (defBody s_kept_values) (defScope s_kept_values) .none kV_kept_values dc_kept_values pm_kept_values an_kept_values cd_kept_values ct_kept_values), sl_kept_values⟩)
    (c_kept_values : PySem.W.codeIn K cd_kept_values "kept_values" = true)
    (k_kept_values : PySem.W.keepIn K (.ref f_kept_values) = true)
    (a_chosen_relations : PySem.W.nsIn K mainGlobals "chosen_relations" = some (some (.ref f_chosen_relations)))
    (l_chosen_relations : K.lookup f_chosen_relations = some ⟨oc_chosen_relations, od_chosen_relations, .func (PySem.W.fnOf "chosen_relations" "chosen_relations" (defArgs s_chosen_relations) (defBody s_chosen_relations) (defScope s_chosen_relations) .none kV_chosen_relations dc_chosen_relations pm_chosen_relations an_chosen_relations cd_chosen_relations ct_chosen_relations), sl_chosen_relations⟩)
    (c_chosen_relations : PySem.W.codeIn K cd_chosen_relations "chosen_relations" = true)
    (k_chosen_relations : PySem.W.keepIn K (.ref f_chosen_relations) = true)
    (a_term_meaning : PySem.W.nsIn K mainGlobals "term_meaning" = some (some (.ref f_term_meaning)))
    (l_term_meaning : K.lookup f_term_meaning = some ⟨oc_term_meaning, od_term_meaning, .func (PySem.W.fnOf "term_meaning" "term_meaning" (defArgs s_term_meaning) (defBody s_term_meaning) (defScope s_term_meaning) .none kV_term_meaning dc_term_meaning pm_term_meaning an_term_meaning cd_term_meaning ct_term_meaning), sl_term_meaning⟩)
    (c_term_meaning : PySem.W.codeIn K cd_term_meaning "term_meaning" = true)
    (k_term_meaning : PySem.W.keepIn K (.ref f_term_meaning) = true)
    (a_measure_parts : PySem.W.nsIn K mainGlobals "measure_parts" = some (some (.ref f_measure_parts)))
    (l_measure_parts : K.lookup f_measure_parts = some ⟨oc_measure_parts, od_measure_parts, .func (PySem.W.fnOf "measure_parts" "measure_parts" (defArgs s_measure_parts) (defBody s_measure_parts) (defScope s_measure_parts) .none kV_measure_parts dc_measure_parts pm_measure_parts an_measure_parts cd_measure_parts ct_measure_parts), sl_measure_parts⟩)
    (c_measure_parts : PySem.W.codeIn K cd_measure_parts "measure_parts" = true)
    (k_measure_parts : PySem.W.keepIn K (.ref f_measure_parts) = true)
    (a_found_weight : PySem.W.nsIn K mainGlobals "found_weight" = some (some (.ref f_found_weight)))
    (l_found_weight : K.lookup f_found_weight = some ⟨oc_found_weight, od_found_weight, .func (PySem.W.fnOf "found_weight" "found_weight" (defArgs s_found_weight) (defBody s_found_weight) (defScope s_found_weight) .none kV_found_weight dc_found_weight pm_found_weight an_found_weight cd_found_weight ct_found_weight), sl_found_weight⟩)
    (c_found_weight : PySem.W.codeIn K cd_found_weight "found_weight" = true)
    (k_found_weight : PySem.W.keepIn K (.ref f_found_weight) = true)
    (a_part_table : PySem.W.nsIn K mainGlobals "part_table" = some (some (.ref f_part_table)))
    (l_part_table : K.lookup f_part_table = some ⟨oc_part_table, od_part_table, .func (PySem.W.fnOf "part_table" "part_table" (defArgs s_part_table) (defBody s_part_table) (defScope s_part_table) .none kV_part_table dc_part_table pm_part_table an_part_table cd_part_table ct_part_table), sl_part_table⟩)
    (c_part_table : PySem.W.codeIn K cd_part_table "part_table" = true)
    (k_part_table : PySem.W.keepIn K (.ref f_part_table) = true)
    (a_choices : PySem.W.nsIn K mainGlobals "choices" = some (some (.ref f_choices)))
    (l_choices : K.lookup f_choices = some ⟨oc_choices, od_choices, .func (PySem.W.fnOf "choices" "choices" (defArgs s_choices) (defBody s_choices) (defScope s_choices) .none kV_choices dc_choices pm_choices an_choices cd_choices ct_choices), sl_choices⟩)
    (c_choices : PySem.W.codeIn K cd_choices "choices" = true)
    (k_choices : PySem.W.keepIn K (.ref f_choices) = true)
    (a_variable_table : PySem.W.nsIn K mainGlobals "variable_table" = some (some (.ref f_variable_table)))
    (l_variable_table : K.lookup f_variable_table = some ⟨oc_variable_table, od_variable_table, .func (PySem.W.fnOf "variable_table" "variable_table" (defArgs s_variable_table) (defBody s_variable_table) (defScope s_variable_table) .none kV_variable_table dc_variable_table pm_variable_table an_variable_table cd_variable_table ct_variable_table), sl_variable_table⟩)
    (c_variable_table : PySem.W.codeIn K cd_variable_table "variable_table" = true)
    (k_variable_table : PySem.W.keepIn K (.ref f_variable_table) = true)
    (a_function_table : PySem.W.nsIn K mainGlobals "function_table" = some (some (.ref f_function_table)))
    (l_function_table : K.lookup f_function_table = some ⟨oc_function_table, od_function_table, .func (PySem.W.fnOf "function_table" "function_table" (defArgs s_function_table) (defBody s_function_table) (defScope s_function_table) .none kV_function_table dc_function_table pm_function_table an_function_table cd_function_table ct_function_table), sl_function_table⟩)
    (c_function_table : PySem.W.codeIn K cd_function_table "function_table" = true)
    (k_function_table : PySem.W.keepIn K (.ref f_function_table) = true)
    (a_joined_table : PySem.W.nsIn K mainGlobals "joined_table" = some (some (.ref f_joined_table)))
    (l_joined_table : K.lookup f_joined_table = some ⟨oc_joined_table, od_joined_table, .func (PySem.W.fnOf "joined_table" "joined_table" (defArgs s_joined_table) (defBody s_joined_table) (defScope s_joined_table) .none kV_joined_table dc_joined_table pm_joined_table an_joined_table cd_joined_table ct_joined_table), sl_joined_table⟩)
    (c_joined_table : PySem.W.codeIn K cd_joined_table "joined_table" = true)
    (k_joined_table : PySem.W.keepIn K (.ref f_joined_table) = true)
    (a_cases_table : PySem.W.nsIn K mainGlobals "cases_table" = some (some (.ref f_cases_table)))
    (l_cases_table : K.lookup f_cases_table = some ⟨oc_cases_table, od_cases_table, .func (PySem.W.fnOf "cases_table" "cases_table" (defArgs s_cases_table) (defBody s_cases_table) (defScope s_cases_table) .none kV_cases_table dc_cases_table pm_cases_table an_cases_table cd_cases_table ct_cases_table), sl_cases_table⟩)
    (c_cases_table : PySem.W.codeIn K cd_cases_table "cases_table" = true)
    (k_cases_table : PySem.W.keepIn K (.ref f_cases_table) = true)
    (a_put_table : PySem.W.nsIn K mainGlobals "put_table" = some (some (.ref f_put_table)))
    (l_put_table : K.lookup f_put_table = some ⟨oc_put_table, od_put_table, .func (PySem.W.fnOf "put_table" "put_table" (defArgs s_put_table) (defBody s_put_table) (defScope s_put_table) .none kV_put_table dc_put_table pm_put_table an_put_table cd_put_table ct_put_table), sl_put_table⟩)
    (c_put_table : PySem.W.codeIn K cd_put_table "put_table" = true)
    (k_put_table : PySem.W.keepIn K (.ref f_put_table) = true)
    (a_powers_of : PySem.W.nsIn K mainGlobals "powers_of" = some (some (.ref f_powers_of)))
    (l_powers_of : K.lookup f_powers_of = some ⟨oc_powers_of, od_powers_of, .func (PySem.W.fnOf "powers_of" "powers_of" (defArgs s_powers_of) (defBody s_powers_of) (defScope s_powers_of) .none kV_powers_of dc_powers_of pm_powers_of an_powers_of cd_powers_of ct_powers_of), sl_powers_of⟩)
    (c_powers_of : PySem.W.codeIn K cd_powers_of "powers_of" = true)
    (k_powers_of : PySem.W.keepIn K (.ref f_powers_of) = true)
    (a_House_init : PySem.W.findIn K (.ref C_House) "__init__" = some (some (.ref f_House_init)))
    (i_House_init : PySem.W.isFn K (.ref f_House_init) = true)
    (l_House_init : K.lookup f_House_init = some ⟨oc_House_init, od_House_init, .func (PySem.W.fnOf "__init__" "House.__init__" (defArgs s_House_init) (defBody s_House_init) (defScope s_House_init) .none kV_House_init dc_House_init pm_House_init an_House_init cd_House_init ct_House_init), sl_House_init⟩)
    (c_House_init : PySem.W.codeIn K cd_House_init "House.__init__" = true)
    (k_House_init : PySem.W.keepIn K (.ref f_House_init) = true)
    (a_House_begin : PySem.W.findIn K (.ref C_House) "begin" = some (some (.ref f_House_begin)))
    (i_House_begin : PySem.W.isFn K (.ref f_House_begin) = true)
    (l_House_begin : K.lookup f_House_begin = some ⟨oc_House_begin, od_House_begin, .func (PySem.W.fnOf "begin" "House.begin" (defArgs s_House_begin) (defBody s_House_begin) (defScope s_House_begin) .none kV_House_begin dc_House_begin pm_House_begin an_House_begin cd_House_begin ct_House_begin), sl_House_begin⟩)
    (c_House_begin : PySem.W.codeIn K cd_House_begin "House.begin" = true)
    (k_House_begin : PySem.W.keepIn K (.ref f_House_begin) = true)
    (a_House_variables : PySem.W.findIn K (.ref C_House) "variables" = some (some (.ref f_House_variables)))
    (i_House_variables : PySem.W.isFn K (.ref f_House_variables) = true)
    (l_House_variables : K.lookup f_House_variables = some ⟨oc_House_variables, od_House_variables, .func (PySem.W.fnOf "variables" "House.variables" (defArgs s_House_variables) (defBody s_House_variables) (defScope s_House_variables) .none kV_House_variables dc_House_variables pm_House_variables an_House_variables cd_House_variables ct_House_variables), sl_House_variables⟩)
    (c_House_variables : PySem.W.codeIn K cd_House_variables "House.variables" = true)
    (k_House_variables : PySem.W.keepIn K (.ref f_House_variables) = true)
    (a_House_sets : PySem.W.findIn K (.ref C_House) "sets" = some (some (.ref f_House_sets)))
    (i_House_sets : PySem.W.isFn K (.ref f_House_sets) = true)
    (l_House_sets : K.lookup f_House_sets = some ⟨oc_House_sets, od_House_sets, .func (PySem.W.fnOf "sets" "House.sets" (defArgs s_House_sets) (defBody s_House_sets) (defScope s_House_sets) .none kV_House_sets dc_House_sets pm_House_sets an_House_sets cd_House_sets ct_House_sets), sl_House_sets⟩)
    (c_House_sets : PySem.W.codeIn K cd_House_sets "House.sets" = true)
    (k_House_sets : PySem.W.keepIn K (.ref f_House_sets) = true)
    (a_House_relate : PySem.W.findIn K (.ref C_House) "relate" = some (some (.ref f_House_relate)))
    (i_House_relate : PySem.W.isFn K (.ref f_House_relate) = true)
    (l_House_relate : K.lookup f_House_relate = some ⟨oc_House_relate, od_House_relate, .func (PySem.W.fnOf "relate" "House.relate" (defArgs s_House_relate) (defBody s_House_relate) (defScope s_House_relate) .none kV_House_relate dc_House_relate pm_House_relate an_House_relate cd_House_relate ct_House_relate), sl_House_relate⟩)
    (c_House_relate : PySem.W.codeIn K cd_House_relate "House.relate" = true)
    (k_House_relate : PySem.W.keepIn K (.ref f_House_relate) = true)
    (a_House_size : PySem.W.findIn K (.ref C_House) "size" = some (some (.ref f_House_size)))
    (i_House_size : PySem.W.isFn K (.ref f_House_size) = true)
    (l_House_size : K.lookup f_House_size = some ⟨oc_House_size, od_House_size, .func (PySem.W.fnOf "size" "House.size" (defArgs s_House_size) (defBody s_House_size) (defScope s_House_size) .none kV_House_size dc_House_size pm_House_size an_House_size cd_House_size ct_House_size), sl_House_size⟩)
    (c_House_size : PySem.W.codeIn K cd_House_size "House.size" = true)
    (k_House_size : PySem.W.keepIn K (.ref f_House_size) = true)
    (a_House_meaning : PySem.W.findIn K (.ref C_House) "meaning" = some (some (.ref f_House_meaning)))
    (i_House_meaning : PySem.W.isFn K (.ref f_House_meaning) = true)
    (l_House_meaning : K.lookup f_House_meaning = some ⟨oc_House_meaning, od_House_meaning, .func (PySem.W.fnOf "meaning" "House.meaning" (defArgs s_House_meaning) (defBody s_House_meaning) (defScope s_House_meaning) .none kV_House_meaning dc_House_meaning pm_House_meaning an_House_meaning cd_House_meaning ct_House_meaning), sl_House_meaning⟩)
    (c_House_meaning : PySem.W.codeIn K cd_House_meaning "House.meaning" = true)
    (k_House_meaning : PySem.W.keepIn K (.ref f_House_meaning) = true)
    (a_House_relation_of : PySem.W.findIn K (.ref C_House) "relation_of" = some (some (.ref f_House_relation_of)))
    (i_House_relation_of : PySem.W.isFn K (.ref f_House_relation_of) = true)
    (l_House_relation_of : K.lookup f_House_relation_of = some ⟨oc_House_relation_of, od_House_relation_of, .func (PySem.W.fnOf "relation_of" "House.relation_of" (defArgs s_House_relation_of) (defBody s_House_relation_of) (defScope s_House_relation_of) .none kV_House_relation_of dc_House_relation_of pm_House_relation_of an_House_relation_of cd_House_relation_of ct_House_relation_of), sl_House_relation_of⟩)
    (c_House_relation_of : PySem.W.codeIn K cd_House_relation_of "House.relation_of" = true)
    (k_House_relation_of : PySem.W.keepIn K (.ref f_House_relation_of) = true)
    (a_House_related : PySem.W.findIn K (.ref C_House) "related" = some (some (.ref f_House_related)))
    (i_House_related : PySem.W.isFn K (.ref f_House_related) = true)
    (l_House_related : K.lookup f_House_related = some ⟨oc_House_related, od_House_related, .func (PySem.W.fnOf "related" "House.related" (defArgs s_House_related) (defBody s_House_related) (defScope s_House_related) .none kV_House_related dc_House_related pm_House_related an_House_related cd_House_related ct_House_related), sl_House_related⟩)
    (c_House_related : PySem.W.codeIn K cd_House_related "House.related" = true)
    (k_House_related : PySem.W.keepIn K (.ref f_House_related) = true)
    (a_House_count : PySem.W.findIn K (.ref C_House) "count" = some (some (.ref f_House_count)))
    (i_House_count : PySem.W.isFn K (.ref f_House_count) = true)
    (l_House_count : K.lookup f_House_count = some ⟨oc_House_count, od_House_count, .func (PySem.W.fnOf "count" "House.count" (defArgs s_House_count) (defBody s_House_count) (defScope s_House_count) .none kV_House_count dc_House_count pm_House_count an_House_count cd_House_count ct_House_count), sl_House_count⟩)
    (c_House_count : PySem.W.codeIn K cd_House_count "House.count" = true)
    (k_House_count : PySem.W.keepIn K (.ref f_House_count) = true)
    (a_House_kept : PySem.W.findIn K (.ref C_House) "kept" = some (some (.ref f_House_kept)))
    (i_House_kept : PySem.W.isFn K (.ref f_House_kept) = true)
    (l_House_kept : K.lookup f_House_kept = some ⟨oc_House_kept, od_House_kept, .func (PySem.W.fnOf "kept" "House.kept" (defArgs s_House_kept) (defBody s_House_kept) (defScope s_House_kept) .none kV_House_kept dc_House_kept pm_House_kept an_House_kept cd_House_kept ct_House_kept), sl_House_kept⟩)
    (c_House_kept : PySem.W.codeIn K cd_House_kept "House.kept" = true)
    (k_House_kept : PySem.W.keepIn K (.ref f_House_kept) = true)
    (a_answers : PySem.W.nsIn K mainGlobals "answers" = some (some (.ref f_answers)))
    (l_answers : K.lookup f_answers = some ⟨oc_answers, od_answers, .func (PySem.W.fnOf "answers" "answers" (defArgs s_answers) (defBody s_answers) (defScope s_answers) .none kV_answers dc_answers pm_answers an_answers cd_answers ct_answers), sl_answers⟩)
    (c_answers : PySem.W.codeIn K cd_answers "answers" = true)
    (k_answers : PySem.W.keepIn K (.ref f_answers) = true)
    (a_answer_or_refusal : PySem.W.nsIn K mainGlobals "answer_or_refusal" = some (some (.ref f_answer_or_refusal)))
    (l_answer_or_refusal : K.lookup f_answer_or_refusal = some ⟨oc_answer_or_refusal, od_answer_or_refusal, .func (PySem.W.fnOf "answer_or_refusal" "answer_or_refusal" (defArgs s_answer_or_refusal) (defBody s_answer_or_refusal) (defScope s_answer_or_refusal) .none kV_answer_or_refusal dc_answer_or_refusal pm_answer_or_refusal an_answer_or_refusal cd_answer_or_refusal ct_answer_or_refusal), sl_answer_or_refusal⟩)
    (c_answer_or_refusal : PySem.W.codeIn K cd_answer_or_refusal "answer_or_refusal" = true)
    (k_answer_or_refusal : PySem.W.keepIn K (.ref f_answer_or_refusal) = true)
    (a_answer_call : PySem.W.nsIn K mainGlobals "answer_call" = some (some (.ref f_answer_call)))
    (l_answer_call : K.lookup f_answer_call = some ⟨oc_answer_call, od_answer_call, .func (PySem.W.fnOf "answer_call" "answer_call" (defArgs s_answer_call) (defBody s_answer_call) (defScope s_answer_call) .none kV_answer_call dc_answer_call pm_answer_call an_answer_call cd_answer_call ct_answer_call), sl_answer_call⟩)
    (c_answer_call : PySem.W.codeIn K cd_answer_call "answer_call" = true)
    (k_answer_call : PySem.W.keepIn K (.ref f_answer_call) = true)
    (v_VARIABLE : PySem.W.nsIn K mainGlobals "VARIABLE" = some (some (.int 0 tk_VARIABLE)))
    (v_TWO : PySem.W.nsIn K mainGlobals "TWO" = some (some (.int 1 tk_TWO)))
    (v_PAIR : PySem.W.nsIn K mainGlobals "PAIR" = some (some (.int 2 tk_PAIR)))
    (v_EITHER : PySem.W.nsIn K mainGlobals "EITHER" = some (some (.int 3 tk_EITHER)))
    (v_FUNCTION : PySem.W.nsIn K mainGlobals "FUNCTION" = some (some (.int 4 tk_FUNCTION)))
    (v_DEEPEST : PySem.W.nsIn K mainGlobals "DEEPEST" = some (some (.int 6 tk_DEEPEST)))
    (v_LARGEST : PySem.W.nsIn K mainGlobals "LARGEST" = some (some (.int 256 tk_LARGEST)))
    (v_VARIABLE_TERM : PySem.W.nsIn K mainGlobals "VARIABLE_TERM" = some (some (.int 0 tk_VARIABLE_TERM)))
    (v_PAIR_TERM : PySem.W.nsIn K mainGlobals "PAIR_TERM" = some (some (.int 1 tk_PAIR_TERM)))
    (v_FIRST : PySem.W.nsIn K mainGlobals "FIRST" = some (some (.int 2 tk_FIRST)))
    (v_SECOND : PySem.W.nsIn K mainGlobals "SECOND" = some (some (.int 3 tk_SECOND)))
    (v_LEFT : PySem.W.nsIn K mainGlobals "LEFT" = some (some (.int 4 tk_LEFT)))
    (v_RIGHT : PySem.W.nsIn K mainGlobals "RIGHT" = some (some (.int 5 tk_RIGHT)))
    (v_CASES : PySem.W.nsIn K mainGlobals "CASES" = some (some (.int 6 tk_CASES)))
    (v_FUNCTION_TERM : PySem.W.nsIn K mainGlobals "FUNCTION_TERM" = some (some (.int 7 tk_FUNCTION_TERM)))
    (v_PUT : PySem.W.nsIn K mainGlobals "PUT" = some (some (.int 8 tk_PUT)))
    (v_YES : PySem.W.nsIn K mainGlobals "YES" = some (some (.int 9 tk_YES)))
    (v_NO : PySem.W.nsIn K mainGlobals "NO" = some (some (.int 10 tk_NO)))
    (v_IF : PySem.W.nsIn K mainGlobals "IF" = some (some (.int 11 tk_IF)))
    (v_PART_COUNTS : PySem.W.nsIn K mainGlobals "PART_COUNTS" = some (some (.ref t_PART_COUNTS)))
    (lt_PART_COUNTS : K.lookup t_PART_COUNTS = some ⟨.type "tuple", tod_PART_COUNTS, .seq #[.int 0 ttk0_PART_COUNTS, .int 2 ttk1_PART_COUNTS, .int 1 ttk2_PART_COUNTS, .int 1 ttk3_PART_COUNTS, .int 1 ttk4_PART_COUNTS, .int 1 ttk5_PART_COUNTS, .int 3 ttk6_PART_COUNTS, .int 1 ttk7_PART_COUNTS, .int 2 ttk8_PART_COUNTS, .int 0 ttk9_PART_COUNTS, .int 0 ttk10_PART_COUNTS, .int 3 ttk11_PART_COUNTS] tn_PART_COUNTS, tsl_PART_COUNTS⟩)
    (v_DEEPEST_TERM : PySem.W.nsIn K mainGlobals "DEEPEST_TERM" = some (some (.int 20 tk_DEEPEST_TERM)))
    (v_NO_FUNCTION : PySem.W.nsIn K mainGlobals "NO_FUNCTION" = some (some (.int 1 tk_NO_FUNCTION)))
    (v_NOT_WANTED : PySem.W.nsIn K mainGlobals "NOT_WANTED" = some (some (.int 2 tk_NOT_WANTED)))
    (v_NOT_THE_SAME : PySem.W.nsIn K mainGlobals "NOT_THE_SAME" = some (some (.int 3 tk_NOT_THE_SAME)))
    (v_LARGEST_KEPT_SET : PySem.W.nsIn K mainGlobals "LARGEST_KEPT_SET" = some (some (.int 2 tk_LARGEST_KEPT_SET)))
    (v_MOST_PAIRS : PySem.W.nsIn K mainGlobals "MOST_PAIRS" = some (some (.int 8 tk_MOST_PAIRS)))
    (v_HEAVIEST_TERM : PySem.W.nsIn K mainGlobals "HEAVIEST_TERM" = some (some (.int 65536 tk_HEAVIEST_TERM)))
    (v_BEGIN : PySem.W.nsIn K mainGlobals "BEGIN" = some (some (.int 0 tk_BEGIN)))
    (v_SETS : PySem.W.nsIn K mainGlobals "SETS" = some (some (.int 1 tk_SETS)))
    (v_RELATE : PySem.W.nsIn K mainGlobals "RELATE" = some (some (.int 2 tk_RELATE)))
    (v_SIZE : PySem.W.nsIn K mainGlobals "SIZE" = some (some (.int 3 tk_SIZE)))
    (v_MEANING : PySem.W.nsIn K mainGlobals "MEANING" = some (some (.int 4 tk_MEANING)))
    (v_RELATED : PySem.W.nsIn K mainGlobals "RELATED" = some (some (.int 5 tk_RELATED)))
    (v_COUNT : PySem.W.nsIn K mainGlobals "COUNT" = some (some (.int 6 tk_COUNT)))
    (v_KEPT : PySem.W.nsIn K mainGlobals "KEPT" = some (some (.int 7 tk_KEPT)))
    (v_SIDES : PySem.W.nsIn K mainGlobals "SIDES" = some (some (.int 2 tk_SIDES)))
    (v_MOST_VARIABLES : PySem.W.nsIn K mainGlobals "MOST_VARIABLES" = some (some (.int 3 tk_MOST_VARIABLES)))
    (v_LARGEST_SET : PySem.W.nsIn K mainGlobals "LARGEST_SET" = some (some (.int 3 tk_LARGEST_SET)))
    (v_HEAVIEST_KIND : PySem.W.nsIn K mainGlobals "HEAVIEST_KIND" = some (some (.int 1000000 tk_HEAVIEST_KIND)))
    (v_LARGEST_COUNTED : PySem.W.nsIn K mainGlobals "LARGEST_COUNTED" = some (some (.int 32 tk_LARGEST_COUNTED)))
    (v_HEAVIEST_COUNTED : PySem.W.nsIn K mainGlobals "HEAVIEST_COUNTED" = some (some (.int 4096 tk_HEAVIEST_COUNTED)))
    (z_range : PySem.W.nsIn K mainGlobals "range" = some none)
    (z_max : PySem.W.nsIn K mainGlobals "max" = some none)
    (z_sum : PySem.W.nsIn K mainGlobals "sum" = some none)
    (z_list : PySem.W.nsIn K mainGlobals "list" = some none)
    (z_reversed : PySem.W.nsIn K mainGlobals "reversed" = some none)
    (z_len : PySem.W.nsIn K mainGlobals "len" = some none)
    (z_enumerate : PySem.W.nsIn K mainGlobals "enumerate" = some none)
    (z_zip : PySem.W.nsIn K mainGlobals "zip" = some none)
    : Txt K mg := by
  have F_Reader_init := fun_mk (st := s_Reader_init) l_Reader_init c_Reader_init k_Reader_init
  have b_Reader_init := F_Reader_init.binds (ps := ["self", "numbers"]) fun _ _ _ _ _ _ us hl => match us, hl with | [_, _], _ => rfl
  have F_Reader_at_end := fun_mk (st := s_Reader_at_end) l_Reader_at_end c_Reader_at_end k_Reader_at_end
  have b_Reader_at_end := F_Reader_at_end.binds (ps := ["self"]) fun _ _ _ _ _ _ us hl => match us, hl with | [_], _ => rfl
  have F_Reader_take := fun_mk (st := s_Reader_take) l_Reader_take c_Reader_take k_Reader_take
  have b_Reader_take := F_Reader_take.binds (ps := ["self"]) fun _ _ _ _ _ _ us hl => match us, hl with | [_], _ => rfl
  have F_Reader_take_row := fun_mk (st := s_Reader_take_row) l_Reader_take_row c_Reader_take_row k_Reader_take_row
  have b_Reader_take_row := F_Reader_take_row.binds (ps := ["self"]) fun _ _ _ _ _ _ us hl => match us, hl with | [_], _ => rfl
  have F_read_kind : FunD K "read_kind" "read_kind" (defArgs s_read_kind) (defBody s_read_kind) (defScope s_read_kind) [V.int 1] [] f_read_kind (PySem.W.fnOf "read_kind" "read_kind" (defArgs s_read_kind) (defBody s_read_kind) (defScope s_read_kind) (.ref dt_read_kind) kV_read_kind dc_read_kind pm_read_kind an_read_kind cd_read_kind ct_read_kind) := ⟨⟨_, _, _, _, _, _, _, _, _, _, rfl, l_read_kind, c_read_kind, .inr ⟨by decide, dt_read_kind, _, [.int 1 dtk0_read_kind], dn_read_kind, rfl, ld_read_kind, rfl, (.cons ⟨_, rfl⟩ .nil)⟩, .inl rfl⟩, k_read_kind⟩
  have b_read_kind : Binds K (PySem.W.fnOf "read_kind" "read_kind" (defArgs s_read_kind) (defBody s_read_kind) (defScope s_read_kind) (.ref dt_read_kind) kV_read_kind dc_read_kind pm_read_kind an_read_kind cd_read_kind ct_read_kind) ["reader", "variables", "depth"] [] := by
    obtain ⟨ds, r, h⟩ := F_read_kind.binds1 (ps := ["reader", "variables", "depth"]) 3 1 (by decide) rfl fun _ _ _ _ _ _ _ us its hl hi => match us, its, hl, hi with | [_, _, _], [_], _, _ => ⟨_, rfl, rfl⟩
    cases r
    exact h
  have d_read_kind := F_read_kind.binds1 (ps := ["reader", "variables", "depth"]) 2 0 (by decide) rfl fun _ _ _ _ _ _ _ us its hl hi => match us, its, hl, hi with | [_, _], [_], _, _ => ⟨_, rfl, rfl⟩
  have F_read_variable := fun_mk (st := s_read_variable) l_read_variable c_read_variable k_read_variable
  have b_read_variable := F_read_variable.binds (ps := ["reader", "variables"]) fun _ _ _ _ _ _ us hl => match us, hl with | [_, _], _ => rfl
  have F_read_kind_row := fun_mk (st := s_read_kind_row) l_read_kind_row c_read_kind_row k_read_kind_row
  have b_read_kind_row := F_read_kind_row.binds (ps := ["row", "variables"]) fun _ _ _ _ _ _ us hl => match us, hl with | [_, _], _ => rfl
  have F_kind_row := fun_mk (st := s_kind_row) l_kind_row c_kind_row k_kind_row
  have b_kind_row := F_kind_row.binds (ps := ["kind"]) fun _ _ _ _ _ _ us hl => match us, hl with | [_], _ => rfl
  have F_kind_size := fun_mk (st := s_kind_size) l_kind_size c_kind_size k_kind_size
  have b_kind_size := F_kind_size.binds (ps := ["kind", "set_sizes", "largest"]) fun _ _ _ _ _ _ us hl => match us, hl with | [_, _, _], _ => rfl
  have F_joined_size := fun_mk (st := s_joined_size) l_joined_size c_joined_size k_joined_size
  have b_joined_size := F_joined_size.binds (ps := ["head", "first", "second"]) fun _ _ _ _ _ _ us hl => match us, hl with | [_, _, _], _ => rfl
  have F_functions_size := fun_mk (st := s_functions_size) l_functions_size c_functions_size k_functions_size
  have b_functions_size := F_functions_size.binds (ps := ["taken", "given"]) fun _ _ _ _ _ _ us hl => match us, hl with | [_, _], _ => rfl
  have F_Part_init := fun_mk (st := s_Part_init) l_Part_init c_Part_init k_Part_init
  have b_Part_init := F_Part_init.binds (ps := ["self", "head", "number", "told"]) fun _ _ _ _ _ _ us hl => match us, hl with | [_, _, _, _], _ => rfl
  have F_read_term_row := fun_mk (st := s_read_term_row) l_read_term_row c_read_term_row k_read_term_row
  have b_read_term_row := F_read_term_row.binds (ps := ["row", "variables"]) fun _ _ _ _ _ _ us hl => match us, hl with | [_, _], _ => rfl
  have F_read_term := fun_mk (st := s_read_term) l_read_term c_read_term k_read_term
  have b_read_term := F_read_term.binds (ps := ["reader", "variables", "depth", "found"]) fun _ _ _ _ _ _ us hl => match us, hl with | [_, _, _, _], _ => rfl
  have F_read_told := fun_mk (st := s_read_told) l_read_told c_read_told k_read_told
  have b_read_told := F_read_told.binds (ps := ["reader", "head", "variables"]) fun _ _ _ _ _ _ us hl => match us, hl with | [_, _, _], _ => rfl
  have F_give_kinds := fun_mk (st := s_give_kinds) l_give_kinds c_give_kinds k_give_kinds
  have b_give_kinds := F_give_kinds.binds (ps := ["part", "around"]) fun _ _ _ _ _ _ us hl => match us, hl with | [_, _], _ => rfl
  have F_found_kind := fun_mk (st := s_found_kind) l_found_kind c_found_kind k_found_kind
  have b_found_kind := F_found_kind.binds (ps := ["part", "around"]) fun _ _ _ _ _ _ us hl => match us, hl with | [_, _], _ => rfl
  have F_variable_kind := fun_mk (st := s_variable_kind) l_variable_kind c_variable_kind k_variable_kind
  have b_variable_kind := F_variable_kind.binds (ps := ["part", "around"]) fun _ _ _ _ _ _ us hl => match us, hl with | [_, _], _ => rfl
  have F_cases_kind := fun_mk (st := s_cases_kind) l_cases_kind c_cases_kind k_cases_kind
  have b_cases_kind := F_cases_kind.binds (ps := ["part", "chosen", "for_left", "for_right"]) fun _ _ _ _ _ _ us hl => match us, hl with | [_, _, _, _], _ => rfl
  have F_put_kind := fun_mk (st := s_put_kind) l_put_kind c_put_kind k_put_kind
  have b_put_kind := F_put_kind.binds (ps := ["part", "function", "argument"]) fun _ _ _ _ _ _ us hl => match us, hl with | [_, _, _], _ => rfl
  have F_if_kind := fun_mk (st := s_if_kind) l_if_kind c_if_kind k_if_kind
  have b_if_kind := F_if_kind.binds (ps := ["part", "asked", "for_yes", "for_no"]) fun _ _ _ _ _ _ us hl => match us, hl with | [_, _, _, _], _ => rfl
  have F_want := fun_mk (st := s_want) l_want c_want k_want
  have b_want := F_want.binds (ps := ["part", "kind", "head"]) fun _ _ _ _ _ _ us hl => match us, hl with | [_, _, _], _ => rfl
  have F_want_same := fun_mk (st := s_want_same) l_want_same c_want_same k_want_same
  have b_want_same := F_want_same.binds (ps := ["part", "first", "second"]) fun _ _ _ _ _ _ us hl => match us, hl with | [_, _, _], _ => rfl
  have F_refuse_too_large := fun_mk (st := s_refuse_too_large) l_refuse_too_large c_refuse_too_large k_refuse_too_large
  have b_refuse_too_large := F_refuse_too_large.binds (ps := ["kind", "left_sizes", "right_sizes", "largest", "heaviest"]) fun _ _ _ _ _ _ us hl => match us, hl with | [_, _, _, _, _], _ => rfl
  have F_kind_weight := fun_mk (st := s_kind_weight) l_kind_weight c_kind_weight k_kind_weight
  have b_kind_weight := F_kind_weight.binds (ps := ["kind", "left_sizes", "right_sizes", "largest"]) fun _ _ _ _ _ _ us hl => match us, hl with | [_, _, _, _], _ => rfl
  have F_kind_relation := fun_mk (st := s_kind_relation) l_kind_relation c_kind_relation k_kind_relation
  have b_kind_relation := F_kind_relation.binds (ps := ["kind", "right_sizes", "told", "largest"]) fun _ _ _ _ _ _ us hl => match us, hl with | [_, _, _, _], _ => rfl
  have F_pair_relation := fun_mk (st := s_pair_relation) l_pair_relation c_pair_relation k_pair_relation
  have b_pair_relation := F_pair_relation.binds (ps := ["first", "second", "first_size", "second_size"]) fun _ _ _ _ _ _ us hl => match us, hl with | [_, _, _, _], _ => rfl
  have F_function_relation := fun_mk (st := s_function_relation) l_function_relation c_function_relation k_function_relation
  have b_function_relation := F_function_relation.binds (ps := ["taken", "given", "taken_size", "given_size"]) fun _ _ _ _ _ _ us hl => match us, hl with | [_, _, _, _], _ => rfl
  have F_allowed_marks := fun_mk (st := s_allowed_marks) l_allowed_marks c_allowed_marks k_allowed_marks
  have b_allowed_marks := F_allowed_marks.binds (ps := ["function", "related_places", "given", "taken_size", "given_size"]) fun _ _ _ _ _ _ us hl => match us, hl with | [_, _, _, _, _], _ => rfl
  have F_functions_within := fun_mk (st := s_functions_within) l_functions_within c_functions_within k_functions_within
  have b_functions_within := F_functions_within.binds (ps := ["allowed", "given_size"]) fun _ _ _ _ _ _ us hl => match us, hl with | [_, _], _ => rfl
  have F_spread := fun_mk (st := s_spread) l_spread c_spread k_spread
  have b_spread := F_spread.binds (ps := ["marks", "size", "step"]) fun _ _ _ _ _ _ us hl => match us, hl with | [_, _, _], _ => rfl
  have F_places := fun_mk (st := s_places) l_places c_places k_places
  have b_places := F_places.binds (ps := ["marks", "size"]) fun _ _ _ _ _ _ us hl => match us, hl with | [_, _], _ => rfl
  have F_is_marked := fun_mk (st := s_is_marked) l_is_marked c_is_marked k_is_marked
  have b_is_marked := F_is_marked.binds (ps := ["marks", "place"]) fun _ _ _ _ _ _ us hl => match us, hl with | [_, _], _ => rfl
  have F_refuse_too_many := fun_mk (st := s_refuse_too_many) l_refuse_too_many c_refuse_too_many k_refuse_too_many
  have b_refuse_too_many := F_refuse_too_many.binds (ps := ["set_sizes"]) fun _ _ _ _ _ _ us hl => match us, hl with | [_], _ => rfl
  have F_pairs_of_all := fun_mk (st := s_pairs_of_all) l_pairs_of_all c_pairs_of_all k_pairs_of_all
  have b_pairs_of_all := F_pairs_of_all.binds (ps := ["set_sizes"]) fun _ _ _ _ _ _ us hl => match us, hl with | [_], _ => rfl
  have F_kept_values := fun_mk (st := s_kept_values) l_kept_values c_kept_values k_kept_values
  have b_kept_values := F_kept_values.binds (ps := ["kind", "set_sizes", "largest"]) fun _ _ _ _ _ _ us hl => match us, hl with | [_, _, _], _ => rfl
  have F_chosen_relations := fun_mk (st := s_chosen_relations) l_chosen_relations c_chosen_relations k_chosen_relations
  have b_chosen_relations := F_chosen_relations.binds (ps := ["chosen", "set_sizes"]) fun _ _ _ _ _ _ us hl => match us, hl with | [_, _], _ => rfl
  have F_term_meaning := fun_mk (st := s_term_meaning) l_term_meaning c_term_meaning k_term_meaning
  have b_term_meaning := F_term_meaning.binds (ps := ["parts", "set_sizes"]) fun _ _ _ _ _ _ us hl => match us, hl with | [_, _], _ => rfl
  have F_measure_parts := fun_mk (st := s_measure_parts) l_measure_parts c_measure_parts k_measure_parts
  have b_measure_parts := F_measure_parts.binds (ps := ["parts", "set_sizes"]) fun _ _ _ _ _ _ us hl => match us, hl with | [_, _], _ => rfl
  have F_found_weight := fun_mk (st := s_found_weight) l_found_weight c_found_weight k_found_weight
  have b_found_weight := F_found_weight.binds (ps := ["part", "set_sizes"]) fun _ _ _ _ _ _ us hl => match us, hl with | [_, _], _ => rfl
  have F_part_table := fun_mk (st := s_part_table) l_part_table c_part_table k_part_table
  have b_part_table := F_part_table.binds (ps := ["part", "around", "set_sizes"]) fun _ _ _ _ _ _ us hl => match us, hl with | [_, _, _], _ => rfl
  have F_choices := fun_mk (st := s_choices) l_choices c_choices k_choices
  have b_choices := F_choices.binds (ps := ["around"]) fun _ _ _ _ _ _ us hl => match us, hl with | [_], _ => rfl
  have F_variable_table := fun_mk (st := s_variable_table) l_variable_table c_variable_table k_variable_table
  have b_variable_table := F_variable_table.binds (ps := ["told", "around"]) fun _ _ _ _ _ _ us hl => match us, hl with | [_, _], _ => rfl
  have F_function_table := fun_mk (st := s_function_table) l_function_table c_function_table k_function_table
  have b_function_table := F_function_table.binds (ps := ["part", "around", "set_sizes"]) fun _ _ _ _ _ _ us hl => match us, hl with | [_, _, _], _ => rfl
  have F_joined_table := fun_mk (st := s_joined_table) l_joined_table c_joined_table k_joined_table
  have b_joined_table := F_joined_table.binds (ps := ["part", "tables", "set_sizes"]) fun _ _ _ _ _ _ us hl => match us, hl with | [_, _, _], _ => rfl
  have F_cases_table := fun_mk (st := s_cases_table) l_cases_table c_cases_table k_cases_table
  have b_cases_table := F_cases_table.binds (ps := ["part", "tables", "size"]) fun _ _ _ _ _ _ us hl => match us, hl with | [_, _, _], _ => rfl
  have F_put_table := fun_mk (st := s_put_table) l_put_table c_put_table k_put_table
  have b_put_table := F_put_table.binds (ps := ["functions", "arguments", "given", "taken"]) fun _ _ _ _ _ _ us hl => match us, hl with | [_, _, _, _], _ => rfl
  have F_powers_of := fun_mk (st := s_powers_of) l_powers_of c_powers_of k_powers_of
  have b_powers_of := F_powers_of.binds (ps := ["base", "count"]) fun _ _ _ _ _ _ us hl => match us, hl with | [_, _], _ => rfl
  have F_House_init := fun_mk (st := s_House_init) l_House_init c_House_init k_House_init
  have b_House_init := F_House_init.binds (ps := ["self"]) fun _ _ _ _ _ _ us hl => match us, hl with | [_], _ => rfl
  have F_House_begin := fun_mk (st := s_House_begin) l_House_begin c_House_begin k_House_begin
  have b_House_begin := F_House_begin.binds (ps := ["self", "variables"]) fun _ _ _ _ _ _ us hl => match us, hl with | [_, _], _ => rfl
  have F_House_variables := fun_mk (st := s_House_variables) l_House_variables c_House_variables k_House_variables
  have b_House_variables := F_House_variables.binds (ps := ["self"]) fun _ _ _ _ _ _ us hl => match us, hl with | [_], _ => rfl
  have F_House_sets := fun_mk (st := s_House_sets) l_House_sets c_House_sets k_House_sets
  have b_House_sets := F_House_sets.binds (ps := ["self", "variable", "left_size", "right_size"]) fun _ _ _ _ _ _ us hl => match us, hl with | [_, _, _, _], _ => rfl
  have F_House_relate := fun_mk (st := s_House_relate) l_House_relate c_House_relate k_House_relate
  have b_House_relate := F_House_relate.binds (ps := ["self", "variable", "left", "right"]) fun _ _ _ _ _ _ us hl => match us, hl with | [_, _, _, _], _ => rfl
  have F_House_size := fun_mk (st := s_House_size) l_House_size c_House_size k_House_size
  have b_House_size := F_House_size.binds (ps := ["self", "side", "row"]) fun _ _ _ _ _ _ us hl => match us, hl with | [_, _, _], _ => rfl
  have F_House_meaning := fun_mk (st := s_House_meaning) l_House_meaning c_House_meaning k_House_meaning
  have b_House_meaning := F_House_meaning.binds (ps := ["self", "side", "row"]) fun _ _ _ _ _ _ us hl => match us, hl with | [_, _, _], _ => rfl
  have F_House_relation_of := fun_mk (st := s_House_relation_of) l_House_relation_of c_House_relation_of k_House_relation_of
  have b_House_relation_of := F_House_relation_of.binds (ps := ["self", "kind", "largest", "heaviest"]) fun _ _ _ _ _ _ us hl => match us, hl with | [_, _, _, _], _ => rfl
  have F_House_related := fun_mk (st := s_House_related) l_House_related c_House_related k_House_related
  have b_House_related := F_House_related.binds (ps := ["self", "left", "right", "row"]) fun _ _ _ _ _ _ us hl => match us, hl with | [_, _, _, _], _ => rfl
  have F_House_count := fun_mk (st := s_House_count) l_House_count c_House_count k_House_count
  have b_House_count := F_House_count.binds (ps := ["self", "row"]) fun _ _ _ _ _ _ us hl => match us, hl with | [_, _], _ => rfl
  have F_House_kept := fun_mk (st := s_House_kept) l_House_kept c_House_kept k_House_kept
  have b_House_kept := F_House_kept.binds (ps := ["self", "row"]) fun _ _ _ _ _ _ us hl => match us, hl with | [_, _], _ => rfl
  have F_answers := fun_mk (st := s_answers) l_answers c_answers k_answers
  have b_answers := F_answers.binds (ps := ["calls"]) fun _ _ _ _ _ _ us hl => match us, hl with | [_], _ => rfl
  have F_answer_or_refusal := fun_mk (st := s_answer_or_refusal) l_answer_or_refusal c_answer_or_refusal k_answer_or_refusal
  have b_answer_or_refusal := F_answer_or_refusal.binds (ps := ["house", "reader"]) fun _ _ _ _ _ _ us hl => match us, hl with | [_, _], _ => rfl
  have F_answer_call := fun_mk (st := s_answer_call) l_answer_call c_answer_call k_answer_call
  have b_answer_call := F_answer_call.binds (ps := ["house", "reader"]) fun _ _ _ _ _ _ us hl => match us, hl with | [_, _], _ => rfl
  exact ⟨C_Reader, ⟨pg_Reader, hd_Reader, po_Reader, sa_Reader⟩, PySem.W.mg_of X G a_Reader, n_Reader_numbers, n_Reader_place, C_Part, ⟨pg_Part, hd_Part, po_Part, sa_Part⟩, PySem.W.mg_of X G a_Part, n_Part_head, n_Part_number, n_Part_told, n_Part_parts, n_Part_kind, n_Part_extent, n_Part_weight, C_House, ⟨pg_House, hd_House, po_House, sa_House⟩, PySem.W.mg_of X G a_House, n_House_set_sizes, n_House_told_relations, C_Unfit, C_TooManyRelations, C_FaultyTerm, C_TooLarge, C_UnknownCall, PySem.W.mg_of X G a_Unfit, x_Unfit, k_Unfit, b_Unfit, t_Unfit, exm_of2 b_Unfit i_Unfit t_Unfit b_Unfit s_Unfit_Unfit, exm_of2 b_Unfit i_TooManyRelations t_TooManyRelations b_TooManyRelations s_Unfit_TooManyRelations, exm_of2 b_Unfit i_FaultyTerm t_FaultyTerm b_FaultyTerm s_Unfit_FaultyTerm, exm_of2 b_Unfit i_TooLarge t_TooLarge b_TooLarge s_Unfit_TooLarge, exm_of2 b_Unfit i_UnknownCall t_UnknownCall b_UnknownCall s_Unfit_UnknownCall, PySem.W.mg_of X G a_TooManyRelations, x_TooManyRelations, k_TooManyRelations, b_TooManyRelations, t_TooManyRelations, exm_of2 b_TooManyRelations i_Unfit t_Unfit b_Unfit s_TooManyRelations_Unfit, exm_of2 b_TooManyRelations i_TooManyRelations t_TooManyRelations b_TooManyRelations s_TooManyRelations_TooManyRelations, exm_of2 b_TooManyRelations i_FaultyTerm t_FaultyTerm b_FaultyTerm s_TooManyRelations_FaultyTerm, exm_of2 b_TooManyRelations i_TooLarge t_TooLarge b_TooLarge s_TooManyRelations_TooLarge, exm_of2 b_TooManyRelations i_UnknownCall t_UnknownCall b_UnknownCall s_TooManyRelations_UnknownCall, PySem.W.mg_of X G a_FaultyTerm, k_FaultyTerm, b_FaultyTerm, t_FaultyTerm, exm_of2 b_FaultyTerm i_Unfit t_Unfit b_Unfit s_FaultyTerm_Unfit, exm_of2 b_FaultyTerm i_TooManyRelations t_TooManyRelations b_TooManyRelations s_FaultyTerm_TooManyRelations, exm_of2 b_FaultyTerm i_FaultyTerm t_FaultyTerm b_FaultyTerm s_FaultyTerm_FaultyTerm, exm_of2 b_FaultyTerm i_TooLarge t_TooLarge b_TooLarge s_FaultyTerm_TooLarge, exm_of2 b_FaultyTerm i_UnknownCall t_UnknownCall b_UnknownCall s_FaultyTerm_UnknownCall, PySem.W.mg_of X G a_TooLarge, x_TooLarge, k_TooLarge, b_TooLarge, t_TooLarge, exm_of2 b_TooLarge i_Unfit t_Unfit b_Unfit s_TooLarge_Unfit, exm_of2 b_TooLarge i_TooManyRelations t_TooManyRelations b_TooManyRelations s_TooLarge_TooManyRelations, exm_of2 b_TooLarge i_FaultyTerm t_FaultyTerm b_FaultyTerm s_TooLarge_FaultyTerm, exm_of2 b_TooLarge i_TooLarge t_TooLarge b_TooLarge s_TooLarge_TooLarge, exm_of2 b_TooLarge i_UnknownCall t_UnknownCall b_UnknownCall s_TooLarge_UnknownCall, PySem.W.mg_of X G a_UnknownCall, x_UnknownCall, k_UnknownCall, b_UnknownCall, t_UnknownCall, exm_of2 b_UnknownCall i_Unfit t_Unfit b_Unfit s_UnknownCall_Unfit, exm_of2 b_UnknownCall i_TooManyRelations t_TooManyRelations b_TooManyRelations s_UnknownCall_TooManyRelations, exm_of2 b_UnknownCall i_FaultyTerm t_FaultyTerm b_FaultyTerm s_UnknownCall_FaultyTerm, exm_of2 b_UnknownCall i_TooLarge t_TooLarge b_TooLarge s_UnknownCall_TooLarge, exm_of2 b_UnknownCall i_UnknownCall t_UnknownCall b_UnknownCall s_UnknownCall_UnknownCall, I_FaultyTerm, ⟨PySem.W.mg_of X G a_FaultyTerm, ⟨_, _, _, _, _, _, _, _, _, _, _, _, _, _, xL_FaultyTerm⟩, xsa_FaultyTerm, xga_FaultyTerm, xgg_FaultyTerm, xn0_FaultyTerm, xn1_FaultyTerm, xi_FaultyTerm, xt_FaultyTerm, k_FaultyTerm, b_FaultyTerm, t_FaultyTerm, xh_FaultyTerm, ⟨_, _, _, _, _, _, _, _, _, _, _, _, _, _, _, _, _, _, _, _, xl_FaultyTerm, xc_FaultyTerm⟩⟩, f_Reader_init, _, F_Reader_init, b_Reader_init, k_Reader_init, ⟨mk_Reader, a_Reader_init, i_Reader_init, kc_Reader⟩, f_Reader_at_end, _, F_Reader_at_end, b_Reader_at_end, k_Reader_at_end, ⟨a_Reader_at_end, i_Reader_at_end, k_Reader_at_end⟩, f_Reader_take, _, F_Reader_take, b_Reader_take, k_Reader_take, ⟨a_Reader_take, i_Reader_take, k_Reader_take⟩, f_Reader_take_row, _, F_Reader_take_row, b_Reader_take_row, k_Reader_take_row, ⟨a_Reader_take_row, i_Reader_take_row, k_Reader_take_row⟩, f_read_kind, _, F_read_kind, d_read_kind, b_read_kind, k_read_kind, PySem.W.mg_of X G a_read_kind, f_read_variable, _, F_read_variable, b_read_variable, k_read_variable, PySem.W.mg_of X G a_read_variable, f_read_kind_row, _, F_read_kind_row, b_read_kind_row, k_read_kind_row, PySem.W.mg_of X G a_read_kind_row, f_kind_row, _, F_kind_row, b_kind_row, k_kind_row, PySem.W.mg_of X G a_kind_row, f_kind_size, _, F_kind_size, b_kind_size, k_kind_size, PySem.W.mg_of X G a_kind_size, f_joined_size, _, F_joined_size, b_joined_size, k_joined_size, PySem.W.mg_of X G a_joined_size, f_functions_size, _, F_functions_size, b_functions_size, k_functions_size, PySem.W.mg_of X G a_functions_size, f_Part_init, _, F_Part_init, b_Part_init, k_Part_init, ⟨mk_Part, a_Part_init, i_Part_init, kc_Part⟩, f_read_term_row, _, F_read_term_row, b_read_term_row, k_read_term_row, PySem.W.mg_of X G a_read_term_row, f_read_term, _, F_read_term, b_read_term, k_read_term, PySem.W.mg_of X G a_read_term, f_read_told, _, F_read_told, b_read_told, k_read_told, PySem.W.mg_of X G a_read_told, f_give_kinds, _, F_give_kinds, b_give_kinds, k_give_kinds, PySem.W.mg_of X G a_give_kinds, f_found_kind, _, F_found_kind, b_found_kind, k_found_kind, PySem.W.mg_of X G a_found_kind, f_variable_kind, _, F_variable_kind, b_variable_kind, k_variable_kind, PySem.W.mg_of X G a_variable_kind, f_cases_kind, _, F_cases_kind, b_cases_kind, k_cases_kind, PySem.W.mg_of X G a_cases_kind, f_put_kind, _, F_put_kind, b_put_kind, k_put_kind, PySem.W.mg_of X G a_put_kind, f_if_kind, _, F_if_kind, b_if_kind, k_if_kind, PySem.W.mg_of X G a_if_kind, f_want, _, F_want, b_want, k_want, PySem.W.mg_of X G a_want, f_want_same, _, F_want_same, b_want_same, k_want_same, PySem.W.mg_of X G a_want_same, f_refuse_too_large, _, F_refuse_too_large, b_refuse_too_large, k_refuse_too_large, PySem.W.mg_of X G a_refuse_too_large, f_kind_weight, _, F_kind_weight, b_kind_weight, k_kind_weight, PySem.W.mg_of X G a_kind_weight, f_kind_relation, _, F_kind_relation, b_kind_relation, k_kind_relation, PySem.W.mg_of X G a_kind_relation, f_pair_relation, _, F_pair_relation, b_pair_relation, k_pair_relation, PySem.W.mg_of X G a_pair_relation, f_function_relation, _, F_function_relation, b_function_relation, k_function_relation, PySem.W.mg_of X G a_function_relation, f_allowed_marks, _, F_allowed_marks, b_allowed_marks, k_allowed_marks, PySem.W.mg_of X G a_allowed_marks, f_functions_within, _, F_functions_within, b_functions_within, k_functions_within, PySem.W.mg_of X G a_functions_within, f_spread, _, F_spread, b_spread, k_spread, PySem.W.mg_of X G a_spread, f_places, _, F_places, b_places, k_places, PySem.W.mg_of X G a_places, f_is_marked, _, F_is_marked, b_is_marked, k_is_marked, PySem.W.mg_of X G a_is_marked, f_refuse_too_many, _, F_refuse_too_many, b_refuse_too_many, k_refuse_too_many, PySem.W.mg_of X G a_refuse_too_many, f_pairs_of_all, _, F_pairs_of_all, b_pairs_of_all, k_pairs_of_all, PySem.W.mg_of X G a_pairs_of_all, f_kept_values, _, F_kept_values, b_kept_values, k_kept_values, PySem.W.mg_of X G a_kept_values, f_chosen_relations, _, F_chosen_relations, b_chosen_relations, k_chosen_relations, PySem.W.mg_of X G a_chosen_relations, f_term_meaning, _, F_term_meaning, b_term_meaning, k_term_meaning, PySem.W.mg_of X G a_term_meaning, f_measure_parts, _, F_measure_parts, b_measure_parts, k_measure_parts, PySem.W.mg_of X G a_measure_parts, f_found_weight, _, F_found_weight, b_found_weight, k_found_weight, PySem.W.mg_of X G a_found_weight, f_part_table, _, F_part_table, b_part_table, k_part_table, PySem.W.mg_of X G a_part_table, f_choices, _, F_choices, b_choices, k_choices, PySem.W.mg_of X G a_choices, f_variable_table, _, F_variable_table, b_variable_table, k_variable_table, PySem.W.mg_of X G a_variable_table, f_function_table, _, F_function_table, b_function_table, k_function_table, PySem.W.mg_of X G a_function_table, f_joined_table, _, F_joined_table, b_joined_table, k_joined_table, PySem.W.mg_of X G a_joined_table, f_cases_table, _, F_cases_table, b_cases_table, k_cases_table, PySem.W.mg_of X G a_cases_table, f_put_table, _, F_put_table, b_put_table, k_put_table, PySem.W.mg_of X G a_put_table, f_powers_of, _, F_powers_of, b_powers_of, k_powers_of, PySem.W.mg_of X G a_powers_of, f_House_init, _, F_House_init, b_House_init, k_House_init, ⟨mk_House, a_House_init, i_House_init, kc_House⟩, f_House_begin, _, F_House_begin, b_House_begin, k_House_begin, ⟨a_House_begin, i_House_begin, k_House_begin⟩, f_House_variables, _, F_House_variables, b_House_variables, k_House_variables, ⟨a_House_variables, i_House_variables, k_House_variables⟩, f_House_sets, _, F_House_sets, b_House_sets, k_House_sets, ⟨a_House_sets, i_House_sets, k_House_sets⟩, f_House_relate, _, F_House_relate, b_House_relate, k_House_relate, ⟨a_House_relate, i_House_relate, k_House_relate⟩, f_House_size, _, F_House_size, b_House_size, k_House_size, ⟨a_House_size, i_House_size, k_House_size⟩, f_House_meaning, _, F_House_meaning, b_House_meaning, k_House_meaning, ⟨a_House_meaning, i_House_meaning, k_House_meaning⟩, f_House_relation_of, _, F_House_relation_of, b_House_relation_of, k_House_relation_of, ⟨a_House_relation_of, i_House_relation_of, k_House_relation_of⟩, f_House_related, _, F_House_related, b_House_related, k_House_related, ⟨a_House_related, i_House_related, k_House_related⟩, f_House_count, _, F_House_count, b_House_count, k_House_count, ⟨a_House_count, i_House_count, k_House_count⟩, f_House_kept, _, F_House_kept, b_House_kept, k_House_kept, ⟨a_House_kept, i_House_kept, k_House_kept⟩, f_answers, _, F_answers, b_answers, k_answers, PySem.W.mg_of X G a_answers, f_answer_or_refusal, _, F_answer_or_refusal, b_answer_or_refusal, k_answer_or_refusal, PySem.W.mg_of X G a_answer_or_refusal, f_answer_call, _, F_answer_call, b_answer_call, k_answer_call, PySem.W.mg_of X G a_answer_call, ⟨_, PySem.W.mg_of X G v_VARIABLE, _, rfl⟩, ⟨_, PySem.W.mg_of X G v_TWO, _, rfl⟩, ⟨_, PySem.W.mg_of X G v_PAIR, _, rfl⟩, ⟨_, PySem.W.mg_of X G v_EITHER, _, rfl⟩, ⟨_, PySem.W.mg_of X G v_FUNCTION, _, rfl⟩, ⟨_, PySem.W.mg_of X G v_DEEPEST, _, rfl⟩, ⟨_, PySem.W.mg_of X G v_LARGEST, _, rfl⟩, ⟨_, PySem.W.mg_of X G v_VARIABLE_TERM, _, rfl⟩, ⟨_, PySem.W.mg_of X G v_PAIR_TERM, _, rfl⟩, ⟨_, PySem.W.mg_of X G v_FIRST, _, rfl⟩, ⟨_, PySem.W.mg_of X G v_SECOND, _, rfl⟩, ⟨_, PySem.W.mg_of X G v_LEFT, _, rfl⟩, ⟨_, PySem.W.mg_of X G v_RIGHT, _, rfl⟩, ⟨_, PySem.W.mg_of X G v_CASES, _, rfl⟩, ⟨_, PySem.W.mg_of X G v_FUNCTION_TERM, _, rfl⟩, ⟨_, PySem.W.mg_of X G v_PUT, _, rfl⟩, ⟨_, PySem.W.mg_of X G v_YES, _, rfl⟩, ⟨_, PySem.W.mg_of X G v_NO, _, rfl⟩, ⟨_, PySem.W.mg_of X G v_IF, _, rfl⟩, t_PART_COUNTS, PySem.W.mg_of X G v_PART_COUNTS, fun _ => .inr ⟨_, _, tn_PART_COUNTS, lt_PART_COUNTS, rfl, rfl, by show 12 ≤ sizeLine; decide, (.cons ⟨_, rfl⟩ (.cons ⟨_, rfl⟩ (.cons ⟨_, rfl⟩ (.cons ⟨_, rfl⟩ (.cons ⟨_, rfl⟩ (.cons ⟨_, rfl⟩ (.cons ⟨_, rfl⟩ (.cons ⟨_, rfl⟩ (.cons ⟨_, rfl⟩ (.cons ⟨_, rfl⟩ (.cons ⟨_, rfl⟩ (.cons ⟨_, rfl⟩ .nil))))))))))))⟩, ⟨_, PySem.W.mg_of X G v_DEEPEST_TERM, _, rfl⟩, ⟨_, PySem.W.mg_of X G v_NO_FUNCTION, _, rfl⟩, ⟨_, PySem.W.mg_of X G v_NOT_WANTED, _, rfl⟩, ⟨_, PySem.W.mg_of X G v_NOT_THE_SAME, _, rfl⟩, ⟨_, PySem.W.mg_of X G v_LARGEST_KEPT_SET, _, rfl⟩, ⟨_, PySem.W.mg_of X G v_MOST_PAIRS, _, rfl⟩, ⟨_, PySem.W.mg_of X G v_HEAVIEST_TERM, _, rfl⟩, ⟨_, PySem.W.mg_of X G v_BEGIN, _, rfl⟩, ⟨_, PySem.W.mg_of X G v_SETS, _, rfl⟩, ⟨_, PySem.W.mg_of X G v_RELATE, _, rfl⟩, ⟨_, PySem.W.mg_of X G v_SIZE, _, rfl⟩, ⟨_, PySem.W.mg_of X G v_MEANING, _, rfl⟩, ⟨_, PySem.W.mg_of X G v_RELATED, _, rfl⟩, ⟨_, PySem.W.mg_of X G v_COUNT, _, rfl⟩, ⟨_, PySem.W.mg_of X G v_KEPT, _, rfl⟩, ⟨_, PySem.W.mg_of X G v_SIDES, _, rfl⟩, ⟨_, PySem.W.mg_of X G v_MOST_VARIABLES, _, rfl⟩, ⟨_, PySem.W.mg_of X G v_LARGEST_SET, _, rfl⟩, ⟨_, PySem.W.mg_of X G v_HEAVIEST_KIND, _, rfl⟩, ⟨_, PySem.W.mg_of X G v_LARGEST_COUNTED, _, rfl⟩, ⟨_, PySem.W.mg_of X G v_HEAVIEST_COUNTED, _, rfl⟩, PySem.W.mg_none_of X G z_range, PySem.W.mg_none_of X G z_max, PySem.W.mg_none_of X G z_sum, PySem.W.mg_none_of X G z_list, PySem.W.mg_none_of X G z_reversed, PySem.W.mg_none_of X G z_len, PySem.W.mg_none_of X G z_enumerate, PySem.W.mg_none_of X G z_zip⟩
theorem all_end {P : Program} {w : World} {K : PySem.W.Frag} {h : Heap} {mg : Str → Option Value} {fa : Addr} {k : Nat} {sp : Sp} (hok : ∀ (T : Txt K mg) (base : Heap), K.In base → base.Ns mainGlobals mg → FnOk P w K mg base CX0 k T.f_answers T.fd_answers ["calls"] sp)
    (X : K.In h) (G : h.Ns mainGlobals mg) (hfa : mg "answers" = some (.ref fa))
    {C_Reader C_Part C_House C_Unfit C_TooManyRelations C_FaultyTerm C_TooLarge C_UnknownCall I_FaultyTerm xN_FaultyTerm f_Reader_init f_Reader_at_end f_Reader_take f_Reader_take_row f_read_kind dt_read_kind f_read_variable f_read_kind_row f_kind_row f_kind_size f_joined_size f_functions_size f_Part_init f_read_term_row f_read_term f_read_told f_give_kinds f_found_kind f_variable_kind f_cases_kind f_put_kind f_if_kind f_want f_want_same f_refuse_too_large f_kind_weight f_kind_relation f_pair_relation f_function_relation f_allowed_marks f_functions_within f_spread f_places f_is_marked f_refuse_too_many f_pairs_of_all f_kept_values f_chosen_relations f_term_meaning f_measure_parts f_found_weight f_part_table f_choices f_variable_table f_function_table f_joined_table f_cases_table f_put_table f_powers_of f_House_init f_House_begin f_House_variables f_House_sets f_House_relate f_House_size f_House_meaning f_House_relation_of f_House_related f_House_count f_House_kept f_answers f_answer_or_refusal f_answer_call t_PART_COUNTS : Addr} {xod_FaultyTerm xan_FaultyTerm od_Reader_init an_Reader_init od_Reader_at_end an_Reader_at_end od_Reader_take an_Reader_take od_Reader_take_row an_Reader_take_row od_read_kind an_read_kind dod_read_kind od_read_variable an_read_variable od_read_kind_row an_read_kind_row od_kind_row an_kind_row od_kind_size an_kind_size od_joined_size an_joined_size od_functions_size an_functions_size od_Part_init an_Part_init od_read_term_row an_read_term_row od_read_term an_read_term od_read_told an_read_told od_give_kinds an_give_kinds od_found_kind an_found_kind od_variable_kind an_variable_kind od_cases_kind an_cases_kind od_put_kind an_put_kind od_if_kind an_if_kind od_want an_want od_want_same an_want_same od_refuse_too_large an_refuse_too_large od_kind_weight an_kind_weight od_kind_relation an_kind_relation od_pair_relation an_pair_relation od_function_relation an_function_relation od_allowed_marks an_allowed_marks od_functions_within an_functions_within od_spread an_spread od_places an_places od_is_marked an_is_marked od_refuse_too_many an_refuse_too_many od_pairs_of_all an_pairs_of_all od_kept_values an_kept_values od_chosen_relations an_chosen_relations od_term_meaning an_term_meaning od_measure_parts an_measure_parts od_found_weight an_found_weight od_part_table an_part_table od_choices an_choices od_variable_table an_variable_table od_function_table an_function_table od_joined_table an_joined_table od_cases_table an_cases_table od_put_table an_put_table od_powers_of an_powers_of od_House_init an_House_init od_House_begin an_House_begin od_House_variables an_House_variables od_House_sets an_House_sets od_House_relate an_House_relate od_House_size an_House_size od_House_meaning an_House_meaning od_House_relation_of an_House_relation_of od_House_related an_House_related od_House_count an_House_count od_House_kept an_House_kept od_answers an_answers od_answer_or_refusal an_answer_or_refusal od_answer_call an_answer_call tod_PART_COUNTS : Option Addr}
    {xsl_FaultyTerm sl_Reader_init sl_Reader_at_end sl_Reader_take sl_Reader_take_row sl_read_kind dsl_read_kind sl_read_variable sl_read_kind_row sl_kind_row sl_kind_size sl_joined_size sl_functions_size sl_Part_init sl_read_term_row sl_read_term sl_read_told sl_give_kinds sl_found_kind sl_variable_kind sl_cases_kind sl_put_kind sl_if_kind sl_want sl_want_same sl_refuse_too_large sl_kind_weight sl_kind_relation sl_pair_relation sl_function_relation sl_allowed_marks sl_functions_within sl_spread sl_places sl_is_marked sl_refuse_too_many sl_pairs_of_all sl_kept_values sl_chosen_relations sl_term_meaning sl_measure_parts sl_found_weight sl_part_table sl_choices sl_variable_table sl_function_table sl_joined_table sl_cases_table sl_put_table sl_powers_of sl_House_init sl_House_begin sl_House_variables sl_House_sets sl_House_relate sl_House_size sl_House_meaning sl_House_relation_of sl_House_related sl_House_count sl_House_kept sl_answers sl_answer_or_refusal sl_answer_call tsl_PART_COUNTS : Array (Option Value)} {xoc_FaultyTerm xkV_FaultyTerm xdc_FaultyTerm xpm_FaultyTerm xcd_FaultyTerm xct_FaultyTerm oc_Reader_init kV_Reader_init dc_Reader_init pm_Reader_init cd_Reader_init ct_Reader_init oc_Reader_at_end kV_Reader_at_end dc_Reader_at_end pm_Reader_at_end cd_Reader_at_end ct_Reader_at_end oc_Reader_take kV_Reader_take dc_Reader_take pm_Reader_take cd_Reader_take ct_Reader_take oc_Reader_take_row kV_Reader_take_row dc_Reader_take_row pm_Reader_take_row cd_Reader_take_row ct_Reader_take_row oc_read_kind kV_read_kind dc_read_kind pm_read_kind cd_read_kind ct_read_kind doc_read_kind oc_read_variable kV_read_variable dc_read_variable pm_read_variable cd_read_variable ct_read_variable oc_read_kind_row kV_read_kind_row dc_read_kind_row pm_read_kind_row cd_read_kind_row ct_read_kind_row oc_kind_row kV_kind_row dc_kind_row pm_kind_row cd_kind_row ct_kind_row oc_kind_size kV_kind_size dc_kind_size pm_kind_size cd_kind_size ct_kind_size oc_joined_size kV_joined_size dc_joined_size pm_joined_size cd_joined_size ct_joined_size oc_functions_size kV_functions_size dc_functions_size pm_functions_size cd_functions_size ct_functions_size oc_Part_init kV_Part_init dc_Part_init pm_Part_init cd_Part_init ct_Part_init oc_read_term_row kV_read_term_row dc_read_term_row pm_read_term_row cd_read_term_row ct_read_term_row oc_read_term kV_read_term dc_read_term pm_read_term cd_read_term ct_read_term oc_read_told kV_read_told dc_read_told pm_read_told cd_read_told ct_read_told oc_give_kinds kV_give_kinds dc_give_kinds pm_give_kinds cd_give_kinds ct_give_kinds oc_found_kind kV_found_kind dc_found_kind pm_found_kind cd_found_kind ct_found_kind oc_variable_kind kV_variable_kind dc_variable_kind pm_variable_kind cd_variable_kind ct_variable_kind oc_cases_kind kV_cases_kind dc_cases_kind pm_cases_kind cd_cases_kind ct_cases_kind oc_put_kind kV_put_kind dc_put_kind pm_put_kind cd_put_kind ct_put_kind oc_if_kind kV_if_kind dc_if_kind pm_if_kind cd_if_kind ct_if_kind oc_want kV_want dc_want pm_want cd_want ct_want oc_want_same kV_want_same dc_want_same pm_want_same cd_want_same ct_want_same oc_refuse_too_large kV_refuse_too_large dc_refuse_too_large pm_refuse_too_large cd_refuse_too_large ct_refuse_too_large oc_kind_weight kV_kind_weight dc_kind_weight pm_kind_weight cd_kind_weight ct_kind_weight oc_kind_relation kV_kind_relation dc_kind_relation pm_kind_relation cd_kind_relation ct_kind_relation oc_pair_relation kV_pair_relation dc_pair_relation pm_pair_relation cd_pair_relation ct_pair_relation oc_function_relation kV_function_relation dc_function_relation pm_function_relation cd_function_relation ct_function_relation oc_allowed_marks kV_allowed_marks dc_allowed_marks pm_allowed_marks cd_allowed_marks ct_allowed_marks oc_functions_within kV_functions_within dc_functions_within pm_functions_within cd_functions_within ct_functions_within oc_spread kV_spread dc_spread pm_spread cd_spread ct_spread oc_places kV_places dc_places pm_places cd_places ct_places oc_is_marked kV_is_marked dc_is_marked pm_is_marked cd_is_marked ct_is_marked oc_refuse_too_many kV_refuse_too_many dc_refuse_too_many pm_refuse_too_many cd_refuse_too_many ct_refuse_too_many oc_pairs_of_all kV_pairs_of_all dc_pairs_of_all pm_pairs_of_all cd_pairs_of_all ct_pairs_of_all oc_kept_values kV_kept_values dc_kept_values pm_kept_values cd_kept_values ct_kept_values oc_chosen_relations kV_chosen_relations dc_chosen_relations pm_chosen_relations cd_chosen_relations ct_chosen_relations oc_term_meaning kV_term_meaning dc_term_meaning pm_term_meaning cd_term_meaning ct_term_meaning oc_measure_parts kV_measure_parts dc_measure_parts pm_measure_parts cd_measure_parts ct_measure_parts oc_found_weight kV_found_weight dc_found_weight pm_found_weight cd_found_weight ct_found_weight oc_part_table kV_part_table dc_part_table pm_part_table cd_part_table ct_part_table oc_choices kV_choices dc_choices pm_choices cd_choices ct_choices oc_variable_table kV_variable_table dc_variable_table pm_variable_table cd_variable_table ct_variable_table oc_function_table kV_function_table dc_function_table pm_function_table cd_function_table ct_function_table oc_joined_table kV_joined_table dc_joined_table pm_joined_table cd_joined_table ct_joined_table oc_cases_table kV_cases_table dc_cases_table pm_cases_table cd_cases_table ct_cases_table oc_put_table kV_put_table dc_put_table pm_put_table cd_put_table ct_put_table oc_powers_of kV_powers_of dc_powers_of pm_powers_of cd_powers_of ct_powers_of oc_House_init kV_House_init dc_House_init pm_House_init cd_House_init ct_House_init oc_House_begin kV_House_begin dc_House_begin pm_House_begin cd_House_begin ct_House_begin oc_House_variables kV_House_variables dc_House_variables pm_House_variables cd_House_variables ct_House_variables oc_House_sets kV_House_sets dc_House_sets pm_House_sets cd_House_sets ct_House_sets oc_House_relate kV_House_relate dc_House_relate pm_House_relate cd_House_relate ct_House_relate oc_House_size kV_House_size dc_House_size pm_House_size cd_House_size ct_House_size oc_House_meaning kV_House_meaning dc_House_meaning pm_House_meaning cd_House_meaning ct_House_meaning oc_House_relation_of kV_House_relation_of dc_House_relation_of pm_House_relation_of cd_House_relation_of ct_House_relation_of oc_House_related kV_House_related dc_House_related pm_House_related cd_House_related ct_House_related oc_House_count kV_House_count dc_House_count pm_House_count cd_House_count ct_House_count oc_House_kept kV_House_kept dc_House_kept pm_House_kept cd_House_kept ct_House_kept oc_answers kV_answers dc_answers pm_answers cd_answers ct_answers oc_answer_or_refusal kV_answer_or_refusal dc_answer_or_refusal pm_answer_or_refusal cd_answer_or_refusal ct_answer_or_refusal oc_answer_call kV_answer_call dc_answer_call pm_answer_call cd_answer_call ct_answer_call : Value} {tk_VARIABLE tk_TWO tk_PAIR tk_EITHER tk_FUNCTION tk_DEEPEST tk_LARGEST tk_VARIABLE_TERM tk_PAIR_TERM tk_FIRST tk_SECOND tk_LEFT tk_RIGHT tk_CASES tk_FUNCTION_TERM tk_PUT tk_YES tk_NO tk_IF tk_DEEPEST_TERM tk_NO_FUNCTION tk_NOT_WANTED tk_NOT_THE_SAME tk_LARGEST_KEPT_SET tk_MOST_PAIRS tk_HEAVIEST_TERM tk_BEGIN tk_SETS tk_RELATE tk_SIZE tk_MEANING tk_RELATED tk_COUNT tk_KEPT tk_SIDES tk_MOST_VARIABLES tk_LARGEST_SET tk_HEAVIEST_KIND tk_LARGEST_COUNTED tk_HEAVIEST_COUNTED dtk0_read_kind ttk0_PART_COUNTS ttk1_PART_COUNTS ttk2_PART_COUNTS ttk3_PART_COUNTS ttk4_PART_COUNTS ttk5_PART_COUNTS ttk6_PART_COUNTS ttk7_PART_COUNTS ttk8_PART_COUNTS ttk9_PART_COUNTS ttk10_PART_COUNTS ttk11_PART_COUNTS : Tok}
    {dn_read_kind tn_PART_COUNTS : Nat}
    {xnm_FaultyTerm xq_FaultyTerm : Str} {xbs_FaultyTerm xsub_FaultyTerm : List Value} {xsn_FaultyTerm : List Str} {xab_FaultyTerm : Bool} {xcol_FaultyTerm : Option Bool} {xdd_FaultyTerm : Option Addr} {xm0_FaultyTerm xm1_FaultyTerm xm2_FaultyTerm xm3_FaultyTerm xm5_FaultyTerm : Option Value}
    (a_Reader : PySem.W.nsIn K mainGlobals "Reader" = some (some (.ref C_Reader)))
    (pg_Reader : PySem.W.plainGet K C_Reader Str.empty = true)
    (hd_Reader : PySem.W.hasDictIn K C_Reader = true)
    (po_Reader : PySem.W.plainOver K C_Reader = true)
    (sa_Reader : PySem.W.findIn K (.ref C_Reader) "__setattr__" = some (some (.builtin "object.__setattr__")))
    (mk_Reader : PySem.W.makesIn K C_Reader = true)
    (kc_Reader : PySem.W.keepIn K (.ref C_Reader) = true)
    (n_Reader_numbers : PySem.W.findIn K (.ref C_Reader) "numbers" = some none)
    (n_Reader_place : PySem.W.findIn K (.ref C_Reader) "place" = some none)
    (a_Part : PySem.W.nsIn K mainGlobals "Part" = some (some (.ref C_Part)))
    (pg_Part : PySem.W.plainGet K C_Part Str.empty = true)
    (hd_Part : PySem.W.hasDictIn K C_Part = true)
    (po_Part : PySem.W.plainOver K C_Part = true)
    (sa_Part : PySem.W.findIn K (.ref C_Part) "__setattr__" = some (some (.builtin "object.__setattr__")))
    (mk_Part : PySem.W.makesIn K C_Part = true)
    (kc_Part : PySem.W.keepIn K (.ref C_Part) = true)
    (n_Part_head : PySem.W.findIn K (.ref C_Part) "head" = some none)
    (n_Part_number : PySem.W.findIn K (.ref C_Part) "number" = some none)
    (n_Part_told : PySem.W.findIn K (.ref C_Part) "told" = some none)
    (n_Part_parts : PySem.W.findIn K (.ref C_Part) "parts" = some none)
    (n_Part_kind : PySem.W.findIn K (.ref C_Part) "kind" = some none)
    (n_Part_extent : PySem.W.findIn K (.ref C_Part) "extent" = some none)
    (n_Part_weight : PySem.W.findIn K (.ref C_Part) "weight" = some none)
    (a_House : PySem.W.nsIn K mainGlobals "House" = some (some (.ref C_House)))
    (pg_House : PySem.W.plainGet K C_House Str.empty = true)
    (hd_House : PySem.W.hasDictIn K C_House = true)
    (po_House : PySem.W.plainOver K C_House = true)
    (sa_House : PySem.W.findIn K (.ref C_House) "__setattr__" = some (some (.builtin "object.__setattr__")))
    (mk_House : PySem.W.makesIn K C_House = true)
    (kc_House : PySem.W.keepIn K (.ref C_House) = true)
    (n_House_set_sizes : PySem.W.findIn K (.ref C_House) "set_sizes" = some none)
    (n_House_told_relations : PySem.W.findIn K (.ref C_House) "told_relations" = some none)
    (a_Unfit : PySem.W.nsIn K mainGlobals "Unfit" = some (some (.ref C_Unfit)))
    (a_TooManyRelations : PySem.W.nsIn K mainGlobals "TooManyRelations" = some (some (.ref C_TooManyRelations)))
    (a_FaultyTerm : PySem.W.nsIn K mainGlobals "FaultyTerm" = some (some (.ref C_FaultyTerm)))
    (a_TooLarge : PySem.W.nsIn K mainGlobals "TooLarge" = some (some (.ref C_TooLarge)))
    (a_UnknownCall : PySem.W.nsIn K mainGlobals "UnknownCall" = some (some (.ref C_UnknownCall)))
    (x_Unfit : PySem.W.excIn K C_Unfit [.type "Exception", .type "BaseException", .type "object"] "Exception.__new__" = true)
    (k_Unfit : PySem.W.keepIn K (.ref C_Unfit) = true)
    (b_Unfit : PySem.W.subIn K (.ref C_Unfit) (.type "BaseException") = some true)
    (t_Unfit : PySem.W.typeIn K (.ref C_Unfit) = some (.type "type"))
    (i_Unfit : PySem.W.isClsIn K C_Unfit = true)
    (s_Unfit_Unfit : PySem.W.subIn K (.ref C_Unfit) (.ref C_Unfit) = some true)
    (s_Unfit_TooManyRelations : PySem.W.subIn K (.ref C_Unfit) (.ref C_TooManyRelations) = some false)
    (s_Unfit_FaultyTerm : PySem.W.subIn K (.ref C_Unfit) (.ref C_FaultyTerm) = some false)
    (s_Unfit_TooLarge : PySem.W.subIn K (.ref C_Unfit) (.ref C_TooLarge) = some false)
    (s_Unfit_UnknownCall : PySem.W.subIn K (.ref C_Unfit) (.ref C_UnknownCall) = some false)
    (x_TooManyRelations : PySem.W.excIn K C_TooManyRelations [.type "Exception", .type "BaseException", .type "object"] "Exception.__new__" = true)
    (k_TooManyRelations : PySem.W.keepIn K (.ref C_TooManyRelations) = true)
    (b_TooManyRelations : PySem.W.subIn K (.ref C_TooManyRelations) (.type "BaseException") = some true)
    (t_TooManyRelations : PySem.W.typeIn K (.ref C_TooManyRelations) = some (.type "type"))
    (i_TooManyRelations : PySem.W.isClsIn K C_TooManyRelations = true)
    (s_TooManyRelations_Unfit : PySem.W.subIn K (.ref C_TooManyRelations) (.ref C_Unfit) = some false)
    (s_TooManyRelations_TooManyRelations : PySem.W.subIn K (.ref C_TooManyRelations) (.ref C_TooManyRelations) = some true)
    (s_TooManyRelations_FaultyTerm : PySem.W.subIn K (.ref C_TooManyRelations) (.ref C_FaultyTerm) = some false)
    (s_TooManyRelations_TooLarge : PySem.W.subIn K (.ref C_TooManyRelations) (.ref C_TooLarge) = some false)
    (s_TooManyRelations_UnknownCall : PySem.W.subIn K (.ref C_TooManyRelations) (.ref C_UnknownCall) = some false)
    (k_FaultyTerm : PySem.W.keepIn K (.ref C_FaultyTerm) = true)
    (b_FaultyTerm : PySem.W.subIn K (.ref C_FaultyTerm) (.type "BaseException") = some true)
    (t_FaultyTerm : PySem.W.typeIn K (.ref C_FaultyTerm) = some (.type "type"))
    (i_FaultyTerm : PySem.W.isClsIn K C_FaultyTerm = true)
    (s_FaultyTerm_Unfit : PySem.W.subIn K (.ref C_FaultyTerm) (.ref C_Unfit) = some false)
    (s_FaultyTerm_TooManyRelations : PySem.W.subIn K (.ref C_FaultyTerm) (.ref C_TooManyRelations) = some false)
    (s_FaultyTerm_FaultyTerm : PySem.W.subIn K (.ref C_FaultyTerm) (.ref C_FaultyTerm) = some true)
    (s_FaultyTerm_TooLarge : PySem.W.subIn K (.ref C_FaultyTerm) (.ref C_TooLarge) = some false)
    (s_FaultyTerm_UnknownCall : PySem.W.subIn K (.ref C_FaultyTerm) (.ref C_UnknownCall) = some false)
    (x_TooLarge : PySem.W.excIn K C_TooLarge [.type "Exception", .type "BaseException", .type "object"] "Exception.__new__" = true)
    (k_TooLarge : PySem.W.keepIn K (.ref C_TooLarge) = true)
    (b_TooLarge : PySem.W.subIn K (.ref C_TooLarge) (.type "BaseException") = some true)
    (t_TooLarge : PySem.W.typeIn K (.ref C_TooLarge) = some (.type "type"))
    (i_TooLarge : PySem.W.isClsIn K C_TooLarge = true)
    (s_TooLarge_Unfit : PySem.W.subIn K (.ref C_TooLarge) (.ref C_Unfit) = some false)
    (s_TooLarge_TooManyRelations : PySem.W.subIn K (.ref C_TooLarge) (.ref C_TooManyRelations) = some false)
    (s_TooLarge_FaultyTerm : PySem.W.subIn K (.ref C_TooLarge) (.ref C_FaultyTerm) = some false)
    (s_TooLarge_TooLarge : PySem.W.subIn K (.ref C_TooLarge) (.ref C_TooLarge) = some true)
    (s_TooLarge_UnknownCall : PySem.W.subIn K (.ref C_TooLarge) (.ref C_UnknownCall) = some false)
    (x_UnknownCall : PySem.W.excIn K C_UnknownCall [.type "Exception", .type "BaseException", .type "object"] "Exception.__new__" = true)
    (k_UnknownCall : PySem.W.keepIn K (.ref C_UnknownCall) = true)
    (b_UnknownCall : PySem.W.subIn K (.ref C_UnknownCall) (.type "BaseException") = some true)
    (t_UnknownCall : PySem.W.typeIn K (.ref C_UnknownCall) = some (.type "type"))
    (i_UnknownCall : PySem.W.isClsIn K C_UnknownCall = true)
    (s_UnknownCall_Unfit : PySem.W.subIn K (.ref C_UnknownCall) (.ref C_Unfit) = some false)
    (s_UnknownCall_TooManyRelations : PySem.W.subIn K (.ref C_UnknownCall) (.ref C_TooManyRelations) = some false)
    (s_UnknownCall_FaultyTerm : PySem.W.subIn K (.ref C_UnknownCall) (.ref C_FaultyTerm) = some false)
    (s_UnknownCall_TooLarge : PySem.W.subIn K (.ref C_UnknownCall) (.ref C_TooLarge) = some false)
    (s_UnknownCall_UnknownCall : PySem.W.subIn K (.ref C_UnknownCall) (.ref C_UnknownCall) = some true)
    (xL_FaultyTerm : K.lookup C_FaultyTerm = some (excClassObj xnm_FaultyTerm xq_FaultyTerm C_FaultyTerm xN_FaultyTerm xbs_FaultyTerm [.type "Exception", .type "BaseException", .type "object"] true xsn_FaultyTerm xsub_FaultyTerm xab_FaultyTerm xcol_FaultyTerm xdd_FaultyTerm xm0_FaultyTerm xm1_FaultyTerm xm2_FaultyTerm xm3_FaultyTerm xm5_FaultyTerm "Exception.__new__"))
    (xsa_FaultyTerm : PySem.W.findIn K (.ref C_FaultyTerm) "__setattr__" = some (some (.builtin "object.__setattr__")))
    (xga_FaultyTerm : PySem.W.findIn K (.ref C_FaultyTerm) "__getattribute__" = some (some (.builtin "BaseException.__getattribute__")))
    (xgg_FaultyTerm : PySem.W.findIn K (.ref C_FaultyTerm) "__getattr__" = some none)
    (xn0_FaultyTerm : PySem.W.findIn K (.ref C_FaultyTerm) "part_number" = some none)
    (xn1_FaultyTerm : PySem.W.findIn K (.ref C_FaultyTerm) "fault" = some none)
    (xi_FaultyTerm : PySem.W.findIn K (.ref C_FaultyTerm) "__init__" = some (some (.ref I_FaultyTerm)))
    (xt_FaultyTerm : PySem.W.typeIn K (.ref I_FaultyTerm) = some (.type "function"))
    (xh_FaultyTerm : PySem.W.hasDictIn K C_FaultyTerm = true)
    (xl_FaultyTerm : K.lookup I_FaultyTerm = some ⟨xoc_FaultyTerm, xod_FaultyTerm, .func (PySem.W.fnOf "__init__" "FaultyTerm.__init__" (FT.ftA ⟨8, 17, 8, 21⟩ ⟨8, 23, 8, 34⟩ ⟨8, 36, 8, 41⟩) (FT.ftB ⟨9, 8, 9, 12⟩ ⟨9, 8, 9, 24⟩ ⟨9, 27, 9, 38⟩ ⟨9, 8, 9, 38⟩ ⟨10, 8, 10, 12⟩ ⟨10, 8, 10, 18⟩ ⟨10, 21, 10, 26⟩ ⟨10, 8, 10, 26⟩) FT.ftS .none xkV_FaultyTerm xdc_FaultyTerm xpm_FaultyTerm xan_FaultyTerm xcd_FaultyTerm xct_FaultyTerm), xsl_FaultyTerm⟩)
    (xc_FaultyTerm : PySem.W.codeIn K xcd_FaultyTerm "FaultyTerm.__init__" = true)
    (a_Reader_init : PySem.W.findIn K (.ref C_Reader) "__init__" = some (some (.ref f_Reader_init)))
    (i_Reader_init : PySem.W.isFn K (.ref f_Reader_init) = true)
    (l_Reader_init : K.lookup f_Reader_init = some ⟨oc_Reader_init, od_Reader_init, .func (PySem.W.fnOf "__init__" "Reader.__init__" (defArgs s_Reader_init) (defBody s_Reader_init) (defScope s_Reader_init) .none kV_Reader_init dc_Reader_init pm_Reader_init an_Reader_init cd_Reader_init ct_Reader_init), sl_Reader_init⟩)
    (c_Reader_init : PySem.W.codeIn K cd_Reader_init "Reader.__init__" = true)
    (k_Reader_init : PySem.W.keepIn K (.ref f_Reader_init) = true)
    (a_Reader_at_end : PySem.W.findIn K (.ref C_Reader) "at_end" = some (some (.ref f_Reader_at_end)))
    (i_Reader_at_end : PySem.W.isFn K (.ref f_Reader_at_end) = true)
    (l_Reader_at_end : K.lookup f_Reader_at_end = some ⟨oc_Reader_at_end, od_Reader_at_end, .func (PySem.W.fnOf "at_end" "Reader.at_end" (defArgs s_Reader_at_end) (defBody s_Reader_at_end) (defScope s_Reader_at_end) .none kV_Reader_at_end dc_Reader_at_end pm_Reader_at_end an_Reader_at_end cd_Reader_at_end ct_Reader_at_end), sl_Reader_at_end⟩)
    (c_Reader_at_end : PySem.W.codeIn K cd_Reader_at_end "Reader.at_end" = true)
    (k_Reader_at_end : PySem.W.keepIn K (.ref f_Reader_at_end) = true)
    (a_Reader_take : PySem.W.findIn K (.ref C_Reader) "take" = some (some (.ref f_Reader_take)))
    (i_Reader_take : PySem.W.isFn K (.ref f_Reader_take) = true)
    (l_Reader_take : K.lookup f_Reader_take = some ⟨oc_Reader_take, od_Reader_take, .func (PySem.W.fnOf "take" "Reader.take" (defArgs s_Reader_take) (defBody s_Reader_take) (defScope s_Reader_take) .none kV_Reader_take dc_Reader_take pm_Reader_take an_Reader_take cd_Reader_take ct_Reader_take), sl_Reader_take⟩)
    (c_Reader_take : PySem.W.codeIn K cd_Reader_take "Reader.take" = true)
    (k_Reader_take : PySem.W.keepIn K (.ref f_Reader_take) = true)
    (a_Reader_take_row : PySem.W.findIn K (.ref C_Reader) "take_row" = some (some (.ref f_Reader_take_row)))
    (i_Reader_take_row : PySem.W.isFn K (.ref f_Reader_take_row) = true)
    (l_Reader_take_row : K.lookup f_Reader_take_row = some ⟨oc_Reader_take_row, od_Reader_take_row, .func (PySem.W.fnOf "take_row" "Reader.take_row" (defArgs s_Reader_take_row) (defBody s_Reader_take_row) (defScope s_Reader_take_row) .none kV_Reader_take_row dc_Reader_take_row pm_Reader_take_row an_Reader_take_row cd_Reader_take_row ct_Reader_take_row), sl_Reader_take_row⟩)
    (c_Reader_take_row : PySem.W.codeIn K cd_Reader_take_row "Reader.take_row" = true)
    (k_Reader_take_row : PySem.W.keepIn K (.ref f_Reader_take_row) = true)
    (a_read_kind : PySem.W.nsIn K mainGlobals "read_kind" = some (some (.ref f_read_kind)))
    (l_read_kind : K.lookup f_read_kind = some ⟨oc_read_kind, od_read_kind, .func (PySem.W.fnOf "read_kind" "read_kind" (defArgs s_read_kind) (defBody s_read_kind) (defScope s_read_kind) (.ref dt_read_kind) kV_read_kind dc_read_kind pm_read_kind an_read_kind cd_read_kind ct_read_kind), sl_read_kind⟩)
    (ld_read_kind : K.lookup dt_read_kind = some ⟨doc_read_kind, dod_read_kind, .seq #[.int 1 dtk0_read_kind] dn_read_kind, dsl_read_kind⟩)
    (c_read_kind : PySem.W.codeIn K cd_read_kind "read_kind" = true)
    (k_read_kind : PySem.W.keepIn K (.ref f_read_kind) = true)
    (a_read_variable : PySem.W.nsIn K mainGlobals "read_variable" = some (some (.ref f_read_variable)))
    (l_read_variable : K.lookup f_read_variable = some ⟨oc_read_variable, od_read_variable, .func (PySem.W.fnOf "read_variable" "read_variable" (defArgs s_read_variable) (defBody s_read_variable) (defScope s_read_variable) .none kV_read_variable dc_read_variable pm_read_variable an_read_variable cd_read_variable ct_read_variable), sl_read_variable⟩)
    (c_read_variable : PySem.W.codeIn K cd_read_variable "read_variable" = true)
    (k_read_variable : PySem.W.keepIn K (.ref f_read_variable) = true)
    (a_read_kind_row : PySem.W.nsIn K mainGlobals "read_kind_row" = some (some (.ref f_read_kind_row)))
    (l_read_kind_row : K.lookup f_read_kind_row = some ⟨oc_read_kind_row, od_read_kind_row, .func (PySem.W.fnOf "read_kind_row" "read_kind_row" (defArgs s_read_kind_row) (defBody s_read_kind_row) (defScope s_read_kind_row) .none kV_read_kind_row dc_read_kind_row pm_read_kind_row an_read_kind_row cd_read_kind_row ct_read_kind_row), sl_read_kind_row⟩)
    (c_read_kind_row : PySem.W.codeIn K cd_read_kind_row "read_kind_row" = true)
    (k_read_kind_row : PySem.W.keepIn K (.ref f_read_kind_row) = true)
    (a_kind_row : PySem.W.nsIn K mainGlobals "kind_row" = some (some (.ref f_kind_row)))
    (l_kind_row : K.lookup f_kind_row = some ⟨oc_kind_row, od_kind_row, .func (PySem.W.fnOf "kind_row" "kind_row" (defArgs s_kind_row) (defBody s_kind_row) (defScope s_kind_row) .none kV_kind_row dc_kind_row pm_kind_row an_kind_row cd_kind_row ct_kind_row), sl_kind_row⟩)
    (c_kind_row : PySem.W.codeIn K cd_kind_row "kind_row" = true)
    (k_kind_row : PySem.W.keepIn K (.ref f_kind_row) = true)
    (a_kind_size : PySem.W.nsIn K mainGlobals "kind_size" = some (some (.ref f_kind_size)))
    (l_kind_size : K.lookup f_kind_size = some ⟨oc_kind_size, od_kind_size, .func (PySem.W.fnOf "kind_size" "kind_size" (defArgs s_kind_size) (defBody s_kind_size) (defScope s_kind_size) .none kV_kind_size dc_kind_size pm_kind_size an_kind_size cd_kind_size ct_kind_size), sl_kind_size⟩)
    (c_kind_size : PySem.W.codeIn K cd_kind_size "kind_size" = true)
    (k_kind_size : PySem.W.keepIn K (.ref f_kind_size) = true)
    (a_joined_size : PySem.W.nsIn K mainGlobals "joined_size" = some (some (.ref f_joined_size)))
    (l_joined_size : K.lookup f_joined_size = some ⟨oc_joined_size, od_joined_size, .func (PySem.W.fnOf "joined_size" "joined_size" (defArgs s_joined_size) (defBody s_joined_size) (defScope s_joined_size) .none kV_joined_size dc_joined_size pm_joined_size an_joined_size cd_joined_size ct_joined_size), sl_joined_size⟩)
    (c_joined_size : PySem.W.codeIn K cd_joined_size "joined_size" = true)
    (k_joined_size : PySem.W.keepIn K (.ref f_joined_size) = true)
    (a_functions_size : PySem.W.nsIn K mainGlobals "functions_size" = some (some (.ref f_functions_size)))
    (l_functions_size : K.lookup f_functions_size = some ⟨oc_functions_size, od_functions_size, .func (PySem.W.fnOf "functions_size" "functions_size" (defArgs s_functions_size) (defBody s_functions_size) (defScope s_functions_size) .none kV_functions_size dc_functions_size pm_functions_size an_functions_size cd_functions_size ct_functions_size), sl_functions_size⟩)
    (c_functions_size : PySem.W.codeIn K cd_functions_size "functions_size" = true)
    (k_functions_size : PySem.W.keepIn K (.ref f_functions_size) = true)
    (a_Part_init : PySem.W.findIn K (.ref C_Part) "__init__" = some (some (.ref f_Part_init)))
    (i_Part_init : PySem.W.isFn K (.ref f_Part_init) = true)
    (l_Part_init : K.lookup f_Part_init = some ⟨oc_Part_init, od_Part_init, .func (PySem.W.fnOf "__init__" "Part.__init__" (defArgs s_Part_init) (defBody s_Part_init) (defScope s_Part_init) .none kV_Part_init dc_Part_init pm_Part_init an_Part_init cd_Part_init ct_Part_init), sl_Part_init⟩)
    (c_Part_init : PySem.W.codeIn K cd_Part_init "Part.__init__" = true)
    (k_Part_init : PySem.W.keepIn K (.ref f_Part_init) = true)
    (a_read_term_row : PySem.W.nsIn K mainGlobals "read_term_row" = some (some (.ref f_read_term_row)))
    (l_read_term_row : K.lookup f_read_term_row = some ⟨oc_read_term_row, od_read_term_row, .func (PySem.W.fnOf "read_term_row" "read_term_row" (defArgs s_read_term_row) (defBody s_read_term_row) (defScope s_read_term_row) .none kV_read_term_row dc_read_term_row pm_read_term_row an_read_term_row cd_read_term_row ct_read_term_row), sl_read_term_row⟩)
    (c_read_term_row : PySem.W.codeIn K cd_read_term_row "read_term_row" = true)
    (k_read_term_row : PySem.W.keepIn K (.ref f_read_term_row) = true)
    (a_read_term : PySem.W.nsIn K mainGlobals "read_term" = some (some (.ref f_read_term)))
    (l_read_term : K.lookup f_read_term = some ⟨oc_read_term, od_read_term, .func (PySem.W.fnOf "read_term" "read_term" (defArgs s_read_term) (defBody s_read_term) (defScope s_read_term) .none kV_read_term dc_read_term pm_read_term an_read_term cd_read_term ct_read_term), sl_read_term⟩)
    (c_read_term : PySem.W.codeIn K cd_read_term "read_term" = true)
    (k_read_term : PySem.W.keepIn K (.ref f_read_term) = true)
    (a_read_told : PySem.W.nsIn K mainGlobals "read_told" = some (some (.ref f_read_told)))
    (l_read_told : K.lookup f_read_told = some ⟨oc_read_told, od_read_told, .func (PySem.W.fnOf "read_told" "read_told" (defArgs s_read_told) (defBody s_read_told) (defScope s_read_told) .none kV_read_told dc_read_told pm_read_told an_read_told cd_read_told ct_read_told), sl_read_told⟩)
    (c_read_told : PySem.W.codeIn K cd_read_told "read_told" = true)
    (k_read_told : PySem.W.keepIn K (.ref f_read_told) = true)
    (a_give_kinds : PySem.W.nsIn K mainGlobals "give_kinds" = some (some (.ref f_give_kinds)))
    (l_give_kinds : K.lookup f_give_kinds = some ⟨oc_give_kinds, od_give_kinds, .func (PySem.W.fnOf "give_kinds" "give_kinds" (defArgs s_give_kinds) (defBody s_give_kinds) (defScope s_give_kinds) .none kV_give_kinds dc_give_kinds pm_give_kinds an_give_kinds cd_give_kinds ct_give_kinds), sl_give_kinds⟩)
    (c_give_kinds : PySem.W.codeIn K cd_give_kinds "give_kinds" = true)
    (k_give_kinds : PySem.W.keepIn K (.ref f_give_kinds) = true)
    (a_found_kind : PySem.W.nsIn K mainGlobals "found_kind" = some (some (.ref f_found_kind)))
    (l_found_kind : K.lookup f_found_kind = some ⟨oc_found_kind, od_found_kind, .func (PySem.W.fnOf "found_kind" "found_kind" (defArgs s_found_kind) (defBody s_found_kind) (defScope s_found_kind) .none kV_found_kind dc_found_kind pm_found_kind an_found_kind cd_found_kind ct_found_kind), sl_found_kind⟩)
    (c_found_kind : PySem.W.codeIn K cd_found_kind "found_kind" = true)
    (k_found_kind : PySem.W.keepIn K (.ref f_found_kind) = true)
    (a_variable_kind : PySem.W.nsIn K mainGlobals "variable_kind" = some (some (.ref f_variable_kind)))
    (l_variable_kind : K.lookup f_variable_kind = some ⟨oc_variable_kind, od_variable_kind, .func (PySem.W.fnOf "variable_kind" "variable_kind" (defArgs s_variable_kind) (defBody s_variable_kind) (defScope s_variable_kind) .none kV_variable_kind dc_variable_kind pm_variable_kind an_variable_kind cd_variable_kind ct_variable_kind), sl_variable_kind⟩)
    (c_variable_kind : PySem.W.codeIn K cd_variable_kind "variable_kind" = true)
    (k_variable_kind : PySem.W.keepIn K (.ref f_variable_kind) = true)
    (a_cases_kind : PySem.W.nsIn K mainGlobals "cases_kind" = some (some (.ref f_cases_kind)))
    (l_cases_kind : K.lookup f_cases_kind = some ⟨oc_cases_kind, od_cases_kind, .func (PySem.W.fnOf "cases_kind" "cases_kind" (defArgs s_cases_kind) (defBody s_cases_kind) (defScope s_cases_kind) .none kV_cases_kind dc_cases_kind pm_cases_kind an_cases_kind cd_cases_kind ct_cases_kind), sl_cases_kind⟩)
    (c_cases_kind : PySem.W.codeIn K cd_cases_kind "cases_kind" = true)
    (k_cases_kind : PySem.W.keepIn K (.ref f_cases_kind) = true)
    (a_put_kind : PySem.W.nsIn K mainGlobals "put_kind" = some (some (.ref f_put_kind)))
    (l_put_kind : K.lookup f_put_kind = some ⟨oc_put_kind, od_put_kind, .func (PySem.W.fnOf "put_kind" "put_kind" (defArgs s_put_kind) (defBody s_put_kind) (defScope s_put_kind) .none kV_put_kind dc_put_kind pm_put_kind an_put_kind cd_put_kind ct_put_kind), sl_put_kind⟩)
    (c_put_kind : PySem.W.codeIn K cd_put_kind "put_kind" = true)
    (k_put_kind : PySem.W.keepIn K (.ref f_put_kind) = true)
    (a_if_kind : PySem.W.nsIn K mainGlobals "if_kind" = some (some (.ref f_if_kind)))
    (l_if_kind : K.lookup f_if_kind = some ⟨oc_if_kind, od_if_kind, .func (PySem.W.fnOf "if_kind" "if_kind" (defArgs s_if_kind) (defBody s_if_kind) (defScope s_if_kind) .none kV_if_kind dc_if_kind pm_if_kind an_if_kind cd_if_kind ct_if_kind), sl_if_kind⟩)
    (c_if_kind : PySem.W.codeIn K cd_if_kind "if_kind" = true)
    (k_if_kind : PySem.W.keepIn K (.ref f_if_kind) = true)
    (a_want : PySem.W.nsIn K mainGlobals "want" = some (some (.ref f_want)))
    (l_want : K.lookup f_want = some ⟨oc_want, od_want, .func (PySem.W.fnOf "want" "want" (defArgs s_want) (defBody s_want) (defScope s_want) .none kV_want dc_want pm_want an_want cd_want ct_want), sl_want⟩)
    (c_want : PySem.W.codeIn K cd_want "want" = true)
    (k_want : PySem.W.keepIn K (.ref f_want) = true)
    (a_want_same : PySem.W.nsIn K mainGlobals "want_same" = some (some (.ref f_want_same)))
    (l_want_same : K.lookup f_want_same = some ⟨oc_want_same, od_want_same, .func (PySem.W.fnOf "want_same" "want_same" (defArgs s_want_same) (defBody s_want_same) (defScope s_want_same) .none kV_want_same dc_want_same pm_want_same an_want_same cd_want_same ct_want_same), sl_want_same⟩)
    (c_want_same : PySem.W.codeIn K cd_want_same "want_same" = true)
    (k_want_same : PySem.W.keepIn K (.ref f_want_same) = true)
    (a_refuse_too_large : PySem.W.nsIn K mainGlobals "refuse_too_large" = some (some (.ref f_refuse_too_large)))
    (l_refuse_too_large : K.lookup f_refuse_too_large = some ⟨oc_refuse_too_large, od_refuse_too_large, .func (PySem.W.fnOf "refuse_too_large" "refuse_too_large" (defArgs s_refuse_too_large) (defBody s_refuse_too_large) (defScope s_refuse_too_large) .none kV_refuse_too_large dc_refuse_too_large pm_refuse_too_large an_refuse_too_large cd_refuse_too_large ct_refuse_too_large), sl_refuse_too_large⟩)
    (c_refuse_too_large : PySem.W.codeIn K cd_refuse_too_large "refuse_too_large" = true)
    (k_refuse_too_large : PySem.W.keepIn K (.ref f_refuse_too_large) = true)
    (a_kind_weight : PySem.W.nsIn K mainGlobals "kind_weight" = some (some (.ref f_kind_weight)))
    (l_kind_weight : K.lookup f_kind_weight = some ⟨oc_kind_weight, od_kind_weight, .func (PySem.W.fnOf "kind_weight" "kind_weight" (defArgs s_kind_weight) (defBody s_kind_weight) (defScope s_kind_weight) .none kV_kind_weight dc_kind_weight pm_kind_weight an_kind_weight cd_kind_weight ct_kind_weight), sl_kind_weight⟩)
    (c_kind_weight : PySem.W.codeIn K cd_kind_weight "kind_weight" = true)
    (k_kind_weight : PySem.W.keepIn K (.ref f_kind_weight) = true)
    (a_kind_relation : PySem.W.nsIn K mainGlobals "kind_relation" = some (some (.ref f_kind_relation)))
    (l_kind_relation : K.lookup f_kind_relation = some ⟨oc_kind_relation, od_kind_relation, .func (PySem.W.fnOf "kind_relation" "kind_relation" (defArgs s_kind_relation) (defBody s_kind_relation) (defScope s_kind_relation) .none kV_kind_relation dc_kind_relation pm_kind_relation an_kind_relation cd_kind_relation ct_kind_relation), sl_kind_relation⟩)
    (c_kind_relation : PySem.W.codeIn K cd_kind_relation "kind_relation" = true)
    (k_kind_relation : PySem.W.keepIn K (.ref f_kind_relation) = true)
    (a_pair_relation : PySem.W.nsIn K mainGlobals "pair_relation" = some (some (.ref f_pair_relation)))
    (l_pair_relation : K.lookup f_pair_relation = some ⟨oc_pair_relation, od_pair_relation, .func (PySem.W.fnOf "pair_relation" "pair_relation" (defArgs s_pair_relation) (defBody s_pair_relation) (defScope s_pair_relation) .none kV_pair_relation dc_pair_relation pm_pair_relation an_pair_relation cd_pair_relation ct_pair_relation), sl_pair_relation⟩)
    (c_pair_relation : PySem.W.codeIn K cd_pair_relation "pair_relation" = true)
    (k_pair_relation : PySem.W.keepIn K (.ref f_pair_relation) = true)
    (a_function_relation : PySem.W.nsIn K mainGlobals "function_relation" = some (some (.ref f_function_relation)))
    (l_function_relation : K.lookup f_function_relation = some ⟨oc_function_relation, od_function_relation, .func (PySem.W.fnOf "function_relation" "function_relation" (defArgs s_function_relation) (defBody s_function_relation) (defScope s_function_relation) .none kV_function_relation dc_function_relation pm_function_relation an_function_relation cd_function_relation ct_function_relation), sl_function_relation⟩)
    (c_function_relation : PySem.W.codeIn K cd_function_relation "function_relation" = true)
    (k_function_relation : PySem.W.keepIn K (.ref f_function_relation) = true)
    (a_allowed_marks : PySem.W.nsIn K mainGlobals "allowed_marks" = some (some (.ref f_allowed_marks)))
    (l_allowed_marks : K.lookup f_allowed_marks = some ⟨oc_allowed_marks, od_allowed_marks, .func (PySem.W.fnOf "allowed_marks" "allowed_marks" (defArgs s_allowed_marks) (defBody s_allowed_marks) (defScope s_allowed_marks) .none kV_allowed_marks dc_allowed_marks pm_allowed_marks an_allowed_marks cd_allowed_marks ct_allowed_marks), sl_allowed_marks⟩)
    (c_allowed_marks : PySem.W.codeIn K cd_allowed_marks "allowed_marks" = true)
    (k_allowed_marks : PySem.W.keepIn K (.ref f_allowed_marks) = true)
    (a_functions_within : PySem.W.nsIn K mainGlobals "functions_within" = some (some (.ref f_functions_within)))
    (l_functions_within : K.lookup f_functions_within = some ⟨oc_functions_within, od_functions_within, .func (PySem.W.fnOf "functions_within" "functions_within" (defArgs s_functions_within) (defBody s_functions_within) (defScope s_functions_within) .none kV_functions_within dc_functions_within pm_functions_within an_functions_within cd_functions_within ct_functions_within), sl_functions_within⟩)
    (c_functions_within : PySem.W.codeIn K cd_functions_within "functions_within" = true)
    (k_functions_within : PySem.W.keepIn K (.ref f_functions_within) = true)
    (a_spread : PySem.W.nsIn K mainGlobals "spread" = some (some (.ref f_spread)))
    (l_spread : K.lookup f_spread = some ⟨oc_spread, od_spread, .func (PySem.W.fnOf "spread" "spread" (defArgs s_spread) (defBody s_spread) (defScope s_spread) .none kV_spread dc_spread pm_spread an_spread cd_spread ct_spread), sl_spread⟩)
    (c_spread : PySem.W.codeIn K cd_spread "spread" = true)
    (k_spread : PySem.W.keepIn K (.ref f_spread) = true)
    (a_places : PySem.W.nsIn K mainGlobals "places" = some (some (.ref f_places)))
    (l_places : K.lookup f_places = some ⟨oc_places, od_places, .func (PySem.W.fnOf "places" "places" (defArgs s_places) (defBody s_places) (defScope s_places) .none kV_places dc_places pm_places an_places cd_places ct_places), sl_places⟩)
    (c_places : PySem.W.codeIn K cd_places "places" = true)
    (k_places : PySem.W.keepIn K (.ref f_places) = true)
    (a_is_marked : PySem.W.nsIn K mainGlobals "is_marked" = some (some (.ref f_is_marked)))
    (l_is_marked : K.lookup f_is_marked = some ⟨oc_is_marked, od_is_marked, .func (PySem.W.fnOf "is_marked" "is_marked" (defArgs s_is_marked) (defBody s_is_marked) (defScope s_is_marked) .none kV_is_marked dc_is_marked pm_is_marked an_is_marked cd_is_marked ct_is_marked), sl_is_marked⟩)
    (c_is_marked : PySem.W.codeIn K cd_is_marked "is_marked" = true)
    (k_is_marked : PySem.W.keepIn K (.ref f_is_marked) = true)
    (a_refuse_too_many : PySem.W.nsIn K mainGlobals "refuse_too_many" = some (some (.ref f_refuse_too_many)))
    (l_refuse_too_many : K.lookup f_refuse_too_many = some ⟨oc_refuse_too_many, od_refuse_too_many, .func (PySem.W.fnOf "refuse_too_many" "refuse_too_many" (defArgs s_refuse_too_many) (defBody s_refuse_too_many) (defScope s_refuse_too_many) .none kV_refuse_too_many dc_refuse_too_many pm_refuse_too_many an_refuse_too_many cd_refuse_too_many ct_refuse_too_many), sl_refuse_too_many⟩)
    (c_refuse_too_many : PySem.W.codeIn K cd_refuse_too_many "refuse_too_many" = true)
    (k_refuse_too_many : PySem.W.keepIn K (.ref f_refuse_too_many) = true)
    (a_pairs_of_all : PySem.W.nsIn K mainGlobals "pairs_of_all" = some (some (.ref f_pairs_of_all)))
    (l_pairs_of_all : K.lookup f_pairs_of_all = some ⟨oc_pairs_of_all, od_pairs_of_all, .func (PySem.W.fnOf "pairs_of_all" "pairs_of_all" (defArgs s_pairs_of_all) (defBody s_pairs_of_all) (defScope s_pairs_of_all) .none kV_pairs_of_all dc_pairs_of_all pm_pairs_of_all an_pairs_of_all cd_pairs_of_all ct_pairs_of_all), sl_pairs_of_all⟩)
    (c_pairs_of_all : PySem.W.codeIn K cd_pairs_of_all "pairs_of_all" = true)
    (k_pairs_of_all : PySem.W.keepIn K (.ref f_pairs_of_all) = true)
    (a_kept_values : PySem.W.nsIn K mainGlobals "kept_values" = some (some (.ref f_kept_values)))
    (l_kept_values : K.lookup f_kept_values = some ⟨oc_kept_values, od_kept_values, .func (PySem.W.fnOf "kept_values" "kept_values" (defArgs s_kept_values) (defBody s_kept_values) (defScope s_kept_values) .none kV_kept_values dc_kept_values pm_kept_values an_kept_values cd_kept_values ct_kept_values), sl_kept_values⟩)
    (c_kept_values : PySem.W.codeIn K cd_kept_values "kept_values" = true)
    (k_kept_values : PySem.W.keepIn K (.ref f_kept_values) = true)
    (a_chosen_relations : PySem.W.nsIn K mainGlobals "chosen_relations" = some (some (.ref f_chosen_relations)))
    (l_chosen_relations : K.lookup f_chosen_relations = some ⟨oc_chosen_relations, od_chosen_relations, .func (PySem.W.fnOf "chosen_relations" "chosen_relations" (defArgs s_chosen_relations) (defBody s_chosen_relations) (defScope s_chosen_relations) .none kV_chosen_relations dc_chosen_relations pm_chosen_relations an_chosen_relations cd_chosen_relations ct_chosen_relations), sl_chosen_relations⟩)
    (c_chosen_relations : PySem.W.codeIn K cd_chosen_relations "chosen_relations" = true)
    (k_chosen_relations : PySem.W.keepIn K (.ref f_chosen_relations) = true)
    (a_term_meaning : PySem.W.nsIn K mainGlobals "term_meaning" = some (some (.ref f_term_meaning)))
    (l_term_meaning : K.lookup f_term_meaning = some ⟨oc_term_meaning, od_term_meaning, .func (PySem.W.fnOf "term_meaning" "term_meaning" (defArgs s_term_meaning) (defBody s_term_meaning) (defScope s_term_meaning) .none kV_term_meaning dc_term_meaning pm_term_meaning an_term_meaning cd_term_meaning ct_term_meaning), sl_term_meaning⟩)
    (c_term_meaning : PySem.W.codeIn K cd_term_meaning "term_meaning" = true)
    (k_term_meaning : PySem.W.keepIn K (.ref f_term_meaning) = true)
    (a_measure_parts : PySem.W.nsIn K mainGlobals "measure_parts" = some (some (.ref f_measure_parts)))
    (l_measure_parts : K.lookup f_measure_parts = some ⟨oc_measure_parts, od_measure_parts, .func (PySem.W.fnOf "measure_parts" "measure_parts" (defArgs s_measure_parts) (defBody s_measure_parts) (defScope s_measure_parts) .none kV_measure_parts dc_measure_parts pm_measure_parts an_measure_parts cd_measure_parts ct_measure_parts), sl_measure_parts⟩)
    (c_measure_parts : PySem.W.codeIn K cd_measure_parts "measure_parts" = true)
    (k_measure_parts : PySem.W.keepIn K (.ref f_measure_parts) = true)
    (a_found_weight : PySem.W.nsIn K mainGlobals "found_weight" = some (some (.ref f_found_weight)))
    (l_found_weight : K.lookup f_found_weight = some ⟨oc_found_weight, od_found_weight, .func (PySem.W.fnOf "found_weight" "found_weight" (defArgs s_found_weight) (defBody s_found_weight) (defScope s_found_weight) .none kV_found_weight dc_found_weight pm_found_weight an_found_weight cd_found_weight ct_found_weight), sl_found_weight⟩)
    (c_found_weight : PySem.W.codeIn K cd_found_weight "found_weight" = true)
    (k_found_weight : PySem.W.keepIn K (.ref f_found_weight) = true)
    (a_part_table : PySem.W.nsIn K mainGlobals "part_table" = some (some (.ref f_part_table)))
    (l_part_table : K.lookup f_part_table = some ⟨oc_part_table, od_part_table, .func (PySem.W.fnOf "part_table" "part_table" (defArgs s_part_table) (defBody s_part_table) (defScope s_part_table) .none kV_part_table dc_part_table pm_part_table an_part_table cd_part_table ct_part_table), sl_part_table⟩)
    (c_part_table : PySem.W.codeIn K cd_part_table "part_table" = true)
    (k_part_table : PySem.W.keepIn K (.ref f_part_table) = true)
    (a_choices : PySem.W.nsIn K mainGlobals "choices" = some (some (.ref f_choices)))
    (l_choices : K.lookup f_choices = some ⟨oc_choices, od_choices, .func (PySem.W.fnOf "choices" "choices" (defArgs s_choices) (defBody s_choices) (defScope s_choices) .none kV_choices dc_choices pm_choices an_choices cd_choices ct_choices), sl_choices⟩)
    (c_choices : PySem.W.codeIn K cd_choices "choices" = true)
    (k_choices : PySem.W.keepIn K (.ref f_choices) = true)
    (a_variable_table : PySem.W.nsIn K mainGlobals "variable_table" = some (some (.ref f_variable_table)))
    (l_variable_table : K.lookup f_variable_table = some ⟨oc_variable_table, od_variable_table, .func (PySem.W.fnOf "variable_table" "variable_table" (defArgs s_variable_table) (defBody s_variable_table) (defScope s_variable_table) .none kV_variable_table dc_variable_table pm_variable_table an_variable_table cd_variable_table ct_variable_table), sl_variable_table⟩)
    (c_variable_table : PySem.W.codeIn K cd_variable_table "variable_table" = true)
    (k_variable_table : PySem.W.keepIn K (.ref f_variable_table) = true)
    (a_function_table : PySem.W.nsIn K mainGlobals "function_table" = some (some (.ref f_function_table)))
    (l_function_table : K.lookup f_function_table = some ⟨oc_function_table, od_function_table, .func (PySem.W.fnOf "function_table" "function_table" (defArgs s_function_table) (defBody s_function_table) (defScope s_function_table) .none kV_function_table dc_function_table pm_function_table an_function_table cd_function_table ct_function_table), sl_function_table⟩)
    (c_function_table : PySem.W.codeIn K cd_function_table "function_table" = true)
    (k_function_table : PySem.W.keepIn K (.ref f_function_table) = true)
    (a_joined_table : PySem.W.nsIn K mainGlobals "joined_table" = some (some (.ref f_joined_table)))
    (l_joined_table : K.lookup f_joined_table = some ⟨oc_joined_table, od_joined_table, .func (PySem.W.fnOf "joined_table" "joined_table" (defArgs s_joined_table) (defBody s_joined_table) (defScope s_joined_table) .none kV_joined_table dc_joined_table pm_joined_table an_joined_table cd_joined_table ct_joined_table), sl_joined_table⟩)
    (c_joined_table : PySem.W.codeIn K cd_joined_table "joined_table" = true)
    (k_joined_table : PySem.W.keepIn K (.ref f_joined_table) = true)
    (a_cases_table : PySem.W.nsIn K mainGlobals "cases_table" = some (some (.ref f_cases_table)))
    (l_cases_table : K.lookup f_cases_table = some ⟨oc_cases_table, od_cases_table, .func (PySem.W.fnOf "cases_table" "cases_table" (defArgs s_cases_table) (defBody s_cases_table) (defScope s_cases_table) .none kV_cases_table dc_cases_table pm_cases_table an_cases_table cd_cases_table ct_cases_table), sl_cases_table⟩)
    (c_cases_table : PySem.W.codeIn K cd_cases_table "cases_table" = true)
    (k_cases_table : PySem.W.keepIn K (.ref f_cases_table) = true)
    (a_put_table : PySem.W.nsIn K mainGlobals "put_table" = some (some (.ref f_put_table)))
    (l_put_table : K.lookup f_put_table = some ⟨oc_put_table, od_put_table, .func (PySem.W.fnOf "put_table" "put_table" (defArgs s_put_table) (defBody s_put_table) (defScope s_put_table) .none kV_put_table dc_put_table pm_put_table an_put_table cd_put_table ct_put_table), sl_put_table⟩)
    (c_put_table : PySem.W.codeIn K cd_put_table "put_table" = true)
    (k_put_table : PySem.W.keepIn K (.ref f_put_table) = true)
    (a_powers_of : PySem.W.nsIn K mainGlobals "powers_of" = some (some (.ref f_powers_of)))
    (l_powers_of : K.lookup f_powers_of = some ⟨oc_powers_of, od_powers_of, .func (PySem.W.fnOf "powers_of" "powers_of" (defArgs s_powers_of) (defBody s_powers_of) (defScope s_powers_of) .none kV_powers_of dc_powers_of pm_powers_of an_powers_of cd_powers_of ct_powers_of), sl_powers_of⟩)
    (c_powers_of : PySem.W.codeIn K cd_powers_of "powers_of" = true)
    (k_powers_of : PySem.W.keepIn K (.ref f_powers_of) = true)
    (a_House_init : PySem.W.findIn K (.ref C_House) "__init__" = some (some (.ref f_House_init)))
    (i_House_init : PySem.W.isFn K (.ref f_House_init) = true)
    (l_House_init : K.lookup f_House_init = some ⟨oc_House_init, od_House_init, .func (PySem.W.fnOf "__init__" "House.__init__" (defArgs s_House_init) (defBody s_House_init) (defScope s_House_init) .none kV_House_init dc_House_init pm_House_init an_House_init cd_House_init ct_House_init), sl_House_init⟩)
    (c_House_init : PySem.W.codeIn K cd_House_init "House.__init__" = true)
    (k_House_init : PySem.W.keepIn K (.ref f_House_init) = true)
    (a_House_begin : PySem.W.findIn K (.ref C_House) "begin" = some (some (.ref f_House_begin)))
    (i_House_begin : PySem.W.isFn K (.ref f_House_begin) = true)
    (l_House_begin : K.lookup f_House_begin = some ⟨oc_House_begin, od_House_begin, .func (PySem.W.fnOf "begin" "House.begin" (defArgs s_House_begin) (defBody s_House_begin) (defScope s_House_begin) .none kV_House_begin dc_House_begin pm_House_begin an_House_begin cd_House_begin ct_House_begin), sl_House_begin⟩)
    (c_House_begin : PySem.W.codeIn K cd_House_begin "House.begin" = true)
    (k_House_begin : PySem.W.keepIn K (.ref f_House_begin) = true)
    (a_House_variables : PySem.W.findIn K (.ref C_House) "variables" = some (some (.ref f_House_variables)))
    (i_House_variables : PySem.W.isFn K (.ref f_House_variables) = true)
    (l_House_variables : K.lookup f_House_variables = some ⟨oc_House_variables, od_House_variables, .func (PySem.W.fnOf "variables" "House.variables" (defArgs s_House_variables) (defBody s_House_variables) (defScope s_House_variables) .none kV_House_variables dc_House_variables pm_House_variables an_House_variables cd_House_variables ct_House_variables), sl_House_variables⟩)
    (c_House_variables : PySem.W.codeIn K cd_House_variables "House.variables" = true)
    (k_House_variables : PySem.W.keepIn K (.ref f_House_variables) = true)
    (a_House_sets : PySem.W.findIn K (.ref C_House) "sets" = some (some (.ref f_House_sets)))
    (i_House_sets : PySem.W.isFn K (.ref f_House_sets) = true)
    (l_House_sets : K.lookup f_House_sets = some ⟨oc_House_sets, od_House_sets, .func (PySem.W.fnOf "sets" "House.sets" (defArgs s_House_sets) (defBody s_House_sets) (defScope s_House_sets) .none kV_House_sets dc_House_sets pm_House_sets an_House_sets cd_House_sets ct_House_sets), sl_House_sets⟩)
    (c_House_sets : PySem.W.codeIn K cd_House_sets "House.sets" = true)
    (k_House_sets : PySem.W.keepIn K (.ref f_House_sets) = true)
    (a_House_relate : PySem.W.findIn K (.ref C_House) "relate" = some (some (.ref f_House_relate)))
    (i_House_relate : PySem.W.isFn K (.ref f_House_relate) = true)
    (l_House_relate : K.lookup f_House_relate = some ⟨oc_House_relate, od_House_relate, .func (PySem.W.fnOf "relate" "House.relate" (defArgs s_House_relate) (defBody s_House_relate) (defScope s_House_relate) .none kV_House_relate dc_House_relate pm_House_relate an_House_relate cd_House_relate ct_House_relate), sl_House_relate⟩)
    (c_House_relate : PySem.W.codeIn K cd_House_relate "House.relate" = true)
    (k_House_relate : PySem.W.keepIn K (.ref f_House_relate) = true)
    (a_House_size : PySem.W.findIn K (.ref C_House) "size" = some (some (.ref f_House_size)))
    (i_House_size : PySem.W.isFn K (.ref f_House_size) = true)
    (l_House_size : K.lookup f_House_size = some ⟨oc_House_size, od_House_size, .func (PySem.W.fnOf "size" "House.size" (defArgs s_House_size) (defBody s_House_size) (defScope s_House_size) .none kV_House_size dc_House_size pm_House_size an_House_size cd_House_size ct_House_size), sl_House_size⟩)
    (c_House_size : PySem.W.codeIn K cd_House_size "House.size" = true)
    (k_House_size : PySem.W.keepIn K (.ref f_House_size) = true)
    (a_House_meaning : PySem.W.findIn K (.ref C_House) "meaning" = some (some (.ref f_House_meaning)))
    (i_House_meaning : PySem.W.isFn K (.ref f_House_meaning) = true)
    (l_House_meaning : K.lookup f_House_meaning = some ⟨oc_House_meaning, od_House_meaning, .func (PySem.W.fnOf "meaning" "House.meaning" (defArgs s_House_meaning) (defBody s_House_meaning) (defScope s_House_meaning) .none kV_House_meaning dc_House_meaning pm_House_meaning an_House_meaning cd_House_meaning ct_House_meaning), sl_House_meaning⟩)
    (c_House_meaning : PySem.W.codeIn K cd_House_meaning "House.meaning" = true)
    (k_House_meaning : PySem.W.keepIn K (.ref f_House_meaning) = true)
    (a_House_relation_of : PySem.W.findIn K (.ref C_House) "relation_of" = some (some (.ref f_House_relation_of)))
    (i_House_relation_of : PySem.W.isFn K (.ref f_House_relation_of) = true)
    (l_House_relation_of : K.lookup f_House_relation_of = some ⟨oc_House_relation_of, od_House_relation_of, .func (PySem.W.fnOf "relation_of" "House.relation_of" (defArgs s_House_relation_of) (defBody s_House_relation_of) (defScope s_House_relation_of) .none kV_House_relation_of dc_House_relation_of pm_House_relation_of an_House_relation_of cd_House_relation_of ct_House_relation_of), sl_House_relation_of⟩)
    (c_House_relation_of : PySem.W.codeIn K cd_House_relation_of "House.relation_of" = true)
    (k_House_relation_of : PySem.W.keepIn K (.ref f_House_relation_of) = true)
    (a_House_related : PySem.W.findIn K (.ref C_House) "related" = some (some (.ref f_House_related)))
    (i_House_related : PySem.W.isFn K (.ref f_House_related) = true)
    (l_House_related : K.lookup f_House_related = some ⟨oc_House_related, od_House_related, .func (PySem.W.fnOf "related" "House.related" (defArgs s_House_related) (defBody s_House_related) (defScope s_House_related) .none kV_House_related dc_House_related pm_House_related an_House_related cd_House_related ct_House_related), sl_House_related⟩)
    (c_House_related : PySem.W.codeIn K cd_House_related "House.related" = true)
    (k_House_related : PySem.W.keepIn K (.ref f_House_related) = true)
    (a_House_count : PySem.W.findIn K (.ref C_House) "count" = some (some (.ref f_House_count)))
    (i_House_count : PySem.W.isFn K (.ref f_House_count) = true)
    (l_House_count : K.lookup f_House_count = some ⟨oc_House_count, od_House_count, .func (PySem.W.fnOf "count" "House.count" (defArgs s_House_count) (defBody s_House_count) (defScope s_House_count) .none kV_House_count dc_House_count pm_House_count an_House_count cd_House_count ct_House_count), sl_House_count⟩)
    (c_House_count : PySem.W.codeIn K cd_House_count "House.count" = true)
    (k_House_count : PySem.W.keepIn K (.ref f_House_count) = true)
    (a_House_kept : PySem.W.findIn K (.ref C_House) "kept" = some (some (.ref f_House_kept)))
    (i_House_kept : PySem.W.isFn K (.ref f_House_kept) = true)
    (l_House_kept : K.lookup f_House_kept = some ⟨oc_House_kept, od_House_kept, .func (PySem.W.fnOf "kept" "House.kept" (defArgs s_House_kept) (defBody s_House_kept) (defScope s_House_kept) .none kV_House_kept dc_House_kept pm_House_kept an_House_kept cd_House_kept ct_House_kept), sl_House_kept⟩)
    (c_House_kept : PySem.W.codeIn K cd_House_kept "House.kept" = true)
    (k_House_kept : PySem.W.keepIn K (.ref f_House_kept) = true)
    (a_answers : PySem.W.nsIn K mainGlobals "answers" = some (some (.ref f_answers)))
    (l_answers : K.lookup f_answers = some ⟨oc_answers, od_answers, .func (PySem.W.fnOf "answers" "answers" (defArgs s_answers) (defBody s_answers) (defScope s_answers) .none kV_answers dc_answers pm_answers an_answers cd_answers ct_answers), sl_answers⟩)
    (c_answers : PySem.W.codeIn K cd_answers "answers" = true)
    (k_answers : PySem.W.keepIn K (.ref f_answers) = true)
    (a_answer_or_refusal : PySem.W.nsIn K mainGlobals "answer_or_refusal" = some (some (.ref f_answer_or_refusal)))
    (l_answer_or_refusal : K.lookup f_answer_or_refusal = some ⟨oc_answer_or_refusal, od_answer_or_refusal, .func (PySem.W.fnOf "answer_or_refusal" "answer_or_refusal" (defArgs s_answer_or_refusal) (defBody s_answer_or_refusal) (defScope s_answer_or_refusal) .none kV_answer_or_refusal dc_answer_or_refusal pm_answer_or_refusal an_answer_or_refusal cd_answer_or_refusal ct_answer_or_refusal), sl_answer_or_refusal⟩)
    (c_answer_or_refusal : PySem.W.codeIn K cd_answer_or_refusal "answer_or_refusal" = true)
    (k_answer_or_refusal : PySem.W.keepIn K (.ref f_answer_or_refusal) = true)
    (a_answer_call : PySem.W.nsIn K mainGlobals "answer_call" = some (some (.ref f_answer_call)))
    (l_answer_call : K.lookup f_answer_call = some ⟨oc_answer_call, od_answer_call, .func (PySem.W.fnOf "answer_call" "answer_call" (defArgs s_answer_call) (defBody s_answer_call) (defScope s_answer_call) .none kV_answer_call dc_answer_call pm_answer_call an_answer_call cd_answer_call ct_answer_call), sl_answer_call⟩)
    (c_answer_call : PySem.W.codeIn K cd_answer_call "answer_call" = true)
    (k_answer_call : PySem.W.keepIn K (.ref f_answer_call) = true)
    (v_VARIABLE : PySem.W.nsIn K mainGlobals "VARIABLE" = some (some (.int 0 tk_VARIABLE)))
    (v_TWO : PySem.W.nsIn K mainGlobals "TWO" = some (some (.int 1 tk_TWO)))
    (v_PAIR : PySem.W.nsIn K mainGlobals "PAIR" = some (some (.int 2 tk_PAIR)))
    (v_EITHER : PySem.W.nsIn K mainGlobals "EITHER" = some (some (.int 3 tk_EITHER)))
    (v_FUNCTION : PySem.W.nsIn K mainGlobals "FUNCTION" = some (some (.int 4 tk_FUNCTION)))
    (v_DEEPEST : PySem.W.nsIn K mainGlobals "DEEPEST" = some (some (.int 6 tk_DEEPEST)))
    (v_LARGEST : PySem.W.nsIn K mainGlobals "LARGEST" = some (some (.int 256 tk_LARGEST)))
    (v_VARIABLE_TERM : PySem.W.nsIn K mainGlobals "VARIABLE_TERM" = some (some (.int 0 tk_VARIABLE_TERM)))
    (v_PAIR_TERM : PySem.W.nsIn K mainGlobals "PAIR_TERM" = some (some (.int 1 tk_PAIR_TERM)))
    (v_FIRST : PySem.W.nsIn K mainGlobals "FIRST" = some (some (.int 2 tk_FIRST)))
    (v_SECOND : PySem.W.nsIn K mainGlobals "SECOND" = some (some (.int 3 tk_SECOND)))
    (v_LEFT : PySem.W.nsIn K mainGlobals "LEFT" = some (some (.int 4 tk_LEFT)))
    (v_RIGHT : PySem.W.nsIn K mainGlobals "RIGHT" = some (some (.int 5 tk_RIGHT)))
    (v_CASES : PySem.W.nsIn K mainGlobals "CASES" = some (some (.int 6 tk_CASES)))
    (v_FUNCTION_TERM : PySem.W.nsIn K mainGlobals "FUNCTION_TERM" = some (some (.int 7 tk_FUNCTION_TERM)))
    (v_PUT : PySem.W.nsIn K mainGlobals "PUT" = some (some (.int 8 tk_PUT)))
    (v_YES : PySem.W.nsIn K mainGlobals "YES" = some (some (.int 9 tk_YES)))
    (v_NO : PySem.W.nsIn K mainGlobals "NO" = some (some (.int 10 tk_NO)))
    (v_IF : PySem.W.nsIn K mainGlobals "IF" = some (some (.int 11 tk_IF)))
    (v_PART_COUNTS : PySem.W.nsIn K mainGlobals "PART_COUNTS" = some (some (.ref t_PART_COUNTS)))
    (lt_PART_COUNTS : K.lookup t_PART_COUNTS = some ⟨.type "tuple", tod_PART_COUNTS, .seq #[.int 0 ttk0_PART_COUNTS, .int 2 ttk1_PART_COUNTS, .int 1 ttk2_PART_COUNTS, .int 1 ttk3_PART_COUNTS, .int 1 ttk4_PART_COUNTS, .int 1 ttk5_PART_COUNTS, .int 3 ttk6_PART_COUNTS, .int 1 ttk7_PART_COUNTS, .int 2 ttk8_PART_COUNTS, .int 0 ttk9_PART_COUNTS, .int 0 ttk10_PART_COUNTS, .int 3 ttk11_PART_COUNTS] tn_PART_COUNTS, tsl_PART_COUNTS⟩)
    (v_DEEPEST_TERM : PySem.W.nsIn K mainGlobals "DEEPEST_TERM" = some (some (.int 20 tk_DEEPEST_TERM)))
    (v_NO_FUNCTION : PySem.W.nsIn K mainGlobals "NO_FUNCTION" = some (some (.int 1 tk_NO_FUNCTION)))
    (v_NOT_WANTED : PySem.W.nsIn K mainGlobals "NOT_WANTED" = some (some (.int 2 tk_NOT_WANTED)))
    (v_NOT_THE_SAME : PySem.W.nsIn K mainGlobals "NOT_THE_SAME" = some (some (.int 3 tk_NOT_THE_SAME)))
    (v_LARGEST_KEPT_SET : PySem.W.nsIn K mainGlobals "LARGEST_KEPT_SET" = some (some (.int 2 tk_LARGEST_KEPT_SET)))
    (v_MOST_PAIRS : PySem.W.nsIn K mainGlobals "MOST_PAIRS" = some (some (.int 8 tk_MOST_PAIRS)))
    (v_HEAVIEST_TERM : PySem.W.nsIn K mainGlobals "HEAVIEST_TERM" = some (some (.int 65536 tk_HEAVIEST_TERM)))
    (v_BEGIN : PySem.W.nsIn K mainGlobals "BEGIN" = some (some (.int 0 tk_BEGIN)))
    (v_SETS : PySem.W.nsIn K mainGlobals "SETS" = some (some (.int 1 tk_SETS)))
    (v_RELATE : PySem.W.nsIn K mainGlobals "RELATE" = some (some (.int 2 tk_RELATE)))
    (v_SIZE : PySem.W.nsIn K mainGlobals "SIZE" = some (some (.int 3 tk_SIZE)))
    (v_MEANING : PySem.W.nsIn K mainGlobals "MEANING" = some (some (.int 4 tk_MEANING)))
    (v_RELATED : PySem.W.nsIn K mainGlobals "RELATED" = some (some (.int 5 tk_RELATED)))
    (v_COUNT : PySem.W.nsIn K mainGlobals "COUNT" = some (some (.int 6 tk_COUNT)))
    (v_KEPT : PySem.W.nsIn K mainGlobals "KEPT" = some (some (.int 7 tk_KEPT)))
    (v_SIDES : PySem.W.nsIn K mainGlobals "SIDES" = some (some (.int 2 tk_SIDES)))
    (v_MOST_VARIABLES : PySem.W.nsIn K mainGlobals "MOST_VARIABLES" = some (some (.int 3 tk_MOST_VARIABLES)))
    (v_LARGEST_SET : PySem.W.nsIn K mainGlobals "LARGEST_SET" = some (some (.int 3 tk_LARGEST_SET)))
    (v_HEAVIEST_KIND : PySem.W.nsIn K mainGlobals "HEAVIEST_KIND" = some (some (.int 1000000 tk_HEAVIEST_KIND)))
    (v_LARGEST_COUNTED : PySem.W.nsIn K mainGlobals "LARGEST_COUNTED" = some (some (.int 32 tk_LARGEST_COUNTED)))
    (v_HEAVIEST_COUNTED : PySem.W.nsIn K mainGlobals "HEAVIEST_COUNTED" = some (some (.int 4096 tk_HEAVIEST_COUNTED)))
    (z_range : PySem.W.nsIn K mainGlobals "range" = some none)
    (z_max : PySem.W.nsIn K mainGlobals "max" = some none)
    (z_sum : PySem.W.nsIn K mainGlobals "sum" = some none)
    (z_list : PySem.W.nsIn K mainGlobals "list" = some none)
    (z_reversed : PySem.W.nsIn K mainGlobals "reversed" = some none)
    (z_len : PySem.W.nsIn K mainGlobals "len" = some none)
    (z_enumerate : PySem.W.nsIn K mainGlobals "enumerate" = some none)
    (z_zip : PySem.W.nsIn K mainGlobals "zip" = some none)
    : ∃ fd : FuncData, (∀ (s : Shared) (us : List Value), us.length = (["calls"] : List Str).length → BindsTo s fd ⟨us, []⟩ ((["calls"] : List Str).zip us)) ∧ ∀ base : Heap, K.In base → base.Ns mainGlobals mg → FnOk P w K mg base CX0 k fa fd ["calls"] sp := by
  have e := hfa.symm.trans (PySem.W.mg_of X G a_answers)
  cases e
  exact ⟨PySem.W.fnOf "answers" "answers" (defArgs s_answers) (defBody s_answers) (defScope s_answers) .none kV_answers dc_answers pm_answers an_answers cd_answers ct_answers, fun s us hu => match us, hu with | [_], _ => .of_eq rfl, fun base h1 h2 => hok (all_mk X G a_Reader pg_Reader hd_Reader po_Reader sa_Reader mk_Reader kc_Reader n_Reader_numbers n_Reader_place a_Part pg_Part hd_Part po_Part sa_Part mk_Part kc_Part n_Part_head n_Part_number n_Part_told n_Part_parts n_Part_kind n_Part_extent n_Part_weight a_House pg_House hd_House po_House sa_House mk_House kc_House n_House_set_sizes n_House_told_relations a_Unfit a_TooManyRelations a_FaultyTerm a_TooLarge a_UnknownCall x_Unfit k_Unfit b_Unfit t_Unfit i_Unfit s_Unfit_Unfit s_Unfit_TooManyRelations s_Unfit_FaultyTerm s_Unfit_TooLarge s_Unfit_UnknownCall x_TooManyRelations k_TooManyRelations b_TooManyRelations t_TooManyRelations i_TooManyRelations s_TooManyRelations_Unfit s_TooManyRelations_TooManyRelations s_TooManyRelations_FaultyTerm s_TooManyRelations_TooLarge s_TooManyRelations_UnknownCall k_FaultyTerm b_FaultyTerm t_FaultyTerm i_FaultyTerm s_FaultyTerm_Unfit s_FaultyTerm_TooManyRelations s_FaultyTerm_FaultyTerm s_FaultyTerm_TooLarge s_FaultyTerm_UnknownCall x_TooLarge k_TooLarge b_TooLarge t_TooLarge i_TooLarge s_TooLarge_Unfit s_TooLarge_TooManyRelations s_TooLarge_FaultyTerm s_TooLarge_TooLarge s_TooLarge_UnknownCall x_UnknownCall k_UnknownCall b_UnknownCall t_UnknownCall i_UnknownCall s_UnknownCall_Unfit s_UnknownCall_TooManyRelations s_UnknownCall_FaultyTerm s_UnknownCall_TooLarge s_UnknownCall_UnknownCall xL_FaultyTerm xsa_FaultyTerm xga_FaultyTerm xgg_FaultyTerm xn0_FaultyTerm xn1_FaultyTerm xi_FaultyTerm xt_FaultyTerm xh_FaultyTerm xl_FaultyTerm xc_FaultyTerm a_Reader_init i_Reader_init l_Reader_init c_Reader_init k_Reader_init a_Reader_at_end i_Reader_at_end l_Reader_at_end c_Reader_at_end k_Reader_at_end a_Reader_take i_Reader_take l_Reader_take c_Reader_take k_Reader_take a_Reader_take_row i_Reader_take_row l_Reader_take_row c_Reader_take_row k_Reader_take_row a_read_kind l_read_kind ld_read_kind c_read_kind k_read_kind a_read_variable l_read_variable c_read_variable k_read_variable a_read_kind_row l_read_kind_row c_read_kind_row k_read_kind_row a_kind_row l_kind_row c_kind_row k_kind_row a_kind_size l_kind_size c_kind_size k_kind_size a_joined_size l_joined_size c_joined_size k_joined_size a_functions_size l_functions_size c_functions_size k_functions_size a_Part_init i_Part_init l_Part_init c_Part_init k_Part_init a_read_term_row l_read_term_row c_read_term_row k_read_term_row a_read_term l_read_term c_read_term k_read_term a_read_told l_read_told c_read_told k_read_told a_give_kinds l_give_kinds c_give_kinds k_give_kinds a_found_kind l_found_kind c_found_kind k_found_kind a_variable_kind l_variable_kind c_variable_kind k_variable_kind a_cases_kind l_cases_kind c_cases_kind k_cases_kind a_put_kind l_put_kind c_put_kind k_put_kind a_if_kind l_if_kind c_if_kind k_if_kind a_want l_want c_want k_want a_want_same l_want_same c_want_same k_want_same a_refuse_too_large l_refuse_too_large c_refuse_too_large k_refuse_too_large a_kind_weight l_kind_weight c_kind_weight k_kind_weight a_kind_relation l_kind_relation c_kind_relation k_kind_relation a_pair_relation l_pair_relation c_pair_relation k_pair_relation a_function_relation l_function_relation c_function_relation k_function_relation a_allowed_marks l_allowed_marks c_allowed_marks k_allowed_marks a_functions_within l_functions_within c_functions_within k_functions_within a_spread l_spread c_spread k_spread a_places l_places c_places k_places a_is_marked l_is_marked c_is_marked k_is_marked a_refuse_too_many l_refuse_too_many c_refuse_too_many k_refuse_too_many a_pairs_of_all l_pairs_of_all c_pairs_of_all k_pairs_of_all a_kept_values l_kept_values c_kept_values k_kept_values a_chosen_relations l_chosen_relations c_chosen_relations k_chosen_relations a_term_meaning l_term_meaning c_term_meaning k_term_meaning a_measure_parts l_measure_parts c_measure_parts k_measure_parts a_found_weight l_found_weight c_found_weight k_found_weight a_part_table l_part_table c_part_table k_part_table a_choices l_choices c_choices k_choices a_variable_table l_variable_table c_variable_table k_variable_table a_function_table l_function_table c_function_table k_function_table a_joined_table l_joined_table c_joined_table k_joined_table a_cases_table l_cases_table c_cases_table k_cases_table a_put_table l_put_table c_put_table k_put_table a_powers_of l_powers_of c_powers_of k_powers_of a_House_init i_House_init l_House_init c_House_init k_House_init a_House_begin i_House_begin l_House_begin c_House_begin k_House_begin a_House_variables i_House_variables l_House_variables c_House_variables k_House_variables a_House_sets i_House_sets l_House_sets c_House_sets k_House_sets a_House_relate i_House_relate l_House_relate c_House_relate k_House_relate a_House_size i_House_size l_House_size c_House_size k_House_size a_House_meaning i_House_meaning l_House_meaning c_House_meaning k_House_meaning a_House_relation_of i_House_relation_of l_House_relation_of c_House_relation_of k_House_relation_of a_House_related i_House_related l_House_related c_House_related k_House_related a_House_count i_House_count l_House_count c_House_count k_House_count a_House_kept i_House_kept l_House_kept c_House_kept k_House_kept a_answers l_answers c_answers k_answers a_answer_or_refusal l_answer_or_refusal c_answer_or_refusal k_answer_or_refusal a_answer_call l_answer_call c_answer_call k_answer_call v_VARIABLE v_TWO v_PAIR v_EITHER v_FUNCTION v_DEEPEST v_LARGEST v_VARIABLE_TERM v_PAIR_TERM v_FIRST v_SECOND v_LEFT v_RIGHT v_CASES v_FUNCTION_TERM v_PUT v_YES v_NO v_IF v_PART_COUNTS lt_PART_COUNTS v_DEEPEST_TERM v_NO_FUNCTION v_NOT_WANTED v_NOT_THE_SAME v_LARGEST_KEPT_SET v_MOST_PAIRS v_HEAVIEST_TERM v_BEGIN v_SETS v_RELATE v_SIZE v_MEANING v_RELATED v_COUNT v_KEPT v_SIDES v_MOST_VARIABLES v_LARGEST_SET v_HEAVIEST_KIND v_LARGEST_COUNTED v_HEAVIEST_COUNTED z_range z_max z_sum z_list z_reversed z_len z_enumerate z_zip) base h1 h2⟩
end FC
open PySem PySem.W PyProof.Rows
set_option maxRecDepth 100000 in
set_option maxHeartbeats 8000000 in
theorem PySem.Challenge.cw_freecharge_s01_answers_holds : PySem.Challenge.rw_freecharge_s01_answers.Holds := by
  w_on; k_headS; (case hw => exact ⟨[.list [.int 0, .int 1]], by decide +kernel, by decide +kernel⟩)
  k_fillS
  refine L2.walk_specK (r := PySem.Challenge.rw_freecharge_s01_answers) (k := 135) (CX := L2.CX0) (ps := ["calls"]) (sp := FC.spAns) (by decide +kernel) rfl rfl ⟨rfl, by decide, by decide⟩ (fun w h Y => PySem.W.kIn_of Y) ?F ?S (fun _ _ _ _ z => z)
  case F =>
    intro w mg fa h Y KX G hmg
    refine' FC.all_end FC.ok_answers KX G hmg ?a_Reader ?pg_Reader ?hd_Reader ?po_Reader ?sa_Reader ?mk_Reader ?kc_Reader ?n_Reader_numbers ?n_Reader_place ?a_Part ?pg_Part ?hd_Part ?po_Part ?sa_Part ?mk_Part ?kc_Part ?n_Part_head ?n_Part_number ?n_Part_told ?n_Part_parts ?n_Part_kind ?n_Part_extent ?n_Part_weight ?a_House ?pg_House ?hd_House ?po_House ?sa_House ?mk_House ?kc_House ?n_House_set_sizes ?n_House_told_relations ?a_Unfit ?a_TooManyRelations ?a_FaultyTerm ?a_TooLarge ?a_UnknownCall ?x_Unfit ?k_Unfit ?b_Unfit ?t_Unfit ?i_Unfit ?s_Unfit_Unfit ?s_Unfit_TooManyRelations ?s_Unfit_FaultyTerm ?s_Unfit_TooLarge ?s_Unfit_UnknownCall ?x_TooManyRelations ?k_TooManyRelations ?b_TooManyRelations ?t_TooManyRelations ?i_TooManyRelations ?s_TooManyRelations_Unfit ?s_TooManyRelations_TooManyRelations ?s_TooManyRelations_FaultyTerm ?s_TooManyRelations_TooLarge ?s_TooManyRelations_UnknownCall ?k_FaultyTerm ?b_FaultyTerm ?t_FaultyTerm ?i_FaultyTerm ?s_FaultyTerm_Unfit ?s_FaultyTerm_TooManyRelations ?s_FaultyTerm_FaultyTerm ?s_FaultyTerm_TooLarge ?s_FaultyTerm_UnknownCall ?x_TooLarge ?k_TooLarge ?b_TooLarge ?t_TooLarge ?i_TooLarge ?s_TooLarge_Unfit ?s_TooLarge_TooManyRelations ?s_TooLarge_FaultyTerm ?s_TooLarge_TooLarge ?s_TooLarge_UnknownCall ?x_UnknownCall ?k_UnknownCall ?b_UnknownCall ?t_UnknownCall ?i_UnknownCall ?s_UnknownCall_Unfit ?s_UnknownCall_TooManyRelations ?s_UnknownCall_FaultyTerm ?s_UnknownCall_TooLarge ?s_UnknownCall_UnknownCall ?xL_FaultyTerm ?xsa_FaultyTerm ?xga_FaultyTerm ?xgg_FaultyTerm ?xn0_FaultyTerm ?xn1_FaultyTerm ?xi_FaultyTerm ?xt_FaultyTerm ?xh_FaultyTerm ?xl_FaultyTerm ?xc_FaultyTerm ?a_Reader_init ?i_Reader_init ?l_Reader_init ?c_Reader_init ?k_Reader_init ?a_Reader_at_end ?i_Reader_at_end ?l_Reader_at_end ?c_Reader_at_end ?k_Reader_at_end ?a_Reader_take ?i_Reader_take ?l_Reader_take ?c_Reader_take ?k_Reader_take ?a_Reader_take_row ?i_Reader_take_row ?l_Reader_take_row ?c_Reader_take_row ?k_Reader_take_row ?a_read_kind ?l_read_kind ?ld_read_kind ?c_read_kind ?k_read_kind ?a_read_variable ?l_read_variable ?c_read_variable ?k_read_variable ?a_read_kind_row ?l_read_kind_row ?c_read_kind_row ?k_read_kind_row ?a_kind_row ?l_kind_row ?c_kind_row ?k_kind_row ?a_kind_size ?l_kind_size ?c_kind_size ?k_kind_size ?a_joined_size ?l_joined_size ?c_joined_size ?k_joined_size ?a_functions_size ?l_functions_size ?c_functions_size ?k_functions_size ?a_Part_init ?i_Part_init ?l_Part_init ?c_Part_init ?k_Part_init ?a_read_term_row ?l_read_term_row ?c_read_term_row ?k_read_term_row ?a_read_term ?l_read_term ?c_read_term ?k_read_term ?a_read_told ?l_read_told ?c_read_told ?k_read_told ?a_give_kinds ?l_give_kinds ?c_give_kinds ?k_give_kinds ?a_found_kind ?l_found_kind ?c_found_kind ?k_found_kind ?a_variable_kind ?l_variable_kind ?c_variable_kind ?k_variable_kind ?a_cases_kind ?l_cases_kind ?c_cases_kind ?k_cases_kind ?a_put_kind ?l_put_kind ?c_put_kind ?k_put_kind ?a_if_kind ?l_if_kind ?c_if_kind ?k_if_kind ?a_want ?l_want ?c_want ?k_want ?a_want_same ?l_want_same ?c_want_same ?k_want_same ?a_refuse_too_large ?l_refuse_too_large ?c_refuse_too_large ?k_refuse_too_large ?a_kind_weight ?l_kind_weight ?c_kind_weight ?k_kind_weight ?a_kind_relation ?l_kind_relation ?c_kind_relation ?k_kind_relation ?a_pair_relation ?l_pair_relation ?c_pair_relation ?k_pair_relation ?a_function_relation ?l_function_relation ?c_function_relation ?k_function_relation ?a_allowed_marks ?l_allowed_marks ?c_allowed_marks ?k_allowed_marks ?a_functions_within ?l_functions_within ?c_functions_within ?k_functions_within ?a_spread ?l_spread ?c_spread ?k_spread ?a_places ?l_places ?c_places ?k_places ?a_is_marked ?l_is_marked ?c_is_marked ?k_is_marked ?a_refuse_too_many ?l_refuse_too_many ?c_refuse_too_many ?k_refuse_too_many ?a_pairs_of_all ?l_pairs_of_all ?c_pairs_of_all ?k_pairs_of_all ?a_kept_values ?l_kept_values ?c_kept_values ?k_kept_values ?a_chosen_relations ?l_chosen_relations ?c_chosen_relations ?k_chosen_relations ?a_term_meaning ?l_term_meaning ?c_term_meaning ?k_term_meaning ?a_measure_parts ?l_measure_parts ?c_measure_parts ?k_measure_parts ?a_found_weight ?l_found_weight ?c_found_weight ?k_found_weight ?a_part_table ?l_part_table ?c_part_table ?k_part_table ?a_choices ?l_choices ?c_choices ?k_choices ?a_variable_table ?l_variable_table ?c_variable_table ?k_variable_table ?a_function_table ?l_function_table ?c_function_table ?k_function_table ?a_joined_table ?l_joined_table ?c_joined_table ?k_joined_table ?a_cases_table ?l_cases_table ?c_cases_table ?k_cases_table ?a_put_table ?l_put_table ?c_put_table ?k_put_table ?a_powers_of ?l_powers_of ?c_powers_of ?k_powers_of ?a_House_init ?i_House_init ?l_House_init ?c_House_init ?k_House_init ?a_House_begin ?i_House_begin ?l_House_begin ?c_House_begin ?k_House_begin ?a_House_variables ?i_House_variables ?l_House_variables ?c_House_variables ?k_House_variables ?a_House_sets ?i_House_sets ?l_House_sets ?c_House_sets ?k_House_sets ?a_House_relate ?i_House_relate ?l_House_relate ?c_House_relate ?k_House_relate ?a_House_size ?i_House_size ?l_House_size ?c_House_size ?k_House_size ?a_House_meaning ?i_House_meaning ?l_House_meaning ?c_House_meaning ?k_House_meaning ?a_House_relation_of ?i_House_relation_of ?l_House_relation_of ?c_House_relation_of ?k_House_relation_of ?a_House_related ?i_House_related ?l_House_related ?c_House_related ?k_House_related ?a_House_count ?i_House_count ?l_House_count ?c_House_count ?k_House_count ?a_House_kept ?i_House_kept ?l_House_kept ?c_House_kept ?k_House_kept ?a_answers ?l_answers ?c_answers ?k_answers ?a_answer_or_refusal ?l_answer_or_refusal ?c_answer_or_refusal ?k_answer_or_refusal ?a_answer_call ?l_answer_call ?c_answer_call ?k_answer_call ?v_VARIABLE ?v_TWO ?v_PAIR ?v_EITHER ?v_FUNCTION ?v_DEEPEST ?v_LARGEST ?v_VARIABLE_TERM ?v_PAIR_TERM ?v_FIRST ?v_SECOND ?v_LEFT ?v_RIGHT ?v_CASES ?v_FUNCTION_TERM ?v_PUT ?v_YES ?v_NO ?v_IF ?v_PART_COUNTS ?lt_PART_COUNTS ?v_DEEPEST_TERM ?v_NO_FUNCTION ?v_NOT_WANTED ?v_NOT_THE_SAME ?v_LARGEST_KEPT_SET ?v_MOST_PAIRS ?v_HEAVIEST_TERM ?v_BEGIN ?v_SETS ?v_RELATE ?v_SIZE ?v_MEANING ?v_RELATED ?v_COUNT ?v_KEPT ?v_SIDES ?v_MOST_VARIABLES ?v_LARGEST_SET ?v_HEAVIEST_KIND ?v_LARGEST_COUNTED ?v_HEAVIEST_COUNTED ?z_range ?z_max ?z_sum ?z_list ?z_reversed ?z_len ?z_enumerate ?z_zip
    (case a_Reader => k_is)
    (case pg_Reader => k_is)
    (case hd_Reader => k_is)
    (case po_Reader => k_is)
    (case sa_Reader => k_is)
    (case mk_Reader => k_is)
    (case kc_Reader => k_is)
    (case n_Reader_numbers => k_is)
    (case n_Reader_place => k_is)
    (case a_Part => k_is)
    (case pg_Part => k_is)
    (case hd_Part => k_is)
    (case po_Part => k_is)
    (case sa_Part => k_is)
    (case mk_Part => k_is)
    (case kc_Part => k_is)
    (case n_Part_head => k_is)
    (case n_Part_number => k_is)
    (case n_Part_told => k_is)
    (case n_Part_parts => k_is)
    (case n_Part_kind => k_is)
    (case n_Part_extent => k_is)
    (case n_Part_weight => k_is)
    (case a_House => k_is)
    (case pg_House => k_is)
    (case hd_House => k_is)
    (case po_House => k_is)
    (case sa_House => k_is)
    (case mk_House => k_is)
    (case kc_House => k_is)
    (case n_House_set_sizes => k_is)
    (case n_House_told_relations => k_is)
    (case a_Unfit => k_is)
    (case a_TooManyRelations => k_is)
    (case a_FaultyTerm => k_is)
    (case a_TooLarge => k_is)
    (case a_UnknownCall => k_is)
    (case x_Unfit => k_exc)
    (case k_Unfit => k_is)
    (case b_Unfit => k_is)
    (case t_Unfit => k_is)
    (case i_Unfit => k_is)
    (case s_Unfit_Unfit => (first | rfl | k_is))
    (case s_Unfit_TooManyRelations => (first | rfl | k_is))
    (case s_Unfit_FaultyTerm => (first | rfl | k_is))
    (case s_Unfit_TooLarge => (first | rfl | k_is))
    (case s_Unfit_UnknownCall => (first | rfl | k_is))
    (case x_TooManyRelations => k_exc)
    (case k_TooManyRelations => k_is)
    (case b_TooManyRelations => k_is)
    (case t_TooManyRelations => k_is)
    (case i_TooManyRelations => k_is)
    (case s_TooManyRelations_Unfit => (first | rfl | k_is))
    (case s_TooManyRelations_TooManyRelations => (first | rfl | k_is))
    (case s_TooManyRelations_FaultyTerm => (first | rfl | k_is))
    (case s_TooManyRelations_TooLarge => (first | rfl | k_is))
    (case s_TooManyRelations_UnknownCall => (first | rfl | k_is))
    (case k_FaultyTerm => k_is)
    (case b_FaultyTerm => k_is)
    (case t_FaultyTerm => k_is)
    (case i_FaultyTerm => k_is)
    (case s_FaultyTerm_Unfit => (first | rfl | k_is))
    (case s_FaultyTerm_TooManyRelations => (first | rfl | k_is))
    (case s_FaultyTerm_FaultyTerm => (first | rfl | k_is))
    (case s_FaultyTerm_TooLarge => (first | rfl | k_is))
    (case s_FaultyTerm_UnknownCall => (first | rfl | k_is))
    (case x_TooLarge => k_exc)
    (case k_TooLarge => k_is)
    (case b_TooLarge => k_is)
    (case t_TooLarge => k_is)
    (case i_TooLarge => k_is)
    (case s_TooLarge_Unfit => (first | rfl | k_is))
    (case s_TooLarge_TooManyRelations => (first | rfl | k_is))
    (case s_TooLarge_FaultyTerm => (first | rfl | k_is))
    (case s_TooLarge_TooLarge => (first | rfl | k_is))
    (case s_TooLarge_UnknownCall => (first | rfl | k_is))
    (case x_UnknownCall => k_exc)
    (case k_UnknownCall => k_is)
    (case b_UnknownCall => k_is)
    (case t_UnknownCall => k_is)
    (case i_UnknownCall => k_is)
    (case s_UnknownCall_Unfit => (first | rfl | k_is))
    (case s_UnknownCall_TooManyRelations => (first | rfl | k_is))
    (case s_UnknownCall_FaultyTerm => (first | rfl | k_is))
    (case s_UnknownCall_TooLarge => (first | rfl | k_is))
    (case s_UnknownCall_UnknownCall => (first | rfl | k_is))
    (case xL_FaultyTerm => k_is)
    (case xsa_FaultyTerm => k_is)
    (case xga_FaultyTerm => k_is)
    (case xgg_FaultyTerm => k_is)
    (case xn0_FaultyTerm => k_is)
    (case xn1_FaultyTerm => k_is)
    (case xi_FaultyTerm => k_is)
    (case xt_FaultyTerm => k_is)
    (case xh_FaultyTerm => k_is)
    (case xl_FaultyTerm => k_is)
    (case xc_FaultyTerm => k_is)
    (case a_Reader_init => k_is)
    (case i_Reader_init => k_is)
    (case l_Reader_init => k_is)
    (case c_Reader_init => k_is)
    (case k_Reader_init => k_is)
    (case a_Reader_at_end => k_is)
    (case i_Reader_at_end => k_is)
    (case l_Reader_at_end => k_is)
    (case c_Reader_at_end => k_is)
    (case k_Reader_at_end => k_is)
    (case a_Reader_take => k_is)
    (case i_Reader_take => k_is)
    (case l_Reader_take => k_is)
    (case c_Reader_take => k_is)
    (case k_Reader_take => k_is)
    (case a_Reader_take_row => k_is)
    (case i_Reader_take_row => k_is)
    (case l_Reader_take_row => k_is)
    (case c_Reader_take_row => k_is)
    (case k_Reader_take_row => k_is)
    (case a_read_kind => k_is)
    (case l_read_kind => k_is)
    (case ld_read_kind => k_is)
    (case c_read_kind => k_is)
    (case k_read_kind => k_is)
    (case a_read_variable => k_is)
    (case l_read_variable => k_is)
    (case c_read_variable => k_is)
    (case k_read_variable => k_is)
    (case a_read_kind_row => k_is)
    (case l_read_kind_row => k_is)
    (case c_read_kind_row => k_is)
    (case k_read_kind_row => k_is)
    (case a_kind_row => k_is)
    (case l_kind_row => k_is)
    (case c_kind_row => k_is)
    (case k_kind_row => k_is)
    (case a_kind_size => k_is)
    (case l_kind_size => k_is)
    (case c_kind_size => k_is)
    (case k_kind_size => k_is)
    (case a_joined_size => k_is)
    (case l_joined_size => k_is)
    (case c_joined_size => k_is)
    (case k_joined_size => k_is)
    (case a_functions_size => k_is)
    (case l_functions_size => k_is)
    (case c_functions_size => k_is)
    (case k_functions_size => k_is)
    (case a_Part_init => k_is)
    (case i_Part_init => k_is)
    (case l_Part_init => k_is)
    (case c_Part_init => k_is)
    (case k_Part_init => k_is)
    (case a_read_term_row => k_is)
    (case l_read_term_row => k_is)
    (case c_read_term_row => k_is)
    (case k_read_term_row => k_is)
    (case a_read_term => k_is)
    (case l_read_term => k_is)
    (case c_read_term => k_is)
    (case k_read_term => k_is)
    (case a_read_told => k_is)
    (case l_read_told => k_is)
    (case c_read_told => k_is)
    (case k_read_told => k_is)
    (case a_give_kinds => k_is)
    (case l_give_kinds => k_is)
    (case c_give_kinds => k_is)
    (case k_give_kinds => k_is)
    (case a_found_kind => k_is)
    (case l_found_kind => k_is)
    (case c_found_kind => k_is)
    (case k_found_kind => k_is)
    (case a_variable_kind => k_is)
    (case l_variable_kind => k_is)
    (case c_variable_kind => k_is)
    (case k_variable_kind => k_is)
    (case a_cases_kind => k_is)
    (case l_cases_kind => k_is)
    (case c_cases_kind => k_is)
    (case k_cases_kind => k_is)
    (case a_put_kind => k_is)
    (case l_put_kind => k_is)
    (case c_put_kind => k_is)
    (case k_put_kind => k_is)
    (case a_if_kind => k_is)
    (case l_if_kind => k_is)
    (case c_if_kind => k_is)
    (case k_if_kind => k_is)
    (case a_want => k_is)
    (case l_want => k_is)
    (case c_want => k_is)
    (case k_want => k_is)
    (case a_want_same => k_is)
    (case l_want_same => k_is)
    (case c_want_same => k_is)
    (case k_want_same => k_is)
    (case a_refuse_too_large => k_is)
    (case l_refuse_too_large => k_is)
    (case c_refuse_too_large => k_is)
    (case k_refuse_too_large => k_is)
    (case a_kind_weight => k_is)
    (case l_kind_weight => k_is)
    (case c_kind_weight => k_is)
    (case k_kind_weight => k_is)
    (case a_kind_relation => k_is)
    (case l_kind_relation => k_is)
    (case c_kind_relation => k_is)
    (case k_kind_relation => k_is)
    (case a_pair_relation => k_is)
    (case l_pair_relation => k_is)
    (case c_pair_relation => k_is)
    (case k_pair_relation => k_is)
    (case a_function_relation => k_is)
    (case l_function_relation => k_is)
    (case c_function_relation => k_is)
    (case k_function_relation => k_is)
    (case a_allowed_marks => k_is)
    (case l_allowed_marks => k_is)
    (case c_allowed_marks => k_is)
    (case k_allowed_marks => k_is)
    (case a_functions_within => k_is)
    (case l_functions_within => k_is)
    (case c_functions_within => k_is)
    (case k_functions_within => k_is)
    (case a_spread => k_is)
    (case l_spread => k_is)
    (case c_spread => k_is)
    (case k_spread => k_is)
    (case a_places => k_is)
    (case l_places => k_is)
    (case c_places => k_is)
    (case k_places => k_is)
    (case a_is_marked => k_is)
    (case l_is_marked => k_is)
    (case c_is_marked => k_is)
    (case k_is_marked => k_is)
    (case a_refuse_too_many => k_is)
    (case l_refuse_too_many => k_is)
    (case c_refuse_too_many => k_is)
    (case k_refuse_too_many => k_is)
    (case a_pairs_of_all => k_is)
    (case l_pairs_of_all => k_is)
    (case c_pairs_of_all => k_is)
    (case k_pairs_of_all => k_is)
    (case a_kept_values => k_is)
    (case l_kept_values => k_is)
    (case c_kept_values => k_is)
    (case k_kept_values => k_is)
    (case a_chosen_relations => k_is)
    (case l_chosen_relations => k_is)
    (case c_chosen_relations => k_is)
    (case k_chosen_relations => k_is)
    (case a_term_meaning => k_is)
    (case l_term_meaning => k_is)
    (case c_term_meaning => k_is)
    (case k_term_meaning => k_is)
    (case a_measure_parts => k_is)
    (case l_measure_parts => k_is)
    (case c_measure_parts => k_is)
    (case k_measure_parts => k_is)
    (case a_found_weight => k_is)
    (case l_found_weight => k_is)
    (case c_found_weight => k_is)
    (case k_found_weight => k_is)
    (case a_part_table => k_is)
    (case l_part_table => k_is)
    (case c_part_table => k_is)
    (case k_part_table => k_is)
    (case a_choices => k_is)
    (case l_choices => k_is)
    (case c_choices => k_is)
    (case k_choices => k_is)
    (case a_variable_table => k_is)
    (case l_variable_table => k_is)
    (case c_variable_table => k_is)
    (case k_variable_table => k_is)
    (case a_function_table => k_is)
    (case l_function_table => k_is)
    (case c_function_table => k_is)
    (case k_function_table => k_is)
    (case a_joined_table => k_is)
    (case l_joined_table => k_is)
    (case c_joined_table => k_is)
    (case k_joined_table => k_is)
    (case a_cases_table => k_is)
    (case l_cases_table => k_is)
    (case c_cases_table => k_is)
    (case k_cases_table => k_is)
    (case a_put_table => k_is)
    (case l_put_table => k_is)
    (case c_put_table => k_is)
    (case k_put_table => k_is)
    (case a_powers_of => k_is)
    (case l_powers_of => k_is)
    (case c_powers_of => k_is)
    (case k_powers_of => k_is)
    (case a_House_init => k_is)
    (case i_House_init => k_is)
    (case l_House_init => k_is)
    (case c_House_init => k_is)
    (case k_House_init => k_is)
    (case a_House_begin => k_is)
    (case i_House_begin => k_is)
    (case l_House_begin => k_is)
    (case c_House_begin => k_is)
    (case k_House_begin => k_is)
    (case a_House_variables => k_is)
    (case i_House_variables => k_is)
    (case l_House_variables => k_is)
    (case c_House_variables => k_is)
    (case k_House_variables => k_is)
    (case a_House_sets => k_is)
    (case i_House_sets => k_is)
    (case l_House_sets => k_is)
    (case c_House_sets => k_is)
    (case k_House_sets => k_is)
    (case a_House_relate => k_is)
    (case i_House_relate => k_is)
    (case l_House_relate => k_is)
    (case c_House_relate => k_is)
    (case k_House_relate => k_is)
    (case a_House_size => k_is)
    (case i_House_size => k_is)
    (case l_House_size => k_is)
    (case c_House_size => k_is)
    (case k_House_size => k_is)
    (case a_House_meaning => k_is)
    (case i_House_meaning => k_is)
    (case l_House_meaning => k_is)
    (case c_House_meaning => k_is)
    (case k_House_meaning => k_is)
    (case a_House_relation_of => k_is)
    (case i_House_relation_of => k_is)
    (case l_House_relation_of => k_is)
    (case c_House_relation_of => k_is)
    (case k_House_relation_of => k_is)
    (case a_House_related => k_is)
    (case i_House_related => k_is)
    (case l_House_related => k_is)
    (case c_House_related => k_is)
    (case k_House_related => k_is)
    (case a_House_count => k_is)
    (case i_House_count => k_is)
    (case l_House_count => k_is)
    (case c_House_count => k_is)
    (case k_House_count => k_is)
    (case a_House_kept => k_is)
    (case i_House_kept => k_is)
    (case l_House_kept => k_is)
    (case c_House_kept => k_is)
    (case k_House_kept => k_is)
    (case a_answers => k_is)
    (case l_answers => k_is)
    (case c_answers => k_is)
    (case k_answers => k_is)
    (case a_answer_or_refusal => k_is)
    (case l_answer_or_refusal => k_is)
    (case c_answer_or_refusal => k_is)
    (case k_answer_or_refusal => k_is)
    (case a_answer_call => k_is)
    (case l_answer_call => k_is)
    (case c_answer_call => k_is)
    (case k_answer_call => k_is)
    (case v_VARIABLE => k_is)
    (case v_TWO => k_is)
    (case v_PAIR => k_is)
    (case v_EITHER => k_is)
    (case v_FUNCTION => k_is)
    (case v_DEEPEST => k_is)
    (case v_LARGEST => k_is)
    (case v_VARIABLE_TERM => k_is)
    (case v_PAIR_TERM => k_is)
    (case v_FIRST => k_is)
    (case v_SECOND => k_is)
    (case v_LEFT => k_is)
    (case v_RIGHT => k_is)
    (case v_CASES => k_is)
    (case v_FUNCTION_TERM => k_is)
    (case v_PUT => k_is)
    (case v_YES => k_is)
    (case v_NO => k_is)
    (case v_IF => k_is)
    (case v_PART_COUNTS => k_is)
    (case lt_PART_COUNTS => k_is)
    (case v_DEEPEST_TERM => k_is)
    (case v_NO_FUNCTION => k_is)
    (case v_NOT_WANTED => k_is)
    (case v_NOT_THE_SAME => k_is)
    (case v_LARGEST_KEPT_SET => k_is)
    (case v_MOST_PAIRS => k_is)
    (case v_HEAVIEST_TERM => k_is)
    (case v_BEGIN => k_is)
    (case v_SETS => k_is)
    (case v_RELATE => k_is)
    (case v_SIZE => k_is)
    (case v_MEANING => k_is)
    (case v_RELATED => k_is)
    (case v_COUNT => k_is)
    (case v_KEPT => k_is)
    (case v_SIDES => k_is)
    (case v_MOST_VARIABLES => k_is)
    (case v_LARGEST_SET => k_is)
    (case v_HEAVIEST_KIND => k_is)
    (case v_LARGEST_COUNTED => k_is)
    (case v_HEAVIEST_COUNTED => k_is)
    (case z_range => k_is)
    (case z_max => k_is)
    (case z_sum => k_is)
    (case z_list => k_is)
    (case z_reversed => k_is)
    (case z_len => k_is)
    (case z_enumerate => k_is)
    (case z_zip => k_is)
  case S =>
    intro K H xs a hO hwi hask hx
    cases hx with
    | cons h1 h2 =>
      cases h2
      cases h1 with
      | lst hs ha =>
        have e := L2.ints_dw a.1 _ ha
        subst e
        have q : ((Codec.inLen 0 6240 a.1 && a.1.all (Codec.inInt 0 4294967295)) && true) = true := hwi
        rw [Bool.and_eq_true, Bool.and_eq_true] at q
        exact ⟨_, a.1, rfl, hs, (Codec.inNat_iff.mp q.1.1).2, fun x hx => (by have := List.all_eq_true.mp q.1.2 x hx; exact Codec.inInt_iff.mp this), hask, fun H' p hp => .lst (L2.SqL.of hp) (L2.dw_ints _)⟩
