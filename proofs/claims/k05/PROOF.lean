import PyProof.Rows.All
import Wide.All
import OpenK.AllK
import Wide.FinOn
import KE.KStateDown
import HandS.Base
import HandS.Call
import HandS.Ends
import HandS.More
import HandS.Words
import HandS.Defaults
import HandS.Property
import HandS.Head0
import HandS.Head1
import HandS.Head2
import HandS.HeadEnd
import HandS.HeadHook1
import HandS.HeadHook2
import HandS.ForMost
import HandS.RaiseMore
import HandS.Wide
import HandS.MakeKw
import HandS.MakeKwOnly
import HandS.Style
import HandS.Zip
import HandS.SortRule
import PyProof.ReprLen
import HandS.Set
import HandS.Strs
import HandS.SortInts
import HandS.SetBool
import KE.DatumOrd
import HandS.SortKw
import PySem.Challenge.RW_inforce_k05_lists_alike
set_option Elab.async false
set_option linter.all false
set_option maxRecDepth 100000
set_option maxHeartbeats 4000000
/-! The head's facts, told by functions of the written part: each def by a place of its own (a global, a method, a property's getter). -/
namespace Xh
open PySem PySem.Spec PyProof.Rows L2 He
abbrev Fg := PySem.W.Frag
def glo (x : Str) (K : Fg) : Addr := ga K x
def met (x m : Str) (K : Fg) : Addr := ma K (ga K x) m
def prp (x m : Str) (K : Fg) : Addr := match PySem.W.findIn K (.ref (ga K x)) m with
  | some (some (.ref p)) => p
  | _ => 0
def gtr (x m : Str) (K : Fg) : Addr := match PySem.W.recIn K (prp x m K) "property" with
  | some (.ref g :: _) => g
  | _ => 0
/-- a def of the text: where it stands, and what it is -/
structure Df where
  loc : Fg → Addr
  name : Str
  qual : Str
  st : Stmt
def seen (K : Fg) (a : Addr) : FnW := match K.lookup a with
  | some ⟨_, _, .func fd, _⟩ => some (fd.name, fd.qualname, fd.params, fd.body, fd.scope, fd.globals, fd.closure, fd.builtins)
  | _ => none
def Df.val (d : Df) : FnW := some (d.name, d.qual, defArgs d.st, .stmts (defBody d.st), defScope d.st, mainGlobals, [], builtinsNs)
def isNon : Value → Bool
  | .none => true
  | _ => false
def Df.good (K : Fg) (d : Df) : Bool := PySem.W.keepIn K (.ref (d.loc K)) && (match K.lookup (d.loc K) with
  | some ⟨_, _, .func fd, _⟩ => PySem.W.codeIn K fd.code d.qual && isNon fd.defaults
  | _ => false)
abbrev FunX (K : Fg) (x qual : Str) (st : Stmt) (f : Addr) (fd : FuncData) : Prop := FunD K x qual (defArgs st) (defBody st) (defScope st) [] [] f fd
theorem Df.fun_ {K : Fg} {d : Df} (e : seen K (d.loc K) = d.val) (c : d.good K = true) : ∃ fd, FunX K d.name d.qual d.st (d.loc K) fd := by
  obtain ⟨kp, c2⟩ := ba c
  unfold seen at e
  cases q : K.lookup (d.loc K) with
  | none =>
    rw [q] at c2
    exact Bool.noConfusion c2
  | some o =>
    obtain ⟨oc, od, dt, osl⟩ := o
    rw [q] at c2 e
    cases dt with
    | func fd =>
      obtain ⟨n1, n2, n3, n4, n5, n6, n7, n8, n9, n10, n11, n12, n13, n14, n15⟩ := fd
      have e2 : (some (n1, n2, n3, n4, n5, n6, n7, n15) : FnW) = some (d.name, d.qual, defArgs d.st, .stmts (defBody d.st), defScope d.st, mainGlobals, [], builtinsNs) := e
      simp only [Option.some.injEq, Prod.mk.injEq] at e2
      obtain ⟨h1, h2, h3, h4, h5, h6, h7, h8⟩ := e2
      subst h1 h2 h3 h4 h5 h6 h7 h8
      obtain ⟨k1, k2⟩ := ba (show (PySem.W.codeIn K n13 d.qual && isNon n8) = true from c2)
      have k3 : n8 = .none := by
        cases n8 with
        | none => rfl
        | _ => cases k2
      subst k3
      exact ⟨_, ⟨oc, od, .none, n9, n10, n11, n12, n13, n14, osl, rfl, q, k1, .inl ⟨rfl, rfl⟩, .inl rfl⟩, kp⟩
    | _ => exact Bool.noConfusion c2
abbrev AlX : Type := Bool × List FnW
def look (fa : List (Fg → Bool)) (ds : List Df) (K : Fg) : AlX := ((fa.all fun f => f K) && ds.all fun d => d.good K, ds.map fun d => seen K (d.loc K))
def want (ds : List Df) : AlX := (true, ds.map Df.val)
def Says (fa : List (Fg → Bool)) (ds : List Df) (K : Fg) : Prop := look fa ds K = want ds
def lookG (n : Nat) (fa : List (Fg → Bool)) (ds : List Df) (g : Addr → Option Obj) : AlX := look fa ds (frG g (asD g n))
def hook (n : Nat) (fa : List (Fg → Bool)) (ds : List Df) : PySem.W.Hook where
  α := AlX
  obs := fun s => lookG n fa ds s.heap.get?
  val := fun _ => want ds
  says := fun _ h => ∃ K : Fg, K.In h ∧ Says fa ds K
  of := fun _ _ e => ⟨_, frG_in, e⟩
  keeps := fun _ _ _ ⟨K, hK, c⟩ k => ⟨K, PySem.W.Frag.In.keeps hK k, c⟩
theorem lookG_eq {n : Nat} {fa : List (Fg → Bool)} {ds : List Df} {g : Addr → Option Obj} {s : Shared} (h : ∀ a, g a = s.heap.get? a) : lookG n fa ds g = (hook n fa ds).obs s := by
  have e : g = s.heap.get? := funext h
  rw [e] <;> rfl
section
variable {fa : List (Fg → Bool)} {ds : List Df} {K : Fg}
theorem Says.fact (c : Says fa ds K) (i : Nat) {f : Fg → Bool} (h : fa[i]? = some f := by rfl) : f K = true := by
  have c1 := (ba (show ((fa.all fun f => f K) && ds.all fun d => d.good K) = true from congrArg (fun z : AlX => z.1) c)).1
  exact List.all_eq_true.mp c1 f (List.mem_of_getElem? h)
theorem Says.def_ (c : Says fa ds K) (i : Nat) {d : Df} (h : ds[i]? = some d := by rfl) : ∃ fd, FunX K d.name d.qual d.st (d.loc K) fd := by
  have c2 := (ba (show ((fa.all fun f => f K) && ds.all fun d => d.good K) = true from congrArg (fun z : AlX => z.1) c)).2
  have e : ds.map (fun d => seen K (d.loc K)) = ds.map Df.val := congrArg (fun z : AlX => z.2) c
  have e2 : (ds.map fun d => seen K (d.loc K))[i]? = (ds.map Df.val)[i]? := by rw [e]
  rw [List.getElem?_map, List.getElem?_map, h] at e2
  exact Df.fun_ (Option.some.inj e2) (List.all_eq_true.mp c2 d (List.mem_of_getElem? h))
end
/-! ### facts -/
def fGlo (x : Str) (K : Fg) : Bool := (Fa.glo x).ok K
def fFree (x : Str) (K : Fg) : Bool := (Fa.free x).ok K
def fCls (x : Str) (K : Fg) : Bool := (Fa.cls x).ok K
def fNoat (x f : Str) (K : Fg) : Bool := (Fa.noat x f).ok K
def fMeth (x m : Str) (K : Fg) : Bool := (Fa.meth x m).ok K
def fMkr (x : Str) (K : Fg) : Bool := (Fa.mkr x).ok K
def fSeq (x : Str) (K : Fg) : Bool := PySem.W.noSeq K (ga K x)
def fProp (x m : Str) (K : Fg) : Bool := eqO (PySem.W.findIn K (.ref (ga K x)) m) (some (some (.ref (prp x m K)))) && (eqO (PySem.W.specialIn K (.ref (prp x m K)) "__get__") (some (some (.builtin "property.__get__"))) &&
  (decide (PySem.W.takesIn K (.ref (prp x m K)) = some true) && (match PySem.W.recIn K (prp x m K) "property" with
    | some (.ref g :: _) => decide (g = gtr x m K)
    | _ => false)))
theorem prop_ok {x m : Str} {K : Fg} (c : fProp x m K = true) : PropOf K (ga K x) m (prp x m K) (gtr x m K) := by
  obtain ⟨c1, c⟩ := ba c
  obtain ⟨c2, c⟩ := ba c
  obtain ⟨c3, c4⟩ := ba c
  refine ⟨eqO_ok c1, eqO_ok c2, of_decide_eq_true c3, ?_⟩
  cases e : PySem.W.recIn K (prp x m K) "property" with
  | none =>
    rw [e] at c4
    cases c4
  | some l =>
    rw [e] at c4
    cases l with
    | nil => cases c4
    | cons v r =>
      cases v with
      | ref g =>
        have eg : g = gtr x m K := of_decide_eq_true c4
        exact ⟨r, by rw [eg]⟩
      | _ => cases c4
end Xh

set_option Elab.async false
set_option linter.all false
set_option maxRecDepth 100000
set_option maxHeartbeats 4000000
/-! Defs that are called where nothing is being shown (no guard stands): so repr of a list tells it whole. -/
namespace Gd
open PySem PySem.Spec PyProof.Rows L2 He Xh
/-- as FnOk, asked only where no guard stands -/
structure FnG (P : Program) (w : World) (K : Fg) (mg : Str → Option Value) (base : Heap) (CX : CXT) (k : Nat) (f : Addr) (fd : FuncData) (ps : List Str) (sp : Sp) : Prop where
  len : ∀ vs H Q E, sp vs H Q E → vs.length = ps.length
  run : ∀ (A : Around) (outer : List Env) (s : Shared) (H : Hp) (args : Args) (us : List Value) (vs : List V) (Q : VK) (E : XK), A.guards = some [] → Room k A → Env0 P w K mg base A outer s H →
    BindsTo s fd args (ps.zip us) → Vals vs us → sp vs H Q E → codeAny (model P w) A (.call (.ref f) args) (CR CX outer P w H s Q E) s
section
variable {P : Program} {w : World} {K : Fg} {mg : Str → Option Value} {base : Heap} {x qual : Str} {st : Stmt} {f : Addr} {fd : FuncData}
theorem okG {CX : CXT} {N ps : List Str} {k : Nat} {sp : Sp} (F : FunX K x qual st f fd) (S : FnScope N ps (defScope st)) (len : ∀ vs H Q E, sp vs H Q E → vs.length = ps.length)
    (body : ∀ (cdv : Value) (A : Around) (outer : List Env) (s : Shared) (H : Hp) (vs : List V) (Q : VK) (E : XK), (A.deeper (envOfC qual (defScope st) s.heap.objs.size f cdv)).guards = some [] →
      Room k (A.deeper (envOfC qual (defScope st) s.heap.objs.size f cdv)) → sp vs H Q E →
      ∃ t, PSs (cxOf CX P w K mg base N qual (defScope st) f cdv A outer s H E) (defBody st) t ∧ t { nx := fun _ H' => Q .non H', rt := Q } (start N vs) H) : FnG P w K mg base CX (k + 1) f fd ps sp := by
  obtain ⟨oc, od, dV, kV, doc, pm, an, cdv, ct, osl, efd, lk, hcd, _, _⟩ := F.ex
  subst efd
  refine ⟨len, fun A outer s H args us vs Q E gA hr e0 hb r hsp => ?_⟩
  have hl := len _ _ _ _ hsp
  have stays : ∀ b o, base.get? b = some o → s.heap.get? b = some o := fun b o e => (e0.bs b o e).1
  have KX : K.In s.heap := e0.mod.kin.keeps stays
  have lim : s.heap.NoLimit := e0.mod.nolimit.keeps stays
  refine codeAny_call_function hr.depth (KX _ _ lk) rfl S.co S.gen rfl (PySem.W.codeRec_of KX hcd) (hb _ _ _ _ ?_)
  refine wpAny_newFunctionEnv_cells S.kind (fun y hy => ?_) fun env he s1 x1 => ?_
  · rcases S.par y.1 (List.of_mem_zip (show (y.1, y.2) ∈ ps.zip us from hy)).1 with q | q
    · exact Or.inl q
    · exact Or.inr ⟨q, PySem.W.cellsFrom_some _ _ _ (Or.inl q)⟩
  · subst he
    refine ⟨lim.keeps x1.toInCall.keep, codeAny_func ?_⟩
    obtain ⟨t, ht, hq⟩ := body cdv A outer s H vs Q E gA (hr.deeper _) hsp
    have I := inv_start (CX := CX) (E := E) S hr.hd e0 hl r x1
    refine wpAny_mono (ht.run [] s1 (start N vs) H _ I hq) (fun fl s' hs => ?_) fun _ _ hs => hs
    cases fl with
    | ret u =>
      obtain ⟨v, _, H', J, rv, q⟩ := hs
      exact ⟨v, H', J.os, J.bare, J.base, J.hok, rv, q⟩
    | next =>
      obtain ⟨_, H', J, q⟩ := hs
      exact ⟨V.non, H', J.os, J.bare, J.base, J.hok, rfl, q⟩
    | brk =>
      obtain ⟨_, _, _, q⟩ := hs
      exact q.elim
    | cont =>
      obtain ⟨_, _, _, q⟩ := hs
      exact q.elim
end
theorem FnG.of {P : Program} {w : World} {K : Fg} {mg : Str → Option Value} {base : Heap} {CX : CXT} {k : Nat} {f : Addr} {fd : FuncData} {ps : List Str} {sp : Sp} (F : FnOk P w K mg base CX k f fd ps sp) : FnG P w K mg base CX k f fd ps sp :=
  ⟨F.len, fun A outer s H args us vs Q E _ hr e0 hb r h => F.run A outer s H args us vs Q E hr e0 hb r h⟩
section
variable {X : Cx} {CX : CXT} {k : Nat} {f : Addr} {fd : FuncData} {ps : List Str} {sp : Sp} {dvs : List V} {ds : List Value} {E : XK} {x : Str} {p pos : Pos} {e : Expr} {es : List Expr} {t : TA}
/-- f(e, ..) -/
theorem pe_callG (F : FnG X.prog X.w X.K X.mg X.base CX k f fd ps sp) (gA : X.A.guards = some []) (hr : Room k X.A) (hg : Gl X x) (hm : X.mg x = some (.ref f)) (hk : PySem.W.keepIn X.K (.ref f) = true) (hb : Binds X.K fd ps ds) (hd : Vals dvs ds)
    (hx : Passes CX X E) (ha : PA X (e :: es) t) (hdb : (x == ("__debug__" : Str)) = false := by decide) (he : starEach (e :: es) X.env = (false, eval e X.env) :: starEach es X.env := by rfl)
    (hpl : (backTo pos (starEach es X.env)).any (·.1) = false := by rfl) : PE X (.Call (.Name x p) (e :: es) [] pos) (tCall sp dvs E t) := by
  constructor
  intro pins s σ H Q I h
  refine wpAny_Call_Name_kw (ld_glob I hg hm ?_ hdb)
  refine PySem.W.callWith_K (h₀ := X.base) I.ok.mod.kin hk (thn (ha.run pos pins s σ H _ I h) fun us s1 hh => ?_) he hpl
  obtain ⟨vs, H1, I1, r, q⟩ := hh
  refine ⟨I1.kIn, ?_⟩
  have r2 : Vals (vs ++ dvs) (us ++ ds) := r.append hd
  have hl : (us ++ ds).length = ps.length := r2.length.symm.trans (F.len _ _ _ _ q)
  refine wpAny_call (codeAny_mono (F.run X.A X.stack s1 H1 ⟨us, []⟩ _ _ Q E gA hr I1.env0 (hb s1 us I1.kIn hl) r2 q) fun r s' hq => ?_)
  match r, hq with
  | .error e, hq => exact hx pins σ H1 s1 e s' I1 hq
  | .ok (.ret _), hq => exact I1.after hq
  | .ok .next, hq => exact hq.elim
  | .ok .brk, hq => exact hq.elim
  | .ok .cont, hq => exact hq.elim
end
/-! ### the law's call -/
section
variable {P : Program} {w : World} {K : Fg} {mg mb : Str → Option Value} {k : Nat} {fa a : Addr} {fd : FuncData} {x : Str} {sp : Sp} {s₁ : Shared} {vs : List Value} {ns : List Int}
theorem core_callG {H : Hp} (KX : K.In s₁.heap) (hns : s₁.heap.Ns mainGlobals mg) (hb : s₁.heap.Ns builtinsNs mb) (hbb : ∀ x : Str, x ≠ "__name__" → mb x = bootBuiltins x) (hlim : s₁.heap.NoLimit) (hg : s₁.gens = #[])
    (ha : s₁.heap.get? a = some { cls := .type "list", data := .seq vs.toArray }) (hr : Room k callerA)
    (F : ∀ base : Heap, K.In base → base.Ns mainGlobals mg → FnG P w K mg base CX0 k fa fd [x] sp) (hbind : ∀ (s : Shared) (u : Value), BindsTo s fd ⟨[u], []⟩ [(x, u)])
    (hsp : sp [.ref a] H (fun v _ => v = .bl true) fun _ _ _ => False)
    (hO : Only H) (hok : HOk P w H s₁.heap) (hA : ∀ b, H b ≠ none → b = a) (hK : H a ≠ none → K.lookup a = none) :
    codeAny (model P w) callerA (.call (.ref fa) ⟨[.ref a], []⟩) (fun r s' => r = .ok (.ret (.bool true)) ∧ OldK s₁.heap s'.heap ∧ s'.os = s₁.os ∧ AllBare s'.gens) s₁ := by
  have free : ∀ {b : Addr} {o : Obj}, s₁.heap.get? b = some o → (H a ≠ none → b ≠ a) → H b = none := fun {b o} e n => by
    cases q : H b with
    | none => rfl
    | some u =>
      have hb1 : H b ≠ none := by
        rw [q]
        exact fun z => nomatch z
      have eb : b = a := hA b hb1
      exact absurd eb (n (eb ▸ hb1))
  have nsK : ∀ {b : Addr} {m : Str → Option Value}, s₁.heap.Ns b m → (hidT s₁.heap H).Ns b m := by
    rintro b m ⟨o, es, ep, e, d, r⟩
    refine ⟨o, es, ep, hidT_get e (free e fun _ z => ?_), d, r⟩
    rw [z, ha] at e
    cases e
    exact absurd (show Data.seq vs.toArray _ = Data.dict es ep from d) (fun z => nomatch z)
  have hKb : K.In (hidT s₁.heap H) := fun b o e => hidT_get (KX b o e) (free (KX b o e) fun hn z => by
    rw [z, hK hn] at e
    cases e)
  obtain ⟨mc, l1, l2⟩ := hlim
  have hM : Mod K mg (hidT s₁.heap H) := ⟨hKb, nsK hns, ⟨mb, nsK hb, hbb⟩, ⟨mc, nsK l1, l2⟩⟩
  have e0 : Env0 P w K mg (hidT s₁.heap H) callerA [] s₁ H := by
    refine ⟨rfl, hM, fun b o e => of_hidT e, Nat.le_of_eq (hidT_size _ _), trivial, fun b hb => ?_, hok, .of_eq hg⟩
    exact absurd hb (List.not_mem_nil)
  refine codeAny_mono ((F _ hKb (nsK hns)).run callerA [] s₁ H ⟨[.ref a], []⟩ [.ref a] [.ref a] _ _ rfl hr e0 (hbind s₁ (.ref a)) (.cons rfl .nil) hsp) fun r s' h => ?_
  match r, h with
  | .error e, h => exact h.elim
  | .ok .next, h => exact h.elim
  | .ok .brk, h => exact h.elim
  | .ok .cont, h => exact h.elim
  | .ok (.ret u), h =>
    obtain ⟨v, H', os, bare, un, hok', r', q⟩ := h
    subst q
    have eu : u = Value.bool true := r'
    subst eu
    refine ⟨rfl, OldK.of_keep fun b o e => ?_, os, bare⟩
    rcases hO b with z | ⟨ob, xs, z⟩
    · exact un.keep b o e z List.not_mem_nil List.not_mem_nil
    · have e1 := (hok b _ z).1
      have e2 := (hok' b _ (un.frzs b ob _ z)).1
      rw [e] at e1
      cases e1
      exact e2
theorem law_callG (KX : K.In s₁.heap) (hns : s₁.heap.Ns mainGlobals mg) (hb : s₁.heap.Ns builtinsNs mb) (hbb : ∀ x : Str, x ≠ "__name__" → mb x = bootBuiltins x) (hlim : s₁.heap.NoLimit) (hg : s₁.gens = #[])
    (ha : s₁.heap.get? a = some { cls := .type "list", data := .seq vs.toArray }) (hi : IntsAre vs ns) (hl : ns.length ≤ sizeLine) (hr : Room k callerA)
    (F : ∀ base : Heap, K.In base → base.Ns mainGlobals mg → FnG P w K mg base CX0 k fa fd [x] sp) (hbind : ∀ (s : Shared) (u : Value), BindsTo s fd ⟨[u], []⟩ [(x, u)])
    (hsp : ∀ H : Hp, Only H → SqL K H a (ns.map V.int) → sp [.ref a] H (fun v _ => v = .bl true) fun _ _ _ => False) :
    codeAny (model P w) callerA (.call (.ref fa) ⟨[.ref a], []⟩) (fun r s' => r = .ok (.ret (.bool true)) ∧ OldK s₁.heap s'.heap ∧ s'.os = s₁.os ∧ AllBare s'.gens) s₁ := by
  have rv := vals_ints hi
  have lenV := hi.length
  cases hk : K.lookup a with
  | some o =>
    have e := KX a o hk
    rw [ha] at e
    cases e
    have hO : Only (fun _ => none) := fun _ => .inl rfl
    have hS : SqL K (fun _ => none) a (ns.map V.int) := .inr ⟨_, vs.toArray, _, hk, rfl, rfl, rfl, by rw [List.size_toArray, lenV]; exact hl, by simpa using rv⟩
    exact core_callG KX hns hb hbb hlim hg ha hr F hbind (hsp _ hO hS) hO (fun b u z => nomatch z) (fun b z => (z rfl).elim) (fun z => (z rfl).elim)
  | none =>
    let o1 : HO := .frz { cls := .type "list", data := .seq vs.toArray } (.lst (ns.map V.int))
    let H1 : Hp := fun b => if b = a then some o1 else none
    have h1 : H1 a = some o1 := if_pos rfl
    have h2 : ∀ b, b ≠ a → H1 b = none := fun b z => if_neg z
    have hO : Only H1 := fun b => by
      by_cases z : b = a
      · rw [z]
        exact .inr ⟨_, _, h1⟩
      · exact .inl (h2 b z)
    have hS : SqL K H1 a (ns.map V.int) := .inl (.inr ⟨_, h1⟩)
    refine core_callG KX hns hb hbb hlim hg ha hr F hbind (hsp _ hO hS) hO (fun b u z => ?_) (fun b z => ?_) fun _ => hk
    · by_cases zb : b = a
      · rw [zb, h1] at z
        cases z
        rw [zb]
        exact ⟨ha, by rw [List.length_map]; exact hl, vs, _, rv, ha⟩
      · rw [h2 b zb] at z
        cases z
    · by_cases zb : b = a
      · exact zb
      · exact absurd (h2 b zb) z
end
/-- a law over a head by facts -/
theorem walk_ofG {l : PySem.W.OpenLaw} {n k : Nat} {q : Program} {loose : List Str} {XP : (Str → Option Value) → Heap → Prop} {YP : World → Heap → Prop} {d : DefRec} {x : Str}
    (hn : l.most = some n) (hn2 : n ≤ sizeLine) (hdf : d.params.defaults = []) (hr : Room k callerA)
    (F : ∀ (w : World) (mg : Str → Option Value) (fa : Addr) (h : Heap), YP w h → h.Ns mainGlobals mg → mg d.name = some (.ref fa) → ∃ (K : Fg) (fd : FuncData) (sp : Sp), K.In h ∧ (∀ (s : Shared) (u : Value), BindsTo s fd ⟨[u], []⟩ [(x, u)]) ∧
      (∀ (H : Hp) (a : Addr) (ns : List Int), ns.length ≤ n → SqL K H a (ns.map V.int) → sp [.ref a] H (fun v _ => v = .bl true) fun _ _ _ => False) ∧ ∀ base : Heap, K.In base → base.Ns mainGlobals mg → FnG l.prog w K mg base CX0 k fa fd [x] sp) :
    PySem.W.WalkO q loose XP YP l.row.toRowW d [] (fun f vs => PySem.call f vs) := by
  refine Att.attach_call hn hdf fun w s₀ s₁ mg mb fa o pm cd doc a vs ns G Y ho hd hcd hmg hobj hints hlen hg => ?_
  obtain ⟨K, fd, sp, KX, hb, hsp, hF⟩ := F w mg fa _ Y G.T.g hmg
  exact law_callG KX G.T.g G.T.b G.T.builtins G.T.nolimit hg hobj hints (Nat.le_trans hlen hn2) hr hF hb fun H _ hS => hsp H a ns hlen hS
end Gd

set_option Elab.async false
set_option linter.all false
set_option maxRecDepth 100000
set_option maxHeartbeats 4000000
/-! rules beside the layer's: powers of greater numbers, repr of data, o[i] and len(o) by own methods -/
namespace Ru
open PySem PySem.Spec PyProof.Rows L2 He Xh Gd
/-- ** of a number and an exponent that keep the size small -/
def CPw (i j : Int) : Prop := 0 ≤ j ∧ (Builtin.Int.intBits i : Int) * j ≤ 2 ^ 27
theorem op_pw {X : Cx} : OpR X (binaryOp .Pow) (rI CPw fun i j => .int (i ^ j.toNat)) := opI fun _ _ _ _ _ _ _ hc q => pow_int hc.1 hc.2 q
theorem cpw_of {i j : Int} {b : Nat} (h0 : 0 ≤ j) (hj : j ≤ 100) (hb : i.natAbs < 2 ^ b) (h1 : b ≤ 100000) : CPw i j := by
  refine ⟨h0, ?_⟩
  have hb2 : i.natAbs < 2 ^ (b + 1) := Nat.lt_of_lt_of_le hb (Nat.pow_le_pow_right (by decide) (Nat.le_succ b))
  have hl : i.natAbs.log2 < b + 1 := PySem.Flt.log2_lt_of (Nat.succ_pos b) hb2
  have e : Builtin.Int.intBits i ≤ i.natAbs.log2 + 1 := by
    unfold Builtin.Int.intBits
    split <;> omega
  have e2 : (Builtin.Int.intBits i : Int) ≤ 100002 := by omega
  have e3 : (Builtin.Int.intBits i : Int) * j ≤ 100002 * 100 := Int.mul_le_mul e2 hj h0 (by decide)
  exact Int.le_trans e3 (by decide)
/-! ### repr of data -/
def rRepr (K : Fg) : List V → Hp → VK → Prop := fun xs H Q => ∃ v d, xs = [v] ∧ Dp K H v d ∧ d.showable = true ∧ d.hasDict = false ∧ d.depth ≤ 30 ∧ d.shown.length ≤ sizeLine ∧ Q (.str d.shown) H
theorem call_repr {X : Cx} (hg : X.A.guards = some []) (hu : X.A.units + 64 < cLine) : CallR X (.builtin "repr") (rRepr X.K) := by
  intro pins s σ H xs us Q I r h
  obtain ⟨v, d, rfl, hd, hs, hnd, hdp, hz, q⟩ := h
  obtain ⟨u, rfl, rv⟩ := vals1 r
  have fin : ∀ t, EP X pins σ Q (.str d.shown t) { s with toks := s.toks + 1 } := fun t => ⟨.str d.shown, H, I.tok _, ⟨t, rfl⟩, q⟩
  obtain ⟨as, rd⟩ := Dp.reads I d v u hd rv
  have big : ∀ {a : Addr}, u = .ref a → wpAny (model X.prog X.w) X.A (call (.builtin "repr") [u]) (EP X pins σ Q) X.xe s := by
    intro a ea
    subst ea
    refine repr_of_reads' rd hs (fun hx => ?_) hg (by omega) (fun _ _ e => e) (fun h' t tk hk => ?_) hz
    · rw [hnd] at hx
      cases hx
    · exact ⟨.str d.shown, H, I.kept hk, ⟨t, rfl⟩, q⟩
  cases hd with
  | non =>
    cases rv
    exact PySem.P.repr_of_none (fin _)
  | bl b =>
    cases rv
    refine PySem.P.repr_of_bool ?_
    cases b
    · exact fin _
    · exact fin _
  | int i =>
    obtain ⟨t, rfl⟩ := rv
    exact PySem.P.repr_of_int (by simpa [PyData.showable] using hs) (fin _)
  | str x =>
    obtain ⟨t, rfl⟩ := rv
    exact PySem.P.repr_of_str (fin _) hz
  | lst h1 h2 => exact big rv
  | tup h1 h2 => exact big rv
/-! ### o[i], len(o) by own methods -/
def tGetO (C : Addr) (sp : Sp) (E : XK) (ta tb : TE) : TE := fun σ H Q => ta σ H fun x H1 => tb σ H1 fun y H2 => ∃ p dx fs, x = .ref p ∧ H2 p = some (.ins C dx fs) ∧ sp [x, y] H2 Q E
theorem instAt_of {X : Cx} {pins : List (Addr × Obj)} {σ : L2.St} {H : Hp} {s : Shared} {p C dx : Addr} {fs : List (Str × V)} (I : Inv X pins σ H s) (e : H p = some (.ins C dx fs)) : ∃ ox od, PySem.W.InstAt s.heap p ox C od := by
  obtain ⟨mA, O, _, _, _, _⟩ := ins_get I.hok e
  obtain ⟨od, J, _⟩ := O.look
  exact ⟨_, _, J⟩
section
variable {X : Cx} {CX : CXT} {k : Nat} {C f : Addr} {fd : FuncData} {ps : List Str} {sp : Sp} {E : XK} {a b : Expr} {ta tb : TE} {pos : Pos}
/-- the method runs, one room deeper -/
theorem run_in1 {pins : List (Addr × Obj)} {σ : L2.St} {H : Hp} {s : Shared} {Q : VK} {us : List Value} {vs : List V} (F : FnOk X.prog X.w X.K X.mg X.base CX k f fd ps sp) (hr : Room (k + 1) X.A) (hb : Binds X.K fd ps []) (hx : Passes CX X E)
    (I : Inv X pins σ H s) (r : Vals vs us) (h : sp vs H Q E) : wpAny (model X.prog X.w) X.A.in1 (call (.ref f) us) (EP X pins σ Q) X.xe s := by
  have hl : (us ++ []).length = ps.length := by
    rw [List.append_nil]
    exact r.length.symm.trans (F.len _ _ _ _ h)
  have hb1 := hb s us I.kIn hl
  rw [List.append_nil] at hb1
  refine wpAny_call (codeAny_mono (F.run X.A.in1 X.stack s H ⟨us, []⟩ us vs Q E hr.in1 I.env0.in1 hb1 r h) fun r s' hq => ?_)
  match r, hq with
  | .error e, hq => exact hx pins σ H s e s' I hq
  | .ok (.ret _), hq => exact I.after hq
  | .ok .next, hq => exact hq.elim
  | .ok .brk, hq => exact hq.elim
  | .ok .cont, hq => exact hq.elim
theorem pe_getO (ha : PE X a ta) (hb : PE X b tb) (M : Meth X.K C "__getitem__" f) (F : FnOk X.prog X.w X.K X.mg X.base CX k f fd ps sp) (hf : PySem.W.fnIn X.K f = true) (hr : Room (k + 1) X.A) (hbd : Binds X.K fd ps []) (hx : Passes CX X E)
    (hsl : ∀ p i, subscripted b true (.ref p) i = runValue (.builtin "lifetime.subscript" ⟨[.ref p, i], []⟩) := by intro _ _; with_unfolding_all rfl) : PE X (.Subscript a b pos) (tGetO C sp E ta tb) := by
  constructor
  intro pins s σ H Q I h
  refine Subscript_ (binT ha hb I h fun v u s2 x y H2 I2 rx ry q => ?_)
  obtain ⟨p, dx, fs, rfl, ep, q⟩ := q
  cases rx
  obtain ⟨ox, od, J⟩ := instAt_of I2 ep
  obtain ⟨m, F2⟩ := I2.fr
  exact PySem.W.sub_K F2 I2.ok.mod.kin J M.at_ hf M.fn (run_in1 (vs := [.ref p, y]) (us := [.ref p, u]) F hr hbd hx I2 (.cons rfl (.cons ry .nil)) q) (hsl p u)
theorem call_lenO (M : Meth X.K C "__len__" f) (F : FnOk X.prog X.w X.K X.mg X.base CX k f fd ps sp) (hr : Room (k + 1) X.A) (hbd : Binds X.K fd ps []) (hx : Passes CX X E) :
    CallR X (.builtin "len") (fun xs H Q => ∃ p dx fs, xs = [.ref p] ∧ H p = some (.ins C dx fs) ∧ sp [.ref p] H (fun v H1 => ∃ n : Nat, v = .int n ∧ n < 2 ^ 63 ∧ Q (.int n) H1) E) := by
  intro pins s σ H xs us Q I r h
  obtain ⟨p, dx, fs, rfl, ep, q⟩ := h
  obtain ⟨u, rfl, rx⟩ := vals1 r
  cases rx
  obtain ⟨ox, od, J⟩ := instAt_of I ep
  obtain ⟨m, F2⟩ := I.fr
  refine PySem.W.len_K F2 I.ok.mod.kin J M.at_ M.fn (wpAny_mono (run_in1 (vs := [.ref p]) (us := [.ref p]) F hr hbd hx I (.cons rfl .nil) q) (fun v s1 hh => ?_) fun _ _ z => z)
  obtain ⟨v1, H1, I1, rv, n, rfl, hn, q1⟩ := hh
  obtain ⟨t, rfl⟩ := rv
  exact ⟨⟨Int.natCast_nonneg n, by omega⟩, ⟨.int n, H1, I1.tok _, ⟨_, rfl⟩, q1⟩⟩
end
end Ru

set_option Elab.async false
set_option linter.all false
set_option maxRecDepth 100000
set_option maxHeartbeats 4000000
/-! data over the heap; the purse; callees -/
namespace Zd
open PySem L2 He Xh Gd Ru
/-! ### a heap without some things -/
def Hd (S : List Addr) (H : Hp) : Hp := fun a => if a ∈ S then none else H a
theorem Hd_in {S : List Addr} {H : Hp} {a : Addr} (h : a ∈ S) : Hd S H a = none := if_pos h
theorem Hd_out {S : List Addr} {H : Hp} {a : Addr} (h : a ∉ S) : Hd S H a = H a := if_neg h
theorem Hd_some {S : List Addr} {H : Hp} {a : Addr} {o : HO} (h : Hd S H a = some o) : a ∉ S ∧ H a = some o := by
  by_cases e : a ∈ S
  · rw [Hd_in e] at h
    cases h
  · rw [Hd_out e] at h
    exact ⟨e, h⟩
theorem Hd_same (S : List Addr) (H : Hp) : Same (Hd S H) H := fun a o h => (Hd_some h).2
/-- more hidden on both sides -/
theorem Hd_mono {S T : List Addr} {H H' : Hp} (s : Same (Hd S H) (Hd S H')) (h : ∀ a ∈ S, a ∈ T) : Same (Hd T H) (Hd T H') := fun a o e => by
  obtain ⟨n, e1⟩ := Hd_some e
  have nS : a ∉ S := fun z => n (h a z)
  rw [Hd_out n]
  exact (Hd_some (s a o (by rw [Hd_out nS]; exact e1))).2
theorem Hd_of {S : List Addr} {H H' : Hp} (s : Same H H') : Same (Hd S H) (Hd S H') := fun a o h => by
  obtain ⟨n, e⟩ := Hd_some h
  rw [Hd_out n]
  exact s a o e
theorem Hd_upd {S : List Addr} {H : Hp} {a : Addr} {o : HO} (h : a ∈ S) : Hd S (upd H a o) = Hd S H := by
  funext b
  by_cases e : b ∈ S
  · rw [Hd_in e, Hd_in e]
  · have n : b ≠ a := fun z => e (z ▸ h)
    rw [Hd_out e, Hd_out e, upd_ne n]
theorem new_same {q : Addr} {H : Hp} {o : HO} (h : H q = none) : Same H (upd H q o) := fun a u e => by
  rw [upd_ne (ne_of_none e h)]
  exact e
theorem Hd_new {S : List Addr} {q : Addr} {H : Hp} {o : HO} (h : H q = none) : Same (Hd S H) (Hd S (upd H q o)) := Hd_of (new_same h)
theorem Hd_sub {S T : List Addr} {H : Hp} (h : ∀ a ∈ S, a ∈ T) : Same (Hd T H) (Hd S H) := fun a o e => by
  obtain ⟨n, e1⟩ := Hd_some e
  rw [Hd_out (fun z => n (h a z))]
  exact e1
/-- what stands, stands apart from what is new -/
theorem Hd_add {S : List Addr} {q : Addr} {G H : Hp} (s : Same G (Hd S H)) (n : G q = none) : Same G (Hd (q :: S) H) := fun a o e => by
  obtain ⟨n1, e1⟩ := Hd_some (s a o e)
  have n2 : a ≠ q := ne_of_none e n
  rw [Hd_out (fun z => (List.mem_cons.mp z).elim n2 n1)]
  exact e1
theorem Hd_none {S : List Addr} {q : Addr} {H : Hp} (h : H q = none) : Hd S H q = none := by
  by_cases e : q ∈ S
  · exact Hd_in e
  · rw [Hd_out e]
    exact h
abbrev W (p : Addr) (H : Hp) : Hp := Hd [p] H
theorem W_upd {p : Addr} {H : Hp} {o : HO} : W p (upd H p o) = W p H := Hd_upd (List.mem_singleton.mpr rfl)
theorem call_at {p b : Addr} {H H' : Hp} {o : HO} (s : Same (W p H) (W p H')) (n : b ≠ p) (e : H b = some o) : H' b = some o := by
  have n1 : b ∉ [p] := fun z => n (List.mem_singleton.mp z)
  exact (Hd_some (s b o ((Hd_out n1).trans e))).2
theorem back_none {p b : Addr} {H H' : Hp} (s : Same (W p H) (W p H')) (n : b ≠ p) (h : H' b = none) : H b = none := by
  cases e : H b with
  | none => rfl
  | some o => exact absurd (call_at s n e) (by rw [h]; exact fun z => nomatch z)
theorem W_at {p b : Addr} {H : Hp} (n : b ≠ p) : W p H b = H b := Hd_out fun z => n (List.mem_singleton.mp z)
/-- what of G is new over H -/
def Nw (H G : Hp) : Hp := fun a => if H a = none then G a else none
theorem Nw_new {H G : Hp} {a : Addr} (h : H a = none) : Nw H G a = G a := if_pos h
theorem Nw_old {H G : Hp} {a : Addr} {o : HO} (h : H a = some o) : Nw H G a = none := if_neg (by rw [h]; exact fun z => nomatch z)
theorem Nw_some {H G : Hp} {a : Addr} {o : HO} (h : Nw H G a = some o) : H a = none ∧ G a = some o := by
  by_cases e : H a = none
  · rw [Nw_new e] at h
    exact ⟨e, h⟩
  · unfold Nw at h
    rw [if_neg e] at h
    cases h
theorem Nw_same (H G : Hp) : Same (Nw H G) G := fun a o h => (Nw_some h).2
theorem Nw_mono {H G G' : Hp} (s : Same G G') : Same (Nw H G) (Nw H G') := fun a o h => by
  obtain ⟨n, e⟩ := Nw_some h
  rw [Nw_new n]
  exact s a o e
theorem Nw_upd {H G : Hp} {a : Addr} {o u : HO} (h : H a = some u) : Nw H (upd G a o) = Nw H G := by
  funext b
  by_cases e : H b = none
  · have n : b ≠ a := fun z => by
      rw [z, h] at e
      cases e
    rw [Nw_new e, Nw_new e, upd_ne n]
  · unfold Nw
    rw [if_neg e, if_neg e]
/-- a call that changes what stood changes nothing new -/
theorem Nw_call {p : Addr} {H G G' : Hp} {u : HO} (s : Same (W p G) (W p G')) (hp : H p = some u) : Same (Nw H G) (Nw H G') := fun a o h => by
  obtain ⟨n, e⟩ := Nw_some h
  have na : a ≠ p := fun z => by
    rw [z, hp] at n
    cases n
  rw [Nw_new n]
  exact call_at s na e
/-! ### data -/
mutual
theorem Dp.same {K : Fg} {H H' : Hp} (s : Same H H') : ∀ (d : PyData) (v : V), Dp K H v d → Dp K H' v d
  | .none, _, h => by cases h; exact .non
  | .bool b, _, h => by cases h; exact .bl b
  | .int i, _, h => by cases h; exact .int i
  | .str x, _, h => by cases h; exact .str x
  | .list ds, _, h => by
    cases h with
    | lst hs ha => exact .lst (s.seq hs) (DpAll.same s ds _ ha)
  | .tuple ds, _, h => by
    cases h with
    | tup hs ha =>
      refine .tup ?_ (DpAll.same s ds _ ha)
      rcases hs with (hs | ⟨o, hs⟩) | hs
      · exact .inl (.inl (s _ _ hs))
      · exact .inl (.inr ⟨o, s _ _ hs⟩)
      · exact .inr hs
  | .dict _, _, h => by cases h
theorem DpAll.same {K : Fg} {H H' : Hp} (s : Same H H') : ∀ (ds : List PyData) (vs : List V), DpAll K H vs ds → DpAll K H' vs ds
  | [], _, h => by cases h; exact .nil
  | d :: ds, _, h => by
    cases h with
    | cons h1 h2 => exact .cons (Dp.same s d _ h1) (DpAll.same s ds _ h2)
end
theorem _root_.L2.Dp.mo {K : Fg} {H H' : Hp} {v : V} {d : PyData} (h : Dp K H v d) (s : Same H H') : Dp K H' v d := Dp.same s d v h
theorem _root_.L2.DpAll.mo {K : Fg} {H H' : Hp} {v : List V} {d : List PyData} (h : DpAll K H v d) (s : Same H H') : DpAll K H' v d := DpAll.same s d v h
theorem seqT_mo {K : Fg} {H H' : Hp} {a : Addr} {xs : List V} (h : SqT K H a xs) (s : Same H H') : SqT K H' a xs := by
  rcases h with (h | ⟨o, h⟩) | h
  · exact .inl (.inl (s _ _ h))
  · exact .inl (.inr ⟨o, s _ _ h⟩)
  · exact .inr h
section
variable {K : Fg} {H H' : Hp}
theorem Dp.lst_inv {v : V} {ds : List PyData} (h : Dp K H v (.list ds)) : ∃ a xs, v = .ref a ∧ SqL K H a xs ∧ DpAll K H xs ds := by
  cases h with
  | lst h1 h2 => exact ⟨_, _, rfl, h1, h2⟩
theorem Dp.tup_inv {v : V} {ds : List PyData} (h : Dp K H v (.tuple ds)) : ∃ a xs, v = .ref a ∧ SqT K H a xs ∧ DpAll K H xs ds := by
  cases h with
  | tup h1 h2 => exact ⟨_, _, rfl, h1, h2⟩
theorem DpAll.len : ∀ {xs : List V} {ds : List PyData}, DpAll K H xs ds → xs.length = ds.length
  | [], _, h => by cases h; rfl
  | x :: xs, _, h => by
    cases h with
    | cons h1 h2 => exact congrArg Nat.succ (DpAll.len h2)
theorem DpAll.at_ : ∀ {xs : List V} {ds : List PyData} {i : Nat} {x : V}, DpAll K H xs ds → xs[i]? = some x → ∃ d, ds[i]? = some d ∧ Dp K H x d
  | [], _, i, x, h, e => by simp at e
  | y :: xs, _, 0, x, h, e => by
    cases h with
    | cons h1 h2 =>
      simp at e
      subst e
      exact ⟨_, rfl, h1⟩
  | y :: xs, _, i + 1, x, h, e => by
    cases h with
    | cons h1 h2 => exact DpAll.at_ (i := i) h2 (by simpa using e)
theorem DpAll.get : ∀ {xs : List V} {ds : List PyData} {i : Nat} {d : PyData}, DpAll K H xs ds → ds[i]? = some d → ∃ x, xs[i]? = some x ∧ Dp K H x d
  | _, [], i, d, h, e => by simp at e
  | _, e1 :: ds, 0, d, h, e => by
    cases h with
    | cons h1 h2 =>
      simp at e
      subst e
      exact ⟨_, rfl, h1⟩
  | _, e1 :: ds, i + 1, d, h, e => by
    cases h with
    | cons h1 h2 => exact DpAll.get (i := i) h2 (by simpa using e)
theorem DpAll.snoc : ∀ {xs : List V} {ds : List PyData} {x : V} {d : PyData}, DpAll K H xs ds → Dp K H x d → DpAll K H (xs ++ [x]) (ds ++ [d])
  | [], _, x, d, h, h1 => by cases h; exact .cons h1 .nil
  | y :: xs, _, x, d, h, h1 => by
    cases h with
    | cons h2 h3 => exact .cons h2 (DpAll.snoc h3 h1)
theorem DpAll.append : ∀ {xs ys : List V} {ds es : List PyData}, DpAll K H xs ds → DpAll K H ys es → DpAll K H (xs ++ ys) (ds ++ es)
  | [], _, _, _, h, h1 => by cases h; exact h1
  | y :: xs, _, _, _, h, h1 => by
    cases h with
    | cons h2 h3 => exact .cons h2 (DpAll.append h3 h1)
end
/-! ### prices and rows -/
def pV : Option Int → V
  | none => .non
  | some i => .int i
def optD : Option Int → PyData
  | none => .none
  | some i => .int i
theorem pV_dp {K : Fg} {H : Hp} : ∀ (p : Option Int), Dp K H (pV p) (optD p)
  | none => .non
  | some i => .int i
theorem pV_inv {K : Fg} {H : Hp} {v : V} : ∀ {p : Option Int}, Dp K H v (optD p) → v = pV p
  | none, h => by cases h; rfl
  | some i, h => by cases h; rfl
abbrev Row := Int × Option Int
def rowD (r : Row) : PyData := .tuple [.int r.1, optD r.2]
def rowsD (rows : List Row) : PyData := .list (rows.map rowD)
section
variable {K : Fg} {H H' : Hp}
theorem row_inv {v : V} {r : Row} (h : Dp K H v (rowD r)) : ∃ t, v = .ref t ∧ SqT K H t [.int r.1, pV r.2] := by
  obtain ⟨a, xs, rfl, h1, h2⟩ := Dp.tup_inv h
  cases h2 with
  | cons h3 h4 =>
    cases h4 with
    | cons h5 h6 =>
      cases h6
      cases h3
      rw [pV_inv h5] at h1
      exact ⟨a, rfl, h1⟩
theorem row_mk {t : Addr} {r : Row} (h : SqT K H t [.int r.1, pV r.2]) : Dp K H (.ref t) (rowD r) := .tup h (.cons (.int _) (.cons (pV_dp _) .nil))
/-- the items of a list of rows -/
theorem rows_inv {v : V} {rows : List Row} (h : Dp K H v (rowsD rows)) : ∃ a xs, v = .ref a ∧ SqL K H a xs ∧ DpAll K H xs (rows.map rowD) ∧ xs.length = rows.length := by
  obtain ⟨a, xs, e, h1, h2⟩ := Dp.lst_inv h
  exact ⟨a, xs, e, h1, h2, by rw [DpAll.len h2, List.length_map]⟩
theorem rows_at {xs : List V} {rows : List Row} {i : Nat} {x : V} (h : DpAll K H xs (rows.map rowD)) (e : xs[i]? = some x) : ∃ r t, rows[i]? = some r ∧ x = .ref t ∧ SqT K H t [.int r.1, pV r.2] := by
  obtain ⟨d, e1, h1⟩ := DpAll.at_ h e
  rw [List.getElem?_map] at e1
  cases e2 : rows[i]? with
  | none =>
    rw [e2] at e1
    cases e1
  | some r =>
    rw [e2] at e1
    cases e1
    obtain ⟨t, e3, h3⟩ := row_inv h1
    exact ⟨r, t, rfl, e3, h3⟩
theorem rows_get {xs : List V} {rows : List Row} {i : Nat} {r : Row} (h : DpAll K H xs (rows.map rowD)) (e : rows[i]? = some r) : ∃ t, xs[i]? = some (.ref t) ∧ SqT K H t [.int r.1, pV r.2] := by
  obtain ⟨x, e1, h1⟩ := DpAll.get (i := i) (d := rowD r) h (by rw [List.getElem?_map, e]; rfl)
  obtain ⟨t, rfl, h3⟩ := row_inv h1
  exact ⟨t, e1, h3⟩
end
/-! ### the purse -/
/-- two stores, and how often it was stirred, at most n times -/
def Pu (H : Hp) (p : Addr) (n : Nat) : Prop := ∃ a b c : Int, H p = some (.lst [.int a, .int b, .int c]) ∧ 0 ≤ a ∧ 0 ≤ b ∧ b < 10 ^ 24 + 7 ∧ 0 ≤ c ∧ c ≤ (n : Int)
theorem Pu.mo {H H' : Hp} {p : Addr} {n : Nat} (h : Pu H p n) (s : Same H H') : Pu H' p n := by
  obtain ⟨a, b, c, e, r⟩ := h
  exact ⟨a, b, c, s _ _ e, r⟩
theorem Pu.le {H : Hp} {p : Addr} {n m : Nat} (h : Pu H p n) (l : n ≤ m) : Pu H p m := by
  obtain ⟨a, b, c, e, a0, b0, b1, c0, c1⟩ := h
  exact ⟨a, b, c, e, a0, b0, b1, c0, Int.le_trans c1 (Int.ofNat_le.mpr l)⟩
theorem Pu.at_ {H : Hp} {p : Addr} {n : Nat} (h : Pu H p n) : ∃ o, H p = some o := by
  obtain ⟨a, b, c, e, _⟩ := h
  exact ⟨_, e⟩
theorem Pu.ne {H : Hp} {p q : Addr} {n : Nat} (h : Pu H p n) (hq : H q = none) : q ≠ p := by
  obtain ⟨o, e⟩ := h.at_
  exact fun z => by
    rw [z, e] at hq
    cases hq
theorem Pu.new {H : Hp} {p q : Addr} {n : Nat} {o : HO} (h : Pu H p n) (hq : H q = none) : Pu (upd H q o) p n := h.mo (new_same hq)
/-- written elsewhere -/
theorem Pu.upd {H : Hp} {p q : Addr} {n : Nat} {o : HO} (h : Pu H p n) (hq : p ≠ q) : Pu (L2.upd H q o) p n := by
  obtain ⟨a, b, c, e, r⟩ := h
  exact ⟨a, b, c, by rw [upd_ne hq]; exact e, r⟩
/-- how often may be drawn of one purse -/
abbrev most : Nat := 1000000
def spCoin : Sp := fun vs H Q _ => ∃ p m n, vs = [.ref p, .int m] ∧ 0 < m ∧ m < 2 ^ 200 ∧ Pu H p n ∧ n + 1 ≤ most ∧ ∀ H' i, Same (W p H) (W p H') → Pu H' p (n + 1) → 0 ≤ i → i < m → Q (.int i) H'
/-! ### callees -/
/-- the module's name x stands for a def that keeps sp -/
def Cal (P : Program) (w : World) (K : Fg) (mg : Str → Option Value) (base : Heap) (k : Nat) (x : Str) (ps : List Str) (sp : Sp) : Prop :=
  ∃ f fd, FnOk P w K mg base CX0 k f fd ps sp ∧ mg x = some (.ref f) ∧ PySem.W.keepIn K (.ref f) = true ∧ Binds K fd ps []
def CalG (P : Program) (w : World) (K : Fg) (mg : Str → Option Value) (base : Heap) (k : Nat) (x : Str) (ps : List Str) (sp : Sp) : Prop :=
  ∃ f fd, FnG P w K mg base CX0 k f fd ps sp ∧ mg x = some (.ref f) ∧ PySem.W.keepIn K (.ref f) = true ∧ Binds K fd ps []
section
variable {X : Cx} {k : Nat} {ps : List Str} {sp : Sp} {x : Str} {p pos : Pos} {e : Expr} {es : List Expr} {t : TA}
theorem pe_c (c : Cal X.prog X.w X.K X.mg X.base k x ps sp) (hr : Room k X.A) (hg : Gl X x) (ha : PA X (e :: es) t) (hdb : (x == ("__debug__" : Str)) = false := by decide)
    (he : starEach (e :: es) X.env = (false, eval e X.env) :: starEach es X.env := by rfl) (hpl : (backTo pos (starEach es X.env)).any (·.1) = false := by rfl) : PE X (.Call (.Name x p) (e :: es) [] pos) (tCall sp [] E0 t) := by
  obtain ⟨f, fd, F, hm, hk, hb⟩ := c
  exact pe_call F hr hg hm hk hb .nil pass0 ha hdb he hpl
theorem pe_cG (c : CalG X.prog X.w X.K X.mg X.base k x ps sp) (gA : X.A.guards = some []) (hr : Room k X.A) (hg : Gl X x) (ha : PA X (e :: es) t) (hdb : (x == ("__debug__" : Str)) = false := by decide)
    (he : starEach (e :: es) X.env = (false, eval e X.env) :: starEach es X.env := by rfl) (hpl : (backTo pos (starEach es X.env)).any (·.1) = false := by rfl) : PE X (.Call (.Name x p) (e :: es) [] pos) (tCall sp [] E0 t) := by
  obtain ⟨f, fd, F, hm, hk, hb⟩ := c
  exact pe_callG F gA hr hg hm hk hb .nil pass0 ha hdb he hpl
end
end Zd

set_option Elab.async false
set_option linter.all false
set_option maxRecDepth 100000
set_option maxHeartbeats 4000000
/-! classes: what is made, asked by [], len, properties, methods -/
namespace Zd
open PySem L2 He Xh Gd Ru
variable {P : Program} {w : World} {K : Fg} {mg : Str → Option Value} {base : Heap}
/-- the module's name x stands for the class at C, whose __init__ keeps sp; ks: its parameters but self -/
def MkC (P : Program) (w : World) (K : Fg) (mg : Str → Option Value) (base : Heap) (k : Nat) (x : Str) (C : Addr) (ks : List Str) (sp : Sp) : Prop :=
  ∃ f fd, Mk K C f ∧ FnOk P w K mg base CX0 k f fd ("self" :: ks) sp ∧ mg x = some (.ref C) ∧ Binds K fd ("self" :: ks) [] ∧ KBn K fd ("self" :: ks) 1 ks (fun us ws => us ++ ws) (fun us ws => us ++ ws)
def MtC (P : Program) (w : World) (K : Fg) (mg : Str → Option Value) (base : Heap) (k : Nat) (C : Addr) (m : Str) (ps : List Str) (sp : Sp) : Prop :=
  ∃ f fd, Meth K C m f ∧ FnOk P w K mg base CX0 k f fd ps sp ∧ PySem.W.fnIn K f = true ∧ Binds K fd ps []
def PrC (P : Program) (w : World) (K : Fg) (mg : Str → Option Value) (base : Heap) (k : Nat) (C : Addr) (m : Str) (sp : Sp) : Prop :=
  ∃ p g fd, PropOf K C m p g ∧ FnOk P w K mg base CX0 k g fd ["self"] sp ∧ Binds K fd ["self"] []
theorem fnIn_of {x qual : Str} {st : Stmt} {f : Addr} {fd : FuncData} (F : FunX K x qual st f fd) : PySem.W.fnIn K f = true := by
  obtain ⟨oc, od, dV, kV, doc, pm, an, cdv, ct, osl, rfl, lk, _⟩ := F.ex
  unfold PySem.W.fnIn
  rw [lk]
section
variable {X : Cx} {k : Nat} {C : Addr} {ps ks : List Str} {sp : Sp} {x m : Str} {p pos apos : Pos} {e o a b : Expr} {es : List Expr} {kws : List Keyword} {t tk : TA} {ta tb : TE}
theorem pe_mk (c : MkC X.prog X.w X.K X.mg X.base k x C ks sp) (hr : Room (k + 1) X.A) (hg : Gl X x) (ha : PA X (e :: es) t) (hdb : (x == ("__debug__" : Str)) = false := by decide)
    (he : starEach (e :: es) X.env = (false, eval e X.env) :: starEach es X.env := by rfl) (hpl : (backTo pos (starEach es X.env)).any (·.1) = false := by rfl) : PE X (.Call (.Name x p) (e :: es) [] pos) (tMake C sp [] E0 t) := by
  obtain ⟨f, fd, M, F, hm, hb, _⟩ := c
  exact pe_make M F hr hg hm hb .nil pass0 ha hdb he hpl
theorem pe_mkK (c : MkC X.prog X.w X.K X.mg X.base k x C ks sp) (hr : Room (k + 1) X.A) (hg : Gl X x) (hkw : PK X kws tk) (hall : (backToKw pos (keywordEach kws X.env)).all (·.1.isSome) = true := by rfl)
    (hks : (backToKw pos (keywordEach kws X.env)).filterMap (·.1) = ks := by rfl) (hdb : (x == ("__debug__" : Str)) = false := by decide)
    (hpl : ((backTo pos (starEach [] X.env)).any (·.1) || (backToKw pos (keywordEach kws X.env)).any (·.1.isNone)) = false := by rfl) : PE X (.Call (.Name x p) [] kws pos) (tMakeK C 0 ks.length sp (fun us ws => us ++ ws) E0 tNil tk) := by
  obtain ⟨f, fd, M, F, hm, _, hb⟩ := c
  exact pe_makeK0 M F hr hg hm hb pass0 hkw hall hks hdb hpl
theorem pe_itm (c : MtC X.prog X.w X.K X.mg X.base k C "__getitem__" ps sp) (hr : Room (k + 1) X.A) (ha : PE X a ta) (hb : PE X b tb)
    (hsl : ∀ p i, subscripted b true (.ref p) i = runValue (.builtin "lifetime.subscript" ⟨[.ref p, i], []⟩) := by intro _ _; with_unfolding_all rfl) : PE X (.Subscript a b pos) (tGetO C sp E0 ta tb) := by
  obtain ⟨f, fd, M, F, hf, hbd⟩ := c
  exact pe_getO ha hb M F hf hr hbd pass0 hsl
def rLenM (C : Addr) (sp : Sp) : List V → Hp → VK → Prop := fun xs H Q => ∃ p dx fs, xs = [.ref p] ∧ H p = some (.ins C dx fs) ∧ sp [.ref p] H (fun v H1 => ∃ n : Nat, v = .int n ∧ n < 2 ^ 63 ∧ Q (.int n) H1) E0
theorem call_lenM (c : MtC X.prog X.w X.K X.mg X.base k C "__len__" ps sp) (hr : Room (k + 1) X.A) : CallR X (.builtin "len") (rLenM C sp) := by
  obtain ⟨f, fd, M, F, hf, hbd⟩ := c
  exact call_lenO M F hr hbd pass0
/-- o.m() -/
theorem pe_mth0 {pl : Sem Bool} (c : MtC X.prog X.w X.K X.mg X.base k C m ps sp) (cl : Cls X.K C) (hr : Room k X.A) (ho : PE X o ta)
    (ht : eval (.Call (.Attribute o m apos) [] [] pos) X.env = (do
      let ov ← eval o X.env
      standAt apos.atName
      let (f, first) ← holding [ov] (getMethod ov m pl)
      callWith pos f first (backTo pos (starEach [] X.env)) (backToKw pos (keywordEach [] X.env))) := by rfl) : PE X (.Call (.Attribute o m apos) [] [] pos) (tMeth C m sp [] E0 ta tNil) := by
  obtain ⟨f, fd, M, F, hf, hbd⟩ := c
  exact pe_meth0 ho cl M F hr hbd .nil pass0 ht
theorem pe_mth {pl : Sem Bool} (c : MtC X.prog X.w X.K X.mg X.base k C m ps sp) (cl : Cls X.K C) (hr : Room k X.A) (ho : PE X o ta) (ha : PA X (e :: es) t) (hst : starEach (e :: es) X.env = (false, eval e X.env) :: starEach es X.env := by rfl)
    (hpl : (backTo pos (starEach es X.env)).any (·.1) = false := by rfl)
    (ht : eval (.Call (.Attribute o m apos) (e :: es) [] pos) X.env = (do
      let ov ← eval o X.env
      standAt apos.atName
      let (f, first) ← holding [ov] (getMethod ov m pl)
      callWith pos f first (backTo pos (starEach (e :: es) X.env)) (backToKw pos (keywordEach [] X.env))) := by rfl) : PE X (.Call (.Attribute o m apos) (e :: es) [] pos) (tMeth C m sp [] E0 ta t) := by
  obtain ⟨f, fd, M, F, hf, hbd⟩ := c
  exact pe_meth ho cl M F hr hbd .nil pass0 ha hst hpl ht
theorem pe_prp (c : PrC X.prog X.w X.K X.mg X.base k C m sp) (cl : Cls X.K C) (hr : Room (k + 1) X.A) (ho : PE X o ta) (hab : attributeBase o m X.env (eval o X.env) = eval o X.env := by rfl) : PE X (.Attribute o m apos) (tProp C sp [] E0 ta) := by
  obtain ⟨p, g, fd, hp, F, hb⟩ := c
  exact pe_prop ho cl hp F hr hb .nil pass0 hab
end
end Zd

set_option Elab.async false
set_option linter.all false
set_option maxRecDepth 100000
set_option maxHeartbeats 4000000
/-! sorted of rows (day, price), the days unlike: by their days -/
namespace So
open PySem PyProof.Rows Srt SrtO
/-- v is a tuple of an int x and of None or an int -/
def IsRow (h : Heap) (v : Value) (x : Int) : Prop := ∃ a o t y n, v = .ref a ∧ h.get? a = some o ∧ o.cls = .type "tuple" ∧ o.data = .seq #[.int x t, y] n ∧ (y = .none ∨ ∃ i u, y = .int i u)
theorem IsRow.keeps {h h' : Heap} {v : Value} {x : Int} (p : IsRow h v x) (k : ∀ b o, h.get? b = some o → o.cls = .type "tuple" → h'.get? b = some o) : IsRow h' v x := by
  obtain ⟨a, o, t, y, n, e, ho, hc, hd, hy⟩ := p
  exact ⟨a, o, t, y, n, e, k _ _ ho hc, hc, hd, hy⟩
variable {prog : Program} {w : World} {A : Around} {E : Value → Shared → Prop} {s : Shared}
theorem eq_self {y : Value} {Q : Bool → Shared → Prop} (hy : y = .none ∨ ∃ i u, y = .int i u) (h : Q true s) : wpAny (model prog w) A (eqBool y y) Q E s := by
  rcases hy with rfl | ⟨i, u, rfl⟩
  · unfold eqBool
    refine wpAny_holding ?_
    refine wpAny_ite_split (fun _ => wpAny_bind (wpAny_rule (wpAny_pure h))) (fun n => ?_)
    exact absurd (by decide) n
  · refine SeqAt.EqAt.int_int i u i u prog w _ _ ?_
    rw [beq_self_eq_true]
    exact h
theorem swo_day (k : Value → Int) : Swo fun v u => decide (k v < k u) := by
  refine ⟨fun x y h => ?_, fun x y z h1 h2 => ?_⟩
  · have a := of_decide_eq_true h
    exact decide_eq_false (by omega)
  · have a := of_decide_eq_false h1
    have b := of_decide_eq_false h2
    exact decide_eq_false (by omega)
theorem row_cmp {vs : List Value} {k : Value → Int} (hp : ∀ v ∈ vs, IsRow s.heap v (k v)) (inj : ∀ v ∈ vs, ∀ u ∈ vs, k v = k u → v = u) : Cmp prog w A s (tuples' true) (fun p => p.1 ∈ vs) (lt2 fun v u => decide (k v < k u)) := by
  intro p q hm hm'
  have h1 := hp _ hm
  have h2 := hp _ hm'
  have hi := inj _ hm _ hm'
  show wpAny (model prog w) A (keyLt' (tuples' true) p.1 q.1) (fun r s' => s' = s ∧ r = decide (k p.1 < k q.1)) (fun _ _ => False) s
  obtain ⟨a, o, t, y, n, e, ho, hc, hd, hy⟩ := h1
  obtain ⟨a', o', t', y', n', e', ho', hc', hd', hy'⟩ := h2
  generalize k p.1 = x at hi hd ⊢
  generalize k q.1 = x' at hi hd' ⊢
  by_cases ex : x = x'
  · have eq := hi ex
    rw [e, e'] at eq
    cases eq
    rw [ho] at ho'
    cases ho'
    rw [hd] at hd'
    cases hd'
    rw [e, e']
    refine PySem.W.kat_lt ho hd ho hd ?_
    show PySem.W.KatLex prog w A true (decide (2 < 2)) _ [(.int x t, .int x t), (y, y)] 0 s
    refine PySem.W.kat_cons (eq_self (.inr ⟨x, t, rfl⟩) ?_)
    refine PySem.W.kat_yes (PySem.W.kat_cons (eq_self hy ?_))
    refine PySem.W.kat_yes (PySem.W.kat_nil ⟨rfl, ?_⟩)
    exact (decide_eq_false (Int.lt_irrefl _)).symm ▸ rfl
  · rw [e, e']
    refine PySem.W.kat_lt ho hd ho' hd' ?_
    show PySem.W.KatLex prog w A true (decide (2 < 2)) _ [(.int x t, .int x' t'), (y, y')] 0 s
    refine PySem.W.kat_cons (SeqAt.EqAt.int_int x t x' t' prog w _ _ ?_)
    have eb : (x == x') = false := by simpa using ex
    rw [eb]
    exact PySem.W.kat_no (oneLt_int ⟨rfl, rfl⟩)
theorem firsts {h : Heap} : ∀ {vs : List Value}, (∀ v ∈ vs, ∃ x, IsRow h v x) → ∃ fs : List Value, PySem.W.KatTups h vs fs ∧ fs.length = vs.length ∧ ∀ f ∈ fs, ∃ x t, f = Value.int x t
  | [], _ => ⟨[], PySem.W.KatTups.nil, rfl, fun _ hm => nomatch hm⟩
  | v :: vs, hp => by
    obtain ⟨fs, h1, h2, h3⟩ := firsts (vs := vs) fun v' hm => hp v' (List.mem_cons_of_mem _ hm)
    obtain ⟨x, a, o, t, y, n, e, ho, hc, hd, _⟩ := hp v List.mem_cons_self
    subst e
    refine ⟨.int x t :: fs, PySem.W.KatTups.cons ho hc hd rfl h1, congrArg Nat.succ h2, fun f hm => ?_⟩
    rcases List.mem_cons.mp hm with rfl | hm
    · exact ⟨x, t, rfl⟩
    · exact h3 f hm
theorem rows_sortable {a : Addr} {vs : List Value} {k : Value → Int} (h0 : 0 < vs.length) (hp : ∀ v ∈ vs, IsRow s.heap v (k v)) (inj : ∀ v ∈ vs, ∀ u ∈ vs, k v = k u → v = u) (ha : ∀ o, s.heap.get? a = some o → o.cls ≠ .type "tuple") :
    SortableO prog w A s a vs fun v u => decide (k v < k u) := by
  intro h' keep
  have hp' : ∀ v ∈ vs, IsRow h' v (k v) := fun v hm => (hp v hm).keeps fun b o e c => keep b o (fun z => ha o (z ▸ e) c) e
  obtain ⟨fs, h1, h2, h3⟩ := firsts fun v hm => ⟨_, hp' v hm⟩
  refine ⟨tuples' true, fun Q E hq => ?_, row_cmp hp' inj⟩
  refine PySem.W.kat_kind (T := .type "int") h1 (by omega) (fun f hm => ?_) (by rfl) ?_
  · obtain ⟨x, t, rfl⟩ := h3 f hm
    exact PySem.W.Looks.now
  · have e : (Value.type "int" != Value.type "tuple") = true := by decide +kernel
    rw [e]
    exact hq
theorem sorted_rows {l : Addr} {vs : List Value} {k : Value → Int} {Q : Value → Shared → Prop} (hl : s.heap.IsList l vs.toArray) (hz : vs.length ≤ sizeLine) (hp : ∀ v ∈ vs, IsRow s.heap v (k v)) (inj : ∀ v ∈ vs, ∀ u ∈ vs, k v = k u → v = u)
    (h : ∀ (h' : Heap) (d : Addr) (out : List Value), out.Pairwise (fun x y => ¬ k y < k x) → out.Perm vs → (∀ b o, s.heap.get? b = some o → h'.get? b = some o) → s.heap.objs.size ≤ d → (∃ n, h'.get? d = some (seqObj "list" out.toArray n)) → Q (.ref d) { s with heap := h' }) :
    wpAny (model prog w) A (call (.builtin "sorted") [.ref l]) Q E s := by
  refine sorted_ord (swo_day k) hl hz (fun h2 h₁ a ha kk => ?_) fun out hs hb => ?_
  · refine rows_sortable (s := { s with heap := h₁ }) (by omega) (fun v hm => (hp v hm).keeps fun b o e _ => (kk b o e).2) inj fun o e c => ?_
    have e' : some o = some (seqObj "list" vs.toArray 0) := e.symm.trans ha
    cases e'
    exact absurd (Value.type.inj c) (by decide)
  · exact h _ _ out (hs.imp fun {x y} q => of_decide_eq_false q) hb.perm (fun b o e => sortedAll_old e) (Nat.le_succ _) (sortedAll_at s.heap vs out.toArray)
end So
namespace Zd
open PySem L2 He Xh Gd Ru
def rSortR (K : Fg) : List V → Hp → VK → Prop := fun vs H Q => ∃ (v : V) (rows : List Row), vs = [v] ∧ Dp K H v (rowsD rows) ∧ (rows.map (·.1)).Nodup ∧
  ∀ (q : Addr) (ys : List V) (es : List Row), H q = none → es.Perm rows → es.Pairwise (fun a b => a.1 < b.1) → DpAll K H ys (es.map rowD) → Q (.ref q) (upd H q (.lst ys))
/-- a pairing follows a rearrangement -/
theorem perm_pair {α β : Type} {R : α → β → Prop} {l₁ l₂ : List α} (p : l₁.Perm l₂) : ∀ {m : List β}, Paired R l₂ m → ∃ m', m'.Perm m ∧ Paired R l₁ m' := by
  induction p with
  | nil =>
    intro m h
    exact ⟨m, List.Perm.refl _, h⟩
  | cons x _ ih =>
    intro m h
    cases h with
    | cons h1 h2 =>
      obtain ⟨m', p', h'⟩ := ih h2
      exact ⟨_ :: m', p'.cons _, .cons h1 h'⟩
  | swap x y l =>
    intro m h
    cases h with
    | cons h1 h2 =>
      cases h2 with
      | cons h3 h4 => exact ⟨_, List.Perm.swap _ _ _, .cons h3 (.cons h1 h4)⟩
  | trans _ _ ih1 ih2 =>
    intro m h
    obtain ⟨m1, p1, h1⟩ := ih2 h
    obtain ⟨m2, p2, h2⟩ := ih1 h1
    exact ⟨m2, p2.trans p1, h2⟩
theorem pair_mem {α β : Type} {R : α → β → Prop} : ∀ {l : List α} {m : List β} {x : α}, Paired R l m → x ∈ l → ∃ y, y ∈ m ∧ R x y
  | _, _, _, .cons h1 h2, hm => by
    rcases List.mem_cons.mp hm with e | hm
    · subst e
      exact ⟨_, List.mem_cons_self, h1⟩
    · obtain ⟨y, hy, r⟩ := pair_mem h2 hm
      exact ⟨y, List.mem_cons_of_mem _ hy, r⟩
theorem pair_inj {α : Type} {R : α → Row → Prop} : ∀ {l : List α} {m : List Row}, Paired R l m → (m.map (·.1)).Nodup → ∀ x ∈ l, ∀ y ∈ l, ∀ d, (∀ r, R x r → r.1 = d) → (∀ r, R y r → r.1 = d) → x = y
  | _, _, .nil, _, x, hx, _, _, _, _, _ => nomatch hx
  | _, _, .cons (a := a) (b := b) h1 h2, nd, x, hx, y, hy, d, ex, ey => by
    rw [List.map_cons, List.nodup_cons] at nd
    have no : ∀ z ∈ _, (∀ r, R z r → r.1 = d) → b.1 ≠ d := fun z hz ez e => by
      obtain ⟨r, hr, rr⟩ := pair_mem h2 hz
      exact nd.1 (List.mem_map.mpr ⟨r, hr, by rw [e, ez r rr]⟩)
    rcases List.mem_cons.mp hx with e1 | hx
    · rcases List.mem_cons.mp hy with e2 | hy
      · rw [e1, e2]
      · exact absurd (ex b (e1 ▸ h1)) (no y hy ey)
    · rcases List.mem_cons.mp hy with e2 | hy
      · exact absurd (ey b (e2 ▸ h1)) (no x hx ex)
      · exact pair_inj h2 nd.2 x hx y hy d ex ey
theorem pair_asc {α : Type} {R : α → Row → Prop} {k : α → Int} (hk : ∀ x r, R x r → k x = r.1) : ∀ {l : List α} {m : List Row}, Paired R l m → l.Pairwise (fun x y => ¬ k y < k x) → (m.map (·.1)).Nodup → m.Pairwise fun a b => a.1 < b.1
  | _, _, .nil, _, _ => .nil
  | _, _, .cons (a := a) (b := b) h1 h2, pw, nd => by
    rw [List.map_cons, List.nodup_cons] at nd
    rw [List.pairwise_cons] at pw
    refine List.pairwise_cons.mpr ⟨fun r hr => ?_, pair_asc hk h2 pw.2 nd.2⟩
    have rev : ∀ {l : List α} {m : List Row} {r : Row}, Paired R l m → r ∈ m → ∃ x, x ∈ l ∧ R x r := by
      intro l m r h hr
      induction h with
      | nil => cases hr
      | cons q1 q2 ih =>
        rcases List.mem_cons.mp hr with e | hr
        · subst e
          exact ⟨_, List.mem_cons_self, q1⟩
        · obtain ⟨x, hx, rx⟩ := ih hr
          exact ⟨x, List.mem_cons_of_mem _ hx, rx⟩
    obtain ⟨x, hx, rx⟩ := rev h2 hr
    have h3 := pw.1 x hx
    rw [hk _ _ h1, hk _ _ rx] at h3
    have h4 : b.1 ≠ r.1 := fun e => nd.1 (List.mem_map.mpr ⟨r, hr, e.symm⟩)
    omega
/-- the first int of the tuple at v -/
def kd (h : Heap) (v : Value) : Int := match v with
  | .ref a => match h.get? a with
    | some o => match o.data with
      | .seq its _ => match its.toList with
        | .int x _ :: _ => x
        | _ => 0
      | _ => 0
    | none => 0
  | _ => 0
theorem kd_row {h : Heap} {v : Value} {x : Int} (r : So.IsRow h v x) : kd h v = x := by
  obtain ⟨a, o, t, y, n, rfl, ho, hc, hd, _⟩ := r
  unfold kd
  simp only [ho, hd]
theorem cr_sortedR {X : Cx} : CallR X (.builtin "sorted") (rSortR X.K) := by
  intro pins s σ H vs us Q I r h
  obtain ⟨v, rows, rfl, hd, nd, q⟩ := h
  obtain ⟨a, xs, rfl, hS, hX, hlen⟩ := rows_inv hd
  obtain ⟨its, rv, hl, hz⟩ := I.list hS
  obtain ⟨u, rfl, ru⟩ := vals1 r
  obtain rfl : u = Value.ref a := ru
  have pr : ∀ {xs : List V} {its : List Value} {rows : List Row}, Vals xs its → DpAll X.K H xs (rows.map rowD) → Paired (fun (u : Value) (r : Row) => ∃ t, u = .ref t ∧ SqT X.K H t [.int r.1, pV r.2]) its rows := by
    intro xs its rows rv
    induction rv generalizing rows with
    | nil =>
      intro h
      cases rows with
      | nil => exact .nil
      | cons r rs => cases h
    | cons r1 r2 ih =>
      intro h
      cases rows with
      | nil => cases h
      | cons r rs =>
        cases h with
        | cons h1 h2 =>
          obtain ⟨t, rfl, ht⟩ := row_inv h1
          cases r1
          exact .cons ⟨t, rfl, ht⟩ (ih h2)
  have isr : ∀ (u : Value) (r : Row), (∃ t, u = .ref t ∧ SqT X.K H t [.int r.1, pV r.2]) → So.IsRow s.heap u r.1 := by
    rintro u r ⟨t, rfl, ht⟩
    obtain ⟨its2, r2, ⟨o, ho, hc, n, hdt⟩, hz2⟩ := I.tuple ht
    obtain ⟨u1, u2, rfl, ri, rj⟩ := vals2 r2
    obtain ⟨t1, rfl⟩ := ri
    refine ⟨t, o, t1, u2, n, rfl, ho, hc, hdt, ?_⟩
    cases e : r.2 with
    | none =>
      rw [e] at rj
      exact .inl rj
    | some i =>
      rw [e] at rj
      obtain ⟨t2, rfl⟩ := rj
      exact .inr ⟨i, t2, rfl⟩
  have P := pr rv hX
  have hkd : ∀ (u : Value) (r : Row), (∃ t, u = .ref t ∧ SqT X.K H t [.int r.1, pV r.2]) → kd s.heap u = r.1 := fun u r z => kd_row (isr u r z)
  refine So.sorted_rows (k := kd s.heap) hl.isList (by rw [← rv.length]; exact hz) (fun v hv => ?_) (fun v hv u hu e => ?_) fun h' d out h1 h2 kp hdz hn => ?_
  · obtain ⟨r, _, rr⟩ := pair_mem P hv
    have z := isr v r rr
    rw [← hkd v r rr] at z
    exact z
  · exact pair_inj P nd v hv u hu (kd s.heap v) (fun r rr => (hkd v r rr).symm) (fun r rr => by rw [e]; exact (hkd u r rr).symm)
  · obtain ⟨es, pe, P2⟩ := perm_pair h2 P
    have nd2 : (es.map (·.1)).Nodup := (pe.map (·.1)).symm.nodup nd
    have asc := pair_asc hkd P2 h1 nd2
    have h3 : ∀ u ∈ out, ∃ a, u = Value.ref a := fun u hu => by
      obtain ⟨r, _, t, e, _⟩ := pair_mem P2 hu
      exact ⟨t, e⟩
    have back : ∀ {out : List Value} {es : List Row}, Paired (fun (u : Value) (r : Row) => ∃ t, u = .ref t ∧ SqT X.K H t [.int r.1, pV r.2]) out es → DpAll X.K H (out.map backV) (es.map rowD) := by
      intro out es P
      induction P with
      | nil => exact .nil
      | cons q1 q2 ih =>
        obtain ⟨t, rfl, ht⟩ := q1
        exact .cons (row_mk ht) ih
    obtain ⟨n, hn⟩ := hn
    refine ⟨.ref d, upd H d (.lst (out.map backV)), I.laid (t' := s.toks) kp hdz ⟨?_, out, n, vals_back h3, hn⟩, rfl, q d _ es (I.hok.fresh hdz) pe asc (back P2)⟩
    rw [List.length_map, h2.length_eq, ← rv.length]
    exact hz
end Zd

set_option Elab.async false
set_option linter.all false
set_option maxRecDepth 100000
set_option maxHeartbeats 4000000
/-! data whose text is short -/
namespace Zd
open PySem L2 He Xh Gd Ru
structure Tame (k n : Nat) (d : PyData) : Prop where
  sh : d.showable = true
  cl : d.canLay0 = true
  dp : d.depth ≤ k
  ln : d.shown.length ≤ n
theorem Tame.nd {k n : Nat} {d : PyData} (h : Tame k n d) : d.hasDict = false := PyData.hasDict_of_canLay d h.cl
theorem Tame.shaped {k n : Nat} {d : PyData} (h : Tame k n d) (hk : k ≤ 64) : SeqAt.shaped d = true := by
  unfold SeqAt.shaped
  rw [h.cl, decide_eq_true (Nat.le_trans h.dp hk)]
  rfl
theorem Tame.le {k k' n n' : Nat} {d : PyData} (h : Tame k n d) (hk : k ≤ k') (hn : n ≤ n') : Tame k' n' d := ⟨h.sh, h.cl, Nat.le_trans h.dp hk, Nat.le_trans h.ln hn⟩
theorem tame_none : Tame 1 20 .none := ⟨rfl, rfl, by simp [PyData.depth], by show (Str.ofString "None").length ≤ 20; decide⟩
theorem tame_bool (b : Bool) : Tame 1 20 (.bool b) := ⟨rfl, rfl, by simp [PyData.depth], by cases b <;> decide⟩
theorem tame_int {i : Int} (h : i.natAbs < 10 ^ 18) : Tame 1 20 (.int i) := by
  have h2 : (toString i).length ≤ 18 + 1 := int_text_length_le10 (by decide) h
  have h3 : i.natAbs.log2 < 60 := PySem.Flt.log2_lt_of (by decide) (Nat.lt_of_lt_of_le h (by decide))
  refine ⟨?_, rfl, by simp [PyData.depth], ?_⟩
  · show decide (i.natAbs.log2 < 1920) = true
    exact decide_eq_true (by omega)
  · show (Str.ofString (toString i)).length ≤ 20
    have e : (Str.ofString (toString i)).length = (toString i).length := by
      exact ofString_length _
    rw [e]
    omega
theorem Tame.all {k n : Nat} : ∀ {ds : List PyData}, (∀ d ∈ ds, Tame k n d) → PyData.showableAll ds = true ∧ PyData.canLayAll0 ds = true ∧ PyData.depthAll ds ≤ k ∧ ((PyData.shownAll ds).map (·.length)).sum ≤ ds.length * n ∧ (PyData.shownAll ds).length = ds.length
  | [], _ => by simp [PyData.showableAll, PyData.canLayAll0, PyData.depthAll, PyData.shownAll]
  | d :: ds, h => by
    have h1 := h d List.mem_cons_self
    obtain ⟨a1, a2, a3, a4, a5⟩ := Tame.all (ds := ds) fun e he => h e (List.mem_cons_of_mem _ he)
    refine ⟨?_, ?_, ?_, ?_, ?_⟩
    · simp [PyData.showableAll, h1.sh, a1]
    · simp [PyData.canLayAll0, h1.cl, a2]
    · simp only [PyData.depthAll]
      have := h1.dp
      omega
    · simp only [PyData.shownAll, List.map_cons, List.sum_cons, List.length_cons]
      have := h1.ln
      rw [Nat.succ_mul]
      omega
    · simp [PyData.shownAll, a5]
theorem tame_list {k n m N : Nat} {ds : List PyData} (h : ∀ d ∈ ds, Tame k n d) (hm : ds.length ≤ m) (hN : m * n + 2 * m + 3 ≤ N) : Tame (k + 1) N (.list ds) := by
  obtain ⟨a1, a2, a3, a4, a5⟩ := Tame.all h
  have l := listText_len_le (PyData.shownAll ds)
  have hmn : ds.length * n ≤ m * n := Nat.mul_le_mul_right n hm
  refine ⟨a1, a2, ?_, ?_⟩
  · simp only [PyData.depth]
    omega
  · show (listText (PyData.shownAll ds)).length ≤ N
    omega
theorem tame_tuple {k n m N : Nat} {ds : List PyData} (h : ∀ d ∈ ds, Tame k n d) (hm : ds.length ≤ m) (hN : m * n + 2 * m + 3 ≤ N) : Tame (k + 1) N (.tuple ds) := by
  obtain ⟨a1, a2, a3, a4, a5⟩ := Tame.all h
  have l := tupleText_len_le (PyData.shownAll ds)
  have hmn : ds.length * n ≤ m * n := Nat.mul_le_mul_right n hm
  refine ⟨a1, a2, ?_, ?_⟩
  · simp only [PyData.depth]
    omega
  · show (tupleText (PyData.shownAll ds)).length ≤ N
    omega
theorem tame_opt {o : Option Int} (h : ∀ i, o = some i → i.natAbs < 10 ^ 18) : Tame 1 20 (optD o) := by
  cases o with
  | none => exact tame_none
  | some i => exact tame_int (h i rfl)
theorem tame_row {r : Row} (h : r.1.natAbs < 10 ^ 18) (h2 : ∀ i, r.2 = some i → i.natAbs < 10 ^ 18) : Tame 2 50 (rowD r) := by
  refine tame_tuple (n := 20) (m := 2) (fun d hd => ?_) (by simp) (by decide)
  rcases List.mem_cons.mp hd with e | hd
  · rw [e]
    exact tame_int h
  · have e : d = optD r.2 := by simpa using hd
    rw [e]
    exact tame_opt h2
theorem tame_rows {rows : List Row} (h : ∀ r ∈ rows, r.1.natAbs < 10 ^ 18 ∧ ∀ i, r.2 = some i → i.natAbs < 10 ^ 18) (hl : rows.length ≤ 10000) : Tame 3 1000000 (rowsD rows) := by
  refine tame_list (n := 50) (m := 10000) (fun d hd => ?_) (by rw [List.length_map]; exact hl) (by decide)
  obtain ⟨r, hr, e⟩ := List.mem_map.mp hd
  rw [← e]
  exact tame_row (h r hr).1 (h r hr).2
/-- repr of tame data -/
theorem Tame.repr {K : Fg} {k n : Nat} {v : V} {d : PyData} {H : Hp} {Q : VK} (t : Tame k n d) (hk : k ≤ 30) (hn : n ≤ 16000000) (hd : Dp K H v d) (h : Q (.str d.shown) H) : rRepr K [v] H Q :=
  ⟨v, d, rfl, hd, t.sh, t.nd, Nat.le_trans t.dp hk, Nat.le_trans t.ln (Nat.le_trans hn (by decide)), h⟩
end Zd

set_option Elab.async false
set_option linter.all false
set_option maxRecDepth 100000
set_option maxHeartbeats 0
namespace Tx
open PySem PySem.Spec PyProof.Rows L2 He Xh
abbrev pr : Program := PySem.Challenge.pw_inforce_k05_lists_alike
abbrev rw_ : PySem.W.OpenLaw := PySem.Challenge.rw_inforce_k05_lists_alike
def top (i : Nat) : Stmt := pr.main.body.getD i (.Pass ⟨0, 0, 0, 0⟩)
abbrev sInForce : Stmt := top 5
abbrev sInit : Stmt := inClass (top 6) 0
abbrev sEntries : Stmt := inClass (top 6) 1
abbrev sPriceListChanges : Stmt := inClass (top 6) 2
abbrev sPriceListAlike : Stmt := inClass (top 6) 3
abbrev sPriceListFirstUnlike : Stmt := inClass (top 6) 4
abbrev sGet : Stmt := inClass (top 6) 5
abbrev sLen : Stmt := inClass (top 6) 7
abbrev sPriceListEq : Stmt := inClass (top 6) 8
abbrev sPurse : Stmt := top 8
abbrev sCoin : Stmt := top 9
abbrev sPrice : Stmt := top 10
abbrev sRows : Stmt := top 11
abbrev sAny : Stmt := top 12
abbrev sSweep : Stmt := top 13
abbrev sLawFirstApart : Stmt := top 14
abbrev sLawNearRows : Stmt := top 15
abbrev sLawLast : Stmt := top 16
abbrev sLawNear : Stmt := top 17
abbrev sLawPairRight : Stmt := top 18
abbrev sRight : Stmt := top 19
abbrev sLaw : Stmt := top 20
def ds : List Df := [⟨glo "in_force", "in_force", "in_force", top 5⟩,
  ⟨met "PriceList" "__init__", "__init__", "PriceList.__init__", inClass (top 6) 0⟩,
  ⟨gtr "PriceList" "entries", "entries", "PriceList.entries", inClass (top 6) 1⟩,
  ⟨met "PriceList" "changes", "changes", "PriceList.changes", inClass (top 6) 2⟩,
  ⟨met "PriceList" "alike", "alike", "PriceList.alike", inClass (top 6) 3⟩,
  ⟨met "PriceList" "first_unlike", "first_unlike", "PriceList.first_unlike", inClass (top 6) 4⟩,
  ⟨met "PriceList" "__getitem__", "__getitem__", "PriceList.__getitem__", inClass (top 6) 5⟩,
  ⟨met "PriceList" "__len__", "__len__", "PriceList.__len__", inClass (top 6) 7⟩,
  ⟨met "PriceList" "__eq__", "__eq__", "PriceList.__eq__", inClass (top 6) 8⟩,
  ⟨glo "_law_purse", "_law_purse", "_law_purse", top 8⟩,
  ⟨glo "_law_coin", "_law_coin", "_law_coin", top 9⟩,
  ⟨glo "_law_price_drawn", "_law_price_drawn", "_law_price_drawn", top 10⟩,
  ⟨glo "_law_rows_drawn", "_law_rows_drawn", "_law_rows_drawn", top 11⟩,
  ⟨glo "_law_any_rows", "_law_any_rows", "_law_any_rows", top 12⟩,
  ⟨glo "_law_sweep", "_law_sweep", "_law_sweep", top 13⟩,
  ⟨glo "_law_first_apart", "_law_first_apart", "_law_first_apart", top 14⟩,
  ⟨glo "_law_near_rows", "_law_near_rows", "_law_near_rows", top 15⟩,
  ⟨glo "_law_last", "_law_last", "_law_last", top 16⟩,
  ⟨glo "_law_near", "_law_near", "_law_near", top 17⟩,
  ⟨glo "_law_pair_right", "_law_pair_right", "_law_pair_right", top 18⟩,
  ⟨glo "_law_right", "_law_right", "_law_right", top 19⟩,
  ⟨glo "law", "law", "law", top 20⟩]
def fa : List (Fg → Bool) := [fGlo "PriceError",
  fGlo "InvalidDay",
  fGlo "DoubleDay",
  fGlo "in_force",
  fGlo "PriceList",
  fCls "PriceList",
  fMkr "PriceList",
  fProp "PriceList" "entries",
  fMeth "PriceList" "changes",
  fMeth "PriceList" "alike",
  fMeth "PriceList" "first_unlike",
  fMeth "PriceList" "__getitem__",
  fSeq "PriceList",
  fMeth "PriceList" "__len__",
  fMeth "PriceList" "__eq__",
  fNoat "PriceList" "_entries",
  fGlo "_law_purse",
  fGlo "_law_coin",
  fGlo "_law_price_drawn",
  fGlo "_law_rows_drawn",
  fGlo "_law_any_rows",
  fGlo "_law_sweep",
  fGlo "_law_first_apart",
  fGlo "_law_near_rows",
  fGlo "_law_last",
  fGlo "_law_near",
  fGlo "_law_pair_right",
  fGlo "_law_right",
  fGlo "law",
  fFree "TypeError",
  fFree "abs",
  fFree "dict",
  fFree "int",
  fFree "isinstance",
  fFree "len",
  fFree "list",
  fFree "max",
  fFree "min",
  fFree "range",
  fFree "repr"] ++
  [fFree "sorted"]
def loose : List Str := ["__name__", "PriceError", "InvalidDay", "DoubleDay", "in_force", "PriceList", "_law_purse", "_law_coin", "_law_price_drawn", "_law_rows_drawn", "_law_any_rows", "_law_sweep", "_law_first_apart", "_law_near_rows", "_law_last", "_law_near", "_law_pair_right", "_law_right"]
abbrev R : PySem.W.OpenRow := PySem.W.OpenLaw.row rw_
def ob (s : PySem.W.SharedT) : AlX := lookG 6 fa ds (HandSHeadRun.getT s)
theorem ob_eq (s : PySem.W.SharedT) : ob s = (hook 6 fa ds).obs s.abs := lookG_eq (HandSHeadRun.getT_eq s)
theorem run (w : World) : HandSHeadRun.RunEq R (PySem.W.view R.prog [20]) (hook 6 fa ds) ob 5200 loose w := by
  intro os
  kernel_rfl
end Tx

set_option Elab.async false
set_option linter.all false
set_option maxRecDepth 100000
set_option maxHeartbeats 4000000
namespace Pt
open PySem L2 He Xh Gd Ru Zd Tx
section
variable {P : Program} {w : World} {K : Fg} {mg : Str → Option Value} {base : Heap}
theorem scCoin : FnScope ["purse", "many", "drawn", "stirred"] ["purse", "many"] (defScope sCoin) := ⟨rfl, rfl, rfl, by decide +kernel, rfl, by decide +kernel, by decide +kernel⟩
theorem ok_coin {f : Addr} {fd : FuncData} (F : FunX K "_law_coin" "_law_coin" sCoin f fd) (gInt : mg "int" = none) : FnOk P w K mg base CX0 1 f fd ["purse", "many"] spCoin := by
  refine F.ok scCoin (fun vs H Q E h => ?_) (fun cdv A outer s H vs Q E hr h => ?_)
  · obtain ⟨p, m, n, rfl, _⟩ := h
    rfl
  · obtain ⟨p, m, n, rfl, m0, m1, ⟨a, b, c, hp, a0, b0, b1, c0, c1⟩, hn, k⟩ := h
    refine ⟨_, PSs.nox (pss_cons (ps_if (pt_cmpR op_gt (pe_ix ix_list (pv 0) pe_int (fun _ _ => rfl)) pe_int (nomark _))
        (pss_cons (ps_set (i := 2) scCoin.nd rfl (Or.inl rfl) (pe_op op_mod (pe_callTy call_int1 (by rfl) gInt (by decide +kernel) (pa_cons (pe_ix ix_list (pv 0) pe_int (fun _ _ => rfl)) pa_nil)) (pv 1)))
        (pss_cons (ps_asg (pe_op op_fdivW (pe_ix ix_list (pv 0) pe_int (fun _ _ => rfl)) (pv 1)) (pg_sub (pv 0) pe_int set_list))
        (pss_one (ps_ret (pv 2))))) pss_nil)
      (pss_cons (ps_asg (pe_op op_add (pe_ix ix_list (pv 0) pe_int (fun _ _ => rfl)) pe_int) (pg_sub (pv 0) pe_int set_list))
      (pss_cons (ps_set (i := 3) scCoin.nd rfl (Or.inl rfl) (pe_op op_mod (pe_op op_pw (pe_callTy call_int1 (by rfl) gInt (by decide +kernel)
          (pa_cons (pe_op op_add (pe_ix ix_list (pv 0) pe_int (fun _ _ => rfl)) (pe_op op_mul pe_int (pe_ix ix_list (pv 0) pe_int (fun _ _ => rfl)))) pa_nil)) pe_int)
          (pe_op op_add (pe_op op_pow pe_int pe_int) pe_int)))
      (pss_cons (ps_set (i := 3) scCoin.nd rfl (Or.inl rfl) (pe_op op_mod (pe_op op_pw (pe_callTy call_int1 (by rfl) gInt (by decide +kernel)
          (pa_cons (pe_op op_add (pv 3) (pe_op op_mul pe_int (pe_ix ix_list (pv 0) pe_int (fun _ _ => rfl)))) pa_nil)) pe_int)
          (pe_op op_add (pe_op op_pow pe_int pe_int) pe_int)))
      (pss_one (ps_ret (pe_op op_mod (pe_callTy call_int1 (by rfl) gInt (by decide +kernel) (pa_cons (pe_op op_fdivW (pv 3) pe_int) pa_nil)) (pv 1)))))))), ?_⟩
    have hS : ∀ {H1 : Hp} {x y z : V}, H1 p = some (.lst [x, y, z]) → SqL K H1 p [x, y, z] := fun h => SqL.of h
    refine ⟨_, rfl, p, _, _, _, rfl, rfl, hS hp, (show atI _ (0 : Int) = some _ from rfl), _, _, rfl, rfl, _, rfl, ?_⟩
    have g0 : atI [V.int a, V.int b, V.int c] (0 : Int) = some (.int a) := rfl
    refine ite2 (fun hc => ?_) (fun hc => ?_)
    · have a1 : 0 < a := of_decide_eq_true hc
      have dv : 0 ≤ a / m := Int.ediv_nonneg a0 (Int.le_of_lt m0)
      refine ⟨_, rfl, p, _, _, _, rfl, rfl, hS hp, rfl, .inl ⟨_, rfl, _, rfl, _, _, rfl, rfl, m0, ?_⟩⟩
      refine ⟨_, rfl, p, _, _, _, rfl, rfl, hS hp, rfl, _, rfl, _, _, rfl, rfl, wide_div m0 (b := 200) (by omega) (by decide) (by decide), _, rfl, p, _, _, 0, rfl, rfl, hp, rfl, ?_⟩
      refine ⟨_, rfl, k _ _ (by rw [W_upd]; exact Same.refl _) ?_ (Int.emod_nonneg _ (by omega)) (Int.emod_lt_of_pos _ m0)⟩
      exact ⟨a / m, b, c, upd_same, dv, b0, b1, c0, by omega⟩
    · have hc1 : c + 1 ≤ 1000000 := by
        have h1 : ((n + 1 : Nat) : Int) ≤ ((1000000 : Nat) : Int) := Int.ofNat_le.mpr hn
        omega
      refine ⟨_, rfl, p, _, _, _, rfl, rfl, hS hp, rfl, _, _, rfl, rfl, _, rfl, p, _, _, 2, rfl, rfl, hp, rfl, ?_⟩
      have hq : (upd H p (.lst [.int a, .int b, .int (c + 1)])) p = some (.lst [.int a, .int b, .int (c + 1)]) := upd_same
      have pw : (10 : Int) ^ (25 : Int).toNat + 13 = 10000000000000000000000013 := by decide
      have pw2 : (10 : Int) ^ (24 : Int).toNat + 7 = 1000000000000000000000007 := by decide
      refine ⟨_, rfl, p, _, _, _, rfl, rfl, hS hq, rfl, _, rfl, p, _, _, _, rfl, rfl, hS hq, rfl, _, _, rfl, rfl, .inl ⟨by decide, by decide⟩, _, _, rfl, rfl, .inl ⟨_, rfl, ?_⟩⟩
      refine ⟨_, _, rfl, rfl, cpw_of (b := 100) (by decide) (by decide) (by omega) (by decide), _, _, rfl, rfl, ⟨by decide, by decide, by decide⟩, _, _, rfl, rfl, _, _, rfl, rfl, by rw [pw]; show (0 : Int) < _; decide, ?_⟩
      rw [pw]
      generalize hz : (b + 2038074743 * (c + 1)) ^ (3 : Int).toNat % 10000000000000000000000013 = z
      have z0 : 0 ≤ z := hz ▸ Int.emod_nonneg _ (by decide)
      have z1 : z < 10000000000000000000000013 := hz ▸ Int.emod_lt_of_pos _ (by decide)
      refine ⟨_, rfl, _, rfl, p, _, _, _, rfl, rfl, hS hq, rfl, _, _, rfl, rfl, .inl ⟨by decide, by decide⟩, _, _, rfl, rfl, .inl ⟨_, rfl, ?_⟩⟩
      refine ⟨_, _, rfl, rfl, cpw_of (b := 100) (by decide) (by decide) (by omega) (by decide), _, _, rfl, rfl, ⟨by decide, by decide, by decide⟩, _, _, rfl, rfl, _, _, rfl, rfl, by rw [pw2]; show (0 : Int) < _; decide, ?_⟩
      rw [pw2]
      generalize hy : (z + 982451653 * (c + 1)) ^ (2 : Int).toNat % 1000000000000000000000007 = y
      refine ⟨_, rfl, _, _, rfl, rfl, wide_div (b := 11) (by decide) (by decide) (by decide) (by decide), .inl ⟨_, rfl, _, rfl, _, _, rfl, rfl, m0, ?_⟩⟩
      refine k _ _ (by rw [W_upd]; exact Same.refl _) ⟨a, b, c + 1, hq, a0, b0, b1, by omega, by omega⟩ (Int.emod_nonneg _ (by omega)) (Int.emod_lt_of_pos _ m0)
end
end Pt

set_option Elab.async false
set_option linter.all false
set_option maxRecDepth 100000
set_option maxHeartbeats 4000000
namespace Pt
open PySem L2 He Xh Gd Ru Zd Tx
section
variable {P : Program} {w : World} {K : Fg} {mg : Str → Option Value} {base : Heap}
def spPurse (K : Fg) : Sp := fun vs H Q _ => ∃ (a : Addr) (i : Nat) (ns : List Int), vs = [.ref a, .int i] ∧ SqL K H a (ns.map V.int) ∧ ∀ H' p, H p = none → Same H H' → Pu H' p 0 → Q (.ref p) H'
theorem scPurse : FnScope ["script", "place", "cell"] ["script", "place"] (defScope sPurse) := ⟨rfl, rfl, rfl, by decide +kernel, rfl, by decide +kernel, by decide +kernel⟩
theorem ok_purse {f : Addr} {fd : FuncData} (F : FunX K "_law_purse" "_law_purse" sPurse f fd) (gInt : mg "int" = none) (gLen : mg "len" = none) (gMax : mg "max" = none) (gAbs : mg "abs" = none) :
    FnOk P w K mg base CX0 1 f fd ["script", "place"] (spPurse K) := by
  refine F.ok scPurse (fun vs H Q E h => ?_) (fun cdv A outer s H vs Q E hr h => ?_)
  · obtain ⟨p, i, ns, rfl, _⟩ := h
    rfl
  · obtain ⟨a, i, ns, rfl, hS, k⟩ := h
    refine ⟨_, PSs.nox (pss_cons (ps_set (i := 2) scPurse.nd rfl (Or.inl rfl) (pe_ifExp (pt_cmpR op_lt (pv 1) (pe_callB call_len_seq (by rfl) gLen PySem.boot_len (pa_cons (pv 0) pa_nil)) (nomark _)) (pe_ix ix_list (pv 0) (pv 1) (fun _ _ => rfl)) pe_int))
      (pss_one (ps_ret (pe_lst (pa_cons (pe_callB (call_max2 rfl) (by rfl) gMax (by decide +kernel) (pa_cons pe_int (pa_cons (pe_op op_sub (pe_callB call_abs (by rfl) gAbs (by decide +kernel) (pa_cons (pv 2) pa_nil)) (pe_op op_pow pe_int pe_int)) pa_nil)))
        (pa_cons (pe_op op_mod (pe_callTy call_int1 (by rfl) gInt (by decide +kernel) (pa_cons (pe_op op_add (pe_op op_add (pe_op op_mul (pv 2) pe_int) (pe_op op_mul (pv 1) pe_int)) pe_int) pa_nil)) (pe_op op_add (pe_op op_pow pe_int pe_int) pe_int))
        (pa_cons pe_int pa_nil))))))), ?_⟩
    have fin : ∀ c : Int, tRet (tLst (tCons (tCB (fun xs H Q => ∃ i j, xs = [.int i, .int j] ∧ Q (.int (if j > i then j else i)) H) (tCons (tC (.int 0)) (tCons (tOp (rI0 fun i j => .int (i - j)) (tCB (fun xs H Q => ∃ i, xs = [.int i] ∧ Q (.int (if i < 0 then -i else i)) H) (tCons (tVar 2) tNil)) (tOp (rI CPow fun i j => .int (i ^ j.toNat)) (tC (.int 10)) (tC (.int 18)))) tNil)))
        (tCons (tOp (rI (fun _ j => 0 < j) fun i j => .int (i % j)) (tCB (fun xs H Q => (∃ i, xs = [.int i] ∧ Q (.int i) H) ∨ ∃ k, xs = [.bl k] ∧ Q (.int (if k = true then 1 else 0)) H) (tCons (tOp (rI0 fun i j => .int (i + j)) (tOp (rI0 fun i j => .int (i + j)) (tOp (rI CMul fun i j => .int (i * j)) (tVar 2) (tC (.int 30011))) (tOp (rI CMul fun i j => .int (i * j)) (tVar 1) (tC (.int 7368787)))) (tC (.int 104729))) tNil))
          (tOp (rI0 fun i j => .int (i + j)) (tOp (rI CPow fun i j => .int (i ^ j.toNat)) (tC (.int 10)) (tC (.int 24))) (tC (.int 7)))) (tCons (tC (.int 0)) tNil))))
        { nx := fun _ H' => Q .non H', rt := Q } [some (.ref a), some (.int i), some (.int c)] H := by
      intro c
      have pw2 : (10 : Int) ^ (24 : Int).toNat + 7 = 1000000000000000000000007 := by decide
      refine ⟨_, rfl, _, rfl, _, _, rfl, rfl, ⟨by decide, by decide, by decide⟩, _, _, rfl, rfl, _, _, rfl, ?_⟩
      refine ⟨_, rfl, _, _, rfl, rfl, .inr ⟨by decide, by decide⟩, _, rfl, _, _, rfl, rfl, .inr ⟨by decide, by decide⟩, _, _, rfl, rfl, _, _, rfl, rfl, .inl ⟨_, rfl, _, _, rfl, rfl, ⟨by decide, by decide, by decide⟩, _, _, rfl, rfl, _, _, rfl, rfl, (by rw [pw2]; show (0 : Int) < _; decide), ?_⟩⟩
      rw [pw2]
      refine ⟨by show 3 ≤ sizeLine; decide, fun p hp => k _ p hp (new_same hp) ⟨_, _, _, upd_same, ?_, Int.emod_nonneg _ (by decide), Int.emod_lt_of_pos _ (by decide), Int.le_refl _, Int.le_refl _⟩⟩
      split <;> omega
    refine ⟨_, rfl, _, rfl, a, _, rfl, .inl hS, _, _, rfl, rfl, _, rfl, ?_⟩
    refine ite2 (fun hc => ?_) (fun hc => ?_)
    · have hi : (i : Int) < ((ns.map V.int).length : Int) := of_decide_eq_true hc
      rw [List.length_map] at hi
      have hi2 : i < ns.length := by omega
      have hg : (ns.map V.int)[i]? = some (.int ns[i]) := by
        rw [List.getElem?_map, List.getElem?_eq_getElem hi2]
        rfl
      exact ⟨_, rfl, _, rfl, a, _, _, _, rfl, rfl, hS, atI_nat hg, fin _⟩
    · exact fin 0
/-! ### a price is drawn -/
def Small (o : Option Int) : Prop := ∀ i, o = some i → -9999 ≤ i ∧ i ≤ 9999
def spPrice : Sp := fun vs H Q _ => ∃ p n, vs = [.ref p] ∧ Pu H p n ∧ n + 2 ≤ most ∧ ∀ H' o, Same (W p H) (W p H') → Pu H' p (n + 2) → Small o → Q (pV o) H'
theorem scPrice : FnScope ["purse", "way"] ["purse"] (defScope sPrice) := ⟨rfl, rfl, rfl, by decide +kernel, rfl, by decide +kernel, by decide +kernel⟩
theorem ok_price {f : Addr} {fd : FuncData} (F : FunX K "_law_price_drawn" "_law_price_drawn" sPrice f fd) (cCoin : Cal P w K mg base 1 "_law_coin" ["purse", "many"] spCoin) : FnOk P w K mg base CX0 2 f fd ["purse"] spPrice := by
  refine F.ok scPrice (fun vs H Q E h => ?_) (fun cdv A outer s H vs Q E hr h => ?_)
  · obtain ⟨p, n, rfl, _⟩ := h
    rfl
  · obtain ⟨p, n, rfl, hP, hn, k⟩ := h
    refine ⟨_, PSs.nox (pss_cons (ps_set (i := 1) scPrice.nd rfl (Or.inl rfl) (pe_c cCoin hr rfl (pa_cons (pv 0) (pa_cons pe_int pa_nil))))
      (pss_cons (ps_if (pt_cmpR op_eq (pv 1) pe_int (nomark _)) (pss_one (ps_ret pe_non)) pss_nil)
      (pss_one (ps_ret (pe_ifExp (pt_cmpR op_eq (pv 1) pe_int (nomark _)) (pe_op op_sub (pe_c cCoin hr rfl (pa_cons (pv 0) (pa_cons pe_int pa_nil))) pe_int) (pe_op op_add (pe_c cCoin hr rfl (pa_cons (pv 0) (pa_cons pe_int pa_nil))) pe_int)))))), ?_⟩
    refine ⟨_, rfl, p, 6, n, rfl, by decide, by omega, hP, by omega, fun H1 i s1 P1 i0 i1 => ?_⟩
    refine ⟨_, rfl, rfl, _, rfl, ?_⟩
    refine ite2 (fun hc => ?_) (fun hc => ?_)
    · exact k _ none s1 (P1.le (by omega)) fun i e => nomatch e
    · refine ⟨_, rfl, rfl, _, rfl, ?_⟩
      refine ite2 (fun hc => ?_) (fun hc => ?_)
      · refine ⟨_, rfl, p, 19999, n + 1, rfl, by decide, by omega, P1, by omega, fun H2 j s2 P2 j0 j1 => ⟨_, _, rfl, rfl, ?_⟩⟩
        exact k _ (some (j - 9999)) (s1.trans s2) P2 fun i e => by
          cases e
          omega
      · refine ⟨_, rfl, p, 3, n + 1, rfl, by decide, by omega, P1, by omega, fun H2 j s2 P2 j0 j1 => ⟨_, _, rfl, rfl, ?_⟩⟩
        exact k _ (some (j + 4)) (s1.trans s2) P2 fun i e => by
          cases e
          omega
end
end Pt

set_option Elab.async false
set_option linter.all false
set_option maxRecDepth 100000
set_option maxHeartbeats 4000000
namespace Pt
open PySem L2 He Xh Gd Ru Zd Tx
/-! ### rows are drawn -/
def Good (lst : Int) (rows : List Row) : Prop := (rows.map (·.1)).Nodup ∧ ∀ r ∈ rows, 0 ≤ r.1 ∧ r.1 ≤ lst ∧ Small r.2
theorem good_nil (lst : Int) : Good lst [] := ⟨List.nodup_nil, fun r h => nomatch h⟩
theorem Good.snoc {lst : Int} {rows : List Row} {r : Row} (g : Good lst rows) (h : r.1 ∉ rows.map (·.1)) (h0 : 0 ≤ r.1) (h1 : r.1 ≤ lst) (h2 : Small r.2) : Good lst (rows ++ [r]) := by
  refine ⟨?_, fun s hs => ?_⟩
  · rw [List.map_append, List.nodup_append]
    refine ⟨g.1, by simp, ?_⟩
    rintro a ha b hb rfl
    simp at hb
    rw [hb] at ha
    exact h ha
  · rcases List.mem_append.mp hs with q | q
    · exact g.2 s q
    · have e : s = r := by simpa using q
      subst e
      exact ⟨h0, h1, h2⟩
theorem Good.le {l l' : Int} {rows : List Row} (g : Good l rows) (h : l ≤ l') : Good l' rows := ⟨g.1, fun r hr => ⟨(g.2 r hr).1, Int.le_trans (g.2 r hr).2.1 h, (g.2 r hr).2.2⟩⟩
theorem valV_no {κ : Type} [DecidableEq κ] : ∀ {kvs : List (κ × V)} {k : κ}, valV kvs k = none → k ∉ kvs.map (·.1)
  | [], k, _, h => nomatch h
  | p :: r, k, e, h => by
    by_cases q : p.1 = k
    · rw [valV_pos q] at e
      cases e
    · rw [valV_neg q] at e
      rcases List.mem_cons.mp (show k ∈ p.1 :: r.map (·.1) from h) with z | z
      · exact q z.symm
      · exact valV_no e z
/-- a new list of rows -/
structure NewRows (K : Fg) (p : Addr) (H H' : Hp) (l : Addr) (rows : List Row) : Prop where
  fresh : H l = none
  ne : l ≠ p
  at_ : ∃ xs, H' l = some (.lst xs) ∧ DpAll K (Hd [p, l] H') xs (rows.map rowD)
def spRows (K : Fg) : Sp := fun vs H Q _ => ∃ (p : Addr) (n mx lst : Nat), vs = [.ref p, .int mx, .int lst] ∧ mx ≤ 60 ∧ lst ≤ 500 ∧ Pu H p n ∧ n + 1 + 3 * mx ≤ most ∧
  ∀ H' l rows, Same (W p H) (W p H') → Pu H' p (n + 1 + 3 * mx) → NewRows K p H H' l rows → Good lst rows → rows.length ≤ mx → Q (.ref l) H'
theorem scRows : FnScope ["purse", "most", "last", "found", "known", "turn", "spot"] ["purse", "most", "last"] (defScope sRows) := ⟨rfl, rfl, rfl, by decide +kernel, rfl, by decide +kernel, by decide +kernel⟩
def keysOf (rows : List Row) : List (Key × V) := rows.map fun r => (Sum.inl r.1, .int 1)
theorem keysOf_mem {rows : List Row} {s : Int} (h : valV (keysOf rows) (Sum.inl s : Key) = none) : s ∉ rows.map (·.1) := fun hm => by
  refine valV_no h ?_
  obtain ⟨r, hr, e⟩ := List.mem_map.mp hm
  unfold keysOf
  rw [List.map_map]
  exact List.mem_map.mpr ⟨r, hr, by rw [← e]; rfl⟩
section
variable {P : Program} {w : World} {K : Fg} {mg : Str → Option Value} {base : Heap}
theorem ok_rows {f : Addr} {fd : FuncData} (F : FunX K "_law_rows_drawn" "_law_rows_drawn" sRows f fd) (gRange : mg "range" = none) (cCoin : Cal P w K mg base 1 "_law_coin" ["purse", "many"] spCoin) (cPrice : Cal P w K mg base 2 "_law_price_drawn" ["purse"] spPrice) :
    FnOk P w K mg base CX0 3 f fd ["purse", "most", "last"] (spRows K) := by
  refine F.ok scRows (fun vs H Q E h => ?_) (fun cdv A outer s H vs Q E hr h => ?_)
  · obtain ⟨p, n, mx, lst, rfl, _⟩ := h
    rfl
  · obtain ⟨p, n, mx, lst, rfl, hmx, hlst, hP, hn, k⟩ := h
    have hr1 : Room 1 _ := hr.mono (by decide)
    have hu := hu_of hr
    refine ⟨_, PSs.nox (pss_cons (ps_par (i := 3) (j := 4) (by rfl) scRows.nd rfl rfl (by decide) rfl rfl (pa_cons (pe_lst pa_nil) (pa_cons pe_dnewK pa_nil)) (by rfl))
      (pss_cons (ps_for PassesOwn.never rfl (pi_range1 (by rfl) gRange (pa_cons (pe_c cCoin hr1 rfl (pa_cons (pv 0) (pa_cons (pe_op op_add (pv 1) pe_int) pa_nil))) pa_nil)) (pg_name (i := 5) scRows.nd rfl (Or.inl rfl))
        (pss_cons (ps_set (i := 6) scRows.nd rfl (Or.inl rfl) (pe_c cCoin hr1 rfl (pa_cons (pv 0) (pa_cons (pe_op op_add (pv 2) pe_int) pa_nil))))
        (pss_one (ps_if (pt_cmp (pc_dnotin hu (pv 6) (pv 4)))
          (pss_cons (ps_dput hu (pv 4) (pv 6) pe_int rfl)
          (pss_one (ps_expr (pe_bm PySem.F.plainAttrs_list PySem.F.slot_list_append PySem.F.type_list_append mt_append (pv 3) (pa_cons (pe_tup (pa_cons (pv 6) (pa_cons (pe_c cPrice hr rfl (pa_cons (pv 0) pa_nil)) pa_nil))) pa_nil))))) pss_nil))))
      (pss_one (ps_ret (pv 3))))), ?_⟩
    refine ⟨Nat.zero_le _, fun l hl => ?_⟩
    intro dk hdk
    have npl := hP.ne hl
    have hl0 : H l = none := hl
    have P1 : Pu (upd H l (.lst [])) p n := hP.new hl
    have npd := P1.ne hdk
    have nld : l ≠ dk := fun z => by rw [← z, upd_same] at hdk; cases hdk
    have P2 := P1.new (o := .dK []) hdk
    have hd0 : H dk = none := by rw [upd_ne nld.symm] at hdk; exact hdk
    refine ⟨_, _, rfl, ?_⟩
    refine ⟨_, rfl, _, rfl, _, _, rfl, rfl, ?_⟩
    refine ⟨p, (mx : Int) + 1, n, rfl, by omega, by omega, P2, by omega, fun H3 j s3 P3 j0 j1 => ?_⟩
    refine ⟨j, rfl, by omega, by omega, ?_⟩
    have jm : j.toNat ≤ mx := by omega
    have mp : ∀ a ∈ [p], a ∈ [dk, l, p] := by simp
    have s0 : Same (W p H) (Hd [dk, l, p] H3) := Hd_add (Hd_add (((Hd_new hl).trans (Hd_new hdk)).trans s3) (Hd_none hl0)) (Hd_none hd0)
    have hl3 : H3 l = some (.lst []) := call_at s3 npl (by rw [upd_ne nld, upd_same])
    have hd3 : H3 dk = some (.dK []) := call_at s3 npd upd_same
    refine for_range (lo := 0) (n := j.toNat) (fun i σ H' => ∃ (xs : List V) (rows : List Row) (v5 v6 : Option V), σ = [some (.ref p), some (.int mx), some (.int lst), some (.ref l), some (.ref dk), v5, v6] ∧ Same (W p H) (Hd [dk, l, p] H') ∧
      Pu H' p (n + 1 + 3 * i) ∧ H' l = some (.lst xs) ∧ H' dk = some (.dK (keysOf rows)) ∧ DpAll K (Hd [dk, l, p] H') xs (rows.map rowD) ∧ Good lst rows ∧ rows.length ≤ i) ?_ ?_ ?_
    · exact ⟨[], [], none, none, rfl, s0, P3, hl3, hd3, .nil, good_nil _, Nat.le_refl _⟩
    · rintro i σ H4 hi ⟨xs, rows, v5, v6, rfl, s4, P4, hl4, hd4, dp4, g4, len4⟩
      refine ⟨_, rfl, _, rfl, _, _, rfl, rfl, p, (lst : Int) + 1, _, rfl, by omega, by omega, P4, by omega, fun H5 sp s5 P5 sp0 sp1 => ?_⟩
      have hl5 := call_at s5 npl hl4
      have hd5 := call_at s5 npd hd4
      have w5 := Hd_mono s5 mp
      refine ⟨_, rfl, _, rfl, dk, _, rfl, DGet.k (k := Sum.inl sp) hd5, _, rfl, ?_⟩
      cases hv : valV (keysOf rows) (Sum.inl sp : Key) with
      | some y => exact iteF ⟨xs, rows, _, _, rfl, s4.trans w5, P5.le (by omega), hl5, hd5, dp4.mo w5, g4, by omega⟩
      | none =>
        have new := keysOf_mem hv
        have lk : (keysOf rows).length < sizeLine := by
          unfold keysOf
          rw [List.length_map]
          exact Nat.lt_of_le_of_lt (show rows.length ≤ 100 by omega) (by decide)
        refine iteT ⟨_, rfl, _, rfl, dk, _, rfl, DPut.k (k := Sum.inl sp) hd5 lk, ?_⟩
        rw [putK_new _ hv]
        generalize hH6 : upd H5 dk (.dK (keysOf rows ++ [(Sum.inl sp, .int 1)])) = H6
        have P6 : Pu H6 p (n + 1 + 3 * i + 1) := hH6 ▸ P5.upd npd.symm
        have hl6 : H6 l = some (.lst xs) := by rw [← hH6, upd_ne nld]; exact hl5
        have hd6 : H6 dk = some (.dK (keysOf rows ++ [(Sum.inl sp, .int 1)])) := hH6 ▸ upd_same
        have e6 : Hd [dk, l, p] H6 = Hd [dk, l, p] H5 := hH6 ▸ Hd_upd (by simp)
        refine ⟨_, rfl, .inl ⟨rfl, _, SqL.of hl6⟩, _, rfl, _, rfl, p, _, rfl, P6, by omega, fun H7 o s7 P7 so => ?_⟩
        have hl7 := call_at s7 npl hl6
        have hd7 := call_at s7 npd hd6
        have w7 := Hd_mono s7 mp
        rw [e6] at w7
        refine ⟨by show 2 ≤ sizeLine; decide, fun t ht => ?_⟩
        generalize hH8 : upd H7 t (.tup [.int sp, pV o]) = H8
        have hl8 : H8 l = some (.lst xs) := by rw [← hH8, upd_ne (ne_of_none hl7 ht)]; exact hl7
        have hd8 : H8 dk = some (.dK (keysOf rows ++ [(Sum.inl sp, .int 1)])) := by rw [← hH8, upd_ne (ne_of_none hd7 ht)]; exact hd7
        have ht8 : H8 t = some (.tup [.int sp, pV o]) := hH8 ▸ upd_same
        have w8 : Same (Hd [dk, l, p] H5) (Hd [dk, l, p] H8) := w7.trans (hH8 ▸ Hd_new ht)
        have P8 : Pu H8 p (n + 1 + 3 * i + 1 + 2) := hH8 ▸ P7.new ht
        have nt : t ∉ [dk, l, p] := by
          have n1 := P7.ne ht
          have n2 := (ne_of_none hl7 ht).symm
          have n3 := (ne_of_none hd7 ht).symm
          simp [n1, n2, n3]
        refine ⟨l, xs, _, rfl, rfl, hl8, ?_, ?_⟩
        · exact Nat.lt_of_le_of_lt (show xs.length ≤ 100 by rw [DpAll.len dp4, List.length_map]; omega) (by decide)
        have e9 : Hd [dk, l, p] (upd H8 l (.lst (xs ++ [.ref t]))) = Hd [dk, l, p] H8 := Hd_upd (by simp)
        refine ⟨xs ++ [.ref t], rows ++ [(sp, o)], _, _, rfl, ?_, (P8.upd npl.symm).le (by omega), upd_same, ?_, ?_, g4.snoc new sp0 (by omega) so, ?_⟩
        · rw [e9]
          exact (s4.trans w5).trans w8
        · rw [upd_ne nld.symm, hd8]
          unfold keysOf
          rw [List.map_append]
          rfl
        · rw [e9, List.map_append]
          exact DpAll.snoc (dp4.mo (w5.trans w8)) (row_mk (.inl (.inl (by rw [Hd_out nt]; exact ht8))))
        · rw [List.length_append]
          exact Nat.succ_le_succ len4
    · rintro σ H4 ⟨xs, rows, v5, v6, rfl, s4, P4, hl4, hd4, dp4, g4, len4⟩
      exact ⟨_, rfl, k H4 l rows (s4.trans (Hd_sub mp)) (P4.le (by omega)) ⟨hl0, npl, _, hl4, dp4.mo (Hd_sub (by simp))⟩ g4 (by omega)⟩
end
end Pt

set_option Elab.async false
set_option linter.all false
set_option maxRecDepth 100000
set_option maxHeartbeats 4000000
namespace Pt
open PySem L2 He Xh Gd Ru Zd Tx
/-- a comprehension without a test keeps every item -/
theorem yes_ {σ : L2.St} {H : Hp} {A B : Hp → Prop} (h : A H) : tYes σ H (fun b H3 => if b = true then A H3 else B H3) := by
  show if true = true then A H else B H
  rw [if_pos rfl]
  exact h
theorem NewRows.back {K : Fg} {p l : Addr} {H H1 H2 : Hp} {rows : List Row} (r : NewRows K p H1 H2 l rows) (s : Same (W p H) (W p H1)) : NewRows K p H H2 l rows := by
  refine ⟨?_, r.ne, r.at_⟩
  cases e : H l with
  | none => rfl
  | some o => exact absurd (call_at s r.ne e) (by rw [r.fresh]; exact fun z => nomatch z)
def spAny (K : Fg) : Sp := fun vs H Q _ => ∃ (p : Addr) (n : Nat), vs = [.ref p] ∧ Pu H p n ∧ n + 200 ≤ most ∧
  ∀ H' l rows, Same (W p H) (W p H') → Pu H' p (n + 200) → NewRows K p H H' l rows → Good 402 rows → rows.length ≤ 40 → Q (.ref l) H'
theorem scAny : FnScope ["purse", "size", "step", "off", "at"] ["purse"] (defScope sAny) := ⟨rfl, rfl, rfl, by decide +kernel, rfl, by decide +kernel, by decide +kernel⟩
/-- days in even steps, downward -/
theorem step_days {off step : Int} (hs : 1 ≤ step) : ∀ (m : Nat) (rows : List Row), rows.length = m → (∀ (i : Nat) (r : Row), rows[i]? = some r → r.1 = off + step * (39 - (i : Int))) → (rows.map (·.1)).Nodup := by
  intro m rows hm h
  refine List.pairwise_iff_getElem.mpr fun i j hi hj hij => ?_
  rw [List.length_map] at hi hj
  rw [List.getElem_map, List.getElem_map, h i _ (List.getElem?_eq_getElem hi), h j _ (List.getElem?_eq_getElem hj)]
  intro e
  have e2 : step * (39 - (i : Int)) = step * (39 - (j : Int)) := by omega
  have e3 := Int.eq_of_mul_eq_mul_left (by omega) e2
  omega
section
variable {P : Program} {w : World} {K : Fg} {mg : Str → Option Value} {base : Heap}
theorem ok_any {f : Addr} {fd : FuncData} (F : FunX K "_law_any_rows" "_law_any_rows" sAny f fd) (gRange : mg "range" = none) (c_law_coin : Cal P w K mg base 1 "_law_coin" ["purse", "many"] spCoin) (c_law_price_drawn : Cal P w K mg base 2 "_law_price_drawn" ["purse"] spPrice)
    (c_law_rows_drawn : Cal P w K mg base 3 "_law_rows_drawn" ["purse", "most", "last"] (spRows K)) : FnOk P w K mg base CX0 4 f fd ["purse"] (spAny K) := by
  refine F.ok scAny (fun vs H Q E h => ?_) (fun cdv A outer s H vs Q E hr h => ?_)
  · obtain ⟨p, n, rfl, _⟩ := h
    rfl
  · obtain ⟨p, n, rfl, hP, hn, k⟩ := h
    have hr1 : Room 1 _ := hr.mono (by decide)
    have hr2 : Room 2 _ := hr.mono (by decide)
    refine ⟨_, PSs.nox (pss_cons (ps_set (i := 1) scAny.nd rfl (.inl rfl) (pe_c c_law_coin (hr.mono (by decide)) rfl (pa_cons (pv 0) (pa_cons pe_int pa_nil))))
        (pss_cons (ps_if (pt_cmpR op_eq (pv 1) pe_int (nomark _)) (pss_one (ps_ret (pe_c c_law_rows_drawn hr rfl (pa_cons (pv 0) (pa_cons pe_int (pa_cons pe_int pa_nil)))))) pss_nil)
        (pss_cons (ps_if (pt_cmpR op_eq (pv 1) pe_int (nomark _)) (pss_cons (ps_asg (pe_tup (pa_cons (pe_op op_add pe_int (pe_c c_law_coin (hr.mono (by decide)) rfl (pa_cons (pv 0) (pa_cons pe_int pa_nil)))) (pa_cons (pe_c c_law_coin (hr.mono (by decide)) rfl (pa_cons (pv 0) (pa_cons pe_int pa_nil))) pa_nil))) (pg_tup (by rfl) (pgs_cons (pg_name (i := 2) scAny.nd rfl (.inr rfl)) (pgs_cons (pg_name (i := 3) scAny.nd rfl (.inr rfl)) pgs_nil))))
          (pss_one (ps_ret (pe_lc (own := [("at", 4)]) (tt := tYes) rfl scAny.nd (pi_range1 (by rfl) gRange (pa_cons pe_int pa_nil)) (blkOk_by (own := [("at", 4)]) (N := ["purse", "size", "step", "off", "at"]) (sc := defScope sAny) (by decide +kernel)) (fun _ _ _ _ _ => by exact (pg_name (i := 4) scAny.nd rfl (.inl rfl))) (fun _ _ _ _ _ => pts_nil) (fun _ _ _ _ _ => by exact (pe_tup (pa_cons (pe_op op_add (pv 3) (pe_op op_mul (pv 2) (pe_op op_sub pe_int (pv 4)))) (pa_cons (pe_c c_law_price_drawn (hr.mono (by decide)) rfl (pa_cons (pv 0) pa_nil)) pa_nil)))))))) pss_nil)
        (pss_one (ps_ret (pe_c c_law_rows_drawn hr rfl (pa_cons (pv 0) (pa_cons pe_int (pa_cons (pe_ix ix_list (pe_lst (pa_cons pe_int (pa_cons pe_int pa_nil))) (pe_op op_sub (pv 1) pe_int) (fun _ _ => rfl)) pa_nil))))))))), ?_⟩
    refine ⟨_, rfl, p, 4, n, rfl, by decide, by omega, hP, by omega, fun H1 i s1 P1 i0 i1 => ?_⟩
    refine ⟨_, rfl, rfl, _, rfl, ?_⟩
    refine ite2 (fun hc => ?_) (fun hc => ?_)
    · exact ⟨_, rfl, p, n + 1, 40, 402, rfl, by decide, by decide, P1, by omega, fun H2 l rows s2 P2 nr g hl => k H2 l rows (s1.trans s2) (P2.le (by omega)) (nr.back s1) g hl⟩
    · refine ⟨_, rfl, rfl, _, rfl, ?_⟩
      refine ite2 (fun hc2 => ?_) (fun hc2 => ?_)
      · refine ⟨_, rfl, p, 10, _, rfl, by decide, by omega, P1, by omega, fun H2 a s2 P2 a0 a1 => ⟨_, _, rfl, rfl, ?_⟩⟩
        refine ⟨_, rfl, p, 13, _, rfl, by decide, by omega, P2, by omega, fun H3 b s3 P3 b0 b1 => ⟨by show 2 ≤ sizeLine; decide, fun t ht => ?_⟩⟩
        refine ⟨t, _, rfl, .inl (.inl upd_same), rfl, ?_⟩
        generalize hH4 : upd H3 t (.tup [.int (1 + a), .int b]) = H4
        have s4 : Same (W p H) (W p H4) := ((s1.trans s2).trans s3).trans (hH4 ▸ Hd_new ht)
        have P4 : Pu H4 p (n + 3) := hH4 ▸ P3.new ht
        refine ⟨_, _, rfl, _, _, rfl, rfl, 40, rfl, by decide, by decide, fun D hD => ?_⟩
        have npD := P4.ne hD
        have hD0 : H D = none := back_none s4 npD hD
        have mp : ∀ a ∈ [p], a ∈ [D, p] := by simp
        have eD : ∀ {G : Hp} {o : HO}, Hd [D, p] (upd G D o) = Hd [D, p] G := Hd_upd (by simp)
        refine lc_range (lo := 0) (n := 40) (fun j Hc => ∃ (xs : List V) (rows : List Row), Hc D = some (.lst xs) ∧ Same (W p H) (Hd [D, p] Hc) ∧ Pu Hc p (n + 3 + 2 * j) ∧ DpAll K (Hd [D, p] Hc) xs (rows.map rowD) ∧ rows.length = j ∧
          ∀ (i : Nat) (r : Row), rows[i]? = some r → r.1 = b + (1 + a) * (39 - (i : Int)) ∧ Small r.2) ?_ ?_ ?_
        · refine ⟨[], [], upd_same, ?_, P4.upd npD.symm, .nil, rfl, fun i r e => nomatch e⟩
          rw [eD]
          exact Hd_add s4 (Hd_none hD0)
        · rintro j H5 hj ⟨xs, rows, h5, s5, P5, dp5, l5, r5⟩
          refine ⟨rfl, yes_ ?_⟩
          refine ⟨_, rfl, _, rfl, _, rfl, _, _, rfl, rfl, _, _, rfl, rfl, .inl ⟨by omega, by omega⟩, _, _, rfl, rfl, ?_⟩
          refine ⟨_, rfl, p, _, rfl, P5, by omega, fun H6 o s6 P6 so => ⟨by show 2 ≤ sizeLine; decide, fun t6 ht6 => ?_⟩⟩
          have w6 : Same (Hd [D, p] H5) (Hd [D, p] (upd H6 t6 (.tup [.int (b + (1 + a) * (39 - (0 + (j : Int)))), pV o]))) := (Hd_mono s6 mp).trans (Hd_new ht6)
          have h6 := call_at s6 npD h5
          have nt : t6 ∉ [D, p] := by
            have n1 := P6.ne ht6
            have n2 := (ne_of_none h6 ht6).symm
            simp [n1, n2]
          refine ⟨xs, by rw [upd_ne (ne_of_none h6 ht6)]; exact h6, Nat.lt_of_le_of_lt (show xs.length ≤ 100 by rw [DpAll.len dp5, List.length_map]; omega) (by decide), ?_⟩
          refine ⟨xs ++ [.ref t6], rows ++ [(b + (1 + a) * (39 - (0 + (j : Int))), o)], upd_same, ?_, ((P6.new ht6).upd npD.symm).le (by omega), ?_, by rw [List.length_append, l5]; rfl, fun i r e => ?_⟩
          · rw [eD]
            exact s5.trans w6
          · rw [eD, List.map_append]
            exact DpAll.snoc (dp5.mo w6) (row_mk (.inl (.inl (by rw [Hd_out nt, upd_same]))))
          · rcases Nat.lt_or_ge i rows.length with hi | hi
            · rw [List.getElem?_append_left hi] at e
              exact r5 i r e
            · rw [List.getElem?_append_right hi] at e
              have hz : i - rows.length = 0 := by
                cases q : i - rows.length with
                | zero => rfl
                | succ z =>
                  rw [q] at e
                  cases e
              rw [hz] at e
              cases e
              have ei : i = j := by omega
              refine ⟨?_, so⟩
              rw [ei, Int.zero_add]
        · rintro H5 ⟨xs, rows, h5, s5, P5, dp5, l5, r5⟩
          refine k H5 D rows (s5.trans (Hd_sub mp)) (P5.le (by omega)) ⟨hD0, npD, xs, h5, dp5.mo (Hd_sub (by simp))⟩ ⟨step_days (by omega) 40 rows l5 (fun i r e => (r5 i r e).1), fun r hr => ?_⟩ (by omega)
          obtain ⟨i, hi, e⟩ := List.getElem_of_mem hr
          have q := r5 i r (by rw [List.getElem?_eq_getElem hi, e])
          have hi2 : i < 40 := by omega
          have hm : (1 + a) * (39 - (i : Int)) ≤ 10 * 39 := by
            refine Int.mul_le_mul ?_ ?_ ?_ ?_ <;> omega
          have hm0 : 0 ≤ (1 + a) * (39 - (i : Int)) := Int.mul_nonneg (by omega) (by omega)
          refine ⟨?_, ?_, q.2⟩
          · rw [q.1]
            omega
          · rw [q.1]
            omega
      · have e : i = 2 ∨ i = 3 := by
          have n0 : i ≠ 0 := fun z => hc (by rw [z]; rfl)
          have n1 : i ≠ 1 := fun z => hc2 (by rw [z]; rfl)
          omega
        refine ⟨_, rfl, by show 2 ≤ sizeLine; decide, fun q hq => ?_⟩
        have s4 : Same (W p H) (W p (upd H1 q (.lst [.int 9, .int 40]))) := s1.trans (Hd_new hq)
        rcases e with e | e
        · subst e
          exact ⟨_, rfl, _, _, rfl, rfl, q, _, _, _, rfl, rfl, SqL.of upd_same, (show atI [V.int 9, V.int 40] ((2 : Int) - 2) = some (.int 9) from rfl), p, n + 1, 7, 9, rfl, by decide, by decide, P1.new hq, by omega,
            fun H2 l rows s2 P2 nr g hl => k H2 l rows (s4.trans s2) (P2.le (by omega)) (nr.back s4) (g.le (by decide)) (by omega)⟩
        · subst e
          exact ⟨_, rfl, _, _, rfl, rfl, q, _, _, _, rfl, rfl, SqL.of upd_same, (show atI [V.int 9, V.int 40] ((3 : Int) - 2) = some (.int 40) from rfl), p, n + 1, 7, 40, rfl, by decide, by decide, P1.new hq, by omega,
            fun H2 l rows s2 P2 nr g hl => k H2 l rows (s4.trans s2) (P2.le (by omega)) (nr.back s4) (g.le (by decide)) (by omega)⟩
end
end Pt

set_option Elab.async false
set_option linter.all false
set_option maxRecDepth 100000
set_option maxHeartbeats 4000000
namespace Pt
open PySem L2 He Xh Gd Ru Zd Tx
/-! ### what is in force, day by day -/
def lookR : List Row → Int → Option (Option Int)
  | [], _ => none
  | r :: rs, d => if r.1 = d then some r.2 else lookR rs d
def heldAt (rows : List Row) : Nat → Option Int
  | 0 => none
  | n + 1 => (lookR rows n).getD (heldAt rows n)
def sweepV (rows : List Row) (n : Nat) : List V := (List.range n).map fun d => pV (heldAt rows (d + 1))
def pairsOf (rows : List Row) : List (Key × V) := rows.map fun r => (Sum.inl r.1, pV r.2)
theorem pairs_val : ∀ (rows : List Row) (d : Int), valV (pairsOf rows) (Sum.inl d : Key) = (lookR rows d).map pV
  | [], d => rfl
  | r :: rs, d => by
    show valV (((Sum.inl r.1 : Key), pV r.2) :: pairsOf rs) (Sum.inl d) = Option.map pV (if r.1 = d then some r.2 else lookR rs d)
    by_cases e : r.1 = d
    · rw [if_pos e, valV_pos (by rw [e])]
      rfl
    · rw [if_neg e, valV_neg (fun z => e (Sum.inl.inj z)), pairs_val rs d]
theorem lookR_none : ∀ {rows : List Row} {d : Int}, d ∉ rows.map (·.1) → lookR rows d = none
  | [], d, _ => rfl
  | r :: rs, d, h => by
    have h1 : ¬ r.1 = d := fun e => h (by rw [← e]; exact List.mem_cons_self)
    show (if r.1 = d then some r.2 else lookR rs d) = none
    rw [if_neg h1]
    exact lookR_none fun z => h (List.mem_cons_of_mem _ z)
theorem pairs_snoc {rows : List Row} {r : Row} (h : r.1 ∉ rows.map (·.1)) : putK (pairsOf rows) (Sum.inl r.1 : Key) (pV r.2) = pairsOf (rows ++ [r]) := by
  rw [putK_new _ (by rw [pairs_val, lookR_none h]; rfl)]
  unfold pairsOf
  rw [List.map_append]
  rfl
theorem merge_pairs : ∀ (more rows : List Row), ((rows ++ more).map (·.1)).Nodup → mergeK (pairsOf rows) (pairsOf more) = pairsOf (rows ++ more)
  | [], rows, _ => by
    rw [List.append_nil]
    rfl
  | r :: more, rows, h => by
    show mergeK (putK (pairsOf rows) (Sum.inl r.1) (pV r.2)) (pairsOf more) = _
    have e : rows ++ r :: more = (rows ++ [r]) ++ more := by rw [List.append_assoc]; rfl
    rw [e] at h ⊢
    have h2 : r.1 ∉ rows.map (·.1) := fun hm => by
      rw [List.map_append, List.map_append] at h
      have q := (List.nodup_append.mp (List.nodup_append.mp h).1).2.2
      exact q _ hm r.1 (by simp) rfl
    rw [pairs_snoc h2]
    exact merge_pairs more _ h
theorem pairsOf_len (rows : List Row) : (pairsOf rows).length = rows.length := List.length_map _
/-- a list of rows, as pairs for a dict -/
theorem rows_paired {K : Fg} {H : Hp} : ∀ {xs : List V} {rows : List Row}, DpAll K H xs (rows.map rowD) → ∃ ps : List Addr, xs = ps.map V.ref ∧ Paired (fun p (kv : Key × V) => SqT K H p [kV kv.1, kv.2]) ps (pairsOf rows)
  | [], [], _ => ⟨[], rfl, .nil⟩
  | [], r :: rs, h => by cases h
  | x :: xs, [], h => by cases h
  | x :: xs, r :: rs, h => by
    cases h with
    | cons h1 h2 =>
      obtain ⟨t, rfl, ht⟩ := row_inv h1
      obtain ⟨ps, e, hp⟩ := rows_paired h2
      exact ⟨t :: ps, by rw [e]; rfl, .cons ht hp⟩
def spSweep (K : Fg) : Sp := fun vs H Q _ => ∃ (v : V) (rows : List Row) (last : Nat), vs = [v, .int last] ∧ Dp K H v (rowsD rows) ∧ (rows.map (·.1)).Nodup ∧ rows.length ≤ 1000 ∧ last ≤ 1000 ∧
  ∀ H' l, H l = none → Same H H' → H' l = some (.lst (sweepV rows (last + 1))) → Q (.ref l) H'
theorem scSweep : FnScope ["rows", "last", "book", "held", "found", "spot"] ["rows", "last"] (defScope sSweep) := ⟨rfl, rfl, rfl, by decide +kernel, rfl, by decide +kernel, by decide +kernel⟩
section
variable {P : Program} {w : World} {K : Fg} {mg : Str → Option Value} {base : Heap}
theorem ok_sweep {f : Addr} {fd : FuncData} (F : FunX K "_law_sweep" "_law_sweep" sSweep f fd) (gRange : mg "range" = none) (gDict : mg "dict" = none) (gList : mg "list" = none) : FnOk P w K mg base CX0 1 f fd ["rows", "last"] (spSweep K) := by
  refine F.ok scSweep (fun vs H Q E h => ?_) (fun cdv A outer s H vs Q E hr h => ?_)
  · obtain ⟨v, rows, last, rfl, _⟩ := h
    rfl
  · obtain ⟨v, rows, last, rfl, hd, nd, hlen, hlast, k⟩ := h
    have hu := hu_of hr
    refine ⟨_, PSs.nox (pss_cons (ps_par3 (i := 2) (j := 3) (l := 4) (by rfl) scSweep.nd rfl rfl rfl (by decide) (by decide) (by decide) rfl rfl rfl (pa_cons (pe_callTy (call_dictP rfl) (by rfl) gDict (by decide +kernel) (pa_cons (pe_callTy call_list_of (by rfl) gList (by decide +kernel) (pa_cons (pv 0) pa_nil)) pa_nil)) (pa_cons pe_non (pa_cons (pe_lst pa_nil) pa_nil))) (by rfl))
        (pss_cons (ps_for PassesOwn.never rfl (pi_range1 (by rfl) gRange (pa_cons (pe_op op_add (pv 1) pe_int) pa_nil)) (pg_name (i := 5) scSweep.nd rfl (.inl rfl))
          (pss_cons (ps_if (pt_cmp (pc_din hu (pv 5) (pv 2))) (pss_one (ps_set (i := 3) scSweep.nd rfl (.inl rfl) (pe_dget hu (pv 2) (pv 5) (fun _ _ => rfl)))) pss_nil)
          (pss_one (ps_expr (pe_bm PySem.F.plainAttrs_list PySem.F.slot_list_append PySem.F.type_list_append mt_append (pv 4) (pa_cons (pv 3) pa_nil))))))
        (pss_one (ps_ret (pv 4))))), ?_⟩
    obtain ⟨a, xs, rfl, hS, hX, hl⟩ := rows_inv hd
    obtain ⟨ps, ex, hp⟩ := rows_paired hX
    refine ⟨_, rfl, a, xs, rfl, .inl hS, fun l1 hl1 => ?_⟩
    have hp1 : Paired (fun p (kv : Key × V) => SqT K (upd H l1 (.lst xs)) p [kV kv.1, kv.2]) ps (pairsOf rows) := Paired.mapP hp fun _ _ q => seqT_mo q (new_same hl1)
    refine ⟨l1, ps, pairsOf rows, rfl, by rw [← ex]; exact SqL.of upd_same, hp1, fun bk hbk => ?_⟩
    have em : mergeK [] (pairsOf rows) = pairsOf rows := merge_pairs rows [] nd
    rw [em]
    generalize hH2 : upd (upd H l1 (.lst xs)) bk (.dK (pairsOf rows)) = H2
    have s2 : Same H H2 := hH2 ▸ (new_same hl1).trans (new_same hbk)
    have hb2 : H2 bk = some (.dK (pairsOf rows)) := hH2 ▸ upd_same
    refine ⟨Nat.zero_le _, fun l hl => ⟨_, _, _, rfl, ?_⟩⟩
    have nlb := ne_of_none hb2 hl
    have l0 : H l = none := by
      cases e : H l with
      | none => rfl
      | some o => exact absurd (s2 l o e) (by rw [hl]; exact fun z => nomatch z)
    refine ⟨_, rfl, _, _, rfl, rfl, (last : Int) + 1, rfl, by omega, by omega, ?_⟩
    have et : ((last : Int) + 1).toNat = last + 1 := by omega
    rw [et]
    refine for_range (lo := 0) (n := last + 1) (fun i σ H' => ∃ v5 : Option V, σ = [some (.ref a), some (.int last), some (.ref bk), some (pV (heldAt rows i)), some (.ref l), v5] ∧ Same H H' ∧ H' bk = some (.dK (pairsOf rows)) ∧ H' l = some (.lst (sweepV rows i))) ?_ ?_ ?_
    · exact ⟨none, rfl, s2.trans (new_same hl), by rw [upd_ne nlb]; exact hb2, upd_same⟩
    · rintro i σ H3 hi ⟨v5, rfl, s3, hb3, hl3⟩
      have step : ∀ o : Option Int, heldAt rows (i + 1) = o → (Same H H3) → tDrop (tBM K "list" rAppend (tVar 4) (tCons (tVar 3) tNil))
          { nx := fun σ H' => ∃ v5 : Option V, σ = [some (.ref a), some (.int last), some (.ref bk), some (pV (heldAt rows (i + 1))), some (.ref l), v5] ∧ Same H H' ∧ H' bk = some (.dK (pairsOf rows)) ∧ H' l = some (.lst (sweepV rows (i + 1))), rt := fun _ _ => False }
          [some (.ref a), some (.int last), some (.ref bk), some (pV o), some (.ref l), some (.int (0 + (i : Int)))] H3 := by
        intro o eo so
        refine ⟨_, rfl, .inl ⟨rfl, _, SqL.of hl3⟩, _, rfl, l, _, _, rfl, rfl, hl3, ?_, ?_⟩
        · unfold sweepV
          rw [List.length_map, List.length_range]
          exact Nat.lt_of_le_of_lt (show i ≤ 2000 by omega) (by decide)
        · refine ⟨_, by rw [eo], fun b u e => ?_, by rw [upd_ne nlb]; exact hb3, ?_⟩
          · rw [upd_ne (ne_of_none e l0)]
            exact so b u e
          · rw [upd_same]
            unfold sweepV
            rw [List.range_succ, List.map_append, ← eo]
            rfl
      have eqn : heldAt rows (i + 1) = (lookR rows (0 + (i : Int))).getD (heldAt rows i) := by rw [Int.zero_add]; rfl
      refine ⟨_, rfl, _, rfl, bk, _, rfl, DGet.k (k := Sum.inl (0 + (i : Int))) hb3, _, rfl, ?_⟩
      rw [pairs_val]
      cases hv : lookR rows (0 + (i : Int)) with
      | none =>
        refine iteF ?_
        rw [hv] at eqn
        exact step _ eqn s3
      | some o =>
        refine iteT ?_
        rw [hv] at eqn
        have dg : DGet H3 bk (.int (0 + (i : Int))) (some (pV o)) := by
          have q := DGet.k (k := Sum.inl (0 + (i : Int))) hb3
          rw [pairs_val, hv] at q
          exact q
        exact ⟨_, rfl, _, rfl, bk, _, rfl, dg, step o eqn s3⟩
    · rintro σ H3 ⟨v5, rfl, s3, hb3, hl3⟩
      exact ⟨_, rfl, k H3 l l0 s3 hl3⟩
end
end Pt

set_option Elab.async false
set_option linter.all false
set_option maxRecDepth 100000
set_option maxHeartbeats 4000000
namespace Pt
open PySem L2 He Xh Gd Ru Zd Tx
/-! ### price lists -/
/-- what is in force on a day, by ascending entries -/
def inForce (day : Int) : Option Int → List Row → Option Int
  | told, [] => told
  | told, r :: rs => if r.1 > day then told else inForce day r.2 rs
def eF (l : Addr) : List (Str × V) := putF "_entries" (.ref l) []
theorem eF_at (l : Addr) : (eF l).lookup ("_entries" : Str) = some (.ref l) := by
  unfold eF
  rw [lookup_putF, if_pos rfl]
/-- at p a price list with the entries es -/
def PLAt (K : Fg) (C : Addr) (H : Hp) (p : Addr) (es : List Row) : Prop := ∃ dx l xs, H p = some (.ins C dx (eF l)) ∧ H l = some (.lst xs) ∧ DpAll K H xs (es.map rowD)
theorem PLAt.mo {K : Fg} {C p : Addr} {H H' : Hp} {es : List Row} (h : PLAt K C H p es) (s : Same H H') : PLAt K C H' p es := by
  obtain ⟨dx, l, xs, h1, h2, h3⟩ := h
  exact ⟨dx, l, xs, s _ _ h1, s _ _ h2, h3.mo s⟩
/-- .. whose list and rows are new over the heap H -/
def PLNew (K : Fg) (C : Addr) (H H' : Hp) (p : Addr) (es : List Row) : Prop := ∃ dx l xs, H' p = some (.ins C dx (eF l)) ∧ H l = none ∧ H' l = some (.lst xs) ∧ DpAll K (Nw H H') xs (es.map rowD)
section
variable {K : Fg} {C p : Addr} {H H' H'' : Hp} {es : List Row}
theorem PLNew.at_ (h : PLNew K C H H' p es) : PLAt K C H' p es := by
  obtain ⟨dx, l, xs, h1, _, h3, h4⟩ := h
  exact ⟨dx, l, xs, h1, h3, h4.mo (Nw_same _ _)⟩
theorem PLNew.mo (h : PLNew K C H H' p es) (s : Same H' H'') : PLNew K C H H'' p es := by
  obtain ⟨dx, l, xs, h1, h2, h3, h4⟩ := h
  exact ⟨dx, l, xs, s _ _ h1, h2, s _ _ h3, h4.mo (Nw_mono s)⟩
theorem PLNew.upd {a : Addr} {o u : HO} (h : PLNew K C H H' p es) (ha : H a = some u) (n : p ≠ a) : PLNew K C H (L2.upd H' a o) p es := by
  obtain ⟨dx, l, xs, h1, h2, h3, h4⟩ := h
  exact ⟨dx, l, xs, by rw [upd_ne n]; exact h1, h2, by rw [upd_ne (fun z => by rw [z, ha] at h2; cases h2)]; exact h3, by rw [Nw_upd ha]; exact h4⟩
theorem PLNew.call {q : Addr} {u : HO} (h : PLNew K C H H' p es) (s : Same (W q H') (W q H'')) (hq : H q = some u) (n : p ≠ q) : PLNew K C H H'' p es := by
  obtain ⟨dx, l, xs, h1, h2, h3, h4⟩ := h
  exact ⟨dx, l, xs, call_at s n h1, h2, call_at s (fun z => by rw [z, hq] at h2; cases h2) h3, h4.mo (Nw_call s hq)⟩
end
/-- ascending by unlike days -/
abbrev Asc (es : List Row) : Prop := es.Pairwise fun a b => a.1 < b.1
def spInForce (K : Fg) : Sp := fun vs H Q _ => ∃ v day rows, vs = [v, .int day] ∧ Dp K H v (rowsD rows) ∧ Q (pV (inForce day none rows)) H
def spInit (K : Fg) (C : Addr) : Sp := fun vs H Q _ => ∃ (p dx : Addr) (v : V) (rows : List Row), vs = [.ref p, v] ∧ H p = some (.ins C dx []) ∧ Dp K H v (rowsD rows) ∧ (rows.map (·.1)).Nodup ∧ (∀ r ∈ rows, 0 ≤ r.1) ∧ rows.length ≤ 60 ∧
  ∀ H' es, Same (W p H) (W p H') → PLNew K C H H' p es → es.Perm rows → Asc es → Q .non H'
def spEntries (K : Fg) (C : Addr) : Sp := fun vs H Q _ => ∃ (p : Addr) (es : List Row), vs = [.ref p] ∧ PLAt K C H p es ∧ ∀ H' l xs, H l = none → Same H H' → H' l = some (.lst xs) → DpAll K H xs (es.map rowD) → Q (.ref l) H'
def spGet (K : Fg) (C : Addr) : Sp := fun vs H Q _ => ∃ (p : Addr) (es : List Row) (day : Int), vs = [.ref p, .int day] ∧ PLAt K C H p es ∧ 0 ≤ day ∧ Q (pV (inForce day none es)) H
def spLen (K : Fg) (C : Addr) : Sp := fun vs H Q _ => ∃ (p : Addr) (es : List Row), vs = [.ref p] ∧ PLAt K C H p es ∧ Q (.int (es.length : Nat)) H
theorem scInForce : FnScope ["entries", "day", "told", "first", "price"] ["entries", "day"] (defScope sInForce) := ⟨rfl, rfl, rfl, by decide +kernel, rfl, by decide +kernel, by decide +kernel⟩
theorem scInit : FnScope ["self", "entries", "told", "day", "price"] ["self", "entries"] (defScope sInit) := ⟨rfl, rfl, rfl, by decide +kernel, rfl, by decide +kernel, by decide +kernel⟩
theorem scEntries : FnScope ["self"] ["self"] (defScope sEntries) := ⟨rfl, rfl, rfl, by decide +kernel, rfl, by decide +kernel, by decide +kernel⟩
theorem scGet : FnScope ["self", "day"] ["self", "day"] (defScope sGet) := ⟨rfl, rfl, rfl, by decide +kernel, rfl, by decide +kernel, by decide +kernel⟩
theorem scLen : FnScope ["self"] ["self"] (defScope sLen) := ⟨rfl, rfl, rfl, by decide +kernel, rfl, by decide +kernel, by decide +kernel⟩
section
variable {P : Program} {w : World} {K : Fg} {mg : Str → Option Value} {base : Heap}
theorem ok_inforce {f : Addr} {fd : FuncData} (F : FunX K "in_force" "in_force" sInForce f fd) : FnOk P w K mg base CX0 1 f fd ["entries", "day"] (spInForce K) := by
  refine F.ok scInForce (fun vs H Q E h => ?_) (fun cdv A outer s H vs Q E hr h => ?_)
  · obtain ⟨a, day, rows, rfl, _⟩ := h
    rfl
  · obtain ⟨v, day, rows, rfl, hd, k⟩ := h
    refine ⟨_, PSs.nox (pss_cons (ps_set (i := 2) scInForce.nd rfl (.inl rfl) pe_non)
        (pss_cons (ps_for PassesOwn.never rfl (pi_list (pv 0)) (pg_tup (by rfl) (pgs_cons (pg_name (i := 3) scInForce.nd rfl (.inl rfl)) (pgs_cons (pg_name (i := 4) scInForce.nd rfl (.inl rfl)) pgs_nil)))
          (pss_cons (ps_if (pt_cmpR op_gt (pv 3) (pv 1) (nomark _)) (pss_one ps_break) pss_nil)
          (pss_one (ps_set (i := 2) scInForce.nd rfl (.inl rfl) (pv 4)))))
        (pss_one (ps_ret (pv 2))))), ?_⟩
    obtain ⟨a, xs, rfl, hS, hX, hl⟩ := rows_inv hd
    refine ⟨_, rfl, a, rfl, ⟨_, hS⟩, ?_⟩
    refine for_list (K := K) (a := a) (xs := xs) (fun i σ H' => H' = H ∧ ∃ (o : Option Int) (v3 v4 : Option V), σ = [some (.ref a), some (.int day), some (pV o), v3, v4] ∧ inForce day none rows = inForce day o (rows.drop i)) ?_ ?_ ?_ ?_
    · exact ⟨rfl, none, none, none, rfl, rfl⟩
    · rintro i σ H' _ ⟨rfl, _⟩
      exact hS
    · rintro i x σ H' hx ⟨rfl, o, v3, v4, rfl, e⟩
      obtain ⟨r, t, hr1, rfl, ht⟩ := rows_at hX hx
      have hlt := (List.getElem?_eq_some_iff.mp hr1).1
      have ed : rows.drop i = r :: rows.drop (i + 1) := by
        rw [List.drop_eq_getElem_cons hlt]
        congr 1
        exact (List.getElem?_eq_some_iff.mp hr1).2
      rw [ed] at e
      refine ⟨t, _, rfl, ht, rfl, _, _, rfl, _, _, rfl, rfl, ?_⟩
      refine ⟨_, rfl, _, rfl, _, _, rfl, rfl, _, rfl, ?_⟩
      refine ite2 (fun hc => ?_) (fun hc => ?_)
      · have hgt : r.1 > day := of_decide_eq_true hc
        have e2 : inForce day none rows = o := by
          rw [e]
          exact if_pos hgt
        refine ⟨_, rfl, ?_⟩
        rw [← e2]
        exact k
      · have hgt : ¬ r.1 > day := fun z => hc (decide_eq_true z)
        refine ⟨_, rfl, rfl, r.2, _, _, rfl, ?_⟩
        rw [e]
        exact if_neg hgt
    · rintro σ H' ⟨rfl, o, v3, v4, rfl, e⟩
      refine ⟨_, rfl, ?_⟩
      rw [hl, List.drop_length] at e
      rw [e] at k
      exact k
theorem ok_entries {f C : Addr} {fd : FuncData} (F : FunX K "entries" "PriceList.entries" sEntries f fd) (cl : Cls K C) (na : NoAttr K C "_entries") (gList : mg "list" = none) : FnOk P w K mg base CX0 1 f fd ["self"] (spEntries K C) := by
  refine F.ok scEntries (fun vs H Q E h => ?_) (fun cdv A outer s H vs Q E hr h => ?_)
  · obtain ⟨p, es, rfl, _⟩ := h
    rfl
  · obtain ⟨p, es, rfl, ⟨dx, l, xs, hp, hl, hX⟩, k⟩ := h
    refine ⟨_, PSs.nox (pss_one (ps_ret (pe_callTy call_list_of (by rfl) gList (by decide +kernel) (pa_cons (pe_fld (pv 0) rfl) pa_nil)))), ?_⟩
    exact ⟨_, rfl, p, C, dx, _, _, rfl, hp, cl, na, eF_at l, l, xs, rfl, .inl (SqL.of hl), fun q hq => k _ q xs hq (new_same hq) upd_same hX⟩
theorem ok_len {f C : Addr} {fd : FuncData} (F : FunX K "__len__" "PriceList.__len__" sLen f fd) (cl : Cls K C) (na : NoAttr K C "_entries") (gLen : mg "len" = none) : FnOk P w K mg base CX0 1 f fd ["self"] (spLen K C) := by
  refine F.ok scLen (fun vs H Q E h => ?_) (fun cdv A outer s H vs Q E hr h => ?_)
  · obtain ⟨p, es, rfl, _⟩ := h
    rfl
  · obtain ⟨p, es, rfl, ⟨dx, l, xs, hp, hl, hX⟩, k⟩ := h
    refine ⟨_, PSs.nox (pss_one (ps_ret (pe_callB call_len_seq (by rfl) gLen (by decide +kernel) (pa_cons (pe_fld (pv 0) rfl) pa_nil)))), ?_⟩
    refine ⟨_, rfl, p, C, dx, _, _, rfl, hp, cl, na, eF_at l, l, xs, rfl, .inl (SqL.of hl), ?_⟩
    have e := DpAll.len hX
    rw [List.length_map] at e
    rw [e]
    exact k
theorem ok_get {f C : Addr} {fd : FuncData} (F : FunX K "__getitem__" "PriceList.__getitem__" sGet f fd) (cl : Cls K C) (na : NoAttr K C "_entries") (cin_force : Cal P w K mg base 1 "in_force" ["entries", "day"] (spInForce K)) :
    FnOk P w K mg base CX0 2 f fd ["self", "day"] (spGet K C) := by
  refine F.ok scGet (fun vs H Q E h => ?_) (fun cdv A outer s H vs Q E hr h => ?_)
  · obtain ⟨p, es, day, rfl, _⟩ := h
    rfl
  · obtain ⟨p, es, day, rfl, ⟨dx, l, xs, hp, hl, hX⟩, h0, k⟩ := h
    refine ⟨_, PSs.nox (pss_cons (ps_if (pt_cmpR op_lt (pv 1) pe_int (nomark _)) (pss_one ps_never) pss_nil)
        (pss_one (ps_ret (pe_c cin_force hr rfl (pa_cons (pe_fld (pv 0) rfl) (pa_cons (pv 1) pa_nil)))))), ?_⟩
    refine ⟨_, rfl, _, _, rfl, rfl, _, rfl, ?_⟩
    rw [decide_eq_false (show ¬ day < 0 by omega)]
    refine iteF ?_
    exact ⟨_, rfl, p, C, dx, _, _, rfl, hp, cl, na, eF_at l, _, rfl, _, day, es, rfl, .lst (SqL.of hl) hX, k⟩
/-- the entry of a day -/
def ent (rows : List Row) (d : Int) : Row := (d, (lookR rows d).getD none)
theorem lookR_mem : ∀ {rows : List Row} {r : Row}, (rows.map (·.1)).Nodup → r ∈ rows → lookR rows r.1 = some r.2
  | [], _, _, h => nomatch h
  | s :: rs, r, nd, h => by
    rw [List.map_cons, List.nodup_cons] at nd
    show (if s.1 = r.1 then some s.2 else lookR rs r.1) = some r.2
    rcases List.mem_cons.mp h with e | h
    · rw [e, if_pos rfl]
    · rw [if_neg fun z => nd.1 (by rw [z]; exact List.mem_map.mpr ⟨r, h, rfl⟩)]
      exact lookR_mem nd.2 h
theorem ent_rows {rows : List Row} (nd : (rows.map (·.1)).Nodup) : (rows.map (·.1)).map (ent rows) = rows := by
  rw [List.map_map]
  refine (List.map_congr_left fun r hr => ?_).trans (List.map_id _)
  show (r.1, (lookR rows r.1).getD none) = r
  rw [lookR_mem nd hr]
  rfl
theorem ent_perm {rows : List Row} {ys : List Int} (nd : (rows.map (·.1)).Nodup) (p : ys.Perm (rows.map (·.1))) : (ys.map (ent rows)).Perm rows := by
  have q := p.map (ent rows)
  rw [ent_rows nd] at q
  exact q
theorem asc_of {rows : List Row} {ys : List Int} (nd : ys.Nodup) (pw : ys.Pairwise (· ≤ ·)) : Asc (ys.map (ent rows)) := by
  refine List.pairwise_map.mpr ?_
  have q := pw.and nd
  exact q.imp fun {a b} h => (show a < b from by
    have h1 : a ≤ b := h.1
    have h2 : a ≠ b := h.2
    omega)
theorem ok_init {f C : Addr} {fd : FuncData} (F : FunX K "__init__" "PriceList.__init__" sInit f fd) (cl : Cls K C) (na : NoAttr K C "_entries") (gSorted : mg "sorted" = none) : FnOk P w K mg base CX0 1 f fd ["self", "entries"] (spInit K C) := by
  refine F.ok scInit (fun vs H Q E h => ?_) (fun cdv A outer s H vs Q E hr h => ?_)
  · obtain ⟨p, dx, v, rows, rfl, _⟩ := h
    rfl
  · obtain ⟨p, dx, v, rows, rfl, hp, hd, nd, h0, hlen, k⟩ := h
    have hu := hu_of hr
    refine ⟨_, PSs.nox (pss_cons (ps_set (i := 2) scInit.nd rfl (.inr rfl) pe_dnewK)
        (pss_cons (ps_for PassesOwn.never rfl (pi_list (pv 1)) (pg_tup (by rfl) (pgs_cons (pg_name (i := 3) scInit.nd rfl (.inl rfl)) (pgs_cons (pg_name (i := 4) scInit.nd rfl (.inl rfl)) pgs_nil)))
          (pss_cons (ps_if (pt_cmpR op_lt (pv 3) pe_int (nomark _)) (pss_one ps_never) pss_nil)
          (pss_cons (ps_if (pt_cmp (pc_din hu (pv 3) (pv 2))) (pss_one ps_never) pss_nil)
          (pss_one (ps_dput hu (pv 2) (pv 3) (pv 4) rfl)))))
        (pss_one (ps_fld (pv 0) (pe_lc (own := [("day", 3)]) (tt := tYes) rfl scInit.nd (pi_list (pe_callB (call_sortedDI rfl) (by rfl) gSorted (by decide +kernel) (pa_cons (pv 2) pa_nil))) (blkOk_by (own := [("day", 3)]) (N := ["self", "entries", "told", "day", "price"]) (sc := defScope sInit) (by decide +kernel)) (fun _ _ _ _ _ => by exact (pg_name (i := 3) scInit.nd rfl (.inl rfl))) (fun _ _ _ _ _ => pts_nil) (fun _ _ _ _ _ => by exact (pe_tup (pa_cons (pv 3) (pa_cons (pe_dget hu (pv 2) (pv 3) (fun _ _ => rfl)) pa_nil))))) rfl)))), ?_⟩
    obtain ⟨a, xs, rfl, hS, hX, hl⟩ := rows_inv hd
    have npa : ∀ {G : Hp} {o : HO}, G p = some o → ∀ {q : Addr}, G q = none → p ≠ q := fun e _ n => ne_of_none e n
    intro dk hdk
    refine ⟨_, rfl, a, rfl, ⟨_, hS.elim (fun q => (Same.seq (new_same hdk) (.inl q))) .inr⟩, ?_⟩
    have s1 := new_same (o := .dK []) hdk
    refine for_list (K := K) (a := a) (xs := xs) (fun i σ H' => ∃ (v3 v4 : Option V), σ = [some (.ref p), some (.ref a), some (.ref dk), v3, v4] ∧ Same H H' ∧ H' dk = some (.dK (pairsOf (rows.take i)))) ?_ ?_ ?_ ?_
    · exact ⟨none, none, rfl, s1, upd_same⟩
    · rintro i σ H' _ ⟨_, _, _, s2, _⟩
      exact Same.seq s2 hS
    · rintro i x σ H' hx ⟨v3, v4, rfl, s2, h2⟩
      obtain ⟨r, t, hr1, rfl, ht⟩ := rows_at hX hx
      have hlt := (List.getElem?_eq_some_iff.mp hr1).1
      have et : rows.take (i + 1) = rows.take i ++ [r] := by
        rw [List.take_succ, hr1]
        rfl
      have r0 : 0 ≤ r.1 := h0 r (List.mem_of_getElem? hr1)
      have new : r.1 ∉ (rows.take i).map (·.1) := fun hm => by
        have nd2 : ((rows.take (i + 1)).map (·.1)).Nodup := nd.sublist ((List.take_sublist _ _).map _)
        rw [et, List.map_append] at nd2
        exact (List.nodup_append.mp nd2).2.2 _ hm r.1 (by simp) rfl
      have lk : (pairsOf (rows.take i)).length < sizeLine := by
        rw [pairsOf_len, List.length_take]
        exact Nat.lt_of_le_of_lt (show min i rows.length ≤ 100 by omega) (by decide)
      refine ⟨t, _, rfl, seqT_mo ht s2, rfl, _, _, rfl, _, _, rfl, rfl, ?_⟩
      refine ⟨_, rfl, _, _, rfl, rfl, _, rfl, ?_⟩
      rw [decide_eq_false (show ¬ r.1 < 0 by omega)]
      refine iteF ?_
      refine ⟨_, rfl, _, rfl, dk, _, rfl, DGet.k (k := Sum.inl r.1) h2, _, rfl, ?_⟩
      rw [pairs_val, lookR_none new]
      refine iteF ?_
      refine ⟨_, rfl, _, rfl, _, rfl, dk, _, rfl, DPut.k (k := Sum.inl r.1) h2 lk, ?_⟩
      rw [pairs_snoc new, ← et]
      exact ⟨_, _, rfl, fun b u e => by rw [upd_ne (ne_of_none e hdk)]; exact s2 b u e, upd_same⟩
    · rintro σ H2 ⟨v3, v4, rfl, s2, h2⟩
      rw [hl, List.take_length] at h2
      refine ⟨_, rfl, dk, pairsOf rows, rows.map (·.1), rfl, .inl h2, ?_, by rw [List.length_map]; omega, fun ys q perm pw hq => ?_⟩
      · unfold pairsOf
        rw [List.map_map, List.map_map]
        rfl
      refine ⟨q, rfl, ⟨_, SqL.of upd_same⟩, fun D hD => ?_⟩
      generalize hG : upd H2 q (.lst (ys.map V.int)) = G at hD
      have sG : Same H2 G := hG ▸ new_same hq
      have hq' : G q = some (.lst (ys.map V.int)) := hG ▸ upd_same
      have hdk' := sG _ _ h2
      have hp' := sG _ _ (s2 _ _ hp)
      have npD := ne_of_none hp' hD
      have nqD := ne_of_none hq' hD
      have eD : ∀ {G : Hp} {o : HO}, Hd [D, p] (upd G D o) = Hd [D, p] G := Hd_upd (by simp)
      have eD1 : ∀ {G : Hp} {o : HO}, Hd [D] (upd G D o) = Hd [D] G := Hd_upd (by simp)
      have ynd : ys.Nodup := perm.symm.nodup nd
      refine lc_list (K := K) (a := q) (xs := ys.map V.int) (fun i Hc => ∃ xs2 : List V, Hc D = some (.lst xs2) ∧ Same G (Hd [D] Hc) ∧ DpAll K (Nw H (Hd [D, p] Hc)) xs2 (((ys.take i).map (ent rows)).map rowD)) ?_ ?_ ?_ ?_
      · refine ⟨[], upd_same, ?_, .nil⟩
        rw [eD1]
        exact Hd_add (S := []) (fun b o e => by rw [Hd_out (by simp)]; exact e) hD
      · rintro i Hc _ ⟨xs2, _, s3, _⟩
        exact SqL.of ((Hd_some (s3 _ _ hq')).2)
      · rintro i x Hc hx ⟨xs2, h3, s3, dp3⟩
        obtain ⟨y, hy, rfl⟩ : ∃ y, ys[i]? = some y ∧ x = .int y := by
          rw [List.getElem?_map] at hx
          cases e : ys[i]? with
          | none =>
            rw [e] at hx
            cases hx
          | some y =>
            rw [e] at hx
            exact ⟨y, rfl, (Option.some.inj hx).symm⟩
        have hm : y ∈ rows.map (·.1) := perm.mem_iff.mp (List.mem_of_getElem? hy)
        obtain ⟨r, hr1, hr2⟩ := List.mem_map.mp hm
        have hv : valV (pairsOf rows) (Sum.inl y : Key) = some (pV (ent rows y).2) := by
          rw [pairs_val]
          unfold ent
          rw [← hr2, lookR_mem nd hr1]
          rfl
        have hdk3 := (Hd_some (s3 _ _ hdk')).2
        have dg : DGet Hc dk (.int y) (some (pV (ent rows y).2)) := by
          have z := DGet.k (k := Sum.inl y) hdk3
          rw [hv] at z
          exact z
        refine ⟨rfl, yes_ ?_⟩
        refine ⟨_, rfl, _, rfl, _, rfl, dk, _, rfl, dg, by show 2 ≤ sizeLine; decide, fun t ht => ?_⟩
        have h4 : (upd Hc t (.tup [.int y, pV (ent rows y).2])) D = some (.lst xs2) := by rw [upd_ne (ne_of_none h3 ht)]; exact h3
        have nt : t ∉ [D, p] := by
          have n1 := (ne_of_none h3 ht).symm
          have n2 := (ne_of_none ((Hd_some (s3 _ _ hp')).2) ht).symm
          simp [n1, n2]
        refine ⟨xs2, h4, Nat.lt_of_le_of_lt (show xs2.length ≤ 100 by rw [DpAll.len dp3, List.length_map, List.length_map, List.length_take]; have := perm.length_eq; rw [List.length_map] at this; omega) (by decide), xs2 ++ [.ref t], upd_same, ?_, ?_⟩
        · rw [eD1]
          exact s3.trans (Hd_new ht)
        · rw [eD, List.take_succ, hy, List.map_append, List.map_append]
          have ht0 : H t = none := by
            cases e : H t with
            | none => rfl
            | some o => exact absurd (((s2.trans sG).trans s3) t o e) (by rw [Hd_none ht]; exact fun z => nomatch z)
          exact DpAll.snoc (dp3.mo (Nw_mono (Hd_new ht))) (row_mk (r := ent rows y) (.inl (.inl (by rw [Nw_new ht0, Hd_out nt, upd_same]; rfl))))
      · rintro Hc ⟨xs2, h3, s3, dp3⟩
        rw [List.length_map, List.take_length] at dp3
        have hp3 := (Hd_some (s3 _ _ hp')).2
        refine ⟨_, rfl, p, C, dx, _, rfl, hp3, cl, na, by show 0 < 1000; decide, ?_⟩
        have hD0 : H D = none := by
          cases e : H D with
          | none => rfl
          | some o => exact absurd ((s2.trans sG) D o e) (by rw [hD]; exact fun z => nomatch z)
        refine k _ (ys.map (ent rows)) ?_ ⟨dx, D, xs2, upd_same, hD0, by rw [upd_ne npD.symm]; exact h3, ?_⟩ (ent_perm nd perm) (asc_of ynd pw)
        · rw [W_upd]
          exact Hd_of (((s2.trans sG).trans s3).trans (Hd_same _ _))
        · rw [Nw_upd hp]
          exact dp3.mo (Nw_mono (Hd_same _ _))
end
end Pt

set_option Elab.async false
set_option linter.all false
set_option maxRecDepth 100000
set_option maxHeartbeats 4000000
namespace Pt
open PySem L2 He Xh Gd Ru Zd Tx
/-! ### in force by ascending entries is what the sweep holds -/
theorem inF_above {d : Int} : ∀ {es : List Row} {o : Option Int}, (∀ r ∈ es, r.1 > d) → inForce d o es = o
  | [], _, _ => rfl
  | r :: rs, o, h => if_pos (h r List.mem_cons_self)
theorem lookR_above {d : Int} : ∀ {es : List Row}, (∀ r ∈ es, r.1 > d) → lookR es d = none := fun {es} h => lookR_none fun hm => by
  obtain ⟨r, hr, e⟩ := List.mem_map.mp hm
  have := h r hr
  omega
theorem inF_step {d : Int} : ∀ {es : List Row} {o : Option Int}, Asc es → inForce (d + 1) o es = (lookR es (d + 1)).getD (inForce d o es)
  | [], o, _ => rfl
  | r :: rs, o, h => by
    obtain ⟨h1, h2⟩ := List.pairwise_cons.mp h
    show (if r.1 > d + 1 then o else inForce (d + 1) r.2 rs) = (if r.1 = d + 1 then some r.2 else lookR rs (d + 1)).getD (if r.1 > d then o else inForce d r.2 rs)
    by_cases c1 : r.1 > d + 1
    · have c2 : ∀ s ∈ rs, s.1 > d + 1 := fun s hs => by
        have := h1 s hs
        omega
      rw [if_pos c1, if_neg (by omega), lookR_above c2, if_pos (by omega)]
      rfl
    · rw [if_neg c1]
      by_cases c2 : r.1 = d + 1
      · have c3 : ∀ s ∈ rs, s.1 > d + 1 := fun s hs => by
          have := h1 s hs
          omega
        rw [if_pos c2, inF_above c3]
        rfl
      · rw [if_neg c2, if_neg (by omega)]
        exact inF_step h2
theorem held_inF {es : List Row} (h : Asc es) (h0 : ∀ r ∈ es, 0 ≤ r.1) : ∀ n : Nat, heldAt es n = inForce ((n : Int) - 1) none es
  | 0 => by
    rw [inF_above]
    · rfl
    · intro r hr
      have := h0 r hr
      show r.1 > ((0 : Nat) : Int) - 1
      omega
  | n + 1 => by
    show (lookR es (n : Int)).getD (heldAt es n) = _
    rw [held_inF h h0 n]
    have e := inF_step (d := (n : Int) - 1) (o := none) h
    rw [show (n : Int) - 1 + 1 = (n : Int) by omega] at e
    rw [← e]
    congr 1
    omega
theorem lookR_perm {es rows : List Row} (p : es.Perm rows) (nd : (rows.map (·.1)).Nodup) (d : Int) : lookR es d = lookR rows d := by
  have nd2 : (es.map (·.1)).Nodup := (p.map (·.1)).symm.nodup nd
  by_cases h : d ∈ rows.map (·.1)
  · obtain ⟨r, hr, e⟩ := List.mem_map.mp h
    rw [← e, lookR_mem nd hr, lookR_mem nd2 (p.mem_iff.mpr hr)]
  · rw [lookR_none h, lookR_none fun z => h ((p.map (·.1)).mem_iff.mp z)]
theorem held_perm {es rows : List Row} (p : es.Perm rows) (nd : (rows.map (·.1)).Nodup) : ∀ n : Nat, heldAt es n = heldAt rows n
  | 0 => rfl
  | n + 1 => by
    show (lookR es n).getD (heldAt es n) = (lookR rows n).getD (heldAt rows n)
    rw [lookR_perm p nd, held_perm p nd n]
/-- prices[day] is what the sweep tells -/
theorem get_sweep {es rows : List Row} (p : es.Perm rows) (nd : (rows.map (·.1)).Nodup) (h : Asc es) (h0 : ∀ r ∈ rows, 0 ≤ r.1) (n : Nat) : inForce n none es = heldAt rows (n + 1) := by
  rw [← held_perm p nd, held_inF h (fun r hr => h0 r (p.mem_iff.mp hr))]
  congr 1
  omega
/-- two ascending lists of the same rows are one -/
theorem asc_uniq {es fs : List Row} (p : es.Perm fs) (h1 : Asc es) (h2 : Asc fs) : es = fs :=
  List.Perm.eq_of_pairwise (le := fun a b : Row => a.1 < b.1) (fun a b _ _ x y => by omega) h1 h2 p
theorem held_small {rows : List Row} (h : ∀ r ∈ rows, Small r.2) : ∀ n : Nat, Small (heldAt rows n)
  | 0 => fun i e => nomatch e
  | n + 1 => by
    have look : ∀ (rs : List Row) (d : Int) (o : Option Int), (∀ r ∈ rs, Small r.2) → lookR rs d = some o → Small o := by
      intro rs d o
      induction rs with
      | nil =>
        intro _ e
        cases e
      | cons r rs ih =>
        intro hs e
        have e' : (if r.1 = d then some r.2 else lookR rs d) = some o := e
        by_cases c : r.1 = d
        · rw [if_pos c] at e'
          cases e'
          exact hs r List.mem_cons_self
        · rw [if_neg c] at e'
          exact ih (fun s hs' => hs s (List.mem_cons_of_mem _ hs')) e'
    show Small ((lookR rows n).getD (heldAt rows n))
    cases e : lookR rows n with
    | none => exact held_small h n
    | some o => exact look rows n o h e
theorem Small.abs {o : Option Int} (h : Small o) : ∀ i, o = some i → i.natAbs < 10 ^ 18 := fun i e => by
  have := h i e
  omega
end Pt

set_option Elab.async false
set_option linter.all false
set_option maxRecDepth 100000
set_option maxHeartbeats 4000000
set_option pp.maxSteps 400
namespace Pt
open PySem L2 He Xh Gd Ru Zd Tx
theorem seq_asg {te : TE} {g : TG} {u : TS} {D : Ends} {σ : L2.St} {H : Hp} (h : te σ H fun v H1 => g v σ H1 (u D)) : tSeq (tAsg te g) u D σ H := h
/-- the rest of a block, said once -/
theorem seq_rest {t u : TS} {D : Ends} {σ : L2.St} {H : Hp} (R : L2.St → Hp → Prop) (h2 : ∀ σ' H', R σ' H' → u D σ' H') (h1 : (∀ σ' H', R σ' H' → u D σ' H') → t { D with nx := u D } σ H) : tSeq t u D σ H := h1 h2
/-- PriceList(v): what is made -/
theorem mk_list {K : Fg} {C hd : Addr} {H : Hp} {rows : List Row} {Q : VK} (hd0 : Dp K H (.ref hd) (rowsD rows)) (nd : (rows.map (·.1)).Nodup) (h0 : ∀ r ∈ rows, 0 ≤ r.1) (hl : rows.length ≤ 60)
    (k : ∀ x H' es, H x = none → Same H H' → PLNew K C H H' x es → es.Perm rows → Asc es → Q (.ref x) H') (x dx : Addr) (nx : H x = none) (ndx : H dx = none) (nex : dx ≠ x) (E : XK) :
    spInit K C [.ref x, .ref hd] (upd (upd H dx (.own x)) x (.ins C dx [])) (fun v H2 => v = .non ∧ Q (.ref x) H2) E := by
  have s0 : Same H (upd (upd H dx (.own x)) x (.ins C dx [])) := fun b o e => by
    rw [upd_ne (ne_of_none e nx), upd_ne (ne_of_none e ndx)]
    exact e
  refine ⟨x, dx, .ref hd, rows, rfl, upd_same, hd0.mo s0, nd, h0, hl, fun H' es s1 pl perm asc => ⟨rfl, ?_⟩⟩
  refine k x H' es nx (fun b o e => call_at s1 (ne_of_none e nx) (s0 b o e)) ?_ perm asc
  obtain ⟨dx2, l, xs, h1, h2, h3, h4⟩ := pl
  have back : ∀ {b : Addr}, (upd (upd H dx (.own x)) x (.ins C dx [])) b = none → H b = none := fun {b} e => by
    cases q : H b with
    | none => rfl
    | some o =>
      rw [s0 b o q] at e
      cases e
  refine ⟨dx2, l, xs, h1, back h2, h3, h4.mo fun b o e => ?_⟩
  obtain ⟨n, e1⟩ := Nw_some e
  rw [Nw_new (back n)]
  exact e1
/-- .. by position or by name -/
theorem mk_two {K : Fg} {C hd : Addr} {H : Hp} {σ : L2.St} {rows : List Row} {Q : VK} {b : Prop} [Decidable b] {i : Nat} (hσ : σ[i]? = some (some (.ref hd))) (hd0 : Dp K H (.ref hd) (rowsD rows)) (nd : (rows.map (·.1)).Nodup) (h0 : ∀ r ∈ rows, 0 ≤ r.1) (hl : rows.length ≤ 60)
    (k : ∀ x H' es, H x = none → Same H H' → PLNew K C H H' x es → es.Perm rows → Asc es → Q (.ref x) H') :
    if b then tMake C (spInit K C) [] E0 (tCons (tVar i) tNil) σ H Q else tMakeK C 0 (["entries"] : List Str).length (spInit K C) (fun us ws => us ++ ws) E0 tNil (tCons (tVar i) tNil) σ H Q :=
  ite2 (fun _ => ⟨_, hσ, fun x dx nx ndx nex => mk_list hd0 nd h0 hl k x dx nx ndx nex E0⟩) fun _ => ⟨_, hσ, rfl, rfl, fun x dx nx ndx nex => mk_list hd0 nd h0 hl k x dx nx ndx nex E0⟩
theorem eqv_same {d : PyData} {k n : Nat} (t : Tame k n d) : PyData.eqv d d = true := SeqAt.eqv_refl d t.cl
theorem Good.tame {lst : Int} {rows : List Row} (g : Good lst rows) (h : lst ≤ 100000) (hl : rows.length ≤ 10000) : Tame 3 1000000 (rowsD rows) := tame_rows (fun r hr => by
  obtain ⟨a, b, c⟩ := g.2 r hr
  exact ⟨by omega, c.abs⟩) hl
end Pt

set_option Elab.async false
set_option linter.all false
set_option maxRecDepth 100000
set_option maxHeartbeats 4000000
set_option pp.maxSteps 400
namespace Pt
open PySem L2 He Xh Gd Ru Zd Tx
theorem pV_inj : ∀ {a b : Option Int}, pV a = pV b → a = b
  | none, none, _ => rfl
  | some i, some j, e => by
    have e2 : V.int i = V.int j := e
    injection e2 with e3
    rw [e3]
  | none, some _, e => nomatch e
  | some _, none, e => nomatch e
theorem pV_scal : ∀ a b : Option Int, scal (pV a) (pV b) = true
  | none, none => rfl
  | none, some _ => rfl
  | some _, none => rfl
  | some _, some _ => rfl
/-! ### changes -/
/-- the entries that tell something else than what was told ahead -/
def chg : Option Int → List Row → List Row
  | _, [] => []
  | a, r :: rs => if r.2 = a then chg r.2 rs else r :: chg r.2 rs
def lastP : Option Int → List Row → Option Int
  | a, [] => a
  | _, r :: rs => lastP r.2 rs
theorem chg_snoc : ∀ (xs : List Row) (a : Option Int) (r : Row), chg a (xs ++ [r]) = chg a xs ++ (if r.2 = lastP a xs then [] else [r])
  | [], a, r => by
    show (if r.2 = a then chg r.2 [] else r :: chg r.2 []) = [] ++ (if r.2 = a then [] else [r])
    split <;> rfl
  | x :: xs, a, r => by
    show (if x.2 = a then chg x.2 (xs ++ [r]) else x :: chg x.2 (xs ++ [r])) = (if x.2 = a then chg x.2 xs else x :: chg x.2 xs) ++ (if r.2 = lastP x.2 xs then [] else [r])
    rw [chg_snoc xs x.2 r]
    split
    · rfl
    · rfl
theorem lastP_snoc : ∀ (xs : List Row) (a : Option Int) (r : Row), lastP a (xs ++ [r]) = r.2
  | [], _, _ => rfl
  | x :: xs, _, r => lastP_snoc xs x.2 r
/-- the rows on the days below n -/
def preR (es : List Row) : Nat → List Row
  | 0 => []
  | n + 1 => match lookR es n with
    | none => preR es n
    | some p => preR es n ++ [((n : Int), p)]
def lawChg (rows : List Row) (n : Nat) : List Row := ((List.range n).filter fun d => !decide (heldAt rows (d + 1) = heldAt rows d)).map fun d => (((d : Nat) : Int), heldAt rows (d + 1))
theorem pre_last (es : List Row) : ∀ n : Nat, lastP none (preR es n) = heldAt es n
  | 0 => rfl
  | n + 1 => by
    show lastP none (match lookR es n with | none => preR es n | some p => preR es n ++ [((n : Int), p)]) = (lookR es n).getD (heldAt es n)
    cases e : lookR es n with
    | none => exact pre_last es n
    | some p => exact lastP_snoc _ _ _
theorem pre_chg (es : List Row) : ∀ n : Nat, chg none (preR es n) = lawChg es n
  | 0 => rfl
  | n + 1 => by
    have ih := pre_chg es n
    have hl := pre_last es n
    have e1 : lawChg es (n + 1) = lawChg es n ++ (if heldAt es (n + 1) = heldAt es n then [] else [((n : Int), heldAt es (n + 1))]) := by
      unfold lawChg
      rw [List.range_succ, List.filter_append, List.map_append]
      congr 1
      by_cases c : heldAt es (n + 1) = heldAt es n
      · rw [if_pos c]
        simp [c]
      · rw [if_neg c]
        simp [c]
    rw [e1]
    have e2 : heldAt es (n + 1) = (lookR es n).getD (heldAt es n) := rfl
    show chg none (match lookR es n with | none => preR es n | some p => preR es n ++ [((n : Int), p)]) = _
    cases e : lookR es n with
    | none =>
      rw [e] at e2
      rw [e2]
      show chg none (preR es n) = _ ++ (if (none : Option (Option Int)).getD (heldAt es n) = heldAt es n then [] else _)
      rw [if_pos (show (none : Option (Option Int)).getD (heldAt es n) = heldAt es n from rfl), List.append_nil]
      exact ih
    | some p =>
      rw [e] at e2
      rw [e2]
      show chg none (preR es n ++ [((n : Int), p)]) = _
      rw [chg_snoc, ih, hl]
      rfl
theorem pre_mem {es : List Row} (nd : (es.map (·.1)).Nodup) (h0 : ∀ r ∈ es, 0 ≤ r.1) : ∀ (n : Nat) (r : Row), r ∈ preR es n ↔ r ∈ es ∧ r.1 < n
  | 0, r => by
    constructor
    · intro h
      cases h
    · intro h
      have := h0 r h.1
      have := h.2
      omega
  | n + 1, r => by
    have ih := pre_mem nd h0 n r
    have look : ∀ (rs : List Row) (d : Int) (o : Option Int), lookR rs d = some o → (d, o) ∈ rs := by
      intro rs d o
      induction rs with
      | nil =>
        intro e
        cases e
      | cons q rs ihq =>
        intro e
        have e' : (if q.1 = d then some q.2 else lookR rs d) = some o := e
        by_cases c : q.1 = d
        · rw [if_pos c] at e'
          cases e'
          rw [← c]
          exact List.mem_cons_self
        · rw [if_neg c] at e'
          exact List.mem_cons_of_mem _ (ihq e')
    show r ∈ (match lookR es n with | none => preR es n | some p => preR es n ++ [((n : Int), p)]) ↔ _
    cases e : lookR es n with
    | none =>
      show r ∈ preR es n ↔ _
      rw [ih]
      constructor
      · intro h
        exact ⟨h.1, by have := h.2; omega⟩
      · intro h
        refine ⟨h.1, ?_⟩
        have : r.1 ≠ (n : Int) := fun z => by
          have q := lookR_mem nd h.1
          rw [z, e] at q
          cases q
        have := h.2
        omega
    | some p =>
      show r ∈ preR es n ++ [((n : Int), p)] ↔ _
      rw [List.mem_append, ih]
      constructor
      · rintro (h | h)
        · exact ⟨h.1, by have := h.2; omega⟩
        · have z : r = ((n : Int), p) := by simpa using h
          rw [z]
          exact ⟨look es n p e, by show (n : Int) < ((n + 1 : Nat) : Int); omega⟩
      · intro h
        by_cases c : r.1 = (n : Int)
        · right
          have q := lookR_mem nd h.1
          rw [c, e] at q
          have z : r = ((n : Int), p) := by
            obtain ⟨r1, r2⟩ := r
            cases q
            cases c
            rfl
          rw [z]
          exact List.mem_singleton.mpr rfl
        · left
          exact ⟨h.1, by have := h.2; omega⟩
theorem pre_asc {es : List Row} (nd : (es.map (·.1)).Nodup) (h0 : ∀ r ∈ es, 0 ≤ r.1) : ∀ n : Nat, Asc (preR es n)
  | 0 => .nil
  | n + 1 => by
    show Asc (match lookR es n with | none => preR es n | some p => preR es n ++ [((n : Int), p)])
    cases e : lookR es n with
    | none => exact pre_asc nd h0 n
    | some p =>
      refine List.pairwise_append.mpr ⟨pre_asc nd h0 n, List.pairwise_singleton _ _, fun a ha b hb => ?_⟩
      have z : b = ((n : Int), p) := by simpa using hb
      rw [z]
      exact ((pre_mem nd h0 n a).mp ha).2
theorem asc_nodup {es : List Row} (h : Asc es) : es.Nodup := h.imp fun {a b} q e => by
  rw [e] at q
  omega
theorem asc_days {es : List Row} (h : Asc es) : (es.map (·.1)).Nodup := List.pairwise_map.mpr (h.imp fun {a b} q => by omega)
theorem pre_all {es : List Row} (h : Asc es) (h0 : ∀ r ∈ es, 0 ≤ r.1) {n : Nat} (hn : ∀ r ∈ es, r.1 < n) : preR es n = es := by
  have nd := asc_days h
  refine asc_uniq ((List.perm_ext_iff_of_nodup (asc_nodup (pre_asc nd h0 n)) (asc_nodup h)).mpr fun r => ?_) (pre_asc nd h0 n) h
  rw [pre_mem nd h0]
  exact ⟨fun q => q.1, fun q => ⟨q, hn r q⟩⟩
/-- changes() tells what the sweep changes -/
theorem chg_sweep {es rows : List Row} (p : es.Perm rows) (nd : (rows.map (·.1)).Nodup) (h : Asc es) (h0 : ∀ r ∈ rows, 0 ≤ r.1) {n : Nat} (hn : ∀ r ∈ rows, r.1 < n) : chg none es = lawChg rows n := by
  have q := pre_chg es n
  rw [pre_all h (fun r hr => h0 r (p.mem_iff.mp hr)) (fun r hr => hn r (p.mem_iff.mp hr))] at q
  rw [q]
  unfold lawChg
  have e : heldAt es = heldAt rows := funext (held_perm p nd)
  rw [e]
theorem chg_sub : ∀ (es : List Row) (a : Option Int), (chg a es).Sublist es
  | [], _ => .slnil
  | r :: rs, a => by
    show (if r.2 = a then chg r.2 rs else r :: chg r.2 rs).Sublist _
    split
    · exact (chg_sub rs r.2).cons _
    · exact (chg_sub rs r.2).cons_cons _
def spChanges (K : Fg) (C : Addr) : Sp := fun vs H Q _ => ∃ (p : Addr) (es : List Row), vs = [.ref p] ∧ PLAt K C H p es ∧ es.length ≤ 1000 ∧ ∀ H' l xs, H l = none → Same H H' → H' l = some (.lst xs) → DpAll K (Nw H H') xs ((chg none es).map rowD) → Q (.ref l) H'
theorem scChanges : FnScope ["self", "told", "ahead", "day", "price"] ["self"] (defScope sPriceListChanges) := ⟨rfl, rfl, rfl, by decide +kernel, rfl, by decide +kernel, by decide +kernel⟩
section
variable {P : Program} {w : World} {K : Fg} {mg : Str → Option Value} {base : Heap}
theorem ok_changes {f C : Addr} {fd : FuncData} (F : FunX K "changes" "PriceList.changes" sPriceListChanges f fd) (cl : Cls K C) (na : NoAttr K C "_entries") : FnOk P w K mg base CX0 1 f fd ["self"] (spChanges K C) := by
  refine F.ok scChanges (fun vs H Q E h => ?_) (fun cdv A outer s H vs Q E hr h => ?_)
  · obtain ⟨p, es, rfl, _⟩ := h
    rfl
  · obtain ⟨p, es, rfl, ⟨dx, l, xs, hp, hl, hX⟩, hlen, k⟩ := h
    refine ⟨_, PSs.nox (pss_cons (ps_set (i := 1) scChanges.nd rfl (.inl rfl) (pe_lst pa_nil))
        (pss_cons (ps_set (i := 2) scChanges.nd rfl (.inl rfl) pe_non)
        (pss_cons (ps_for PassesOwn.never rfl (pi_list (pe_fld (pv 0) rfl)) (pg_tup (by rfl) (pgs_cons (pg_name (i := 3) scChanges.nd rfl (.inl rfl)) (pgs_cons (pg_name (i := 4) scChanges.nd rfl (.inl rfl)) pgs_nil)))
          (pss_cons (ps_if (pt_cmpR op_ne (pv 4) (pv 2) (nomark _)) (pss_one (ps_expr (pe_bm PySem.F.plainAttrs_list PySem.F.slot_list_append PySem.F.type_list_append mt_append (pv 1) (pa_cons (pe_tup (pa_cons (pv 3) (pa_cons (pv 4) pa_nil))) pa_nil)))) pss_nil)
          (pss_one (ps_set (i := 2) scChanges.nd rfl (.inl rfl) (pv 4)))))
        (pss_one (ps_ret (pv 1)))))), ?_⟩
    refine ⟨Nat.zero_le _, fun lt hlt => ?_⟩
    have s1 := new_same (o := .lst []) hlt
    refine ⟨_, rfl, p, C, dx, _, _, rfl, s1 _ _ hp, cl, na, eF_at l, l, rfl, ⟨_, SqL.of (s1 _ _ hl)⟩, ?_⟩
    have xlen : xs.length = es.length := by
      have z := DpAll.len hX
      rw [List.length_map] at z
      exact z
    refine for_list (K := K) (a := l) (xs := xs) (fun i σ H' => ∃ (ys : List V) (v3 v4 : Option V), σ = [some (.ref p), some (.ref lt), some (pV (lastP none (es.take i))), v3, v4] ∧ Same H H' ∧ H' lt = some (.lst ys) ∧ DpAll K (Nw H (Hd [lt] H')) ys ((chg none (es.take i)).map rowD)) ?_ ?_ ?_ ?_
    · exact ⟨[], none, none, rfl, s1, upd_same, .nil⟩
    · rintro i σ H' _ ⟨_, _, _, _, s2, _⟩
      exact SqL.of (s2 _ _ hl)
    · rintro i x σ H' hx ⟨ys, v3, v4, rfl, s2, h2, d2⟩
      obtain ⟨r, t, hr1, rfl, ht⟩ := rows_at hX hx
      have hlt2 := (List.getElem?_eq_some_iff.mp hr1).1
      have et : es.take (i + 1) = es.take i ++ [r] := by
        rw [List.take_succ, hr1]
        rfl
      refine ⟨t, _, rfl, seqT_mo ht s2, rfl, _, _, rfl, _, _, rfl, rfl, ?_⟩
      refine ⟨_, rfl, _, rfl, pV_scal _ _, _, rfl, ?_⟩
      by_cases c : r.2 = lastP none (es.take i)
      · rw [decide_eq_true (congrArg pV c)]
        refine iteF ⟨_, rfl, ys, some (.int r.1), some (pV r.2), ?_, s2, h2, ?_⟩
        · rw [et, lastP_snoc]
          rfl
        · rw [et, chg_snoc, if_pos c, List.append_nil]
          exact d2
      · rw [decide_eq_false (fun e => c (pV_inj e))]
        refine iteT ⟨_, rfl, .inl ⟨rfl, _, SqL.of h2⟩, _, rfl, _, rfl, by show 2 ≤ sizeLine; decide, fun q hq => ?_⟩
        have h3 : (upd H' q (.tup [.int r.1, pV r.2])) lt = some (.lst ys) := by rw [upd_ne (ne_of_none h2 hq)]; exact h2
        have hq0 : H q = none := by
          cases e : H q with
          | none => rfl
          | some o => exact absurd (s2 q o e) (by rw [hq]; exact fun z => nomatch z)
        have nq : q ∉ [lt] := by
          have := (ne_of_none h2 hq).symm
          simp [this]
        refine ⟨lt, ys, _, rfl, rfl, h3, ?_, ?_⟩
        · have z := DpAll.len d2
          rw [List.length_map] at z
          have z2 := (chg_sub (es.take i) none).length_le
          rw [List.length_take] at z2
          exact Nat.lt_of_le_of_lt (show ys.length ≤ 2000 by omega) (by decide)
        refine ⟨_, rfl, ys ++ [.ref q], some (.int r.1), some (pV r.2), ?_, ?_, upd_same, ?_⟩
        · rw [et, lastP_snoc]
          rfl
        · intro b o e
          rw [upd_ne (ne_of_none e hlt), upd_ne (ne_of_none e hq0)]
          exact s2 b o e
        · rw [et, chg_snoc, if_neg c, List.map_append, Hd_upd (by simp)]
          exact DpAll.snoc (d2.mo (Nw_mono (Hd_new hq))) (row_mk (.inl (.inl (by rw [Nw_new hq0, Hd_out nq, upd_same]))))
    · rintro σ H2 ⟨ys, v3, v4, rfl, s2, h2, d2⟩
      rw [xlen, List.take_length] at d2
      exact ⟨_, rfl, k H2 lt ys hlt s2 h2 (d2.mo (Nw_mono (Hd_same _ _)))⟩
end
end Pt

set_option Elab.async false
set_option linter.all false
set_option maxRecDepth 100000
set_option maxHeartbeats 4000000
set_option pp.maxSteps 400
namespace Pt
open PySem L2 He Xh Gd Ru Zd Tx
def daysV (rows : List Row) : List V := rows.map fun r => .int r.1
/-- [pair[0] for pair in rows] -/
theorem days_lc {K : Fg} {σ : L2.St} {H : Hp} {Q : VK} {i j : Nat} {a : Addr} {xs : List V} {rows : List Row} (hσ : σ[i]? = some (some (.ref a))) (hj : j < σ.length) (hS : H a = some (.lst xs)) (hX : DpAll K H xs (rows.map rowD)) (hl : rows.length ≤ 1000)
    (k : ∀ D H', H D = none → Same H H' → H' D = some (.lst (daysV rows)) → Q (.ref D) H') : tLc (iList K (tVar i)) (gName j) tYes (tOp (rIxT K) (tVar j) (tC (.int 0))) [j] σ H Q := by
  refine ⟨_, hσ, a, rfl, ⟨_, SqL.of hS⟩, fun D hD => ?_⟩
  have xl : xs.length = rows.length := by
    have z := DpAll.len hX
    rw [List.length_map] at z
    exact z
  refine lc_list (K := K) (a := a) (xs := xs) (fun n Hc => Same H (Hd [D] Hc) ∧ Hc D = some (.lst (daysV (rows.take n)))) ?_ ?_ ?_ ?_
  · refine ⟨?_, upd_same⟩
    rw [Hd_upd (by simp)]
    exact Hd_add (S := []) (fun b o e => by rw [Hd_out (by simp)]; exact e) hD
  · rintro n Hc _ ⟨s, _⟩
    exact SqL.of ((s.trans (Hd_same _ _)) _ _ hS)
  · rintro n x Hc hx ⟨s, h2⟩
    obtain ⟨r, t, hr1, rfl, ht⟩ := rows_at hX hx
    have hlt := (List.getElem?_eq_some_iff.mp hr1).1
    refine ⟨?_, yes_ ?_⟩
    · show ((σ.set j none).set j (some (.ref t))).set j none = σ.set j none
      rw [List.set_set, List.set_set]
    · refine ⟨.ref t, ?_, t, _, _, .int r.1, rfl, rfl, seqT_mo ht (s.trans (Hd_same _ _)), rfl, daysV (rows.take n), h2, ?_, ?_, ?_⟩
      · show ((σ.set j none).set j (some (V.ref t)))[j]? = some (some (V.ref t))
        rw [List.getElem?_set_self (by rw [List.length_set]; exact hj)]
      · unfold daysV
        rw [List.length_map, List.length_take]
        exact Nat.lt_of_le_of_lt (show min n rows.length ≤ 2000 by omega) (by decide)
      · rw [Hd_upd (by simp)]
        exact s
      · rw [upd_same, List.take_succ, hr1]
        unfold daysV
        rw [List.map_append]
        rfl
  · rintro Hc ⟨s, h2⟩
    rw [xl, List.take_length] at h2
    exact k D Hc hD (s.trans (Hd_same _ _)) h2
theorem in_ints {d : Int} : ∀ {F : List Int}, inV (.int d) (F.map V.int) = decide (d ∈ F)
  | [] => rfl
  | f :: F => by
    have ih := in_ints (d := d) (F := F)
    show (eqV (.int f) (.int d) || inV (.int d) (F.map V.int)) = _
    rw [ih]
    have e : eqV (.int f) (.int d) = decide (f = d) := by
      simp only [eqV]
      by_cases c : f = d <;> simp [c]
    rw [e]
    by_cases c : f = d
    · subst c
      simp
    · have c2 : ¬ d = f := fun z => c z.symm
      simp [c, c2]
theorem flat_ints (F : List Int) : (F.map V.int).all flatV = true := by
  rw [List.all_map]
  exact List.all_eq_true.mpr fun _ _ => rfl
/-! ### a list of rows that grows, at fd -/
section
variable {K : Fg} {fd p t : Addr} {H : Hp} {ys : List V} {fs : List Row} {m : Nat}
structure Gr (K : Fg) (fd p : Addr) (B H : Hp) (m : Nat) (ys : List V) (fs : List Row) : Prop where
  s : Same B (Hd [fd, p] H)
  pu : Pu H p m
  at_ : H fd = some (.lst ys)
  dp : DpAll K (Hd [fd, p] H) ys (fs.map rowD)
theorem Gr.mo {B H' : Hp} (g : Gr K fd p B H m ys fs) (s : Same H H') : Gr K fd p B H' m ys fs := ⟨g.s.trans (Hd_of s), g.pu.mo s, s _ _ g.at_, g.dp.mo (Hd_of s)⟩
theorem Gr.call {B H' : Hp} {m' : Nat} (g : Gr K fd p B H m ys fs) (s : Same (W p H) (W p H')) (P : Pu H' p m') (n : fd ≠ p) : Gr K fd p B H' m' ys fs := by
  have w := Hd_mono (T := [fd, p]) s (by simp)
  exact ⟨g.s.trans w, P, call_at s n g.at_, g.dp.mo w⟩
theorem Gr.le {B : Hp} {m' : Nat} (g : Gr K fd p B H m ys fs) (h : m ≤ m') : Gr K fd p B H m' ys fs := ⟨g.s, g.pu.le h, g.at_, g.dp⟩
theorem Gr.len {B : Hp} (g : Gr K fd p B H m ys fs) : ys.length = fs.length := by
  have z := DpAll.len g.dp
  rw [List.length_map] at z
  exact z
/-- a new tuple, and the list written -/
theorem Gr.put {B : Hp} {ys' : List V} {fs' : List Row} {r : Row} (g : Gr K fd p B H m ys fs) (n : fd ≠ p) (ht : H t = none) (h : ∀ G, DpAll K G ys (fs.map rowD) → Dp K G (.ref t) (rowD r) → DpAll K G ys' (fs'.map rowD)) :
    (upd H t (.tup [.int r.1, pV r.2])) fd = some (.lst ys) ∧ Gr K fd p B (upd (upd H t (.tup [.int r.1, pV r.2])) fd (.lst ys')) m ys' fs' := by
  have nf := ne_of_none g.at_ ht
  have np := g.pu.ne ht
  have e : Hd [fd, p] (upd (upd H t (.tup [.int r.1, pV r.2])) fd (.lst ys')) = Hd [fd, p] (upd H t (.tup [.int r.1, pV r.2])) := Hd_upd (by simp)
  refine ⟨by rw [upd_ne nf]; exact g.at_, ⟨?_, (g.pu.new ht).upd n.symm, upd_same, ?_⟩⟩
  · rw [e]
    exact g.s.trans (Hd_new ht)
  · rw [e]
    refine h _ (g.dp.mo (Hd_new ht)) (row_mk (.inl (.inl ?_)))
    rw [Hd_out (by simp [nf.symm, np]), upd_same]
/-- the list written, of rows that stand -/
theorem Gr.set {B : Hp} {ys' : List V} {fs' : List Row} (g : Gr K fd p B H m ys fs) (n : fd ≠ p) (h : ∀ G, DpAll K G ys (fs.map rowD) → DpAll K G ys' (fs'.map rowD)) : Gr K fd p B (upd H fd (.lst ys')) m ys' fs' := by
  have e : Hd [fd, p] (upd H fd (.lst ys')) = Hd [fd, p] H := Hd_upd (by simp)
  refine ⟨?_, g.pu.upd n.symm, upd_same, ?_⟩
  · rw [e]
    exact g.s
  · rw [e]
    exact h _ g.dp
end
theorem ints_dp {K : Fg} {H : Hp} : ∀ F : List Int, DpAll K H (F.map V.int) (F.map PyData.int)
  | [] => .nil
  | f :: F => .cons (.int f) (ints_dp F)
theorem ints_tame {F : List Int} (h : ∀ d ∈ F, d.natAbs < 10 ^ 18) (hl : F.length ≤ 10000) : Tame 2 1000000 (.list (F.map PyData.int)) := by
  refine tame_list (n := 20) (m := 10000) (fun d hd => ?_) (by rw [List.length_map]; exact hl) (by decide)
  obtain ⟨i, hi, e⟩ := List.mem_map.mp hd
  rw [← e]
  exact tame_int (h i hi)
/-- the days without an entry -/
def freeL (rows : List Row) (n : Nat) : List Int := ((List.range n).map fun d => ((d : Nat) : Int)).filter fun d => !decide (d ∈ rows.map (·.1))
theorem freeL_mem {rows : List Row} {n : Nat} {d : Int} (h : d ∈ freeL rows n) : 0 ≤ d ∧ d < n ∧ d ∉ rows.map (·.1) := by
  obtain ⟨h1, h2⟩ := List.mem_filter.mp h
  obtain ⟨k, hk, e⟩ := List.mem_map.mp h1
  have := List.mem_range.mp hk
  refine ⟨by omega, by omega, ?_⟩
  simpa using h2
theorem freeL_len (rows : List Row) (n : Nat) : (freeL rows n).length ≤ n := by
  unfold freeL
  refine Nat.le_trans (List.length_filter_le _ _) ?_
  rw [List.length_map, List.length_range]
  exact Nat.le_refl _
def NrR (K : Fg) (B : Hp) (p a sw fd kn fr : Addr) (last way : Int) (m : Nat) (rows : List Row) (c : Prop) (σ' : L2.St) (H' : Hp) : Prop :=
  ∃ (fs : List Row) (ys : List V) (v7 v9 v10 v11 v12 : Option V), σ' = [some (.ref p), some (.ref a), some (.int last), some (.ref sw), some (.int way), some (.ref fd), some (.ref kn), v7, some (.ref fr), v9, v10, v11, v12] ∧
    Gr K fd p B H' m ys fs ∧ Good last fs ∧ fs.length ≤ 40 ∧ (c → fs = rows)
/-! ### an entry taken out, put in -/
theorem DpAll.take {K : Fg} {G : Hp} : ∀ (n : Nat) {xs : List V} {ds : List PyData}, DpAll K G xs ds → DpAll K G (xs.take n) (ds.take n)
  | 0, _, _, _ => .nil
  | n + 1, _, _, .nil => .nil
  | n + 1, _, _, .cons h1 h2 => .cons h1 (DpAll.take n h2)
theorem DpAll.drop {K : Fg} {G : Hp} : ∀ (n : Nat) {xs : List V} {ds : List PyData}, DpAll K G xs ds → DpAll K G (xs.drop n) (ds.drop n)
  | 0, _, _, h => h
  | n + 1, _, _, .nil => .nil
  | n + 1, _, _, .cons h1 h2 => DpAll.drop n h2
theorem DpAll.erase {K : Fg} {G : Hp} {xs : List V} {fs : List Row} (n : Nat) (h : DpAll K G xs (fs.map rowD)) : DpAll K G (xs.eraseIdx n) ((fs.eraseIdx n).map rowD) := by
  rw [List.eraseIdx_eq_take_drop_succ, List.eraseIdx_eq_take_drop_succ, List.map_append, List.map_take, List.map_drop]
  exact Zd.DpAll.append (DpAll.take n h) (DpAll.drop (n + 1) h)
theorem DpAll.insert {K : Fg} {G : Hp} {xs : List V} {x : V} {fs : List Row} {r : Row} (n : Nat) (h : DpAll K G xs (fs.map rowD)) (h1 : Dp K G x (rowD r)) : DpAll K G (xs.take n ++ [x] ++ xs.drop n) ((fs.take n ++ [r] ++ fs.drop n).map rowD) := by
  rw [List.map_append, List.map_append, List.map_take, List.map_drop]
  exact Zd.DpAll.append (Zd.DpAll.append (DpAll.take n h) (.cons h1 .nil)) (DpAll.drop n h)
theorem erase_perm {α : Type} {l : List α} {n : Nat} (h : n < l.length) : (l[n] :: l.eraseIdx n).Perm l := by
  rw [List.eraseIdx_eq_take_drop_succ]
  refine List.perm_middle.symm.trans ?_
  rw [← List.drop_eq_getElem_cons h, List.take_append_drop]
theorem Good.perm {lst : Int} {as bs : List Row} (p : as.Perm bs) (g : Good lst bs) : Good lst as := ⟨(p.map (·.1)).symm.nodup g.1, fun r hr => g.2 r (p.mem_iff.mp hr)⟩
/-- .. and another one for it, of a day that is free then -/
theorem Good.erase {lst : Int} {fs : List Row} {n : Nat} (g : Good lst fs) (h : n < fs.length) : Good lst (fs.eraseIdx n) ∧ (fs[n]).1 ∉ (fs.eraseIdx n).map (·.1) := by
  have q := Good.perm (erase_perm h) g
  have nd := q.1
  rw [List.map_cons, List.nodup_cons] at nd
  exact ⟨⟨nd.2, fun r hr => q.2 r (List.mem_cons_of_mem _ hr)⟩, nd.1⟩
theorem Good.insert {lst : Int} {fs : List Row} {r : Row} (n : Nat) (g : Good lst fs) (h : r.1 ∉ fs.map (·.1)) (h0 : 0 ≤ r.1) (h1 : r.1 ≤ lst) (h2 : Small r.2) : Good lst (fs.take n ++ [r] ++ fs.drop n) := by
  have e : (fs.take n ++ [r] ++ fs.drop n) = fs.take n ++ r :: fs.drop n := by simp
  rw [e]
  refine Good.perm List.perm_middle ?_
  rw [List.take_append_drop]
  refine ⟨List.nodup_cons.mpr ⟨h, g.1⟩, fun s hs => ?_⟩
  rcases List.mem_cons.mp hs with q | q
  · rw [q]
    exact ⟨h0, h1, h2⟩
  · exact g.2 s q
def NrQ (K : Fg) (B : Hp) (p a sw fd kn fr : Addr) (last way : Int) (v7 v10 : Option V) (d at_ : Int) (o : Option Int) (m : Nat) (er : List Row) (c : Prop) (σ' : L2.St) (H' : Hp) : Prop :=
  ∃ (fs : List Row) (ys : List V), σ' = [some (.ref p), some (.ref a), some (.int last), some (.ref sw), some (.int way), some (.ref fd), some (.ref kn), v7, some (.ref fr), some (.int d), v10, some (.int at_), some (pV o)] ∧
    Gr K fd p B H' m ys fs ∧ Good last fs ∧ fs.length ≤ 40 ∧ (c → fs = er)
def spNear (K : Fg) : Sp := fun vs H Q _ => ∃ (p a : Addr) (n last : Nat) (xs : List V) (rows : List Row), vs = [.ref p, .ref a, .int last] ∧ Pu H p n ∧ n + 30 ≤ most ∧ W p H a = some (.lst xs) ∧ DpAll K (W p H) xs (rows.map rowD) ∧ Good last rows ∧ rows.length ≤ 40 ∧ last ≤ 402 ∧
  ∀ H' l rows', Same (W p H) (W p H') → Pu H' p (n + 30) → NewRows K p H H' l rows' → Good last rows' → rows'.length ≤ 40 → Q (.ref l) H'
theorem scNear : FnScope ["purse", "rows", "last", "sweep", "way", "found", "known", "pair", "free", "spot", "turn", "at", "price"] ["purse", "rows", "last"] (defScope sLawNearRows) := ⟨rfl, rfl, rfl, by decide +kernel, rfl, by decide +kernel, by decide +kernel⟩
section
variable {P : Program} {w : World} {K : Fg} {mg : Str → Option Value} {base : Heap}
theorem ok_near {f : Addr} {fd : FuncData} (F : FunX K "_law_near_rows" "_law_near_rows" sLawNearRows f fd) (gRange : mg "range" = none) (gList : mg "list" = none) (gLen : mg "len" = none) (c_law_coin : Cal P w K mg base 1 "_law_coin" ["purse", "many"] spCoin)
    (c_law_price_drawn : Cal P w K mg base 2 "_law_price_drawn" ["purse"] spPrice) (c_law_sweep : Cal P w K mg base 1 "_law_sweep" ["rows", "last"] (spSweep K)) : FnOk P w K mg base CX0 4 f fd ["purse", "rows", "last"] (spNear K) := by
  refine F.ok scNear (fun vs H Q E h => ?_) (fun cdv A outer s H vs Q E hr h => ?_)
  · obtain ⟨p, a, n, last, xs, rows, rfl, _⟩ := h
    rfl
  · obtain ⟨p, a, n, last, xs, rows, rfl, hP, hn, ha, hX, g, hl, hlast, k⟩ := h
    have hu64 : (A.deeper (PyProof.Rows.envOfC "_law_near_rows" (defScope sLawNearRows) s.heap.objs.size f cdv)).units + 64 < cLine := by
      have := hr.un
      omega
    refine ⟨_, PSs.nox (pss_cons (ps_par (i := 3) (j := 4) (by rfl) scNear.nd rfl rfl (by decide) rfl rfl (pa_cons (pe_c c_law_sweep (hr.mono (by decide)) rfl (pa_cons (pv 1) (pa_cons (pv 2) pa_nil))) (pa_cons (pe_c c_law_coin (hr.mono (by decide)) rfl (pa_cons (pv 0) (pa_cons pe_int pa_nil))) pa_nil)) (by rfl))
        (pss_cons (ps_set (i := 5) scNear.nd rfl (.inl rfl) (pe_callTy call_list_of (by rfl) gList (by decide +kernel) (pa_cons (pv 1) pa_nil)))
        (pss_cons (ps_set (i := 6) scNear.nd rfl (.inr rfl) (pe_lc (own := [("pair", 7)]) (tt := tYes) rfl scNear.nd (pi_list (pv 1)) (blkOk_by (own := [("pair", 7)]) (N := ["purse", "rows", "last", "sweep", "way", "found", "known", "pair", "free", "spot", "turn", "at", "price"]) (sc := defScope sLawNearRows) (by decide +kernel)) (fun _ _ _ _ _ => by exact (pg_name (i := 7) scNear.nd rfl (.inl rfl))) (fun _ _ _ _ _ => pts_nil) (fun _ _ _ _ _ => by exact (pe_ix (r := rIxT K) ix_tup (pv 7) pe_int (fun _ _ => rfl)))))
        (pss_cons (ps_setLc (i := 8) (own := [("spot", 9)]) rfl scNear.nd rfl rfl (sw_true rfl rfl rfl (by decide +kernel)) (pi_range1 (by rfl) gRange (pa_cons (pe_op op_add (pv 2) pe_int) pa_nil)) (blkOk_by (own := [("spot", 9)]) (N := ["purse", "rows", "last", "sweep", "way", "found", "known", "pair", "free", "spot", "turn", "at", "price"]) (sc := defScope sLawNearRows) (by decide +kernel)) (fun _ _ _ _ _ => by exact (pg_name (i := 9) scNear.nd rfl (.inl rfl))) (fun _ _ _ _ _ => (by exact (pts_one (pt_cmpR (r := rIn K true) op_notIn_seq (pv 9) (pv 6) (by rfl))))) (fun _ _ _ _ _ => by exact (pv 9)))
        (pss_cons (ps_if (PW.pt (pw_and (pt_cmpR op_in_seq (pv 4) (pe_tup (pa_cons pe_int (pa_cons pe_int (pa_cons pe_int pa_nil)))) (by rfl)) (pw_and1 (pt_cmpR (op_neD hu64) (pv 8) (pe_lst pa_nil) (nomark _))))) (pss_one (ps_for PassesOwn.never rfl (pi_range1 (by rfl) gRange (pa_cons (pe_op op_add pe_int (pv 4)) pa_nil)) (pg_name (i := 10) scNear.nd rfl (.inl rfl))
            (pss_cons (ps_set (i := 9) scNear.nd rfl (.inl rfl) (pe_ix ix_list (pv 8) (pe_c c_law_coin (hr.mono (by decide)) rfl (pa_cons (pv 0) (pa_cons (pe_callB call_len_seq (by rfl) gLen (by decide +kernel) (pa_cons (pv 8) pa_nil)) pa_nil))) (fun _ _ => rfl)))
            (pss_one (ps_if (PW.pt (pw_and (pt_cmpR op_lt (pe_callB call_len_seq (by rfl) gLen (by decide +kernel) (pa_cons (pv 5) pa_nil)) pe_int (nomark _)) (pw_and1 (pt_cmpR op_notIn_seq (pv 9) (pe_lc (own := [("pair", 7)]) (tt := tYes) rfl scNear.nd (pi_list (pv 5)) (blkOk_by (own := [("pair", 7)]) (N := ["purse", "rows", "last", "sweep", "way", "found", "known", "pair", "free", "spot", "turn", "at", "price"]) (sc := defScope sLawNearRows) (by decide +kernel)) (fun _ _ _ _ _ => by exact (pg_name (i := 7) scNear.nd rfl (.inl rfl))) (fun _ _ _ _ _ => pts_nil) (fun _ _ _ _ _ => by exact (pe_ix (r := rIxT K) ix_tup (pv 7) pe_int (fun _ _ => rfl)))) (by rfl))))) (pss_one (ps_expr (pe_bm PySem.F.plainAttrs_list PySem.F.slot_list_append PySem.F.type_list_append mt_append (pv 5) (pa_cons (pe_tup (pa_cons (pv 9) (pa_cons (pe_ix ix_list (pv 3) (pv 9) (fun _ _ => rfl)) pa_nil))) pa_nil)))) pss_nil))))) pss_nil)
        (pss_cons (ps_if (PW.pt (pw_and (pt_cmpR op_eq (pv 4) pe_int (nomark _)) (pw_and (pt_cmpR (op_neD hu64) (pv 8) (pe_lst pa_nil) (nomark _)) (pw_and1 (pt_cmpR op_lt (pe_callB call_len_seq (by rfl) gLen (by decide +kernel) (pa_cons (pv 5) pa_nil)) pe_int (nomark _)))))) (pss_one (ps_expr (pe_bm PySem.F.plainAttrs_list PySem.F.slot_list_append PySem.F.type_list_append mt_append (pv 5) (pa_cons (pe_tup (pa_cons (pe_ix ix_list (pv 8) (pe_c c_law_coin (hr.mono (by decide)) rfl (pa_cons (pv 0) (pa_cons (pe_callB call_len_seq (by rfl) gLen (by decide +kernel) (pa_cons (pv 8) pa_nil)) pa_nil))) (fun _ _ => rfl)) (pa_cons (pe_c c_law_price_drawn (hr.mono (by decide)) rfl (pa_cons (pv 0) pa_nil)) pa_nil))) pa_nil)))) pss_nil)
        (pss_cons (ps_if (PW.pt (pw_and (pt_cmpR op_gt (pv 4) pe_int (nomark _)) (pw_and1 (pt_cmpR (op_neD hu64) (pv 1) (pe_lst pa_nil) (nomark _))))) (pss_cons (ps_set (i := 11) scNear.nd rfl (.inl rfl) (pe_c c_law_coin (hr.mono (by decide)) rfl (pa_cons (pv 0) (pa_cons (pe_callB call_len_seq (by rfl) gLen (by decide +kernel) (pa_cons (pv 1) pa_nil)) pa_nil))))
          (pss_cons (ps_asg (pe_bm PySem.F.plainAttrs_list PySem.F.slot_list_pop PySem.F.type_list_pop mt_popAt (pv 5) (pa_cons (pv 11) pa_nil)) (pg_tup (by rfl) (pgs_cons (pg_name (i := 9) scNear.nd rfl (.inl rfl)) (pgs_cons (pg_name (i := 12) scNear.nd rfl (.inl rfl)) pgs_nil))))
          (pss_cons (ps_if (pt_cmpR op_eq (pv 4) pe_int (nomark _)) (pss_one (ps_expr (pe_bm PySem.F.plainAttrs_list PySem.F.slot_list_append PySem.F.type_list_append mt_append (pv 5) (pa_cons (pe_tup (pa_cons (pv 9) (pa_cons (pe_c c_law_price_drawn (hr.mono (by decide)) rfl (pa_cons (pv 0) pa_nil)) pa_nil))) pa_nil)))) pss_nil)
          (pss_cons (ps_if (PW.pt (pw_and (pt_cmpR op_eq (pv 4) pe_int (nomark _)) (pw_and1 (pt_cmpR (op_neD hu64) (pv 8) (pe_lst pa_nil) (nomark _))))) (pss_one (ps_expr (pe_bm PySem.F.plainAttrs_list PySem.F.slot_list_insert PySem.F.type_list_insert mt_insert (pv 5) (pa_cons (pv 11) (pa_cons (pe_tup (pa_cons (pe_ix ix_list (pv 8) (pe_c c_law_coin (hr.mono (by decide)) rfl (pa_cons (pv 0) (pa_cons (pe_callB call_len_seq (by rfl) gLen (by decide +kernel) (pa_cons (pv 8) pa_nil)) pa_nil))) (fun _ _ => rfl)) (pa_cons (pv 12) pa_nil))) pa_nil))))) pss_nil)
          (pss_one (ps_if (pt_cmpR op_eq (pv 4) pe_int (nomark _)) (pss_one (ps_expr (pe_bm PySem.F.plainAttrs_list PySem.F.slot_list_append PySem.F.type_list_append mt_append (pv 5) (pa_cons (pe_tup (pa_cons (pv 9) (pa_cons (pe_ifExp (pt_cmpR op_isN (pv 12) pe_non (nomark _)) pe_int (pe_un un_neg (pv 12))) pa_nil))) pa_nil)))) pss_nil)))))) pss_nil)
        (pss_one (ps_ret (pv 5)))))))))), ?_⟩
    obtain ⟨nap', ha0⟩ := Hd_some ha
    have nap : a ≠ p := fun z => nap' (List.mem_singleton.mpr z)
    have hX0 := hX.mo (Hd_same _ _)
    refine ⟨_, rfl, _, rfl, .ref a, rows, last, rfl, .lst (SqL.of ha0) hX0, g.1, by omega, by omega, fun H1 sw sw0 s1 hsw1 => ?_⟩
    refine ⟨_, rfl, p, 8, n, rfl, by decide, by omega, hP.mo s1, by omega, fun H2 way s2 P2 w0 w1 => ⟨_, _, rfl, ?_⟩⟩
    have nsw := hP.ne sw0
    have s02 : Same (W p H) (W p H2) := (Hd_of s1).trans s2
    have ha2 := call_at s02 nap ha0
    have hsw2 := call_at s2 nsw hsw1
    refine ⟨_, rfl, a, xs, rfl, .inl (SqL.of ha2), fun fd hfd => ?_⟩
    have nfd := P2.ne hfd
    have fd0 : H fd = none := back_none s02 nfd hfd
    generalize hH3 : upd H2 fd (.lst xs) = H3
    have s3 : Same H2 H3 := hH3 ▸ new_same hfd
    have hX3 : DpAll K H3 xs (rows.map rowD) := (hX.mo s02).mo ((Hd_of s3).trans (Hd_same _ _))
    dsimp only [gName]
    refine seq_asg (days_lc (i := 1) (j := 7) (a := a) ?_ ?_ (s3 _ _ ha2) hX3 (by omega) (fun kn H4 kn0 s4 hkn => ?_))
    · rfl
    · show 7 < 13
      decide
    refine ⟨_, rfl, _, _, rfl, rfl, (last : Int) + 1, rfl, by omega, by omega, fun fr hfr => ?_⟩
    have et : ((last : Int) + 1).toNat = last + 1 := by omega
    rw [et]
    refine lc_range (lo := 0) (n := last + 1) (fun i Hc => Same H4 (Hd [fr] Hc) ∧ Hc fr = some (.lst ((freeL rows i).map V.int))) ?_ ?_ ?_
    · refine ⟨?_, upd_same⟩
      rw [Hd_upd (by simp)]
      exact Hd_add (S := []) (fun b o e => by rw [Hd_out (by simp)]; exact e) hfr
    · rintro i Hc hi ⟨sc, hc⟩
      have hknc := (sc.trans (Hd_same _ _)) _ _ hkn
      have ek : daysV rows = (rows.map (·.1)).map V.int := by
        unfold daysV
        rw [List.map_map]
        rfl
      rw [ek] at hknc
      refine ⟨rfl, _, rfl, _, rfl, kn, _, rfl, .inl (SqL.of hknc), rfl, flat_ints _, _, rfl, ?_⟩
      have e0 : freeL rows (i + 1) = freeL rows i ++ (if (i : Int) ∈ rows.map (·.1) then [] else [(i : Int)]) := by
        unfold freeL
        rw [List.range_succ, List.map_append, List.filter_append]
        congr 1
        by_cases c : (i : Int) ∈ rows.map (·.1)
        · rw [if_pos c]
          simp [c]
        · rw [if_neg c]
          simp [c]
      show if (!inV (.int (0 + (i : Int))) ((rows.map (·.1)).map V.int)) = true then _ else _
      rw [in_ints, Int.zero_add]
      by_cases c : (i : Int) ∈ rows.map (·.1)
      · rw [decide_eq_true c]
        refine iteF ⟨sc, ?_⟩
        rw [e0, if_pos c, List.append_nil]
        exact hc
      · rw [decide_eq_false c]
        refine iteT ⟨_, rfl, _, hc, ?_, ?_, ?_⟩
        · rw [List.length_map]
          exact Nat.lt_of_le_of_lt (show (freeL rows i).length ≤ 2000 by have := freeL_len rows i; omega) (by decide)
        · rw [Hd_upd (by simp)]
          exact sc
        · rw [upd_same, e0, if_neg c, List.map_append]
          rfl
    · rintro H5 ⟨s5, hfr5⟩
      have s35 : Same H3 H5 := s4.trans (s5.trans (Hd_same _ _))
      have P5 : Pu H5 p (n + 1) := (hH3 ▸ P2.new hfd : Pu H3 p (n + 1)).mo s35
      have hfd5 : H5 fd = some (.lst xs) := s35 _ _ (hH3 ▸ upd_same)
      have sB : Same (W p H) (Hd [fd, p] H5) := (Hd_add (S := [p]) (s02.trans (Hd_of s3)) (Hd_none fd0)).trans (Hd_of s35)
      have hX5 : DpAll K (Hd [fd, p] H5) xs (rows.map rowD) := hX.mo sB
      generalize hF : freeL rows (last + 1) = F at hfr5
      have Fm : ∀ d ∈ F, 0 ≤ d ∧ d ≤ last ∧ d ∉ rows.map (·.1) := fun d hd => by
        rw [← hF] at hd
        have := freeL_mem hd
        exact ⟨this.1, by have := this.2.1; omega, this.2.2⟩
      have Fl : F.length ≤ 403 := by
        rw [← hF]
        have := freeL_len rows (last + 1)
        omega
      have tF := ints_tame (F := F) (fun d hd => by have := Fm d hd; omega) (by omega)
      have nfr : fr ∉ [fd, p] := by
        have h4fd := s4 _ _ (hH3 ▸ upd_same : H3 fd = some (.lst xs))
        obtain ⟨o, e⟩ := P5.at_
        have n1 : fr ≠ fd := (ne_of_none h4fd hfr).symm
        have n2 : fr ≠ p := ((hH3 ▸ P2.new hfd : Pu H3 p (n + 1)).mo s4).ne hfr
        simp [n1, n2]
      have nswf : sw ≠ fd := (ne_of_none hsw2 hfd)
      have naf : a ≠ fd := ne_of_none ha2 hfd
      -- what stands in the heap at hand
      generalize hB : Hd [fd, p] H5 = B at sB hX5
      have bfr : B fr = some (.lst (F.map V.int)) := by rw [← hB, Hd_out nfr]; exact hfr5
      have bsw : B sw = some (.lst (sweepV rows (last + 1))) := by rw [← hB, Hd_out (by simp [nsw, nswf])]; exact s35 _ _ (s3 _ _ hsw2)
      have ba : B a = some (.lst xs) := by rw [← hB, Hd_out (by simp [nap, naf])]; exact s35 _ _ (s3 _ _ ha2)
      have G5 : Gr K fd p B H5 (n + 1) xs rows := ⟨hB ▸ Same.refl _, P5, hfd5, hB ▸ hX5⟩
      dsimp only [gName]
      refine seq_rest (NrR K B p a sw fd kn fr last way (n + 10) rows (2 < way)) ?_ ?_
      · rintro σ1 H6 ⟨fs, ys, v7, v9, v10, v11, v12, rfl, g6, gd6, l6, c6⟩
        refine seq_rest (NrR K B p a sw fd kn fr last way (n + 14) rows (3 < way)) ?_ ?_
        · rintro σ1 H7 ⟨fs, ys, v7, v9, v10, v11, v12, rfl, g7, gd7, l7, c7⟩
          refine seq_rest (NrR K B p a sw fd kn fr last way (n + 30) rows False) ?_ ?_
          · rintro σ1 H8 ⟨fs, ys, v7, v9, v10, v11, v12, rfl, g8, gd8, l8, _⟩
            exact ⟨_, rfl, k H8 fd fs (sB.trans (g8.s.trans (Hd_sub (by simp)))) g8.pu ⟨fd0, nfd, ys, g8.at_, g8.dp.mo (by
              have e : ∀ G : Hp, Hd [fd, p] G = Hd [p, fd] G := fun G => by
                funext b
                by_cases c1 : b = fd <;> by_cases c2 : b = p <;> simp [Hd, c1, c2]
              rw [e]
              exact Same.refl _)⟩ gd8 l8⟩
          · intro rest
            refine ⟨_, rfl, _, _, rfl, rfl, _, rfl, ?_⟩
            have keep : NrR K B p a sw fd kn fr last way (n + 30) rows False [some (.ref p), some (.ref a), some (.int last), some (.ref sw), some (.int way), some (.ref fd), some (.ref kn), v7, some (.ref fr), v9, v10, v11, v12] H7 :=
              ⟨fs, ys, v7, v9, v10, v11, v12, rfl, g7.le (by omega), gd7, l7, fun z => z.elim⟩
            refine ite2 (fun hw => ?_) (fun _ => iteF (rest _ _ keep))
            have w3 : 3 < way := of_decide_eq_true hw
            obtain rfl : fs = rows := c7 w3
            have a7 : ∀ {G : Hp}, Same B (Hd [fd, p] G) → G a = some (.lst xs) := fun sG => (Hd_some (sG _ _ ba)).2
            have X7 : ∀ {G : Hp}, Same B (Hd [fd, p] G) → DpAll K G xs (fs.map rowD) := fun sG => hX5.mo (sG.trans (Hd_same _ _))
            refine ⟨_, rfl, Nat.zero_le _, fun q hq => ⟨rowsD fs, .list [], (Dp.lst (SqL.of (a7 g7.s)) (X7 g7.s)).mo (new_same hq), .lst (SqL.of upd_same) .nil, (Good.tame g (by omega) (by omega)).shaped (by decide), by decide, _, rfl, ?_⟩⟩
            have g8 := g7.mo (new_same (o := .lst []) hq)
            generalize upd H7 q (.lst []) = H8 at g8
            cases fs with
            | nil => exact iteF (rest _ _ ⟨_, ys, v7, v9, v10, v11, v12, rfl, g8.le (by omega), gd7, l7, fun z => z.elim⟩)
            | cons r0 rs =>
              refine iteT ?_
              have xl : xs.length = rs.length + 1 := by
                have z := DpAll.len (X7 g8.s)
                rw [List.length_map] at z
                exact z
              have rl : rs.length + 1 ≤ 40 := hl
              refine ⟨_, rfl, _, rfl, a, xs, rfl, .inl (SqL.of (a7 g8.s)), p, (xs.length : Int), _, rfl, by omega, by omega, g8.pu, by omega, fun H9 j s9 P9 j0 j1 => ?_⟩
              have g9 := g8.call s9 P9 nfd
              obtain ⟨jn, rfl⟩ : ∃ jn : Nat, j = jn := ⟨j.toNat, by omega⟩
              have hj : jn < (r0 :: rs).length := by
                rw [List.length_cons]
                omega
              have yl : ys.length = rs.length + 1 := g9.len
              obtain ⟨t, ht1, ht2⟩ := rows_get g9.dp (List.getElem?_eq_getElem hj)
              generalize hrj : (r0 :: rs)[jn] = rj at ht1 ht2
              have hrm : rj ∈ r0 :: rs := hrj ▸ List.getElem_mem hj
              have hsi : seqIndex? (jn : Int) ys.length = some jn := seqIndex_of (by omega) (by omega)
              have nfp : fd ≠ p := nfd
              -- found.pop(at)
              refine ⟨_, rfl, .inl ⟨rfl, _, SqL.of g9.at_⟩, _, rfl, fd, ys, (jn : Int), jn, _, rfl, rfl, g9.at_, by omega, by omega, hsi, ht1, ?_⟩
              have g10 : Gr K fd p B (upd H9 fd (.lst (ys.eraseIdx jn))) (n + 15) (ys.eraseIdx jn) ((r0 :: rs).eraseIdx jn) := (g9.set nfp fun G d => DpAll.erase jn d).le (by omega)
              have ht3 : SqT K (upd H9 fd (.lst (ys.eraseIdx jn))) t [.int rj.1, pV rj.2] := by
                have z := seqT_mo ht2 (Hd_same [fd, p] (upd H9 fd (.lst (ys.eraseIdx jn))) |> fun q => by
                  rw [Hd_upd (by simp)] at q
                  exact q)
                exact z
              generalize upd H9 fd (.lst (ys.eraseIdx jn)) = H10 at g10 ht3
              have ge := Good.erase gd7 hj
              rw [hrj] at ge
              have rjg := gd7.2 rj hrm
              have hl2 : ((r0 :: rs).eraseIdx jn).length = rs.length := by
                rw [List.length_eraseIdx, if_pos hj]
                rfl
              generalize her : (r0 :: rs).eraseIdx jn = er at g10 ge hl2
              generalize hye : ys.eraseIdx jn = ye at g10
              refine ⟨t, _, rfl, ht3, rfl, _, _, rfl, _, _, rfl, rfl, ?_⟩
              have erF : ∀ d ∈ F, d ∉ er.map (·.1) := fun d hd hm => by
                obtain ⟨r, hr1, hr2⟩ := List.mem_map.mp hm
                refine (Fm d hd).2.2 (List.mem_map.mpr ⟨r, ?_, hr2⟩)
                rw [← her] at hr1
                exact (List.eraseIdx_sublist _ _).subset hr1
              dsimp only [gName]
              refine seq_rest (NrQ K B p a sw fd kn fr last way v7 v10 rj.1 jn rj.2 (n + 20) er (way ≠ 4)) ?_ ?_
              · rintro σ1 H11 ⟨fs, ys, rfl, g11, gd11, l11, c11⟩
                refine seq_rest (NrQ K B p a sw fd kn fr last way v7 v10 rj.1 jn rj.2 (n + 25) er (way ≠ 4 ∧ way ≠ 5)) ?_ ?_
                · rintro σ1 H12 ⟨fs, ys, rfl, g12, gd12, l12, c12⟩
                  -- way == 6
                  have out : NrR K B p a sw fd kn fr last way (n + 30) (r0 :: rs) False [some (.ref p), some (.ref a), some (.int last), some (.ref sw), some (.int way), some (.ref fd), some (.ref kn), v7, some (.ref fr), some (.int rj.1), v10, some (.int jn), some (pV rj.2)] H12 :=
                    ⟨fs, ys, v7, _, v10, _, _, rfl, g12.le (by omega), gd12, l12, fun z => z.elim⟩
                  refine ⟨_, rfl, rfl, _, rfl, ite2 (fun hc => ?_) (fun _ => rest _ _ out)⟩
                  have w6 : way = 6 := by
                    have z := of_decide_eq_true hc
                    injection z
                  obtain rfl : fs = er := c12 ⟨by omega, by omega⟩
                  have sm := rjg.2.2
                  have nosz : ys.length < sizeLine := Nat.lt_of_le_of_lt (show ys.length ≤ 100 by have := g12.len; omega) (by decide)
                  have fin6 : ∀ (z : Int) (t6 : Addr), Small (some z) → (ht6 : H12 t6 = none) → NrR K B p a sw fd kn fr last way (n + 30) (r0 :: rs) False [some (.ref p), some (.ref a), some (.int last), some (.ref sw), some (.int way), some (.ref fd), some (.ref kn), v7, some (.ref fr), some (.int rj.1), v10, some (.int jn), some (pV rj.2)] (upd (upd H12 t6 (.tup [.int rj.1, .int z])) fd (.lst (ys ++ [.ref t6]))) ∧ (upd H12 t6 (.tup [.int rj.1, .int z])) fd = some (.lst ys) := fun z t6 sz ht6 => by
                    obtain ⟨h13, g13⟩ := g12.put (r := (rj.1, some z)) (ys' := ys ++ [.ref t6]) (fs' := fs ++ [(rj.1, some z)]) nfd ht6 fun G d1 d2 => by
                      rw [List.map_append]
                      exact Zd.DpAll.snoc d1 d2
                    refine ⟨⟨_, _, v7, _, v10, _, _, rfl, g13.le (by omega), Good.snoc gd12 ge.2 rjg.1 rjg.2.1 sz, ?_, fun z => z.elim⟩, h13⟩
                    rw [List.length_append, List.length_singleton]
                    omega
                  refine ⟨_, rfl, .inl ⟨rfl, _, SqL.of g12.at_⟩, _, rfl, _, rfl, rfl, _, rfl, ?_⟩
                  cases ho : rj.2 with
                  | none =>
                    rw [ho] at fin6
                    refine iteT ⟨by show 2 ≤ sizeLine; decide, fun t6 ht6 => ?_⟩
                    obtain ⟨q1, q2⟩ := fin6 0 t6 (fun i e => by cases e; omega) ht6
                    exact ⟨fd, ys, _, rfl, rfl, q2, nosz, rest _ _ q1⟩
                  | some v =>
                    rw [ho] at fin6
                    refine iteF ⟨_, rfl, v, rfl, by show 2 ≤ sizeLine; decide, fun t6 ht6 => ?_⟩
                    obtain ⟨q1, q2⟩ := fin6 (-v) t6 (fun i e => by
                      cases e
                      have := sm v ho
                      omega) ht6
                    exact ⟨fd, ys, _, rfl, rfl, q2, nosz, rest _ _ q1⟩
                · intro rest2
                  have keep : NrQ K B p a sw fd kn fr last way v7 v10 rj.1 jn rj.2 (n + 25) er (way ≠ 4 ∧ way ≠ 5) [some (.ref p), some (.ref a), some (.int last), some (.ref sw), some (.int way), some (.ref fd), some (.ref kn), v7, some (.ref fr), some (.int rj.1), v10, some (.int jn), some (pV rj.2)] H11 :=
                    ⟨fs, ys, rfl, g11.le (by omega), gd11, l11, fun z => c11 z.1⟩
                  refine ⟨_, rfl, rfl, _, rfl, ite2 (fun hc => ?_) (fun _ => iteF (rest2 _ _ keep))⟩
                  have w5 : way = 5 := by
                    have z := of_decide_eq_true hc
                    injection z
                  obtain rfl : fs = er := c11 (by omega)
                  have frAt : ∀ {G : Hp}, Same B (Hd [fd, p] G) → G fr = some (.lst (F.map V.int)) := fun sG => (Hd_some (sG _ _ bfr)).2
                  refine ⟨_, rfl, Nat.zero_le _, fun q hq => ⟨.list (F.map PyData.int), .list [], (Dp.lst (SqL.of (frAt g11.s)) (ints_dp F)).mo (new_same hq), .lst (SqL.of upd_same) .nil, tF.shaped (by decide), by decide, _, rfl, ?_⟩⟩
                  have g12 := g11.mo (new_same (o := .lst []) hq)
                  generalize upd H11 q (.lst []) = H12 at g12
                  by_cases hF0 : F = []
                  · subst hF0
                    exact iteF (rest2 _ _ ⟨fs, ys, rfl, g12.le (by omega), gd11, l11, fun z => rfl⟩)
                  · have eF : (!PyData.eqv (.list (F.map PyData.int)) (.list [])) = true := by
                      cases F with
                      | nil => exact absurd rfl hF0
                      | cons f F => rfl
                    rw [eF]
                    have Fpos : 0 < F.length := List.length_pos_iff.mpr hF0
                    refine iteT ⟨_, rfl, .inl ⟨rfl, _, SqL.of g12.at_⟩, _, rfl, _, rfl, _, rfl, _, rfl, fr, _, rfl, .inl (SqL.of (frAt g12.s)), p, ((F.map V.int).length : Int), _, rfl, by rw [List.length_map]; omega, by rw [List.length_map]; omega, g12.pu, by omega, fun H13 j s13 P13 j0 j1 => ?_⟩
                    rw [List.length_map] at j1
                    obtain ⟨jm, rfl⟩ : ∃ jm : Nat, j = jm := ⟨j.toNat, by omega⟩
                    have hjm : jm < F.length := by omega
                    have g13 := g12.call s13 P13 nfd
                    have hat : (F.map V.int)[jm]? = some (.int F[jm]) := by
                      rw [List.getElem?_map, List.getElem?_eq_getElem hjm]
                      rfl
                    have hfm := Fm _ (List.getElem_mem hjm)
                    have hfe := erF _ (List.getElem_mem hjm)
                    refine ⟨fr, _, _, _, rfl, rfl, SqL.of (frAt g13.s), atI_nat hat, _, rfl, by show 2 ≤ sizeLine; decide, fun t6 ht6 => ?_⟩
                    obtain ⟨h14, g14⟩ := g13.put (r := (F[jm], rj.2)) (ys' := ys.take jn ++ [.ref t6] ++ ys.drop jn) (fs' := fs.take jn ++ [(F[jm], rj.2)] ++ fs.drop jn) nfd ht6 fun G d1 d2 => DpAll.insert jn d1 d2
                    refine ⟨fd, ys, (jn : Int), .ref t6, rfl, rfl, h14, Nat.lt_of_le_of_lt (show ys.length ≤ 100 by have := g12.len; omega) (by decide), by omega, by omega, ?_⟩
                    rw [show ((jn : Int)).toNat = jn from rfl]
                    refine rest2 _ _ ⟨_, _, rfl, g14.le (by omega), Good.insert jn gd11 hfe hfm.1 hfm.2.1 rjg.2.2, ?_, fun z => absurd w5 z.2⟩
                    simp only [List.length_append, List.length_take, List.length_drop, List.length_singleton]
                    omega
              · intro rest2
                have keep : NrQ K B p a sw fd kn fr last way v7 v10 rj.1 jn rj.2 (n + 20) er (way ≠ 4) [some (.ref p), some (.ref a), some (.int last), some (.ref sw), some (.int way), some (.ref fd), some (.ref kn), v7, some (.ref fr), some (.int rj.1), v10, some (.int jn), some (pV rj.2)] H10 :=
                  ⟨er, ye, rfl, g10.le (by omega), ge.1, by omega, fun _ => rfl⟩
                refine ⟨_, rfl, rfl, _, rfl, ite2 (fun hc => ?_) (fun _ => rest2 _ _ keep)⟩
                have w4 : way = 4 := by
                  have z := of_decide_eq_true hc
                  injection z
                refine ⟨_, rfl, .inl ⟨rfl, _, SqL.of g10.at_⟩, _, rfl, _, rfl, p, _, rfl, g10.pu, by omega, fun H11 o s11 P11 so => ⟨by show 2 ≤ sizeLine; decide, fun t6 ht6 => ?_⟩⟩
                have g11 := g10.call s11 P11 nfd
                obtain ⟨h12, g12⟩ := g11.put (r := (rj.1, o)) (ys' := ye ++ [.ref t6]) (fs' := er ++ [(rj.1, o)]) nfd ht6 fun G d1 d2 => by
                  rw [List.map_append]
                  exact Zd.DpAll.snoc d1 d2
                refine ⟨fd, ye, _, rfl, rfl, h12, Nat.lt_of_le_of_lt (show ye.length ≤ 100 by have := g10.len; omega) (by decide), ?_⟩
                refine rest2 _ _ ⟨_, _, rfl, g12.le (by omega), Good.snoc ge.1 ge.2 rjg.1 rjg.2.1 so, ?_, fun z => absurd w4 z⟩
                rw [List.length_append, List.length_singleton]
                omega
        · intro rest
          have keep : NrR K B p a sw fd kn fr last way (n + 14) rows (3 < way) [some (.ref p), some (.ref a), some (.int last), some (.ref sw), some (.int way), some (.ref fd), some (.ref kn), v7, some (.ref fr), v9, v10, v11, v12] H6 :=
            ⟨fs, ys, v7, v9, v10, v11, v12, rfl, g6.le (by omega), gd6, l6, fun z => c6 (by omega)⟩
          refine ⟨_, rfl, rfl, _, rfl, ite2 (fun hc => ?_) (fun _ => iteF (rest _ _ keep))⟩
          have w3 : way = 3 := by
            have z := of_decide_eq_true hc
            injection z
          obtain rfl : fs = rows := c6 (by omega)
          have frAt : ∀ {G : Hp}, Same B (Hd [fd, p] G) → G fr = some (.lst (F.map V.int)) := fun sG => (Hd_some (sG _ _ bfr)).2
          refine ⟨_, rfl, Nat.zero_le _, fun q hq => ⟨.list (F.map PyData.int), .list [], (Dp.lst (SqL.of (frAt g6.s)) (ints_dp F)).mo (new_same hq), .lst (SqL.of upd_same) .nil, tF.shaped (by decide), by decide, _, rfl, ?_⟩⟩
          have g7 := g6.mo (new_same (o := .lst []) hq)
          generalize upd H6 q (.lst []) = H7 at g7
          have keep7 : NrR K B p a sw fd kn fr last way (n + 14) fs (3 < way) [some (.ref p), some (.ref a), some (.int last), some (.ref sw), some (.int way), some (.ref fd), some (.ref kn), v7, some (.ref fr), v9, v10, v11, v12] H7 :=
            ⟨fs, ys, v7, v9, v10, v11, v12, rfl, g7.le (by omega), gd6, l6, fun z => rfl⟩
          by_cases hF0 : F = []
          · subst hF0
            exact iteF (iteF (rest _ _ keep7))
          · have eF : (!PyData.eqv (.list (F.map PyData.int)) (.list [])) = true := by
              cases F with
              | nil => exact absurd rfl hF0
              | cons f F => rfl
            rw [eF]
            have Fpos : 0 < F.length := List.length_pos_iff.mpr hF0
            refine iteT ⟨_, rfl, fd, ys, rfl, .inl (SqL.of g7.at_), _, _, rfl, rfl, _, rfl, ite2 (fun hc2 => ?_) (fun _ => rest _ _ keep7)⟩
            have l40 : fs.length < 40 := by
              have z : (ys.length : Int) < 40 := of_decide_eq_true hc2
              rw [g7.len] at z
              omega
            refine ⟨_, rfl, .inl ⟨rfl, _, SqL.of g7.at_⟩, _, rfl, _, rfl, _, rfl, fr, _, rfl, .inl (SqL.of (frAt g7.s)), p, ((F.map V.int).length : Int), _, rfl, by rw [List.length_map]; omega, by rw [List.length_map]; omega, g7.pu, by omega, fun H13 j s13 P13 j0 j1 => ?_⟩
            rw [List.length_map] at j1
            obtain ⟨jm, rfl⟩ : ∃ jm : Nat, j = jm := ⟨j.toNat, by omega⟩
            have hjm : jm < F.length := by omega
            have g13 := g7.call s13 P13 nfd
            have hat : (F.map V.int)[jm]? = some (.int F[jm]) := by
              rw [List.getElem?_map, List.getElem?_eq_getElem hjm]
              rfl
            have hfm := Fm _ (List.getElem_mem hjm)
            refine ⟨fr, _, _, _, rfl, rfl, SqL.of (frAt g13.s), atI_nat hat, _, rfl, p, _, rfl, g13.pu, by omega, fun H14 o s14 P14 so => ⟨by show 2 ≤ sizeLine; decide, fun t6 ht6 => ?_⟩⟩
            have g14 := g13.call s14 P14 nfd
            obtain ⟨h15, g15⟩ := g14.put (r := (F[jm], o)) (ys' := ys ++ [.ref t6]) (fs' := fs ++ [(F[jm], o)]) nfd ht6 fun G d1 d2 => by
              rw [List.map_append]
              exact Zd.DpAll.snoc d1 d2
            refine ⟨fd, ys, _, rfl, rfl, h15, Nat.lt_of_le_of_lt (show ys.length ≤ 100 by have := g7.len; omega) (by decide), ?_⟩
            refine rest _ _ ⟨_, _, v7, v9, v10, v11, v12, rfl, g15.le (by omega), Good.snoc gd6 hfm.2.2 hfm.1 hfm.2.1 so, ?_, fun z => by omega⟩
            rw [List.length_append, List.length_singleton]
            omega
      · intro rest
        have gd5 : Good last rows := g
        refine ⟨_, rfl, by show 3 ≤ sizeLine; decide, fun q1 hq1 => ⟨q1, _, rfl, .inr (.inl (.inl upd_same)), rfl, rfl, _, rfl, ?_⟩⟩
        have g6 := G5.mo (new_same (o := .tup [.int 0, .int 1, .int 2]) hq1)
        generalize upd H5 q1 (.tup [.int 0, .int 1, .int 2]) = H6 at g6
        have keep : ∀ {G : Hp}, Gr K fd p B G (n + 1) xs rows → NrR K B p a sw fd kn fr last way (n + 10) rows (2 < way) [some (.ref p), some (.ref a), some (.int last), some (.ref sw), some (.int way), some (.ref fd), some (.ref kn), none, some (.ref fr), none, none, none, none] G :=
          fun g6 => ⟨rows, xs, none, none, none, none, none, rfl, g6.le (by omega), gd5, hl, fun z => rfl⟩
        show if inV (.int way) ([0, 1, 2].map V.int) = true then _ else _
        rw [in_ints]
        by_cases hw : way ∈ [0, 1, 2]
        · rw [decide_eq_true hw]
          have w2 : way ≤ 2 := by
            simp only [List.mem_cons, List.not_mem_nil, or_false] at hw
            omega
          have frAt : ∀ {G : Hp}, Same B (Hd [fd, p] G) → G fr = some (.lst (F.map V.int)) := fun sG => (Hd_some (sG _ _ bfr)).2
          have swAt : ∀ {G : Hp}, Same B (Hd [fd, p] G) → G sw = some (.lst (sweepV rows (last + 1))) := fun sG => (Hd_some (sG _ _ bsw)).2
          refine iteT ⟨_, rfl, Nat.zero_le _, fun q hq => ⟨.list (F.map PyData.int), .list [], (Dp.lst (SqL.of (frAt g6.s)) (ints_dp F)).mo (new_same hq), .lst (SqL.of upd_same) .nil, tF.shaped (by decide), by decide, _, rfl, ?_⟩⟩
          have g7 := g6.mo (new_same (o := .lst []) hq)
          generalize upd H6 q (.lst []) = H7 at g7
          by_cases hF0 : F = []
          · subst hF0
            exact iteF (rest _ _ (keep g7))
          · have eF : (!PyData.eqv (.list (F.map PyData.int)) (.list [])) = true := by
              cases F with
              | nil => exact absurd rfl hF0
              | cons f F => rfl
            rw [eF]
            have Fpos : 0 < F.length := List.length_pos_iff.mpr hF0
            refine iteT ⟨_, rfl, _, _, rfl, rfl, 1 + way, rfl, by omega, by omega, ?_⟩
            refine for_range (lo := 0) (n := (1 + way).toNat) (fun i σ' H' => ∃ (fs : List Row) (ys : List V) (v7 v9 v10 : Option V), σ' = [some (.ref p), some (.ref a), some (.int last), some (.ref sw), some (.int way), some (.ref fd), some (.ref kn), v7, some (.ref fr), v9, v10, none, none] ∧
              Gr K fd p B H' (n + 1 + i) ys fs ∧ Good last fs ∧ fs.length ≤ 40) ?_ ?_ ?_
            · exact ⟨rows, xs, none, none, none, rfl, g7, gd5, hl⟩
            · rintro i σ1 H8 hi ⟨fs, ys, v7, v9, v10, rfl, g8, gd8, l8⟩
              refine ⟨_, rfl, _, rfl, _, rfl, fr, _, rfl, .inl (SqL.of (frAt g8.s)), p, ((F.map V.int).length : Int), _, rfl, by rw [List.length_map]; omega, by rw [List.length_map]; omega, g8.pu, by omega, fun H9 j s9 P9 j0 j1 => ?_⟩
              rw [List.length_map] at j1
              obtain ⟨jm, rfl⟩ : ∃ jm : Nat, j = jm := ⟨j.toNat, by omega⟩
              have hjm : jm < F.length := by omega
              have g9 := g8.call s9 P9 nfd
              have hat : (F.map V.int)[jm]? = some (.int F[jm]) := by
                rw [List.getElem?_map, List.getElem?_eq_getElem hjm]
                rfl
              have hfm := Fm _ (List.getElem_mem hjm)
              generalize hf : F[jm] = f at hat hfm
              refine ⟨fr, _, _, _, rfl, rfl, SqL.of (frAt g9.s), atI_nat hat, ?_⟩
              refine ⟨_, rfl, fd, ys, rfl, .inl (SqL.of g9.at_), _, _, rfl, rfl, _, rfl, ite2 (fun hc2 => ?_) (fun _ => iteF ⟨fs, ys, v7, _, _, rfl, g9.le (by omega), gd8, l8⟩)⟩
              have l40 : fs.length < 40 := by
                have z : (ys.length : Int) < 40 := of_decide_eq_true hc2
                rw [g9.len] at z
                omega
              refine ⟨_, rfl, ?_⟩
              refine days_lc (i := 5) (j := 7) (a := fd) ?_ ?_ g9.at_ (g9.dp.mo (Hd_same _ _)) (by omega) (fun D H10 D0 s10 hD => ?_)
              · rfl
              · show 7 < 13
                decide
              have g10 := g9.mo s10
              have ek : daysV fs = (fs.map (·.1)).map V.int := by
                unfold daysV
                rw [List.map_map]
                rfl
              rw [ek] at hD
              refine ⟨D, _, rfl, .inl (SqL.of hD), rfl, flat_ints _, _, rfl, ?_⟩
              show if (!inV (.int f) ((fs.map (·.1)).map V.int)) = true then _ else _
              rw [in_ints]
              by_cases hm : f ∈ fs.map (·.1)
              · rw [decide_eq_true hm]
                exact iteF ⟨fs, ys, v7, _, _, rfl, g10.le (by omega), gd8, l8⟩
              · rw [decide_eq_false hm]
                obtain ⟨fn, rfl⟩ : ∃ fn : Nat, f = fn := ⟨f.toNat, by omega⟩
                have hat2 : atI (sweepV rows (last + 1)) (fn : Int) = some (pV (heldAt rows (fn + 1))) := by
                  refine atI_nat ?_
                  unfold sweepV
                  rw [List.getElem?_map, List.getElem?_range (by omega)]
                  rfl
                refine iteT ⟨_, rfl, .inl ⟨rfl, _, SqL.of g10.at_⟩, _, rfl, _, rfl, _, rfl, sw, _, _, _, rfl, rfl, SqL.of (swAt g10.s), hat2, by show 2 ≤ sizeLine; decide, fun t6 ht6 => ?_⟩
                obtain ⟨h15, g15⟩ := g10.put (r := ((fn : Int), heldAt rows (fn + 1))) (ys' := ys ++ [.ref t6]) (fs' := fs ++ [((fn : Int), heldAt rows (fn + 1))]) nfd ht6 fun G d1 d2 => by
                  rw [List.map_append]
                  exact Zd.DpAll.snoc d1 d2
                refine ⟨fd, ys, _, rfl, rfl, h15, Nat.lt_of_le_of_lt (show ys.length ≤ 100 by have := g10.len; omega) (by decide), ?_⟩
                refine ⟨_, _, v7, _, _, rfl, g15.le (by omega), Good.snoc gd8 hm hfm.1 hfm.2.1 (held_small (fun r hr => (g.2 r hr).2.2) _), ?_⟩
                rw [List.length_append, List.length_singleton]
                omega
            · rintro σ1 H8 ⟨fs, ys, v7, v9, v10, rfl, g8, gd8, l8⟩
              exact rest _ _ ⟨fs, ys, v7, v9, v10, none, none, rfl, g8.le (by omega), gd8, l8, fun z => by omega⟩
        · rw [decide_eq_false hw]
          exact iteF (iteF (rest _ _ (keep g6)))
end
end Pt

set_option Elab.async false
set_option linter.all false
set_option maxRecDepth 100000
set_option maxHeartbeats 4000000
set_option pp.maxSteps 400
/-! sets of whole numbers: sorted of one of any size, {x for ..} -/
namespace Se
open PySem PySem.Spec PyProof.Rows L2
section
variable {P : Program} {w : World} {A : Around} {E : Value → Shared → Prop} {s : Shared} {a : Addr}
/-- sorted of a set of whole numbers, however many -/
theorem sorted_any {S : Int → Bool} {n : Nat} {Q : Value → Shared → Prop} (R : SetR w s.heap a S n) (calm : A.handled = none) (few : n ≤ sizeLine)
    (hQ : ∀ s' p (out : List Value) (c : Nat) (ns : List Int), (∀ b o, s.heap.get? b = some o → s'.heap.get? b = some o) → s'.gens = s.gens → s'.os = s.os → s.heap.objs.size ≤ p →
      s'.heap.get? p = some (seqObj "list" out.toArray c) → IntsAre out ns → ns.Pairwise (· < ·) → (∀ k, k ∈ ns ↔ S k = true) → ns.length = n → Q (.ref p) s') :
    wpAny (model P w) A (call (.builtin "sorted") [.ref a]) Q E s := by
  have ⟨o, es, ep, t, ho, ex, hd, good, nd, mem, small, fit, size, ris, led⟩ := R
  refine Calls.call_function_entry kind_sorted plain_sorted entry_sorted (args_sorted1 _) ?_
  unfold Builtin.«sorted»
  refine wpAny_bind (m := checkCount "sorted" 1 1 _) (wpAny_pure ?_)
  refine wpAny_bind (collect_set (A := A.in1) calm ⟨o, ho, ex.1, hd⟩ fit small ris led fun s1 vs old size1 gens1 os1 perm => ?_)
  have isI : IntsAre vs (vs.map Builtin.Re.reRawOf) := ints_of vs fun v hv => by
    obtain ⟨e, he, q⟩ := List.mem_map.mp (perm.mem_iff.mp hv)
    obtain ⟨k, tk, z, _⟩ := good e he
    exact ⟨k, tk, q ▸ z⟩
  have keys : (vs.map Builtin.Re.reRawOf).Perm (es.toList.map keyOf) := by
    have z := perm.map Builtin.Re.reRawOf
    rw [List.map_map] at z
    exact z
  have many : vs.length = n := by
    rw [perm.length_eq, List.length_map, Array.length_toList]
    exact size
  have lineOk : vs.length ≤ sizeLine := many ▸ few
  refine wpAny_bind (wpAny_newList ?_ lineOk)
  have hL : (s1.heap.push (seqObj "list" vs.toArray 0)).get? s1.heap.objs.size = some (seqObj "list" vs.toArray 0) := Heap.get?_push_size _ rfl
  refine wpAny_bind (wpAny_holding (wpAny_call_entry slot_list_sort ⟨_, hL, rfl⟩ entry_list_sort
    (SrtO.list_sort_ord SrtO.swo_int hL lineOk (fun two => SrtO.ints_sortable isI two) fun out s1' s2' => ⟨_, rfl, ?_⟩) (args_list_sort _)))
  obtain ⟨k1, k2, k3⟩ := SrtO.ints_out isI s1' s2'
  obtain ⟨c, hc⟩ := sortedHeap_at (vs := vs) (out := out.toArray) hL
  have pn := k2.trans keys
  have uniq : (out.map SrtO.iv).Pairwise (· < ·) := by
    have nd2 : (out.map SrtO.iv).Nodup := pn.nodup_iff.mpr nd
    exact (k3.and nd2).imp fun {x y} q => by
      have := q.1
      have := q.2
      omega
  refine wpAny_pure ⟨_, rfl, hQ _ s1.heap.objs.size out c (out.map SrtO.iv) (fun b u e => ?_) gens1 os1 size1 hc k1 uniq (fun k => by rw [pn.mem_iff, mem k]) ?_⟩
  · have z := old b u e
    have lt := Heap.lt_size z
    show (sortedHeap (s1.heap.push (seqObj "list" vs.toArray 0)) s1.heap.objs.size vs out.toArray).get? b = some u
    rw [sortedHeap_old (Nat.ne_of_lt lt) (by rw [size_push']; exact Nat.lt_succ_of_lt lt)]
    exact Heap.get?_push_of_some _ z
  · rw [pn.length_eq, List.length_map, Array.length_toList]
    exact size
end
section
variable {X : Cx}
def rSrtSet (w : World) : List V → Hp → VK → Prop := fun vs H Q => ∃ (a : Addr) (S : Int → Bool) (n : Nat), vs = [V.ref a] ∧ H a = some (SetO w a S n) ∧ n ≤ 100000 ∧
  ∀ (ns : List Int) (p : Addr), ns.Pairwise (· < ·) → (∀ k : Int, k ∈ ns ↔ S k = true) → ns.length = n → H p = none → Q (.ref p) (upd H p (.lst (ns.map V.int)))
theorem cr_srtSet (hc : X.calm = true) : CallR X (.builtin "sorted") (rSrtSet X.w) := by
  intro pins s σ H vs us Q I r h
  obtain ⟨a, S, n, rfl, ha, few, q⟩ := h
  rw [Vals.ref1 r]
  have line : n ≤ sizeLine := Nat.le_trans few (by decide)
  refine sorted_any (setO_get I ha) (I.ok.hd hc) line fun s' p out c ns old gens os new hp isI asc mem many => ?_
  have fresh : H p = none := I.hok.fresh new
  have e : s' = { s with heap := s'.heap, gens := s'.gens, drawn := s'.drawn, toks := s'.toks } := by
    cases s'
    cases s
    cases os
    rfl
  rw [e]
  have room : (ns.map V.int).length ≤ sizeLine := by
    rw [List.length_map, many]
    exact line
  have J : Inv X pins σ (upd H p (.lst (ns.map V.int))) { s with heap := s'.heap, gens := s'.gens, drawn := s'.drawn, toks := s'.toks } :=
    I.call (ch := []) (Un.laid old new fresh) (I.hok.laid old new ⟨room, out, c, vals_of_ints isI, hp⟩) (by rw [gens]; exact I.bare) (fun _ z => nomatch z)
  exact ⟨.ref p, _, J, rfl, q ns p asc mem many fresh⟩
end
end Se

set_option Elab.async false
set_option linter.all false
set_option maxRecDepth 100000
set_option maxHeartbeats 4000000
set_option pp.maxSteps 400
/-! {elt for target in iter}: over any way of laying sets out -/
namespace Se
open PySem PySem.Spec PyProof.Rows L2 PpSet
/-- the set that set() makes -/
abbrev bare (w : World) : Obj := { cls := .type "set", dict := none, data := .set #[] 0 (.fresh 0 0 (!w.params.followText "set-order")) }
/-- a way to lay sets out: what a new one is, and what adding a thing makes of the one at D -/
structure Lay where
  zero : World → Addr → HO
  add : World → V → Addr → Hp → (Hp → Prop) → Prop
  zero_ok : ∀ {w : World} {P : Program} {H : Hp} {h : Heap}, ObjOk P w H (h.push (bare w)) h.objs.size (zero w h.objs.size)
  add_ok : ∀ {X : Cx} {pins : List (Addr × Obj)} {σ : L2.St} {H : Hp} {s : Shared} {E : Value → Shared → Prop} {D : Addr} {y : V} {u : Value} {N : Hp → Prop} {Q : Value → Shared → Prop}, Inv X pins σ H s → RelV y u → add X.w y D H N →
    (∀ H' s', Inv X pins σ H' s' → N H' → Q .none s') → wpAny (model X.prog X.w) X.A (call (.builtin "set.add") [.ref D, u]) Q E s
variable {L : Lay}
/-- one turn of the walk -/
def Turn (L : Lay) (w : World) (g : TG) (tt : TT) (te : TE) (vs : List Nat) (σ : L2.St) (D : Addr) (x : V) (H : Hp) (N : Hp → Prop) : Prop :=
  g x (wipe σ vs) H fun σ2 H2 => wipe σ2 vs = wipe σ vs ∧ tt σ2 H2 fun b H3 => if b = true then te σ2 H3 fun y H4 => L.add w y D H4 N else N H3
def tSet (L : Lay) (w : World) (wi : TI) (g : TG) (tt : TT) (te : TE) (vs : List Nat) : TE := fun σ H Q => wi σ H fun J H1 => ∀ D, H1 D = none → ∃ W : Nat → Nat → Hp → Prop, (∃ m, W 0 m (upd H1 D (L.zero w D))) ∧ ∀ i m H, W i m H →
  (J.stop i H ∧ Q (.ref D) H) ∨ (J.go i H ∧ ∃ N : Hp → Prop, (∀ H', N H' → ∃ m', m' < m ∧ W (i + 1) m' H') ∧ ∀ x H', J.yld i H x H' → Turn L w g tt te vs σ D x H' N)

/-- whole numbers -/
def intLay : Lay where
  zero w a := SetO w a (fun _ => false) 0
  add w y D H N := ∃ (k : Int) (S : Int → Bool) (n : Nat), y = .int k ∧ H D = some (SetO w D S n) ∧ n + 1 < scanBound ∧ N (upd H D (SetO w D (fun j => S j || decide (j = k)) (if S k = true then n else n + 1)))
  zero_ok := setO_new (setR_fresh _)
  add_ok := by
    intro X pins σ H s E D y u N Q I r h q
    obtain ⟨k, S, n, rfl, hD, room, nx⟩ := h
    obtain ⟨tk, rfl⟩ := r
    refine setR_add (setO_get I hD) room fun h' sb R => ?_
    have some_ : ∃ o, h'.get? D = some o := by
      have ⟨o, _, _, _, ho, _⟩ := R
      exact ⟨o, ho⟩
    exact q _ _ (I.write (e := D) (t' := s.toks + 1) (by rw [hD]; trivial) (.inl rfl) (fun b o hb ho => (sb.2 b hb).trans ho) some_ (setO_new R)) nx
section
variable {X : Cx} {elt tg iter : Expr} {ifs : List Expr} {scope : Scope} {own : List (PySem.Str × Nat)} {pos : Pos} {wi : TI} {g : TG} {tt : TT} {te : TE}
theorem pe_set_of {L : Lay} (hc : X.calm = true) (hN : X.N.Nodup) (hi : PI X tg iter wi) (ok : BlkOk X.N X.env.scope scope own)
    (hg : ∀ (s : Shared) (H : Hp) (C : Addr) (cl : List (PySem.Str × Addr)) (fp : List Addr), PG (X.blk s H scope (compEnvC scope cl C X.env) fp) tg g) (ht : ∀ (s : Shared) (H : Hp) (C : Addr) (cl : List (PySem.Str × Addr)) (fp : List Addr), PTs (X.blk s H scope (compEnvC scope cl C X.env) fp) ifs tt)
    (he : ∀ (s : Shared) (H : Hp) (C : Addr) (cl : List (PySem.Str × Addr)) (fp : List Addr), PE (X.blk s H scope (compEnvC scope cl C X.env) fp) elt te) (hs : ∀ x, foldedSetIterable iter X.env x = pure x := by intro _; rfl) :
    PE X (.SetComp elt [⟨tg, iter, ifs, 0⟩] scope pos) (tSet L X.w wi g tt te (own.map (·.2))) := by
  refine ⟨fun pins s σ H Q I h => ?_⟩
  rw [eval_SetComp]
  have cellsThere : ∀ y ∈ scope.names, y.2 = .free → ∃ c, X.env.cells.lookup y.1 = some c := fun y hy e => (ok.free y hy e).elim (fun k => I.ok.has _ (.inl k)) (fun k => I.ok.has _ (.inr k))
  refine wpAny_comprehension_free rfl hs (closure_ok cellsThere) ok.kind (fun y hy e => by rw [ok.uniq y hy, e])
    (thn (hi.run pins s σ H _ I h) fun xv s1 hx => thn hx fun itv s2 got => ?_)
  obtain ⟨it, fp, tn, J, H2, rfl, I2, T, st2, f2, next⟩ := got
  refine newSet_ok (newEnv_comp ?_)
  -- the new set's place, and the heap with it
  generalize place : s2.heap.objs.size = D
  have free2 : H2 D = none := I2.hok.fresh (Nat.le_of_eq place)
  obtain ⟨W, ⟨m0, w0⟩, turn⟩ := next D free2
  generalize heap3 : ({ s2 with heap := s2.heap.push (bare X.w) } : Shared) = s3
  have same3 : s3.heap = s2.heap.push (bare X.w) := by rw [← heap3]
  generalize sets3 : upd H2 D (L.zero X.w D) = H3 at w0
  have I3 : Inv X pins σ H3 s3 := by
    rw [← heap3, ← sets3]
    refine I2.laid (t' := s2.toks) (fun b o e => Heap.get?_push_of_some _ e) (Nat.le_of_eq place) ?_
    rw [← place]
    exact L.zero_ok
  have f3 : ∀ b ∈ fp, FpOk X pins H3 b ∧ b < s3.heap.objs.size := fun b hb => by
    obtain ⟨o, e, _⟩ := T.obj _ _ st2 b hb
    have below := Heap.lt_size e
    constructor
    · refine ⟨?_, (f2 b hb).2⟩
      rw [← sets3, upd_ne (by rw [← place]; exact Nat.ne_of_lt below)]
      exact (f2 b hb).1
    · rw [same3, Heap.size_push]
      exact Nat.lt_succ_of_lt below
  have st3 : tn 0 s3.heap := T.keep _ _ _ st2 fun b _ o e => by
    rw [same3]
    exact Heap.get?_push_of_some _ e
  have none3 : ∀ b ∈ fp, H3 b = none := fun b hb => (f3 b hb).1.1
  -- the block's own frame
  have I4 := block_start I3 ok hN f3
  show codeAny _ _ (.compStart (.SetComp elt [⟨tg, iter, ifs, 0⟩] scope pos) 0 (.ref it) (.ref D) (compEnvC scope (cellsFrom (s3.heap.objs.size + 1) scope.names (cloFrom X.env.cells scope.names [])) s3.heap.objs.size X.env)) (compPost (model X.prog X.w) X.A X.xe none _ (.ref D) s3.heap.objs.size) { s3 with heap := pushCells (s3.heap.push { cls := .type "dict", data := .dict #[] }) scope.names }
  have pg := hg s3 H3 s3.heap.objs.size (cellsFrom (s3.heap.objs.size + 1) scope.names (cloFrom X.env.cells scope.names [])) fp
  have pt := ht s3 H3 s3.heap.objs.size (cellsFrom (s3.heap.objs.size + 1) scope.names (cloFrom X.env.cells scope.names [])) fp
  have pe := he s3 H3 s3.heap.objs.size (cellsFrom (s3.heap.objs.size + 1) scope.names (cloFrom X.env.cells scope.names [])) fp
  generalize env4 : compEnvC scope (cellsFrom (s3.heap.objs.size + 1) scope.names (cloFrom X.env.cells scope.names [])) s3.heap.objs.size X.env = ce at I4 pg pt pe ⊢
  have locs : ce.locals = s3.heap.objs.size := by rw [← env4]; rfl
  generalize heap4 : ({ s3 with heap := pushCells (s3.heap.push { cls := .type "dict", data := .dict #[] }) scope.names } : Shared) = s4 at I4 ⊢
  have st4 : tn 0 s4.heap := T.keep _ _ _ st3 fun b _ o e => by
    rw [← heap4]
    exact pushCells_keeps _ _ _ _ (Heap.get?_push_of_some _ e)
  have fpIn : ∀ {σ' : L2.St} {H' : Hp} {s' : Shared}, Inv (X.blk s3 H3 scope ce fp) [] σ' H' s' → (∀ b ∈ fp, H' b = none) → ∀ b ∈ fp, FpOk (X.blk s3 H3 scope ce fp) [] H' b := fun I' n b hb =>
    ⟨n b hb, (I'.ok.exf b hb).1, I'.ok.exfs b hb, .inl hb, fun x c e => (I'.ok.exf b hb).2 x c e, fun p hp => absurd (show p ∈ ([] : List (Addr × Obj)) ++ [] from hp) (by simp)⟩
  have walk : codeAny (model X.prog X.w) X.A (.compLoop (.SetComp elt [⟨tg, iter, ifs, 0⟩] scope pos) 0 (.ref it) (.ref D) ce) (compPost (model X.prog X.w) X.A X.xe none (EP X pins σ Q) (.ref D) s3.heap.objs.size) s4 := by
    refine compLoopS_any (fun n s' => ∃ i H', Inv (X.blk s3 H3 scope ce fp) [] (wipe σ (own.map (·.2))) H' s' ∧ tn i s'.heap ∧ (∀ b ∈ fp, H' b = none) ∧ W i n H') ?_ m0 ⟨0, H3, I4, st4, none3, w0⟩
    rintro n s5 ⟨i, H5, I5, st5, none5, w5⟩
    rcases turn i n H5 w5 with ⟨stop, end_⟩ | ⟨go, N, less, step⟩
    · -- the walk's end: back to the def's own frame
      refine thnF (T.done (X.blk s3 H3 scope ce fp) rfl rfl rfl hc i [] s5 _ H5 (fun _ _ => False) I5 (fpIn I5 none5) st5 stop) fun r s6 got => ?_
      obtain ⟨rfl, I6⟩ := got
      have I7 : Inv X pins σ H5 s6 := I3.call' (ch := fp) I6.os I6.base I6.hok I6.bare fun b hb => by
        obtain ⟨⟨_, z1, z2, z3, z4, z5⟩, _⟩ := f3 b hb
        exact ⟨z3, z1, z4, z5⟩
      have noFrame : H5 s3.heap.objs.size = none := by
        rw [← locs]
        exact I6.free
      obtain ⟨m, hn, _⟩ := I6.loc
      have hn : s6.heap.Ns ce.locals m := hn
      rw [locs] at hn
      obtain ⟨q0, q1, _, q3, q4, q5⟩ := I3.fpOk (Nat.le_refl _) noFrame
      refine ⟨m, hn, fun h'' sb => ?_⟩
      exact ⟨.ref D, H5, I7.turned (t' := s6.toks) (fun b o hb e => (sb.2 b hb).trans e) q0 q1 q3 q4 q5, rfl, end_⟩
    · refine thnF (T.item (X.blk s3 H3 scope ce fp) rfl rfl rfl hc i [] s5 _ H5 (fun _ _ => False) I5 (fpIn I5 none5) st5 go) fun r s6 got => ?_
      obtain ⟨u, rfl, h6⟩ := got
      refine thnF h6 fun _ s7 ⟨x, H7, I7, rel, yields, st7, none7⟩ => ?_
      have I7' := I7.pinned (fpIn I7 none7) (T.obj _ _ st7)
      refine thnF (pg.run _ s7 _ H7 x u _ I7' rel (step x H7 yields)) fun _ s8 ⟨σ8, H8, I8, wiped, q8⟩ => ?_
      refine thnF (pt.run _ s8 σ8 H8 _ I8 q8) fun b s9 ⟨H9, I9, q9⟩ => ?_
      have onward : ∀ {s' : Shared} {H' : Hp}, Inv (X.blk s3 H3 scope ce fp) ([] ++ pinsAt fp s7.heap) σ8 H' s' → N H' → ∃ m, m < n ∧ ∃ i H', Inv (X.blk s3 H3 scope ce fp) [] (wipe σ (own.map (·.2))) H' s' ∧ tn i s'.heap ∧ (∀ b ∈ fp, H' b = none) ∧ W i m H' := fun {s' H'} I' nx => by
        obtain ⟨m', lt, w'⟩ := less H' nx
        have pinned : ∀ b ∈ fp, ∀ o, s7.heap.get? b = some o → s'.heap.get? b = some o ∧ H' b = none := fun b hb o e => by
          have z := I'.pin (b, o) (List.mem_append_right _ (List.mem_append_right _ (mem_pinsAt hb e)))
          exact ⟨z.1, z.2.1⟩
        refine ⟨m', lt, i + 1, H', (I'.unpinned (pins := [])).weak (by rw [← wiped, wipe_length]) (fun j v e => ?_), T.keep _ _ _ st7 fun b hb o e => (pinned b hb o e).1, fun b hb => ?_, w'⟩
        · rw [← wiped] at e
          exact (wipe_some e).1
        · obtain ⟨o, e, _⟩ := T.obj _ _ st7 b hb
          exact (pinned b hb o e).2
      cases b with
      | false =>
        rw [if_neg (by decide)] at q9 ⊢
        exact onward I9 q9
      | true =>
        rw [if_pos rfl] at q9 ⊢
        refine thnF (pe.run _ s9 σ8 H9 _ I9 q9) fun z s10 ⟨yv, H10, I10, rel10, q10⟩ => ?_
        exact L.add_ok (X := X.blk s3 H3 scope ce fp) I10 rel10 q10 fun H' s' I' nx => onward I' nx
  exact codeAny_compStart_set walk (T.self X.A 0 _ _ _ st4 walk)
end
end Se

set_option Elab.async false
set_option linter.all false
set_option maxRecDepth 100000
set_option maxHeartbeats 4000000
set_option pp.maxSteps 400
namespace Pt
open PySem L2 He Xh Gd Ru Zd Tx
/-- PriceList(e), e a list of rows by whatever reading -/
theorem mk_gen {K : Fg} {C : Addr} {σ : L2.St} {H : Hp} {t : TA} {rows : List Row} {Q : VK} (ht : ∀ R : List V → Hp → Prop, (∀ hd H1, Same H H1 → Dp K H1 (.ref hd) (rowsD rows) → R [.ref hd] H1) → t σ H R) (nd : (rows.map (·.1)).Nodup) (h0 : ∀ r ∈ rows, 0 ≤ r.1) (hl : rows.length ≤ 60)
    (k : ∀ x H' es, H x = none → Same H H' → PLNew K C H H' x es → es.Perm rows → Asc es → Q (.ref x) H') : tMake C (spInit K C) [] E0 t σ H Q := by
  refine ht _ fun hd H1 s1 d1 x dx nx ndx nex => mk_list d1 nd h0 hl (fun x H' es nx s pl perm asc => ?_) x dx nx ndx nex E0
  have back : ∀ {b : Addr}, H1 b = none → H b = none := fun {b} e => by
    cases q : H b with
    | none => rfl
    | some o =>
      rw [s1 b o q] at e
      cases e
  obtain ⟨dx2, l, xs, a1, a2, a3, a4⟩ := pl
  refine k x H' es (back nx) (s1.trans s) ⟨dx2, l, xs, a1, back a2, a3, a4.mo fun b o e => ?_⟩ perm asc
  obtain ⟨n, e1⟩ := Nw_some e
  rw [Nw_new (back n)]
  exact e1
theorem PLNew.W_ {K : Fg} {C p x : Addr} {H H' : Hp} {es : List Row} {u : HO} (h : PLNew K C H H' x es) (hp : H p = some u) (n : x ≠ p) : PLAt K C (W p H') x es := by
  obtain ⟨dx, l, ys, a1, a2, a3, a4⟩ := h
  have ne : ∀ {b : Addr}, H b = none → b ≠ p := fun e z => by
    rw [z, hp] at e
    cases e
  refine ⟨dx, l, ys, by rw [W_at n]; exact a1, by rw [W_at (ne a2)]; exact a3, a4.mo fun b o e => ?_⟩
  obtain ⟨n1, e1⟩ := Nw_some e
  rw [W_at (ne n1)]
  exact e1
theorem eF_no {l : Addr} {m : Str} (h : ¬ m = "_entries") : (eF l).lookup m = none := by
  unfold eF
  rw [lookup_putF, if_neg h]
  rfl
end Pt

set_option Elab.async false
set_option linter.all false
set_option maxRecDepth 100000
set_option maxHeartbeats 4000000
set_option pp.maxSteps 400
namespace Pt
open PySem L2 He Xh Gd Ru Zd Tx
theorem eqv_opt : ∀ a b : Option Int, PyData.eqv (optD a) (optD b) = decide (a = b)
  | none, none => rfl
  | none, some _ => rfl
  | some _, none => rfl
  | some i, some j => by
    show (i == j) = decide (some i = some j)
    by_cases h : i = j <;> simp [h]
theorem eqv_row (r s : Row) : PyData.eqv (rowD r) (rowD s) = decide (r = s) := by
  show ((r.1 == s.1) && (PyData.eqv (optD r.2) (optD s.2) && true)) = decide (r = s)
  rw [eqv_opt, Bool.and_true]
  obtain ⟨a, b⟩ := r
  obtain ⟨c, d⟩ := s
  by_cases h1 : a = c <;> by_cases h2 : b = d <;> simp [h1, h2]
theorem eqv_rowsAll : ∀ rs ss : List Row, PyData.eqvAll (rs.map rowD) (ss.map rowD) = decide (rs = ss)
  | [], [] => rfl
  | [], _ :: _ => rfl
  | _ :: _, [] => rfl
  | r :: rs, s :: ss => by
    show (PyData.eqv (rowD r) (rowD s) && PyData.eqvAll (rs.map rowD) (ss.map rowD)) = _
    rw [eqv_row, eqv_rowsAll rs ss]
    by_cases h1 : r = s <;> by_cases h2 : rs = ss <;> simp [h1, h2]
theorem eqv_rows (rs ss : List Row) : PyData.eqv (rowsD rs) (rowsD ss) = decide (rs = ss) := eqv_rowsAll rs ss
theorem rows_shaped (rs : List Row) : SeqAt.shaped (rowsD rs) = true := by
  have h : PyData.canLayAll0 (rs.map rowD) = true ∧ PyData.depthAll (rs.map rowD) ≤ 2 := by
    induction rs with
    | nil => exact ⟨rfl, Nat.zero_le _⟩
    | cons r rs ih =>
      obtain ⟨d, o⟩ := r
      constructor
      · show ((rowD (d, o)).canLay0 && PyData.canLayAll0 (rs.map rowD)) = true
        rw [ih.1]
        cases o <;> rfl
      · show max (rowD (d, o)).depth (PyData.depthAll (rs.map rowD)) ≤ 2
        have z : (rowD (d, o)).depth ≤ 2 := by cases o <;> simp [rowD, optD, PyData.depth, PyData.depthAll]
        have := ih.2
        omega
  unfold SeqAt.shaped
  show (PyData.canLayAll0 (rs.map rowD) && decide (PyData.depthAll (rs.map rowD) + 1 ≤ 64)) = true
  rw [h.1, decide_eq_true (by have := h.2; omega)]
  rfl
def spAlike (K : Fg) (C : Addr) : Sp := fun vs H Q _ => ∃ (p q : Addr) (es fs : List Row), vs = [.ref p, .ref q] ∧ PLAt K C H p es ∧ PLAt K C H q fs ∧ es.length ≤ 1000 ∧ fs.length ≤ 1000 ∧ ∀ H', Same H H' → Q (.bl (decide (chg none es = chg none fs))) H'
theorem scAlike : FnScope ["self", "other"] ["self", "other"] (defScope sPriceListAlike) := ⟨rfl, rfl, rfl, by decide +kernel, rfl, by decide +kernel, by decide +kernel⟩
section
variable {P : Program} {w : World} {K : Fg} {mg : Str → Option Value} {base : Heap}
theorem ok_alike {f C : Addr} {fd : FuncData} (F : FunX K "alike" "PriceList.alike" sPriceListAlike f fd) (cl : Cls K C) (c_changes : MtC P w K mg base 1 C "changes" ["self"] (spChanges K C)) : FnOk P w K mg base CX0 2 f fd ["self", "other"] (spAlike K C) := by
  refine F.ok scAlike (fun vs H Q E h => ?_) (fun cdv A outer s H vs Q E hr h => ?_)
  · obtain ⟨p, q, es, fs, rfl, _⟩ := h
    rfl
  · obtain ⟨p, q, es, fs, rfl, hp, hq, le, lf, k⟩ := h
    have hu64 : (A.deeper (PyProof.Rows.envOfC "PriceList.alike" (defScope sPriceListAlike) s.heap.objs.size f cdv)).units + 64 < cLine := by
      have := hr.un
      omega
    refine ⟨_, PSs.nox (pss_one (ps_ret (pe_cmpR (op_eqD hu64) (pe_mth0 c_changes cl hr (pv 0)) (pe_mth0 c_changes cl hr (pv 1)) (nomark _)))), ?_⟩
    obtain ⟨dp, lp, xp, ap, bp, cp⟩ := id hp
    refine ⟨_, rfl, p, dp, _, rfl, ap, eF_no (by decide +kernel), p, es, rfl, hp, by omega, fun H1 l1 x1 n1 s1 h1 d1 => ?_⟩
    obtain ⟨dq, lq, xq, aq, bq, cq⟩ := id hq
    refine ⟨_, rfl, q, dq, _, rfl, s1 _ _ aq, eF_no (by decide +kernel), q, fs, rfl, hq.mo s1, by omega, fun H2 l2 x2 n2 s2 h2 d2 => ?_⟩
    refine ⟨rowsD (chg none es), rowsD (chg none fs), .lst (SqL.of (s2 _ _ h1)) ((d1.mo (Nw_same _ _)).mo s2), .lst (SqL.of h2) (d2.mo (Nw_same _ _)), rows_shaped _, rows_shaped _, ?_⟩
    rw [eqv_rows]
    exact k H2 (s1.trans s2)
end
end Pt

set_option Elab.async false
set_option linter.all false
set_option maxRecDepth 100000
set_option maxHeartbeats 4000000
set_option pp.maxSteps 600
namespace Pt
open PySem L2 He Xh Gd Ru Zd Tx
theorem set_list {w : World} {K : PySem.W.Frag} {a : Addr} {xs : List V} {g : TG} {tt : TT} {te : TE} {vs : List Nat} {σ : L2.St} {H1 : Hp} {D : Addr} {Qd : Hp → Prop} (Pv : Nat → Hp → Prop) (h0 : Pv 0 (upd H1 D (Se.intLay.zero w D))) (hl : ∀ i H, i ≤ xs.length → Pv i H → SqL K H a xs)
    (hs : ∀ i x H, xs[i]? = some x → Pv i H → Se.Turn Se.intLay w g tt te vs σ D x H (Pv (i + 1))) (hd : ∀ H, Pv xs.length H → Qd H) :
    ∃ W : Nat → Nat → Hp → Prop, (∃ m, W 0 m (upd H1 D (Se.intLay.zero w D))) ∧ ∀ i m H, W i m H →
      ((Itl K a).stop i H ∧ Qd H) ∨ ((Itl K a).go i H ∧ ∃ N : Hp → Prop, (∀ H', N H' → ∃ m', m' < m ∧ W (i + 1) m' H') ∧ ∀ x H', (Itl K a).yld i H x H' → Se.Turn Se.intLay w g tt te vs σ D x H' N) := by
  refine ⟨fun i m H => m = xs.length - i ∧ i ≤ xs.length ∧ Pv i H, ⟨_, rfl, Nat.zero_le _, h0⟩, fun i m H h => ?_⟩
  obtain ⟨rfl, le, p⟩ := h
  have q := hl i H le p
  rcases Nat.lt_or_ge i xs.length with lt | ge
  · refine .inr ⟨⟨xs, xs[i], q, List.getElem?_eq_getElem lt⟩, Pv (i + 1), fun H' p' => ⟨_, ?_, rfl, lt, p'⟩, fun x H' y => ?_⟩
    · omega
    · obtain ⟨rfl, y⟩ := y
      exact hs i x _ (y xs q) p
  · obtain rfl : i = xs.length := by omega
    exact .inl ⟨⟨xs, q, Nat.le_refl _⟩, hd H p⟩
def spUnlike (K : Fg) (C : Addr) : Sp := fun vs H Q _ => ∃ (p q : Addr) (es fs : List Row), vs = [.ref p, .ref q] ∧ PLAt K C H p es ∧ PLAt K C H q fs ∧ es.length ≤ 1000 ∧ fs.length ≤ 1000 ∧ (∀ r ∈ es, 0 ≤ r.1) ∧ (∀ r ∈ fs, 0 ≤ r.1) ∧
  ∀ H' (ds : List Int), Same H H' → ds.Pairwise (· < ·) → (∀ k : Int, k ∈ ds ↔ k ∈ (es ++ fs).map (·.1)) → Q (pV (ds.find? fun d => !decide (inForce d none es = inForce d none fs))) H'
theorem scUnlike : FnScope ["self", "other", "day", "_"] ["self", "other"] (defScope sPriceListFirstUnlike) := ⟨rfl, rfl, rfl, by decide +kernel, rfl, by decide +kernel, by decide +kernel⟩
section
variable {P : Program} {w : World} {K : Fg} {mg : Str → Option Value} {base : Heap}
theorem ok_unlike {f C : Addr} {fd : FuncData} (F : FunX K "first_unlike" "PriceList.first_unlike" sPriceListFirstUnlike f fd) (cl : Cls K C) (gSorted : mg "sorted" = none) (c_entries : PrC P w K mg base 1 C "entries" (spEntries K C)) (cPriceListGet : MtC P w K mg base 2 C "__getitem__" ["self", "day"] (spGet K C)) :
    FnOk P w K mg base CX0 4 f fd ["self", "other"] (spUnlike K C) := by
  refine F.ok scUnlike (fun vs H Q E h => ?_) (fun cdv A outer s H vs Q E hr h => ?_)
  · obtain ⟨p, q, es, fs, rfl, _⟩ := h
    rfl
  · obtain ⟨p, q, es, fs, rfl, hp, hq, le, lf, ge, gf, k⟩ := h
    have hu64 : (A.deeper (PyProof.Rows.envOfC "PriceList.first_unlike" (defScope sPriceListFirstUnlike) s.heap.objs.size f cdv)).units + 64 < cLine := by
      have := hr.un
      omega
    refine ⟨_, PSs.nox (pss_cons (ps_for PassesOwn.never rfl (pi_list (pe_callB (Se.cr_srtSet rfl) (by rfl) gSorted (by decide +kernel) (pa_cons (Se.pe_set_of (L := Se.intLay) (g := gTup K 2 (gCons (gName 2) (gCons (gName 3) gNil))) (own := [("day", 2), ("_", 3)]) (tt := tYes) rfl scUnlike.nd (pi_list (pe_op op_cat (pe_prp c_entries cl (hr.mono (by decide)) (pv 0)) (pe_prp c_entries cl (hr.mono (by decide)) (pv 1)))) (blkOk_by (own := [("day", 2), ("_", 3)]) (N := ["self", "other", "day", "_"]) (sc := defScope sPriceListFirstUnlike) (by decide +kernel)) (fun _ _ _ _ _ => by exact (pg_tup (by rfl) (pgs_cons (pg_name (i := 2) scUnlike.nd rfl (.inl rfl)) (pgs_cons (pg_name (i := 3) scUnlike.nd rfl (.inl rfl)) pgs_nil)))) (fun _ _ _ _ _ => pts_nil) (fun _ _ _ _ _ => by exact (pv 2))) pa_nil))) (pg_name (i := 2) scUnlike.nd rfl (.inl rfl))
          (pss_one (ps_if (pt_cmpR op_ne (pe_itm cPriceListGet (hr.mono (by decide)) (pv 0) (pv 2)) (pe_itm cPriceListGet (hr.mono (by decide)) (pv 1) (pv 2)) (nomark _)) (pss_one (ps_ret (pv 2))) pss_nil)))
        (pss_one (ps_ret pe_non))), ?_⟩
    obtain ⟨dp, lp, xp, ap, bp, cp⟩ := id hp
    refine ⟨_, rfl, p, dp, _, rfl, ap, p, es, rfl, hp, fun H1 l1 x1 n1 s1 h1 d1 => ?_⟩
    obtain ⟨dq, lq, xq, aq, bq, cq⟩ := id hq
    refine ⟨_, rfl, q, dq, _, rfl, s1 _ _ aq, q, fs, rfl, hq.mo s1, fun H2 l2 x2 n2 s2 h2 d2 => ?_⟩
    have len1 : x1.length = es.length := by
      have z := DpAll.len d1
      rw [List.length_map] at z
      exact z
    have len2 : x2.length = fs.length := by
      have z := DpAll.len d2
      rw [List.length_map] at z
      exact z
    refine ⟨l1, l2, x1, x2, rfl, rfl, s2 _ _ h1, h2, Nat.le_trans (show x1.length + x2.length ≤ 2000 by omega) (by decide), fun c hc => ?_⟩
    have dAll : DpAll K H2 (x1 ++ x2) ((es ++ fs).map rowD) := by
      rw [List.map_append]
      exact Zd.DpAll.append (d1.mo (s1.trans s2)) (d2.mo s2)
    generalize hH3 : upd H2 c (.lst (x1 ++ x2)) = H3
    have s3 : Same H2 H3 := hH3 ▸ new_same hc
    have hc3 : H3 c = some (.lst (x1 ++ x2)) := hH3 ▸ upd_same
    have s03 : Same H H3 := (s1.trans s2).trans s3
    have d3 := dAll.mo s3
    generalize hrows : es ++ fs = rows at d3
    generalize hxs : x1 ++ x2 = xs at d3 hc3
    have xlen : xs.length = rows.length := by
      rw [← hxs, ← hrows, List.length_append, List.length_append, len1, len2]
    have rlen : rows.length ≤ 2000 := by
      rw [← hrows, List.length_append]
      omega
    refine ⟨c, rfl, ⟨_, SqL.of hc3⟩, fun D hD => ?_⟩
    refine set_list (K := K) (a := c) (xs := xs) (fun i G => ∃ (S : Int → Bool) (n : Nat), Same H3 (Hd [D] G) ∧ G D = some (SetO w D S n) ∧ n ≤ i ∧ ∀ k : Int, S k = true ↔ k ∈ (rows.take i).map (·.1)) ?_ ?_ ?_ ?_
    · refine ⟨_, 0, ?_, upd_same, Nat.le_refl _, fun k => by simp⟩
      rw [Hd_upd (by simp)]
      exact Hd_add (S := []) (fun b o e => by rw [Hd_out (by simp)]; exact e) hD
    · rintro i G _ ⟨_, _, sG, _⟩
      exact SqL.of ((sG.trans (Hd_same _ _)) _ _ hc3)
    · rintro i x G hx ⟨S, n, sG, hS, hn, mem⟩
      obtain ⟨r, t, hr1, rfl, ht⟩ := rows_at d3 hx
      have hlt := (List.getElem?_eq_some_iff.mp hr1).1
      have et : rows.take (i + 1) = rows.take i ++ [r] := by
        rw [List.take_succ, hr1]
        rfl
      refine ⟨t, _, rfl, seqT_mo ht (sG.trans (Hd_same _ _)), rfl, _, _, rfl, _, _, rfl, rfl, rfl, ?_⟩
      refine ⟨_, rfl, r.1, S, n, rfl, hS, ?_, ?_⟩
      · exact Nat.lt_of_le_of_lt (show n + 1 ≤ 2001 by omega) (by decide +kernel)
      refine ⟨_, _, ?_, upd_same, ?_, fun k => ?_⟩
      · rw [Hd_upd (by simp)]
        exact sG
      · split <;> omega
      · rw [et, List.map_append, List.mem_append, ← mem k]
        show (S k || decide (k = r.1)) = true ↔ (S k = true ∨ k ∈ [r.1])
        rw [Bool.or_eq_true, decide_eq_true_eq, List.mem_singleton]
    · rintro G ⟨S, n, sG, hS, hn, mem⟩
      rw [xlen, List.take_length] at mem
      refine ⟨D, S, n, rfl, hS, by omega, fun ds l asc dmem dlen hl => ?_⟩
      have sHG : Same H (upd G l (.lst (ds.map V.int))) := s03.trans (sG.trans ((Hd_same _ _).trans (new_same hl)))
      generalize hG5 : upd G l (.lst (ds.map V.int)) = G5 at sHG
      have hl5 : G5 l = some (.lst (ds.map V.int)) := hG5 ▸ upd_same
      have hp5 := hp.mo sHG
      have hq5 := hq.mo sHG
      have d0 : ∀ d ∈ ds, 0 ≤ d := fun d hd => by
        have z := (mem d).mp ((dmem d).mp hd)
        rw [← hrows] at z
        obtain ⟨r, hr, rfl⟩ := List.mem_map.mp z
        rcases List.mem_append.mp hr with z | z
        · exact ge r z
        · exact gf r z
      have k5 := k G5 ds sHG asc fun k => by rw [dmem k, mem k, hrows]
      refine ⟨l, rfl, ⟨_, SqL.of hl5⟩, ?_⟩
      refine for_list (K := K) (a := l) (xs := ds.map V.int) (fun i σ H' => H' = G5 ∧ ∃ (v2 v3 : Option V), σ = [some (.ref p), some (.ref q), v2, v3] ∧ (ds.find? fun d => !decide (inForce d none es = inForce d none fs)) = ((ds.drop i).find? fun d => !decide (inForce d none es = inForce d none fs))) ?_ ?_ ?_ ?_
      · exact ⟨rfl, none, none, rfl, rfl⟩
      · rintro i σ H' _ ⟨rfl, _⟩
        exact SqL.of hl5
      · rintro i x σ H' hx ⟨rfl, v2, v3, rfl, e⟩
        rw [List.getElem?_map] at hx
        obtain ⟨d, hd, rfl⟩ := Option.map_eq_some_iff.mp hx
        have hlt := (List.getElem?_eq_some_iff.mp hd).1
        have ed : ds.drop i = d :: ds.drop (i + 1) := by
          rw [List.drop_eq_getElem_cons hlt]
          congr 1
          exact (List.getElem?_eq_some_iff.mp hd).2
        have d0d := d0 d (List.mem_of_getElem? hd)
        rw [ed] at e
        obtain ⟨dp5, lp5, xp5, ap5, _, _⟩ := id hp5
        obtain ⟨dq5, lq5, xq5, aq5, _, _⟩ := id hq5
        refine ⟨_, rfl, _, rfl, p, dp5, _, rfl, ap5, p, es, d, rfl, hp5, d0d, ?_⟩
        refine ⟨_, rfl, _, rfl, q, dq5, _, rfl, aq5, q, fs, d, rfl, hq5, d0d, pV_scal _ _, _, rfl, ?_⟩
        by_cases c : inForce d none es = inForce d none fs
        · rw [decide_eq_true (congrArg pV c)]
          refine iteF ⟨rfl, _, _, rfl, ?_⟩
          rw [e, List.find?_cons_of_neg (by simp [c])]
        · rw [decide_eq_false (fun z => c (pV_inj z))]
          rw [List.find?_cons_of_pos (by simp [c])] at e
          refine iteT ⟨_, rfl, ?_⟩
          rw [e] at k5
          exact k5
      · rintro σ H' ⟨rfl, v2, v3, rfl, e⟩
        rw [List.length_map, List.drop_length] at e
        rw [e] at k5
        exact k5
end
end Pt

set_option Elab.async false
set_option linter.all false
set_option maxRecDepth 100000
set_option maxHeartbeats 4000000
set_option pp.maxSteps 600
namespace Pt
open PySem L2 He Xh Gd Ru Zd Tx
/-! ### the first unlike day -/
theorem find_range {p : Nat → Bool} : ∀ n : Nat, ((List.range n).find? p = none ↔ ∀ d, d < n → p d = false) ∧ ∀ d, (List.range n).find? p = some d ↔ d < n ∧ p d = true ∧ ∀ e, e < d → p e = false := by
  intro n
  constructor
  · rw [List.find?_eq_none]
    constructor
    · intro h d hd
      exact Bool.eq_false_iff.mpr (h d (List.mem_range.mpr hd))
    · intro h d hd
      rw [h d (List.mem_range.mp hd)]
      decide
  · intro d
    induction n with
    | zero =>
      constructor
      · intro h
        cases h
      · intro h
        omega
    | succ n ih =>
      rw [List.range_succ, List.find?_append]
      cases e : (List.range n).find? p with
      | some d2 =>
        have z := (ih).mp
        rw [e] at ih
        constructor
        · intro h
          have h : d2 = d := Option.some.inj h
          have q := ih.mp (congrArg some h)
          exact ⟨by omega, q.2⟩
        · intro h
          have hd2 : p d2 = true := List.find?_some e
          have hlt : d2 < n := List.mem_range.mp (List.mem_of_find?_eq_some e)
          have : ¬ d2 < d := fun c => by
            rw [h.2.2 d2 c] at hd2
            cases hd2
          have q := ih.mpr ⟨by omega, h.2⟩
          exact q
      | none =>
        have no : ∀ c, c < n → p c = false := fun c hc => by
          have := List.find?_eq_none.mp e c (List.mem_range.mpr hc)
          exact Bool.eq_false_iff.mpr this
        show ([n].find? p) = some d ↔ _
        constructor
        · intro h
          cases pn : p n with
          | true =>
            rw [List.find?_cons_of_pos pn] at h
            have h : n = d := Option.some.inj h
            subst h
            exact ⟨by omega, pn, no⟩
          | false =>
            rw [List.find?_cons_of_neg (by rw [pn]; decide)] at h
            cases h
        · intro h
          have hd : d = n := by
            rcases Nat.lt_or_ge d n with c | c
            · have := h.2.1
              rw [no d c] at this
              cases this
            · omega
          subst hd
          rw [List.find?_cons_of_pos h.2.1]
theorem find_asc {p : Int → Bool} : ∀ {ds : List Int} {d : Int}, ds.Pairwise (· < ·) → d ∈ ds → p d = true → (∀ e ∈ ds, e < d → p e = false) → ds.find? p = some d
  | [], _, _, h, _, _ => nomatch h
  | c :: cs, d, pw, h, pd, no => by
    obtain ⟨h1, h2⟩ := List.pairwise_cons.mp pw
    rcases List.mem_cons.mp h with e | h
    · subst e
      exact List.find?_cons_of_pos pd
    · rw [List.find?_cons_of_neg (by rw [no c List.mem_cons_self (h1 d h)]; decide)]
      exact find_asc h2 h pd fun e he => no e (List.mem_cons_of_mem _ he)
/-- the first day below n on which something else is in force -/
def apart (rows lines : List Row) (n : Nat) : Option Nat := (List.range n).find? fun d => !decide (heldAt rows (d + 1) = heldAt lines (d + 1))
theorem apart_none {rows lines : List Row} {n : Nat} : apart rows lines n = none ↔ ∀ d, d < n → heldAt rows (d + 1) = heldAt lines (d + 1) := by
  unfold apart
  rw [(find_range n).1]
  constructor
  · intro h d hd
    have := h d hd
    simpa using this
  · intro h d hd
    simpa using h d hd
theorem apart_some {rows lines : List Row} {n d : Nat} : apart rows lines n = some d ↔ d < n ∧ heldAt rows (d + 1) ≠ heldAt lines (d + 1) ∧ ∀ e, e < d → heldAt rows (e + 1) = heldAt lines (e + 1) := by
  unfold apart
  rw [(find_range n).2]
  constructor
  · rintro ⟨h1, h2, h3⟩
    exact ⟨h1, by simpa using h2, fun e he => by simpa using h3 e he⟩
  · rintro ⟨h1, h2, h3⟩
    exact ⟨h1, by simpa using h2, fun e he => by simpa using h3 e he⟩
theorem held_idle {rows : List Row} {n : Nat} (h : (n : Int) ∉ rows.map (·.1)) : heldAt rows (n + 1) = heldAt rows n := by
  show (lookR rows n).getD (heldAt rows n) = _
  rw [lookR_none h]
  rfl
theorem held_same {rows lines : List Row} {d : Nat} (h : ∀ e, e < d → heldAt rows (e + 1) = heldAt lines (e + 1)) : heldAt rows d = heldAt lines d := by
  cases d with
  | zero => rfl
  | succ d => exact h d (by omega)
/-- first_unlike is the first day of the sweep -/
theorem unlike_apart {es fs rows lines : List Row} (p : es.Perm rows) (q : fs.Perm lines) (nd : (rows.map (·.1)).Nodup) (nd2 : (lines.map (·.1)).Nodup) (asc : Asc es) (asc2 : Asc fs) (h0 : ∀ r ∈ rows, 0 ≤ r.1) (h02 : ∀ r ∈ lines, 0 ≤ r.1) {n : Nat} (hn : ∀ r ∈ rows, r.1 < n) (hn2 : ∀ r ∈ lines, r.1 < n)
    {ds : List Int} (pw : ds.Pairwise (· < ·)) (mem : ∀ k : Int, k ∈ ds ↔ k ∈ (es ++ fs).map (·.1)) : (ds.find? fun d => !decide (inForce d none es = inForce d none fs)) = (apart rows lines n).map fun d => (d : Int) := by
  have day : ∀ d : Nat, (inForce (d : Int) none es = inForce (d : Int) none fs) ↔ heldAt rows (d + 1) = heldAt lines (d + 1) := fun d => by
    rw [get_sweep p nd asc h0, get_sweep q nd2 asc2 h02]
  have mem2 : ∀ k : Int, k ∈ ds ↔ k ∈ rows.map (·.1) ∨ k ∈ lines.map (·.1) := fun k => by
    rw [mem k, List.map_append, List.mem_append, (p.map (·.1)).mem_iff, (q.map (·.1)).mem_iff]
  have nat : ∀ k ∈ ds, ∃ d : Nat, k = d ∧ d < n := fun k hk => by
    rcases (mem2 k).mp hk with z | z
    · obtain ⟨r, hr, e⟩ := List.mem_map.mp z
      have a := h0 r hr
      have b := hn r hr
      exact ⟨k.toNat, by omega, by omega⟩
    · obtain ⟨r, hr, e⟩ := List.mem_map.mp z
      have a := h02 r hr
      have b := hn2 r hr
      exact ⟨k.toNat, by omega, by omega⟩
  cases e : apart rows lines n with
  | none =>
    have no := apart_none.mp e
    show _ = none
    rw [List.find?_eq_none]
    intro k hk
    obtain ⟨d, rfl, hd⟩ := nat k hk
    rw [decide_eq_true ((day d).mpr (no d hd))]
    decide
  | some d =>
    obtain ⟨hd, ne, ahead⟩ := apart_some.mp e
    show _ = some (d : Int)
    refine find_asc pw ?_ ?_ fun k hk lt => ?_
    · rw [mem2]
      by_cases c : (d : Int) ∈ rows.map (·.1)
      · exact .inl c
      · by_cases c2 : (d : Int) ∈ lines.map (·.1)
        · exact .inr c2
        · refine absurd ?_ ne
          rw [held_idle c, held_idle c2]
          exact held_same ahead
    · rw [decide_eq_false fun z => ne ((day d).mp z)]
      rfl
    · obtain ⟨j, rfl, _⟩ := nat k hk
      rw [decide_eq_true ((day j).mpr (ahead j (by omega)))]
      rfl
/-- the changes tell the sweep -/
theorem chg_held {rows lines : List Row} : ∀ {n : Nat}, lawChg rows n = lawChg lines n ↔ ∀ d, d < n → heldAt rows (d + 1) = heldAt lines (d + 1) := by
  have step : ∀ (rs : List Row) (n : Nat), lawChg rs (n + 1) = lawChg rs n ++ (if heldAt rs (n + 1) = heldAt rs n then [] else [((n : Int), heldAt rs (n + 1))]) := fun rs n => by
    unfold lawChg
    rw [List.range_succ, List.filter_append, List.map_append]
    congr 1
    by_cases c : heldAt rs (n + 1) = heldAt rs n
    · rw [if_pos c]
      simp [c]
    · rw [if_neg c]
      simp [c]
  have below : ∀ (rs : List Row) (n : Nat), ∀ r ∈ lawChg rs n, r.1 < (n : Int) := fun rs n r hr => by
    unfold lawChg at hr
    obtain ⟨d, hd, e⟩ := List.mem_map.mp hr
    have h1 := List.mem_range.mp (List.mem_filter.mp hd).1
    rw [← e]
    show ((d : Nat) : Int) < n
    omega
  have cut : ∀ (rs : List Row) (n : Nat), (lawChg rs (n + 1)).filter (fun r => decide (r.1 < (n : Int))) = lawChg rs n := fun rs n => by
    rw [step, List.filter_append]
    have e1 : (lawChg rs n).filter (fun r => decide (r.1 < (n : Int))) = lawChg rs n := List.filter_eq_self.mpr fun r hr => decide_eq_true (below rs n r hr)
    rw [e1]
    split
    · simp
    · simp
  intro n
  induction n with
  | zero => exact ⟨fun _ d hd => by omega, fun _ => rfl⟩
  | succ n ih =>
    constructor
    · intro h
      have h1 : lawChg rows n = lawChg lines n := by
        have z := congrArg (List.filter fun r => decide (r.1 < (n : Int))) h
        rw [cut, cut] at z
        exact z
      have h2 := ih.mp h1
      have hs := held_same (d := n) h2
      intro d hd
      rcases Nat.lt_or_ge d n with c | c
      · exact h2 d c
      · have : d = n := by omega
        subst this
        rw [step, step, h1] at h
        have h3 := List.append_cancel_left h
        by_cases c1 : heldAt rows (d + 1) = heldAt rows d <;> by_cases c2 : heldAt lines (d + 1) = heldAt lines d
        · rw [c1, c2, hs]
        · rw [if_pos c1, if_neg c2] at h3
          cases h3
        · rw [if_neg c1, if_pos c2] at h3
          cases h3
        · rw [if_neg c1, if_neg c2] at h3
          injection h3 with h4
          injection h4
    · intro h
      have h1 := ih.mpr fun d hd => h d (by omega)
      have hs := held_same (d := n) fun e he => h e (by omega)
      rw [step, step, h1, h n (by omega), hs]
theorem alike_apart {es fs rows lines : List Row} (p : es.Perm rows) (q : fs.Perm lines) (nd : (rows.map (·.1)).Nodup) (nd2 : (lines.map (·.1)).Nodup) (asc : Asc es) (asc2 : Asc fs) (h0 : ∀ r ∈ rows, 0 ≤ r.1) (h02 : ∀ r ∈ lines, 0 ≤ r.1) {n : Nat} (hn : ∀ r ∈ rows, r.1 < n) (hn2 : ∀ r ∈ lines, r.1 < n) :
    decide (chg none es = chg none fs) = (apart rows lines n).isNone := by
  rw [chg_sweep p nd asc h0 hn, chg_sweep q nd2 asc2 h02 hn2]
  cases e : apart rows lines n with
  | none => exact decide_eq_true (chg_held.mpr (apart_none.mp e))
  | some d => exact decide_eq_false fun z => (apart_some.mp e).2.1 (chg_held.mp z d (apart_some.mp e).1)
end Pt

set_option Elab.async false
set_option linter.all false
set_option maxRecDepth 100000
set_option maxHeartbeats 4000000
set_option pp.maxSteps 600
namespace Pt
open PySem L2 He Xh Gd Ru Zd Tx
def natV : Option Nat → V := fun o => pV (o.map fun d => (d : Int))
def spApart (K : Fg) : Sp := fun vs H Q _ => ∃ (v u : V) (rows lines : List Row) (last : Nat), vs = [v, u, .int last] ∧ Dp K H v (rowsD rows) ∧ Dp K H u (rowsD lines) ∧ (rows.map (·.1)).Nodup ∧ (lines.map (·.1)).Nodup ∧ rows.length ≤ 1000 ∧ lines.length ≤ 1000 ∧ last ≤ 900 ∧
  ∀ H', Same H H' → Q (natV (apart rows lines (last + 1))) H'
theorem scApart : FnScope ["rows", "lines", "last", "left", "right", "spot"] ["rows", "lines", "last"] (defScope sLawFirstApart) := ⟨rfl, rfl, rfl, by decide +kernel, rfl, by decide +kernel, by decide +kernel⟩
section
variable {P : Program} {w : World} {K : Fg} {mg : Str → Option Value} {base : Heap}
theorem ok_apart {f : Addr} {fd : FuncData} (F : FunX K "_law_first_apart" "_law_first_apart" sLawFirstApart f fd) (gRange : mg "range" = none) (c_law_sweep : Cal P w K mg base 1 "_law_sweep" ["rows", "last"] (spSweep K)) : FnOk P w K mg base CX0 2 f fd ["rows", "lines", "last"] (spApart K) := by
  refine F.ok scApart (fun vs H Q E h => ?_) (fun cdv A outer s H vs Q E hr h => ?_)
  · obtain ⟨v, u, rows, lines, last, rfl, _⟩ := h
    rfl
  · obtain ⟨v, u, rows, lines, last, rfl, hd, hd2, nd, nd2, hlen, hlen2, hlast, k⟩ := h
    refine ⟨_, PSs.nox (pss_cons (ps_par (i := 3) (j := 4) (by rfl) scApart.nd rfl rfl (by decide) rfl rfl (pa_cons (pe_c c_law_sweep hr rfl (pa_cons (pv 0) (pa_cons (pv 2) pa_nil))) (pa_cons (pe_c c_law_sweep hr rfl (pa_cons (pv 1) (pa_cons (pv 2) pa_nil))) pa_nil)) (by rfl))
        (pss_cons (ps_for PassesOwn.never rfl (pi_range1 (by rfl) gRange (pa_cons (pe_op op_add (pv 2) pe_int) pa_nil)) (pg_name (i := 5) scApart.nd rfl (.inl rfl))
          (pss_one (ps_if (pt_cmpR op_ne (pe_ix ix_list (pv 3) (pv 5) (fun _ _ => rfl)) (pe_ix ix_list (pv 4) (pv 5) (fun _ _ => rfl)) (nomark _)) (pss_one (ps_ret (pv 5))) pss_nil)))
        (pss_one (ps_ret pe_non)))), ?_⟩
    refine ⟨_, rfl, _, rfl, v, rows, last, rfl, hd, nd, hlen, by omega, fun H1 l1 l10 s1 hl1 => ?_⟩
    refine ⟨_, rfl, _, rfl, u, lines, last, rfl, hd2.mo s1, nd2, hlen2, by omega, fun H2 l2 l20 s2 hl2 => ?_⟩
    refine ⟨.ref l1, .ref l2, rfl, ?_⟩
    have h1 := s2 _ _ hl1
    have s02 := s1.trans s2
    refine ⟨_, rfl, _, _, rfl, rfl, (last : Int) + 1, rfl, by omega, by omega, ?_⟩
    have et : ((last : Int) + 1).toNat = last + 1 := by omega
    rw [et]
    have at_ : ∀ (rs : List Row) (d : Nat), d < last + 1 → atI (sweepV rs (last + 1)) (0 + (d : Int)) = some (pV (heldAt rs (d + 1))) := fun rs d hd => by
      rw [Int.zero_add]
      refine atI_nat ?_
      unfold sweepV
      rw [List.getElem?_map, List.getElem?_range hd]
      rfl
    refine for_range (lo := 0) (n := last + 1) (fun i σ H' => H' = H2 ∧ (∃ v5 : Option V, σ = [some v, some u, some (.int last), some (.ref l1), some (.ref l2), v5]) ∧ ∀ d, d < i → heldAt rows (d + 1) = heldAt lines (d + 1)) ?_ ?_ ?_
    · exact ⟨rfl, ⟨none, rfl⟩, fun d hd => by omega⟩
    · rintro i σ H' hi ⟨rfl, ⟨v5, rfl⟩, eq⟩
      refine ⟨_, rfl, _, rfl, l1, _, _, _, rfl, rfl, SqL.of h1, at_ rows i hi, ?_⟩
      refine ⟨_, rfl, _, rfl, l2, _, _, _, rfl, rfl, SqL.of hl2, at_ lines i hi, pV_scal _ _, _, rfl, ?_⟩
      by_cases c : heldAt rows (i + 1) = heldAt lines (i + 1)
      · rw [decide_eq_true (congrArg pV c)]
        refine iteF ⟨rfl, ⟨_, rfl⟩, fun d hd => ?_⟩
        rcases Nat.lt_or_ge d i with z | z
        · exact eq d z
        · obtain rfl : d = i := by omega
          exact c
      · rw [decide_eq_false (fun z => c (pV_inj z))]
        refine iteT ⟨_, rfl, ?_⟩
        have z := k H' s02
        rw [apart_some.mpr ⟨hi, c, eq⟩] at z
        have e : (natV (some i)) = V.int (0 + (i : Int)) := by
          rw [Int.zero_add]
          rfl
        rw [e] at z
        exact z
    · rintro σ H' ⟨rfl, ⟨v5, rfl⟩, eq⟩
      have z := k H' s02
      rw [apart_none.mpr eq] at z
      exact z
end
end Pt

set_option Elab.async false
set_option linter.all false
set_option maxRecDepth 100000
set_option maxHeartbeats 4000000
set_option pp.maxSteps 400
/-! max(xs, default=d) of whole numbers -/
namespace Mx
open PySem PySem.Spec PyProof.Rows L2 PySem.W
theorem most_of : ∀ (ys : List Int) (y : Int), maxOf y ys ∈ y :: ys ∧ ∀ z ∈ y :: ys, z ≤ maxOf y ys
  | [], y => ⟨List.mem_cons_self, fun z hz => by
    rw [List.mem_singleton.mp hz]
    exact Int.le_refl _⟩
  | x :: ys, y => by
    have ih := most_of ys (if DatumOrd.lt y x = true then x else y)
    have e : maxOf y (x :: ys) = maxOf (if DatumOrd.lt y x = true then x else y) ys := rfl
    have c : (if DatumOrd.lt y x = true then x else y) = y ∧ x ≤ y ∨ (if DatumOrd.lt y x = true then x else y) = x ∧ y ≤ x := by
      by_cases h : y < x
      · right
        have h2 : DatumOrd.lt y x = true := decide_eq_true h
        exact ⟨if_pos h2, by omega⟩
      · left
        have h2 : DatumOrd.lt y x = false := decide_eq_false h
        exact ⟨by rw [h2]; rfl, by omega⟩
    rw [e]
    generalize (if DatumOrd.lt y x = true then x else y) = m at ih c
    refine ⟨?_, fun z hz => ?_⟩
    · rcases List.mem_cons.mp ih.1 with q | q
      · rcases c with c | c
        · rw [q, c.1]
          exact List.mem_cons_self
        · rw [q, c.1]
          exact List.mem_cons_of_mem _ List.mem_cons_self
      · exact List.mem_cons_of_mem _ (List.mem_cons_of_mem _ q)
    · have hm := ih.2 m List.mem_cons_self
      rcases List.mem_cons.mp hz with q | q
      · rcases c with c | c <;> omega
      · rcases List.mem_cons.mp q with q | q
        · rcases c with c | c <;> omega
        · exact ih.2 z (List.mem_cons_of_mem _ q)
theorem hold_ints {h : Heap} : ∀ {vs : List Value} {ns : List Int}, IntsAre vs ns → HoldAll h vs ns
  | _, _, .nil => .nil
  | _, _, .cons n t r => .cons ⟨_, .int n t⟩ (hold_ints r)
def rMaxDf (K : PySem.W.Frag) : List V → List V → Hp → VK → Prop := fun vs zs H Q => ∃ (a : Addr) (ns : List Int) (d : Int), vs = [V.ref a] ∧ zs = [V.int d] ∧ SqL K H a (ns.map V.int) ∧ (ns = [] → Q (.int d) H) ∧ ∀ m, m ∈ ns → (∀ y ∈ ns, y ≤ m) → Q (.int m) H
theorem cr_maxDf {X : Cx} (hc : X.calm = true) (hu : X.A.units + 64 < cLine) : CallRK X (.builtin "max") [Str.ofString "default"] (rMaxDf X.K) := by
  intro pins s σ H vs zs us ws Q I r rz h
  obtain ⟨a, ns, d, rfl, rfl, hs, q0, q⟩ := h
  obtain ⟨its, rv, hl, _⟩ := I.list hs
  rw [Vals.ref1 r]
  obtain ⟨w1, rfl, e1⟩ := vals1 rz
  obtain ⟨t, rfl⟩ := e1
  have hi := rv.ints
  refine max_list_datum_default (α := Int) (I.ok.hd hc) hl.isList (hold_ints hi) (by show X.A.units + 1 + _ < _; have : Datum.depth Int ≤ 8 := by decide
                                                                                     omega) (fun e h' tk hk => ?_) fun y ys i v h' tk e hv hold hk => ?_
  · exact ⟨.int d, H, I.kept hk, ⟨_, rfl⟩, q0 e⟩
  · obtain ⟨as, rd⟩ := hold
    have z : ∃ t, v = Value.int (maxOf y ys) t := by
      revert rd
      show Reads h' v (.int (maxOf y ys)) as → _
      intro rd
      cases rd
      exact ⟨_, rfl⟩
    obtain ⟨t2, rfl⟩ := z
    have m := most_of ys y
    rw [← e] at m
    exact ⟨.int _, H, I.kept hk, ⟨_, rfl⟩, q _ m.1 m.2⟩
end Mx

set_option Elab.async false
set_option linter.all false
set_option maxRecDepth 100000
set_option maxHeartbeats 4000000
set_option pp.maxSteps 600
namespace Pt
open PySem L2 He Xh Gd Ru Zd Tx
def spLast (K : Fg) : Sp := fun vs H Q _ => ∃ (a : Addr) (xs : List V) (rows : List Row), vs = [.ref a] ∧ H a = some (.lst xs) ∧ DpAll K H xs (rows.map rowD) ∧ rows.length ≤ 1000 ∧ ∀ (n : Int) H', Same H H' → (∀ r ∈ rows, r.1 ≤ n) → Q (.int n) H'
theorem scLast : FnScope ["rows", "pair"] ["rows"] (defScope sLawLast) := ⟨rfl, rfl, rfl, by decide +kernel, rfl, by decide +kernel, by decide +kernel⟩
theorem scNearL : FnScope ["purse", "rows", "last"] ["purse", "rows"] (defScope sLawNear) := ⟨rfl, rfl, rfl, by decide +kernel, rfl, by decide +kernel, by decide +kernel⟩
def spNearL (K : Fg) : Sp := fun vs H Q _ => ∃ (p a : Addr) (n : Nat) (xs : List V) (rows : List Row), vs = [.ref p, .ref a] ∧ Pu H p n ∧ n + 40 ≤ most ∧ W p H a = some (.lst xs) ∧ DpAll K (W p H) xs (rows.map rowD) ∧ Good 402 rows ∧ rows.length ≤ 40 ∧
  ∀ H' l rows', Same (W p H) (W p H') → Pu H' p (n + 40) → NewRows K p H H' l rows' → Good 402 rows' → rows'.length ≤ 40 → Q (.ref l) H'
section
variable {P : Program} {w : World} {K : Fg} {mg : Str → Option Value} {base : Heap}
theorem ok_last {f : Addr} {fd : FuncData} (F : FunX K "_law_last" "_law_last" sLawLast f fd) (gMax : mg "max" = none) : FnOk P w K mg base CX0 1 f fd ["rows"] (spLast K) := by
  refine F.ok scLast (fun vs H Q E h => ?_) (fun cdv A outer s H vs Q E hr h => ?_)
  · obtain ⟨a, xs, rows, rfl, _⟩ := h
    rfl
  · obtain ⟨a, xs, rows, rfl, ha, hX, hlen, k⟩ := h
    have hu64 : (A.deeper (PyProof.Rows.envOfC "_law_last" (defScope sLawLast) s.heap.objs.size f cdv)).units + 64 < cLine := by
      have := hr.un
      omega
    refine ⟨_, PSs.nox (pss_one (ps_ret (pe_callBK (Mx.cr_maxDf rfl hu64) (by rfl) gMax (by decide +kernel) (pa_cons (pe_lc (own := [("pair", 1)]) (tt := tYes) rfl scLast.nd (pi_list (pv 0)) (blkOk_by (own := [("pair", 1)]) (N := ["rows", "pair"]) (sc := defScope sLawLast) (by decide +kernel)) (fun _ _ _ _ _ => by exact (pg_name (i := 1) scLast.nd rfl (.inl rfl))) (fun _ _ _ _ _ => pts_nil) (fun _ _ _ _ _ => by exact (pe_ix (r := rIxT K) ix_tup (pv 1) pe_int (fun _ _ => rfl)))) pa_nil) (pk_cons pe_int pk_nil)))), ?_⟩
    dsimp only [tRet, tCKw, tCons]
    refine days_lc (i := 0) (j := 1) (a := a) ?_ ?_ ha hX hlen fun D H2 hD s2 h2 => ?_
    · rfl
    · show 1 < 2
      decide
    · have e : daysV rows = (rows.map (·.1)).map V.int := by
        unfold daysV
        rw [List.map_map]
        rfl
      rw [e] at h2
      refine ⟨D, rows.map (·.1), 0, rfl, rfl, SqL.of h2, fun z => ?_, fun m _ hm => ?_⟩
      · refine k 0 H2 s2 fun r hr => ?_
        rw [List.map_eq_nil_iff.mp z] at hr
        cases hr
      · exact k m H2 s2 fun r hr => hm r.1 (List.mem_map.mpr ⟨r, hr, rfl⟩)
theorem ok_nearL {f : Addr} {fd : FuncData} (F : FunX K "_law_near" "_law_near" sLawNear f fd) (c_law_coin : Cal P w K mg base 1 "_law_coin" ["purse", "many"] spCoin) (c_law_last : Cal P w K mg base 1 "_law_last" ["rows"] (spLast K)) (c_law_near_rows : Cal P w K mg base 4 "_law_near_rows" ["purse", "rows", "last"] (spNear K)) :
    FnOk P w K mg base CX0 5 f fd ["purse", "rows"] (spNearL K) := by
  refine F.ok scNearL (fun vs H Q E h => ?_) (fun cdv A outer s H vs Q E hr h => ?_)
  · obtain ⟨p, a, n, xs, rows, rfl, _⟩ := h
    rfl
  · obtain ⟨p, a, n, xs, rows, rfl, hP, hn, ha, hX, g, hl, k⟩ := h
    refine ⟨_, PSs.nox (pss_cons (ps_set (i := 2) scNearL.nd rfl (.inl rfl) (pe_ifExp (PW.pt (pw_and (pt_cmpR op_lt (pe_c c_law_last (hr.mono (by decide)) rfl (pa_cons (pv 1) pa_nil)) pe_int (nomark _)) (pw_and1 (pt_cmpR op_eq (pe_c c_law_coin (hr.mono (by decide)) rfl (pa_cons (pv 0) (pa_cons pe_int pa_nil))) pe_int (nomark _))))) pe_int pe_int))
        (pss_one (ps_ret (pe_c c_law_near_rows hr rfl (pa_cons (pv 0) (pa_cons (pv 1) (pa_cons (pv 2) pa_nil))))))), ?_⟩
    have npa : a ≠ p := fun z => (Hd_some ha).1 (by rw [z]; exact List.mem_cons_self)
    have ha0 : H a = some (.lst xs) := (Hd_some ha).2
    have g402 : ∀ (lst : Int) (rs : List Row), lst ≤ 402 → Good lst rs → Good 402 rs := fun lst rs le g => ⟨g.1, fun r hr => by
      have z := g.2 r hr
      exact ⟨z.1, by omega, z.2.2⟩⟩
    have fin : ∀ (H1 : Hp) (n1 last : Nat), Same (W p H) (W p H1) → Pu H1 p n1 → n1 ≤ n + 10 → last ≤ 402 → Good last rows → (tRet (tCall (spNear K) [] E0 (tCons (tVar 0) (tCons (tVar 1) (tCons (tVar 2) tNil))))) { nx := fun x H' => Q V.non H', rt := Q } [some (.ref p), some (.ref a), some (.int last)] H1 := fun H1 n1 last s1 P1 hn1 hlast gl => by
      refine ⟨_, rfl, _, rfl, _, rfl, p, a, n1, last, xs, rows, rfl, P1, by omega, s1 _ _ ha, hX.mo s1, gl, hl, hlast, fun H2 l rows2 s2 P2 nr g2 l2 => ?_⟩
      refine k H2 l rows2 (s1.trans s2) (P2.le (by omega)) (nr.back s1) (g402 _ _ (by omega) g2) l2
    refine ⟨_, rfl, a, xs, rows, rfl, ha0, hX.mo (Hd_same _ _), by omega, fun m H1 s1 hm => ?_⟩
    have P1 := hP.mo s1
    refine ⟨_, _, rfl, rfl, _, rfl, ?_⟩
    by_cases c : m < 42
    · rw [decide_eq_true c]
      refine iteT ⟨_, rfl, p, 2, n, rfl, by decide, by omega, P1, by omega, fun H2 c2 s2 P2 c0 c1 => ?_⟩
      have s12 := (Hd_of (S := [p]) s1).trans s2
      have g41 : Good 41 rows := ⟨g.1, fun r hr => by
        have z := g.2 r hr
        have y := hm r hr
        exact ⟨z.1, by omega, z.2.2⟩⟩
      refine ⟨rfl, _, rfl, ?_⟩
      refine ite2 (fun _ => ?_) (fun _ => ?_)
      · exact fin H2 _ 41 s12 P2 (by omega) (by decide) g41
      · exact fin H2 _ 402 s12 P2 (by omega) (by decide) g
    · rw [decide_eq_false c]
      refine iteF (iteF ?_)
      exact fin H1 _ 402 (Hd_of s1) P1 (by omega) (by decide) g
end
end Pt

set_option Elab.async false
set_option linter.all false
set_option maxRecDepth 100000
set_option maxHeartbeats 4000000
/-! o.m(k = v, ..), o an instance -/
namespace Zd
open PySem L2 He Xh Gd Ru
def MtK (P : Program) (w : World) (K : Fg) (mg : Str → Option Value) (base : Heap) (k : Nat) (C : Addr) (m : Str) (ks : List Str) (sp : Sp) : Prop :=
  ∃ f fd, Meth K C m f ∧ FnOk P w K mg base CX0 k f fd ("self" :: ks) sp ∧ KBn K fd ("self" :: ks) 1 ks (fun us ws => us ++ ws) (fun us ws => us ++ ws)
def tMethK (C : Addr) (m : Str) (n : Nat) (sp : Sp) (E : XK) (ta : TE) (tk : TA) : TE := fun σ H Q => ta σ H fun x H1 => ∃ p dx fs, x = .ref p ∧ H1 p = some (.ins C dx fs) ∧ fs.lookup m = none ∧ tk σ H1 fun zs H2 => zs.length = n ∧ sp (.ref p :: zs) H2 Q E
section
variable {X : Cx} {k : Nat} {C : Addr} {ks : List Str} {sp : Sp} {m : Str} {pos apos : Pos} {o : Expr} {kws : List Keyword} {tk : TA} {ta : TE}
theorem pe_mthK {pl : Sem Bool} (c : MtK X.prog X.w X.K X.mg X.base k C m ks sp) (cl : Cls X.K C) (hr : Room k X.A) (ho : PE X o ta) (hkw : PK X kws tk) (hall : (backToKw pos (keywordEach kws X.env)).all (·.1.isSome) = true := by rfl)
    (hks : (backToKw pos (keywordEach kws X.env)).filterMap (·.1) = ks := by rfl) (hpl : ((backTo pos (starEach [] X.env)).any (·.1) || (backToKw pos (keywordEach kws X.env)).any (·.1.isNone)) = false := by rfl)
    (ht : eval (.Call (.Attribute o m apos) [] kws pos) X.env = (do
      let ov ← eval o X.env
      standAt apos.atName
      let (f, first) ← holding [ov] (getMethod ov m pl)
      callWith pos f first (backTo pos (starEach [] X.env)) (backToKw pos (keywordEach kws X.env))) := by rfl) : PE X (.Call (.Attribute o m apos) [] kws pos) (tMethK C m ks.length sp E0 ta tk) := by
  obtain ⟨f, fd, hm, F, hb⟩ := c
  refine ⟨fun pins s σ H Q I h => ?_⟩
  refine PySem.W.methodCall_KW (pl := pl) (thn (ho.run pins s σ H _ I h) fun u s1 ⟨x, H1, I1, rx, p, dx, fs, ex, ep, l, q⟩ => ?_) ht
  subst ex
  obtain rfl : u = Value.ref p := rx
  refine getmeth_ok I1 ep cl hm l ?_
  refine PySem.W.callWith_KW0 (first := [.ref p]) (h₀ := X.base) I.ok.mod.kin hm.kp hall ?_ hpl
  refine thn (hkw.run pos pins s1 σ H1 _ I1 q) fun ws s2 ⟨zs, H2, I2, rz, len, q2⟩ => ⟨I2.kIn, ?_⟩
  rw [hks]
  have r2 : Vals (V.ref p :: zs) (Value.ref p :: ws) := .cons rfl rz
  refine wpAny_call (codeAny_mono (F.run X.A X.stack s2 H2 ⟨[.ref p], ks.zip ws⟩ (.ref p :: ws) (.ref p :: zs) Q E0 hr I2.env0 (hb.to s2 [.ref p] ws I2.kIn rfl (rz.length.symm.trans len)) r2 q2) fun r s' hq => ?_)
  cases r with
  | error e => exact pass0 pins σ H2 s2 e s' I2 hq
  | ok fl =>
    cases fl with
    | ret u => exact I2.after hq
    | next => exact False.elim hq
    | brk => exact False.elim hq
    | cont => exact False.elim hq
end
end Zd

set_option Elab.async false
set_option linter.all false
set_option maxRecDepth 100000
set_option maxHeartbeats 4000000
set_option pp.maxSteps 900
namespace Pt
open PySem L2 He Xh Gd Ru Zd Tx
/-- at x the price list of the rows -/
structure Of (K : Fg) (C : Addr) (H : Hp) (x : Addr) (rows : List Row) : Prop where
  ex : ∃ es, PLAt K C H x es ∧ es.Perm rows ∧ Asc es
  g : Good 402 rows
  l : rows.length ≤ 40
theorem Of.mo {K : Fg} {C x : Addr} {H H' : Hp} {rows : List Row} (o : Of K C H x rows) (s : Same H H') : Of K C H' x rows := by
  obtain ⟨⟨es, a, b, c⟩, g, l⟩ := o
  exact ⟨⟨es, a.mo s, b, c⟩, g, l⟩
theorem natV_isN (o : Option Nat) : decide (natV o = V.non) = o.isNone := by
  cases o with
  | none => rfl
  | some d => rfl
def spPair (K : Fg) (C : Addr) : Sp := fun vs H Q _ => ∃ (p x y : Addr) (n : Nat) (rows lines : List Row), vs = [.ref p, natV (apart rows lines 403), .ref x, .ref y] ∧ Pu H p n ∧ n + 10 ≤ most ∧ Of K C (W p H) x rows ∧ Of K C (W p H) y lines ∧
  ∀ H', Same (W p H) (W p H') → Pu H' p (n + 1) → Q (.bl true) H'
theorem scPair : FnScope ["purse", "owed", "one_list", "two_list", "is_same"] ["purse", "owed", "one_list", "two_list"] (defScope sLawPairRight) := ⟨rfl, rfl, rfl, by decide +kernel, rfl, by decide +kernel, by decide +kernel⟩
section
variable {P : Program} {w : World} {K : Fg} {mg : Str → Option Value} {base : Heap}
theorem ok_pair {f C : Addr} {fd : FuncData} (F : FunX K "_law_pair_right" "_law_pair_right" sLawPairRight f fd) (cl : Cls K C) (gRepr : mg "repr" = none) (c_law_coin : Cal P w K mg base 1 "_law_coin" ["purse", "many"] spCoin)
    (c_alike : MtC P w K mg base 2 C "alike" ["self", "other"] (spAlike K C)) (ck_alike : MtK P w K mg base 2 C "alike" ["other"] (spAlike K C)) (c_first_unlike : MtC P w K mg base 4 C "first_unlike" ["self", "other"] (spUnlike K C)) (ck_first_unlike : MtK P w K mg base 4 C "first_unlike" ["other"] (spUnlike K C)) :
    FnG P w K mg base CX0 5 f fd ["purse", "owed", "one_list", "two_list"] (spPair K C) := by
  refine okG F scPair (fun vs H Q E h => ?_) (fun cdv A outer s H vs Q E gA hr h => ?_)
  · obtain ⟨p, x, y, n, rows, lines, rfl, _⟩ := h
    rfl
  · obtain ⟨p, x, y, n, rows, lines, rfl, hP, hn, ox, oy, k⟩ := h
    have hu64 : (A.deeper (PyProof.Rows.envOfC "_law_pair_right" (defScope sLawPairRight) s.heap.objs.size f cdv)).units + 64 < cLine := by
      have := hr.un
      omega
    refine ⟨_, PSs.nox (pss_cons (ps_set (i := 4) scPair.nd rfl (.inl rfl) (pe_callB (call_repr gA hu64) (by rfl) gRepr (by decide +kernel) (pa_cons (pe_cmpR op_isN (pv 1) pe_non (nomark _)) pa_nil)))
        (pss_cons (ps_if (pt_cmpR op_eq (pe_c c_law_coin (hr.mono (by decide)) rfl (pa_cons (pv 0) (pa_cons pe_int pa_nil))) pe_int (nomark _)) (pss_cons (ps_if (pt_cmpR op_ne (pe_callB (call_repr gA hu64) (by rfl) gRepr (by decide +kernel) (pa_cons (pe_mth c_alike cl (hr.mono (by decide)) (pv 2) (pa_cons (pv 3) pa_nil)) pa_nil)) (pv 4) (nomark _)) (pss_one (ps_ret pe_bl)) pss_nil)
          (pss_one (ps_ret (pe_cmpR op_eq (pe_callB (call_repr gA hu64) (by rfl) gRepr (by decide +kernel) (pa_cons (pe_mth c_first_unlike cl hr (pv 2) (pa_cons (pv 3) pa_nil)) pa_nil)) (pe_callB (call_repr gA hu64) (by rfl) gRepr (by decide +kernel) (pa_cons (pv 1) pa_nil)) (nomark _))))) pss_nil)
        (pss_cons (ps_if (pt_cmpR op_ne (pe_callB (call_repr gA hu64) (by rfl) gRepr (by decide +kernel) (pa_cons (pe_mthK ck_first_unlike cl hr (pv 2) (pk_cons (pv 3) pk_nil)) pa_nil)) (pe_callB (call_repr gA hu64) (by rfl) gRepr (by decide +kernel) (pa_cons (pv 1) pa_nil)) (nomark _)) (pss_one (ps_ret pe_bl)) pss_nil)
        (pss_one (ps_ret (pe_cmpR op_eq (pe_callB (call_repr gA hu64) (by rfl) gRepr (by decide +kernel) (pa_cons (pe_mthK ck_alike cl (hr.mono (by decide)) (pv 2) (pk_cons (pv 3) pk_nil)) pa_nil)) (pv 4) (nomark _))))))), ?_⟩
    obtain ⟨⟨es, px, perm1, asc1⟩, g1, l1⟩ := ox
    obtain ⟨⟨fs, py, perm2, asc2⟩, g2, l2⟩ := oy
    have le1 : es.length ≤ 40 := by rw [perm1.length_eq]; exact l1
    have le2 : fs.length ≤ 40 := by rw [perm2.length_eq]; exact l2
    have ge1 : ∀ r ∈ es, 0 ≤ r.1 := fun r hr => (g1.2 r (perm1.mem_iff.mp hr)).1
    have ge2 : ∀ r ∈ fs, 0 ≤ r.1 := fun r hr => (g2.2 r (perm2.mem_iff.mp hr)).1
    have hal : decide (chg none es = chg none fs) = (apart rows lines 403).isNone := alike_apart perm1 perm2 g1.1 g2.1 asc1 asc2 (fun r hr => (g1.2 r hr).1) (fun r hr => (g2.2 r hr).1) (fun r hr => by have := (g1.2 r hr).2.1; omega) (fun r hr => by have := (g2.2 r hr).2.1; omega)
    have hun : ∀ {ds : List Int}, ds.Pairwise (· < ·) → (∀ k : Int, k ∈ ds ↔ k ∈ (es ++ fs).map (·.1)) → pV (ds.find? fun d => !decide (inForce d none es = inForce d none fs)) = natV (apart rows lines 403) := fun pw mem => by
      rw [unlike_apart perm1 perm2 g1.1 g2.1 asc1 asc2 (fun r hr => (g1.2 r hr).1) (fun r hr => (g2.2 r hr).1) (n := 403) (fun r hr => by have := (g1.2 r hr).2.1; omega) (fun r hr => by have := (g2.2 r hr).2.1; omega) pw mem]
      rfl
    have small : ∀ i, ((apart rows lines 403).map fun d => (d : Int)) = some i → i.natAbs < 10 ^ 18 := fun i e => by
      cases h : apart rows lines 403 with
      | none =>
        rw [h] at e
        cases e
      | some d =>
        rw [h] at e
        have e2 : (d : Int) = i := Option.some.inj e
        have := (apart_some.mp h).1
        omega
    have to := tame_opt small
    have tb := tame_bool (apart rows lines 403).isNone
    have toD : ∀ {G : Hp}, Dp K G (natV (apart rows lines 403)) (optD ((apart rows lines 403).map fun d => (d : Int))) := pV_dp _
    refine ⟨_, rfl, rfl, ?_⟩
    try dsimp only [tNil]
    rw [natV_isN]
    refine tb.repr (by decide) (by decide) (.bl _) ?_
    refine ⟨_, rfl, p, 2, n, rfl, by decide, by omega, hP, by omega, fun H1 c1 s1 P1 c0 _ => ?_⟩
    have px1 := (px.mo s1).mo (Hd_same _ _)
    have py1 := (py.mo s1).mo (Hd_same _ _)
    obtain ⟨dx1, _, _, ax1, _, _⟩ := id px1
    refine ⟨rfl, _, rfl, ?_⟩
    refine ite2 (fun _ => ?_) (fun _ => ?_)
    · refine ⟨_, rfl, x, dx1, _, rfl, ax1, eF_no (by decide +kernel), _, rfl, x, y, es, fs, rfl, px1, py1, by omega, by omega, fun H2 s2 => ?_⟩
      rw [hal]
      try dsimp only [tNil]
      refine tb.repr (by decide) (by decide) (.bl _) ?_
      refine ⟨_, rfl, rfl, _, rfl, iteNS rfl ?_⟩
      refine ⟨_, rfl, x, dx1, _, rfl, s2 _ _ ax1, eF_no (by decide +kernel), _, rfl, x, y, es, fs, rfl, px1.mo s2, py1.mo s2, by omega, by omega, ge1, ge2, fun H3 ds s3 pw mem => ?_⟩
      rw [hun pw mem]
      try dsimp only [tNil]
      refine to.repr (by decide) (by decide) toD ?_
      refine ⟨_, rfl, ?_⟩
      try dsimp only [tNil]
      refine to.repr (by decide) (by decide) toD ?_
      refine ⟨rfl, ?_⟩
      rw [decide_eq_true rfl]
      exact k H3 (s1.trans (Hd_of (s2.trans s3))) (P1.mo (s2.trans s3))
    · refine ⟨_, rfl, x, dx1, _, rfl, ax1, eF_no (by decide +kernel), _, rfl, rfl, x, y, es, fs, rfl, px1, py1, by omega, by omega, ge1, ge2, fun H3 ds s3 pw mem => ?_⟩
      rw [hun pw mem]
      try dsimp only [tNil]
      refine to.repr (by decide) (by decide) toD ?_
      refine ⟨_, rfl, ?_⟩
      try dsimp only [tNil]
      refine to.repr (by decide) (by decide) toD ?_
      refine ⟨rfl, _, rfl, iteNS rfl ?_⟩
      refine ⟨_, rfl, x, dx1, _, rfl, s3 _ _ ax1, eF_no (by decide +kernel), _, rfl, rfl, x, y, es, fs, rfl, px1.mo s3, py1.mo s3, by omega, by omega, fun H2 s2 => ?_⟩
      rw [hal]
      try dsimp only [tNil]
      refine tb.repr (by decide) (by decide) (.bl _) ?_
      refine ⟨_, rfl, rfl, ?_⟩
      rw [decide_eq_true rfl]
      exact k H2 (s1.trans (Hd_of (s3.trans s2))) (P1.mo (s3.trans s2))
end
end Pt

set_option Elab.async false
set_option linter.all false
set_option maxRecDepth 100000
set_option maxHeartbeats 4000000
set_option pp.maxSteps 900
namespace Pt
open PySem L2 He Xh Gd Ru Zd Tx
/-- list(x) -/
def rListOf (K : Fg) : List V → Hp → VK → Prop := fun xs H Q => ∃ (p : Addr) (ys : List V), xs = [V.ref p] ∧ (SqL K H p ys ∨ SqT K H p ys) ∧ ∀ (l : Addr), H l = none → Q (V.ref l) (upd H l (HO.lst ys))
structure Plan (K : Fg) (G : Hp) (l : Addr) (rows : List Row) : Prop where
  at_ : ∃ xs, G l = some (.lst xs) ∧ DpAll K G xs (rows.map rowD)
  g : Good 402 rows
  l : rows.length ≤ 40
theorem Plan.mo {K : Fg} {G G' : Hp} {l : Addr} {rows : List Row} (o : Plan K G l rows) (s : Same G G') : Plan K G' l rows := by
  obtain ⟨⟨xs, a, b⟩, g, l⟩ := o
  exact ⟨⟨xs, s _ _ a, b.mo s⟩, g, l⟩
theorem NewRows.plan {K : Fg} {p l : Addr} {H H' : Hp} {rows : List Row} (nr : NewRows K p H H' l rows) (g : Good 402 rows) (hl : rows.length ≤ 40) : Plan K (W p H') l rows := by
  obtain ⟨xs, a, b⟩ := nr.at_
  exact ⟨⟨xs, by rw [W_at nr.ne]; exact a, b.mo (Hd_sub (by simp))⟩, g, hl⟩
theorem PLNew.hide {K : Fg} {C x : Addr} {S : List Addr} {H H' : Hp} {es : List Row} (h : PLNew K C H H' x es) (hx : H x = none) (hS : ∀ b ∈ S, H b ≠ none) : PLAt K C (Hd S H') x es := by
  obtain ⟨dx, l, ys, a1, a2, a3, a4⟩ := h
  have out : ∀ {b : Addr}, H b = none → b ∉ S := fun e z => hS _ z e
  refine ⟨dx, l, ys, by rw [Hd_out (out hx)]; exact a1, by rw [Hd_out (out a2)]; exact a3, a4.mo fun b o e => ?_⟩
  obtain ⟨n1, e1⟩ := Nw_some e
  rw [Hd_out (out n1)]
  exact e1
/-- plans and lists of three -/
def Tri (K : Fg) (C : Addr) (RS : List (List Row)) (LS MS : List Addr) (G : Hp) : Prop := ∀ a, a < 3 → ∃ la ma ra, LS[a]? = some la ∧ MS[a]? = some ma ∧ RS[a]? = some ra ∧ Plan K G la ra ∧ Of K C G ma ra
theorem Tri.mo {K : Fg} {C : Addr} {RS : List (List Row)} {LS MS : List Addr} {G G' : Hp} (t : Tri K C RS LS MS G) (s : Same G G') : Tri K C RS LS MS G' := fun a ha => by
  obtain ⟨la, ma, ra, h1, h2, h3, h4, h5⟩ := t a ha
  exact ⟨la, ma, ra, h1, h2, h3, h4.mo s, h5.mo s⟩
def spRight : Sp := fun vs H Q _ => ∃ (p : Addr) (n : Nat), vs = [.ref p] ∧ Pu H p n ∧ n + 600 ≤ most ∧ ∀ H', Same (W p H) (W p H') → Pu H' p (n + 600) → Q (.bl true) H'
theorem scRight : FnScope ["purse", "rows", "plans", "made", "plan", "turn", "at", "to", "owed"] ["purse"] (defScope sRight) := ⟨rfl, rfl, rfl, by decide +kernel, rfl, by decide +kernel, by decide +kernel⟩
section
variable {P : Program} {w : World} {K : Fg} {mg : Str → Option Value} {base : Heap}
theorem ok_right {f C : Addr} {fd : FuncData} (F : FunX K "_law_right" "_law_right" sRight f fd) (cl : Cls K C) (gList : mg "list" = none) (gRange : mg "range" = none)
    (c_law_any_rows : Cal P w K mg base 4 "_law_any_rows" ["purse"] (spAny K)) (c_law_near : Cal P w K mg base 5 "_law_near" ["purse", "rows"] (spNearL K)) (c_law_coin : Cal P w K mg base 1 "_law_coin" ["purse", "many"] spCoin)
    (c_law_first_apart : Cal P w K mg base 2 "_law_first_apart" ["rows", "lines", "last"] (spApart K)) (c_law_pair_right : CalG P w K mg base 5 "_law_pair_right" ["purse", "owed", "one_list", "two_list"] (spPair K C)) (cPriceList : MkC P w K mg base 1 "PriceList" C ["entries"] (spInit K C)) :
    FnG P w K mg base CX0 6 f fd ["purse"] spRight := by
  refine okG F scRight (fun vs H Q E h => ?_) (fun cdv A outer s H vs Q E gA hr h => ?_)
  · obtain ⟨p, n, rfl, _⟩ := h
    rfl
  · obtain ⟨p, n, rfl, hP, hn, k⟩ := h
    refine ⟨_, PSs.nox (pss_cons (ps_set (i := 1) scRight.nd rfl (.inl rfl) (pe_c c_law_any_rows (hr.mono (by decide)) rfl (pa_cons (pv 0) pa_nil)))
        (pss_cons (ps_set (i := 2) scRight.nd rfl (.inl rfl) (pe_lst (pa_cons (pv 1) (pa_cons (pe_c c_law_near hr rfl (pa_cons (pv 0) (pa_cons (pv 1) pa_nil))) (pa_cons (pe_c c_law_any_rows (hr.mono (by decide)) rfl (pa_cons (pv 0) pa_nil)) pa_nil)))))
        (pss_cons (ps_setLc (i := 3) (own := [("plan", 4)]) (tt := tYes) rfl scRight.nd rfl rfl (sw_true rfl rfl rfl (by decide +kernel)) (pi_list (pv 2)) (blkOk_by (own := [("plan", 4)]) (N := ["purse", "rows", "plans", "made", "plan", "turn", "at", "to", "owed"]) (sc := defScope sRight) (by decide +kernel)) (fun _ _ _ _ _ => by exact (pg_name (i := 4) scRight.nd rfl (.inl rfl))) (fun _ _ _ _ _ => pts_nil) (fun _ _ _ _ _ => by exact (pe_mk cPriceList (hr.mono (by decide)) rfl (pa_cons (pe_callTy (r := rListOf K) call_list_of (by rfl) gList (by decide +kernel) (pa_cons (pv 4) pa_nil)) pa_nil))))
        (pss_cons (ps_for PassesOwn.never rfl (pi_range1 (by rfl) gRange (pa_cons pe_int pa_nil)) (pg_name (i := 5) scRight.nd rfl (.inl rfl))
          (pss_cons (ps_par (i := 6) (j := 7) (by rfl) scRight.nd rfl rfl (by decide) rfl rfl (pa_cons (pe_c c_law_coin (hr.mono (by decide)) rfl (pa_cons (pv 0) (pa_cons pe_int pa_nil))) (pa_cons (pe_c c_law_coin (hr.mono (by decide)) rfl (pa_cons (pv 0) (pa_cons pe_int pa_nil))) pa_nil)) (by rfl))
          (pss_cons (ps_if (pt_cmpR op_lt (pv 5) pe_int (nomark _)) (pss_one (ps_par (i := 6) (j := 7) (by rfl) scRight.nd rfl rfl (by decide) rfl rfl (pa_cons (pv 5) (pa_cons (pe_op op_sub pe_int (pv 5)) pa_nil)) (by rfl))) pss_nil)
          (pss_cons (ps_set (i := 8) scRight.nd rfl (.inl rfl) (pe_c c_law_first_apart (hr.mono (by decide)) rfl (pa_cons (pe_ix ix_list (pv 2) (pv 6) (fun _ _ => rfl)) (pa_cons (pe_ix ix_list (pv 2) (pv 7) (fun _ _ => rfl)) (pa_cons pe_int pa_nil)))))
          (pss_one (ps_if (pt_not (pt_val (pe_cG c_law_pair_right gA hr rfl (pa_cons (pv 0) (pa_cons (pv 8) (pa_cons (pe_ix ix_list (pv 3) (pv 6) (fun _ _ => rfl)) (pa_cons (pe_ix ix_list (pv 3) (pv 7) (fun _ _ => rfl)) pa_nil))))))) (pss_one (ps_ret pe_bl)) pss_nil))))))
        (pss_one (ps_ret pe_bl)))))), ?_⟩
    refine ⟨_, rfl, p, n, rfl, hP, by omega, fun H1 l1 r1 s1 P1 nr1 g1 hl1 => ?_⟩
    have f1 := nr1.plan g1 hl1
    obtain ⟨x1, y1, z1⟩ := f1.at_
    refine ⟨_, rfl, _, rfl, _, rfl, p, l1, _, x1, r1, rfl, P1, by omega, y1, z1, g1, hl1, fun H2 l2 r2 s2 P2 nr2 g2 hl2 => ?_⟩
    have f2 := nr2.plan g2 hl2
    refine ⟨_, rfl, p, _, rfl, P2, by omega, fun H3 l3 r3 s3 P3 nr3 g3 hl3 => ?_⟩
    have f3 := nr3.plan g3 hl3
    refine ⟨by show 3 ≤ sizeLine; decide, fun pl hpl => ?_⟩
    have npl := P3.ne hpl
    generalize hH4 : upd H3 pl (.lst [V.ref l1, V.ref l2, V.ref l3]) = H4
    have s4 : Same H3 H4 := hH4 ▸ new_same hpl
    have hpl4 : H4 pl = some (.lst [V.ref l1, V.ref l2, V.ref l3]) := hH4 ▸ upd_same
    have P4 := P3.mo s4
    have s04 : Same (W p H) (W p H4) := ((s1.trans s2).trans s3).trans (Hd_of s4)
    have F1 := ((f1.mo s2).mo s3).mo (Hd_of s4)
    have F2 := (f2.mo s3).mo (Hd_of s4)
    have F3 := f3.mo (Hd_of s4)
    have plan_ : ∀ a, a < 3 → ∃ la ra, ([V.ref l1, V.ref l2, V.ref l3] : List V)[a]? = some (V.ref la) ∧ ([l1, l2, l3] : List Addr)[a]? = some la ∧ ([r1, r2, r3] : List (List Row))[a]? = some ra ∧ Plan K (W p H4) la ra := fun a ha => by
      match a, ha with
      | 0, _ => exact ⟨l1, r1, rfl, rfl, rfl, F1⟩
      | 1, _ => exact ⟨l2, r2, rfl, rfl, rfl, F2⟩
      | 2, _ => exact ⟨l3, r3, rfl, rfl, rfl, F3⟩
    obtain ⟨u4, hu4⟩ := P4.at_
    refine ⟨_, rfl, pl, rfl, ⟨_, SqL.of hpl4⟩, fun D hD => ?_⟩
    have nDp : D ≠ p := P4.ne hD
    refine lc_list (K := K) (a := pl) (xs := [V.ref l1, V.ref l2, V.ref l3]) (fun i G => ∃ MS : List Addr, Same H4 (Hd [D] G) ∧ G D = some (.lst (MS.map V.ref)) ∧ MS.length = i ∧ ∀ a, a < i → ∃ ma ra, MS[a]? = some ma ∧ ([r1, r2, r3] : List (List Row))[a]? = some ra ∧ Of K C (Hd [D, p] G) ma ra) ?_ ?_ ?_ ?_
    · refine ⟨[], ?_, upd_same, rfl, fun a ha => by omega⟩
      rw [Hd_upd (by simp)]
      exact Hd_add (S := []) (fun b o e => by rw [Hd_out (by simp)]; exact e) hD
    · rintro i G _ ⟨_, sG, _⟩
      exact SqL.of ((sG.trans (Hd_same _ _)) _ _ hpl4)
    · rintro i x G hx ⟨MS, sG, hG, len, of_⟩
      have hi : i < 3 := (List.getElem?_eq_some_iff.mp hx).1
      obtain ⟨la, ra, e1, e2, e3, pl_⟩ := plan_ i hi
      rw [e1] at hx
      obtain rfl : V.ref la = x := Option.some.inj hx
      obtain ⟨xs, hxs, dxs⟩ := pl_.at_
      have sG2 : Same H4 G := sG.trans (Hd_same _ _)
      have hxG : G la = some (.lst xs) := sG2 _ _ (Hd_some hxs).2
      have dxG : DpAll K G xs (ra.map rowD) := (dxs.mo (Hd_same _ _)).mo sG2
      refine ⟨rfl, ?_⟩
      dsimp only [tYes]
      rw [if_pos rfl]
      refine mk_gen (rows := ra) (fun R h => ⟨_, rfl, la, xs, rfl, .inl (SqL.of hxG), fun hd hhd => h hd _ (new_same hhd) (.lst (SqL.of upd_same) (dxG.mo (new_same hhd)))⟩) pl_.g.1 (fun r hr => (pl_.g.2 r hr).1) (by have := pl_.l; omega) (fun m G2 es nm sm plm perm asc => ?_)
      refine ⟨MS.map V.ref, sm _ _ hG, ?_, MS ++ [m], ?_, ?_, ?_, fun a ha => ?_⟩
      · rw [List.length_map, len]
        exact Nat.lt_of_lt_of_le hi (by decide)
      · rw [Hd_upd (by simp)]
        exact sG.trans (Hd_of sm)
      · rw [upd_same, List.map_append]
        rfl
      · rw [List.length_append, len]
        rfl
      · rw [Hd_upd (by simp)]
        rcases Nat.lt_or_ge a i with c | c
        · obtain ⟨ma, ra2, h1, h2, h3⟩ := of_ a c
          exact ⟨ma, ra2, by rw [List.getElem?_append_left (by omega)]; exact h1, h2, h3.mo (Hd_of sm)⟩
        · obtain rfl : a = i := by omega
          refine ⟨m, ra, ?_, e3, ⟨es, plm.hide nm fun b hb => ?_, perm, asc⟩, pl_.g, pl_.l⟩
          · rw [List.getElem?_append_right (by omega), len, Nat.sub_self]
            rfl
          · rcases List.mem_cons.mp hb with z | z
            · rw [z, hG]
              exact fun q => nomatch q
            · rw [List.mem_singleton.mp z, sG2 _ _ hu4]
              exact fun q => nomatch q
    · rintro G ⟨MS, sG, hG, len, of_⟩
      have sG2 : Same H4 G := sG.trans (Hd_same _ _)
      have P5 := P4.mo sG2
      have s05 : Same (W p H) (W p G) := s04.trans (Hd_of sG2)
      have tri : Tri K C [r1, r2, r3] [l1, l2, l3] MS (W p G) := fun a ha => by
        obtain ⟨la, ra, _, e2, e3, pl_⟩ := plan_ a ha
        obtain ⟨ma, ra2, h1, h2, h3⟩ := of_ a ha
        rw [e3] at h2
        obtain rfl : ra = ra2 := Option.some.inj h2
        exact ⟨la, ma, ra, e2, h1, e3, pl_.mo (Hd_of sG2), h3.mo (Hd_sub (by simp))⟩
      have hplG : W p G pl = some (.lst (([l1, l2, l3] : List Addr).map V.ref)) := by
        rw [W_at npl]
        exact sG2 _ _ hpl4
      have hDG : W p G D = some (.lst (MS.map V.ref)) := by
        rw [W_at nDp]
        exact hG
      generalize ([l1, l2, l3] : List Addr) = LS at tri hplG
      generalize ([r1, r2, r3] : List (List Row)) = RS at tri
      have at3 : ∀ {L : List Addr} {c : Int} {b : Addr}, 0 ≤ c → L[c.toNat]? = some b → atI (L.map V.ref) c = some (V.ref b) := fun {L c b} h0 e => by
        have z : c = ((c.toNat : Nat) : Int) := by omega
        rw [z]
        refine atI_nat ?_
        rw [List.getElem?_map, e]
        rfl
      refine ⟨7, rfl, by decide, by decide, ?_⟩
      refine for_range (lo := 0) (n := 7) (fun i σ H' => ∃ v4 v5 v6 v7 v8 : Option V, σ = [some (.ref p), some (.ref l1), some (.ref pl), some (.ref D), v4, v5, v6, v7, v8] ∧ Same (W p G) (W p H') ∧ Pu H' p (n + 200 + 40 + 200 + 3 * i)) ?_ ?_ ?_
      · exact ⟨_, _, _, _, _, rfl, Same.refl _, P5⟩
      · rintro i σ H5 hi ⟨v4, v5, v6, v7, v8, rfl, s5, P5⟩
        refine ⟨_, rfl, p, 3, _, rfl, by decide, by decide, P5, by omega, fun H6 c1 s6 P6 a0 a1 => ?_⟩
        refine ⟨_, rfl, p, 3, _, rfl, by decide, by decide, P6, by omega, fun H7 c2 s7 P7 b0 b1 => ⟨.int c1, .int c2, rfl, ?_⟩⟩
        have s57 := (s5.trans s6).trans s7
        dsimp only
        refine seq_rest (t := tIfS _ _ _) (fun σ' H' => H' = H7 ∧ ∃ (a b : Int) (v4 v8 : Option V), 0 ≤ a ∧ a < 3 ∧ 0 ≤ b ∧ b < 3 ∧ σ' = [some (.ref p), some (.ref l1), some (.ref pl), some (.ref D), v4, some (.int (0 + (i : Int))), some (.int a), some (.int b), v8]) ?_ ?_
        · rintro σ' H' ⟨rfl, a, b, v4, v8, ha0, ha1, hb0, hb1, rfl⟩
          have tri7 := tri.mo s57
          obtain ⟨la, ma, ra, ea1, ea2, ea3, pa, oa⟩ := tri7 a.toNat (by omega)
          obtain ⟨lb, mb, rb, eb1, eb2, eb3, pb, ob⟩ := tri7 b.toNat (by omega)
          have hpl7 := (Hd_some (s57 _ _ hplG)).2
          have hD7 := (Hd_some (s57 _ _ hDG)).2
          obtain ⟨xa, ha, da⟩ := pa.at_
          obtain ⟨xb, hb, db⟩ := pb.at_
          refine ⟨_, rfl, _, rfl, pl, _, a, _, rfl, rfl, SqL.of hpl7, at3 ha0 ea1, _, rfl, _, rfl, pl, _, b, _, rfl, rfl, SqL.of hpl7, at3 hb0 eb1, .ref la, .ref lb, ra, rb, 402, rfl, .lst (SqL.of (Hd_some ha).2) (da.mo (Hd_same _ _)), .lst (SqL.of (Hd_some hb).2) (db.mo (Hd_same _ _)), pa.g.1, pb.g.1, by have := pa.l; omega, by have := pb.l; omega, by decide, fun H8 s8 => ?_⟩
          refine ⟨_, rfl, _, rfl, _, rfl, _, rfl, D, _, a, _, rfl, rfl, SqL.of (s8 _ _ hD7), at3 ha0 ea2, _, rfl, _, rfl, D, _, b, _, rfl, rfl, SqL.of (s8 _ _ hD7), at3 hb0 eb2, p, ma, mb, _, ra, rb, rfl, P7.mo s8, by omega, oa.mo (Hd_of s8), ob.mo (Hd_of s8), fun H9 s9 P9 => ⟨_, rfl, ?_⟩⟩
          refine iteF ⟨_, _, _, _, _, rfl, (s57.trans (Hd_of s8)).trans s9, P9.le (by omega)⟩
        · intro hR
          refine ⟨_, rfl, _, _, rfl, rfl, _, rfl, ?_⟩
          refine ite2 (fun hc => ?_) (fun _ => ?_)
          · have lt : 0 + (i : Int) < 2 := of_decide_eq_true hc
            refine ⟨_, rfl, _, rfl, _, _, rfl, rfl, _, _, rfl, hR _ _ ⟨rfl, 0 + (i : Int), 1 - (0 + (i : Int)), _, _, by omega, by omega, by omega, by omega, rfl⟩⟩
          · exact hR _ _ ⟨rfl, c1, c2, _, _, a0, a1, b0, b1, rfl⟩
      · rintro σ H6 ⟨v4, v5, v6, v7, v8, rfl, s6, P6⟩
        exact k H6 (s05.trans s6) (P6.le (by omega))
end
end Pt

set_option Elab.async false
set_option linter.all false
set_option maxRecDepth 100000
set_option maxHeartbeats 4000000
set_option pp.maxSteps 400
namespace Pt
open PySem L2 He Xh Gd Ru Zd Tx
def spLaw (K : Fg) : Sp := fun vs H Q _ => ∃ (a : Addr) (ns : List Int), vs = [.ref a] ∧ SqL K H a (ns.map V.int) ∧ ns.length ≤ 63 ∧ ∀ H', Q (.bl true) H'
theorem scLaw : FnScope ["script", "spot", "purse"] ["script"] (defScope sLaw) := ⟨rfl, rfl, rfl, by decide +kernel, rfl, by decide +kernel, by decide +kernel⟩
section
variable {P : Program} {w : World} {K : Fg} {mg : Str → Option Value} {base : Heap}
theorem ok_law {f : Addr} {fd : FuncData} (F : FunX K "law" "law" sLaw f fd) (gRange : mg "range" = none) (gLen : mg "len" = none) (gMax : mg "max" = none) (gMin : mg "min" = none)
    (c_law_purse : Cal P w K mg base 1 "_law_purse" ["script", "place"] (spPurse K)) (c_law_right : CalG P w K mg base 6 "_law_right" ["purse"] spRight) : FnG P w K mg base CX0 7 f fd ["script"] (spLaw K) := by
  refine okG F scLaw (fun vs H Q E h => ?_) (fun cdv A outer s H vs Q E gA hr h => ?_)
  · obtain ⟨a, ns, rfl, _⟩ := h
    rfl
  · obtain ⟨a, ns, rfl, hS, hn, k⟩ := h
    refine ⟨_, PSs.nox (pss_cons (ps_for PassesOwn.never rfl (pi_range1 (by rfl) gRange (pa_cons (pe_callB (call_max2 rfl) (by rfl) gMax (by decide +kernel) (pa_cons pe_int (pa_cons (pe_callB (call_min2 rfl) (by rfl) gMin (by decide +kernel) (pa_cons pe_int (pa_cons (pe_callB call_len_seq (by rfl) gLen (by decide +kernel) (pa_cons (pv 0) pa_nil)) pa_nil))) pa_nil))) pa_nil)) (pg_name (i := 1) scLaw.nd rfl (.inl rfl))
          (pss_cons (ps_set (i := 2) scLaw.nd rfl (.inl rfl) (pe_c c_law_purse (hr.mono (by decide)) rfl (pa_cons (pv 0) (pa_cons (pv 1) pa_nil))))
          (pss_one (ps_if (pt_not (pt_val (pe_cG c_law_right gA hr rfl (pa_cons (pv 2) pa_nil)))) (pss_one (ps_ret pe_bl)) pss_nil))))
        (pss_one (ps_ret pe_bl))), ?_⟩
    refine ⟨_, rfl, a, _, rfl, .inl hS, _, _, rfl, _, _, rfl, ?_⟩
    generalize hz : (if (if ((ns.map V.int).length : Int) < 16 then ((ns.map V.int).length : Int) else 16) > 1 then (if ((ns.map V.int).length : Int) < 16 then ((ns.map V.int).length : Int) else 16) else 1) = z
    have z1 : 1 ≤ z ∧ z ≤ 16 := by
      rw [← hz]
      split <;> split at * <;> omega
    refine ⟨z, rfl, by omega, by omega, ?_⟩
    refine for_range (lo := 0) (n := z.toNat) (fun i σ H' => ∃ v1 v2 : Option V, σ = [some (.ref a), v1, v2] ∧ Same H H') ⟨none, none, rfl, Same.refl _⟩ ?_ ?_
    · rintro i σ H1 hi ⟨v1, v2, rfl, s1⟩
      refine ⟨_, rfl, _, rfl, a, i, ns, congrArg (fun z => [V.ref a, V.int z]) (Int.zero_add _), s1.seq hS, fun H2 p hp s2 P2 => ?_⟩
      refine ⟨_, rfl, p, 0, rfl, P2, by decide, fun H3 s3 _ => ⟨_, rfl, ?_⟩⟩
      refine iteF ⟨_, _, rfl, fun b o e => ?_⟩
      have nb : b ≠ p := ne_of_none (s1 b o e) hp
      exact call_at s3 nb (s2 b o (s1 b o e))
    · rintro σ H1 ⟨v1, v2, rfl, s1⟩
      exact k H1
end
/-- C(k = v) of a class whose __init__ has one parameter but self -/
theorem kbn1 {K : Fg} {x qual kw : Str} {st : Stmt} {f : Addr} {fd : FuncData} (F : FunX K x qual st f fd)
    (h : ∀ (kV doc pm : Value) (an : Option Addr) (cdv ct : Value) (uw : Value × Value), bindArgs (PySem.W.fnOf x qual (defArgs st) (defBody st) (defScope st) .none kV doc pm an cdv ct) ⟨[uw.1], [(kw, uw.2)]⟩ = pure [(("self" : Str), uw.1), (kw, uw.2)]) :
    KBn K fd ["self", kw] 1 [kw] (fun us ws => us ++ ws) (fun us ws => us ++ ws) := by
  obtain ⟨oc, od, dV, kV, doc, pm, an, cdv, ct, osl, rfl, _, _, hD, _⟩ := F.ex
  obtain rfl : dV = .none := by
    rcases hD with ⟨_, e⟩ | ⟨ne, _⟩
    · exact e
    · exact absurd rfl ne
  refine ⟨fun s us ws _ l1 l2 => ?_, fun a b => a.append b⟩
  match us, ws, l1, l2 with
  | [u], [w], _, _ => exact .of_eq (h kV doc pm an cdv ct (u, w))
/-! ### the head and the end -/
abbrev lawLevel : Nat := 7
theorem facts {P : Program} {w : World} {K : Fg} {h : Heap} {mg : Str → Option Value} {f : Addr} (X : K.In h) (G : h.Ns PySem.mainGlobals mg) (hfa : mg ("law" : Str) = some (.ref f)) (c : Says fa ds K) :
    ∃ fd : FuncData, (∀ (s : Shared) (v : Value), BindsTo s fd ⟨[v], []⟩ [("script", v)]) ∧ ∀ base : Heap, K.In base → base.Ns PySem.mainGlobals mg → FnG P w K mg base CX0 lawLevel f fd ["script"] (spLaw K) := by
  have gl : ∀ (x : Str) (i : Nat), fa[i]? = some (fGlo x) → mg x = some (.ref (ga K x)) := fun x i e => glo_ok X G (c.fact i e)
  have fr : ∀ (x : Str) (i : Nat), fa[i]? = some (fFree x) → mg x = none := fun x i e => free_ok X G (c.fact i e)
  obtain ⟨dInForce, FInForce⟩ : ∃ fd, FunX K "in_force" "in_force" sInForce (ga K "in_force") fd := c.def_ 0
  obtain ⟨dInit, FInit⟩ : ∃ fd, FunX K "__init__" "PriceList.__init__" sInit (ma K (ga K "PriceList") "__init__") fd := c.def_ 1
  obtain ⟨dEntries, FEntries⟩ : ∃ fd, FunX K "entries" "PriceList.entries" sEntries (gtr "PriceList" "entries" K) fd := c.def_ 2
  obtain ⟨dPriceListChanges, FPriceListChanges⟩ : ∃ fd, FunX K "changes" "PriceList.changes" sPriceListChanges (ma K (ga K "PriceList") "changes") fd := c.def_ 3
  obtain ⟨dPriceListAlike, FPriceListAlike⟩ : ∃ fd, FunX K "alike" "PriceList.alike" sPriceListAlike (ma K (ga K "PriceList") "alike") fd := c.def_ 4
  obtain ⟨dPriceListFirstUnlike, FPriceListFirstUnlike⟩ : ∃ fd, FunX K "first_unlike" "PriceList.first_unlike" sPriceListFirstUnlike (ma K (ga K "PriceList") "first_unlike") fd := c.def_ 5
  obtain ⟨dGet, FGet⟩ : ∃ fd, FunX K "__getitem__" "PriceList.__getitem__" sGet (ma K (ga K "PriceList") "__getitem__") fd := c.def_ 6
  obtain ⟨dLen, FLen⟩ : ∃ fd, FunX K "__len__" "PriceList.__len__" sLen (ma K (ga K "PriceList") "__len__") fd := c.def_ 7
  obtain ⟨dPriceListEq, FPriceListEq⟩ : ∃ fd, FunX K "__eq__" "PriceList.__eq__" sPriceListEq (ma K (ga K "PriceList") "__eq__") fd := c.def_ 8
  obtain ⟨dPurse, FPurse⟩ : ∃ fd, FunX K "_law_purse" "_law_purse" sPurse (ga K "_law_purse") fd := c.def_ 9
  obtain ⟨dCoin, FCoin⟩ : ∃ fd, FunX K "_law_coin" "_law_coin" sCoin (ga K "_law_coin") fd := c.def_ 10
  obtain ⟨dPrice, FPrice⟩ : ∃ fd, FunX K "_law_price_drawn" "_law_price_drawn" sPrice (ga K "_law_price_drawn") fd := c.def_ 11
  obtain ⟨dRows, FRows⟩ : ∃ fd, FunX K "_law_rows_drawn" "_law_rows_drawn" sRows (ga K "_law_rows_drawn") fd := c.def_ 12
  obtain ⟨dAny, FAny⟩ : ∃ fd, FunX K "_law_any_rows" "_law_any_rows" sAny (ga K "_law_any_rows") fd := c.def_ 13
  obtain ⟨dSweep, FSweep⟩ : ∃ fd, FunX K "_law_sweep" "_law_sweep" sSweep (ga K "_law_sweep") fd := c.def_ 14
  obtain ⟨dLawFirstApart, FLawFirstApart⟩ : ∃ fd, FunX K "_law_first_apart" "_law_first_apart" sLawFirstApart (ga K "_law_first_apart") fd := c.def_ 15
  obtain ⟨dLawNearRows, FLawNearRows⟩ : ∃ fd, FunX K "_law_near_rows" "_law_near_rows" sLawNearRows (ga K "_law_near_rows") fd := c.def_ 16
  obtain ⟨dLawLast, FLawLast⟩ : ∃ fd, FunX K "_law_last" "_law_last" sLawLast (ga K "_law_last") fd := c.def_ 17
  obtain ⟨dLawNear, FLawNear⟩ : ∃ fd, FunX K "_law_near" "_law_near" sLawNear (ga K "_law_near") fd := c.def_ 18
  obtain ⟨dLawPairRight, FLawPairRight⟩ : ∃ fd, FunX K "_law_pair_right" "_law_pair_right" sLawPairRight (ga K "_law_pair_right") fd := c.def_ 19
  obtain ⟨dRight, FRight⟩ : ∃ fd, FunX K "_law_right" "_law_right" sRight (ga K "_law_right") fd := c.def_ 20
  obtain ⟨dLaw, FLaw⟩ : ∃ fd, FunX K "law" "law" sLaw (ga K "law") fd := c.def_ 21
  have glPriceError := gl "PriceError" 0 rfl
  have glInvalidDay := gl "InvalidDay" 1 rfl
  have glDoubleDay := gl "DoubleDay" 2 rfl
  have glInForce := gl "in_force" 3 rfl
  have glPriceList := gl "PriceList" 4 rfl
  have clPriceList : Cls K (ga K "PriceList") := cls_ok (c.fact 5 (f := fCls "PriceList"))
  have mkPriceList : Mk K (ga K "PriceList") (ma K (ga K "PriceList") "__init__") := mkr_ok (c.fact 6 (f := fMkr "PriceList"))
  have prEntries : PropOf K (ga K "PriceList") "entries" (prp "PriceList" "entries" K) (gtr "PriceList" "entries" K) := prop_ok (c.fact 7 (f := fProp "PriceList" "entries"))
  have mePriceListChanges : Meth K (ga K "PriceList") "changes" (ma K (ga K "PriceList") "changes") := meth_ok (c.fact 8 (f := fMeth "PriceList" "changes"))
  have mePriceListAlike : Meth K (ga K "PriceList") "alike" (ma K (ga K "PriceList") "alike") := meth_ok (c.fact 9 (f := fMeth "PriceList" "alike"))
  have mePriceListFirstUnlike : Meth K (ga K "PriceList") "first_unlike" (ma K (ga K "PriceList") "first_unlike") := meth_ok (c.fact 10 (f := fMeth "PriceList" "first_unlike"))
  have meGet : Meth K (ga K "PriceList") "__getitem__" (ma K (ga K "PriceList") "__getitem__") := meth_ok (c.fact 11 (f := fMeth "PriceList" "__getitem__"))
  have meLen : Meth K (ga K "PriceList") "__len__" (ma K (ga K "PriceList") "__len__") := meth_ok (c.fact 13 (f := fMeth "PriceList" "__len__"))
  have mePriceListEq : Meth K (ga K "PriceList") "__eq__" (ma K (ga K "PriceList") "__eq__") := meth_ok (c.fact 14 (f := fMeth "PriceList" "__eq__"))
  have naPriceList_entries : NoAttr K (ga K "PriceList") "_entries" := noat_ok (c.fact 15 (f := fNoat "PriceList" "_entries"))
  have glPurse := gl "_law_purse" 16 rfl
  have glCoin := gl "_law_coin" 17 rfl
  have glPrice := gl "_law_price_drawn" 18 rfl
  have glRows := gl "_law_rows_drawn" 19 rfl
  have glAny := gl "_law_any_rows" 20 rfl
  have glSweep := gl "_law_sweep" 21 rfl
  have glLawFirstApart := gl "_law_first_apart" 22 rfl
  have glLawNearRows := gl "_law_near_rows" 23 rfl
  have glLawLast := gl "_law_last" 24 rfl
  have glLawNear := gl "_law_near" 25 rfl
  have glLawPairRight := gl "_law_pair_right" 26 rfl
  have glRight := gl "_law_right" 27 rfl
  have glLaw := gl "law" 28 rfl
  have gTypeError := fr "TypeError" 29 rfl
  have gAbs := fr "abs" 30 rfl
  have gDict := fr "dict" 31 rfl
  have gInt := fr "int" 32 rfl
  have gIsinstance := fr "isinstance" 33 rfl
  have gLen := fr "len" 34 rfl
  have gList := fr "list" 35 rfl
  have gMax := fr "max" 36 rfl
  have gMin := fr "min" 37 rfl
  have gRange := fr "range" 38 rfl
  have gRepr := fr "repr" 39 rfl
  have gSorted := fr "sorted" 40 rfl
  have ehfa := hfa.symm.trans glLaw
  cases ehfa
  refine ⟨dLaw, ?_, fun base _ _ => ?_⟩
  · have b := FunD.bindsA (ps := ["script"]) FLaw fun _ _ _ _ _ _ us hl => match us, hl with | [_], _ => rfl
    exact fun s v => b s [v] rfl
  · have cIn : Cal P w K mg base 1 "in_force" ["entries", "day"] (spInForce K) := ⟨_, _, ok_inforce FInForce, glInForce, FInForce.kp, FunD.bindsN FInForce fun _ _ _ _ _ _ us hl => match us, hl with | [_, _], _ => rfl⟩
    have b1 : Binds K dInit ["self", "entries"] [] := FunD.bindsN FInit fun _ _ _ _ _ _ us hl => match us, hl with | [_, _], _ => rfl
    have cMk : MkC P w K mg base 1 "PriceList" (ga K "PriceList") ["entries"] (spInit K (ga K "PriceList")) := ⟨_, _, mkPriceList, ok_init FInit clPriceList naPriceList_entries gSorted, glPriceList, b1, kbn1 FInit fun _ _ _ _ _ _ _ => rfl⟩
    have cEnt : PrC P w K mg base 1 (ga K "PriceList") "entries" (spEntries K (ga K "PriceList")) := ⟨_, _, _, prEntries, ok_entries FEntries clPriceList naPriceList_entries gList, FunD.bindsN FEntries fun _ _ _ _ _ _ us hl => match us, hl with | [_], _ => rfl⟩
    have cGet : MtC P w K mg base 2 (ga K "PriceList") "__getitem__" ["self", "day"] (spGet K (ga K "PriceList")) := ⟨_, _, meGet, ok_get FGet clPriceList naPriceList_entries cIn, fnIn_of FGet, FunD.bindsN FGet fun _ _ _ _ _ _ us hl => match us, hl with | [_, _], _ => rfl⟩
    have cLen : MtC P w K mg base 1 (ga K "PriceList") "__len__" ["self"] (spLen K (ga K "PriceList")) := ⟨_, _, meLen, ok_len FLen clPriceList naPriceList_entries gLen, fnIn_of FLen, FunD.bindsN FLen fun _ _ _ _ _ _ us hl => match us, hl with | [_], _ => rfl⟩
    have cChg : MtC P w K mg base 1 (ga K "PriceList") "changes" ["self"] (spChanges K (ga K "PriceList")) := ⟨_, _, mePriceListChanges, ok_changes FPriceListChanges clPriceList naPriceList_entries, fnIn_of FPriceListChanges, FunD.bindsN FPriceListChanges fun _ _ _ _ _ _ us hl => match us, hl with | [_], _ => rfl⟩
    have cPurse : Cal P w K mg base 1 "_law_purse" ["script", "place"] (spPurse K) := ⟨_, _, ok_purse FPurse gInt gLen gMax gAbs, glPurse, FPurse.kp, FunD.bindsN FPurse fun _ _ _ _ _ _ us hl => match us, hl with | [_, _], _ => rfl⟩
    have cCoin : Cal P w K mg base 1 "_law_coin" ["purse", "many"] spCoin := ⟨_, _, ok_coin FCoin gInt, glCoin, FCoin.kp, FunD.bindsN FCoin fun _ _ _ _ _ _ us hl => match us, hl with | [_, _], _ => rfl⟩
    have cPrice : Cal P w K mg base 2 "_law_price_drawn" ["purse"] spPrice := ⟨_, _, ok_price FPrice cCoin, glPrice, FPrice.kp, FunD.bindsN FPrice fun _ _ _ _ _ _ us hl => match us, hl with | [_], _ => rfl⟩
    have cRows : Cal P w K mg base 3 "_law_rows_drawn" ["purse", "most", "last"] (spRows K) := ⟨_, _, ok_rows FRows gRange cCoin cPrice, glRows, FRows.kp, FunD.bindsN FRows fun _ _ _ _ _ _ us hl => match us, hl with | [_, _, _], _ => rfl⟩
    have cAny : Cal P w K mg base 4 "_law_any_rows" ["purse"] (spAny K) := ⟨_, _, ok_any FAny gRange cCoin cPrice cRows, glAny, FAny.kp, FunD.bindsN FAny fun _ _ _ _ _ _ us hl => match us, hl with | [_], _ => rfl⟩
    have cSweep : Cal P w K mg base 1 "_law_sweep" ["rows", "last"] (spSweep K) := ⟨_, _, ok_sweep FSweep gRange gDict gList, glSweep, FSweep.kp, FunD.bindsN FSweep fun _ _ _ _ _ _ us hl => match us, hl with | [_, _], _ => rfl⟩
    have cNear : Cal P w K mg base 4 "_law_near_rows" ["purse", "rows", "last"] (spNear K) := ⟨_, _, ok_near FLawNearRows gRange gList gLen cCoin cPrice cSweep, glLawNearRows, FLawNearRows.kp, FunD.bindsN FLawNearRows fun _ _ _ _ _ _ us hl => match us, hl with | [_, _, _], _ => rfl⟩
    have cApart : Cal P w K mg base 2 "_law_first_apart" ["rows", "lines", "last"] (spApart K) := ⟨_, _, ok_apart FLawFirstApart gRange cSweep, glLawFirstApart, FLawFirstApart.kp, FunD.bindsN FLawFirstApart fun _ _ _ _ _ _ us hl => match us, hl with | [_, _, _], _ => rfl⟩
    have cLast : Cal P w K mg base 1 "_law_last" ["rows"] (spLast K) := ⟨_, _, ok_last FLawLast gMax, glLawLast, FLawLast.kp, FunD.bindsN FLawLast fun _ _ _ _ _ _ us hl => match us, hl with | [_], _ => rfl⟩
    have cNearL : Cal P w K mg base 5 "_law_near" ["purse", "rows"] (spNearL K) := ⟨_, _, ok_nearL FLawNear cCoin cLast cNear, glLawNear, FLawNear.kp, FunD.bindsN FLawNear fun _ _ _ _ _ _ us hl => match us, hl with | [_, _], _ => rfl⟩
    have oAlike := ok_alike (P := P) (w := w) (mg := mg) (base := base) FPriceListAlike clPriceList cChg
    have oUnlike := ok_unlike (P := P) (w := w) (mg := mg) (base := base) FPriceListFirstUnlike clPriceList gSorted cEnt cGet
    have cAlike : MtC P w K mg base 2 (ga K "PriceList") "alike" ["self", "other"] (spAlike K (ga K "PriceList")) := ⟨_, _, mePriceListAlike, oAlike, fnIn_of FPriceListAlike, FunD.bindsN FPriceListAlike fun _ _ _ _ _ _ us hl => match us, hl with | [_, _], _ => rfl⟩
    have ckAlike : MtK P w K mg base 2 (ga K "PriceList") "alike" ["other"] (spAlike K (ga K "PriceList")) := ⟨_, _, mePriceListAlike, oAlike, kbn1 FPriceListAlike fun _ _ _ _ _ _ _ => rfl⟩
    have cUnlike : MtC P w K mg base 4 (ga K "PriceList") "first_unlike" ["self", "other"] (spUnlike K (ga K "PriceList")) := ⟨_, _, mePriceListFirstUnlike, oUnlike, fnIn_of FPriceListFirstUnlike, FunD.bindsN FPriceListFirstUnlike fun _ _ _ _ _ _ us hl => match us, hl with | [_, _], _ => rfl⟩
    have ckUnlike : MtK P w K mg base 4 (ga K "PriceList") "first_unlike" ["other"] (spUnlike K (ga K "PriceList")) := ⟨_, _, mePriceListFirstUnlike, oUnlike, kbn1 FPriceListFirstUnlike fun _ _ _ _ _ _ _ => rfl⟩
    have cPair : CalG P w K mg base 5 "_law_pair_right" ["purse", "owed", "one_list", "two_list"] (spPair K (ga K "PriceList")) := ⟨_, _, ok_pair FLawPairRight clPriceList gRepr cCoin cAlike ckAlike cUnlike ckUnlike, glLawPairRight, FLawPairRight.kp, FunD.bindsN FLawPairRight fun _ _ _ _ _ _ us hl => match us, hl with | [_, _, _, _], _ => rfl⟩
    have cRight : CalG P w K mg base 6 "_law_right" ["purse"] spRight := ⟨_, _, ok_right FRight clPriceList gList gRange cAny cNearL cCoin cApart cPair cMk, glRight, FRight.kp, FunD.bindsN FRight fun _ _ _ _ _ _ us hl => match us, hl with | [_], _ => rfl⟩
    exact ok_law FLaw gRange gLen gMax gMin cPurse cRight
end Pt
set_option maxHeartbeats 0
open PySem PySem.W PySem.Calls PyProof.Rows
theorem PySem.Challenge.cw_inforce_k05_lists_alike_holds : PySem.Challenge.rw_inforce_k05_lists_alike.Holds := by
  w_on; o_law
  refine HandSHeadRun.head_any (r := OpenLaw.row PySem.Challenge.rw_inforce_k05_lists_alike) (q := view (OpenLaw.row PySem.Challenge.rw_inforce_k05_lists_alike).prog [20]) (H := Xh.hook 6 Tx.fa Tx.ds) (ob := Tx.ob) (M := 5200) (loose := Tx.loose)
    (d := HandSHeadRun.topDef (OpenLaw.row PySem.Challenge.rw_inforce_k05_lists_alike).prog 20) (kwd := []) Tx.ob_eq
    (by kernel_rfl) (fun s => by kernel_rfl) Tx.run (by kernel_rfl) (by kernel_rfl) (by kernel_rfl) (by rfl) (by first | assumption | decide +kernel) (by decide +kernel) ⟨rfl, rfl, rfl, rfl, rfl, by decide +kernel⟩ ?hw ?hc
  case hw => w_witness2
  case hc =>
    refine Gd.walk_ofG (l := PySem.Challenge.rw_inforce_k05_lists_alike) (n := 63) (k := Pt.lawLevel) (x := "script") rfl (by decide) (by kernel_rfl) ⟨rfl, by decide, by decide⟩ ?F
    intro w mg fa h Y G hmg0
    obtain ⟨K, KX, c⟩ := Y
    have hmg : mg ("law" : PySem.Str) = some (.ref fa) := by
      have e : (HandSHeadRun.topDef (OpenLaw.row PySem.Challenge.rw_inforce_k05_lists_alike).prog 20).name = ("law" : PySem.Str) := by kernel_rfl
      rw [← e]
      exact hmg0
    obtain ⟨fd, hb, hF⟩ := Pt.facts (P := (PySem.Challenge.rw_inforce_k05_lists_alike).prog) (w := w) KX G hmg c
    exact ⟨K, fd, Pt.spLaw K, KX, hb, fun H a ns hl hS => ⟨a, ns, rfl, hS, hl, fun _ => rfl⟩, hF⟩
