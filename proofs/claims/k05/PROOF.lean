import PyProof.Rows.All
import Wide.All
import OpenK.AllK
import Wide.FinOn
import HandS.ForMost
import HandS.Style
import HandS.Flow
import HandS.EndBits
import PyProof.ReprRoads
import HandS.Steps
import HandS.Evl
import PySem.Challenge.RW_saidatonce_k05_marks_cut_and_joined
set_option Elab.async false
set_option linter.all false
set_option maxRecDepth 100000
namespace Yb
open PySem PySem.Spec PyProof.Rows L2

/-! ### repr of data, where nothing is being shown around -/
section
variable {X : Cx}
def rRepr (K : PySem.W.Frag) : List V → Hp → VK → Prop := fun xs H Q => ∃ v d, xs = [v] ∧ Dp K H v d ∧ d.showable = true ∧ d.hasDict = false ∧ d.depth ≤ 60 ∧ d.shown.length ≤ sizeLine ∧ Q (.str d.shown) H
theorem call_reprD (hg : X.A.guards = some []) (hu : X.A.units + 64 < cLine) : CallR X (.builtin "repr") (rRepr X.K) := by
  intro pins s σ H xs us Q I r h
  obtain ⟨v, d, rfl, hd, hs, hn, hdep, hz, q⟩ := h
  obtain ⟨u, rfl, ru⟩ := vals1 r
  obtain ⟨as, rd⟩ := Dp.reads I d v u hd ru
  cases hd with
  | non =>
    cases ru
    exact PySem.P.repr_of_none ⟨.str _, H, I.tok _, ⟨_, rfl⟩, q⟩
  | bl b =>
    cases ru
    exact PySem.P.repr_of_bool ⟨.str _, H, I.tok _, ⟨_, rfl⟩, q⟩
  | int i =>
    obtain ⟨t, rfl⟩ := ru
    exact PySem.P.repr_of_int (by simpa [PyData.showable] using hs) ⟨.str _, H, I.tok _, ⟨_, rfl⟩, q⟩
  | str x =>
    obtain ⟨t, rfl⟩ := ru
    exact PySem.P.repr_of_str ⟨.str _, H, I.tok _, ⟨_, rfl⟩, q⟩ hz
  | lst h1 h2 =>
    cases ru
    exact repr_of_reads' rd hs (fun z => by rw [hn] at z; cases z) hg (by omega) (fun _ _ e => e) (fun h' u tk hk => ⟨.str _, H, I.kept (t' := tk) hk, ⟨_, rfl⟩, q⟩) hz
  | tup h1 h2 =>
    cases ru
    exact repr_of_reads' rd hs (fun z => by rw [hn] at z; cases z) hg (by omega) (fun _ _ e => e) (fun h' u tk hk => ⟨.str _, H, I.kept (t' := tk) hk, ⟨_, rfl⟩, q⟩) hz
end

/-! ### defs that are called where nothing is being shown around -/
structure FnG (P : Program) (w : World) (K : PySem.W.Frag) (mg : Str → Option Value) (base : Heap) (CX : CXT) (k : Nat) (f : Addr) (fd : FuncData) (ps : List Str) (sp : Sp) : Prop where
  len : ∀ xs H0 Q E, sp xs H0 Q E → xs.length = ps.length
  go : ∀ (A : Around) (outer : List Env) (s : Shared) (H : Hp) (args : Args) (us : List Value) (vs : List V) (Q : VK) (E : XK),
    Room k A → A.guards = some [] → Env0 P w K mg base A outer s H → BindsTo s fd args (ps.zip us) → Vals vs us → sp vs H Q E →
    codeAny (model P w) A (.call (.ref f) args)
      (CR CX outer P w H s Q E) s
section
variable {P : Program} {w : World} {K : PySem.W.Frag} {mg : Str → Option Value} {base : Heap} {CX : CXT} {k : Nat} {f : Addr} {fd : FuncData} {ps : List Str} {sp : Sp}
theorem FnG.of (F : FnOk P w K mg base CX k f fd ps sp) : FnG P w K mg base CX k f fd ps sp :=
  ⟨F.len, fun A outer s H args us vs Q E hr _ he hb hv hs => F.run A outer s H args us vs Q E hr he hb hv hs⟩
theorem okG {x qual : Str} {st : Stmt} {N : List Str} (F : Fun K x qual st f fd) (S : FnScope N ps (defScope st)) (len : ∀ vs H Q E, sp vs H Q E → vs.length = ps.length)
    (body : ∀ (cdv : Value) (A : Around) (outer : List Env) (s : Shared) (H : Hp) (vs : List V) (Q : VK) (E : XK),
      Room k (A.deeper (envOfC qual (defScope st) s.heap.objs.size f cdv)) → A.guards = some [] → sp vs H Q E →
      ∃ t, PSs (cxOf CX P w K mg base N qual (defScope st) f cdv A outer s H E).nox (defBody st) t ∧ t { nx := fun _ H' => Q .non H', rt := Q } (start N vs) H) :
    FnG P w K mg base CX (k + 1) f fd ps sp := by
  obtain ⟨oc, od, kV, doc, pm, an, cdv, ct, osl, rfl, lk, hcd⟩ := F.ex
  constructor
  · exact len
  · intro A outer s H args us vs Q E hr hg e0 hb r hsp
    have hl := len _ _ _ _ hsp
    have hin : K.In s.heap := e0.mod.kin.keeps (fun b o e => (e0.bs b o e).1)
    have hlim : s.heap.NoLimit := e0.mod.nolimit.keeps (fun b o e => (e0.bs b o e).1)
    have hbk : ∀ y ∈ ps.zip us, (defScope st).names.lookup y.1 = some .local ∨
        ((defScope st).names.lookup y.1 = some .cell ∧ ((cellsFrom (s.heap.objs.size + 1) (defScope st).names []).lookup y.1).isSome = true) := by
      rintro ⟨n, v⟩ hy
      cases S.par n (List.of_mem_zip hy).1 with
      | inl q => exact .inl q
      | inr q => exact .inr ⟨q, PySem.W.cellsFrom_some _ _ _ (.inl q)⟩
    apply codeAny_call_function hr.depth (hin _ _ lk) rfl S.co S.gen rfl (PySem.W.codeRec_of hin hcd) (hb _ _ _ _ ?_)
    apply wpAny_newFunctionEnv_cells S.kind hbk
    intro env he s1 hc
    subst he
    refine ⟨hlim.keeps hc.toInCall.keep, codeAny_func ?_⟩
    obtain ⟨t, ht, hq⟩ := body cdv A outer s H vs Q E (hr.deeper _) hg hsp
    have I := inv_start (CX := CX) (P := P) (w := w) (K := K) (mg := mg) (base := base) (qual := qual) (f := f) (cd := cdv) (E := E) S hr.hd e0 hl r hc
    apply wpAny_mono (ht.nox.run [] s1 (start N vs) H _ I hq) _ (fun e s' z => z)
    intro fl s' hs
    cases fl with
    | brk =>
      obtain ⟨_, _, _, q⟩ := hs
      exact False.elim q
    | cont =>
      obtain ⟨_, _, _, q⟩ := hs
      exact False.elim q
    | next =>
      obtain ⟨σ', H', J, q⟩ := hs
      exact ⟨V.non, H', J.os, J.bare, J.base, J.hok, rfl, q⟩
    | ret u =>
      obtain ⟨v, σ', H', J, rv, q⟩ := hs
      exact ⟨v, H', J.os, J.bare, J.base, J.hok, rv, q⟩
/-- the callee runs, nothing being shown around -/
theorem run_fnG {X : Cx} {E : XK} {pins : List (Addr × Obj)} {σ : L2.St} {H : Hp} {s : Shared} {Q : VK} {us : List Value} {kw : List (Str × Value)} {bs : List Value} {bv : List V}
    (F : FnG X.prog X.w X.K X.mg X.base CX k f fd ps sp) (hr : Room k X.A) (hg : X.A.guards = some []) (hb : (bs.length = ps.length) → BindsTo s fd ⟨us, kw⟩ (ps.zip bs)) (hx : Passes CX X E)
    (I : Inv X pins σ H s) (r : Vals bv bs) (h : sp bv H Q E) : wpAny (model X.prog X.w) X.A (call (.ref f) us kw) (EP X pins σ Q) X.xe s := by
  have hl : bs.length = ps.length := by
    rw [← r.length]
    exact F.len _ _ _ _ h
  apply wpAny_call (codeAny_mono (F.go X.A X.stack s H ⟨us, kw⟩ bs bv Q E hr hg I.env0 (hb hl) r h) _)
  intro r s' hq
  cases r with
  | error err => exact hx pins σ H s err s' I hq
  | ok fl =>
    cases fl with
    | ret u => exact I.after hq
    | next => exact False.elim hq
    | brk => exact False.elim hq
    | cont => exact False.elim hq
theorem pe_callG {X : Cx} {x : Str} {p pos : Pos} {e : Expr} {es : List Expr} {t : TA} {E : XK} {dvs : List V} {ds : List Value}
    (F : FnG X.prog X.w X.K X.mg X.base CX k f fd ps sp) (hr : Room k X.A) (hgu : X.A.guards = some []) (hg : Gl X x) (hm : X.mg x = some (.ref f)) (hk : PySem.W.keepIn X.K (.ref f) = true) (hb : Binds X.K fd ps ds) (hd : Vals dvs ds) (hx : Passes CX X E)
    (ha : PA X (e :: es) t) (hdb : (x == ("__debug__" : Str)) = false := by decide)
    (hst : starEach (e :: es) X.env = (false, eval e X.env) :: starEach es X.env := by rfl) (hno : (backTo pos (starEach es X.env)).any (·.1) = false := by rfl) : PE X (.Call (.Name x p) (e :: es) [] pos) (tCall sp dvs E t) := by
  constructor
  intro pins s σ H Q I h
  apply wpAny_Call_Name_kw (ld_glob I hg hm _ hdb)
  apply PySem.W.callWith_K (h₀ := X.base) I.ok.mod.kin hk _ hst hno
  exact thn (ha.run pos pins s σ H _ I h) fun us s1 ⟨vs, H1, I1, r, q⟩ =>
    ⟨I1.kIn, run_fnG (bs := us ++ ds) F hr hgu (fun hl => hb s1 us I1.kIn hl) hx I1 (r.append hd) q⟩
/-- f(k = v, ..), keywords alone -/
def tCallK0 (sp : Sp) (gV : List V → List V → List V) (E : XK) (tk : TA) : TE := fun σ H Q => tk σ H fun zs H2 => sp (gV [] zs) H2 Q E
theorem pe_callK0 {X : Cx} {x : Str} {p pos : Pos} {kws : List Keyword} {tk : TA} {E : XK} {ks : List Str} {g : List Value → List Value → List Value} {gV : List V → List V → List V}
    (F : FnG X.prog X.w X.K X.mg X.base CX k f fd ps sp) (hr : Room k X.A) (hgu : X.A.guards = some []) (hg : Gl X x) (hm : X.mg x = some (.ref f)) (hk : PySem.W.keepIn X.K (.ref f) = true) (hb : KBinds X.K fd ps ks g gV) (hx : Passes CX X E)
    (hkw : PK X kws tk) (hall : (backToKw pos (keywordEach kws X.env)).all (·.1.isSome) = true := by rfl) (hks : (backToKw pos (keywordEach kws X.env)).filterMap (·.1) = ks := by rfl)
    (hdb : (x == ("__debug__" : Str)) = false := by decide) (hpl : ((backTo pos (starEach [] X.env)).any (·.1) || (backToKw pos (keywordEach kws X.env)).any (·.1.isNone)) = false := by rfl) :
    PE X (.Call (.Name x p) [] kws pos) (tCallK0 sp gV E tk) := by
  constructor
  intro pins s σ H Q I h
  apply wpAny_Call_Name_kw (ld_glob I hg hm _ hdb)
  apply PySem.W.callWith_KW0 (h₀ := X.base) I.ok.mod.kin hk hall _ hpl
  refine thn (hkw.run pos pins s σ H _ I h) fun ws s2 ⟨zs, H2, I2, rz, q2⟩ => ⟨I2.kIn, ?_⟩
  rw [hks, List.append_nil]
  exact run_fnG (bs := g [] ws) F hr hgu (fun hl => hb.to s2 [] ws I2.kIn hl) hx I2 (hb.rel .nil rz) q2
end

/-! ### the law's end, nothing being shown around -/
/-- what a law row wants of its call, begun at a state -/
abbrev TrueEnd (s0 : Shared) : Result → Shared → Prop := fun r s' => r = .ok (.ret (.bool true)) ∧ OldK s0.heap s'.heap ∧ s'.os = s0.os ∧ AllBare s'.gens
/-- a list as an object that has these items -/
abbrev ListOb (vs : List Value) : Obj := { cls := .type "list", data := .seq vs.toArray }
theorem law_callG {P : Program} {w : World} {K : PySem.W.Frag} {mg mb : Str → Option Value} {CX : CXT} {k : Nat} {fa a : Addr} {fd : FuncData} {x : Str} {sp : Sp} {s₁ : Shared} {vs : List Value} {ns : List Int}
    (KX : K.In s₁.heap) (hns : s₁.heap.Ns mainGlobals mg) (hb : s₁.heap.Ns builtinsNs mb)
    (hbb : ∀ y : Str, y ≠ "__name__" → mb y = bootBuiltins y) (hlim : s₁.heap.NoLimit) (hg : s₁.gens = #[])
    (ha : s₁.heap.get? a = some (ListOb vs)) (hi : IntsAre vs ns)
    (hl : ns.length ≤ sizeLine) (hr : Room k callerA)
    (F : ∀ base : Heap, K.In base → base.Ns mainGlobals mg → FnG P w K mg base CX k fa fd [x] sp) (hbind : ∀ (s : Shared) (u : Value), BindsTo s fd ⟨[u], []⟩ [(x, u)])
    (hsp : ∀ H0 : Hp, Only H0 → SqL K H0 a (ns.map V.int) → sp [.ref a] H0 (fun v _ => v = .bl true) (fun _ _ _ => False))
    (hCX : ∀ H0 e s', ¬ CX [] H0 s₁ (fun _ _ _ => False) e s') :
    codeAny (model P w) callerA (.call (.ref fa) ⟨[.ref a], []⟩) (TrueEnd s₁) s₁ := by
  have rv := vals_ints hi
  have hlen : vs.toArray.size = ns.length := by
    rw [List.size_toArray]
    exact hi.length
  have main : ∀ H : Hp, Only H → SqL K H a (ns.map V.int) → HOk P w H s₁.heap → (∀ b, H b ≠ none → b = a) → (H a ≠ none → K.lookup a = none) →
      codeAny (model P w) callerA (.call (.ref fa) ⟨[.ref a], []⟩) (TrueEnd s₁) s₁ := by
    intro H hO hS hok hA hK
    have off : ∀ {b : Addr} {o : Obj}, s₁.heap.get? b = some o → b ≠ a → (hidT s₁.heap H).get? b = some o := fun {b o} e nb => hidT_get e (by
      cases q : H b with
      | none => rfl
      | some u => exact absurd (hA b (by rw [q]; intro z; cases z)) nb)
    have dnot : ∀ {b : Addr} {o : Obj} {es : Array DictEntry} {ep : Nat}, s₁.heap.get? b = some o → o.data = .dict es ep → b ≠ a := by
      intro b o es ep e d z
      rw [z, ha] at e
      cases e
      cases d
    have nsK : ∀ {b : Addr} {m : Str → Option Value}, s₁.heap.Ns b m → (hidT s₁.heap H).Ns b m := by
      rintro b m ⟨o, es, ep, e, d, r⟩
      exact ⟨o, es, ep, off e (dnot e d), d, r⟩
    have kB : K.In (hidT s₁.heap H) := by
      intro b o e
      apply hidT_get (KX b o e)
      cases q : H b with
      | none => rfl
      | some u =>
        have z := hA b (by rw [q]; intro z; cases z)
        subst z
        have z2 := hK (by rw [q]; intro z; cases z)
        rw [z2] at e
        cases e
    obtain ⟨mc, l1, l2⟩ := hlim
    have e0 : Env0 P w K mg (hidT s₁.heap H) callerA [] s₁ H :=
      ⟨rfl, ⟨kB, nsK hns, ⟨mb, nsK hb, hbb⟩, ⟨mc, nsK l1, l2⟩⟩, fun b o e => of_hidT e, Nat.le_of_eq (hidT_size _ _), trivial, fun b z => absurd (show b ∈ ([] : List Addr) from z) (by simp), hok, .of_eq hg⟩
    apply codeAny_mono ((F _ kB (nsK hns)).go callerA [] s₁ H ⟨[.ref a], []⟩ [.ref a] [.ref a] _ _ hr rfl e0 (hbind s₁ (.ref a)) (.cons rfl .nil) (hsp H hO hS)) _
    intro r s' h
    match r, h with
    | .error e, h => exact (hCX H e s' h).elim
    | .ok .next, h => exact False.elim h
    | .ok .brk, h => exact False.elim h
    | .ok .cont, h => exact False.elim h
    | .ok (.ret u), h =>
      obtain ⟨v, H2, os, bare, un, hok', r', q⟩ := h
      have q : v = .bl true := q
      subst q
      have r2 : u = Value.bool true := r'
      subst r2
      refine ⟨rfl, OldK.of_keep ?_, os, bare⟩
      intro b o e
      rcases hO b with z | ⟨ob, ys, z⟩
      · exact un.keep b o e z (fun y => absurd (show b ∈ ([] : List Addr) from y) (by simp)) (by simp)
      · have e1 := (hok b _ z).1
        have e2 := (hok' b _ (un.frzs b ob _ z)).1
        rw [e] at e1
        cases e1
        exact e2
  cases hk : K.lookup a with
  | some o =>
    have e := KX a o hk
    rw [ha] at e
    cases e
    exact main (fun _ => none) (fun _ => .inl rfl) (.inr ⟨_, vs.toArray, _, hk, rfl, rfl, rfl, by rw [hlen]; exact hl, by simpa using rv⟩) (fun b u z => absurd (show (none : Option HO) = some u from z) (by simp)) (fun b z => absurd rfl z) (fun z => absurd rfl z)
  | none =>
    refine main (fun b => if b = a then some (.frz (ListOb vs) (.lst (ns.map V.int))) else none) (fun b => ?_) (.inl (.inr ⟨(ListOb vs), if_pos rfl⟩)) (fun b u z => ?_) (fun b z => ?_) (fun _ => hk)
    · by_cases hb : b = a
      · exact .inr ⟨_, _, if_pos hb⟩
      · exact .inl (if_neg hb)
    · by_cases hb : b = a
      · subst hb
        have z' := (if_pos rfl).symm.trans z
        cases z'
        exact ⟨ha, by rw [List.length_map]; exact hl, vs, _, rv, ha⟩
      · have z' := (if_neg hb).symm.trans z
        cases z'
    · by_cases hb : b = a
      · exact hb
      · exact absurd (if_neg hb) z
open PySem.W in
theorem walk_ofG {l : PySem.W.OpenLaw} {n k : Nat} {q : Program} {loose : List Str} {XP : (Str → Option Value) → Heap → Prop} {YP : World → Heap → Prop} {d : DefRec} {K : Params → PySem.W.Frag} {CX : CXT} {sp : PySem.W.Frag → Sp} {x : Str}
    (hn : l.most = some n) (hn2 : n ≤ sizeLine)
    (hdf : d.params.defaults = []) (hr : Room k callerA)
    (hY : ∀ (w0 : World) (h0 : Heap), YP w0 h0 → (K w0.params).In h0)
    (F : ∀ (w : World) (mg : Str → Option Value) (fa : Addr) (h0 : Heap), (K w.params).In h0 → h0.Ns mainGlobals mg → mg d.name = some (.ref fa) →
      ∃ fd : FuncData, (∀ (s : Shared) (u : Value), BindsTo s fd ⟨[u], []⟩ [(x, u)]) ∧ ∀ base : Heap, (K w.params).In base → base.Ns mainGlobals mg → FnG l.prog w (K w.params) mg base CX k fa fd [x] (sp (K w.params)))
    (hsp : ∀ (K0 : PySem.W.Frag) (H0 : Hp) (a : Addr) (ns : List Int), ns.length ≤ n → Only H0 → SqL K0 H0 a (ns.map V.int) → sp K0 [.ref a] H0 (fun v _ => v = .bl true) (fun _ _ _ => False))
    (hCX : ∀ (H0 : Hp) (s0 : Shared) (e : Value) (s' : Shared), ¬ CX [] H0 s0 (fun _ _ _ => False) e s') :
    WalkO q loose XP YP l.row.toRowW d [] (fun f vs => call f vs) := by
  apply Att.attach_callB hn hdf
  intro w s₀ s₁ mg mb fa o pm cd doc a vs ns G Y ho hd hcd hmg hobj hints hlen hbits hg
  have KX := hY w _ Y
  rcases F w mg fa _ KX G.T.g hmg with ⟨fd, hb, hF⟩
  exact law_callG KX G.T.g G.T.b G.T.builtins G.T.nolimit hg hobj hints (Nat.le_trans hlen hn2) hr hF hb (fun H hO hS => hsp (K w.params) H a ns hlen hO hS) (fun H e s' => hCX H s₁ e s')
end Yb
namespace Yb
open PySem PySem.Spec PyProof.Rows L2
/-! ### texts as lists of signs -/
def tx (l : List Nat) : Str := ⟨l.toArray⟩
theorem tx_cps (l : List Nat) : (tx l).cps.toList = l := rfl
theorem tx_len (l : List Nat) : (tx l).length = l.length := by simp [tx, Str.length]
theorem tx_app (a b : List Nat) : tx a ++ tx b = tx (a ++ b) := by
  show (⟨a.toArray ++ b.toArray⟩ : Str) = ⟨(a ++ b).toArray⟩
  simp
theorem tx_inj {a b : List Nat} : tx a = tx b ↔ a = b := by
  constructor
  · intro h
    have := congrArg (fun z : Str => z.cps.toList) h
    simpa [tx] using this
  · rintro rfl; rfl
theorem tx_of (z : Str) : z = tx z.cps.toList := by
  cases z
  simp [tx]
def rLeS : R2 := fun x y H Q => ∃ i j, x = .str i ∧ y = .str j ∧ Q (.bl (!decide (j.cps.toList < i.cps.toList))) H
theorem op_leS {X : Cx} : OpR X (compareOp .LtE) rLeS := op_le_str
theorem lex1 (a b : Nat) : (!decide ([a] < [b])) = decide (b ≤ a) := by
  have : ([a] < [b]) ↔ a < b := by
    constructor
    · intro h
      cases h with
      | rel h => exact h
      | cons h => cases h
    · intro h
      exact .rel h
  by_cases h : a < b
  · rw [decide_eq_true (this.mpr h), decide_eq_false (by omega)]; rfl
  · rw [decide_eq_false (fun z => h (this.mp z)), decide_eq_true (by omega)]; rfl
section
variable {σ : L2.St} {H : Hp} {i : Nat}
theorem ans_btw {lo hi : Str} {l h c : Nat} (hlo : lo = tx [l]) (hhi : hi = tx [h]) (hσ : σ[i]? = some (some (.str (tx [c])))) :
    Ans (tTest (tChain rLeS rLeS (tC (.str lo)) (tVar i) (tC (.str hi)))) σ H (decide (l ≤ c ∧ c ≤ h)) := by
  subst hlo hhi
  intro Q q
  refine ⟨_, hσ, _, _, rfl, rfl, _, rfl, ?_⟩
  rw [tx_cps, tx_cps, lex1]
  by_cases h1 : l ≤ c
  · rw [decide_eq_true h1, if_pos rfl]
    refine ⟨_, _, rfl, rfl, _, rfl, ?_⟩
    rw [tx_cps, tx_cps, lex1]
    have e : decide (l ≤ c ∧ c ≤ h) = decide (c ≤ h) := by
      by_cases h2 : c ≤ h <;> simp [h1, h2]
    rw [← e]
    exact q
  · rw [decide_eq_false h1, if_neg (by decide)]
    refine ⟨_, rfl, ?_⟩
    have e : decide (l ≤ c ∧ c ≤ h) = false := by simp [h1]
    rw [← e]
    exact q
end
end Yb
namespace Yb
open PySem PySem.Spec PyProof.Rows L2
/-! ### a heap that grows; one list of one's own in it -/
theorem same_new {H : Hp} {p : Addr} {o : HO} (h : H p = none) : Same H (upd H p o) := by
  intro b x e
  rw [upd_ne (ne_of_none e h)]
  exact e
theorem same_seqT {K : PySem.W.Frag} {H H' : Hp} {a : Addr} {xs : List V} (e : Same H H') (h : SqT K H a xs) : SqT K H' a xs := by
  rcases h with h | h
  · rcases h with h | ⟨o, h⟩
    · exact .inl (.inl (e _ _ h))
    · exact .inl (.inr ⟨o, e _ _ h⟩)
  · exact .inr h
mutual
theorem dp_mono {K : PySem.W.Frag} {H H' : Hp} (e : Same H H') : ∀ (d : PyData) (v : V), Dp K H v d → Dp K H' v d
  | .none, _, h => by cases h; exact .non
  | .bool b, _, h => by cases h; exact .bl b
  | .int i, _, h => by cases h; exact .int i
  | .str x, _, h => by cases h; exact .str x
  | .list ds, _, h => by
    cases h with
    | lst h1 h2 => exact .lst (e.seq h1) (dps_mono e ds _ h2)
  | .tuple ds, _, h => by
    cases h with
    | tup h1 h2 => exact .tup (same_seqT e h1) (dps_mono e ds _ h2)
  | .dict _, _, h => by cases h
theorem dps_mono {K : PySem.W.Frag} {H H' : Hp} (e : Same H H') : ∀ (ds : List PyData) (vs : List V), DpAll K H vs ds → DpAll K H' vs ds
  | [], _, h => by cases h; exact .nil
  | d :: ds, _, h => by
    cases h with
    | cons h1 h2 => exact .cons (dp_mono e d _ h1) (dps_mono e ds _ h2)
end
theorem dps_len {K : PySem.W.Frag} {H : Hp} : ∀ {ds : List PyData} {vs : List V}, DpAll K H vs ds → vs.length = ds.length
  | [], _, h => by cases h; rfl
  | _ :: ds, _, h => by
    cases h with
    | cons h1 h2 => simp only [List.length_cons, dps_len h2]
theorem dps_app {K : PySem.W.Frag} {H : Hp} {v : V} {d : PyData} : ∀ {ds : List PyData} {vs : List V}, DpAll K H vs ds → Dp K H v d → DpAll K H (vs ++ [v]) (ds ++ [d])
  | [], _, h, hv => by cases h; exact .cons hv .nil
  | _ :: ds, _, h, hv => by
    cases h with
    | cons h1 h2 => exact .cons h1 (dps_app h2 hv)
theorem dps_get {K : PySem.W.Frag} {H : Hp} : ∀ {ds : List PyData} {vs : List V} {i : Nat} {d : PyData}, DpAll K H vs ds → ds[i]? = some d → ∃ v, vs[i]? = some v ∧ Dp K H v d
  | [], _, _, _, _, e => by simp at e
  | d0 :: ds, _, i, d, h, e => by
    cases h with
    | cons h1 h2 =>
      cases i with
      | zero =>
        obtain rfl : d0 = d := by simpa using e
        exact ⟨_, rfl, h1⟩
      | succ i =>
        obtain ⟨v, hv, hd⟩ := dps_get (i := i) (d := d) h2 (by simpa using e)
        exact ⟨v, by simpa using hv, hd⟩
/-- G is what will stay; at o, outside of it, stands a list of one's own -/
structure Fr1 (H G H' : Hp) (o : Addr) (xs : List V) : Prop where
  base : Same H G
  ext : Same G H'
  off : G o = none
  here : H' o = some (.lst xs)
theorem Fr1.start {H : Hp} {o : Addr} {xs : List V} (h : H o = none) : Fr1 H H (upd H o (.lst xs)) o xs := ⟨Same.refl H, same_new h, h, upd_same⟩
theorem Fr1.fresh {H G H' : Hp} {o p : Addr} {xs : List V} (f : Fr1 H G H' o xs) (hp : H' p = none) : G p = none := f.ext.free hp
theorem Fr1.new {H G H' : Hp} {o p : Addr} {xs : List V} {u : HO} (f : Fr1 H G H' o xs) (hp : H' p = none) : Fr1 H (upd G p u) (upd H' p u) o xs := by
  have hg := f.fresh hp
  have hop : o ≠ p := ne_of_none f.here hp
  refine ⟨f.base.trans (same_new hg), fun b x e => ?_, by rw [upd_ne hop]; exact f.off, by rw [upd_ne hop]; exact f.here⟩
  by_cases hb : b = p
  · subst hb
    rw [upd_same] at e ⊢
    exact e
  · rw [upd_ne hb] at e ⊢
    exact f.ext b x e
theorem Fr1.put {H G H' : Hp} {o : Addr} {xs ys : List V} (f : Fr1 H G H' o xs) : Fr1 H G (upd H' o (.lst ys)) o ys :=
  ⟨f.base, fun b x e => by
    rw [upd_ne (ne_of_none e f.off)]
    exact f.ext b x e, f.off, upd_same⟩
theorem Fr1.all {H G H' : Hp} {o : Addr} {xs : List V} (f : Fr1 H G H' o xs) : Same H H' := f.base.trans f.ext
/-! ### readings that leave the heap as it is -/
section
variable {σ : L2.St} {H : Hp} {ta tb tc te : TE} {K : PySem.W.Frag}
theorem val_sub {a b : Int} (ha : Val ta σ H (.int a)) (hb : Val tb σ H (.int b)) : Val (tOp (rI0 fun i j => .int (i - j)) ta tb) σ H (.int (a - b)) :=
  val_op ha hb fun Q q => ⟨a, b, rfl, rfl, q⟩
theorem val_cutS {l : List Nat} {a e : Nat} (ht : Val te σ H (.str (tx l))) (ha : Val ta σ H (.int (a : Int))) (hb : Val tb σ H (.int (e : Int))) (hl : l.length ≤ 100000) (h1 : a ≤ e) (h2 : e ≤ l.length) :
    Val (tSl rSlS te (tPart ta) (tPart tb)) σ H (.str (tx ((l.drop a).take (e - a)))) := by
  intro Q q
  refine ht _ ?_
  refine ha _ ⟨_, rfl, ?_⟩
  refine hb _ ⟨_, rfl, ?_⟩
  refine ⟨_, rfl, by rw [tx_len]; exact Nat.le_trans hl (by decide), ?_⟩
  have e1 : cutS (tx l) (some (a : Int)) (some (e : Int)) = tx ((l.drop a).take (e - a)) := by
    unfold cutS
    rw [tx_len, HT.sIx_nat, HT.sIx_nat, Nat.min_eq_left h2, Nat.min_eq_left (show a ≤ l.length by omega)]
    rfl
  rw [e1]
  exact q
theorem tup3 {x y z : V} {Q : VK} (ha : Val ta σ H x) (hb : Val tb σ H y) (hc : Val tc σ H z) (q : ∀ p, H p = none → Q (.ref p) (upd H p (.tup [x, y, z]))) : tTup (tCons ta (tCons tb (tCons tc tNil))) σ H Q := by
  refine ha _ ?_
  refine hb _ ?_
  refine hc _ ?_
  exact ⟨by show 3 ≤ sizeLine; decide, q⟩
end
end Yb
namespace Yb
open PySem PySem.Spec PyProof.Rows L2
/-! ### data, told back from what denotes them -/
section
variable {K : PySem.W.Frag} {H : Hp} {v : V} {vs : List V} {d : PyData} {ds : List PyData}
theorem dp_int {i : Int} (h : Dp K H v (.int i)) : v = .int i := by cases h; rfl
theorem dp_str {x : Str} (h : Dp K H v (.str x)) : v = .str x := by cases h; rfl
theorem dp_bl {b : Bool} (h : Dp K H v (.bool b)) : v = .bl b := by cases h; rfl
theorem dp_non (h : Dp K H v .none) : v = .non := by cases h; rfl
theorem dp_tup (h : Dp K H v (.tuple ds)) : ∃ a xs, v = .ref a ∧ SqT K H a xs ∧ DpAll K H xs ds := by
  cases h with
  | tup h1 h2 => exact ⟨_, _, rfl, h1, h2⟩
theorem dp_lst (h : Dp K H v (.list ds)) : ∃ a xs, v = .ref a ∧ SqL K H a xs ∧ DpAll K H xs ds := by
  cases h with
  | lst h1 h2 => exact ⟨_, _, rfl, h1, h2⟩
theorem dps_cons (h : DpAll K H vs (d :: ds)) : ∃ v r, vs = v :: r ∧ Dp K H v d ∧ DpAll K H r ds := by
  cases h with
  | cons h1 h2 => exact ⟨_, _, rfl, h1, h2⟩
theorem dps_nil (h : DpAll K H vs []) : vs = [] := by cases h; rfl
theorem dps_back {ds : List PyData} {d : PyData} : ∀ {vs : List V}, DpAll K H vs (ds ++ [d]) → ∃ ws w, vs = ws ++ [w] ∧ DpAll K H ws ds ∧ Dp K H w d := by
  induction ds with
  | nil =>
    intro vs h
    obtain ⟨v, r, rfl, h1, h2⟩ := dps_cons h
    obtain rfl := dps_nil h2
    exact ⟨[], v, rfl, .nil, h1⟩
  | cons e es ih =>
    intro vs h
    obtain ⟨v, r, rfl, h1, h2⟩ := dps_cons h
    obtain ⟨ws, w, rfl, h3, h4⟩ := ih h2
    exact ⟨v :: ws, w, rfl, .cons h1 h3, h4⟩
theorem dps_append {as bs : List PyData} : ∀ {vs ws : List V}, DpAll K H vs as → DpAll K H ws bs → DpAll K H (vs ++ ws) (as ++ bs) := by
  induction as with
  | nil =>
    intro vs ws h1 h2
    obtain rfl := dps_nil h1
    exact h2
  | cons a as ih =>
    intro vs ws h1 h2
    obtain ⟨v, r, rfl, h3, h4⟩ := dps_cons h1
    exact .cons h3 (ih h4 h2)
theorem dps_strs : ∀ (ss : List Str), DpAll K H (ss.map V.str) (ss.map PyData.str)
  | [] => .nil
  | s :: ss => .cons (.str s) (dps_strs ss)
theorem dps_strs_inv : ∀ {ss : List Str} {vs : List V}, DpAll K H vs (ss.map PyData.str) → vs = ss.map V.str
  | [], _, h => dps_nil h
  | s :: ss, _, h => by
    obtain ⟨v, r, rfl, h1, h2⟩ := dps_cons h
    rw [dp_str h1, dps_strs_inv h2]
    rfl
theorem dps_ints_inv : ∀ {ns : List Int} {vs : List V}, DpAll K H vs (ns.map PyData.int) → vs = ns.map V.int
  | [], _, h => dps_nil h
  | n :: ns, _, h => by
    obtain ⟨v, r, rfl, h1, h2⟩ := dps_cons h
    rw [dp_int h1, dps_ints_inv h2]
    rfl
theorem dps_ints : ∀ (ns : List Int), DpAll K H (ns.map V.int) (ns.map PyData.int)
  | [] => .nil
  | n :: ns => .cons (.int n) (dps_ints ns)
end
/-! ### items -/
section
variable {σ : L2.St} {H : Hp} {ta tb tc te : TE} {K : PySem.W.Frag}
theorem val_neg1 : Val (tUn (rU fun i => .int (-i)) (tC (.int 1))) σ H (.int (-1)) := fun Q q => ⟨1, rfl, q⟩
theorem val_lastL {a : Addr} {xs : List V} {v : V} (ha : Val ta σ H (.ref a)) (hb : Val tb σ H (.int (-1))) (h : SqL K H a (xs ++ [v])) : Val (tOp (rIxL K) ta tb) σ H v := by
  intro Q q
  refine ha _ ?_
  refine hb _ ?_
  exact ⟨a, _, -1, v, rfl, rfl, h, atI_last _ _, q⟩
theorem val_ixL {a : Addr} {xs : List V} {j : Nat} {v : V} (ha : Val ta σ H (.ref a)) (hb : Val tb σ H (.int (j : Int))) (h : SqL K H a xs) (hj : xs[j]? = some v) : Val (tOp (rIxL K) ta tb) σ H v := by
  intro Q q
  refine ha _ ?_
  refine hb _ ?_
  exact ⟨a, _, j, v, rfl, rfl, h, atI_nat hj, q⟩
theorem val_ixT {a : Addr} {xs : List V} {j : Nat} {v : V} (ha : Val ta σ H (.ref a)) (hb : Val tb σ H (.int (j : Int))) (h : SqT K H a xs) (hj : xs[j]? = some v) : Val (tOp (rIxT K) ta tb) σ H v := by
  intro Q q
  refine ha _ ?_
  refine hb _ ?_
  exact ⟨a, _, j, v, rfl, rfl, h, atI_nat hj, q⟩
theorem tup2 {x y : V} {Q : VK} (ha : Val ta σ H x) (hb : Val tb σ H y) (q : ∀ p, H p = none → Q (.ref p) (upd H p (.tup [x, y]))) : tTup (tCons ta (tCons tb tNil)) σ H Q := by
  refine ha _ ?_
  refine hb _ ?_
  exact ⟨by show 2 ≤ sizeLine; decide, q⟩
theorem tup4 {td : TE} {x y z w : V} {Q : VK} (ha : Val ta σ H x) (hb : Val tb σ H y) (hc : Val tc σ H z) (hd : Val td σ H w) (q : ∀ p, H p = none → Q (.ref p) (upd H p (.tup [x, y, z, w]))) : tTup (tCons ta (tCons tb (tCons tc (tCons td tNil)))) σ H Q := by
  refine ha _ ?_
  refine hb _ ?_
  refine hc _ ?_
  refine hd _ ?_
  exact ⟨by show 4 ≤ sizeLine; decide, q⟩
/-- t[:k], a written k, less than all -/
theorem slT_front {a : Addr} {xs : List V} {k : Nat} {Q : VK} (ha : Val ta σ H (.ref a)) (h : SqT K H a xs) (hk : k < xs.length) (q : ∀ p, H p = none → Q (.ref p) (upd H p (.tup (xs.take k)))) :
    tSl (rSlT K) ta tNoPart (tPart (tC (.int (k : Int)))) σ H Q := by
  refine ha _ ?_
  refine ⟨_, rfl, ?_⟩
  refine ⟨a, xs, rfl, h, ?_, fun p hp => ?_⟩
  · rw [HT.sIx_nat, Nat.min_eq_left (by omega)]
    omega
  · have e : cutV xs none (some (k : Int)) = xs.take k := by
      unfold cutV
      rw [HT.sIx_nat, HT.sIx_none, Nat.min_eq_left (by omega)]
      rfl
    rw [e]
    exact q p hp
theorem val_addS {a b : List Nat} (ha : Val ta σ H (.str (tx a))) (hb : Val tb σ H (.str (tx b))) (hl : a.length + b.length ≤ 200000) :
    Val (tOp (fun x y H Q => ∃ i j, x = .str i ∧ y = .str j ∧ i.length + j.length ≤ sizeLine ∧ Q (.str (i ++ j)) H) ta tb) σ H (.str (tx (a ++ b))) := by
  intro Q q
  refine ha _ ?_
  refine hb _ ?_
  refine ⟨_, _, rfl, rfl, ?_, ?_⟩
  · rw [tx_len, tx_len]
    exact Nat.le_trans hl (by decide)
  · rw [tx_app]
    exact q
theorem ans_gt0 {n : Nat} (ha : Val ta σ H (.int (n : Int))) : Ans (tTest (tOp (rI0 fun i j => .bl (decide (j < i))) ta (tC (.int 0)))) σ H (decide (0 < n)) := by
  refine (ans_cmp (b := decide ((0 : Int) < (n : Int))) ha val_c fun Q q => ⟨n, 0, rfl, rfl, q⟩).to ?_
  by_cases h : 0 < n
  · rw [decide_eq_true h, decide_eq_true (by omega)]
  · rw [decide_eq_false h, decide_eq_false (by omega)]
end
end Yb
namespace Yb
open PySem PySem.Spec PyProof.Rows L2
section
variable {σ : L2.St} {H : Hp} {ta tb tc te : TE} {K : PySem.W.Frag} {g : TG} {ts : TS} {D : Ends}
/-- for c in a text -/
theorem for_txt {l : List Nat} (hv : Val te σ H (.str (tx l))) (Pv : Nat → L2.St → Hp → Prop) (h0 : Pv 0 σ H)
    (hs : ∀ (i c : Nat) σ' H', l[i]? = some c → Pv i σ' H' → g (.str (tx [c])) σ' H' fun σ2 H2 => ts { D with nx := Pv (i + 1), ct := Pv (i + 1), bk := D.nx } σ2 H2)
    (hd : ∀ σ' H', Pv l.length σ' H' → D.nx σ' H') : tFor (iStr te) g ts D σ H := by
  refine hv _ ?_
  refine ⟨_, rfl, fun i m σ' H' => m = l.length - i ∧ i ≤ l.length ∧ Pv i σ' H', ⟨l.length, rfl, Nat.zero_le _, h0⟩, ?_⟩
  rintro i m σ' H' ⟨rfl, hi, p⟩
  have hsz : (tx l).cps.size = l.length := by simp [tx]
  by_cases hlt : i < l.length
  · refine .inr ⟨by show i < (tx l).cps.size; omega, Pv (i + 1), fun σ2 H2 p2 => ⟨l.length - (i + 1), by omega, rfl, hlt, p2⟩, ?_⟩
    rintro x H2 ⟨rfl, c, hc, rfl⟩
    exact hs i c σ' H2 (by simpa [tx] using hc) p
  · have e : i = l.length := by omega
    subst e
    exact .inl ⟨by show (tx l).cps.size ≤ l.length; omega, hd σ' H' p⟩
/-- for k in range(n) -/
theorem for_rng {ta : TA} {n : Nat} {j : Nat} (hv : ∀ Q : List V → Hp → Prop, Q [.int (n : Int)] H → ta σ H Q) (hn : n ≤ 1000000) (Pv : Nat → L2.St → Hp → Prop) (h0 : Pv 0 σ H)
    (hs : ∀ (i : Nat) σ' H', i < n → Pv i σ' H' → ts { D with nx := Pv (i + 1), ct := Pv (i + 1), bk := D.nx } (σ'.set j (some (.int (i : Int)))) H')
    (hd : ∀ σ' H', Pv n σ' H' → D.nx σ' H') : tFor (iRng1 ta) (gName j) ts D σ H := by
  refine hv _ ?_
  refine ⟨(n : Int), rfl, by omega, by omega, ?_⟩
  refine for_range (lo := 0) (n := (n : Int).toNat) Pv h0 (fun i σ' H' hi p => ?_) (fun σ' H' p => ?_)
  · have e : (0 : Int) + (i : Int) = (i : Int) := Int.zero_add _
    rw [e]
    exact hs i σ' H' (by omega) p
  · rw [Int.toNat_natCast] at p
    exact hd σ' H' p
/-! ### tests, one list of one's own beside -/
def AnsF (t : TT) (σ : L2.St) (b : Bool) (H0 G H' : Hp) (o : Addr) (xs : List V) : Prop := ∀ Q : Bool → Hp → Prop, (∀ G2 H2, Same G G2 → Fr1 H0 G2 H2 o xs → Q b H2) → t σ H' Q
variable {t u : TT} {b : Bool} {H0 G H' : Hp} {o : Addr} {xs : List V}
theorem Ans.toF (h : Ans t σ H' b) (fr : Fr1 H0 G H' o xs) : AnsF t σ b H0 G H' o xs := fun Q q => h Q (q G H' (Same.refl G) fr)
theorem ansF_and (h1 : AnsF t σ true H0 G H' o xs) (h2 : ∀ G2 H2, Same G G2 → Fr1 H0 G2 H2 o xs → AnsF u σ b H0 G2 H2 o xs) : AnsF (tAnd t u) σ b H0 G H' o xs := by
  intro Q q
  refine h1 _ fun G2 H2 s f => ?_
  rw [if_pos rfl]
  exact h2 G2 H2 s f Q fun G3 H3 s3 f3 => q G3 H3 (s.trans s3) f3
theorem ansF_and0 (h1 : AnsF t σ false H0 G H' o xs) : AnsF (tAnd t u) σ false H0 G H' o xs := by
  intro Q q
  refine h1 _ fun G2 H2 s f => ?_
  rw [if_neg (by decide)]
  exact q G2 H2 s f
theorem AnsF.to {b' : Bool} (h : AnsF t σ b H0 G H' o xs) (e : b = b') : AnsF t σ b' H0 G H' o xs := e ▸ h
/-- own list != [] -/
theorem ansF_neNil {ds : List PyData} (fr : Fr1 H0 G H' o xs) (hds : DpAll K G xs ds) (hs : SeqAt.shaped (.list ds) = true) (ha : Val ta σ H' (.ref o)) : AnsF (tTest (tOp (rNeD K) ta (tLst tNil))) σ (!ds.isEmpty) H0 G H' o xs := by
  intro Q q
  refine ha _ ?_
  refine ⟨Nat.zero_le _, fun p hp => ?_⟩
  have f2 := fr.new (u := .lst []) hp
  refine ⟨.list ds, .list [], .lst (SqL.of f2.here) (dps_mono ((same_new (fr.fresh hp)).trans f2.ext) _ _ hds), .lst (SqL.of upd_same) .nil, hs, by decide, _, ?_, q _ _ (same_new (fr.fresh hp)) f2⟩
  cases ds <;> rfl
end
end Yb
namespace Yb
open PySem PySem.Spec PyProof.Rows L2
section
variable {σ : L2.St} {H : Hp} {ta tb tc te tl : TE} {tt : TT} {K : PySem.W.Frag}
/-- a comprehension over a list whose items and tests leave the heap as it is -/
theorem lcL_pure {a : Addr} {xs : List V} {j : Nat} {vs : List Nat} {p : V → Bool} {f : V → V} {Q : VK} (hl : Val tl σ H (.ref a)) (hx : SqL K H a xs) (hz : xs.length ≤ 100000)
    (hw : ∀ x, wipe ((wipe σ vs).set j (some x)) vs = wipe σ vs) (ht : ∀ x ∈ xs, ∀ H', Ans tt ((wipe σ vs).set j (some x)) H' (p x)) (he : ∀ x ∈ xs, p x = true → ∀ H', Val te ((wipe σ vs).set j (some x)) H' (f x))
    (q : ∀ D, H D = none → Q (.ref D) (upd H D (.lst ((xs.filter p).map f)))) : tLc (iList K tl) (gName j) tt te vs σ H Q := by
  refine hl _ ?_
  refine ⟨a, rfl, ⟨xs, hx⟩, fun D nD => ?_⟩
  refine lc_list (K := K) (a := a) (xs := xs) (fun i H2 => H2 = upd H D (.lst (((xs.take i).filter p).map f))) rfl ?_ ?_ ?_
  · rintro i H2 _ rfl
    exact (same_new nD).seq hx
  · rintro i x H2 hi rfl
    have hm : x ∈ xs := List.mem_of_getElem? hi
    refine ⟨hw x, ht x hm _ _ ?_⟩
    cases hp : p x with
    | true =>
      rw [if_pos rfl]
      refine he x hm hp _ _ ?_
      refine ⟨_, upd_same, ?_, ?_⟩
      · rw [List.length_map]
        refine Nat.lt_of_le_of_lt (List.length_filter_le _ _) ?_
        rw [List.length_take]
        exact Nat.lt_of_lt_of_le (show min i xs.length < 100001 by omega) (by decide)
      · rw [upd_upd, List.take_add_one, hi, List.filter_append, List.map_append]
        simp [hp]
    | false =>
      rw [if_neg (by decide), List.take_add_one, hi, List.filter_append, List.map_append]
      simp [hp]
  · rintro H2 rfl
    rw [List.take_of_length_le (Nat.le_refl _)]
    exact q D nD
/-- .. over a list made on the way -/
theorem lcL_pureN {xs : List V} {j : Nat} {vs : List Nat} {p : V → Bool} {f : V → V} {Q : VK} (hl : ∀ R : VK, (∀ c, H c = none → R (.ref c) (upd H c (.lst xs))) → tl σ H R) (hz : xs.length ≤ 100000)
    (hw : ∀ x, wipe ((wipe σ vs).set j (some x)) vs = wipe σ vs) (ht : ∀ x ∈ xs, ∀ H', Ans tt ((wipe σ vs).set j (some x)) H' (p x)) (he : ∀ x ∈ xs, p x = true → ∀ H', Val te ((wipe σ vs).set j (some x)) H' (f x))
    (q : ∀ c D, H c = none → upd H c (.lst xs) D = none → Q (.ref D) (upd (upd H c (.lst xs)) D (.lst ((xs.filter p).map f)))) : tLc (iList K tl) (gName j) tt te vs σ H Q := by
  refine hl _ fun c nc => ?_
  exact lcL_pure (K := K) (tl := fun _ H Q => Q (.ref c) H) (fun Q q => q) (SqL.of upd_same) hz hw ht he fun D nD => q c D nc nD
theorem tPar_go {D : Ends} {i j : Nat} {ta : TA} (h : ta σ H fun vs H1 => ∃ v w, vs = [v, w] ∧ D.nx ((σ.set i (some v)).set j (some w)) H1) : tPar i j ta D σ H := h
theorem tCons_go {tr : TA} {Q : List V → Hp → Prop} (h : ta σ H fun x H1 => tr σ H1 fun xs H2 => Q (x :: xs) H2) : tCons ta tr σ H Q := h
theorem tRet_go {D : Ends} (h : te σ H D.rt) : tRet te D σ H := h
theorem tLst_go {t : TA} {Q : VK} (h : t σ H fun xs H1 => xs.length ≤ sizeLine ∧ ∀ p, H1 p = none → Q (.ref p) (upd H1 p (.lst xs))) : tLst t σ H Q := h
theorem tRevL_go {Q : VK} (h : te σ H fun x H1 => ∃ a xs, x = .ref a ∧ SqL K H1 a xs ∧ ∀ p, H1 p = none → Q (.ref p) (upd H1 p (.lst xs.reverse))) : tRevL K te σ H Q := h
theorem tAsg_go {D : Ends} {g : TG} (h : te σ H fun x H1 => g x σ H1 D.nx) : tAsg te g D σ H := h
theorem tCB_go {r : List V → Hp → VK → Prop} {t : TA} {Q : VK} (h : t σ H fun vs H1 => r vs H1 Q) : tCB r t σ H Q := h
theorem tOp_go {r : R2} {Q : VK} (h : ta σ H fun x H1 => tb σ H1 fun y H2 => r x y H2 Q) : tOp r ta tb σ H Q := h
theorem ans_yes : Ans tYes σ H true := fun _ q => q
theorem val_mulc {a b : Int} (ha : Val ta σ H (.int a)) (hb : Val tb σ H (.int b)) (h : CMul a b) : Val (tOp (rI CMul fun i j => .int (i * j)) ta tb) σ H (.int (a * b)) :=
  val_op ha hb fun Q q => ⟨a, b, rfl, rfl, h, q⟩
theorem val_mod {a b : Int} (ha : Val ta σ H (.int a)) (hb : Val tb σ H (.int b)) (h : 0 < b) : Val (tOp (rI (fun _ j => 0 < j) fun i j => .int (i % j)) ta tb) σ H (.int (a % b)) :=
  val_op ha hb fun Q q => ⟨a, b, rfl, rfl, h, q⟩
theorem val_div {a b : Int} (ha : Val ta σ H (.int a)) (hb : Val tb σ H (.int b)) (h : CDiv a b) : Val (tOp (rI CDiv fun i j => .int (i / j)) ta tb) σ H (.int (a / b)) :=
  val_op ha hb fun Q q => ⟨a, b, rfl, rfl, h, q⟩
theorem val_pow {a b : Int} (ha : Val ta σ H (.int a)) (hb : Val tb σ H (.int b)) (h : CPow a b) : Val (tOp (rI CPow fun i j => .int (i ^ j.toNat)) ta tb) σ H (.int (a ^ b.toNat)) :=
  val_op ha hb fun Q q => ⟨a, b, rfl, rfl, h, q⟩
theorem val_abs {a : Int} (ha : Val ta σ H (.int a)) : Val (tCB (fun xs H Q => ∃ i, xs = [.int i] ∧ Q (.int (if i < 0 then -i else i)) H) (tCons ta tNil)) σ H (.int (if a < 0 then -a else a)) := by
  intro Q q
  refine ha _ ?_
  exact ⟨a, rfl, q⟩
theorem val_int {a : Int} (ha : Val ta σ H (.int a)) : Val (tCB (fun xs H Q => (∃ i, xs = [.int i] ∧ Q (.int i) H) ∨ ∃ k, xs = [.bl k] ∧ Q (.int (if k then 1 else 0)) H) (tCons ta tNil)) σ H (.int a) := by
  intro Q q
  refine ha _ ?_
  exact .inl ⟨a, rfl, q⟩
theorem val_intB {b : Bool} (ha : Val ta σ H (.bl b)) : Val (tCB (fun xs H Q => (∃ i, xs = [.int i] ∧ Q (.int i) H) ∨ ∃ k, xs = [.bl k] ∧ Q (.int (if k then 1 else 0)) H) (tCons ta tNil)) σ H (.int (if b then 1 else 0)) := by
  intro Q q
  refine ha _ ?_
  exact .inr ⟨b, rfl, q⟩
theorem val_ltB {a b : Int} (ha : Val ta σ H (.int a)) (hb : Val tb σ H (.int b)) : Val (tOp (rI0 fun i j => .bl (decide (i < j))) ta tb) σ H (.bl (decide (a < b))) :=
  val_op ha hb fun Q q => ⟨a, b, rfl, rfl, q⟩
theorem ans_geI {a b : Int} (ha : Val ta σ H (.int a)) (hb : Val tb σ H (.int b)) : Ans (tTest (tOp (rI0 fun i j => .bl (decide (j ≤ i))) ta tb)) σ H (decide (b ≤ a)) :=
  ans_cmp ha hb fun Q q => ⟨a, b, rfl, rfl, q⟩
theorem val_add' {a b : Int} (ha : Val ta σ H (.int a)) (hb : Val tb σ H (.int b)) : Val (tOp (rI0 fun i j => .int (i + j)) ta tb) σ H (.int (a + b)) :=
  val_op ha hb fun Q q => ⟨a, b, rfl, rfl, q⟩
end
/-! ### the heap that laws draw from: b a list of numbers, a the pair of it and a number -/
structure LHx (G H : Hp) (a b : Addr) (cs : List Int) (n : Int) : Prop where
  ext : Same G H
  offa : G a = none
  offb : G b = none
  ne : a ≠ b
  ha : H a = some (.lst [.ref b, .int n])
  hb : H b = some (.lst (cs.map V.int))
  few : cs.length ≤ 60
  nn : ∀ c ∈ cs, 0 ≤ c
  n0 : 0 ≤ n
def LH (G H : Hp) (a b : Addr) : Prop := ∃ cs n, LHx G H a b cs n
theorem LHx.new {G H : Hp} {a b p : Addr} {u : HO} {cs : List Int} {n : Int} (h : LHx G H a b cs n) (hp : H p = none) : LHx (upd G p u) (upd H p u) a b cs n := by
  have na : a ≠ p := ne_of_none h.ha hp
  have nb : b ≠ p := ne_of_none h.hb hp
  refine ⟨fun x o hx => ?_, by rw [upd_ne na]; exact h.offa, by rw [upd_ne nb]; exact h.offb, h.ne, by rw [upd_ne na]; exact h.ha, by rw [upd_ne nb]; exact h.hb, h.few, h.nn, h.n0⟩
  by_cases hxp : x = p
  · subst hxp
    rw [upd_same] at hx ⊢
    exact hx
  · rw [upd_ne hxp] at hx ⊢
    exact h.ext x o hx
/-- what is made meanwhile need not be kept -/
theorem LHx.grow {G H : Hp} {a b p : Addr} {u : HO} {cs : List Int} {n : Int} (h : LHx G H a b cs n) (hp : H p = none) : LHx G (upd H p u) a b cs n := by
  have na : a ≠ p := ne_of_none h.ha hp
  have nb : b ≠ p := ne_of_none h.hb hp
  exact ⟨h.ext.trans (same_new hp), h.offa, h.offb, h.ne, by rw [upd_ne na]; exact h.ha, by rw [upd_ne nb]; exact h.hb, h.few, h.nn, h.n0⟩
theorem LHx.cells {G H : Hp} {a b : Addr} {cs ds : List Int} {n : Int} (h : LHx G H a b cs n) (hl : ds.length ≤ 60) (hd : ∀ c ∈ ds, 0 ≤ c) : LHx G (upd H b (.lst (ds.map V.int))) a b ds n :=
  ⟨fun x o hx => by
    rw [upd_ne (ne_of_none hx h.offb)]
    exact h.ext x o hx, h.offa, h.offb, h.ne, by rw [upd_ne h.ne]; exact h.ha, upd_same, hl, hd, h.n0⟩
theorem LHx.stir {G H : Hp} {a b : Addr} {cs : List Int} {n m : Int} (h : LHx G H a b cs n) (hm : 0 ≤ m) : LHx G (upd H a (.lst [.ref b, .int m])) a b cs m :=
  ⟨fun x o hx => by
    rw [upd_ne (ne_of_none hx h.offa)]
    exact h.ext x o hx, h.offa, h.offb, h.ne, upd_same, by rw [upd_ne h.ne.symm]; exact h.hb, h.few, h.nn, hm⟩
theorem LH.new {G H : Hp} {a b p : Addr} {u : HO} (h : LH G H a b) (hp : H p = none) : LH (upd G p u) (upd H p u) a b := by
  obtain ⟨cs, n, h⟩ := h
  exact ⟨cs, n, h.new hp⟩
theorem LH.grow {G H : Hp} {a b p : Addr} {u : HO} (h : LH G H a b) (hp : H p = none) : LH G (upd H p u) a b := by
  obtain ⟨cs, n, h⟩ := h
  exact ⟨cs, n, h.grow hp⟩
theorem LH.sub {G G2 H : Hp} {a b : Addr} (h : LH G H a b) (e : Same G2 G) : LH G2 H a b := by
  obtain ⟨cs, n, h⟩ := h
  exact ⟨cs, n, e.trans h.ext, e.free h.offa, e.free h.offb, h.ne, h.ha, h.hb, h.few, h.nn, h.n0⟩
theorem LH.ext {G H : Hp} {a b : Addr} (h : LH G H a b) : Same G H := by
  obtain ⟨cs, n, h⟩ := h
  exact h.ext
theorem LH.fresh {G H : Hp} {a b p : Addr} (h : LH G H a b) (hp : H p = none) : G p = none := h.ext.free hp
section
variable {σ : L2.St} {G H : Hp} {K : PySem.W.Frag} {a b : Addr} {cs : List Int} {n : Int} {i : Nat}
theorem lh_list (h : LHx G H a b cs n) (hσ : σ[i]? = some (some (.ref a))) : Val (tOp (rIxL K) (tVar i) (tC (.int 0))) σ H (.ref b) :=
  val_ixL (j := 0) (val_var hσ) val_c (SqL.of h.ha) rfl
theorem lh_num (h : LHx G H a b cs n) (hσ : σ[i]? = some (some (.ref a))) : Val (tOp (rIxL K) (tVar i) (tC (.int 1))) σ H (.int n) :=
  val_ixL (j := 1) (val_var hσ) val_c (SqL.of h.ha) rfl
theorem shaped_ints : ∀ (cs : List Int), PyData.canLayAll0 (cs.map PyData.int) = true ∧ PyData.depthAll (cs.map PyData.int) = 0
  | [] => ⟨rfl, rfl⟩
  | c :: cs => by
    obtain ⟨h1, h2⟩ := shaped_ints cs
    constructor
    · simp [PyData.canLayAll0, PyData.canLay0, h1]
    · simp [PyData.depthAll, PyData.depth, h2]
theorem lh_some (h : LHx G H a b cs n) (hσ : σ[i]? = some (some (.ref a))) {Q : Bool → Hp → Prop} (q : ∀ p, H p = none → Q (!cs.isEmpty) (upd H p (.lst []))) :
    tTest (tOp (rNeD K) (tOp (rIxL K) (tVar i) (tC (.int 0))) (tLst tNil)) σ H Q := by
  refine lh_list h hσ _ ?_
  refine ⟨Nat.zero_le _, fun p hp => ?_⟩
  have h2 := h.grow (u := .lst []) hp
  obtain ⟨s1, s2⟩ := shaped_ints cs
  refine ⟨.list (cs.map PyData.int), .list [], .lst (SqL.of h2.hb) (dps_ints cs), .lst (SqL.of upd_same) .nil, ?_, by decide, _, ?_, q p hp⟩
  · show (PyData.canLay0 (.list (cs.map PyData.int)) && decide (PyData.depth (.list (cs.map PyData.int)) ≤ 64)) = true
    simp only [PyData.canLay0, PyData.depth, s1, s2, Bool.true_and]
    decide
  · cases cs <;> rfl
end
theorem LH.put {G H : Hp} {a b D : Addr} {xs ys : List V} (h : LH (upd G D (.lst xs)) H a b) : LH (upd G D (.lst ys)) (upd H D (.lst ys)) a b := by
  obtain ⟨cs, n, h⟩ := h
  have na : a ≠ D := by
    intro e
    have := h.offa
    rw [e, upd_same] at this
    cases this
  have nb : b ≠ D := by
    intro e
    have := h.offb
    rw [e, upd_same] at this
    cases this
  refine ⟨cs, n, fun x o hx => ?_, ?_, ?_, h.ne, ?_, ?_, h.few, h.nn, h.n0⟩
  · by_cases hd : x = D
    · subst hd
      rw [upd_same] at hx ⊢
      exact hx
    · rw [upd_ne hd] at hx ⊢
      exact h.ext x o (by rw [upd_ne hd]; exact hx)
  · have := h.offa
    rw [upd_ne na] at this ⊢
    exact this
  · have := h.offb
    rw [upd_ne nb] at this ⊢
    exact this
  · rw [upd_ne na]
    exact h.ha
  · rw [upd_ne nb]
    exact h.hb
theorem LH.at {G H : Hp} {a b D : Addr} {o : HO} (h : LH (upd G D o) H a b) : H D = some o := h.ext D o upd_same
/-! ### texts joined, texts said often -/
def mulS (l : List Nat) (n : Nat) : List Nat := (List.replicate n l).flatten
theorem foldl_cat : ∀ (ls : List (Array Nat)) (acc : Array Nat), (ls.foldl (· ++ ·) acc).toList = acc.toList ++ (ls.map Array.toList).flatten
  | [], acc => by simp
  | x :: r, acc => by
    rw [List.foldl_cons, foldl_cat r]
    simp
theorem txt_mul (l : List Nat) (n : Nat) : Txt.mul (tx l) (n : Int) = tx (mulS l n) := by
  unfold Txt.mul mulS
  by_cases h0 : (n : Int) < 1
  · rw [if_pos h0]
    have : n = 0 := by omega
    subst this
    rfl
  · rw [if_neg h0]
    by_cases h1 : ((n : Int) == 1 || (tx l).length == 0) = true
    · rw [if_pos h1]
      rw [Bool.or_eq_true] at h1
      rcases h1 with h1 | h1
      · have e1 : (n : Int) = 1 := eq_of_beq h1
        have e2 : n = 1 := by omega
        subst e2
        simp
      · have e1 : (tx l).length = 0 := eq_of_beq h1
        rw [tx_len] at e1
        have e2 := List.length_eq_zero_iff.mp e1
        subst e2
        have e3 : (List.replicate n ([] : List Nat)).flatten = [] := by simp
        rw [e3]
    · rw [if_neg h1, Int.toNat_natCast]
      have e : (List.replicate n (tx l).cps).foldl (· ++ ·) #[] = ((List.replicate n l).flatten).toArray := by
        apply Array.toList_inj.mp
        rw [foldl_cat]
        simp [tx]
      rw [e]
      rfl
def rMulS : R2 := fun x y H Q => ∃ (l : List Nat) (n : Nat), x = .str (tx l) ∧ y = .int (n : Int) ∧ n ≤ 1000 ∧ l.length ≤ 1000 ∧ Q (.str (tx (mulS l n))) H
theorem op_mulS {X : Cx} : OpR X (binaryOp .Mult) rMulS := by
  intro pins s σ H x y v u Q I rx ry h
  obtain ⟨l, n, rfl, rfl, hn, hl, q⟩ := h
  obtain ⟨t, rfl⟩ := rx
  obtain ⟨t', rfl⟩ := ry
  refine PySem.SB.mul ⟨?_, fun h1 _ => ?_, fun h1 _ => ?_⟩ fun t2 k => ⟨.str (Txt.mul (tx l) (n : Int)), H, I.tok _, ⟨_, rfl⟩, ?_⟩
  · have e1 : decide ((n : Int) < -(2 ^ 63 : Int)) = false := decide_eq_false (by omega)
    have e2 : decide ((n : Int) ≥ 2 ^ 63) = false := decide_eq_false (by omega)
    rw [e1, e2]
    rfl
  · rw [tx_len]
    intro z
    have h2 : (1000 : Int) ≤ (2 ^ 63 - 1) / (n : Int) := by
      rw [Int.le_ediv_iff_mul_le (by omega)]
      omega
    omega
  · rw [tx_len, Int.toNat_natCast]
    have h3 : l.length * n ≤ 1000 * 1000 := Nat.mul_le_mul hl hn
    unfold Builtin.Str.tooLong
    apply decide_eq_false
    have : (1000000 : Nat) ≤ sizeLine := by decide
    omega
  · rw [txt_mul]
    exact q
end Yb
namespace Yb
open PySem PySem.Spec PyProof.Rows L2
/-! ### what evaluates to which data, the heap growing -/
def Ed (K : PySem.W.Frag) (te : TE) (σ : L2.St) (H : Hp) (d : PyData) : Prop := ∀ H1, Same H H1 → ∀ Q : VK, (∀ v H2, Same H1 H2 → Dp K H2 v d → Q v H2) → te σ H1 Q
def Eds (K : PySem.W.Frag) (ta : TA) (σ : L2.St) (H : Hp) (ds : List PyData) : Prop := ∀ H1, Same H H1 → ∀ Q : List V → Hp → Prop, (∀ vs H2, Same H1 H2 → DpAll K H2 vs ds → Q vs H2) → ta σ H1 Q
def Et (tt : TT) (σ : L2.St) (H : Hp) (b : Bool) : Prop := ∀ H1, Same H H1 → ∀ Q : Bool → Hp → Prop, (∀ H2, Same H1 H2 → Q b H2) → tt σ H1 Q
section
variable {K : PySem.W.Frag} {σ : L2.St} {H H' : Hp} {ta tb te : TE} {as : TA} {t u : TT} {d e : PyData} {ds : List PyData} {b c : Bool}
theorem Ed.mono (s : Same H H') (h : Ed K te σ H d) : Ed K te σ H' d := fun H1 s1 Q q => h H1 (s.trans s1) Q q
theorem Et.mono (s : Same H H') (h : Et t σ H b) : Et t σ H' b := fun H1 s1 Q q => h H1 (s.trans s1) Q q
theorem ed_var {i : Nat} {v : V} (hσ : σ[i]? = some (some v)) (hd : Dp K H v d) : Ed K (tVar i) σ H d := fun H1 s Q q => ⟨v, hσ, q v H1 (Same.refl H1) (dp_mono s _ _ hd)⟩
theorem ed_int {i : Int} : Ed K (tC (.int i)) σ H (.int i) := fun H1 _ Q q => q _ H1 (Same.refl H1) (.int i)
theorem ed_str {x : Str} : Ed K (tC (.str x)) σ H (.str x) := fun H1 _ Q q => q _ H1 (Same.refl H1) (.str x)
theorem eds_nil : Eds K tNil σ H [] := fun H1 _ Q q => q _ H1 (Same.refl H1) .nil
theorem eds_cons (h : Ed K ta σ H d) (hr : Eds K as σ H ds) : Eds K (tCons ta as) σ H (d :: ds) := by
  intro H1 s1 Q q
  refine h H1 s1 _ fun v H2 s2 h2 => ?_
  refine hr H2 (s1.trans s2) _ fun vs H3 s3 h3 => ?_
  exact q _ H3 (s2.trans s3) (.cons (dp_mono s3 _ _ h2) h3)
theorem ed_tup (h : Eds K as σ H ds) (hn : ds.length ≤ 1000) : Ed K (tTup as) σ H (.tuple ds) := by
  intro H1 s1 Q q
  refine h H1 s1 _ fun vs H2 s2 h2 => ?_
  refine ⟨?_, fun p hp => ?_⟩
  · rw [dps_len h2]
    exact Nat.le_trans hn (by decide)
  · exact q _ _ (s2.trans (same_new hp)) (.tup (SqT.of upd_same) (dps_mono (same_new hp) _ _ h2))
theorem ed_call {sp : Sp} (h : Eds K as σ H ds) (hsp : ∀ vs H1 (Q : VK), Same H H1 → DpAll K H1 vs ds → (∀ v H2, Same H1 H2 → Dp K H2 v d → Q v H2) → sp (vs ++ []) H1 Q E0) : Ed K (tCall sp [] E0 as) σ H d := by
  intro H1 s1 Q q
  refine h H1 s1 _ fun vs H2 s2 h2 => ?_
  exact hsp vs H2 Q (s1.trans s2) h2 fun v H3 s3 h3 => q v H3 (s2.trans s3) h3
theorem ed_repr (h : Ed K ta σ H d) (hs : d.showable = true) (hd : d.hasDict = false) (hn : d.depth ≤ 60) (hz : d.shown.length ≤ sizeLine) : Ed K (tCB (rRepr K) (tCons ta tNil)) σ H (.str d.shown) := by
  intro H1 s1 Q q
  refine h H1 s1 _ fun v H2 s2 h2 => ?_
  exact ⟨v, d, rfl, h2, hs, hd, hn, hz, q _ _ s2 (.str _)⟩
/-- tuple(a list) -/
theorem ed_tupleOf (h : Ed K ta σ H (.list ds)) :
    Ed K (tCB (fun xs H Q => ∃ p ys, xs = [.ref p] ∧ ((SqL K H p ys ∧ ∀ l, H l = none → Q (.ref l) (upd H l (.tup ys))) ∨ (SqT K H p ys ∧ Q (.ref p) H))) (tCons ta tNil)) σ H (.tuple ds) := by
  intro H1 s1 Q q
  refine h H1 s1 _ fun v H2 s2 h2 => ?_
  obtain ⟨a, xs, rfl, h3, h4⟩ := dp_lst h2
  refine ⟨a, xs, rfl, .inl ⟨h3, fun p hp => ?_⟩⟩
  exact q _ _ (s2.trans (same_new hp)) (.tup (SqT.of upd_same) (dps_mono (same_new hp) _ _ h4))
theorem et_neD (ha : Ed K ta σ H d) (hb : Ed K tb σ H e) (sd : SeqAt.shaped d = true) (se : SeqAt.shaped e = true) : Et (tTest (tOp (rNeD K) ta tb)) σ H (!PyData.eqv d e) := by
  intro H1 s1 Q q
  refine ha H1 s1 _ fun v H2 s2 h2 => ?_
  refine hb H2 (s1.trans s2) _ fun w H3 s3 h3 => ?_
  exact ⟨d, e, dp_mono s3 _ _ h2, h3, sd, se, _, rfl, q H3 (s2.trans s3)⟩
theorem ed_eqD (ha : Ed K ta σ H d) (hb : Ed K tb σ H e) (sd : SeqAt.shaped d = true) (se : SeqAt.shaped e = true) : Ed K (tOp (rEqD K) ta tb) σ H (.bool (PyData.eqv d e)) := by
  intro H1 s1 Q q
  refine ha H1 s1 _ fun v H2 s2 h2 => ?_
  refine hb H2 (s1.trans s2) _ fun w H3 s3 h3 => ?_
  exact ⟨d, e, dp_mono s3 _ _ h2, h3, sd, se, q _ H3 (s2.trans s3) (.bl _)⟩
theorem et_neS {x y : Str} (ha : Ed K ta σ H (.str x)) (hb : Ed K tb σ H (.str y)) : Et (tTest (tOp rNe ta tb)) σ H (!decide (x = y)) := by
  intro H1 s1 Q q
  refine ha H1 s1 _ fun v H2 s2 h2 => ?_
  refine hb H2 (s1.trans s2) _ fun w H3 s3 h3 => ?_
  obtain rfl := dp_str h2
  obtain rfl := dp_str h3
  refine ⟨rfl, _, rfl, ?_⟩
  have e1 : decide (V.str x = V.str y) = decide (x = y) := by
    by_cases h : x = y
    · rw [decide_eq_true h, decide_eq_true (congrArg V.str h)]
    · rw [decide_eq_false h, decide_eq_false (fun z => h (V.str.inj z))]
  rw [e1]
  exact q H3 (s2.trans s3)
theorem et_or0 (h1 : Et t σ H false) (h2 : Et u σ H b) : Et (tOr t u) σ H b := by
  intro H1 s1 Q q
  refine h1 H1 s1 _ fun H2 s2 => ?_
  rw [if_neg (by decide)]
  exact h2 H2 (s1.trans s2) Q fun H3 s3 => q H3 (s2.trans s3)
theorem Et.to (h : Et t σ H b) (e : b = c) : Et t σ H c := e ▸ h
/-! ### statements -/
variable {D : Ends} {ts1 ts2 : TS}
theorem sd_set {i : Nat} (h : Ed K te σ H d) (q : ∀ v H2, Same H H2 → Dp K H2 v d → D.nx (σ.set i (some v)) H2) : tAsg te (gName i) D σ H := h H (Same.refl H) _ fun v H2 s hd => q v H2 s hd
theorem sd_no (h : Et t σ H false) (q : ∀ H2, Same H H2 → ts2 D σ H2) : tIfS t ts1 ts2 D σ H := by
  refine h H (Same.refl H) _ fun H2 s => ?_
  rw [if_neg (by decide)]
  exact q H2 s
theorem sd_ret (h : Ed K te σ H d) (q : ∀ v H2, Same H H2 → Dp K H2 v d → D.rt v H2) : tRet te D σ H := h H (Same.refl H) _ fun v H2 s hd => q v H2 s hd
end
theorem LH.mono {G H H' : Hp} {a b : Addr} (h : LH G H a b) (s : Same H H') : LH G H' a b := by
  obtain ⟨cs, n, h⟩ := h
  exact ⟨cs, n, h.ext.trans s, h.offa, h.offb, h.ne, s _ _ h.ha, s _ _ h.hb, h.few, h.nn, h.n0⟩
theorem lay_strs : ∀ {ls : List (List Nat)}, (∀ l ∈ ls, ∀ c ∈ l, c < 128) → PyData.canLayAll0 (ls.map fun l => PyData.str (tx l)) = true ∧ PyData.depthAll (ls.map fun l => PyData.str (tx l)) = 0
  | [], _ => ⟨rfl, rfl⟩
  | l :: ls, h => by
    obtain ⟨h1, h2⟩ := lay_strs (ls := ls) (fun x hx => h x (List.mem_cons_of_mem _ hx))
    have h3 : PyData.strOk (tx l) = true := by
      unfold PyData.strOk tx
      rw [Array.all_eq_true]
      intro i hi
      have hm : l.toArray[i] ∈ l := by
        have := Array.getElem_mem hi
        simpa using this
      exact decide_eq_true (Nat.lt_trans (h l List.mem_cons_self _ hm) (by decide))
    constructor
    · simp [PyData.canLayAll0, PyData.canLay0, h3, h1]
    · simp [PyData.depthAll, PyData.depth, h2]
theorem shaped_strs {ls : List (List Nat)} (h : ∀ l ∈ ls, ∀ c ∈ l, c < 128) : SeqAt.shaped (.list (ls.map fun l => PyData.str (tx l))) = true := by
  obtain ⟨h1, h2⟩ := lay_strs h
  show (PyData.canLay0 (.list (ls.map fun l => PyData.str (tx l))) && decide (PyData.depth (.list (ls.map fun l => PyData.str (tx l))) ≤ 64)) = true
  simp only [PyData.canLay0, PyData.depth, h1, h2, Bool.true_and]
  decide
end Yb
namespace L5
open PySem PySem.Spec PyProof.Rows L2 Yb
def topS (i : Nat) : Stmt := PySem.Challenge.pw_saidatonce_k05_marks_cut_and_joined.main.body.getD i (.Pass ⟨0, 0, 0, 0⟩)
abbrev sK : Stmt := topS 1
abbrev sE : Stmt := topS 2
abbrev sM : Stmt := topS 3
abbrev sH : Stmt := topS 5
abbrev sD : Stmt := topS 6
abbrev sP : Stmt := topS 7
abbrev sT : Stmt := topS 8
abbrev sW : Stmt := topS 9
abbrev sC : Stmt := topS 10
abbrev sL : Stmt := topS 11
theorem scK : FnScope ["sign"] ["sign"] (defScope sK) := ⟨rfl, rfl, rfl, by decide +kernel, rfl, by decide +kernel, by decide +kernel⟩
theorem scE : FnScope ["text", "at", "kind", "end"] ["text", "at"] (defScope sE) := ⟨rfl, rfl, rfl, by decide +kernel, rfl, by decide +kernel, by decide +kernel⟩
theorem scM : FnScope ["text", "marks", "line", "begin", "at", "end"] ["text"] (defScope sM) := ⟨rfl, rfl, rfl, by decide +kernel, rfl, by decide +kernel, by decide +kernel⟩
theorem scH : FnScope ["script", "cells", "stir", "cell"] ["script"] (defScope sH) := ⟨rfl, rfl, rfl, by decide +kernel, rfl, by decide +kernel, by decide +kernel⟩
theorem scD : FnScope ["heap", "many", "rest"] ["heap", "many"] (defScope sD) := ⟨rfl, rfl, rfl, by decide +kernel, rfl, by decide +kernel, by decide +kernel⟩
theorem scP : FnScope ["heap", "some"] ["heap", "some"] (defScope sP) := ⟨rfl, rfl, rfl, by decide +kernel, rfl, by decide +kernel, by decide +kernel⟩
theorem scT : FnScope ["sign"] ["sign"] (defScope sT) := ⟨rfl, rfl, rfl, by decide +kernel, rfl, by decide +kernel, by decide +kernel⟩
theorem scW : FnScope ["text", "found", "line", "at", "sign", "sort", "mark"] ["text"] (defScope sW) := ⟨rfl, rfl, rfl, by decide +kernel, rfl, by decide +kernel, by decide +kernel⟩
theorem scC : FnScope ["heap", "sort", "some", "turn"] ["heap"] (defScope sC) := ⟨rfl, rfl, rfl, by decide +kernel, rfl, by decide +kernel, by decide +kernel⟩
theorem scL : FnScope ["script", "heap", "turn", "text", "due", "told", "joined", "again", "line", "at", "mark"] ["script"] (defScope sL) := ⟨rfl, rfl, rfl, by decide +kernel, rfl, by decide +kernel, by decide +kernel⟩
end L5
namespace L5
open PySem PySem.Spec PyProof.Rows L2 Yb
/-! ### signs -/
def cls (c : Nat) : Nat := if 97 ≤ c ∧ c ≤ 122 then 1 else if 48 ≤ c ∧ c ≤ 57 then 2 else 0
def kindS (n : Nat) : Str := if n = 1 then "letter" else if n = 2 then "digit" else "single"
theorem cls_lt (c : Nat) : cls c < 3 := by
  unfold cls
  split
  · decide
  · split <;> decide
theorem kind_eq {m n : Nat} (hm : m < 3) (hn : n < 3) : decide (V.str (kindS m) = V.str (kindS n)) = decide (m = n) := by
  match m, hm with
  | 0, _ => match n, hn with
    | 0, _ => decide +kernel
    | 1, _ => decide +kernel
    | 2, _ => decide +kernel
  | 1, _ => match n, hn with
    | 0, _ => decide +kernel
    | 1, _ => decide +kernel
    | 2, _ => decide +kernel
  | 2, _ => match n, hn with
    | 0, _ => decide +kernel
    | 1, _ => decide +kernel
    | 2, _ => decide +kernel
section
variable {P : Program} {w : World} {K : PySem.W.Frag} {mg : Str → Option Value} {base : Heap}
def spK : Sp := fun vs H Q _ => ∃ c : Nat, vs = [.str (tx [c])] ∧ Q (.str (kindS (cls c))) H
theorem okK {f : Addr} {fd : FuncData} (F : Fun K "sign_kind" "sign_kind" sK f fd) : FnOk P w K mg base CX0 1 f fd ["sign"] spK := by
  refine F.ok scK (fun vs H Q E h => ?_) (fun cdv A outer s H vs Q E hr h => ?_)
  · obtain ⟨c, rfl, _⟩ := h
    rfl
  · obtain ⟨c, rfl, q⟩ := h
    refine ⟨_, pss_cons (ps_if (pt_chain op_leS op_leS pe_str (pv 0) pe_str) (pss_one (ps_ret pe_str)) pss_nil)
      (pss_cons (ps_if (pt_chain op_leS op_leS pe_str (pv 0) pe_str) (pss_one (ps_ret pe_str)) pss_nil) (pss_one (ps_ret pe_str))), ?_⟩
    have a1 := ans_btw (σ := start ["sign"] [V.str (tx [c])]) (H := H) (i := 0) (l := 97) (h := 122) (c := c) (lo := "a") (hi := "z") (by decide +kernel) (by decide +kernel) rfl
    have a2 := ans_btw (σ := start ["sign"] [V.str (tx [c])]) (H := H) (i := 0) (l := 48) (h := 57) (c := c) (lo := "0") (hi := "9") (by decide +kernel) (by decide +kernel) rfl
    by_cases h1 : 97 ≤ c ∧ c ≤ 122
    · have e : cls c = 1 := by unfold cls; rw [if_pos h1]
      rw [e] at q
      exact st_seq (st_yes (a1.to (decide_eq_true h1)) q)
    · refine st_seq (st_no (a1.to (decide_eq_false h1)) ?_)
      by_cases h2 : 48 ≤ c ∧ c ≤ 57
      · have e : cls c = 2 := by unfold cls; rw [if_neg h1, if_pos h2]
        rw [e] at q
        exact st_seq (st_yes (a2.to (decide_eq_true h2)) q)
      · have e : cls c = 0 := by unfold cls; rw [if_neg h1, if_neg h2]
        rw [e] at q
        exact st_seq (st_no (a2.to (decide_eq_false h2)) q)
end
end L5
namespace L5
open PySem PySem.Spec PyProof.Rows L2 Yb
section
variable {σ : L2.St} {H : Hp} {ta tb te : TE} {K : PySem.W.Frag}
theorem val_ixS {l : List Nat} {j c : Nat} (ha : Val ta σ H (.str (tx l))) (hb : Val tb σ H (.int (j : Int))) (hl : l.length ≤ 100000) (hj : l[j]? = some c) : Val (tOp rIxS ta tb) σ H (.str (tx [c])) := by
  intro Q q
  refine ha _ ?_
  refine hb _ ?_
  refine ⟨tx l, (j : Int), c, rfl, rfl, ?_, ?_, q⟩
  · rw [tx_len]
    exact Nat.le_trans hl (by decide)
  · rw [tx_cps]
    exact atI_nat hj
theorem val_kind {c : Nat} (h : Val te σ H (.str (tx [c]))) : Val (tCall spK [] E0 (tCons te tNil)) σ H (.str (kindS (cls c))) := by
  intro Q q
  refine h _ ?_
  exact ⟨c, rfl, q⟩
theorem val_lenS {l : List Nat} (h : Val te σ H (.str (tx l))) (hl : l.length ≤ 100000) : Val (tCB (fun xs H Q => ∃ x n, xs = [x] ∧ LenV K x H n ∧ Q (.int n) H) (tCons te tNil)) σ H (.int (l.length : Int)) := by
  intro Q q
  refine h _ ?_
  refine ⟨_, l.length, rfl, ⟨?_, ?_⟩, q⟩
  · rw [tx_len]
    exact Nat.le_trans hl (by decide)
  · rw [tx_len]
theorem val_add {a b : Int} (ha : Val ta σ H (.int a)) (hb : Val tb σ H (.int b)) : Val (tOp (rI0 fun i j => .int (i + j)) ta tb) σ H (.int (a + b)) :=
  val_op ha hb fun Q q => ⟨a, b, rfl, rfl, q⟩
theorem ans_lt {a b : Int} (ha : Val ta σ H (.int a)) (hb : Val tb σ H (.int b)) : Ans (tTest (tOp (rI0 fun i j => .bl (decide (i < j))) ta tb)) σ H (decide (a < b)) :=
  ans_cmp ha hb fun Q q => ⟨a, b, rfl, rfl, q⟩
end
/-! ### where a mark ends -/
def runLen (n : Nat) (l : List Nat) : Nat := (l.takeWhile fun x => decide (cls x = n)).length
theorem runLen_le (n : Nat) (l : List Nat) : runLen n l ≤ l.length := by
  unfold runLen
  induction l with
  | nil => exact Nat.le_refl _
  | cons x r ih =>
    rw [List.takeWhile_cons]
    split
    · simp only [List.length_cons]; omega
    · exact Nat.zero_le _
theorem runLen_yes {n x : Nat} {r : List Nat} (h : cls x = n) : runLen n (x :: r) = 1 + runLen n r := by
  unfold runLen
  rw [List.takeWhile_cons, if_pos (decide_eq_true h), List.length_cons]
  omega
theorem runLen_no {n x : Nat} {r : List Nat} (h : cls x ≠ n) : runLen n (x :: r) = 0 := by
  unfold runLen
  rw [List.takeWhile_cons, if_neg (by simp [h])]
  rfl
def markEnd (c : Nat) (r : List Nat) : Nat := if cls c = 0 then 0 else runLen (cls c) r
section
variable {P : Program} {w : World} {K : PySem.W.Frag} {mg : Str → Option Value} {base : Heap}
def spE : Sp := fun vs H Q _ => ∃ (l r : List Nat) (c a : Nat), vs = [.str (tx l), .int (a : Int)] ∧ l.length ≤ 100000 ∧ l.drop a = c :: r ∧ Q (.int ((a + 1 + markEnd c r : Nat) : Int)) H
theorem drop_get {l r : List Nat} {c a : Nat} (h : l.drop a = c :: r) : l[a]? = some c := by
  have := congrArg (fun z => z[0]?) h
  simpa using this
theorem drop_next {l r : List Nat} {c a : Nat} (h : l.drop a = c :: r) : l.drop (a + 1) = r := by
  rw [← List.drop_drop, h]
  rfl
theorem drop_len {l r : List Nat} {c a : Nat} (h : l.drop a = c :: r) : l.length = a + 1 + r.length := by
  have := congrArg List.length h
  simp only [List.length_drop, List.length_cons] at this
  omega
theorem okE {f fK : Addr} {fd fdK : FuncData} (F : Fun K "mark_end" "mark_end" sE f fd) (GK : FnOk P w K mg base CX0 1 fK fdK ["sign"] spK) (gK : mg "sign_kind" = some (.ref fK)) (kK : PySem.W.keepIn K (.ref fK) = true) (bK : L2.Binds K fdK ["sign"] [])
    (ml : mg "len" = none) : FnOk P w K mg base CX0 2 f fd ["text", "at"] spE := by
  refine F.ok scE (fun vs H Q E h => ?_) (fun cdv A outer s H vs Q E hr h => ?_)
  · obtain ⟨l, r, c, a, rfl, _⟩ := h
    rfl
  · obtain ⟨l, r, c, a, rfl, hl, hd, q⟩ := h
    refine ⟨_, pss_cons (ps_set (i := 2) scE.nd rfl (.inl rfl) (pe_call GK hr (by rfl) gK kK bK .nil pass0 (pa_cons (pe_ix ix_str (pv 0) (pv 1) (fun _ _ => rfl)) pa_nil)))
      (pss_cons (ps_set (i := 3) scE.nd rfl (.inl rfl) (pe_op op_add (pv 1) pe_int))
      (pss_cons (ps_if (pt_cmpR op_ne (pv 2) pe_str (nomark _))
          (pss_one (ps_while PassesOwn.never (pw_and (pt_cmpR op_lt (pv 3) (pe_callB call_len (by rfl) ml PySem.boot_len (pa_cons (pv 0) pa_nil)) (nomark _))
              (pw_and1 (pt_cmpR op_eq (pe_call GK hr (by rfl) gK kK bK .nil pass0 (pa_cons (pe_ix ix_str (pv 0) (pv 3) (fun _ _ => rfl)) pa_nil)) (pv 2) (nomark _)))).pt
            (pss_one (ps_aug (i := 3) scE.nd rfl (.inl rfl) pe_int ip_add)))) pss_nil)
      (pss_one (ps_ret (pv 3))))), ?_⟩
    have hc := drop_get hd
    -- kind = sign_kind(text[at]); end = at + 1
    refine st_seq (st_set (val_kind (val_ixS (val_var rfl) (val_var rfl) hl hc)) ?_)
    refine st_seq (st_set (val_add (val_var rfl) val_c) ?_)
    have h0 : decide (V.str (kindS (cls c)) = V.str ("single" : Str)) = decide (cls c = 0) := kind_eq (cls_lt c) (by decide : 0 < 3)
    by_cases hk : cls c = 0
    · have e : markEnd c r = 0 := by unfold markEnd; rw [if_pos hk]
      rw [e] at q
      refine st_seq (st_no (ans_ne (val_var rfl) val_c rfl (b := false) (by rw [h0, decide_eq_true hk]; rfl)) ?_)
      exact st_ret (val_var rfl) q
    · have e : markEnd c r = runLen (cls c) r := by unfold markEnd; rw [if_neg hk]
      rw [e] at q
      refine st_seq (st_yes (ans_ne (val_var rfl) val_c rfl (b := true) (by rw [h0, decide_eq_false hk]; rfl)) ?_)
      refine ⟨fun m σ' H' => H' = H ∧ ∃ n : Nat, m = l.length - n ∧ n ≤ l.length ∧ σ' = [some (.str (tx l)), some (.int (a : Int)), some (.str (kindS (cls c))), some (.int (n : Int))] ∧ n + runLen (cls c) (l.drop n) = a + 1 + runLen (cls c) r,
        ⟨l.length - (a + 1), rfl, a + 1, rfl, ?_, rfl, by rw [drop_next hd]⟩, ?_⟩
      · have := drop_len hd
        omega
      · rintro m σ' H' ⟨rfl, n, rfl, hn, rfl, hrun⟩
        by_cases hlt : n < l.length
        · have hx : l[n]? = some l[n] := List.getElem?_eq_getElem hlt
          have hdn : l.drop n = l[n] :: l.drop (n + 1) := List.drop_eq_getElem_cons hlt
          have t1 : Ans (tTest (tOp (rI0 fun i j => .bl (decide (i < j))) (tVar 3) (tCB (fun xs H Q => ∃ x n, xs = [x] ∧ LenV K x H n ∧ Q (.int n) H) (tCons (tVar 0) tNil))))
              [some (.str (tx l)), some (.int (a : Int)), some (.str (kindS (cls c))), some (.int (n : Int))] H' true :=
            (ans_lt (val_var rfl) (val_lenS (val_var rfl) hl)).to (decide_eq_true (by omega))
          by_cases hsame : cls l[n] = cls c
          · have t2 : Ans (tTest (tOp rEq (tCall spK [] E0 (tCons (tOp rIxS (tVar 0) (tVar 3)) tNil)) (tVar 2))) [some (.str (tx l)), some (.int (a : Int)), some (.str (kindS (cls c))), some (.int (n : Int))] H' true :=
              ans_eq (val_kind (val_ixS (val_var rfl) (val_var rfl) hl hx)) (val_var rfl) rfl (by rw [kind_eq (cls_lt _) (cls_lt _), decide_eq_true hsame])
            refine ans_and t1 t2 _ ?_
            rw [if_pos rfl]
            refine ⟨fun σ' H'' => H'' = H' ∧ σ' = [some (.str (tx l)), some (.int (a : Int)), some (.str (kindS (cls c))), some (.int ((n + 1 : Nat) : Int))], ?_, ?_⟩
            · rintro σ' H'' ⟨rfl, rfl⟩
              rw [hdn, runLen_yes hsame] at hrun
              exact ⟨l.length - (n + 1), by omega, rfl, n + 1, rfl, by omega, rfl, by omega⟩
            · exact ⟨_, rfl, _, _, rfl, rfl, rfl, rfl⟩
          · have t2 : Ans (tTest (tOp rEq (tCall spK [] E0 (tCons (tOp rIxS (tVar 0) (tVar 3)) tNil)) (tVar 2))) [some (.str (tx l)), some (.int (a : Int)), some (.str (kindS (cls c))), some (.int (n : Int))] H' false :=
              ans_eq (val_kind (val_ixS (val_var rfl) (val_var rfl) hl hx)) (val_var rfl) rfl (by rw [kind_eq (cls_lt _) (cls_lt _), decide_eq_false hsame])
            refine ans_and t1 t2 _ ?_
            rw [if_neg (by decide)]
            rw [hdn, runLen_no hsame] at hrun
            have en : n = a + 1 + runLen (cls c) r := by omega
            rw [← en] at q
            exact st_ret (val_var rfl) q
        · have t1 : Ans (tTest (tOp (rI0 fun i j => .bl (decide (i < j))) (tVar 3) (tCB (fun xs H Q => ∃ x n, xs = [x] ∧ LenV K x H n ∧ Q (.int n) H) (tCons (tVar 0) tNil))))
              [some (.str (tx l)), some (.int (a : Int)), some (.str (kindS (cls c))), some (.int (n : Int))] H' false :=
            (ans_lt (val_var rfl) (val_lenS (val_var rfl) hl)).to (decide_eq_false (by omega))
          refine ans_and0 t1 _ ?_
          rw [if_neg (by decide)]
          have hnil : l.drop n = [] := List.drop_eq_nil_of_le (by omega)
          rw [hnil] at hrun
          have en : n = a + 1 + runLen (cls c) r := by
            have : runLen (cls c) [] = 0 := rfl
            omega
          rw [← en] at q
          exact st_ret (val_var rfl) q
end
end L5
namespace L5
open PySem PySem.Spec PyProof.Rows L2 Yb
/-! ### the marks of a text -/
abbrev Tk := Nat × Nat × List Nat
def toks : List Nat → Nat → Nat → List Tk
  | [], _, _ => []
  | c :: r, line, col =>
    (if c = 32 then [] else [(line, col, c :: r.take (markEnd c r))]) ++
      (if c = 10 then toks (r.drop (markEnd c r)) (line + 1) 0 else toks (r.drop (markEnd c r)) line (col + 1 + markEnd c r))
termination_by l => l.length
decreasing_by
  all_goals (simp only [List.length_drop, List.length_cons]; omega)
theorem toks_nil (a b : Nat) : toks [] a b = [] := by
  rw [toks]
theorem toks_cons (c : Nat) (r : List Nat) (line col : Nat) : toks (c :: r) line col = (if c = 32 then [] else [(line, col, c :: r.take (markEnd c r))]) ++
      (if c = 10 then toks (r.drop (markEnd c r)) (line + 1) 0 else toks (r.drop (markEnd c r)) line (col + 1 + markEnd c r)) := by
  rw [toks]
theorem markEnd_le (c : Nat) (r : List Nat) : markEnd c r ≤ r.length := by
  unfold markEnd
  split
  · exact Nat.zero_le _
  · exact runLen_le _ _
theorem markEnd_nl (r : List Nat) : markEnd 10 r = 0 := by
  unfold markEnd
  rw [if_pos (by decide)]
theorem markEnd_sp (r : List Nat) : markEnd 32 r = 0 := by
  unfold markEnd
  rw [if_pos (by decide)]
def dTk (t : Tk) : PyData := .tuple [.int (t.1 : Int), .int (t.2.1 : Int), .str (tx t.2.2)]
section
variable {P : Program} {w : World} {K : PySem.W.Frag} {mg : Str → Option Value} {base : Heap}
def spM (K : PySem.W.Frag) : Sp := fun vs H Q _ => ∃ l : List Nat, vs = [.str (tx l)] ∧ l.length ≤ 100000 ∧
  ∀ p H', Same H H' → H p = none → Dp K H' (.ref p) (.tuple ((toks l 0 0).map dTk)) → Q (.ref p) H'
theorem val_end {σ : L2.St} {H : Hp} {ta tb : TE} {l r : List Nat} {c a : Nat} (ha : Val ta σ H (.str (tx l))) (hb : Val tb σ H (.int (a : Int))) (hl : l.length ≤ 100000) (hd : l.drop a = c :: r) :
    Val (tCall spE [] E0 (tCons ta (tCons tb tNil))) σ H (.int ((a + 1 + markEnd c r : Nat) : Int)) := by
  intro Q q
  refine ha _ ?_
  refine hb _ ?_
  exact ⟨l, r, c, a, rfl, hl, hd, q⟩
theorem sign_is (c d : Nat) : decide (V.str (tx [c]) = V.str (tx [d])) = decide (c = d) := by
  by_cases h : c = d
  · subst h
    rw [decide_eq_true rfl, decide_eq_true rfl]
  · rw [decide_eq_false h, decide_eq_false]
    intro z
    have z1 := tx_inj.mp (V.str.inj z)
    exact h (by simpa using z1)
theorem okM {f fE : Addr} {fd fdE : FuncData} (F : Fun K "marks_in" "marks_in" sM f fd) (GE : FnOk P w K mg base CX0 2 fE fdE ["text", "at"] spE) (gE : mg "mark_end" = some (.ref fE)) (kE : PySem.W.keepIn K (.ref fE) = true) (bE : L2.Binds K fdE ["text", "at"] [])
    (ml : mg "len" = none) (mt : mg "tuple" = none) : FnOk P w K mg base CX0 3 f fd ["text"] (spM K) := by
  refine F.ok scM (fun vs H Q E h => ?_) (fun cdv A outer s H vs Q E hr h => ?_)
  · obtain ⟨l, rfl, _⟩ := h
    rfl
  · obtain ⟨l, rfl, hl, q⟩ := h
    refine ⟨_, pss_cons (ps_set (i := 1) scM.nd rfl (.inl rfl) (pe_lst pa_nil))
      (pss_cons (ps_set (i := 2) scM.nd rfl (.inl rfl) pe_int) (pss_cons (ps_set (i := 3) scM.nd rfl (.inl rfl) pe_int) (pss_cons (ps_set (i := 4) scM.nd rfl (.inl rfl) pe_int)
      (pss_cons (ps_while PassesOwn.never (pt_cmpR op_lt (pv 4) (pe_callB call_len (by rfl) ml PySem.boot_len (pa_cons (pv 0) pa_nil)) (nomark _))
        (pss_cons (ps_set (i := 5) scM.nd rfl (.inl rfl) (pe_call GE hr (by rfl) gE kE bE .nil pass0 (pa_cons (pv 0) (pa_cons (pv 4) pa_nil))))
        (pss_cons (ps_if (pt_cmpR op_ne (pe_ix ix_str (pv 0) (pv 4) (fun _ _ => rfl)) pe_str (nomark _))
          (pss_one (ps_expr (pe_bm PySem.F.plainAttrs_list PySem.F.slot_list_append PySem.F.type_list_append mt_append (pv 1)
            (pa_cons (pe_tup (pa_cons (pv 2) (pa_cons (pe_op op_sub (pv 4) (pv 3)) (pa_cons (pe_slice sl_str (pv 0) (po_some (pv 4)) (po_some (pv 5))) pa_nil)))) pa_nil)))) pss_nil)
        (pss_cons (ps_if (pt_cmpR op_eq (pe_ix ix_str (pv 0) (pv 4) (fun _ _ => rfl)) pe_str (nomark _))
          (pss_cons (ps_aug (i := 2) scM.nd rfl (.inl rfl) pe_int ip_add) (pss_one (ps_set (i := 3) scM.nd rfl (.inl rfl) (pv 5)))) pss_nil)
        (pss_one (ps_set (i := 4) scM.nd rfl (.inl rfl) (pv 5)))))))
      (pss_one (ps_ret (pe_callTy call_tuple_of (by rfl) mt (by decide +kernel) (pa_cons (pv 1) pa_nil)))))))), ?_⟩
    -- marks = []; line = 0; begin = 0; at = 0
    refine ⟨Nat.zero_le _, fun o no => ?_⟩
    refine st_seq (st_set val_c ?_)
    refine st_seq (st_set val_c ?_)
    refine st_seq (st_set val_c ?_)
    refine ⟨fun m σ' H' => ∃ (n line beg : Nat) (y : Option V) (G : Hp) (xs : List V) (ts : List Tk), m = l.length - n ∧ n ≤ l.length ∧ beg ≤ n ∧
        σ' = [some (.str (tx l)), some (.ref o), some (.int (line : Int)), some (.int (beg : Int)), some (.int (n : Int)), y] ∧
        Fr1 H G H' o xs ∧ DpAll K G xs (ts.map dTk) ∧ ts ++ toks (l.drop n) line (n - beg) = toks l 0 0 ∧ ts.length ≤ n,
      ⟨l.length, 0, 0, 0, none, H, [], [], rfl, Nat.zero_le _, Nat.le_refl _, rfl, Fr1.start no, .nil, by rw [List.drop_zero]; rfl, Nat.zero_le _⟩, ?_⟩
    rintro m σ' H' ⟨n, line, beg, y, G, xs, ts, rfl, hn, hbeg, rfl, fr, hds, htk, hts⟩
    by_cases hlt : n < l.length
    · refine (ans_lt (val_var rfl) (val_lenS (val_var rfl) hl)).to (decide_eq_true (by omega)) _ ?_
      rw [if_pos rfl]
      have hd : l.drop n = l[n] :: l.drop (n + 1) := List.drop_eq_getElem_cons hlt
      have hc : l[n]? = some l[n] := List.getElem?_eq_getElem hlt
      generalize l[n] = c at hd hc
      generalize l.drop (n + 1) = r at hd
      have hlen := drop_len hd
      have hme := markEnd_le c r
      rw [hd, toks_cons] at htk
      refine ⟨fun σ2 H2 => ∃ (line' beg' : Nat) (G2 : Hp) (xs2 : List V) (ts2 : List Tk), beg' ≤ n + 1 + markEnd c r ∧
          σ2 = [some (.str (tx l)), some (.ref o), some (.int (line' : Int)), some (.int (beg' : Int)), some (.int ((n + 1 + markEnd c r : Nat) : Int)), some (.int ((n + 1 + markEnd c r : Nat) : Int))] ∧
          Fr1 H G2 H2 o xs2 ∧ DpAll K G2 xs2 (ts2.map dTk) ∧ ts2 ++ toks (l.drop (n + 1 + markEnd c r)) line' (n + 1 + markEnd c r - beg') = toks l 0 0 ∧ ts2.length ≤ n + 1, ?_, ?_⟩
      · rintro σ2 H2 ⟨line', beg', G2, xs2, ts2, hb2, rfl, fr2, hds2, htk2, hts2⟩
        exact ⟨l.length - (n + 1 + markEnd c r), by omega, n + 1 + markEnd c r, line', beg', _, G2, xs2, ts2, rfl, by omega, hb2, rfl, fr2, hds2, htk2, by omega⟩
      -- end = mark_end(text, at)
      refine st_seq (st_set (val_end (val_var rfl) (val_var rfl) hl hd) ?_)
      have hdrop : l.drop (n + 1 + markEnd c r) = r.drop (markEnd c r) := by
        rw [← List.drop_drop, drop_next hd]
      have hcut : (l.drop n).take (n + 1 + markEnd c r - n) = c :: r.take (markEnd c r) := by
        rw [hd, show n + 1 + markEnd c r - n = markEnd c r + 1 by omega]
        rfl
      -- behind the append
      have tail : ∀ (G2 H2 : Hp) (xs2 : List V) (ts2 : List Tk), Fr1 H G2 H2 o xs2 → DpAll K G2 xs2 (ts2.map dTk) → ts2 = ts ++ (if c = 32 then [] else [(line, n - beg, c :: r.take (markEnd c r))]) →
          (tSeq (tIfS (tTest (tOp rEq (tOp rIxS (tVar 0) (tVar 4)) (tC (.str "\n")))) (tSeq (tAug 2 (tC (.int 1)) (ipI fun i j => i + j)) (tAsg (tVar 5) (gName 3))) tNext) (tAsg (tVar 5) (gName 4)))
          { nx := fun σ2 H2 => ∃ (line' beg' : Nat) (G2 : Hp) (xs2 : List V) (ts2 : List Tk), beg' ≤ n + 1 + markEnd c r ∧
          σ2 = [some (.str (tx l)), some (.ref o), some (.int (line' : Int)), some (.int (beg' : Int)), some (.int ((n + 1 + markEnd c r : Nat) : Int)), some (.int ((n + 1 + markEnd c r : Nat) : Int))] ∧
          Fr1 H G2 H2 o xs2 ∧ DpAll K G2 xs2 (ts2.map dTk) ∧ ts2 ++ toks (l.drop (n + 1 + markEnd c r)) line' (n + 1 + markEnd c r - beg') = toks l 0 0 ∧ ts2.length ≤ n + 1, rt := Q }
          [some (.str (tx l)), some (.ref o), some (.int (line : Int)), some (.int (beg : Int)), some (.int (n : Int)), some (.int ((n + 1 + markEnd c r : Nat) : Int))] H2 := by
        intro G2 H2 xs2 ts2 fr2 hds2 ets
        have hsz : ts2.length ≤ n + 1 := by
          rw [ets, List.length_append]
          split <;> simp only [List.length_nil, List.length_singleton] <;> omega
        have enl : decide (V.str (tx [c]) = V.str ("\n" : Str)) = decide (c = 10) := by
          rw [show ("\n" : Str) = tx [10] by decide +kernel]
          exact sign_is c 10
        rw [← List.append_assoc, ← ets] at htk
        by_cases h10 : c = 10
        · refine st_seq (st_yes (ans_eq (val_ixS (val_var rfl) (val_var rfl) hl hc) val_c rfl (by rw [enl]; exact decide_eq_true h10)) ?_)
          refine ⟨_, rfl, _, _, rfl, rfl, ?_⟩
          refine st_set (val_var rfl) ?_
          refine st_set (val_var rfl) ?_
          rw [if_pos h10] at htk
          refine ⟨line + 1, n + 1 + markEnd c r, G2, xs2, ts2, Nat.le_refl _, rfl, fr2, hds2, ?_, hsz⟩
          rw [hdrop, Nat.sub_self]
          exact htk
        · refine st_seq (st_no (ans_eq (val_ixS (val_var rfl) (val_var rfl) hl hc) val_c rfl (by rw [enl]; exact decide_eq_false h10)) ?_)
          refine st_next ?_
          refine st_set (val_var rfl) ?_
          rw [if_neg h10] at htk
          refine ⟨line, beg, G2, xs2, ts2, by omega, rfl, fr2, hds2, ?_, hsz⟩
          rw [hdrop, show n + 1 + markEnd c r - beg = n - beg + 1 + markEnd c r by omega]
          exact htk
      have esp : decide (V.str (tx [c]) = V.str (" " : Str)) = decide (c = 32) := by
        rw [show (" " : Str) = tx [32] by decide +kernel]
        exact sign_is c 32
      by_cases h32 : c = 32
      · refine st_seq (st_no (ans_ne (val_ixS (val_var rfl) (val_var rfl) hl hc) val_c rfl (b := false) (by rw [esp, decide_eq_true h32]; rfl)) ?_)
        refine st_next ?_
        exact tail G H' xs ts fr hds (by rw [if_pos h32, List.append_nil])
      · refine st_seq (st_yes (ans_ne (val_ixS (val_var rfl) (val_var rfl) hl hc) val_c rfl (b := true) (by rw [esp, decide_eq_false h32]; rfl)) ?_)
        refine ⟨_, rfl, .inl ⟨rfl, _, SqL.of fr.here⟩, ?_⟩
        refine tup3 (val_var rfl) (val_sub (val_var rfl) (val_var rfl)) (val_cutS (val_var rfl) (val_var rfl) (val_var rfl) hl (by omega) (by omega)) ?_
        intro p hp
        have fr2 := fr.new (u := .tup [.int (line : Int), .int ((n : Int) - (beg : Int)), .str (tx ((l.drop n).take (n + 1 + markEnd c r - n)))]) hp
        refine ⟨o, xs, _, rfl, rfl, fr2.here, ?_, ?_⟩
        · rw [dps_len hds, List.length_map]
          exact Nat.lt_of_lt_of_le (show ts.length < 100001 by omega) (by decide)
        · have htp : Dp K (upd G p (.tup [.int (line : Int), .int ((n : Int) - (beg : Int)), .str (tx ((l.drop n).take (n + 1 + markEnd c r - n)))])) (.ref p) (dTk (line, n - beg, c :: r.take (markEnd c r))) := by
            refine .tup (SqT.of upd_same) ?_
            rw [hcut, show ((n : Int) - (beg : Int)) = ((n - beg : Nat) : Int) by omega]
            exact .cons (.int _) (.cons (.int _) (.cons (.str _) .nil))
          have hall := dps_app (dps_mono (same_new (fr.fresh hp)) _ _ hds) htp
          refine tail _ _ _ (ts ++ [(line, n - beg, c :: r.take (markEnd c r))]) fr2.put ?_ (by rw [if_neg h32])
          rw [List.map_append]
          exact hall
    · refine (ans_lt (val_var rfl) (val_lenS (val_var rfl) hl)).to (decide_eq_false (by omega)) _ ?_
      rw [if_neg (by decide)]
      have hnil : l.drop n = [] := List.drop_eq_nil_of_le (by omega)
      rw [hnil, toks_nil, List.append_nil] at htk
      subst htk
      refine ⟨_, rfl, o, xs, rfl, .inl ⟨SqL.of fr.here, fun p hp => ?_⟩⟩
      exact q p _ (fr.all.trans (same_new hp)) (fr.all.free hp) (.tup (SqT.of upd_same) (dps_mono (fr.ext.trans (same_new hp)) _ _ hds))
end
end L5
namespace L5
open PySem PySem.Spec PyProof.Rows L2 Yb
/-! ### the law's own marks -/
abbrev Tw := Nat × Nat × List Nat × Nat
def addF (found : List Tw) (line at_ c : Nat) : List Tw := if c = 32 then found else found ++ [(line, at_, [c], cls c)]
def joins (t : Tw) (line at_ c : Nat) : Prop := t.2.2.2 = cls c ∧ t.1 = line ∧ t.2.1 + t.2.2.1.length = at_
instance (t : Tw) (line at_ c : Nat) : Decidable (joins t line at_ c) := by unfold joins; infer_instance
def stepF (found : List Tw) (line at_ c : Nat) : List Tw :=
  match found.getLast? with
  | some t => if 0 < cls c ∧ joins t line at_ c then found.dropLast ++ [(t.1, t.2.1, t.2.2.1 ++ [c], cls c)] else addF found line at_ c
  | none => addF found line at_ c
abbrev StW := List Tw × Nat × Nat
def stepW (st : StW) (c : Nat) : StW := (stepF st.1 st.2.1 st.2.2 c, if c = 10 then (st.2.1 + 1, 0) else (st.2.1, st.2.2 + 1))
def foldW (l : List Nat) : StW := l.foldl stepW ([], 0, 0)
def wTk (t : Tw) : Tk := (t.1, t.2.1, t.2.2.1)
def marksW (l : List Nat) : List Tk := (foldW l).1.map wTk
def dTw (t : Tw) : PyData := .tuple [.int (t.1 : Int), .int (t.2.1 : Int), .str (tx t.2.2.1), .int (t.2.2.2 : Int)]
/-- what holds of all that is found: few, short, of small signs -/
structure OkW (n : Nat) (st : StW) : Prop where
  len : st.1.length ≤ n
  txt : ∀ t ∈ st.1, t.2.2.1.length ≤ n ∧ ∀ c ∈ t.2.2.1, c < 128
  at_ : st.2.2 ≤ n
theorem okW_step {n c : Nat} {st : StW} (h : OkW n st) (hc : c < 128) : OkW (n + 1) (stepW st c) := by
  obtain ⟨h1, h2, h3⟩ := h
  have add : (addF st.1 st.2.1 st.2.2 c).length ≤ n + 1 ∧ ∀ t ∈ addF st.1 st.2.1 st.2.2 c, t.2.2.1.length ≤ n + 1 ∧ ∀ c ∈ t.2.2.1, c < 128 := by
    unfold addF
    split
    · exact ⟨by omega, fun t ht => ⟨by have := (h2 t ht).1; omega, (h2 t ht).2⟩⟩
    · refine ⟨by rw [List.length_append]; simp only [List.length_singleton]; omega, fun t ht => ?_⟩
      rcases List.mem_append.mp ht with ht | ht
      · exact ⟨by have := (h2 t ht).1; omega, (h2 t ht).2⟩
      · obtain rfl := List.mem_singleton.mp ht
        exact ⟨by simp, fun d hd => by rw [List.mem_singleton.mp hd]; exact hc⟩
  have main : (stepF st.1 st.2.1 st.2.2 c).length ≤ n + 1 ∧ ∀ t ∈ stepF st.1 st.2.1 st.2.2 c, t.2.2.1.length ≤ n + 1 ∧ ∀ c ∈ t.2.2.1, c < 128 := by
    unfold stepF
    split
    · rename_i t0 he
      split
      · have hm : t0 ∈ st.1 := List.mem_of_getLast? he
        refine ⟨?_, fun t ht => ?_⟩
        · rw [List.length_append, List.length_dropLast]
          simp only [List.length_singleton]
          omega
        · rcases List.mem_append.mp ht with ht | ht
          · have := h2 t (List.dropLast_subset _ ht)
            exact ⟨by omega, this.2⟩
          · obtain rfl := List.mem_singleton.mp ht
            refine ⟨?_, fun d hd => ?_⟩
            · have := (h2 t0 hm).1
              simp only [List.length_append, List.length_singleton]
              omega
            · rcases List.mem_append.mp hd with hd | hd
              · exact (h2 t0 hm).2 d hd
              · rw [List.mem_singleton.mp hd]; exact hc
      · exact add
    · exact add
  refine ⟨main.1, main.2, ?_⟩
  show (if c = 10 then (st.2.1 + 1, 0) else (st.2.1, st.2.2 + 1)).2 ≤ n + 1
  split
  · exact Nat.zero_le _
  · show st.2.2 + 1 ≤ n + 1
    omega
theorem okW_fold : ∀ (l : List Nat) (n : Nat) (st : StW), OkW n st → (∀ c ∈ l, c < 128) → OkW (n + l.length) (l.foldl stepW st)
  | [], n, st, h, _ => h
  | c :: r, n, st, h, hc => by
    have := okW_fold r (n + 1) (stepW st c) (okW_step h (hc c List.mem_cons_self)) (fun d hd => hc d (List.mem_cons_of_mem _ hd))
    rw [show n + 1 + r.length = n + (c :: r).length by simp only [List.length_cons]; omega] at this
    exact this
theorem okW_take {l : List Nat} (hc : ∀ c ∈ l, c < 128) (i : Nat) (hi : i ≤ l.length) : OkW i (foldW (l.take i)) := by
  have h := okW_fold (l.take i) 0 ([], 0, 0) ⟨Nat.le_refl _, (fun t ht => by cases ht), Nat.le_refl _⟩ (fun c hm => hc c (List.mem_of_mem_take hm))
  rw [List.length_take, Nat.min_eq_left hi, Nat.zero_add] at h
  exact h
theorem foldW_next {l : List Nat} {i c : Nat} (h : l[i]? = some c) : foldW (l.take (i + 1)) = stepW (foldW (l.take i)) c := by
  unfold foldW
  rw [List.take_add_one, h, List.foldl_append]
  rfl
/-! ### data that may be compared -/
theorem strOk_small {m : List Nat} (h : ∀ c ∈ m, c < 128) : PyData.strOk (tx m) = true := by
  unfold PyData.strOk tx
  rw [Array.all_eq_true]
  intro i hi
  have : m.toArray[i] ∈ m := by
    have := Array.getElem_mem hi
    simpa using this
  exact decide_eq_true (Nat.lt_trans (h _ this) (by decide))
theorem lay_dTw : ∀ {ts : List Tw}, (∀ t ∈ ts, ∀ c ∈ t.2.2.1, c < 128) → PyData.canLayAll0 (ts.map dTw) = true ∧ PyData.depthAll (ts.map dTw) ≤ 1
  | [], _ => ⟨rfl, Nat.zero_le _⟩
  | t :: ts, h => by
    obtain ⟨h1, h2⟩ := lay_dTw (ts := ts) (fun t ht => h t (List.mem_cons_of_mem _ ht))
    have h3 := strOk_small (h t List.mem_cons_self)
    constructor
    · simp [List.map_cons, PyData.canLayAll0, dTw, PyData.canLay0, h3, h1]
    · simp only [List.map_cons, PyData.depthAll, dTw, PyData.depth]
      omega
theorem shaped_dTw {ts : List Tw} (h : ∀ t ∈ ts, ∀ c ∈ t.2.2.1, c < 128) : SeqAt.shaped (.list (ts.map dTw)) = true := by
  obtain ⟨h1, h2⟩ := lay_dTw h
  show (PyData.canLay0 (.list (ts.map dTw)) && decide (PyData.depth (.list (ts.map dTw)) ≤ 64)) = true
  simp only [PyData.canLay0, PyData.depth, h1, Bool.true_and]
  exact decide_eq_true (by omega)
section
variable {P : Program} {w : World} {K : PySem.W.Frag} {mg : Str → Option Value} {base : Heap}
def spT : Sp := fun vs H Q _ => ∃ c : Nat, vs = [.str (tx [c])] ∧ Q (.int (cls c : Nat)) H
theorem okT {f : Addr} {fd : FuncData} (F : Fun K "_law_sort" "_law_sort" sT f fd) : FnOk P w K mg base CX0 1 f fd ["sign"] spT := by
  refine F.ok scT (fun vs H Q E h => ?_) (fun cdv A outer s H vs Q E hr h => ?_)
  · obtain ⟨c, rfl, _⟩ := h
    rfl
  · obtain ⟨c, rfl, q⟩ := h
    refine ⟨_, pss_cons (ps_if (pt_chain op_leS op_leS pe_str (pv 0) pe_str) (pss_one (ps_ret pe_int)) pss_nil)
      (pss_one (ps_ret (pe_ifExp (pt_chain op_leS op_leS pe_str (pv 0) pe_str) pe_int pe_int))), ?_⟩
    have a1 := ans_btw (σ := start ["sign"] [V.str (tx [c])]) (H := H) (i := 0) (l := 97) (h := 122) (c := c) (lo := "a") (hi := "z") (by decide +kernel) (by decide +kernel) rfl
    have a2 := ans_btw (σ := start ["sign"] [V.str (tx [c])]) (H := H) (i := 0) (l := 48) (h := 57) (c := c) (lo := "0") (hi := "9") (by decide +kernel) (by decide +kernel) rfl
    by_cases h1 : 97 ≤ c ∧ c ≤ 122
    · have e : cls c = 1 := by unfold cls; rw [if_pos h1]
      rw [e] at q
      exact st_seq (st_yes (a1.to (decide_eq_true h1)) q)
    · refine st_seq (st_no (a1.to (decide_eq_false h1)) ?_)
      refine st_next ?_
      by_cases h2 : 48 ≤ c ∧ c ≤ 57
      · have e : cls c = 2 := by unfold cls; rw [if_neg h1, if_pos h2]
        rw [e] at q
        refine a2.to (decide_eq_true h2) _ ?_
        rw [if_pos rfl]
        exact q
      · have e : cls c = 0 := by unfold cls; rw [if_neg h1, if_neg h2]
        rw [e] at q
        refine a2.to (decide_eq_false h2) _ ?_
        rw [if_neg (by decide)]
        exact q
theorem val_sort {σ : L2.St} {H : Hp} {te : TE} {c : Nat} (h : Val te σ H (.str (tx [c]))) : Val (tCall spT [] E0 (tCons te tNil)) σ H (.int (cls c : Nat)) := by
  intro Q q
  refine h _ ?_
  exact ⟨c, rfl, q⟩
theorem dTw_inv {G : Hp} {v : V} {t : Tw} (h : Dp K G v (dTw t)) : ∃ a, v = .ref a ∧ SqT K G a [.int (t.1 : Int), .int (t.2.1 : Int), .str (tx t.2.2.1), .int (t.2.2.2 : Int)] := by
  obtain ⟨a, xs, rfl, h1, h2⟩ := dp_tup h
  obtain ⟨v1, r1, rfl, e1, h2⟩ := dps_cons h2
  obtain ⟨v2, r2, rfl, e2, h2⟩ := dps_cons h2
  obtain ⟨v3, r3, rfl, e3, h2⟩ := dps_cons h2
  obtain ⟨v4, r4, rfl, e4, h2⟩ := dps_cons h2
  obtain rfl := dps_nil h2
  rw [dp_int e1, dp_int e2, dp_str e3, dp_int e4] at h1
  exact ⟨a, rfl, h1⟩
def hit (found : List Tw) (line at_ c : Nat) : Bool := match found.getLast? with
  | some t => decide (0 < cls c ∧ joins t line at_ c)
  | none => false
theorem last_of (ys : List Tw) (t : Tw) : (ys ++ [t]).getLast? = some t := by simp
theorem int_dec {a b : Nat} : decide (V.int (a : Int) = V.int (b : Int)) = decide (a = b) := by
  by_cases h : a = b
  · subst h
    rw [decide_eq_true rfl, decide_eq_true rfl]
  · rw [decide_eq_false h, decide_eq_false]
    intro z
    have := V.int.inj z
    omega
def spW (K : PySem.W.Frag) : Sp := fun vs H Q _ => ∃ l : List Nat, vs = [.str (tx l)] ∧ l.length ≤ 100000 ∧ (∀ c ∈ l, c < 128) ∧
  ∀ p H', Same H H' → H p = none → Dp K H' (.ref p) (.list ((marksW l).map dTk)) → Q (.ref p) H'
theorem okW {f fT : Addr} {fd fdT : FuncData} (F : Fun K "_law_marks" "_law_marks" sW f fd) (GT : FnOk P w K mg base CX0 1 fT fdT ["sign"] spT) (gT : mg "_law_sort" = some (.ref fT)) (kT : PySem.W.keepIn K (.ref fT) = true) (bT : L2.Binds K fdT ["sign"] [])
    (ml : mg "len" = none) : FnOk P w K mg base CX0 2 f fd ["text"] (spW K) := by
  refine F.ok scW (fun vs H Q E h => ?_) (fun cdv A outer s H vs Q E hr h => ?_)
  · obtain ⟨l, rfl, _⟩ := h
    rfl
  · obtain ⟨l, rfl, hl, hsm, q⟩ := h
    refine ⟨_, pss_cons (ps_par3 (i := 1) (j := 2) (l := 3) rfl scW.nd rfl rfl rfl (by decide) (by decide) (by decide) rfl rfl rfl (pa_cons (pe_lst pa_nil) (pa_cons pe_int (pa_cons pe_int pa_nil))) rfl)
      (pss_cons (ps_for PassesOwn.never rfl (pi_str (pv 0)) (pg_name (i := 4) scW.nd rfl (.inl rfl))
        (pss_cons (ps_set (i := 5) scW.nd rfl (.inl rfl) (pe_call GT hr (by rfl) gT kT bT .nil pass0 (pa_cons (pv 4) pa_nil)))
        (pss_cons (ps_if
            (pw_and (pt_cmpR op_gt (pv 5) pe_int (nomark _)) (pw_and (pt_cmpR (op_neD hr.units) (pv 1) (pe_lst pa_nil) (nomark _))
              (pw_and (pt_cmpR op_eq (pe_ix ix_tup (pe_ix ix_list (pv 1) (pe_un un_neg pe_int) (fun _ _ => rfl)) pe_int (fun _ _ => rfl)) (pv 5) (nomark _))
              (pw_and1 (pt_cmpR (op_eqD hr.units) (pe_slice sl_tup (pe_ix ix_list (pv 1) (pe_un un_neg pe_int) (fun _ _ => rfl)) po_none (po_some pe_int))
                (pe_tup (pa_cons (pv 2) (pa_cons (pe_op op_sub (pv 3) (pe_callB call_len (by rfl) ml PySem.boot_len (pa_cons (pe_ix ix_tup (pe_ix ix_list (pv 1) (pe_un un_neg pe_int) (fun _ _ => rfl)) pe_int (fun _ _ => rfl)) pa_nil))) pa_nil))) (nomark _)))))).pt
            (pss_one (ps_asg (pe_op op_catT (pe_slice sl_tup (pe_ix ix_list (pv 1) (pe_un un_neg pe_int) (fun _ _ => rfl)) po_none (po_some pe_int))
                (pe_tup (pa_cons (pe_op op_add_str (pe_ix ix_tup (pe_ix ix_list (pv 1) (pe_un un_neg pe_int) (fun _ _ => rfl)) pe_int (fun _ _ => rfl)) (pv 4)) (pa_cons (pv 5) pa_nil))))
              (pg_sub (pv 1) (pe_un un_neg pe_int) set_list)))
            (pss_one (ps_if (pt_cmpR op_ne (pv 4) pe_str (nomark _))
              (pss_one (ps_expr (pe_bm PySem.F.plainAttrs_list PySem.F.slot_list_append PySem.F.type_list_append mt_append (pv 1)
                (pa_cons (pe_tup (pa_cons (pv 2) (pa_cons (pv 3) (pa_cons (pv 4) (pa_cons (pv 5) pa_nil))))) pa_nil)))) pss_nil)))
        (pss_one (ps_asg (pe_ifExp (pt_cmpR op_eq (pv 4) pe_str (nomark _)) (pe_tup (pa_cons (pe_op op_add (pv 2) pe_int) (pa_cons pe_int pa_nil))) (pe_tup (pa_cons (pv 2) (pa_cons (pe_op op_add (pv 3) pe_int) pa_nil))))
          (pg_tup rfl (pgs_cons (pg_name (i := 2) scW.nd rfl (.inl rfl)) (pgs_cons (pg_name (i := 3) scW.nd rfl (.inl rfl)) pgs_nil))))))))
      (pss_one (ps_ret (pe_lc (own := [("mark", 6)]) (g := gName 6) (tt := tYes) rfl scW.nd (pi_list (pv 1)) (blkOk_by (own := [("mark", 6)]) (N := ["text", "found", "line", "at", "sign", "sort", "mark"]) (sc := defScope sW) (by decide +kernel))
        (fun _ _ _ _ _ => pg_name (i := 6) scW.nd rfl (.inl rfl)) (fun _ _ _ _ _ => pts_nil) (fun _ _ _ _ _ => pe_slice (show SlR _ (rSlT K) from sl_tup) (pv 6) po_none (po_some pe_int)))))), ?_⟩
    refine ⟨Nat.zero_le _, fun o no => ?_⟩
    refine ⟨_, _, _, rfl, ?_⟩
    refine st_seq (for_txt (l := l) (val_var rfl) (fun i σ' H' => ∃ (y4 y5 : Option V) (G : Hp) (xs : List V),
        σ' = [some (.str (tx l)), some (.ref o), some (.int ((foldW (l.take i)).2.1 : Nat)), some (.int ((foldW (l.take i)).2.2 : Nat)), y4, y5, none] ∧
        Fr1 H G H' o xs ∧ DpAll K G xs ((foldW (l.take i)).1.map dTw)) ⟨none, none, H, [], rfl, Fr1.start no, .nil⟩ ?_ ?_)
    · rintro i c σ' H' hc ⟨y4, y5, G, xs, rfl, fr, hds⟩
      have hi : i < l.length := (List.getElem?_eq_some_iff.mp hc).1
      have ok := okW_take hsm i (Nat.le_of_lt hi)
      rw [foldW_next hc]
      generalize foldW (l.take i) = st at hds ok
      obtain ⟨found, line, col⟩ := st
      have hsh : SeqAt.shaped (.list (found.map dTw)) = true := shaped_dTw fun t ht => (ok.txt t ht).2
      refine st_seq (st_set (val_sort (val_var rfl)) ?_)
      -- behind the if
      have tail : ∀ (G2 H2 : Hp) (xs2 : List V), Fr1 H G2 H2 o xs2 → DpAll K G2 xs2 ((stepF found line col c).map dTw) →
          (tAsg (tIf (tTest (tOp rEq (tVar 4) (tC (V.str "\n")))) (tTup (tCons (tOp (rI0 fun i j => V.int (i + j)) (tVar 2) (tC (V.int 1))) (tCons (tC (V.int 0)) tNil))) (tTup (tCons (tVar 2) (tCons (tOp (rI0 fun i j => V.int (i + j)) (tVar 3) (tC (V.int 1))) tNil))))
            (gTup K 2 (gCons (gName 2) (gCons (gName 3) gNil))))
          { nx := fun σ' H' => ∃ (y4 y5 : Option V) (G : Hp) (xs : List V),
              σ' = [some (.str (tx l)), some (.ref o), some (.int ((stepW (found, line, col) c).2.1 : Nat)), some (.int ((stepW (found, line, col) c).2.2 : Nat)), y4, y5, none] ∧
              Fr1 H G H' o xs ∧ DpAll K G xs ((stepW (found, line, col) c).1.map dTw), rt := Q }
          [some (.str (tx l)), some (.ref o), some (.int (line : Int)), some (.int (col : Int)), some (.str (tx [c])), some (.int (cls c : Nat)), none] H2 := by
        intro G2 H2 xs2 f2 h2
        have enl : decide (V.str (tx [c]) = V.str ("\n" : Str)) = decide (c = 10) := by
          rw [show ("\n" : Str) = tx [10] by decide +kernel]
          exact sign_is c 10
        by_cases h10 : c = 10
        · refine ans_eq (b := true) (val_var rfl) val_c rfl (by rw [enl]; exact decide_eq_true h10) _ ?_
          rw [if_pos rfl]
          refine tup2 (val_add (val_var rfl) val_c) val_c fun p hp => ?_
          refine ⟨p, _, rfl, SqT.of upd_same, rfl, _, _, rfl, _, _, rfl, rfl, ?_⟩
          refine ⟨some (.str (tx [c])), some (.int (cls c : Nat)), _, xs2, ?_, f2.new hp, dps_mono (same_new (f2.fresh hp)) _ _ h2⟩
          have e2 : (stepW (found, line, col) c).2 = (line + 1, 0) := if_pos h10
          rw [e2]
          rfl
        · refine ans_eq (b := false) (val_var rfl) val_c rfl (by rw [enl]; exact decide_eq_false h10) _ ?_
          rw [if_neg (by decide)]
          refine tup2 (val_var rfl) (val_add (val_var rfl) val_c) fun p hp => ?_
          refine ⟨p, _, rfl, SqT.of upd_same, rfl, _, _, rfl, _, _, rfl, rfl, ?_⟩
          refine ⟨some (.str (tx [c])), some (.int (cls c : Nat)), _, xs2, ?_, f2.new hp, dps_mono (same_new (f2.fresh hp)) _ _ h2⟩
          have e2 : (stepW (found, line, col) c).2 = (line, col + 1) := if_neg h10
          rw [e2]
          rfl
      -- the test
      have test : AnsF (tAnd (tTest (tOp (rI0 fun i j => V.bl (decide (j < i))) (tVar 5) (tC (V.int 0))))
          (tAnd (tTest (tOp (rNeD K) (tVar 1) (tLst tNil)))
          (tAnd (tTest (tOp rEq (tOp (rIxT K) (tOp (rIxL K) (tVar 1) (tUn (rU fun i => V.int (-i)) (tC (V.int 1)))) (tC (V.int 3))) (tVar 5)))
          (tTest (tOp (rEqD K) (tSl (rSlT K) (tOp (rIxL K) (tVar 1) (tUn (rU fun i => V.int (-i)) (tC (V.int 1)))) tNoPart (tPart (tC (V.int 2))))
            (tTup (tCons (tVar 2) (tCons (tOp (rI0 fun i j => V.int (i - j)) (tVar 3) (tCB (fun xs H Q => ∃ x n, xs = [x] ∧ LenV K x H n ∧ Q (V.int n) H) (tCons (tOp (rIxT K) (tOp (rIxL K) (tVar 1) (tUn (rU fun i => V.int (-i)) (tC (V.int 1)))) (tC (V.int 2))) tNil))) tNil)))))))) 
          [some (.str (tx l)), some (.ref o), some (.int (line : Int)), some (.int (col : Int)), some (.str (tx [c])), some (.int (cls c : Nat)), none] (hit found line col c) H G H' o xs := by
        by_cases h0 : 0 < cls c
        · refine ansF_and (Ans.toF (Ans.to (ans_gt0 (val_var rfl)) (decide_eq_true h0)) fr) fun G2 H2 s2 f2 => ?_
          have hds2 := dps_mono s2 _ _ hds
          rcases List.eq_nil_or_concat found with rfl | ⟨ys, t, e⟩
          · exact ansF_and0 (ansF_neNil f2 hds2 hsh (val_var rfl))
          · rw [List.concat_eq_append] at e
            subst e
            refine ansF_and ((ansF_neNil f2 hds2 hsh (val_var rfl)).to (by simp)) fun G3 H3 s3 f3 => ?_
            have hds3 := dps_mono s3 _ _ hds2
            rw [List.map_append] at hds3
            obtain ⟨ws, wv, rfl, hws, hwv⟩ := dps_back hds3
            obtain ⟨a, rfl, hsq⟩ := dTw_inv hwv
            have ehit : hit (ys ++ [t]) line col c = decide (joins t line col c) := by
              unfold hit
              rw [last_of]
              simp [h0]
            have e3 : Ans (tTest (tOp rEq (tOp (rIxT K) (tOp (rIxL K) (tVar 1) (tUn (rU fun i => V.int (-i)) (tC (V.int 1)))) (tC (V.int 3))) (tVar 5)))
                [some (.str (tx l)), some (.ref o), some (.int (line : Int)), some (.int (col : Int)), some (.str (tx [c])), some (.int (cls c : Nat)), none] H3 (decide (t.2.2.2 = cls c)) :=
              ans_eq (val_ixT (j := 3) (val_lastL (val_var rfl) val_neg1 (SqL.of f3.here)) val_c (same_seqT f3.ext hsq) rfl) (val_var rfl) rfl int_dec
            by_cases hs : t.2.2.2 = cls c
            · refine ansF_and (Ans.toF (e3.to (decide_eq_true hs)) f3) fun G4 H4 s4 f4 => ?_
              have hsq4 := same_seqT s4 hsq
              intro Q' q'
              refine slT_front (k := 2) (val_lastL (val_var rfl) val_neg1 (SqL.of f4.here)) (same_seqT f4.ext hsq4) (by show 2 < 4; decide) fun p1 hp1 => ?_
              have f5 := f4.new (u := .tup [.int (t.1 : Int), .int (t.2.1 : Int)]) hp1
              have s5 := same_new (o := .tup [.int (t.1 : Int), .int (t.2.1 : Int)]) (f4.fresh hp1)
              have hm : t.2.2.1.length ≤ 100000 := Nat.le_trans (ok.txt t (by simp)).1 (by omega)
              refine tup2 (val_var rfl) (val_sub (val_var rfl) (val_lenS (val_ixT (j := 2) (val_lastL (val_var rfl) val_neg1 (SqL.of f5.here)) val_c (same_seqT f5.ext (same_seqT s5 hsq4)) rfl) hm)) fun p2 hp2 => ?_
              have f6 := f5.new (u := .tup [.int (line : Int), .int ((col : Int) - (t.2.2.1.length : Int))]) hp2
              have n12 : p1 ≠ p2 := by
                intro z
                rw [← z, upd_same] at hp2
                cases hp2
              refine ⟨.tuple [.int (t.1 : Int), .int (t.2.1 : Int)], .tuple [.int (line : Int), .int ((col : Int) - (t.2.2.1.length : Int))], .tup (SqT.of (by rw [upd_ne n12, upd_same]; rfl)) (.cons (.int _) (.cons (.int _) .nil)),
                .tup (SqT.of upd_same) (.cons (.int _) (.cons (.int _) .nil)), rfl, rfl, _, rfl, ?_⟩
              have eb : PyData.eqv (.tuple [.int (t.1 : Int), .int (t.2.1 : Int)]) (.tuple [.int (line : Int), .int ((col : Int) - (t.2.2.1.length : Int))]) = hit (ys ++ [t]) line col c := by
                rw [ehit]
                simp only [PyData.eqv, PyData.eqvAll, Bool.and_true]
                rw [Bool.eq_iff_iff]
                simp only [Bool.and_eq_true, beq_iff_eq, decide_eq_true_eq]
                constructor
                · rintro ⟨z1, z2⟩
                  exact ⟨hs, by omega, by omega⟩
                · rintro ⟨z0, z1, z2⟩
                  exact ⟨by omega, by omega⟩
              rw [eb]
              exact q' _ _ (s5.trans (same_new (f5.fresh hp2))) f6
            · refine (ansF_and0 (Ans.toF (e3.to (decide_eq_false hs)) f3)).to ?_
              rw [ehit]
              symm
              apply decide_eq_false
              intro z
              exact hs z.1
        · refine (ansF_and0 (Ans.toF (Ans.to (ans_gt0 (val_var rfl)) (decide_eq_false h0)) fr)).to ?_
          unfold hit
          split
          · symm
            apply decide_eq_false
            intro z
            exact h0 z.1
          · rfl
      refine test _ fun G2 H2 s2 f2 => ?_
      have hds2 := dps_mono s2 _ _ hds
      by_cases hh : hit found line col c = true
      · rw [if_pos hh]
        rcases List.eq_nil_or_concat found with rfl | ⟨ys, t, e⟩
        · cases hh
        rw [List.concat_eq_append] at e
        subst e
        have hj : 0 < cls c ∧ joins t line col c := by
          unfold hit at hh
          rw [last_of] at hh
          exact of_decide_eq_true hh
        have est : stepF (ys ++ [t]) line col c = ys ++ [(t.1, t.2.1, t.2.2.1 ++ [c], cls c)] := by
          unfold stepF
          rw [last_of]
          show (if 0 < cls c ∧ joins t line col c then _ else _) = _
          rw [if_pos hj, List.dropLast_concat]
        rw [est] at tail
        rw [List.map_append] at hds2
        obtain ⟨ws, wv, rfl, hws, hwv⟩ := dps_back hds2
        obtain ⟨a, rfl, hsq⟩ := dTw_inv hwv
        have hm : t.2.2.1.length ≤ 100000 := Nat.le_trans (ok.txt t (by simp)).1 (by omega)
        refine slT_front (k := 2) (val_lastL (val_var rfl) val_neg1 (SqL.of f2.here)) (same_seqT f2.ext hsq) (by show 2 < 4; decide) fun p1 hp1 => ?_
        have f5 := f2.new (u := .tup [.int (t.1 : Int), .int (t.2.1 : Int)]) hp1
        have s5 := same_new (o := .tup [.int (t.1 : Int), .int (t.2.1 : Int)]) (f2.fresh hp1)
        refine tup2 (val_addS (b := [c]) (val_ixT (j := 2) (val_lastL (val_var rfl) val_neg1 (SqL.of f5.here)) val_c (same_seqT f5.ext (same_seqT s5 hsq)) rfl) (val_var rfl) (by simp only [List.length_singleton]; omega)) (val_var rfl) fun p2 hp2 => ?_
        have f6 := f5.new (u := .tup [.str (tx (t.2.2.1 ++ [c])), .int (cls c : Nat)]) hp2
        have n12 : p1 ≠ p2 := by
          intro z
          rw [← z, upd_same] at hp2
          cases hp2
        refine ⟨p1, p2, [.int (t.1 : Int), .int (t.2.1 : Int)], _, rfl, rfl, SqT.of (by rw [upd_ne n12, upd_same]; rfl), SqT.of upd_same, by simp, by show 4 ≤ sizeLine; decide, (fun z => by cases z), fun _ p3 hp3 => ?_⟩
        have f7 := f6.new (u := .tup [.int (t.1 : Int), .int (t.2.1 : Int), .str (tx (t.2.2.1 ++ [c])), .int (cls c : Nat)]) hp3
        have s7 := (s5.trans (same_new (o := .tup [.str (tx (t.2.2.1 ++ [c])), .int (cls c : Nat)]) (f5.fresh hp2))).trans (same_new (o := .tup [.int (t.1 : Int), .int (t.2.1 : Int), .str (tx (t.2.2.1 ++ [c])), .int (cls c : Nat)]) (f6.fresh hp3))
        refine ⟨_, rfl, 1, rfl, o, _, _, ws.length, rfl, rfl, f7.here, ?_, ?_⟩
        · unfold ixN
          rw [if_neg (by decide), List.length_append, List.length_singleton, if_pos (by omega)]
          congr 1
          omega
        · have eset : (ws ++ [V.ref a]).set ws.length (.ref p3) = ws ++ [V.ref p3] := by simp
          rw [eset]
          refine tail _ _ _ f7.put ?_
          rw [List.map_append]
          refine dps_app (dps_mono s7 _ _ hws) ?_
          exact .tup (SqT.of upd_same) (.cons (.int _) (.cons (.int _) (.cons (.str _) (.cons (.int _) .nil))))
      · rw [if_neg hh]
        have est : stepF found line col c = addF found line col c := by
          unfold stepF
          unfold hit at hh
          split
          · rename_i t he
            rw [he] at hh
            rw [if_neg (fun z => hh (decide_eq_true z))]
          · rfl
        rw [est] at tail
        have esp : decide (V.str (tx [c]) = V.str (" " : Str)) = decide (c = 32) := by
          rw [show (" " : Str) = tx [32] by decide +kernel]
          exact sign_is c 32
        by_cases h32 : c = 32
        · refine st_no (ans_ne (val_var rfl) val_c rfl (b := false) (by rw [esp, decide_eq_true h32]; rfl)) ?_
          refine st_next ?_
          refine tail _ _ _ f2 ?_
          unfold addF
          rw [if_pos h32]
          exact hds2
        · refine st_yes (ans_ne (val_var rfl) val_c rfl (b := true) (by rw [esp, decide_eq_false h32]; rfl)) ?_
          refine ⟨_, rfl, .inl ⟨rfl, _, SqL.of f2.here⟩, ?_⟩
          refine tup4 (val_var rfl) (val_var rfl) (val_var rfl) (val_var rfl) fun p hp => ?_
          have f3 := f2.new (u := .tup [.int (line : Int), .int (col : Int), .str (tx [c]), .int (cls c : Nat)]) hp
          refine ⟨o, xs, _, rfl, rfl, f3.here, ?_, ?_⟩
          · have := ok.len
            rw [dps_len hds2, List.length_map]
            exact Nat.lt_of_lt_of_le (show found.length < 100001 by have h : found.length ≤ i := this; omega) (by decide)
          · refine tail _ _ _ f3.put ?_
            unfold addF
            rw [if_neg h32, List.map_append]
            refine dps_app (dps_mono (same_new (f2.fresh hp)) _ _ hds2) ?_
            exact .tup (SqT.of upd_same) (.cons (.int _) (.cons (.int _) (.cons (.str _) (.cons (.int _) .nil))))
    · rintro σ' H' ⟨y4, y5, G, xs, rfl, fr, hds⟩
      rw [List.take_of_length_le (Nat.le_refl _)] at hds
      refine ⟨_, rfl, o, rfl, ⟨_, SqL.of fr.here⟩, fun D nD => ?_⟩
      have fD := Fr1.start (xs := []) nD
      refine lc_list (K := K) (a := o) (xs := xs) (fun i H2 => ∃ (G2 : Hp) (zs : List V), Fr1 H' G2 H2 D zs ∧ DpAll K G2 zs ((((foldW l).1.map wTk).take i).map dTk)) ⟨H', [], fD, .nil⟩ ?_ ?_ ?_
      · rintro i H2 _ ⟨G2, zs, f, _⟩
        exact f.all.seq (SqL.of fr.here)
      · rintro i x H2 hx ⟨G2, zs, f, hz⟩
        have hi : i < xs.length := (List.getElem?_eq_some_iff.mp hx).1
        have hlen := dps_len hds
        rw [List.length_map] at hlen
        have hg : (((foldW l).1.map dTw))[i]? = some (dTw ((foldW l).1[i]'(by omega))) := by
          rw [List.getElem?_map, List.getElem?_eq_getElem (show i < (foldW l).1.length by omega)]
          rfl
        have hg2 : ((foldW l).1.map wTk)[i]? = some (wTk ((foldW l).1[i]'(by omega))) := by
          rw [List.getElem?_map, List.getElem?_eq_getElem (show i < (foldW l).1.length by omega)]
          rfl
        generalize (foldW l).1[i]'(by omega) = t at hg hg2
        obtain ⟨v, hv, hd⟩ := dps_get hds hg
        obtain rfl : x = v := Option.some.inj (hx.symm.trans hv)
        obtain ⟨a, rfl, hsq⟩ := dTw_inv hd
        refine ⟨rfl, ?_⟩
        unfold tYes
        dsimp only
        rw [if_pos rfl]
        refine slT_front (k := 3) (val_var rfl) (same_seqT (fr.ext.trans f.all) hsq) (by show 3 < 4; decide) fun p hp => ?_
        have f2 := f.new (u := .tup [.int (t.1 : Int), .int (t.2.1 : Int), .str (tx t.2.2.1)]) hp
        refine ⟨zs, f2.here, ?_, _, _, f2.put, ?_⟩
        · rw [dps_len hz, List.length_map, List.length_take, List.length_map]
          have := okW_fold l 0 ([], 0, 0) ⟨Nat.le_refl _, (fun t ht => by cases ht), Nat.le_refl _⟩ hsm
          have h3 : (foldW l).1.length ≤ 0 + l.length := this.len
          exact Nat.lt_of_lt_of_le (show min i (foldW l).1.length < 100001 by omega) (by decide)
        · rw [List.take_add_one, hg2, List.map_append]
          refine dps_app (dps_mono (same_new (f.fresh hp)) _ _ hz) ?_
          exact .tup (SqT.of upd_same) (.cons (.int _) (.cons (.int _) (.cons (.str _) .nil)))
      · rintro H2 ⟨G2, zs, f, hz⟩
        have hlen := dps_len hds
        rw [List.length_map] at hlen
        rw [List.take_of_length_le (by rw [List.length_map]; omega)] at hz
        exact q D H2 (fr.all.trans f.all) (fr.all.free nD) (.lst (SqL.of f.here) (dps_mono f.ext _ _ hz))
end
end L5
namespace L5
open PySem PySem.Spec PyProof.Rows L2 Yb
section
variable {P : Program} {w : World} {K : PySem.W.Frag} {mg : Str → Option Value} {base : Heap}
/-! ### the heap is made -/
def spH (K : PySem.W.Frag) : Sp := fun vs H Q _ => ∃ (a0 : Addr) (ns : List Int), vs = [.ref a0] ∧ SqL K H a0 (ns.map V.int) ∧ ∀ a b H', LH H H' a b → Q (.ref a) H'
def cell0 (n : Int) : Int := 2 * (if n < 0 then -n else n) + (if (decide (n < 0)) = true then 1 else 0)
theorem cell0_nn (n : Int) : 0 ≤ cell0 n := by
  unfold cell0
  by_cases h : n < 0
  · rw [if_pos h]
    split <;> omega
  · rw [if_neg h]
    split <;> omega
def vcell (v : V) : V := match v with
  | .int n => .int (cell0 n)
  | v => v
theorem cut60 (ns : List Int) : cutV (ns.map V.int) none (some 60) = (ns.take 60).map V.int := by
  unfold cutV
  rw [show ((60 : Int)) = ((60 : Nat) : Int) from rfl, HT.sIx_nat, HT.sIx_none, List.drop_zero, Nat.sub_zero, ← List.map_take]
  congr 1
  rw [List.length_map]
  by_cases h : 60 ≤ ns.length
  · rw [Nat.min_eq_left h]
  · rw [Nat.min_eq_right (by omega), List.take_of_length_le (Nat.le_refl _), List.take_of_length_le (by omega)]
theorem okH {f : Addr} {fd : FuncData} (F : Fun K "_law_heap" "_law_heap" sH f fd) (ma : mg "abs" = none) (mi : mg "int" = none) : FnOk P w K mg base CX0 1 f fd ["script"] (spH K) := by
  refine F.ok scH (fun vs H Q E h => ?_) (fun cdv A outer s H vs Q E hr h => ?_)
  · obtain ⟨a, ns, rfl, _⟩ := h
    rfl
  · obtain ⟨a0, ns, rfl, hS, q⟩ := h
    refine ⟨_, pss_cons (ps_par (i := 1) (j := 2) rfl scH.nd rfl rfl (by decide) rfl rfl
        (pa_cons (pe_lc (own := [("cell", 3)]) (g := gName 3) (tt := tYes) rfl scH.nd (pi_list (pe_slice sl_list (pv 0) po_none (po_some pe_int)))
            (blkOk_by (own := [("cell", 3)]) (N := ["script", "cells", "stir", "cell"]) (sc := defScope sH) (by decide +kernel)) (fun _ _ _ _ _ => pg_name (i := 3) scH.nd rfl (.inl rfl)) (fun _ _ _ _ _ => pts_nil)
            (fun _ _ _ _ _ => pe_op op_add (pe_op op_mul pe_int (pe_callB call_abs (by rfl) ma (by decide +kernel) (pa_cons (pv 3) pa_nil))) (pe_callTy call_int1 (by rfl) mi (by decide +kernel) (pa_cons (pe_cmpR op_lt (pv 3) pe_int (nomark _)) pa_nil))))
          (pa_cons pe_int pa_nil)) rfl)
      (pss_cons (ps_for PassesOwn.never rfl (pi_list (pv 1)) (pg_name (i := 3) scH.nd rfl (.inl rfl))
        (pss_one (ps_set (i := 2) scH.nd rfl (.inl rfl) (pe_op op_mod (pe_callTy call_int1 (by rfl) mi (by decide +kernel) (pa_cons (pe_op op_add (pe_op op_add (pe_op op_mul (pv 2) pe_int)
          (pe_op op_mod (pe_callTy call_int1 (by rfl) mi (by decide +kernel) (pa_cons (pv 3) pa_nil)) pe_int)) pe_int) pa_nil)) pe_int))))
      (pss_one (ps_ret (pe_lst (pa_cons (pe_revL (pe_lc (own := [("cell", 3)]) (g := gName 3) rfl scH.nd (pi_list (pv 1))
            (blkOk_by (own := [("cell", 3)]) (N := ["script", "cells", "stir", "cell"]) (sc := defScope sH) (by decide +kernel)) (fun _ _ _ _ _ => pg_name (i := 3) scH.nd rfl (.inl rfl))
            (fun _ _ _ _ _ => pts_one (pt_cmpR op_ge (pv 3) (pe_op op_pow pe_int pe_int) (nomark _))) (fun _ _ _ _ _ => pv 3))) (pa_cons (pv 2) pa_nil)))))), ?_⟩
    -- cells, stir = [..], ..
    refine st_seq (tPar_go (tCons_go ?_))
    refine lcL_pureN (xs := (ns.take 60).map V.int) (p := fun _ => true) (f := vcell) (fun R r => ?_) ?_ ?_ ?_ ?_ ?_
    · refine ⟨_, rfl, 60, rfl, a0, _, rfl, hS, fun c nc => ?_⟩
      rw [cut60]
      exact r c nc
    · rw [List.length_map, List.length_take]
      omega
    · intro x
      rfl
    · exact fun x _ H' => ans_yes
    · rintro x hx _ H'
      obtain ⟨n, _, rfl⟩ := List.mem_map.mp hx
      exact val_add' (val_mulc val_c (val_abs (val_var rfl)) (.inl ⟨by decide, by decide⟩)) (val_intB (val_ltB (val_var rfl) val_c))
    intro c D nc nD
    have eD : ((((ns.take 60).map V.int).filter fun _ => true).map vcell) = ((ns.take 60).map cell0).map V.int := by
      rw [List.filter_eq_self.mpr (fun _ _ => rfl), List.map_map, List.map_map]
      rfl
    rw [eD]
    have hcs : ∀ z ∈ (ns.take 60).map cell0, 0 ≤ z := by
      intro z hz
      obtain ⟨n, _, rfl⟩ := List.mem_map.mp hz
      exact cell0_nn n
    have hlen : ((ns.take 60).map cell0).length ≤ 60 := by
      rw [List.length_map, List.length_take]
      omega
    generalize (ns.take 60).map cell0 = cs at hcs hlen
    have s2 := (same_new (o := .lst ((ns.take 60).map V.int)) nc).trans (same_new (o := .lst (cs.map V.int)) nD)
    generalize hH1 : upd (upd H c (.lst ((ns.take 60).map V.int))) D (.lst (cs.map V.int)) = H1 at s2
    have hD : H1 D = some (.lst (cs.map V.int)) := by
      rw [← hH1]
      exact upd_same
    refine ⟨_, _, rfl, ?_⟩
    -- for cell in cells
    refine st_seq ⟨_, rfl, D, rfl, ⟨_, SqL.of hD⟩, ?_⟩
    refine for_list (K := K) (a := D) (xs := cs.map V.int) (fun i σ' H' => H' = H1 ∧ ∃ (n : Int) (y : Option V), σ' = [some (.ref a0), some (.ref D), some (.int n), y] ∧ 0 ≤ n) ⟨rfl, 33851, none, rfl, by decide⟩ ?_ ?_ ?_
    · rintro i σ' H' _ ⟨rfl, _⟩
      exact SqL.of hD
    · rintro i x σ' H' hx ⟨rfl, n, y, rfl, hn⟩
      obtain ⟨z, _, rfl⟩ := List.mem_map.mp (List.mem_of_getElem? hx)
      refine st_set (val_mod (val_int (val_add' (val_add' (val_mulc (val_var rfl) val_c (.inr ⟨by decide, by decide⟩)) (val_mod (val_int (val_var rfl)) val_c (by decide))) val_c)) val_c (by decide)) ?_
      exact ⟨rfl, _, _, rfl, Int.emod_nonneg _ (by decide)⟩
    · rintro σ' H' ⟨rfl, n, y, rfl, hn⟩
      dsimp only
      refine tRet_go (tLst_go (tCons_go (tRevL_go ?_)))
      refine lcL_pure (xs := cs.map V.int) (p := fun v => match v with | .int z => decide ((10 : Int) ^ (18 : Int).toNat ≤ z) | _ => false) (f := fun v => v) (val_var rfl) (SqL.of hD) ?_ ?_ ?_ ?_ ?_
      · rw [List.length_map]
        omega
      · intro x
        rfl
      · intro x hx H2
        obtain ⟨z, _, rfl⟩ := List.mem_map.mp hx
        exact ans_geI (val_var rfl) (val_pow val_c val_c ⟨by decide, by decide, by decide⟩)
      · intro x hx _ H2
        exact val_var rfl
      intro d nd
      generalize hL : (List.map (fun v => v) (List.filter _ (cs.map V.int))) = L
      obtain ⟨es, hes, hes2, hes3⟩ : ∃ es : List Int, L.reverse = es.map V.int ∧ es.length ≤ 60 ∧ ∀ c ∈ es, 0 ≤ c := by
        refine ⟨(cs.filter fun z => decide ((10 : Int) ^ (18 : Int).toNat ≤ z)).reverse, ?_, ?_, ?_⟩
        · rw [← hL, List.map_id', List.filter_map, ← List.map_reverse]
          rfl
        · rw [List.length_reverse]
          exact Nat.le_trans (List.length_filter_le _ _) hlen
        · intro z hz
          exact hcs z (List.mem_filter.mp (List.mem_reverse.mp hz)).1
      refine ⟨d, _, rfl, SqL.of upd_same, fun b nb => ?_⟩
      refine ⟨_, rfl, ?_⟩
      refine ⟨by show 2 ≤ sizeLine; decide, fun a na => ?_⟩
      have nab : a ≠ b := by
        intro e
        rw [e, upd_same] at na
        cases na
      have s3 := s2.trans (same_new (o := .lst L) nd)
      refine q a b _ ⟨es, n, (s3.trans (same_new nb)).trans (same_new na), ?_, s3.free nb, nab, upd_same, ?_, hes2, hes3, hn⟩
      · exact (s3.trans (same_new (o := .lst L.reverse) nb)).free na
      · rw [upd_ne nab.symm, upd_same, hes]
/-! ### a draw -/
def spD : Sp := fun vs H Q _ => ∃ (G : Hp) (a b : Addr) (many : Int), vs = [.ref a, .int many] ∧ LH G H a b ∧ 0 < many ∧ many < 1073741824 ∧ ∀ (r : Int) (H' : Hp), 0 ≤ r → r < many → LH G H' a b → Q (.int r) H'
theorem okD {f : Addr} {fd : FuncData} (F : Fun K "_law_draw" "_law_draw" sD f fd) (mi : mg "int" = none) : FnOk P w K mg base CX0 1 f fd ["heap", "many"] spD := by
  refine F.ok scD (fun vs H Q E h => ?_) (fun cdv A outer s H vs Q E hr h => ?_)
  · obtain ⟨G, a, b, many, rfl, _⟩ := h
    rfl
  · obtain ⟨G, a, b, many, rfl, ⟨cs, n, hx⟩, hm0, hm1, q⟩ := h
    refine ⟨_, Evl.pss_cut (ps_while PassesOwn.never (pw_and (pt_cmpR (op_neD hr.units) (pe_ix ix_list (pv 0) pe_int (fun _ _ => rfl)) (pe_lst pa_nil) (nomark _))
          (pw_and1 (pt_cmpR op_eq (pe_ix ix_list (pe_ix ix_list (pv 0) pe_int (fun _ _ => rfl)) (pe_un un_neg pe_int) (fun _ _ => rfl)) pe_int (nomark _)))).pt
        (pss_one (ps_expr (pe_bm0 PySem.F.plainAttrs_list PySem.F.slot_list_pop PySem.F.type_list_pop mt_pop (pe_ix ix_list (pv 0) pe_int (fun _ _ => rfl))))))
      (pss_cons (ps_if (pt_cmpR (op_neD hr.units) (pe_ix ix_list (pv 0) pe_int (fun _ _ => rfl)) (pe_lst pa_nil) (nomark _))
        (pss_cons (ps_set (i := 2) scD.nd rfl (.inl rfl) (pe_bm0 PySem.F.plainAttrs_list PySem.F.slot_list_pop PySem.F.type_list_pop mt_pop (pe_ix ix_list (pv 0) pe_int (fun _ _ => rfl))))
        (pss_cons (ps_expr (pe_bm PySem.F.plainAttrs_list PySem.F.slot_list_append PySem.F.type_list_append mt_append (pe_ix ix_list (pv 0) pe_int (fun _ _ => rfl)) (pa_cons (pe_op op_fdiv (pv 2) (pv 1)) pa_nil)))
        (pss_one (ps_ret (pe_op op_mod (pe_callTy call_int1 (by rfl) mi (by decide +kernel) (pa_cons (pv 2) pa_nil)) (pv 1)))))) pss_nil)
      (pss_cons (ps_asg (pe_op op_mod (pe_callTy call_int1 (by rfl) mi (by decide +kernel) (pa_cons (pe_op op_add (pe_op op_mul (pe_ix ix_list (pv 0) pe_int (fun _ _ => rfl)) pe_int) pe_int) pa_nil)) pe_int) (pg_sub (pv 0) pe_int set_list))
      (pss_one (ps_ret (pe_op op_mod (pe_callTy call_int1 (by rfl) mi (by decide +kernel) (pa_cons (pe_op op_fdiv (pe_ix ix_list (pv 0) pe_int (fun _ _ => rfl)) pe_int) pa_nil)) (pv 1)))))), ?_⟩
    refine ⟨fun σ' H' => σ' = [some (.ref a), some (.int many), none] ∧ ∃ cs, LHx G H' a b cs n, ?_, ?_⟩
    · refine ⟨fun m σ' H' => σ' = [some (.ref a), some (.int many), none] ∧ ∃ cs, m = cs.length ∧ LHx G H' a b cs n, ⟨_, rfl, cs, rfl, hx⟩, ?_⟩
      clear hx
      rintro m σ' H' ⟨rfl, cs, rfl, hx⟩
      refine lh_some hx rfl fun p hp => ?_
      have h2 := hx.grow (u := .lst []) hp
      generalize upd H' p (.lst []) = H2 at h2
      rcases List.eq_nil_or_concat cs with rfl | ⟨ys, z, e⟩
      · exact ⟨rfl, [], h2⟩
      · rw [List.concat_eq_append] at e
        subst e
        have hb := h2.hb
        rw [List.map_append] at hb
        have e1 : (!(ys ++ [z]).isEmpty) = true := by simp
        rw [e1, if_pos rfl]
        have t2 : Ans (tTest (tOp rEq (tOp (rIxL K) (tOp (rIxL K) (tVar 0) (tC (.int 0))) (tUn (rU fun i => .int (-i)) (tC (.int 1)))) (tC (.int 0)))) [some (.ref a), some (.int many), none] H2 (decide (V.int z = V.int 0)) :=
          ans_eq (val_lastL (lh_list h2 rfl) val_neg1 (SqL.of hb)) val_c rfl rfl
        refine t2 _ ?_
        by_cases hz : V.int z = V.int 0
        · rw [decide_eq_true hz, if_pos rfl]
          refine ⟨fun σ3 H3 => σ3 = [some (.ref a), some (.int many), none] ∧ LHx G H3 a b ys n, ?_, ?_⟩
          · rintro σ3 H3 ⟨rfl, h3⟩
            exact ⟨ys.length, by simp, rfl, ys, rfl, h3⟩
          · refine lh_list h2 rfl _ ?_
            refine ⟨.inl ⟨rfl, _, SqL.of hb⟩, b, _, .int z, rfl, rfl, hb, by simp, rfl, ?_⟩
            have h3 := h2.cells (ds := ys) (by have := h2.few; simp only [List.length_append] at this; omega) (fun c hc => h2.nn c (List.mem_append_left _ hc))
            have e2 : (List.map V.int ys ++ List.map V.int [z]).dropLast = ys.map V.int := by simp
            rw [e2]
            exact h3
        · rw [decide_eq_false hz, if_neg (by decide)]
          exact ⟨rfl, _, h2⟩
    · clear hx
      rintro σ' H' ⟨rfl, cs, hx⟩
      refine st_seq ?_
      refine lh_some hx rfl fun p hp => ?_
      have h2 := hx.grow (u := .lst []) hp
      generalize upd H' p (.lst []) = H2 at h2
      rcases List.eq_nil_or_concat cs with rfl | ⟨ys, z, e⟩
      · -- heap[1] = ..
        refine st_next ?_
        refine st_seq ?_
        refine val_mod (val_int (val_add' (val_mulc (lh_num h2 rfl) val_c (.inr ⟨by decide, by decide⟩)) val_c)) val_c (by decide) _ ?_
        refine ⟨_, rfl, ?_⟩
        refine ⟨a, _, 1, 1, rfl, rfl, h2.ha, rfl, ?_⟩
        have h3 := h2.stir (m := (n * 48271 + 17) % 2147483647) (Int.emod_nonneg _ (by decide))
        dsimp only
        refine st_ret (v := .int ((n * 48271 + 17) % 2147483647 / 32 % many)) ?_ ?_
        case refine_2 => exact q _ _ (Int.emod_nonneg _ (by omega)) (Int.emod_lt_of_pos _ hm0) ⟨_, _, h3⟩
        exact val_mod (val_int (val_div (lh_num h3 rfl) val_c ⟨by decide, by decide⟩)) (val_var rfl) hm0
      · rw [List.concat_eq_append] at e
        subst e
        have e1 : (!(ys ++ [z]).isEmpty) = true := by simp
        rw [e1, if_pos rfl]
        have hb := h2.hb
        rw [List.map_append] at hb
        have hz : 0 ≤ z := h2.nn z (by simp)
        have hfew := h2.few
        simp only [List.length_append, List.length_singleton] at hfew
        -- rest = heap[0].pop()
        refine st_seq ?_
        refine lh_list h2 rfl _ ?_
        refine ⟨.inl ⟨rfl, _, SqL.of hb⟩, b, _, .int z, rfl, rfl, hb, by simp, ?_⟩
        have h3 := h2.cells (ds := ys) (by omega) (fun c hc => h2.nn c (List.mem_append_left _ hc))
        have e2 : (List.map V.int ys ++ List.map V.int [z]).dropLast = ys.map V.int := by simp
        rw [e2]
        -- heap[0].append(rest // many)
        refine st_seq ?_
        refine lh_list h3 rfl _ ?_
        refine ⟨.inl ⟨rfl, _, SqL.of h3.hb⟩, ?_⟩
        refine val_div (val_var rfl) (val_var rfl) ⟨hm0, hm1⟩ _ ?_
        refine ⟨b, _, _, rfl, rfl, h3.hb, ?_, ?_⟩
        · rw [List.length_map]
          exact Nat.lt_of_lt_of_le (show ys.length < 61 by omega) (by decide)
        · have h4 := h3.cells (ds := ys ++ [z / many]) (by simp only [List.length_append, List.length_singleton]; omega) (fun c hc => by
            rcases List.mem_append.mp hc with hc | hc
            · exact h2.nn c (List.mem_append_left _ hc)
            · rw [List.mem_singleton.mp hc]
              exact Int.ediv_nonneg hz (by omega))
          have e3 : (ys ++ [z / many]).map V.int = ys.map V.int ++ [V.int (z / many)] := by simp
          rw [e3] at h4
          dsimp only
          refine st_ret (v := .int (z % many)) ?_ ?_
          case refine_2 => exact q _ _ (Int.emod_nonneg _ (by omega)) (Int.emod_lt_of_pos _ hm0) ⟨_, _, h4⟩
          exact val_mod (val_int (val_var rfl)) (val_var rfl) hm0
end
end L5
namespace L5
open PySem PySem.Spec PyProof.Rows L2 Yb
def joinL (sep : List Nat) : List (List Nat) → List Nat
  | [] => []
  | [x] => x
  | x :: y :: r => x ++ sep ++ joinL sep (y :: r)
theorem joinL_nil : ∀ (ls : List (List Nat)), joinL [] ls = ls.flatten
  | [] => rfl
  | [x] => by simp [joinL]
  | x :: y :: r => by
    rw [joinL, joinL_nil (y :: r)]
    simp
theorem flat_ones : ∀ (ls : List (List Nat)), (∀ x ∈ ls, x.length = 1) → ls.flatten.length = ls.length
  | [], _ => rfl
  | x :: r, h => by
    rw [List.flatten_cons, List.length_append, h x List.mem_cons_self, flat_ones r fun y hy => h y (List.mem_cons_of_mem _ hy), List.length_cons]
    omega
theorem txt_join (sep : List Nat) : ∀ (ls : List (List Nat)), Txt.join (tx sep) (ls.map tx) = tx (joinL sep ls) := by
  have h : ∀ (ls : List (List Nat)), Str.join (tx sep) (ls.map tx) = tx (joinL sep ls) := by
    intro ls
    induction ls with
    | nil => rfl
    | cons x r ih =>
      cases r with
      | nil => rfl
      | cons y r =>
        show tx x ++ tx sep ++ Str.join (tx sep) ((y :: r).map tx) = _
        rw [ih, tx_app, tx_app]
        rfl
  intro ls
  rw [← h ls]
  exact PySem.StrLaws.glued_eq_join (tx sep) (ls.map tx)
section
variable {P : Program} {w : World} {K : PySem.W.Frag} {mg : Str → Option Value} {base : Heap}
/-! ### one of some -/
def spP (K : PySem.W.Frag) : Sp := fun vs H Q _ => ∃ (G : Hp) (a b s : Addr) (xs : List V), vs = [.ref a, .ref s] ∧ LH G H a b ∧ SqL K G s xs ∧ 0 < xs.length ∧ xs.length ≤ 1000000 ∧ ∀ (x : V) (H' : Hp), x ∈ xs → LH G H' a b → Q x H'
theorem okP {f fD : Addr} {fd fdD : FuncData} (F : Fun K "_law_pick" "_law_pick" sP f fd) (GD : FnOk P w K mg base CX0 1 fD fdD ["heap", "many"] spD) (gD : mg "_law_draw" = some (.ref fD)) (kD : PySem.W.keepIn K (.ref fD) = true) (bD : L2.Binds K fdD ["heap", "many"] [])
    (ml : mg "len" = none) : FnOk P w K mg base CX0 2 f fd ["heap", "some"] (spP K) := by
  refine F.ok scP (fun vs H Q E h => ?_) (fun cdv A outer s H vs Q E hr h => ?_)
  · obtain ⟨G, a, b, s, xs, rfl, _⟩ := h
    rfl
  · obtain ⟨G, a, b, s, xs, rfl, hL, hS, h0, h1, q⟩ := h
    refine ⟨_, pss_one (ps_ret (pe_ix ix_list (pv 1) (pe_call GD hr (by rfl) gD kD bD .nil pass0 (pa_cons (pv 0) (pa_cons (pe_callB call_len_seq (by rfl) ml PySem.boot_len (pa_cons (pv 1) pa_nil)) pa_nil))) (fun _ _ => rfl))), ?_⟩
    refine ⟨_, rfl, _, rfl, _, rfl, s, xs, rfl, .inl (hL.ext.seq hS), ?_⟩
    refine ⟨G, a, b, _, rfl, hL, by omega, by omega, fun r H' hr0 hr1 hL' => ?_⟩
    obtain ⟨k, rfl⟩ := Int.eq_ofNat_of_zero_le hr0
    have hk : k < xs.length := by omega
    refine ⟨s, xs, k, xs[k], rfl, rfl, hL'.ext.seq hS, atI_nat (List.getElem?_eq_getElem hk), ?_⟩
    exact q _ _ (List.getElem_mem hk) hL'
/-! ### a piece of a text -/
def okTx (n : Nat) (l : List Nat) : Prop := l.length ≤ n ∧ ∀ c ∈ l, c < 128
def spC : Sp := fun vs H Q _ => ∃ (G : Hp) (a b : Addr), vs = [.ref a] ∧ LH G H a b ∧ ∀ (l : List Nat) (H' : Hp), okTx 40 l → LH G H' a b → Q (.str (tx l)) H'
section
variable {σ : L2.St} {G H : Hp} {a b : Addr} {ta tb : TE}
theorem draw_go {Q : VK} {many : Int} (h : LH G H a b) (ha : Val ta σ H (.ref a)) (hb : Val tb σ H (.int many)) (h0 : 0 < many) (h1 : many < 1073741824) (q : ∀ (r : Nat) (H' : Hp), (r : Int) < many → LH G H' a b → Q (.int (r : Int)) H') :
    tCall spD [] E0 (tCons ta (tCons tb tNil)) σ H Q := by
  refine ha _ ?_
  refine hb _ ?_
  refine ⟨G, a, b, many, rfl, h, h0, h1, fun r H' hr0 hr1 hL => ?_⟩
  obtain ⟨k, rfl⟩ := Int.eq_ofNat_of_zero_le hr0
  exact q k H' hr1 hL
theorem pick_go {Q : VK} {s : Addr} {xs : List V} (h : LH G H a b) (ha : Val ta σ H (.ref a)) (hb : Val tb σ H (.ref s)) (hs : SqL K G s xs) (h0 : 0 < xs.length) (h1 : xs.length ≤ 1000000) (q : ∀ (x : V) (H' : Hp), x ∈ xs → LH G H' a b → Q x H') :
    tCall (spP K) [] E0 (tCons ta (tCons tb tNil)) σ H Q := by
  refine ha _ ?_
  refine hb _ ?_
  exact ⟨G, a, b, s, xs, rfl, h, hs, h0, h1, q⟩
/-- signs drawn one by one, joined -/
theorem join_draw {ta : TA} {src : List Nat} {y1 y2 y3 : Option V} {Q : VK} (hsrc : okTx 10 src ∧ src.length = 10) (hv : ∀ R : List V → Hp → Prop, (∀ (n : Nat) (H' : Hp), n ≤ 30 → LH G H' a b → R [.int (n : Int)] H') → ta [some (.ref a), y1, y2, y3] H R)
    (q : ∀ (l : List Nat) (H' : Hp), okTx 40 l → LH G H' a b → Q (.str (tx l)) H') :
    tM1 (fun x xs H Q => ∃ a p, ∃ ys : List Str, x = .str a ∧ xs = [.ref p] ∧ (SqL K H p (ys.map V.str) ∨ SqT K H p (ys.map V.str)) ∧ (ys.map (·.length)).sum + ys.length * a.length ≤ 16777216 ∧ Q (.str (Txt.join a ys)) H)
      (tC (.str "")) (tLc (iRng1 ta) (gName 3) tYes (tOp rIxS (tC (.str (tx src))) (tCall spD [] E0 (tCons (tVar 0) (tCons (tC (.int 10)) tNil)))) [3]) [some (.ref a), y1, y2, y3] H Q := by
  refine ⟨⟨_, rfl⟩, ?_⟩
  refine hv _ fun n H1 hn hL => ?_
  refine ⟨(n : Int), rfl, by omega, by omega, fun D nD => ?_⟩
  refine lc_range (lo := 0) (n := (n : Int).toNat) (fun i H2 => ∃ ls : List (List Nat), ls.length = i ∧ (∀ x ∈ ls, ∃ c : Nat, x = [c] ∧ c < 128) ∧ LH (upd G D (.lst (ls.map fun x => V.str (tx x)))) H2 a b) ⟨[], rfl, (fun x hx => by cases hx), ?_⟩ ?_ ?_
  · exact hL.new nD
  · rintro i H2 hi ⟨ls, hls, hc, hL2⟩
    refine ⟨rfl, ?_⟩
    unfold tYes
    dsimp only
    rw [if_pos rfl]
    refine draw_go hL2 (val_var rfl) val_c (by decide) (by decide) fun r H3 hr hL3 => ?_
    have hr2 : r < src.length := by omega
    refine ⟨tx src, _, src[r], rfl, rfl, ?_, ?_, ?_⟩
    · rw [tx_len, hsrc.2]
      decide
    · rw [tx_cps]
      exact atI_nat (List.getElem?_eq_getElem hr2)
    · refine ⟨_, hL3.at, ?_, ls ++ [[src[r]]], by simp [hls], ?_, ?_⟩
      · rw [List.length_map, hls]
        exact Nat.lt_of_lt_of_le (show i < 31 by omega) (by decide)
      · intro x hx
        rcases List.mem_append.mp hx with hx | hx
        · exact hc x hx
        · exact ⟨src[r], List.mem_singleton.mp hx, hsrc.1.2 _ (List.getElem_mem hr2)⟩
      · rw [List.map_append]
        exact hL3.put
  · rintro H2 ⟨ls, hls, hc, hL2⟩
    have hlen : ls.length ≤ 30 := by
      rw [hls]
      omega
    have hflat : okTx 30 (joinL [] ls) := by
      rw [joinL_nil]
      refine ⟨?_, fun c hcm => ?_⟩
      · rw [flat_ones ls fun x hx => by
          obtain ⟨c, rfl, _⟩ := hc x hx
          rfl]
        exact hlen
      · obtain ⟨x, hx, hcx⟩ := List.mem_flatten.mp hcm
        obtain ⟨d, rfl, hd⟩ := hc x hx
        rw [List.mem_singleton.mp hcx]
        exact hd
    have em : (ls.map fun x => V.str (tx x)) = (ls.map tx).map V.str := by
      rw [List.map_map]
      rfl
    refine ⟨("" : Str), D, ls.map tx, rfl, rfl, .inl (SqL.of ?_), ?_, ?_⟩
    · rw [← em]
      exact hL2.at
    · rw [List.map_map]
      have e1 : (ls.map ((fun x : Str => x.length) ∘ tx)).sum ≤ 30 * 1 := by
        have : ∀ (zs : List (List Nat)), (∀ x ∈ zs, ∃ c : Nat, x = [c] ∧ c < 128) → (zs.map ((fun x : Str => x.length) ∘ tx)).sum = zs.length := by
          intro zs
          induction zs with
          | nil => intro _; rfl
          | cons z zs ih =>
            intro hz
            obtain ⟨c, rfl, _⟩ := hz _ List.mem_cons_self
            rw [List.map_cons, List.sum_cons, ih fun x hx => hz x (List.mem_cons_of_mem _ hx), List.length_cons]
            show (tx [c]).length + _ = _
            rw [tx_len, List.length_singleton]
            omega
        rw [this ls hc]
        omega
      have e2 : ("" : Str).length = 0 := by decide +kernel
      rw [e2]
      omega
    · have e3 : ("" : Str) = tx [] := by decide +kernel
      rw [e3, txt_join]
      exact q _ _ ⟨by have := hflat.1; omega, hflat.2⟩ (hL2.sub (same_new (hL.fresh nD)))
end
def signsA : List V := [.str "\n", .str "=", .str "/", .str "-", .str ",", .str ";", .str ":", .str "!", .str "&", .str "|", .str "(", .str ")", .str "A", .str "Z", .str "~", .str "_", .str "@", .str "{", .str "[", .str "?", .str "\n", .str ".", .str "$"]
def signsB : List V := [.str "\\", .str "#", .str "*", .str "`", .str "+", .str "-", .str "-"]
def good (v : V) : Bool := match v with
  | .str z => z.cps.toList.length == 1 && z.cps.toList.all fun c => decide (c < 128)
  | _ => false
theorem good_sign (v : V) (h : good v = true) : ∃ c : Nat, v = .str (tx [c]) ∧ c < 128 := by
  unfold good at h
  split at h
  · rename_i z
    rw [Bool.and_eq_true] at h
    have h1 := eq_of_beq h.1
    match e : z.cps.toList, h1 with
    | [c], _ =>
      have h2 := h.2
      rw [e] at h2
      refine ⟨c, ?_, by simpa using h2⟩
      rw [tx_of z, e]
  · cases h
theorem okC {f fD fP : Addr} {fd fdD fdP : FuncData} (F : Fun K "_law_piece" "_law_piece" sC f fd) (GD : FnOk P w K mg base CX0 1 fD fdD ["heap", "many"] spD) (gD : mg "_law_draw" = some (.ref fD)) (kD : PySem.W.keepIn K (.ref fD) = true) (bD : L2.Binds K fdD ["heap", "many"] [])
    (GP : FnOk P w K mg base CX0 2 fP fdP ["heap", "some"] (spP K)) (gP : mg "_law_pick" = some (.ref fP)) (kP : PySem.W.keepIn K (.ref fP) = true) (bP : L2.Binds K fdP ["heap", "some"] []) (mr : mg "range" = none) : FnOk P w K mg base CX0 3 f fd ["heap"] spC := by
  refine F.ok scC (fun vs H Q E h => ?_) (fun cdv A outer s H vs Q E hr h => ?_)
  · obtain ⟨G, a, b, rfl, _⟩ := h
    rfl
  · obtain ⟨G, a, b, rfl, hL, q⟩ := h
    have hr1 : Room 1 (A.deeper (envOfC "_law_piece" (defScope sC) s.heap.objs.size f cdv)) := hr.mono (by decide)
    refine ⟨_, pss_cons (ps_set (i := 1) scC.nd rfl (.inl rfl) (pe_call GD hr1 (by rfl) gD kD bD .nil pass0 (pa_cons (pv 0) (pa_cons pe_int pa_nil))))
      (pss_cons (ps_if (pt_cmpR op_lt (pv 1) pe_int (nomark _))
        (pss_one (ps_ret (pe_join pe_str (pe_lc (own := [("turn", 3)]) (g := gName 3) (tt := tYes) rfl scC.nd
          (pi_range1 rfl mr (pa_cons (pe_op op_add pe_int (pe_call GD hr1 (by rfl) gD kD bD .nil pass0 (pa_cons (pv 0) (pa_cons (pe_call GP hr (by rfl) gP kP bP .nil pass0 (pa_cons (pv 0) (pa_cons (pe_lst (pa_cons pe_int (pa_cons pe_int (pa_cons pe_int pa_nil)))) pa_nil))) pa_nil)))) pa_nil))
          (blkOk_by (own := [("turn", 3)]) (N := ["heap", "sort", "some", "turn"]) (sc := defScope sC) (by decide +kernel)) (fun _ _ _ _ _ => pg_name (i := 3) scC.nd rfl (.inl rfl)) (fun _ _ _ _ _ => pts_nil)
          (fun _ _ _ _ _ => pe_ix ix_str pe_str (pe_call GD hr1 (by rfl) gD kD bD .nil pass0 (pa_cons (pv 0) (pa_cons pe_int pa_nil))) (fun _ _ => rfl)))))) pss_nil)
      (pss_cons (ps_if (pt_cmpR op_lt (pv 1) pe_int (nomark _))
        (pss_one (ps_ret (pe_join pe_str (pe_lc (own := [("turn", 3)]) (g := gName 3) (tt := tYes) rfl scC.nd
          (pi_range1 rfl mr (pa_cons (pe_op op_add pe_int (pe_call GD hr1 (by rfl) gD kD bD .nil pass0 (pa_cons (pv 0) (pa_cons (pe_call GP hr (by rfl) gP kP bP .nil pass0 (pa_cons (pv 0) (pa_cons (pe_lst (pa_cons pe_int (pa_cons pe_int (pa_cons pe_int pa_nil)))) pa_nil))) pa_nil)))) pa_nil))
          (blkOk_by (own := [("turn", 3)]) (N := ["heap", "sort", "some", "turn"]) (sc := defScope sC) (by decide +kernel)) (fun _ _ _ _ _ => pg_name (i := 3) scC.nd rfl (.inl rfl)) (fun _ _ _ _ _ => pts_nil)
          (fun _ _ _ _ _ => pe_ix ix_str pe_str (pe_call GD hr1 (by rfl) gD kD bD .nil pass0 (pa_cons (pv 0) (pa_cons pe_int pa_nil))) (fun _ _ => rfl)))))) pss_nil)
      (pss_cons (ps_if (pt_cmpR op_eq (pv 1) pe_int (nomark _)) (pss_one (ps_ret (pe_op op_mulS pe_str (pe_op op_add pe_int (pe_call GD hr1 (by rfl) gD kD bD .nil pass0 (pa_cons (pv 0) (pa_cons pe_int pa_nil))))))) pss_nil)
      (pss_cons (ps_set (i := 2) scC.nd rfl (.inl rfl) (pe_lst (pa_cons pe_str (pa_cons pe_str (pa_cons pe_str (pa_cons pe_str (pa_cons pe_str (pa_cons pe_str (pa_cons pe_str (pa_cons pe_str (pa_cons pe_str (pa_cons pe_str (pa_cons pe_str (pa_cons pe_str (pa_cons pe_str (pa_cons pe_str (pa_cons pe_str (pa_cons pe_str (pa_cons pe_str (pa_cons pe_str (pa_cons pe_str (pa_cons pe_str (pa_cons pe_str (pa_cons pe_str (pa_cons pe_str pa_nil)))))))))))))))))))))))))
      (pss_one (ps_ret (pe_call GP hr (by rfl) gP kP bP .nil pass0 (pa_cons (pv 0) (pa_cons (pe_op op_cat (pv 2) (pe_lst (pa_cons pe_str (pa_cons pe_str (pa_cons pe_str (pa_cons pe_str (pa_cons pe_str (pa_cons pe_str (pa_cons pe_str pa_nil))))))))) pa_nil))))))))), ?_⟩
    -- the number of turns
    have turns : ∀ (H0 : Hp) (y1 y2 y3 : Option V) (m1 m2 m3 : Int), LH G H0 a b → (∀ m ∈ [m1, m2, m3], 0 < m ∧ m ≤ 30) → ∀ R : List V → Hp → Prop, (∀ (n : Nat) (H' : Hp), n ≤ 30 → LH G H' a b → R [.int (n : Int)] H') →
        tCons (tOp (rI0 fun i j => .int (i + j)) (tC (.int 1)) (tCall spD [] E0 (tCons (tVar 0) (tCons (tCall (spP K) [] E0 (tCons (tVar 0) (tCons (tLst (tCons (tC (.int m1)) (tCons (tC (.int m2)) (tCons (tC (.int m3)) tNil)))) tNil))) tNil)))) tNil
          [some (.ref a), y1, y2, y3] H0 R := by
      intro H0 y1 y2 y3 m1 m2 m3 h0 hm R hR
      refine ⟨_, rfl, _, rfl, by show 3 ≤ sizeLine; decide, fun p hp => ?_⟩
      have h1 := h0.new (u := .lst [.int m1, .int m2, .int m3]) hp
      refine ⟨_, a, b, p, _, rfl, h1, SqL.of upd_same, by show 0 < 3; decide, by show 3 ≤ 1000000; decide, fun x H1 hx h2 => ?_⟩
      obtain ⟨m, hm1, rfl⟩ : ∃ m ∈ [m1, m2, m3], x = V.int m := by
        simp only [List.mem_cons, List.not_mem_nil, or_false] at hx
        rcases hx with rfl | rfl | rfl
        · exact ⟨m1, by simp, rfl⟩
        · exact ⟨m2, by simp, rfl⟩
        · exact ⟨m3, by simp, rfl⟩
      obtain ⟨g0, g1⟩ := hm m hm1
      refine ⟨_, a, b, m, rfl, h2, g0, by omega, fun r H2 hr0 hr1 h3 => ?_⟩
      obtain ⟨k, rfl⟩ := Int.eq_ofNat_of_zero_le hr0
      refine ⟨1, _, rfl, rfl, ?_⟩
      have e : (1 : Int) + (k : Int) = ((1 + k : Nat) : Int) := by omega
      show R [.int ((1 : Int) + (k : Int))] H2
      rw [e]
      exact hR _ _ (by omega) (h3.sub (same_new (h0.fresh hp)))
    refine st_seq (draw_go hL (val_var rfl) val_c (by decide) (by decide) fun r H1 hr1 h1 => ?_)
    have elt : ∀ (m : Int) {σ' : L2.St} {H' : Hp}, σ'[1]? = some (some (.int (r : Int))) → Ans (tTest (tOp (rI0 fun i j => .bl (decide (i < j))) (tVar 1) (tC (.int m)))) σ' H' (decide ((r : Int) < m)) := fun m _ _ e => ans_lt (val_var e) val_c
    by_cases c1 : (r : Int) < 2
    · refine st_seq (st_yes ((elt 2 rfl).to (decide_eq_true c1)) ?_)
      refine tRet_go ?_
      exact join_draw (src := [97, 98, 99, 120, 121, 122, 110, 111, 114, 117]) ⟨⟨by decide, by decide⟩, rfl⟩ (turns _ _ _ _ 3 7 30 h1 (by decide)) q
    · refine st_seq (st_no ((elt 2 rfl).to (decide_eq_false c1)) (st_next ?_))
      by_cases c2 : (r : Int) < 4
      · refine st_seq (st_yes ((elt 4 rfl).to (decide_eq_true c2)) ?_)
        refine tRet_go ?_
        exact join_draw (src := [48, 49, 50, 51, 52, 53, 54, 55, 56, 57]) ⟨⟨by decide, by decide⟩, rfl⟩ (turns _ _ _ _ 2 4 12 h1 (by decide)) q
      · refine st_seq (st_no ((elt 4 rfl).to (decide_eq_false c2)) (st_next ?_))
        by_cases c3 : V.int (r : Int) = V.int 4
        · refine st_seq (st_yes (ans_eq (val_var rfl) val_c rfl (decide_eq_true c3)) ?_)
          refine tRet_go (tOp_go ?_)
          show tOp (rI0 fun i j => .int (i + j)) (tC (.int 1)) (tCall spD [] E0 (tCons (tVar 0) (tCons (tC (.int 3)) tNil))) _ _ _
          refine tOp_go ?_
          show tCall spD [] E0 (tCons (tVar 0) (tCons (tC (.int 3)) tNil)) _ _ _
          refine draw_go h1 (val_var rfl) val_c (by decide) (by decide) fun r2 H2 hr2 h2 => ?_
          refine ⟨1, _, rfl, rfl, ?_⟩
          refine ⟨[32], 1 + r2, ?_, ?_, by omega, by decide, q _ _ ⟨?_, ?_⟩ h2⟩
          · exact congrArg V.str (by decide +kernel)
          · show V.int ((1 : Int) + (r2 : Int)) = V.int ((1 + r2 : Nat) : Int)
            congr 1
          · unfold mulS
            rw [flat_ones _ fun x hx => by rw [List.eq_of_mem_replicate hx]; rfl, List.length_replicate]
            omega
          · intro c hc
            obtain ⟨x, hx, hcx⟩ := List.mem_flatten.mp hc
            rw [List.eq_of_mem_replicate hx] at hcx
            rw [List.mem_singleton.mp hcx]
            decide
        · refine st_seq (st_no (ans_eq (val_var rfl) val_c rfl (decide_eq_false c3)) (st_next ?_))
          refine ⟨by show 23 ≤ sizeLine; decide, fun p hp => ?_⟩
          have h2 := h1.new (u := .lst signsA) hp
          refine ⟨_, rfl, ?_⟩
          refine ⟨_, rfl, by show 7 ≤ sizeLine; decide, fun p2 hp2 => ?_⟩
          have hpp : p ≠ p2 := by
            intro e
            rw [← e, upd_same] at hp2
            cases hp2
          have h3 := h2.new (u := .lst signsB) hp2
          refine ⟨p, p2, signsA, signsB, rfl, rfl, Eq.trans (upd_ne hpp) upd_same, upd_same, by show 30 ≤ sizeLine; decide, fun p3 hp3 => ?_⟩
          have h4 := h3.new (u := .lst (signsA ++ signsB)) hp3
          refine ⟨_, a, b, p3, _, rfl, h4, SqL.of upd_same, by show 0 < 30; decide, by show 30 ≤ 1000000; decide, fun x H5 hx h5 => ?_⟩
          obtain ⟨c, rfl, hc⟩ := good_sign x (List.all_eq_true.mp (by decide +kernel) x hx)
          refine q [c] H5 ⟨by simp, fun d hd => by rw [List.mem_singleton.mp hd]; exact hc⟩ (h5.sub ?_)
          exact ((same_new (h1.fresh hp)).trans (same_new (h2.fresh hp2))).trans (same_new (h3.fresh hp3))
end
end L5
namespace L5
open PySem PySem.Spec PyProof.Rows L2 Yb
/-! ### both ways to cut a text find the same marks -/
theorem last_snoc (ys : List Tw) (t : Tw) : (ys ++ [t]).getLast? = some t := by simp
theorem cls32 : cls 32 = 0 := by decide
theorem cls10 : cls 10 = 0 := by decide
def blocked (found : List Tw) (line col : Nat) (l : List Nat) : Prop := ∀ c r t, l = c :: r → found.getLast? = some t → 0 < cls c → ¬ joins t line col c
def settled (found : List Tw) (line col : Nat) : Prop := ∀ t, found.getLast? = some t → t.2.2.2 = 0 ∨ t.1 < line ∨ (t.1 = line ∧ t.2.1 + t.2.2.1.length ≤ col)
theorem stepF_blocked {found : List Tw} {line col c : Nat} {r : List Nat} (h : blocked found line col (c :: r)) : stepF found line col c = addF found line col c := by
  unfold stepF
  split
  · rename_i t he
    rw [if_neg]
    rintro ⟨h0, hj⟩
    exact h c r t rfl he h0 hj
  · rfl
/-- a run goes on -/
theorem run_on {k : Nat} (hk : 0 < k) : ∀ (r : List Nat) (fnd : List Tw) (line a col : Nat) (m : List Nat), a + m.length = col →
    r.foldl stepW (fnd ++ [(line, a, m, k)], line, col) = (r.drop (runLen k r)).foldl stepW (fnd ++ [(line, a, m ++ r.take (runLen k r), k)], line, col + runLen k r)
  | [], fnd, line, a, col, m, _ => by
    have e : runLen k [] = 0 := rfl
    rw [e, List.take_nil, List.append_nil, List.drop_nil]
    rfl
  | x :: r, fnd, line, a, col, m, hm => by
    by_cases hx : cls x = k
    · have e1 : stepW (fnd ++ [(line, a, m, k)], line, col) x = (fnd ++ [(line, a, m ++ [x], k)], line, col + 1) := by
        unfold stepW
        have e2 : stepF (fnd ++ [(line, a, m, k)]) line col x = fnd ++ [(line, a, m ++ [x], k)] := by
          unfold stepF
          rw [last_snoc]
          show (if 0 < cls x ∧ joins (line, a, m, k) line col x then _ else _) = _
          rw [if_pos ⟨by omega, hx.symm, rfl, hm⟩, List.dropLast_concat]
          show fnd ++ [(line, a, m ++ [x], cls x)] = _
          rw [hx]
        have e3 : x ≠ 10 := by
          intro e
          rw [e, cls10] at hx
          omega
        show (stepF (fnd ++ [(line, a, m, k)]) line col x, if x = 10 then (line + 1, 0) else (line, col + 1)) = _
        rw [e2, if_neg e3]
      rw [List.foldl_cons, e1, run_on hk r fnd line a (col + 1) (m ++ [x]) (by rw [List.length_append, List.length_singleton]; omega), runLen_yes hx]
      rw [show (x :: r).drop (1 + runLen k r) = r.drop (runLen k r) by rw [Nat.add_comm]; rfl, show (x :: r).take (1 + runLen k r) = x :: r.take (runLen k r) by rw [Nat.add_comm]; rfl,
        List.append_assoc, List.singleton_append, show col + 1 + runLen k r = col + (1 + runLen k r) by omega]
    · rw [runLen_no hx, List.take_zero, List.drop_zero, List.append_nil]
      rfl
theorem runLen_head {k : Nat} : ∀ (r : List Nat) (c : Nat) (q : List Nat), r.drop (runLen k r) = c :: q → cls c ≠ k
  | [], c, q, h => by
    rw [List.drop_nil] at h
    cases h
  | x :: r, c, q, h => by
    by_cases hx : cls x = k
    · rw [runLen_yes hx, Nat.add_comm] at h
      exact runLen_head r c q h
    · rw [runLen_no hx, List.drop_zero] at h
      injection h with h1 h2
      rw [← h1]
      exact hx
theorem fold_toks : ∀ (n : Nat) (l : List Nat) (found : List Tw) (line col : Nat), l.length ≤ n → blocked found line col l → settled found line col →
    (l.foldl stepW (found, line, col)).1.map wTk = found.map wTk ++ toks l line col
  | _, [], found, line, col, _, _, _ => by
    rw [toks_nil, List.append_nil]
    rfl
  | 0, c :: r, _, _, _, h, _, _ => by
    rw [List.length_cons] at h
    omega
  | n + 1, c :: r, found, line, col, hn, hb, hs => by
    rw [List.length_cons] at hn
    have e0 : stepF found line col c = addF found line col c := stepF_blocked hb
    rw [List.foldl_cons, toks_cons]
    by_cases h32 : c = 32
    · subst h32
      have e1 : stepW (found, line, col) 32 = (found, line, col + 1) := by
        show (stepF found line col 32, if 32 = 10 then (line + 1, 0) else (line, col + 1)) = _
        rw [e0, if_neg (by decide)]
        unfold addF
        rw [if_pos rfl]
      rw [e1, markEnd_sp, if_pos rfl, if_neg (by decide), List.nil_append, List.drop_zero, Nat.add_zero]
      refine fold_toks n r found line (col + 1) (by omega) ?_ ?_
      · intro d q t _ ht h0 ⟨j1, j2, j3⟩
        rcases hs t ht with z | z | ⟨z1, z2⟩ <;> omega
      · intro t ht
        rcases hs t ht with z | z | ⟨z1, z2⟩
        · exact .inl z
        · exact .inr (.inl z)
        · exact .inr (.inr ⟨z1, by omega⟩)
    · have ea : addF found line col c = found ++ [(line, col, [c], cls c)] := by
        unfold addF
        rw [if_neg h32]
      rw [if_neg h32]
      by_cases hk : cls c = 0
      · have em : markEnd c r = 0 := by
          unfold markEnd
          rw [if_pos hk]
        rw [em, List.take_zero, List.drop_zero, Nat.add_zero]
        have next : ∀ line' col', (r.foldl stepW (found ++ [(line, col, [c], cls c)], line', col')).1.map wTk = found.map wTk ++ ([(line, col, [c])] ++ toks r line' col') := by
          intro line' col'
          rw [fold_toks n r _ line' col' (by omega) ?_ ?_]
          · rw [List.map_append, List.append_assoc]
            rfl
          · intro d q t _ ht h0 ⟨j1, _, _⟩
            rw [last_snoc] at ht
            cases ht
            have j1' : cls c = cls d := j1
            omega
          · intro t ht
            rw [last_snoc] at ht
            cases ht
            exact .inl hk
        by_cases h10 : c = 10
        · have e1 : stepW (found, line, col) c = (found ++ [(line, col, [c], cls c)], line + 1, 0) := by
            show (stepF found line col c, if c = 10 then (line + 1, 0) else (line, col + 1)) = _
            rw [e0, ea, if_pos h10]
          rw [e1, if_pos h10]
          exact next _ _
        · have e1 : stepW (found, line, col) c = (found ++ [(line, col, [c], cls c)], line, col + 1) := by
            show (stepF found line col c, if c = 10 then (line + 1, 0) else (line, col + 1)) = _
            rw [e0, ea, if_neg h10]
          rw [e1, if_neg h10]
          exact next _ _
      · have em : markEnd c r = runLen (cls c) r := by
          unfold markEnd
          rw [if_neg hk]
        have h10 : c ≠ 10 := by
          intro e
          rw [e] at hk
          exact hk cls10
        have e1 : stepW (found, line, col) c = (found ++ [(line, col, [c], cls c)], line, col + 1) := by
          show (stepF found line col c, if c = 10 then (line + 1, 0) else (line, col + 1)) = _
          rw [e0, ea, if_neg h10]
        rw [e1, if_neg h10, em, run_on (by omega) r found line col (col + 1) [c] rfl]
        have hle := runLen_le (cls c) r
        rw [fold_toks n _ _ line _ (by rw [List.length_drop]; omega) ?_ ?_]
        · rw [List.map_append, List.append_assoc]
          rfl
        · intro d q t hd ht h0 ⟨j1, _, _⟩
          rw [last_snoc] at ht
          cases ht
          exact runLen_head r d q hd j1.symm
        · intro t ht
          rw [last_snoc] at ht
          cases ht
          refine .inr (.inr ⟨rfl, ?_⟩)
          show col + ([c] ++ r.take (runLen (cls c) r)).length ≤ col + 1 + runLen (cls c) r
          rw [List.length_append, List.length_singleton, List.length_take]
          omega
theorem marksW_eq (l : List Nat) : marksW l = toks l 0 0 := by
  have h := fold_toks l.length l [] 0 0 (Nat.le_refl _) (fun c r t _ ht => by cases ht) (fun t ht => by cases ht)
  rw [List.map_nil, List.nil_append] at h
  exact h
/-! ### what the marks are -/
def goodM (m : List Nat) : Prop := ∃ c r, m = c :: r ∧ c ≠ 32 ∧ ((cls c = 0 ∧ r = []) ∨ (0 < cls c ∧ ∀ x ∈ r, cls x = cls c))
theorem take_run {k : Nat} : ∀ (r : List Nat), ∀ x ∈ r.take (runLen k r), cls x = k
  | [], x, h => by
    rw [List.take_nil] at h
    cases h
  | y :: r, x, h => by
    by_cases hy : cls y = k
    · rw [runLen_yes hy, Nat.add_comm, List.take_succ_cons] at h
      rcases List.mem_cons.mp h with rfl | h
      · exact hy
      · exact take_run r x h
    · rw [runLen_no hy, List.take_zero] at h
      cases h
/-- of a text's marks: all are good, all signs are the text's, few, and together not longer than it -/
theorem toks_facts : ∀ (n : Nat) (l : List Nat) (line col : Nat), l.length ≤ n →
    (∀ t ∈ toks l line col, goodM t.2.2 ∧ (∀ x ∈ t.2.2, x ∈ l) ∧ t.1 ≤ line + l.length ∧ t.2.1 ≤ col + l.length) ∧ (toks l line col).length + ((toks l line col).map fun t => t.2.2.length).sum ≤ 2 * l.length
  | _, [], line, col, _ => by
    rw [toks_nil]
    exact ⟨(fun t ht => by cases ht), Nat.le_refl _⟩
  | 0, c :: r, _, _, h => by
    rw [List.length_cons] at h
    omega
  | n + 1, c :: r, line, col, h => by
    rw [List.length_cons] at h
    have hle := markEnd_le c r
    have hd : (r.drop (markEnd c r)).length = r.length - markEnd c r := List.length_drop
    have hrest : ∃ l2 c2, (if c = 10 then toks (r.drop (markEnd c r)) (line + 1) 0 else toks (r.drop (markEnd c r)) line (col + 1 + markEnd c r)) = toks (r.drop (markEnd c r)) l2 c2 ∧ l2 ≤ line + 1 ∧ c2 ≤ col + 1 + markEnd c r := by
      by_cases h10 : c = 10
      · rw [if_pos h10]
        exact ⟨_, _, rfl, Nat.le_refl _, Nat.zero_le _⟩
      · rw [if_neg h10]
        exact ⟨_, _, rfl, by omega, Nat.le_refl _⟩
    obtain ⟨l2, c2, e, b1, b2⟩ := hrest
    obtain ⟨f1, f2⟩ := toks_facts n (r.drop (markEnd c r)) l2 c2 (by omega)
    rw [toks_cons, e]
    have up : ∀ t ∈ toks (r.drop (markEnd c r)) l2 c2, goodM t.2.2 ∧ (∀ x ∈ t.2.2, x ∈ c :: r) ∧ t.1 ≤ line + (c :: r).length ∧ t.2.1 ≤ col + (c :: r).length := by
      intro t ht
      obtain ⟨g1, g2, g3, g4⟩ := f1 t ht
      rw [List.length_cons]
      exact ⟨g1, fun x hx => List.mem_cons_of_mem _ (List.mem_of_mem_drop (g2 x hx)), by omega, by omega⟩
    by_cases h32 : c = 32
    · rw [if_pos h32, List.nil_append, List.length_cons]
      exact ⟨fun t ht => by have := up t ht; rw [List.length_cons] at this; exact this, by omega⟩
    · rw [if_neg h32]
      constructor
      · intro t ht
        rcases List.mem_append.mp ht with ht | ht
        · obtain rfl := List.mem_singleton.mp ht
          refine ⟨⟨c, r.take (markEnd c r), rfl, h32, ?_⟩, ?_, Nat.le_add_right _ _, Nat.le_add_right _ _⟩
          · unfold markEnd
            by_cases hk : cls c = 0
            · rw [if_pos hk]
              exact .inl ⟨hk, rfl⟩
            · rw [if_neg hk]
              exact .inr ⟨by omega, take_run r⟩
          · intro x hx
            rcases List.mem_cons.mp hx with rfl | hx
            · exact List.mem_cons_self
            · exact List.mem_cons_of_mem _ (List.mem_of_mem_take hx)
        · exact up t ht
      · rw [List.length_append, List.map_append, List.sum_append, List.length_cons]
        simp only [List.length_singleton, List.map_cons, List.map_nil, List.sum_cons, List.sum_nil, List.length_cons, List.length_take, List.length_nil]
        omega
/-! ### marks joined by blanks are cut into these again -/
theorem runLen_all {k : Nat} : ∀ (r t : List Nat), (∀ x ∈ r, cls x = k) → (∀ c q, t = c :: q → cls c ≠ k) → runLen k (r ++ t) = r.length
  | [], t, _, ht => by
    cases t with
    | nil => rfl
    | cons c q => exact runLen_no (ht c q rfl)
  | x :: r, t, hr, ht => by
    rw [List.cons_append, runLen_yes (hr x List.mem_cons_self), runLen_all r t (fun y hy => hr y (List.mem_cons_of_mem _ hy)) ht, List.length_cons]
    omega
theorem toks_good {m : List Nat} (hg : goodM m) (t : List Nat) (ht : ∀ c q, t = c :: q → c = 32) (line col : Nat) : ∃ l2 c2, toks (m ++ t) line col = (line, col, m) :: toks t l2 c2 := by
  obtain ⟨c, r, rfl, h32, hc⟩ := hg
  have e : markEnd c (r ++ t) = r.length := by
    unfold markEnd
    rcases hc with ⟨h0, rfl⟩ | ⟨h0, hr⟩
    · rw [if_pos h0]
      rfl
    · rw [if_neg (by omega)]
      refine runLen_all r t hr fun d q hd => ?_
      rw [ht d q hd, cls32]
      omega
  rw [List.cons_append, toks_cons, e, if_neg h32, List.take_left, List.drop_left]
  by_cases h10 : c = 10
  · rw [if_pos h10]
    exact ⟨_, _, rfl⟩
  · rw [if_neg h10]
    exact ⟨_, _, rfl⟩
theorem toks_joined : ∀ (ms : List (List Nat)), (∀ m ∈ ms, goodM m) → ∀ line col, (toks (joinL [32] ms) line col).map (fun t => t.2.2) = ms
  | [], _, line, col => by
    show (toks [] line col).map _ = []
    rw [toks_nil]
    rfl
  | [m], h, line, col => by
    obtain ⟨l2, c2, e⟩ := toks_good (h m List.mem_cons_self) [] (fun c q hq => by cases hq) line col
    rw [List.append_nil] at e
    show (toks m line col).map _ = [m]
    rw [e, toks_nil]
    rfl
  | m :: m2 :: ms, h, line, col => by
    have e0 : joinL [32] (m :: m2 :: ms) = m ++ (32 :: joinL [32] (m2 :: ms)) := by
      show m ++ [32] ++ joinL [32] (m2 :: ms) = _
      rw [List.append_assoc]
      rfl
    obtain ⟨l2, c2, e⟩ := toks_good (h m List.mem_cons_self) (32 :: joinL [32] (m2 :: ms)) (fun c q hq => by injection hq with h1 _; exact h1.symm) line col
    rw [e0, e, List.map_cons, toks_cons, markEnd_sp, if_pos rfl, if_neg (by decide), List.nil_append, List.drop_zero, toks_joined (m2 :: ms) (fun x hx => h x (List.mem_cons_of_mem _ hx))]
theorem joinL_len : ∀ (ms : List (List Nat)), (joinL [32] ms).length ≤ ms.length + (ms.map List.length).sum
  | [] => Nat.zero_le _
  | [m] => by
    show m.length ≤ _
    simp
  | m :: m2 :: ms => by
    have h := joinL_len (m2 :: ms)
    show (m ++ [32] ++ joinL [32] (m2 :: ms)).length ≤ _
    simp only [List.length_append, List.length_cons, List.map_cons, List.sum_cons, List.length_nil] at h ⊢
    omega
theorem joinL_small : ∀ (ms : List (List Nat)), (∀ m ∈ ms, ∀ c ∈ m, c < 128) → ∀ c ∈ joinL [32] ms, c < 128
  | [], _, c, hc => by cases hc
  | [m], h, c, hc => h m List.mem_cons_self c hc
  | m :: m2 :: ms, h, c, hc => by
    have hc' : c ∈ m ++ [32] ++ joinL [32] (m2 :: ms) := hc
    rcases List.mem_append.mp hc' with hc | hc
    · rcases List.mem_append.mp hc with hc | hc
      · exact h m List.mem_cons_self c hc
      · rw [List.mem_singleton.mp hc]
        decide
    · exact joinL_small (m2 :: ms) (fun x hx => h x (List.mem_cons_of_mem _ hx)) c hc
end L5
namespace L5
open PySem PySem.Spec PyProof.Rows L2 Yb
section
variable {K : PySem.W.Frag} {σ : L2.St} {H : Hp} {ta tb te : TE}
/-! ### the calls, as data -/
def dMs (ts : List Tk) : PyData := .tuple (ts.map dTk)
def dSs (ls : List (List Nat)) : PyData := .list (ls.map fun l => PyData.str (tx l))
theorem ed_M {l : List Nat} (h : Ed K te σ H (.str (tx l))) (hl : l.length ≤ 100000) : Ed K (tCall (spM K) [] E0 (tCons te tNil)) σ H (dMs (toks l 0 0)) := by
  refine ed_call (eds_cons h eds_nil) fun vs H1 Q s1 hv q => ?_
  obtain ⟨v, r, rfl, h1, h2⟩ := dps_cons hv
  obtain rfl := dps_nil h2
  obtain rfl := dp_str h1
  exact ⟨l, rfl, hl, fun p H2 s2 _ hd => q _ H2 s2 hd⟩
theorem ed_M0 {l : List Nat} (h : Ed K te σ H (.str (tx l))) (hl : l.length ≤ 100000) : Ed K (tCallK0 (spM K) (fun vs zs => vs ++ zs) E0 (tCons te tNil)) σ H (dMs (toks l 0 0)) := by
  intro H1 s1 Q q
  refine h H1 s1 _ fun v H2 s2 hv => ?_
  obtain rfl := dp_str hv
  exact ⟨l, rfl, hl, fun p H3 s3 _ hd => q _ H3 (s2.trans s3) hd⟩
theorem ed_W {l : List Nat} (h : Ed K te σ H (.str (tx l))) (hl : l.length ≤ 100000) (hs : ∀ c ∈ l, c < 128) : Ed K (tCall (spW K) [] E0 (tCons te tNil)) σ H (.list ((toks l 0 0).map dTk)) := by
  refine ed_call (eds_cons h eds_nil) fun vs H1 Q s1 hv q => ?_
  obtain ⟨v, r, rfl, h1, h2⟩ := dps_cons hv
  obtain rfl := dps_nil h2
  obtain rfl := dp_str h1
  refine ⟨l, rfl, hl, hs, fun p H2 s2 _ hd => q _ H2 s2 ?_⟩
  rw [marksW_eq] at hd
  exact hd
theorem dTk_inv {G : Hp} {v : V} {t : Tk} (h : Dp K G v (dTk t)) : ∃ a, v = .ref a ∧ SqT K G a [.int (t.1 : Int), .int (t.2.1 : Int), .str (tx t.2.2)] := by
  obtain ⟨a, xs, rfl, h1, h2⟩ := dp_tup h
  obtain ⟨v1, r1, rfl, e1, h2⟩ := dps_cons h2
  obtain ⟨v2, r2, rfl, e2, h2⟩ := dps_cons h2
  obtain ⟨v3, r3, rfl, e3, h2⟩ := dps_cons h2
  obtain rfl := dps_nil h2
  rw [dp_int e1, dp_int e2, dp_str e3] at h1
  exact ⟨a, rfl, h1⟩
/-- [mark for line, at, mark in ..] -/
theorem ed_lc {ts : List Tk} {y0 y1 y2 y3 y4 y5 y6 y7 y8 y9 y10 : Option V} (h : Ed K te [y0, y1, y2, y3, y4, y5, y6, y7, y8, y9, y10] H (dMs ts)) (hn : ts.length ≤ 100000) :
    Ed K (tLc (iTup K te) (gTup K 3 (gCons (gName 8) (gCons (gName 9) (gCons (gName 10) gNil)))) tYes (tVar 10) [8, 9, 10]) [y0, y1, y2, y3, y4, y5, y6, y7, y8, y9, y10] H (dSs (ts.map fun t => t.2.2)) := by
  intro H1 s1 Q q
  refine h H1 s1 _ fun v H2 s2 hv => ?_
  obtain ⟨a, xs, rfl, hx, hds⟩ := dp_tup hv
  refine ⟨a, rfl, ⟨xs, hx⟩, fun D nD => ?_⟩
  have hlen := dps_len hds
  rw [List.length_map] at hlen
  refine lc_tup (K := K) (a := a) (xs := xs) (fun i H3 => H3 = upd H2 D (.lst ((ts.take i).map fun t => V.str (tx t.2.2)))) rfl ?_ ?_ ?_
  · rintro i H3 _ rfl
    exact same_seqT (same_new nD) hx
  · rintro i x H3 hi rfl
    have hi2 : i < ts.length := by
      have := (List.getElem?_eq_some_iff.mp hi).1
      omega
    have ht : ts[i]? = some ts[i] := List.getElem?_eq_getElem hi2
    generalize ts[i] = t at ht
    obtain ⟨v, hv, hd⟩ := dps_get (i := i) (d := dTk t) hds (by rw [List.getElem?_map, ht]; rfl)
    obtain rfl : x = v := Option.some.inj (hi.symm.trans hv)
    obtain ⟨b, rfl, hb⟩ := dTk_inv hd
    refine ⟨b, _, rfl, same_seqT (same_new nD) hb, rfl, _, _, rfl, _, _, rfl, _, _, rfl, rfl, rfl, ?_⟩
    unfold tYes
    dsimp only
    rw [if_pos rfl]
    refine ⟨_, rfl, _, upd_same, ?_, ?_⟩
    · rw [List.length_map, List.length_take]
      exact Nat.lt_of_lt_of_le (show min i ts.length < 100001 by omega) (by decide)
    · rw [upd_upd, List.take_add_one, ht, List.map_append]
      rfl
  · rintro H3 rfl
    rw [List.take_of_length_le (by omega)]
    refine q _ _ (s2.trans (same_new nD)) (.lst (SqL.of upd_same) ?_)
    have e1 : (ts.map fun t => V.str (tx t.2.2)) = ((ts.map fun t => tx t.2.2)).map V.str := by
      rw [List.map_map]
      rfl
    have e2 : ((ts.map fun t => t.2.2).map fun l => PyData.str (tx l)) = (ts.map fun t => tx t.2.2).map PyData.str := by
      rw [List.map_map, List.map_map]
      rfl
    rw [e1, e2]
    exact dps_strs _
theorem ed_join {sep : List Nat} {ls : List (List Nat)} (ha : Ed K ta σ H (.str (tx sep))) (hb : Ed K tb σ H (dSs ls)) (hz : (ls.map List.length).sum + ls.length * sep.length ≤ 1000000) :
    Ed K (tM1 (fun x xs H Q => ∃ a p, ∃ ys : List Str, x = .str a ∧ xs = [.ref p] ∧ (SqL K H p (ys.map V.str) ∨ SqT K H p (ys.map V.str)) ∧ (ys.map (·.length)).sum + ys.length * a.length ≤ 16777216 ∧ Q (.str (Txt.join a ys)) H) ta tb) σ H (.str (tx (joinL sep ls))) := by
  intro H1 s1 Q q
  refine ha H1 s1 _ fun v H2 s2 hv => ?_
  obtain rfl := dp_str hv
  refine ⟨⟨_, rfl⟩, ?_⟩
  refine hb H2 (s1.trans s2) _ fun v H3 s3 hv => ?_
  obtain ⟨a, xs, rfl, hx, hds⟩ := dp_lst hv
  have e2 : (ls.map fun l => PyData.str (tx l)) = (ls.map tx).map PyData.str := by
    rw [List.map_map]
    rfl
  rw [e2] at hds
  rw [dps_strs_inv hds] at hx
  refine ⟨tx sep, a, ls.map tx, rfl, rfl, .inl hx, ?_, ?_⟩
  · have e3 : ((ls.map tx).map fun x => x.length) = ls.map List.length := by
      rw [List.map_map]
      apply List.map_congr_left
      intro x _
      exact tx_len x
    rw [e3, List.length_map, tx_len]
    omega
  · rw [txt_join]
    exact q _ _ (s2.trans s3) (.str _)
/-! ### marks, shown -/
structure MsOk (ts : List Tk) : Prop where
  num : ∀ t ∈ ts, t.1 < 1000000 ∧ t.2.1 < 1000000
  small : ∀ t ∈ ts, ∀ c ∈ t.2.2, c < 128
  size : ts.length + (ts.map fun t => t.2.2.length).sum ≤ 20000
theorem ms_ok {l : List Nat} (hl : l.length ≤ 7000) (hs : ∀ c ∈ l, c < 128) : MsOk (toks l 0 0) := by
  obtain ⟨h1, h2⟩ := toks_facts l.length l 0 0 (Nat.le_refl _)
  refine ⟨fun t ht => ?_, fun t ht c hc => hs c ((h1 t ht).2.1 c hc), by omega⟩
  obtain ⟨_, _, h3, h4⟩ := h1 t ht
  omega
theorem piled_map {α : Type} (f : α → Str) (g : α → Nat) : ∀ (xs : List α), (∀ x ∈ xs, (f x).length ≤ 30 + 10 * g x) → piled (xs.map f) ≤ 32 * xs.length + 10 * (xs.map g).sum
  | [], _ => by
    rw [List.map_nil, piled_nil]
    exact Nat.zero_le _
  | x :: xs, h => by
    have h1 := h x List.mem_cons_self
    have h2 := piled_map f g xs fun y hy => h y (List.mem_cons_of_mem _ hy)
    rw [List.map_cons, piled_cons, List.map_cons, List.sum_cons, List.length_cons]
    omega
theorem tupleText_le (ts : List Str) : (tupleText ts).length ≤ piled ts + 6 := by
  unfold tupleText
  rw [PySem.Str.length_append, PySem.Str.length_append]
  have h1 : ("(" : Str).length = 1 := by decide +kernel
  have h2 : (Str.ofString (if ts.length == 1 then ",)" else ")" : String)).length ≤ 2 := by
    split <;> decide +kernel
  have h3 : (Str.join ", " ts).length ≤ piled ts := by
    cases ts with
    | nil =>
      show (Str.empty).length ≤ _
      exact Nat.zero_le _
    | cons t ts =>
      have := join_length_add (t :: ts) (by intro z; cases z)
      omega
  omega
theorem shown_dTk {t : Tk} (h1 : t.1 < 1000000) (h2 : t.2.1 < 1000000) (h3 : ∀ c ∈ t.2.2, c < 128) : (dTk t).shown.length ≤ 30 + 10 * t.2.2.length := by
  have e : (dTk t).shown = tupleText [Str.ofString (toString (t.1 : Int)), Str.ofString (toString (t.2.1 : Int)), reprText (tx t.2.2)] := rfl
  rw [e]
  have b1 := PyProof.Rows.toString_length_le (v := (t.1 : Int)) (by omega) (k := 6) (by decide) (by omega)
  have b2 := PyProof.Rows.toString_length_le (v := (t.2.1 : Int)) (by omega) (k := 6) (by decide) (by omega)
  have b3 := PySem.StrLaws.reprText_len (tx t.2.2) (fun c hc => Nat.lt_trans (h3 c hc) (by decide))
  have b4 := tupleText_le [Str.ofString (toString (t.1 : Int)), Str.ofString (toString (t.2.1 : Int)), reprText (tx t.2.2)]
  rw [piled_cons, piled_cons, piled_cons, piled_nil] at b4
  rw [tx_len] at b3
  omega
theorem facts_all : ∀ (ts : List Tk), MsOk ts → PyData.showableAll (ts.map dTk) = true ∧ PyData.hasDictAll (ts.map dTk) = false ∧ PyData.depthAll (ts.map dTk) ≤ 1 ∧ PyData.canLayAll0 (ts.map dTk) = true ∧ PyData.shownAll (ts.map dTk) = ts.map fun t => (dTk t).shown
  | [], _ => ⟨rfl, rfl, Nat.zero_le _, rfl, rfl⟩
  | t :: ts, h => by
    have h' : MsOk ts := ⟨fun x hx => h.num x (List.mem_cons_of_mem _ hx), fun x hx => h.small x (List.mem_cons_of_mem _ hx), by have := h.size; simp only [List.length_cons, List.map_cons, List.sum_cons] at this; omega⟩
    obtain ⟨i1, i2, i3, i4, i5⟩ := facts_all ts h'
    obtain ⟨n1, n2⟩ := h.num t List.mem_cons_self
    have hs := strOk_small (h.small t List.mem_cons_self)
    have l1 : ((t.1 : Int)).natAbs.log2 < 1920 := by
      have : t.1.log2 < 1920 := Nat.lt_of_le_of_lt (Nat.log2_le_self _) (by omega) |> fun h => by
        by_cases h0 : t.1 = 0
        · rw [h0]; decide
        · exact (Nat.log2_lt h0).mpr (Nat.lt_of_lt_of_le n1 (by decide))
      simpa using this
    have l2 : ((t.2.1 : Int)).natAbs.log2 < 1920 := by
      have : t.2.1.log2 < 1920 := by
        by_cases h0 : t.2.1 = 0
        · rw [h0]; decide
        · exact (Nat.log2_lt h0).mpr (Nat.lt_of_lt_of_le n2 (by decide))
      simpa using this
    refine ⟨?_, ?_, ?_, ?_, ?_⟩
    · simp only [List.map_cons, PyData.showableAll, dTk, PyData.showable, i1, decide_eq_true l1, decide_eq_true l2, Bool.and_true]
    · simp only [List.map_cons, PyData.hasDictAll, dTk, PyData.hasDict, i2, Bool.or_false]
    · simp only [List.map_cons, PyData.depthAll, dTk, PyData.depth]
      omega
    · simp only [List.map_cons, PyData.canLayAll0, dTk, PyData.canLay0, hs, i4, Bool.and_true]
    · simp only [List.map_cons, PyData.shownAll, i5]
theorem ms_showable {ts : List Tk} (h : MsOk ts) : (dMs ts).showable = true := (facts_all ts h).1
theorem ms_noDict {ts : List Tk} (h : MsOk ts) : (dMs ts).hasDict = false := (facts_all ts h).2.1
theorem ms_depth {ts : List Tk} (h : MsOk ts) : (dMs ts).depth ≤ 2 := by
  have := (facts_all ts h).2.2.1
  show PyData.depthAll (ts.map dTk) + 1 ≤ 2
  omega
theorem ms_lay {ts : List Tk} (h : MsOk ts) : (dMs ts).canLay0 = true := (facts_all ts h).2.2.2.1
theorem ms_shaped {ts : List Tk} (h : MsOk ts) : SeqAt.shaped (dMs ts) = true := by
  show ((dMs ts).canLay0 && decide ((dMs ts).depth ≤ 64)) = true
  have h2 := ms_depth h
  rw [ms_lay h, decide_eq_true (show (dMs ts).depth ≤ 64 by omega)]
  rfl
theorem ms_shown {ts : List Tk} (h : MsOk ts) : (dMs ts).shown.length ≤ sizeLine := by
  show (tupleText (PyData.shownAll (ts.map dTk))).length ≤ sizeLine
  rw [(facts_all ts h).2.2.2.2]
  have h1 := tupleText_le (ts.map fun t => (dTk t).shown)
  have h2 := piled_map (fun t : Tk => (dTk t).shown) (fun t => t.2.2.length) ts fun t ht => shown_dTk (h.num t ht).1 (h.num t ht).2 (h.small t ht)
  have h3 := h.size
  have h4 : (1000000 : Nat) ≤ sizeLine := by decide
  omega
end
end L5
namespace L5
open PySem PySem.Spec PyProof.Rows L2 Yb
section
variable {K : PySem.W.Frag} {σ : L2.St} {G H : Hp} {a b : Addr} {ta tb te : TE}
theorem mulS_len (l : List Nat) (n : Nat) : (mulS l n).length = n * l.length := by
  unfold mulS
  induction n with
  | zero => simp
  | succ n ih =>
    rw [List.replicate_succ, List.flatten_cons, List.length_append, ih, Nat.succ_mul]
    omega
theorem mulS_mem {l : List Nat} {n c : Nat} (h : c ∈ mulS l n) : c ∈ l := by
  obtain ⟨x, hx, hc⟩ := List.mem_flatten.mp h
  rw [List.eq_of_mem_replicate hx] at hc
  exact hc
theorem val_mulS {l : List Nat} {n : Nat} (ha : Val ta σ H (.str (tx l))) (hb : Val tb σ H (.int (n : Int))) (hn : n ≤ 1000) (hl : l.length ≤ 1000) : Val (tOp rMulS ta tb) σ H (.str (tx (mulS l n))) :=
  val_op ha hb fun Q q => ⟨l, n, rfl, rfl, hn, hl, q⟩
theorem val_lenL {p : Addr} {ys : List V} (ha : Val ta σ H (.ref p)) (hs : SqL K H p ys) : Val (tCB (fun xs H Q => ∃ p ys, xs = [.ref p] ∧ (SqL K H p ys ∨ SqT K H p ys) ∧ Q (.int ys.length) H) (tCons ta tNil)) σ H (.int (ys.length : Int)) := by
  intro Q q
  refine ha _ ?_
  exact ⟨p, ys, rfl, .inl hs, q⟩
theorem val_gtB {x y : Int} (ha : Val ta σ H (.int x)) (hb : Val tb σ H (.int y)) : Val (tOp (rI0 fun i j => .bl (decide (j < i))) ta tb) σ H (.bl (decide (y < x))) :=
  val_op ha hb fun Q q => ⟨x, y, rfl, rfl, q⟩
theorem flat_okTx : ∀ (ls : List (List Nat)), (∀ x ∈ ls, okTx 40 x) → okTx (40 * ls.length) ls.flatten
  | [], _ => ⟨Nat.le_refl _, fun c hc => by cases hc⟩
  | x :: r, h => by
    obtain ⟨h1, h2⟩ := flat_okTx r fun y hy => h y (List.mem_cons_of_mem _ hy)
    obtain ⟨h3, h4⟩ := h x List.mem_cons_self
    rw [List.flatten_cons]
    refine ⟨?_, fun c hc => ?_⟩
    · rw [List.length_append, List.length_cons]
      omega
    · rcases List.mem_append.mp hc with hc | hc
      · exact h4 c hc
      · exact h2 c hc
/-- pieces one by one, joined -/
theorem join_pieces {as : TA} {y0 y2 y3 y4 y5 y6 y7 y8 y9 y10 : Option V} {Q : VK}
    (hv : ∀ R : List V → Hp → Prop, (∀ (n : Nat) (H' : Hp), n ≤ 60 → LH G H' a b → R [.int (n : Int)] H') → as [y0, some (.ref a), y2, y3, y4, y5, y6, y7, y8, y9, y10] H R)
    (q : ∀ (l : List Nat) (H' : Hp), okTx 2400 l → LH G H' a b → Q (.str (tx l)) H') :
    tM1 (fun x xs H Q => ∃ a p, ∃ ys : List Str, x = .str a ∧ xs = [.ref p] ∧ (SqL K H p (ys.map V.str) ∨ SqT K H p (ys.map V.str)) ∧ (ys.map (·.length)).sum + ys.length * a.length ≤ 16777216 ∧ Q (.str (Txt.join a ys)) H)
      (tC (.str "")) (tLc (iRng1 as) (gName 7) tYes (tCall spC [] E0 (tCons (tVar 1) tNil)) [7]) [y0, some (.ref a), y2, y3, y4, y5, y6, y7, y8, y9, y10] H Q := by
  refine ⟨⟨_, rfl⟩, ?_⟩
  refine hv _ fun n H1 hn hL => ?_
  refine ⟨(n : Int), rfl, by omega, by omega, fun D nD => ?_⟩
  refine lc_range (lo := 0) (n := (n : Int).toNat) (fun i H2 => ∃ ls : List (List Nat), ls.length = i ∧ (∀ x ∈ ls, okTx 40 x) ∧ LH (upd G D (.lst (ls.map fun x => V.str (tx x)))) H2 a b) ⟨[], rfl, (fun x hx => by cases hx), ?_⟩ ?_ ?_
  · exact hL.new nD
  · rintro i H2 hi ⟨ls, hls, hc, hL2⟩
    refine ⟨rfl, ?_⟩
    unfold tYes
    dsimp only
    rw [if_pos rfl]
    refine ⟨_, rfl, ?_⟩
    refine ⟨_, a, b, rfl, hL2, fun l H3 hl hL3 => ?_⟩
    refine ⟨_, hL3.at, ?_, ls ++ [l], by simp [hls], ?_, ?_⟩
    · rw [List.length_map, hls]
      exact Nat.lt_of_lt_of_le (show i < 61 by omega) (by decide)
    · intro x hx
      rcases List.mem_append.mp hx with hx | hx
      · exact hc x hx
      · rw [List.mem_singleton.mp hx]
        exact hl
    · rw [List.map_append]
      exact hL3.put
  · rintro H2 ⟨ls, hls, hc, hL2⟩
    have hlen : ls.length ≤ 60 := by
      rw [hls]
      omega
    obtain ⟨f1, f2⟩ := flat_okTx ls hc
    have em : (ls.map fun x => V.str (tx x)) = (ls.map tx).map V.str := by
      rw [List.map_map]
      rfl
    refine ⟨("" : Str), D, ls.map tx, rfl, rfl, .inl (SqL.of ?_), ?_, ?_⟩
    · rw [← em]
      exact hL2.at
    · have e3 : ((ls.map tx).map fun x => x.length) = ls.map List.length := by
        rw [List.map_map]
        apply List.map_congr_left
        intro x _
        exact tx_len x
      have e2 : ("" : Str).length = 0 := by decide +kernel
      have e4 : (ls.map List.length).sum = ls.flatten.length := by
        rw [List.length_flatten]
      rw [e3, e2, e4]
      omega
    · have e3 : ("" : Str) = tx [] := by decide +kernel
      rw [e3, txt_join, joinL_nil]
      exact q _ _ ⟨by omega, f2⟩ (hL2.sub (same_new (hL.fresh nD)))
abbrev rAddS : R2 := fun x y H Q => ∃ i j, x = .str i ∧ y = .str j ∧ i.length + j.length ≤ sizeLine ∧ Q (.str (i ++ j)) H
theorem text_go {l : List Nat} {y0 y2 y4 y5 y6 y7 y8 y9 y10 : Option V} {Q : VK} (hl : okTx 2400 l) (h : LH G H a b) (q : ∀ (l' : List Nat) (H' : Hp), okTx 3200 l' → LH G H' a b → Q (.str (tx l')) H') :
    tIf (tTest (tOp rEq (tCall spD [] E0 (tCons (tVar 1) (tCons (tC (.int 5)) tNil))) (tC (.int 0))))
      (tOp rAddS (tOp rAddS (tOp rAddS (tOp rAddS (tOp rMulS (tC (.str "7")) (tC (.int 390))) (tC (.str " "))) (tVar 3)) (tC (.str "-"))) (tOp rMulS (tC (.str "12")) (tC (.int 190))))
      (tVar 3) [y0, some (.ref a), y2, some (.str (tx l)), y4, y5, y6, y7, y8, y9, y10] H Q := by
  refine draw_go h (val_var rfl) val_c (by decide) (by decide) fun r H' hr h' => ?_
  refine ⟨rfl, _, rfl, ?_⟩
  by_cases h0 : V.int (r : Int) = V.int 0
  · rw [decide_eq_true h0]
    dsimp only
    rw [if_pos rfl]
    have c1 : ("7" : Str) = tx [55] := by decide +kernel
    have c2 : (" " : Str) = tx [32] := by decide +kernel
    have c3 : ("-" : Str) = tx [45] := by decide +kernel
    have c4 : ("12" : Str) = tx [49, 50] := by decide +kernel
    rw [c1, c2, c3, c4]
    have m1 : (mulS [55] 390).length = 390 := mulS_len _ _
    have m2 : (mulS [49, 50] 190).length = 380 := mulS_len _ _
    have hll := hl.1
    refine val_addS (val_addS (val_addS (val_addS (val_mulS (n := 390) val_c val_c (by decide) (by decide)) val_c ?_) (val_var rfl) ?_) val_c ?_) (val_mulS (n := 190) val_c val_c (by decide) (by decide)) ?_ _ (q _ _ ⟨?_, ?_⟩ h')
    · simp only [m1, List.length_singleton]
      omega
    · simp only [List.length_append, m1, List.length_singleton]
      omega
    · simp only [List.length_append, m1, List.length_singleton]
      omega
    · simp only [List.length_append, m1, m2, List.length_singleton]
      omega
    · simp only [List.length_append, m1, m2, List.length_singleton]
      omega
    · intro c hc
      simp only [List.mem_append, List.mem_singleton] at hc
      rcases hc with (((hc | rfl) | hc) | rfl) | hc
      · rw [List.mem_singleton.mp (mulS_mem hc)]
        decide
      · decide
      · exact hl.2 c hc
      · decide
      · have := mulS_mem hc
        simp only [List.mem_cons, List.not_mem_nil, or_false] at this
        omega
  · rw [decide_eq_false h0]
    dsimp only
    rw [if_neg (by decide)]
    exact ⟨_, rfl, q l H' ⟨by have := hl.1; omega, hl.2⟩ h'⟩
end
end L5
namespace L5
open PySem PySem.Spec PyProof.Rows L2 Yb
section
variable {P : Program} {w : World} {K : PySem.W.Frag} {mg : Str → Option Value} {base : Heap}
def spL (K : PySem.W.Frag) : Sp := fun vs H Q _ => ∃ (a : Addr) (ns : List Int), vs = [.ref a] ∧ SqL K H a (ns.map V.int) ∧ ns.length ≤ 63 ∧ ∀ H', Q (.bl true) H'
theorem okL {f fH fD fP fC fW fM : Addr} {fd fdH fdD fdP fdC fdW fdM : FuncData} (F : Fun K "law" "law" sL f fd)
    (GH : FnOk P w K mg base CX0 1 fH fdH ["script"] (spH K)) (gH : mg "_law_heap" = some (.ref fH)) (kH : PySem.W.keepIn K (.ref fH) = true) (bH : L2.Binds K fdH ["script"] [])
    (GD : FnOk P w K mg base CX0 1 fD fdD ["heap", "many"] spD) (gD : mg "_law_draw" = some (.ref fD)) (kD : PySem.W.keepIn K (.ref fD) = true) (bD : L2.Binds K fdD ["heap", "many"] [])
    (GP : FnOk P w K mg base CX0 2 fP fdP ["heap", "some"] (spP K)) (gP : mg "_law_pick" = some (.ref fP)) (kP : PySem.W.keepIn K (.ref fP) = true) (bP : L2.Binds K fdP ["heap", "some"] [])
    (GC : FnOk P w K mg base CX0 3 fC fdC ["heap"] spC) (gC : mg "_law_piece" = some (.ref fC)) (kC : PySem.W.keepIn K (.ref fC) = true) (bC : L2.Binds K fdC ["heap"] [])
    (GW : FnOk P w K mg base CX0 2 fW fdW ["text"] (spW K)) (gW : mg "_law_marks" = some (.ref fW)) (kW : PySem.W.keepIn K (.ref fW) = true) (bW : L2.Binds K fdW ["text"] [])
    (GM : FnOk P w K mg base CX0 3 fM fdM ["text"] (spM K)) (gM : mg "marks_in" = some (.ref fM)) (kM : PySem.W.keepIn K (.ref fM) = true) (bM : L2.Binds K fdM ["text"] [])
    (kbM : KBinds K fdM ["text"] ["text"] (fun us ws => us ++ ws) (fun vs zs => vs ++ zs))
    (mr : mg "range" = none) (mi : mg "int" = none) (ml : mg "len" = none) (mt : mg "tuple" = none) (mrep : mg "repr" = none) : FnG P w K mg base CX0 4 f fd ["script"] (spL K) := by
  refine okG F scL (fun vs H Q E h => ?_) (fun cdv A outer s H vs Q E hr hgu h => ?_)
  · obtain ⟨a, ns, rfl, _⟩ := h
    rfl
  · obtain ⟨a0, ns, rfl, hS, hlen, q⟩ := h
    have hr1 : Room 1 (A.deeper (envOfC "law" (defScope sL) s.heap.objs.size f cdv)) := hr.mono (by decide)
    have hr2 : Room 2 (A.deeper (envOfC "law" (defScope sL) s.heap.objs.size f cdv)) := hr.mono (by decide)
    refine ⟨_, (pss_cons (ps_set (i := 1) scL.nd rfl (.inr rfl) (pe_call GH hr1 (by rfl) gH kH bH .nil pass0 (pa_cons (pv 0) pa_nil)))
      (pss_cons (ps_for PassesOwn.never rfl (pi_range1 rfl mr (pa_cons (pe_op op_add pe_int (pe_op op_mul pe_int (pe_callTy call_int1 (by rfl) mi (by decide +kernel) (pa_cons (pe_cmpR op_gt (pe_callB call_len_seq (by rfl) ml PySem.boot_len (pa_cons (pv 0) pa_nil)) pe_int (nomark _)) pa_nil)))) pa_nil)) (pg_name (i := 2) scL.nd rfl (.inl rfl))
      (pss_cons (ps_set (i := 3) scL.nd rfl (.inl rfl) (pe_join pe_str (pe_lc (own := [("again", 7)]) (g := gName 7) (tt := tYes) rfl scL.nd (pi_range1 rfl mr (pa_cons (pe_call GP hr2 (by rfl) gP kP bP .nil pass0 (pa_cons (pv 1) (pa_cons (pe_lst (pa_cons pe_int (pa_cons pe_int (pa_cons pe_int (pa_cons pe_int (pa_cons pe_int pa_nil)))))) pa_nil))) pa_nil))
          (blkOk_by (own := [("again", 7)]) (N := ["script", "heap", "turn", "text", "due", "told", "joined", "again", "line", "at", "mark"]) (sc := defScope sL) (by decide +kernel)) (fun _ _ _ _ _ => pg_name (i := 7) scL.nd rfl (.inl rfl)) (fun _ _ _ _ _ => pts_nil)
          (fun _ _ _ _ _ => pe_call GC hr (by rfl) gC kC bC .nil pass0 (pa_cons (pv 1) pa_nil)))))
      (pss_cons (ps_set (i := 3) scL.nd rfl (.inl rfl) (pe_ifExp (pt_cmpR op_eq (pe_call GD hr1 (by rfl) gD kD bD .nil pass0 (pa_cons (pv 1) (pa_cons pe_int pa_nil))) pe_int (nomark _)) (pe_op op_add_str (pe_op op_add_str (pe_op op_add_str (pe_op op_add_str (pe_op op_mulS pe_str pe_int) pe_str) (pv 3)) pe_str) (pe_op op_mulS pe_str pe_int)) (pv 3)))
      (pss_cons (ps_set (i := 4) scL.nd rfl (.inl rfl) (pe_callTy call_tuple_of (by rfl) mt (by decide +kernel) (pa_cons (pe_call GW hr2 (by rfl) gW kW bW .nil pass0 (pa_cons (pv 3) pa_nil)) pa_nil)))
      (pss_cons (ps_set (i := 5) scL.nd rfl (.inl rfl) (pe_call GM hr (by rfl) gM kM bM .nil pass0 (pa_cons (pv 3) pa_nil)))
      (pss_cons (ps_if (pw_or (pt_cmpR op_ne (pe_callB (call_reprD hgu hr.units) (by rfl) mrep (by decide +kernel) (pa_cons (pv 5) pa_nil)) (pe_callB (call_reprD hgu hr.units) (by rfl) mrep (by decide +kernel) (pa_cons (pv 4) pa_nil)) (nomark _)) (pw_or1 (pt_cmpR (op_neD hr.units) (pe_callK0 (FnG.of GM) hr hgu (by rfl) gM kM kbM pass0 (pk_cons (pv 3) pk_nil)) (pv 5) (nomark _)))).pt (pss_one (ps_ret pe_bl)) pss_nil)
      (pss_cons (ps_set (i := 6) scL.nd rfl (.inl rfl) (pe_join pe_str (pe_lc (own := [("line", 8), ("at", 9), ("mark", 10)]) (g := gTup K 3 (gCons (gName 8) (gCons (gName 9) (gCons (gName 10) gNil)))) (tt := tYes) rfl scL.nd (pi_tup (pv 4)) (blkOk_by (own := [("line", 8), ("at", 9), ("mark", 10)]) (N := ["script", "heap", "turn", "text", "due", "told", "joined", "again", "line", "at", "mark"]) (sc := defScope sL) (by decide +kernel))
            (fun _ _ _ _ _ => show PG _ _ (gTup K 3 _) from pg_tup rfl (pgs_cons (pg_name (i := 8) scL.nd rfl (.inl rfl)) (pgs_cons (pg_name (i := 9) scL.nd rfl (.inl rfl)) (pgs_cons (pg_name (i := 10) scL.nd rfl (.inl rfl)) pgs_nil)))) (fun _ _ _ _ _ => pts_nil) (fun _ _ _ _ _ => pv 10))))
      (pss_one (ps_if (pt_cmpR (op_neD hr.units) (pe_lc (own := [("line", 8), ("at", 9), ("mark", 10)]) (g := gTup K 3 (gCons (gName 8) (gCons (gName 9) (gCons (gName 10) gNil)))) (tt := tYes) rfl scL.nd (pi_tup (pe_call GM hr (by rfl) gM kM bM .nil pass0 (pa_cons (pv 6) pa_nil))) (blkOk_by (own := [("line", 8), ("at", 9), ("mark", 10)]) (N := ["script", "heap", "turn", "text", "due", "told", "joined", "again", "line", "at", "mark"]) (sc := defScope sL) (by decide +kernel))
            (fun _ _ _ _ _ => show PG _ _ (gTup K 3 _) from pg_tup rfl (pgs_cons (pg_name (i := 8) scL.nd rfl (.inl rfl)) (pgs_cons (pg_name (i := 9) scL.nd rfl (.inl rfl)) (pgs_cons (pg_name (i := 10) scL.nd rfl (.inl rfl)) pgs_nil)))) (fun _ _ _ _ _ => pts_nil) (fun _ _ _ _ _ => pv 10)) (pe_lc (own := [("line", 8), ("at", 9), ("mark", 10)]) (g := gTup K 3 (gCons (gName 8) (gCons (gName 9) (gCons (gName 10) gNil)))) (tt := tYes) rfl scL.nd (pi_tup (pv 4)) (blkOk_by (own := [("line", 8), ("at", 9), ("mark", 10)]) (N := ["script", "heap", "turn", "text", "due", "told", "joined", "again", "line", "at", "mark"]) (sc := defScope sL) (by decide +kernel))
            (fun _ _ _ _ _ => show PG _ _ (gTup K 3 _) from pg_tup rfl (pgs_cons (pg_name (i := 8) scL.nd rfl (.inl rfl)) (pgs_cons (pg_name (i := 9) scL.nd rfl (.inl rfl)) (pgs_cons (pg_name (i := 10) scL.nd rfl (.inl rfl)) pgs_nil)))) (fun _ _ _ _ _ => pts_nil) (fun _ _ _ _ _ => pv 10)) (nomark _)) (pss_one (ps_ret pe_bl)) pss_nil)))))))))
      (pss_cons (ps_if (pw_or (pt_cmpR (op_neD hr.units) (pe_call GM hr (by rfl) gM kM bM .nil pass0 (pa_cons pe_str pa_nil)) (pe_tup pa_nil) (nomark _)) (pw_or (pt_cmpR (op_neD hr.units) (pe_call GM hr (by rfl) gM kM bM .nil pass0 (pa_cons pe_str pa_nil)) (pe_tup pa_nil) (nomark _)) (pw_or1 (pt_cmpR (op_neD hr.units) (pe_call GM hr (by rfl) gM kM bM .nil pass0 (pa_cons pe_str pa_nil)) (pe_tup (pa_cons (pe_tup (pa_cons pe_int (pa_cons pe_int (pa_cons pe_str pa_nil)))) pa_nil)) (nomark _))))).pt (pss_one (ps_ret pe_bl)) pss_nil)
      (pss_one (ps_ret (pe_cmpR (op_eqD hr.units) (pe_call GM hr (by rfl) gM kM bM .nil pass0 (pa_cons pe_str pa_nil)) (pe_tup (pa_cons (pe_tup (pa_cons pe_int (pa_cons pe_int (pa_cons pe_str pa_nil)))) (pa_cons (pe_tup (pa_cons pe_int (pa_cons pe_int (pa_cons pe_str pa_nil)))) (pa_cons (pe_tup (pa_cons pe_int (pa_cons pe_int (pa_cons pe_str pa_nil)))) (pa_cons (pe_tup (pa_cons pe_int (pa_cons pe_int (pa_cons pe_str pa_nil)))) (pa_cons (pe_tup (pa_cons pe_int (pa_cons pe_int (pa_cons pe_str pa_nil)))) (pa_cons (pe_tup (pa_cons pe_int (pa_cons pe_int (pa_cons pe_str pa_nil)))) (pa_cons (pe_tup (pa_cons pe_int (pa_cons pe_int (pa_cons pe_str pa_nil)))) (pa_cons (pe_tup (pa_cons pe_int (pa_cons pe_int (pa_cons pe_str pa_nil)))) (pa_cons (pe_tup (pa_cons pe_int (pa_cons pe_int (pa_cons pe_str pa_nil)))) pa_nil)))))))))) (nomark _))))))), ?_⟩
    -- heap = _law_heap(script)
    refine st_seq ?_
    refine ⟨_, rfl, a0, ns, rfl, hS, fun a b H1 hL => ?_⟩
    -- the loop
    have hS1 : SqL K H1 a0 (ns.map V.int) := hL.ext.seq hS
    have turns : Val (tOp (rI0 fun i j => .int (i + j)) (tC (.int 3)) (tOp (rI CMul fun i j => .int (i * j)) (tC (.int 3))
        (tCB (fun xs H Q => (∃ i, xs = [.int i] ∧ Q (.int i) H) ∨ ∃ k, xs = [.bl k] ∧ Q (.int (if k then 1 else 0)) H)
          (tCons (tOp (rI0 fun i j => .bl (decide (j < i))) (tCB (fun xs H Q => ∃ p ys, xs = [.ref p] ∧ (SqL K H p ys ∨ SqT K H p ys) ∧ Q (.int ys.length) H) (tCons (tVar 0) tNil)) (tC (.int 2))) tNil))))
        [some (.ref a0), some (.ref a), none, none, none, none, none, none, none, none, none] H1 (.int ((if 2 < ns.length then 6 else 3 : Nat) : Int)) := by
      have h := val_add' (ta := tC (.int 3)) (σ := [some (.ref a0), some (.ref a), none, none, none, none, none, none, none, none, none]) (H := H1) val_c
        (val_mulc (ta := tC (.int 3)) val_c (val_intB (val_gtB (val_lenL (K := K) (ta := tVar 0) (val_var rfl) hS1) (tb := tC (.int 2)) val_c)) (.inl ⟨by decide, by decide⟩))
      rw [List.length_map] at h
      have e : (3 : Int) + 3 * (if decide ((2 : Int) < (ns.length : Int)) = true then 1 else 0) = ((if 2 < ns.length then 6 else 3 : Nat) : Int) := by
        by_cases h2 : 2 < ns.length
        · rw [if_pos h2, if_pos (decide_eq_true (by omega))]
          rfl
        · rw [if_neg h2, if_neg (by rw [decide_eq_false (by omega)]; decide)]
          rfl
      rw [e] at h
      exact h
    have hfew : (if 2 < ns.length then 6 else 3 : Nat) ≤ 1000000 := by split <;> decide
    generalize (if 2 < ns.length then 6 else 3 : Nat) = n at turns hfew
    dsimp only
    refine st_seq (for_rng (n := n) (fun R r => turns _ r) hfew (fun i σ' H' => ∃ y2 y3 y4 y5 y6 y7 y8 y9 y10, σ' = [some (.ref a0), some (.ref a), y2, y3, y4, y5, y6, y7, y8, y9, y10] ∧ LH H H' a b) ⟨_, _, _, _, _, _, _, _, _, rfl, hL⟩ ?_ ?_)
    · rintro i σ' H2 hi ⟨y2, y3, y4, y5, y6, y7, y8, y9, y10, rfl, hL2⟩
      -- text = ''.join(..)
      refine st_seq (tAsg_go ?_)
      refine join_pieces (G := H) (a := a) (b := b) (fun R r => ?_) fun l H3 hl hL3 => ?_
      · refine ⟨_, rfl, by show 5 ≤ sizeLine; decide, fun p hp => ?_⟩
        have h1 := hL2.new (u := .lst [.int 5, .int 20, .int 1, .int 60, .int 0]) hp
        refine ⟨_, a, b, p, _, rfl, h1, SqL.of upd_same, by show 0 < 5; decide, by show 5 ≤ 1000000; decide, fun x H3 hx h2 => ?_⟩
        have h3 := h2.sub (same_new (hL2.fresh hp))
        simp only [List.mem_cons, List.not_mem_nil, or_false] at hx
        rcases hx with rfl | rfl | rfl | rfl | rfl
        · exact r 5 _ (by decide) h3
        · exact r 20 _ (by decide) h3
        · exact r 1 _ (by decide) h3
        · exact r 60 _ (by decide) h3
        · exact r 0 _ (by decide) h3
      -- text = .. if .. else text
      dsimp only
      refine st_seq (tAsg_go ?_)
      refine text_go (G := H) (a := a) (b := b) hl hL3 fun l H4 hl hL4 => ?_
      have hlen : l.length ≤ 100000 := Nat.le_trans hl.1 (by decide)
      have ok := ms_ok (Nat.le_trans hl.1 (by decide)) hl.2
      have dl : Dp K H4 (.str (tx l)) (.str (tx l)) := .str _
      dsimp only
      -- due, told
      refine st_seq (sd_set (ed_tupleOf (ed_W (ed_var rfl dl) hlen hl.2)) fun v5 H5 s5 d5 => ?_)
      refine st_seq (sd_set (ed_M (ed_var rfl (dp_mono s5 _ _ dl)) hlen) fun v6 H6 s6 d6 => ?_)
      have d5' : Dp K H6 v5 (dMs (toks l 0 0)) := dp_mono s6 _ _ d5
      have dl6 : Dp K H6 (.str (tx l)) (.str (tx l)) := .str _
      have same : PyData.eqv (dMs (toks l 0 0)) (dMs (toks l 0 0)) = true := SeqAt.eqv_refl _ (ms_lay ok)
      have rep : ∀ {i : Nat} {v : V}, ([some (.ref a0), some (.ref a), some (.int (i : Int)), some (.str (tx l)), some v5, some v6, y6, y7, y8, y9, y10] : L2.St)[4]? = some (some v5) := rfl
      refine st_seq (sd_no (et_or0 ((et_neS (ed_repr (ed_var rfl d6) (ms_showable ok) (ms_noDict ok) (Nat.le_trans (ms_depth ok) (by decide)) (ms_shown ok)) (ed_repr (ed_var rfl d5') (ms_showable ok) (ms_noDict ok) (Nat.le_trans (ms_depth ok) (by decide)) (ms_shown ok))).to (by simp))
        ((et_neD (ed_M0 (ed_var rfl dl6) hlen) (ed_var rfl d6) (ms_shaped ok) (ms_shaped ok)).to (by rw [same]; rfl))) fun H7 s7 => ?_)
      -- joined
      have d5b : Dp K H7 v5 (dMs (toks l 0 0)) := dp_mono s7 _ _ d5'
      have hn : (toks l 0 0).length ≤ 100000 := by
        have := ok.size
        omega
      have hgood : ∀ m ∈ (toks l 0 0).map (fun t => t.2.2), goodM m := by
        intro m hm
        obtain ⟨t, ht, rfl⟩ := List.mem_map.mp hm
        exact ((toks_facts l.length l 0 0 (Nat.le_refl _)).1 t ht).1
      have hsmall : ∀ m ∈ (toks l 0 0).map (fun t => t.2.2), ∀ c ∈ m, c < 128 := by
        intro m hm
        obtain ⟨t, ht, rfl⟩ := List.mem_map.mp hm
        exact ok.small t ht
      have hsum : ((toks l 0 0).map fun t => t.2.2).length + (((toks l 0 0).map fun t => t.2.2).map List.length).sum ≤ 20000 := by
        have := ok.size
        rw [List.length_map, List.map_map]
        exact this
      have e32 : ∀ σ H, Ed K (tC (.str (" " : Str))) σ H (.str (tx [32])) := by
        intro σ H
        rw [show (" " : Str) = tx [32] by decide +kernel]
        exact ed_str
      dsimp only
      refine st_seq (sd_set (ed_join (e32 _ _) (ed_lc (ed_var rfl d5b) hn) (by simp only [List.length_singleton]; omega)) fun v8 H8 s8 d8 => ?_)
      obtain rfl := dp_str d8
      have hj := joinL_len ((toks l 0 0).map fun t => t.2.2)
      have hback := toks_joined _ hgood 0 0
      have hjs := joinL_small _ hsmall
      generalize joinL [32] ((toks l 0 0).map fun t => t.2.2) = J at hj hback hjs d8
      have d5c : Dp K H8 v5 (dMs (toks l 0 0)) := dp_mono s8 _ _ d5b
      have hnJ : (toks J 0 0).length ≤ 100000 := by
        have := congrArg List.length hback
        rw [List.length_map, List.length_map] at this
        omega
      have first := ed_lc (y0 := some (.ref a0)) (y1 := some (.ref a)) (y2 := some (.int (i : Int))) (y3 := some (.str (tx l))) (y4 := some v5) (y5 := some v6) (y6 := some (.str (tx J))) (y7 := y7) (y8 := y8) (y9 := y9) (y10 := y10)
        (ed_M (K := K) (H := H8) (te := tVar 6) (ed_var rfl d8) (by omega)) hnJ
      rw [hback] at first
      have hsh := shaped_strs hsmall
      have heq : PyData.eqv (dSs ((toks l 0 0).map fun t => t.2.2)) (dSs ((toks l 0 0).map fun t => t.2.2)) = true := SeqAt.eqv_refl _ (SeqAt.canLay_of_shaped hsh)
      dsimp only
      refine sd_no ((et_neD first (ed_lc (ed_var rfl d5c) hn) hsh hsh).to (by rw [heq]; rfl)) fun H9 s9 => ?_
      refine st_next ?_
      exact ⟨_, _, _, _, _, _, _, _, _, rfl, ((((hL4.mono s5).mono s6).mono s7).mono s8).mono s9⟩
    · -- behind the loop
      rintro σ' H2 ⟨y2, y3, y4, y5, y6, y7, y8, y9, y10, rfl, hL2⟩
      have t0 : toks [] 0 0 = [] := toks_nil 0 0
      have t1 : toks [32, 32] 0 0 = [] := by
        rw [← marksW_eq]
        decide +kernel
      have t2 : toks [32, 10] 0 0 = [(0, 1, [10])] := by
        rw [← marksW_eq]
        decide +kernel
      have t3 : toks [116, 101, 97, 32, 45, 55, 106, 97, 109, 32, 52, 10, 10, 32, 55, 120] 0 0 = [(0, 0, [116, 101, 97]), (0, 4, [45]), (0, 5, [55]), (0, 6, [106, 97, 109]), (0, 10, [52]), (0, 11, [10]), (1, 0, [10]), (2, 1, [55]), (2, 2, [120])] := by
        rw [← marksW_eq]
        decide +kernel
      have m0 : ∀ σ H, Ed K (tCall (spM K) [] E0 (tCons (tC (.str "")) tNil)) σ H (dMs []) := by
        intro σ H
        rw [← t0]
        refine ed_M ?_ (by decide)
        rw [show ("" : Str) = tx [] by decide +kernel]
        exact ed_str
      have m1 : ∀ σ H, Ed K (tCall (spM K) [] E0 (tCons (tC (.str "  ")) tNil)) σ H (dMs []) := by
        intro σ H
        rw [← t1]
        refine ed_M ?_ (by decide)
        rw [show ("  " : Str) = tx [32, 32] by decide +kernel]
        exact ed_str
      have m2 : ∀ σ H, Ed K (tCall (spM K) [] E0 (tCons (tC (.str " \n")) tNil)) σ H (dMs [(0, 1, [10])]) := by
        intro σ H
        rw [← t2]
        refine ed_M ?_ (by decide)
        rw [show (" \n" : Str) = tx [32, 10] by decide +kernel]
        exact ed_str
      have m3 : ∀ σ H, Ed K (tCall (spM K) [] E0 (tCons (tC (.str "tea -7jam 4\n\n 7x")) tNil)) σ H (dMs [(0, 0, [116, 101, 97]), (0, 4, [45]), (0, 5, [55]), (0, 6, [106, 97, 109]), (0, 10, [52]), (0, 11, [10]), (1, 0, [10]), (2, 1, [55]), (2, 2, [120])]) := by
        intro σ H
        rw [← t3]
        refine ed_M ?_ (by decide)
        rw [show ("tea -7jam 4\n\n 7x" : Str) = tx [116, 101, 97, 32, 45, 55, 106, 97, 109, 32, 52, 10, 10, 32, 55, 120] by decide +kernel]
        exact ed_str
      dsimp only
      refine st_seq (sd_no (et_or0 ((et_neD (m0 _ _) (ed_tup eds_nil (by decide)) (by decide +kernel) (by decide +kernel)).to (by decide +kernel))
        (et_or0 ((et_neD (m1 _ _) (ed_tup eds_nil (by decide)) (by decide +kernel) (by decide +kernel)).to (by decide +kernel))
        ((et_neD (m2 _ _) (ed_tup (eds_cons (ed_tup (eds_cons ed_int (eds_cons ed_int (eds_cons ed_str eds_nil))) (by decide)) eds_nil) (by decide)) (by decide +kernel) (by decide +kernel)).to (by decide +kernel)))) fun H3 s3 => ?_)
      refine st_next ?_
      dsimp only
      refine sd_ret (ed_eqD (m3 _ _) (ed_tup (eds_cons (ed_tup (eds_cons ed_int (eds_cons ed_int (eds_cons ed_str eds_nil))) (by decide)) (eds_cons (ed_tup (eds_cons ed_int (eds_cons ed_int (eds_cons ed_str eds_nil))) (by decide)) (eds_cons (ed_tup (eds_cons ed_int (eds_cons ed_int (eds_cons ed_str eds_nil))) (by decide)) (eds_cons (ed_tup (eds_cons ed_int (eds_cons ed_int (eds_cons ed_str eds_nil))) (by decide)) (eds_cons (ed_tup (eds_cons ed_int (eds_cons ed_int (eds_cons ed_str eds_nil))) (by decide)) (eds_cons (ed_tup (eds_cons ed_int (eds_cons ed_int (eds_cons ed_str eds_nil))) (by decide)) (eds_cons (ed_tup (eds_cons ed_int (eds_cons ed_int (eds_cons ed_str eds_nil))) (by decide)) (eds_cons (ed_tup (eds_cons ed_int (eds_cons ed_int (eds_cons ed_str eds_nil))) (by decide)) (eds_cons (ed_tup (eds_cons ed_int (eds_cons ed_int (eds_cons ed_str eds_nil))) (by decide)) eds_nil))))))))) (by decide)) (by decide +kernel) (by decide +kernel)) fun v H4 s4 d4 => ?_
      obtain rfl := dp_bl d4
      have e : PyData.eqv (dMs [(0, 0, [116, 101, 97]), (0, 4, [45]), (0, 5, [55]), (0, 6, [106, 97, 109]), (0, 10, [52]), (0, 11, [10]), (1, 0, [10]), (2, 1, [55]), (2, 2, [120])]) (.tuple [.tuple [.int 0, .int 0, .str "tea"], .tuple [.int 0, .int 4, .str "-"], .tuple [.int 0, .int 5, .str "7"], .tuple [.int 0, .int 6, .str "jam"], .tuple [.int 0, .int 10, .str "4"], .tuple [.int 0, .int 11, .str "\n"], .tuple [.int 1, .int 0, .str "\n"], .tuple [.int 2, .int 1, .str "7"], .tuple [.int 2, .int 2, .str "x"]]) = true := by decide +kernel
      rw [show (PyData.eqv (dMs [(0, 0, [116, 101, 97]), (0, 4, [45]), (0, 5, [55]), (0, 6, [106, 97, 109]), (0, 10, [52]), (0, 11, [10]), (1, 0, [10]), (2, 1, [55]), (2, 2, [120])]) (.tuple [.tuple [.int 0, .int 0, .str "tea"], .tuple [.int 0, .int 4, .str "-"], .tuple [.int 0, .int 5, .str "7"], .tuple [.int 0, .int 6, .str "jam"], .tuple [.int 0, .int 10, .str "4"], .tuple [.int 0, .int 11, .str "\n"], .tuple [.int 1, .int 0, .str "\n"], .tuple [.int 2, .int 1, .str "7"], .tuple [.int 2, .int 2, .str "x"]])) = true from e]
      exact q _
end
end L5
namespace L5
open PySem PySem.Spec PyProof.Rows L2 Yb
theorem kb_marks {K : PySem.W.Frag} {f : Addr} {fd : FuncData} (F : Fun K "marks_in" "marks_in" sM f fd) : KBinds K fd ["text"] ["text"] (fun us ws => us ++ ws) (fun vs zs => vs ++ zs) := by
  obtain ⟨oc, od, kV, doc, pm, an, cdv, ct, osl, rfl, lk, hcd⟩ := F.ex
  refine ⟨fun s us ws hk hl => ?_, fun r rz => r.append rz⟩
  match us, ws, hl with
  | [], [w], _ => exact .of_eq rfl
  | [u], [], _ => exact .of_eq rfl
  | [], w1 :: w2 :: ws, hl => exact absurd hl (by simp)
  | [u], w1 :: ws, hl => exact absurd hl (by simp)
  | u1 :: u2 :: us, ws, hl => exact absurd hl (by simp)
theorem all_mk {P : Program} {w : World} {K : PySem.W.Frag} {h : Heap} {mg : Str → Option Value} {fa fK fE fM fH fD fP fT fW fC fL : Addr} (X : K.In h) (G : h.Ns mainGlobals mg) (hfa : mg "law" = some (.ref fa))
    {odK anK : Option Addr} {slK : Array (Option Value)} {ocK kVK dcK pmK cdK ctK : Value}
    {odE anE : Option Addr} {slE : Array (Option Value)} {ocE kVE dcE pmE cdE ctE : Value}
    {odM anM : Option Addr} {slM : Array (Option Value)} {ocM kVM dcM pmM cdM ctM : Value}
    {odH anH : Option Addr} {slH : Array (Option Value)} {ocH kVH dcH pmH cdH ctH : Value}
    {odD anD : Option Addr} {slD : Array (Option Value)} {ocD kVD dcD pmD cdD ctD : Value}
    {odP anP : Option Addr} {slP : Array (Option Value)} {ocP kVP dcP pmP cdP ctP : Value}
    {odT anT : Option Addr} {slT : Array (Option Value)} {ocT kVT dcT pmT cdT ctT : Value}
    {odW anW : Option Addr} {slW : Array (Option Value)} {ocW kVW dcW pmW cdW ctW : Value}
    {odC anC : Option Addr} {slC : Array (Option Value)} {ocC kVC dcC pmC cdC ctC : Value}
    {odL anL : Option Addr} {slL : Array (Option Value)} {ocL kVL dcL pmL cdL ctL : Value}
    (aK : PySem.W.nsIn K mainGlobals "sign_kind" = some (some (.ref fK))) (lK : K.lookup fK = some ⟨ocK, odK, .func (PySem.W.fnOf "sign_kind" "sign_kind" (defArgs sK) (defBody sK) (defScope sK) .none kVK dcK pmK anK cdK ctK), slK⟩)
    (cK : PySem.W.codeIn K cdK "sign_kind" = true) (kK : PySem.W.keepIn K (.ref fK) = true)
    (aE : PySem.W.nsIn K mainGlobals "mark_end" = some (some (.ref fE))) (lE : K.lookup fE = some ⟨ocE, odE, .func (PySem.W.fnOf "mark_end" "mark_end" (defArgs sE) (defBody sE) (defScope sE) .none kVE dcE pmE anE cdE ctE), slE⟩)
    (cE : PySem.W.codeIn K cdE "mark_end" = true) (kE : PySem.W.keepIn K (.ref fE) = true)
    (aM : PySem.W.nsIn K mainGlobals "marks_in" = some (some (.ref fM))) (lM : K.lookup fM = some ⟨ocM, odM, .func (PySem.W.fnOf "marks_in" "marks_in" (defArgs sM) (defBody sM) (defScope sM) .none kVM dcM pmM anM cdM ctM), slM⟩)
    (cM : PySem.W.codeIn K cdM "marks_in" = true) (kM : PySem.W.keepIn K (.ref fM) = true)
    (aH : PySem.W.nsIn K mainGlobals "_law_heap" = some (some (.ref fH))) (lH : K.lookup fH = some ⟨ocH, odH, .func (PySem.W.fnOf "_law_heap" "_law_heap" (defArgs sH) (defBody sH) (defScope sH) .none kVH dcH pmH anH cdH ctH), slH⟩)
    (cH : PySem.W.codeIn K cdH "_law_heap" = true) (kH : PySem.W.keepIn K (.ref fH) = true)
    (aD : PySem.W.nsIn K mainGlobals "_law_draw" = some (some (.ref fD))) (lD : K.lookup fD = some ⟨ocD, odD, .func (PySem.W.fnOf "_law_draw" "_law_draw" (defArgs sD) (defBody sD) (defScope sD) .none kVD dcD pmD anD cdD ctD), slD⟩)
    (cD : PySem.W.codeIn K cdD "_law_draw" = true) (kD : PySem.W.keepIn K (.ref fD) = true)
    (aP : PySem.W.nsIn K mainGlobals "_law_pick" = some (some (.ref fP))) (lP : K.lookup fP = some ⟨ocP, odP, .func (PySem.W.fnOf "_law_pick" "_law_pick" (defArgs sP) (defBody sP) (defScope sP) .none kVP dcP pmP anP cdP ctP), slP⟩)
    (cP : PySem.W.codeIn K cdP "_law_pick" = true) (kP : PySem.W.keepIn K (.ref fP) = true)
    (aT : PySem.W.nsIn K mainGlobals "_law_sort" = some (some (.ref fT))) (lT : K.lookup fT = some ⟨ocT, odT, .func (PySem.W.fnOf "_law_sort" "_law_sort" (defArgs sT) (defBody sT) (defScope sT) .none kVT dcT pmT anT cdT ctT), slT⟩)
    (cT : PySem.W.codeIn K cdT "_law_sort" = true) (kT : PySem.W.keepIn K (.ref fT) = true)
    (aW : PySem.W.nsIn K mainGlobals "_law_marks" = some (some (.ref fW))) (lW : K.lookup fW = some ⟨ocW, odW, .func (PySem.W.fnOf "_law_marks" "_law_marks" (defArgs sW) (defBody sW) (defScope sW) .none kVW dcW pmW anW cdW ctW), slW⟩)
    (cW : PySem.W.codeIn K cdW "_law_marks" = true) (kW : PySem.W.keepIn K (.ref fW) = true)
    (aC : PySem.W.nsIn K mainGlobals "_law_piece" = some (some (.ref fC))) (lC : K.lookup fC = some ⟨ocC, odC, .func (PySem.W.fnOf "_law_piece" "_law_piece" (defArgs sC) (defBody sC) (defScope sC) .none kVC dcC pmC anC cdC ctC), slC⟩)
    (cC : PySem.W.codeIn K cdC "_law_piece" = true) (kC : PySem.W.keepIn K (.ref fC) = true)
    (aL : PySem.W.nsIn K mainGlobals "law" = some (some (.ref fL))) (lL : K.lookup fL = some ⟨ocL, odL, .func (PySem.W.fnOf "law" "law" (defArgs sL) (defBody sL) (defScope sL) .none kVL dcL pmL anL cdL ctL), slL⟩)
    (cL : PySem.W.codeIn K cdL "law" = true) (kL : PySem.W.keepIn K (.ref fL) = true)
    (z_abs : PySem.W.nsIn K mainGlobals "abs" = some none)
    (z_int : PySem.W.nsIn K mainGlobals "int" = some none)
    (z_len : PySem.W.nsIn K mainGlobals "len" = some none)
    (z_range : PySem.W.nsIn K mainGlobals "range" = some none)
    (z_tuple : PySem.W.nsIn K mainGlobals "tuple" = some none)
    (z_repr : PySem.W.nsIn K mainGlobals "repr" = some none) :
    ∃ fd : FuncData, (∀ (s : Shared) (v : Value), BindsTo s fd ⟨[v], []⟩ [("script", v)]) ∧ ∀ base : Heap, K.In base → base.Ns mainGlobals mg → FnG P w K mg base CX0 4 fa fd ["script"] (spL K) := by
  have e := hfa.symm.trans (PySem.W.mg_of X G aL)
  cases e
  have FK := fun_mk (st := sK) lK cK kK
  have bK := FK.binds (ps := ["sign"]) fun _ _ _ _ _ _ us hl => match us, hl with | [_], _ => rfl
  have gK := PySem.W.mg_of X G aK
  have FE := fun_mk (st := sE) lE cE kE
  have bE := FE.binds (ps := ["text", "at"]) fun _ _ _ _ _ _ us hl => match us, hl with | [_, _], _ => rfl
  have gE := PySem.W.mg_of X G aE
  have FM := fun_mk (st := sM) lM cM kM
  have bM := FM.binds (ps := ["text"]) fun _ _ _ _ _ _ us hl => match us, hl with | [_], _ => rfl
  have gM := PySem.W.mg_of X G aM
  have FH := fun_mk (st := sH) lH cH kH
  have bH := FH.binds (ps := ["script"]) fun _ _ _ _ _ _ us hl => match us, hl with | [_], _ => rfl
  have gH := PySem.W.mg_of X G aH
  have FD := fun_mk (st := sD) lD cD kD
  have bD := FD.binds (ps := ["heap", "many"]) fun _ _ _ _ _ _ us hl => match us, hl with | [_, _], _ => rfl
  have gD := PySem.W.mg_of X G aD
  have FP := fun_mk (st := sP) lP cP kP
  have bP := FP.binds (ps := ["heap", "some"]) fun _ _ _ _ _ _ us hl => match us, hl with | [_, _], _ => rfl
  have gP := PySem.W.mg_of X G aP
  have FT := fun_mk (st := sT) lT cT kT
  have bT := FT.binds (ps := ["sign"]) fun _ _ _ _ _ _ us hl => match us, hl with | [_], _ => rfl
  have gT := PySem.W.mg_of X G aT
  have FW := fun_mk (st := sW) lW cW kW
  have bW := FW.binds (ps := ["text"]) fun _ _ _ _ _ _ us hl => match us, hl with | [_], _ => rfl
  have gW := PySem.W.mg_of X G aW
  have FC := fun_mk (st := sC) lC cC kC
  have bC := FC.binds (ps := ["heap"]) fun _ _ _ _ _ _ us hl => match us, hl with | [_], _ => rfl
  have gC := PySem.W.mg_of X G aC
  have FL := fun_mk (st := sL) lL cL kL
  have n_abs := PySem.W.mg_none_of X G z_abs
  have n_int := PySem.W.mg_none_of X G z_int
  have n_len := PySem.W.mg_none_of X G z_len
  have n_range := PySem.W.mg_none_of X G z_range
  have n_tuple := PySem.W.mg_none_of X G z_tuple
  have n_repr := PySem.W.mg_none_of X G z_repr
  refine ⟨PySem.W.fnOf "law" "law" (defArgs sL) (defBody sL) (defScope sL) .none kVL dcL pmL anL cdL ctL, fun s v => .of_eq rfl, fun base _ _ => ?_⟩
  have GK : FnOk P w K mg base CX0 1 fK _ _ spK := okK FK
  have GE := okE (P := P) (w := w) (mg := mg) (base := base) FE GK gK kK bK n_len
  have GM := okM (P := P) (w := w) (mg := mg) (base := base) FM GE gE kE bE n_len n_tuple
  have GH : FnOk P w K mg base CX0 1 fH _ _ (spH K) := okH FH n_abs n_int
  have GD : FnOk P w K mg base CX0 1 fD _ _ spD := okD FD n_int
  have GP := okP (P := P) (w := w) (mg := mg) (base := base) FP GD gD kD bD n_len
  have GT : FnOk P w K mg base CX0 1 fT _ _ spT := okT FT
  have GW := okW (P := P) (w := w) (mg := mg) (base := base) FW GT gT kT bT n_len
  have GC := okC (P := P) (w := w) (mg := mg) (base := base) FC GD gD kD bD GP gP kP bP n_range
  exact okL FL GH gH kH bH GD gD kD bD GP gP kP bP GC gC kC bC GW gW kW bW GM gM kM bM (kb_marks FM) n_range n_int n_len n_tuple n_repr
end L5
open PySem PySem.W PyProof.Rows
set_option maxRecDepth 100000 in
set_option maxHeartbeats 0 in
theorem PySem.Challenge.cw_saidatonce_k05_marks_cut_and_joined_holds : PySem.Challenge.rw_saidatonce_k05_marks_cut_and_joined.Holds := by
  w_on; o_law; k_head; (case hw => w_witness2)
  k_fill
  refine Yb.walk_ofG (l := PySem.Challenge.rw_saidatonce_k05_marks_cut_and_joined) (n := 63) (k := 4) (x := "script") (CX := L2.CX0) (sp := L5.spL) rfl (by decide) rfl ⟨rfl, by decide, by decide⟩ (fun w h Y => PySem.W.kIn_of Y) ?F
    (fun K H a ns hl _ hS => ⟨a, ns, rfl, hS, hl, fun _ => rfl⟩) (fun _ _ _ _ z => z)
  case F =>
    intro w mg fa h KX G hmg
    refine' L5.all_mk KX G hmg ?aK ?lK ?cK ?kK ?aE ?lE ?cE ?kE ?aM ?lM ?cM ?kM ?aH ?lH ?cH ?kH ?aD ?lD ?cD ?kD ?aP ?lP ?cP ?kP ?aT ?lT ?cT ?kT ?aW ?lW ?cW ?kW ?aC ?lC ?cC ?kC ?aL ?lL ?cL ?kL ?z_abs ?z_int ?z_len ?z_range ?z_tuple ?z_repr
    (case aK => k_is); (case lK => k_is); (case cK => k_is); (case kK => k_is); (case aE => k_is); (case lE => k_is); (case cE => k_is); (case kE => k_is); (case aM => k_is); (case lM => k_is); (case cM => k_is); (case kM => k_is); (case aH => k_is); (case lH => k_is); (case cH => k_is); (case kH => k_is); (case aD => k_is); (case lD => k_is); (case cD => k_is); (case kD => k_is); (case aP => k_is); (case lP => k_is); (case cP => k_is); (case kP => k_is); (case aT => k_is); (case lT => k_is); (case cT => k_is); (case kT => k_is); (case aW => k_is); (case lW => k_is); (case cW => k_is); (case kW => k_is); (case aC => k_is); (case lC => k_is); (case cC => k_is); (case kC => k_is); (case aL => k_is); (case lL => k_is); (case cL => k_is); (case kL => k_is); (case z_abs => k_is); (case z_int => k_is); (case z_len => k_is); (case z_range => k_is); (case z_tuple => k_is); (case z_repr => k_is)
