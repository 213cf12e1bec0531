import PyProof.Rows.All
import Wide.All
import OpenK.AllK
import Wide.FinOn
import HandS.ForMost
import HandS.Flow
import HandS.Wide
import HandS.StrMore
import HandS.StrSplit
import HandS.Codes
import PyProof.ReprRoads
import HandS.ExcInit
import HandS.IsInst
import KE.KExcInit
import HandS.MakeKw
import HandS.TryMany
import HandS.ExcField
import HandS.ExcIs
import KE.KExcIs
import HandS.ExcOwn
import HandS.ExcValue
import KE.KxText
import HandS.AnyAll
import HandS.Walk
import PySem.Challenge.RW_cleanedtables_k47_refusals_made
set_option Elab.async false
set_option linter.all false
set_option maxRecDepth 100000
set_option maxHeartbeats 4000000
/-! Bs: what all our texts lean on: defs that ask for reprs (no guard stands on the stack), reprs of data, draws. -/
namespace Bs
open PySem PySem.Spec PyProof.Rows L2

/-! ### defs under an empty stack of guards -/
/-- a def's promise where no guard stands on the stack -/
structure FG (P : Program) (w : World) (K : PySem.W.Frag) (mg : Str → Option Value) (base : Heap) (k : Nat) (f : Addr) (fd : FuncData) (ps : List Str) (sp : Sp) : Prop where
  many : ∀ vs H Q E, sp vs H Q E → vs.length = ps.length
  goes : ∀ (A : Around) (outer : List Env) (s : Shared) (H : Hp) (args : Args) (us : List Value) (vs : List V) (Q : VK) (E : XK),
    A.guards = some [] → Room k A → Env0 P w K mg base A outer s H → BindsTo s fd args (ps.zip us) → Vals vs us → sp vs H Q E →
    codeAny (model P w) A (.call (.ref f) args) (CR CX0 outer P w H s Q E) s
theorem FG.of {P : Program} {w : World} {K : PySem.W.Frag} {mg : Str → Option Value} {base : Heap} {k : Nat} {f : Addr} {fd : FuncData} {ps : List Str} {sp : Sp}
    (F : FnOk P w K mg base CX0 k f fd ps sp) : FG P w K mg base k f fd ps sp :=
  ⟨F.len, fun A outer s H args us vs Q E _ => F.run A outer s H args us vs Q E⟩

section
variable {P : Program} {w : World} {K : PySem.W.Frag} {mg : Str → Option Value} {base : Heap} {x qual : Str} {st : Stmt} {f : Addr} {fd : FuncData} {N ps : List Str} {k : Nat} {sp : Sp}
theorem okG (F : Fun K x qual st f fd) (S : FnScope N ps (defScope st)) (many : ∀ vs H Q E, sp vs H Q E → vs.length = ps.length)
    (body : ∀ (cdv : Value) (A : Around) (outer : List Env) (s : Shared) (H : Hp) (vs : List V) (Q : VK) (E : XK), A.guards = some [] →
      Room k (A.deeper (envOfC qual (defScope st) s.heap.objs.size f cdv)) → sp vs H Q E →
      ∃ t, PSs (cxOf CX0 P w K mg base N qual (defScope st) f cdv A outer s H E).nox (defBody st) t ∧ t { nx := fun _ H' => Q .non H', rt := Q } (start N vs) H) :
    FG P w K mg base (k + 1) f fd ps sp := by
  obtain ⟨oc, od, kV, doc, pm, an, cdv, ct, osl, rfl, lk, hcd⟩ := F.ex
  constructor
  · exact many
  · intro A outer s H args us vs Q E ng hr e0 hb rv hsp
    have inK : K.In s.heap := e0.mod.kin.keeps fun b o q => (e0.bs b o q).1
    have noL : s.heap.NoLimit := e0.mod.nolimit.keeps fun b o q => (e0.bs b o q).1
    have kinds : ∀ y ∈ ps.zip us, (defScope st).names.lookup y.1 = some .local ∨ ((defScope st).names.lookup y.1 = some .cell ∧ ((cellsFrom (s.heap.objs.size + 1) (defScope st).names []).lookup y.1).isSome = true) := by
      rintro ⟨n, v⟩ hy
      cases S.par n (List.of_mem_zip hy).1 with
      | inl q => exact .inl q
      | inr q => exact .inr ⟨q, PySem.W.cellsFrom_some _ _ _ (.inl q)⟩
    apply codeAny_call_function hr.depth (inK _ _ lk) rfl S.co S.gen rfl (PySem.W.codeRec_of inK hcd)
    apply hb
    apply wpAny_newFunctionEnv_cells S.kind kinds
    intro env he s1 xx
    subst he
    refine ⟨noL.keeps xx.toInCall.keep, ?_⟩
    apply codeAny_func
    obtain ⟨t, ht, hq⟩ := body cdv A outer s H vs Q E ng (hr.deeper _) hsp
    have J : Inv (cxOf CX0 P w K mg base N qual (defScope st) f cdv A outer s H E) [] (start N vs) H s1 := inv_start S hr.hd e0 (many _ _ _ _ hsp) rv xx
    refine wpAny_mono (ht.nox.run [] s1 (start N vs) H _ J hq) ?_ (fun _ _ z => z)
    intro fl s' hs
    cases fl with
    | ret u =>
      obtain ⟨v, σ', H', J', r', q⟩ := hs
      exact ⟨v, H', J'.os, J'.bare, J'.base, J'.hok, r', q⟩
    | next =>
      obtain ⟨σ', H', J', q⟩ := hs
      exact ⟨V.non, H', J'.os, J'.bare, J'.base, J'.hok, (rfl : RelV V.non Value.none), q⟩
    | brk => exact hs.elim fun _ z => z.elim fun _ z => z.2.elim
    | cont => exact hs.elim fun _ z => z.elim fun _ z => z.2.elim
end

section
variable {X : Cx} {k : Nat} {f : Addr} {fd : FuncData} {ps : List Str} {sp : Sp} {dvs : List V} {ds : List Value} {x : Str} {p pos : Pos} {e : Expr} {es : List Expr} {t : TA}
/-- a call of such a def, where no guard stands -/
theorem callG (F : FG X.prog X.w X.K X.mg X.base k f fd ps sp) (ng : X.A.guards = some []) (hr : Room k X.A) (hg : Gl X x) (hm : X.mg x = some (.ref f)) (hk : PySem.W.keepIn X.K (.ref f) = true) (hb : Binds X.K fd ps ds) (hd : Vals dvs ds)
    (ha : PA X (e :: es) t) (hdb : (x == ("__debug__" : Str)) = false := by decide) (he : starEach (e :: es) X.env = (false, eval e X.env) :: starEach es X.env := by rfl) (hpl : (backTo pos (starEach es X.env)).any (·.1) = false := by rfl) :
    PE X (.Call (.Name x p) (e :: es) [] pos) (tCall sp dvs E0 t) := by
  constructor
  intro pins s σ H Q I h
  apply wpAny_Call_Name_kw
  apply ld_glob I hg hm _ hdb
  apply PySem.W.callWith_K (h₀ := X.base) I.ok.mod.kin hk _ he hpl
  apply thn (ha.run pos pins s σ H _ I h)
  rintro us s1 ⟨vs, H1, I1, r, q⟩
  refine ⟨I1.kIn, ?_⟩
  have r2 : Vals (vs ++ dvs) (us ++ ds) := r.append hd
  have hl : (us ++ ds).length = ps.length := by rw [← r2.length]; exact F.many _ _ _ _ q
  apply wpAny_call
  apply codeAny_mono (F.goes X.A X.stack s1 H1 ⟨us, []⟩ (us ++ ds) (vs ++ dvs) Q E0 ng hr I1.env0 (hb s1 us I1.kIn hl) r2 q)
  intro res s' hq
  match res, hq with
  | .error _, hq => exact hq.elim
  | .ok (.ret u), hq => exact I1.after hq
  | .ok .next, hq => exact hq.elim
  | .ok .brk, hq => exact hq.elim
  | .ok .cont, hq => exact hq.elim
end

/-! ### the end of a row over such a law -/
theorem endG {P : Program} {w : World} {K : PySem.W.Frag} {mg mb : Str → Option Value} {k : Nat} {fa a : Addr} {fd : FuncData} {x : Str} {sp : Sp} {s : Shared} {us : List Value} {ns : List Int}
    (inK : K.In s.heap) (gl : s.heap.Ns mainGlobals mg) (bu : s.heap.Ns builtinsNs mb) (buE : ∀ x : Str, x ≠ "__name__" → mb x = bootBuiltins x) (noL : s.heap.NoLimit) (noG : s.gens = #[])
    (at_ : s.heap.get? a = some { cls := .type "list", data := .seq us.toArray }) (iA : IntsAre us ns) (len : ns.length ≤ sizeLine) (room : Room k callerA)
    (F : ∀ base : Heap, K.In base → base.Ns mainGlobals mg → FG P w K mg base k fa fd [x] sp) (bnd : ∀ (s : Shared) (u : Value), BindsTo s fd ⟨[u], []⟩ [(x, u)])
    (want : ∀ H : Hp, Only H → SqL K H a (ns.map V.int) → sp [.ref a] H (fun v _ => v = .bl true) E0) :
    codeAny (model P w) callerA (.call (.ref fa) ⟨[.ref a], []⟩) (fun r s' => r = .ok (.ret (.bool true)) ∧ OldK s.heap s'.heap ∧ s'.os = s.os ∧ AllBare s'.gens) s := by
  have rv := vals_ints iA
  have lenV := iA.length
  have key : ∀ H : Hp, Only H → SqL K H a (ns.map V.int) → HOk P w H s.heap → (∀ b, b ≠ a → H b = none) → (K.lookup a ≠ none → H a = none) →
      codeAny (model P w) callerA (.call (.ref fa) ⟨[.ref a], []⟩) (fun r s' => r = .ok (.ret (.bool true)) ∧ OldK s.heap s'.heap ∧ s'.os = s.os ∧ AllBare s'.gens) s := by
    intro H oH sH okH one hK
    have nd : ∀ {b : Addr} {o : Obj} {es : Array DictEntry} {ep : Nat}, s.heap.get? b = some o → o.data = .dict es ep → H b = none := by
      intro b o es ep e d
      by_cases eb : b = a
      · rw [eb, at_] at e
        cases e
        exact nomatch (show Data.seq us.toArray _ = Data.dict es ep from d)
      · exact one b eb
    have nsH : ∀ {b : Addr} {m : Str → Option Value}, s.heap.Ns b m → (hidT s.heap H).Ns b m := by
      rintro b m ⟨o, es, ep, e, d, r⟩
      exact ⟨o, es, ep, hidT_get e (nd e d), d, r⟩
    have kH : K.In (hidT s.heap H) := by
      intro b o e
      apply hidT_get (inK b o e)
      by_cases eb : b = a
      · rw [eb]
        exact hK (by rw [← eb, e]; simp)
      · exact one b eb
    have md : Mod K mg (hidT s.heap H) := ⟨kH, nsH gl, ⟨mb, nsH bu, buE⟩, noL.elim fun mc q => ⟨mc, nsH q.1, q.2⟩⟩
    have e0 : Env0 P w K mg (hidT s.heap H) callerA [] s H :=
      { frames := rfl, mod := md, bs := fun b o e => of_hidT e, bsz := Nat.le_of_eq (hidT_size _ _), funs := trivial, frf := fun b hb => (nomatch (show b ∈ ([] : List Addr) from hb)), hok := okH, bare := .of_eq noG }
    apply codeAny_mono ((F _ kH (nsH gl)).goes callerA [] s H ⟨[.ref a], []⟩ [.ref a] [.ref a] _ _ rfl room e0 (bnd s (.ref a)) (.cons rfl .nil) (want H oH sH))
    intro r s' h
    match r, h with
    | .error e, h => exact h.elim
    | .ok .next, h => exact h.elim
    | .ok .brk, h => exact h.elim
    | .ok .cont, h => exact h.elim
    | .ok (.ret u), ⟨v, H', os, bare, un, ok', r', q⟩ =>
      have q' : v = .bl true := q
      subst q'
      have eu : u = Value.bool true := r'
      subst eu
      refine ⟨rfl, OldK.of_keep ?_, os, bare⟩
      intro b o e
      cases eb : H b with
      | none => exact un.keep b o e eb (fun z => (nomatch (show b ∈ ([] : List Addr) from z))) (by simp)
      | some u =>
        cases oH b with
        | inl z => rw [eb] at z; cases z
        | inr z =>
          obtain ⟨ob, xs, z⟩ := z
          have e1 := (okH b _ z).1
          have e2 := (ok' b _ (un.frzs b ob _ z)).1
          rw [e] at e1
          cases e1
          exact e2
  cases hk : K.lookup a with
  | some o =>
    have e := inK a o hk
    rw [at_] at e
    cases e
    apply key (fun _ => none) (fun _ => .inl rfl) _ (fun b u z => nomatch (show (none : Option HO) = some u from z)) (fun _ _ => rfl) (fun _ => rfl)
    exact .inr ⟨_, us.toArray, _, hk, rfl, rfl, rfl, by rw [List.size_toArray, lenV]; exact len, by simpa using rv⟩
  | none =>
    let fz : HO := .frz { cls := .type "list", data := .seq us.toArray } (.lst (ns.map V.int))
    apply key (fun b => if b = a then some fz else none)
    · intro b
      by_cases hb : b = a
      · exact .inr ⟨_, _, if_pos hb⟩
      · exact .inl (if_neg hb)
    · exact .inl (.inr ⟨_, if_pos rfl⟩)
    · intro b u z
      by_cases hb : b = a
      · have z' := (if_pos hb).symm.trans z
        cases z'
        subst hb
        exact ⟨at_, by rw [List.length_map]; exact len, us, _, rv, at_⟩
      · have z' := (if_neg hb).symm.trans z
        cases z'
    · intro b hb
      exact if_neg hb
    · intro z
      exact absurd hk z
theorem walkG {l : PySem.W.OpenLaw} {n k : Nat} {q : Program} {loose : List Str} {XP : (Str → Option Value) → Heap → Prop} {YP : World → Heap → Prop} {d : DefRec} {K : Params → PySem.W.Frag} {sp : PySem.W.Frag → Sp} {x : Str}
    (most : l.most = some n) (small : n ≤ sizeLine) (plain : d.params.defaults = []) (room : Room k callerA) (hY : ∀ (w : World) (h : Heap), YP w h → (K w.params).In h)
    (F : ∀ (w : World) (mg : Str → Option Value) (fa : Addr) (h : Heap), (K w.params).In h → h.Ns mainGlobals mg → mg d.name = some (.ref fa) →
      ∃ fd : FuncData, (∀ (s : Shared) (u : Value), BindsTo s fd ⟨[u], []⟩ [(x, u)]) ∧
        ∀ base : Heap, (K w.params).In base → base.Ns mainGlobals mg → FG l.prog w (K w.params) mg base k fa fd [x] (sp (K w.params)))
    (want : ∀ (K : PySem.W.Frag) (H : Hp) (a : Addr) (ns : List Int), ns.length ≤ n → Only H → SqL K H a (ns.map V.int) → sp K [.ref a] H (fun v _ => v = .bl true) E0) :
    PySem.W.WalkO q loose XP YP l.row.toRowW d [] (fun f vs => PySem.call f vs) := by
  apply Att.attach_call most plain
  intro w s₀ s₁ mg mb fa o pm cd doc a us ns G Y ho hd hcd hmg at_ iA len noG
  obtain ⟨fd, hb, hF⟩ := F w mg fa _ (hY w _ Y) G.T.g hmg
  exact endG (hY w _ Y) G.T.g G.T.b G.T.builtins G.T.nolimit noG at_ iA (Nat.le_trans len small) room hF hb fun H hO hS => want (K w.params) H a ns len hO hS

/-! ### a value is told by what is wanted of it, then what follows is shown once -/
theorem cutA {te : TE} {g : TG} {u : TS} {D : Ends} {σ : L2.St} {H : Hp} (W : V → Hp → Prop) (h1 : ∀ Q : VK, (∀ v H', W v H' → Q v H') → te σ H Q) (h2 : ∀ v H', W v H' → g v σ H' (u D)) : tSeq (tAsg te g) u D σ H := h1 _ h2
theorem cutT {t u : TS} {D : Ends} {σ : L2.St} {H : Hp} (W : L2.St → Hp → Prop) (h1 : ∀ N : L2.St → Hp → Prop, (∀ σ' H', W σ' H' → N σ' H') → t { D with nx := N } σ H) (h2 : ∀ σ' H', W σ' H' → u D σ' H') : tSeq t u D σ H := h1 _ h2

/-- a store; then «dsimp only» -/
theorem gN {i : Nat} {v : V} {σ : L2.St} {H : Hp} {N : L2.St → Hp → Prop} (h : N (σ.set i (some v)) H) : gName i v σ H N := h
/-- a comprehension without a test -/
theorem yes {σ : L2.St} {H : Hp} {F G : Hp → Prop} (h : F H) : tYes σ H (fun b H3 => if b = true then F H3 else G H3) := by
  show (if true = true then F H else G H)
  rw [if_pos rfl]
  exact h

/-! ### reprs of data -/
section
variable {X : Cx}
/-- repr(x), x a list or a tuple of data -/
theorem call_repr (ng : X.A.guards = some []) (hu : X.A.units + 64 < cLine) :
    CallR X (.builtin "repr") (fun xs H Q => ∃ x d, xs = [x] ∧ Dp X.K H x d ∧ isDisplay d = true ∧ d.showable = true ∧ d.hasDict = false ∧ d.depth < 60 ∧ d.shown.length ≤ sizeLine ∧ Q (.str d.shown) H) := by
  intro pins s σ H xs us Q I r h
  obtain ⟨x, d, rfl, dp, dis, sho, nod, dep, len, q⟩ := h
  cases r with
  | cons r1 r2 =>
    cases r2
    obtain ⟨as, rd⟩ := Dp.reads I d x _ dp r1
    obtain ⟨a, rfl⟩ := isRef_of_reads rd dis
    apply repr_of_reads' rd sho (PyData.noDict_hsm nod) ng (by omega) (fun _ _ e => e) _ len
    intro h' u tk kp
    exact ⟨.str d.shown, H, I.kept (h' := h') (t' := tk) kp, ⟨u, rfl⟩, q⟩
/-- x.ljust(i, c) -/
theorem mt_ljustF : MtR X "str.ljust" (fun x xs H Q => ∃ (a : Str) (i : Int) (c : Nat), x = .str a ∧ xs = [.int i, .str ⟨#[c]⟩] ∧ PadOk i = true ∧ Q (.str (Txt.ljustF a i c)) H) := by
  intro pins s σ H x xs v us Q I rx rs h
  obtain ⟨a, i, c, rfl, rfl, pad, q⟩ := h
  obtain ⟨t, rfl⟩ := rx
  cases rs with
  | cons r1 rs =>
    cases rs with
    | cons r2 rs =>
      cases rs
      obtain ⟨u, rfl⟩ := r1
      obtain ⟨z, rfl⟩ := r2
      apply ljust_fill pad rfl
      intro t' k
      exact ⟨.str _, H, I.tok k, ⟨t', rfl⟩, q⟩
end

/-! ### calls by names alone -/
section
variable {X : Cx} {CX : CXT} {k : Nat} {f : Addr} {fd : FuncData} {ps ks : List Str} {sp : Sp} {E : XK} {x : Str} {p pos : Pos} {kws : List Keyword} {tk : TA} {g : List Value → List Value → List Value} {gV : List V → List V → List V}
/-- f(k = v, ..) -/
theorem callK0 (F : FnOk X.prog X.w X.K X.mg X.base CX k f fd ps sp) (hr : Room k X.A) (hg : Gl X x) (hm : X.mg x = some (.ref f)) (hk : PySem.W.keepIn X.K (.ref f) = true) (hb : KBinds X.K fd ps ks g gV) (hx : Passes CX X E) (hkw : PK X kws tk)
    (hall : (backToKw pos (keywordEach kws X.env)).all (·.1.isSome) = true := by rfl) (hks : (backToKw pos (keywordEach kws X.env)).filterMap (·.1) = ks := by rfl) (hdb : (x == ("__debug__" : Str)) = false := by decide)
    (hpl : ((backTo pos (starEach [] X.env)).any (·.1) || (backToKw pos (keywordEach kws X.env)).any (·.1.isNone)) = false := by rfl) :
    PE X (.Call (.Name x p) [] kws pos) (tCallK sp gV E tNil tk) := by
  constructor
  intro pins s σ H Q I h
  apply wpAny_Call_Name_kw
  apply ld_glob I hg hm _ hdb
  apply PySem.W.callWith_KW0 (h₀ := X.base) I.ok.mod.kin hk hall _ hpl
  apply thn (hkw.run pos pins s σ H _ I h)
  rintro ws s2 ⟨zs, H2, I2, rz, q2⟩
  refine ⟨I2.kIn, ?_⟩
  rw [hks]
  exact run_fnk (us := []) (vs := []) F hr hb hx I2 .nil rz q2
end
/-- two parameters, told by their names the other way about -/
def swp {α : Type} : List α → List α → List α
  | [], [a, b] => [b, a]
  | _, _ => []
theorem kb_swp {K : PySem.W.Frag} {x qual : Str} {st : Stmt} {f : Addr} {fd : FuncData} {p1 p2 : Str} (F : Fun K x qual st f fd)
    (h : ∀ (kV doc pm : Value) (an : Option Addr) (cdv ct : Value) (a b : Value), bindArgs (PySem.W.fnOf x qual (defArgs st) (defBody st) (defScope st) .none kV doc pm an cdv ct) ⟨[], [(p2, a), (p1, b)]⟩ = pure [(p1, b), (p2, a)]) :
    KBinds K fd [p1, p2] [p2, p1] swp swp := by
  obtain ⟨oc, od, kV, doc, pm, an, cdv, ct, osl, rfl, lk, hcd⟩ := F.ex
  constructor
  · intro s us ws _ hl
    match us, ws, hl with
    | [], [a, b], _ => exact .of_eq (h kV doc pm an cdv ct a b)
    | [], [], hl => exact absurd hl (by simp [swp])
    | [], [_], hl => exact absurd hl (by simp [swp])
    | [], _ :: _ :: _ :: _, hl => exact absurd hl (by simp [swp])
    | _ :: _, _, hl => exact absurd hl (by simp [swp])
  · intro vs us zs ws h1 h2
    cases h1 with
    | nil =>
      cases h2 with
      | nil => exact .nil
      | cons a h2 =>
        cases h2 with
        | nil => exact .nil
        | cons b h2 =>
          cases h2 with
          | nil => exact .cons b (.cons a .nil)
          | cons c h2 => exact .nil
    | cons a h1 =>
      cases h2 with
      | nil => exact .nil
      | cons b h2 => exact .nil
/-! ### the text of a list of two -/
theorem two_text (t u : Str) : (listText [t, u]).length = t.length + u.length + 4 := by
  have e : listText [t, u] = ((((Str.ofString "[" ++ Str.ofString "") ++ t) ++ Str.ofString ", ") ++ u) ++ Str.ofString "]" := rfl
  rw [e, TL.len_tl]
  simp only [TL.tl_append, List.length_append]
  rw [show (TL.tl (Str.ofString "[")).length = 1 by decide +kernel, show (TL.tl (Str.ofString "")).length = 0 by decide +kernel, show (TL.tl (Str.ofString ", ")).length = 2 by decide +kernel, show (TL.tl (Str.ofString "]")).length = 1 by decide +kernel, ← TL.len_tl, ← TL.len_tl]
  omega
theorem two_small {t : Str} {d : PyData} (e : d.shown = t) (h : t.length ≤ 1000) : (PyData.list [d, d]).shown.length ≤ sizeLine := by
  simp only [PyData.shown, PyData.shownAll, e]
  rw [two_text]
  exact Nat.le_trans (show _ ≤ 3000 by omega) (by decide)
end Bs
set_option Elab.async false
set_option linter.all false
set_option maxRecDepth 100000
set_option maxHeartbeats 4000000
/-! Xc: exceptions of the program's own, over ValueError, LookupError or RuntimeError, with own classes between, made and held as values: stored into by their own __init__, read, asked for their class. -/
namespace PySem
namespace XcW
open PySem.W PySem.Calls PyProof.Rows Builtin Builtin.ObjectAttr
section
variable {prog : Program} {w : World} {A : Around} {R : Result → Shared → Prop} {hp : Heap} {g : Array GenState} {d : Drawn} {t : Nat} {os : OsState} {K : Frag} {x C : Addr} {fv : Array Value} {name : Str} {tk : Tok} {v : Value} {B : String} {bmB : List Value}
/-- the first field -/
theorem store1 (SF : StoreFacts B bmB "object.__setattr__" "object") (inK : K.In hp) (hx : hp.get? x = some { cls := .ref C, data := .fields fv }) (ov : excOver K C bmB = true) (tn : takerIn K C name = some none) (hd : hasDictIn K C = true)
    (go : ∀ h' tk' dx, (∀ b o, b ≠ x → hp.get? b = some o → h'.get? b = some o) → hp.objs.size ≤ dx → dx ≠ x → h'.get? x = some { cls := .ref C, dict := some dx, data := .fields fv } →
      h'.Ns1 dx (fun y => if y = name then some v else none) → R (.ok (.ret .none)) ⟨h', g, d, tk', os⟩) :
    codeAny (model prog w) A (.call (.builtin "object.__setattr__") ⟨[.ref x, .str name tk, v], []⟩) R ⟨hp, g, d, t, os⟩ := by
  apply osa_openX (od := none) SF inK ⟨hx, rfl, rfl, trivial⟩ ov tn
  intro b
  obtain ⟨cd, hc, hd'⟩ := any_some hd
  have away : x ≠ hp.objs.size := Nat.ne_of_lt (Heap.lt_size hx)
  have cls : Looks (model prog w) hp (classData C) cd := looks_clsIn inK hc
  show wpAny _ _ (storeInOwnDict (.ref x) (.ref C) (.str name tk) name v b) _ _ _
  obtain ⟨nm, bs, mro, ns, qn, hdd, sn, sb, ab, col, del⟩ := cd
  have e : hdd = true := hd'
  subst e
  unfold storeInOwnDict ownDictForStores
  repeat (first | with_reducible refine HandSPX.store_in_new ?_ ?_ | with_reducible refine wpAny_loadPart_at hx ?_ | with_reducible refine cls.at ?_ | wp_step)
  · exact ⟨_, #[], _, (Heap.get?_update_ne _ _ _ _ away.symm).trans (Heap.get?_push_at rfl rfl), rfl, (fun e he => absurd he (by simp)), (fun _ => rfl)⟩
  · intro h' tk' hn' hs
    have hx1 : (hp.push { cls := .type "dict", data := .dict #[] }).get? x = some { cls := .ref C, data := .fields fv } := Heap.get?_push_of_some _ hx
    apply go h' tk' hp.objs.size _ (Nat.le_refl _) away.symm _ hn'
    · intro b o hb ho
      exact (hs.2 b (Nat.ne_of_lt (Heap.lt_size ho))).trans ((Heap.get?_update_ne _ _ _ _ hb).trans (Heap.get?_push_of_some _ ho))
    · exact (hs.2 x away).trans (Heap.get?_update_self _ hx1 rfl)
/-- a further field -/
theorem store2 {dx : Addr} {m0 : Str → Option Value} {nl : List Str} (SF : StoreFacts B bmB "object.__setattr__" "object") (inK : K.In hp) (hx : hp.get? x = some { cls := .ref C, dict := some dx, data := .fields fv }) (hns : hp.Ns1 dx m0) (hw : Within m0 nl) (few : nl.length ≤ 1000)
    (ov : excOver K C bmB = true) (tn : takerIn K C name = some none) (hd : hasDictIn K C = true)
    (go : ∀ h' tk', (∀ b o, b ≠ dx → hp.get? b = some o → h'.get? b = some o) → h'.Ns1 dx (fun y => if y = name then some v else m0 y) → R (.ok (.ret .none)) ⟨h', g, d, tk', os⟩) :
    codeAny (model prog w) A (.call (.builtin "object.__setattr__") ⟨[.ref x, .str name tk, v], []⟩) R ⟨hp, g, d, t, os⟩ := by
  obtain ⟨oD, _, _, hoD, _, _⟩ := hns.count hw
  apply osa_openX (od := some oD) SF inK ⟨hx, rfl, rfl, hoD⟩ ov tn
  intro b
  obtain ⟨cd, hc, hd'⟩ := any_some hd
  have cls : Looks (model prog w) hp (classData C) cd := looks_clsIn inK hc
  show wpAny _ _ (storeInOwnDict (.ref x) (.ref C) (.str name tk) name v b) _ _ _
  obtain ⟨nm, bs, mro, ns, qn, hdd, sn, sb, ab, col, del⟩ := cd
  have e : hdd = true := hd'
  subst e
  unfold storeInOwnDict ownDictForStores
  repeat (first | with_reducible refine OEX.store_in_old hns hw few ?_ | with_reducible refine wpAny_loadPart_at hx ?_ | with_reducible refine cls.at ?_ | wp_step)
  intro h' tk' hn' hs
  exact go h' tk' (fun b o hb ho => (hs.2 b hb).trans ho) hn'
end
end XcW
end PySem
namespace Xc
open PySem PySem.Spec PyProof.Rows L2 Bs
/-- what the written part says of such a class -/
structure Cl (K : PySem.W.Frag) (C : Addr) (B newId initId : String) (bmB : List Value) : Prop where
  F : ExcBaseFacts B newId initId bmB
  SF : StoreFacts B bmB "object.__setattr__" "object"
  ini : PySem.W.excInitIn K C bmB newId = true
  ov : PySem.W.excOver K C bmB = true
  hd : PySem.W.hasDictIn K C = true
  sa : PySem.W.findIn K (.ref C) "__setattr__" = some (some (.builtin "object.__setattr__"))
  ga : PySem.W.findIn K (.ref C) "__getattribute__" = some (some (.builtin "BaseException.__getattribute__"))
  gg : PySem.W.findIn K (.ref C) "__getattr__" = some none
  ex : PySem.W.subIn K (.ref C) (.type "BaseException") = some true
  ty : PySem.W.typeIn K (.ref C) = some (.type "type")
  kp : PySem.W.keepIn K (.ref C) = true
section
variable {X : Cx} {pins : List (Addr × Obj)} {σ : L2.St} {H : Hp} {s : Shared} {a C dx : Addr} {f : Str} {y : V} {u : Value} {fs : List (Str × V)} {Q : Unit → Shared → Prop} {E : Value → Shared → Prop} {A : Around} {B newId initId : String} {bmB : List Value}
theorem put1 (T : Cl X.K C B newId initId bmB) (I : Inv X pins σ H s) (e : H a = some (exo a C none)) (tn : PySem.W.takerIn X.K C f = some none) (ry : RelV y u)
    (go : ∀ dx s', H dx = none → dx ≠ a → Inv X pins σ (upd (upd H dx (exd dx [(f, y)])) a (exo a C (some dx))) s' → Q () s') : wpAny (model X.prog X.w) A (setAttr (.ref a) f u) Q E s := by
  obtain ⟨t1, ho⟩ := exo_at I.hok e
  obtain ⟨hp, g, d, t, os⟩ := s
  apply PySem.W.set_plain I.kIn (ox := { cls := .ref C, dict := none, data := .fields #[.ref t1, .none, .none, .none, .bool false, .none] }) (od := none) ⟨ho, rfl, rfl, trivial⟩ T.sa
  apply PySem.XcW.store1 T.SF I.kIn ho T.ov tn T.hd
  intro h' tk' dx k dn dne hx hn
  have fresh : H dx = none := I.hok.fresh dn
  have offd : ∀ {b : Addr} {o : Obj}, hp.get? b = some o → b ≠ dx := fun {b o} q => Nat.ne_of_lt (Nat.lt_of_lt_of_le (Heap.lt_size q) dn)
  have offa : ∀ {b : Addr}, H b = none → b ≠ a := by
    intro b n z
    rw [z, e] at n
    cases n
  have un : Un X.fs [] H (upd (upd H dx (exd dx [(f, y)])) a (exo a C (some dx))) hp h' := by
    constructor
    · exact fun b o q n _ _ => k b o (offa n) q
    · exact fun b o q n _ _ => ⟨o.slots, k b o (offa n) q⟩
    · intro b o q n _
      rw [upd_ne (offa n), upd_ne (offd q)]
      exact n
    · intro b o q _
      by_cases hb : b = a
      · exact ⟨_, by rw [hb]; exact hx⟩
      · exact ⟨o, k b o hb q⟩
    · intro b xs q
      rw [upd_ne (at_ne e q exo_tup), upd_ne (ne_of_none q fresh)]
      exact q
    · intro b o v q
      rw [upd_ne (at_ne e q exo_frz), upd_ne (ne_of_none q fresh)]
      exact q
    · intro b ps q
      exact ⟨#[], by rw [upd_ne (at_ne e q exo_tbl), upd_ne (ne_of_none q fresh), q]; simp⟩
  apply go dx _ fresh dne
  apply I.un (t' := tk') un
  intro b o q
  by_cases hb : b = a
  · subst hb
    rw [upd_same] at q
    cases q
    exact exo_ok hx
  · rw [upd_ne hb] at q
    by_cases hd : b = dx
    · subst hd
      rw [upd_same] at q
      cases q
      exact exd_ok hn (relO_put (fs := []) ry fun g => True.intro)
    · rw [upd_ne hd] at q
      apply (I.hok b o q).stay
      · intro c v hc z
        apply k c v _ z
        cases hc with
        | inl hc =>
          rw [hc]
          exact hb
        | inr hc => exact at_ne e hc exo_own
      · intro c hc
        rw [upd_ne (at_ne e hc exo_own), upd_ne (ne_of_none hc fresh)]
        exact hc
      · intro c xs hc
        rw [upd_ne (at_ne e hc exo_tup), upd_ne (ne_of_none hc fresh)]
        exact hc
theorem put2 (T : Cl X.K C B newId initId bmB) (I : Inv X pins σ H s) (e : H a = some (exo a C (some dx))) (ed : H dx = some (exd dx fs)) (few : fs.length ≤ 900) (tn : PySem.W.takerIn X.K C f = some none) (ry : RelV y u)
    (go : ∀ s', Inv X pins σ (upd H dx (exd dx ((f, y) :: fs))) s' → Q () s') : wpAny (model X.prog X.w) A (setAttr (.ref a) f u) Q E s := by
  obtain ⟨t1, ho⟩ := exo_at I.hok e
  obtain ⟨mA, hns, rel⟩ := exd_at I.hok ed
  have hw := within_of rel
  obtain ⟨hp, g, d, t, os⟩ := s
  obtain ⟨oD, _, _, hoD, _, _⟩ := hns.count hw
  apply PySem.W.set_plain I.kIn (ox := { cls := .ref C, dict := some dx, data := .fields #[.ref t1, .none, .none, .none, .bool false, .none] }) (od := some oD) ⟨ho, rfl, rfl, hoD⟩ T.sa
  apply PySem.XcW.store2 T.SF I.kIn ho hns hw (by rw [List.length_map]; omega) T.ov tn T.hd
  intro h' tk' k hn
  have hd : ∃ o, h'.get? dx = some o := by
    obtain ⟨o, _, _, e', _⟩ := hn
    exact ⟨o, e'⟩
  apply go
  exact I.write (t' := tk') (x := dx) (e := dx) (o := exd dx ((f, y) :: fs)) (by rw [ed]; exact True.intro) (.inl rfl) k hd (exd_ok hn (relO_put ry rel))
end
end Xc
set_option Elab.async false
set_option linter.all false
set_option maxRecDepth 100000
set_option maxHeartbeats 4000000
/-! Xd: such exceptions made by places and by names. -/
namespace PySem
namespace XcW
open PySem.W PySem.Calls PyProof.Rows Builtin Builtin.ObjectAttr
section
variable {M : Model} {A : Around} {E : Value → Shared → Prop} {hp : Heap} {g : Array GenState} {d : Drawn} {t : Nat} {os : OsState}
variable {nm qn : Str} {C N : Addr} {bs bm bmB : List Value} {hdct : Bool} {sn : List Str} {sub : List Value} {ab : Bool} {col : Option Bool} {dd : Option Addr} {k0 k1 k2 k3 k5 : Option Value} {B newId initId : String} {us : List Value} {kw : List (Str × Value)}
theorem newCheck (F : ExcBaseFacts B newId initId bmB) (alike : ∀ Y : String, bm.contains (.type Y) = bmB.contains (.type Y)) {Q : Unit → Shared → Prop}
    (atC : hp.get? C = some (excClassObj nm qn C N bs bm hdct sn sub ab col dd k0 k1 k2 k3 k5 newId)) (go : Q () ⟨hp, g, d, t, os⟩) :
    wpAny M A (checkBuiltinCall newId ⟨.ref C :: us, kw⟩) Q E ⟨hp, g, d, t, os⟩ := by
  have below : (Value.ref C :: bm).contains (.type B) = true := by
    rw [List.contains_cons, alike, F.hasB]
    exact Bool.or_true _
  have star := F.noStar
  simp only [checkBuiltinCall, F.newRow, F.newSplit, F.newKind]
  repeat (first | refine wpAny_staticBase_exc atC ?_ | refine wpAny_madeBy_exc atC ?_ | refine wpAny_loadPart_at atC ?_ | (refine wpAny_isSubtype_exc atC ?_; rw [below]) | simp only [bne_self_eq_false, Bool.false_eq_true, if_false] | wp_step)
  exact go
theorem tcCheck {Q : Unit → Shared → Prop} (atC : hp.get? C = some (excClassObj nm qn C N bs bm hdct sn sub ab col dd k0 k1 k2 k3 k5 newId))
    (go : Q () ⟨hp, g, d, t, os⟩) : wpAny M A (checkBuiltinCall "type.__call__" ⟨.ref C :: us, kw⟩) Q E ⟨hp, g, d, t, os⟩ := by
  have g3 := tc_sub
  have isT : (⟨hp, g, d, t, os⟩ : Shared).TypeIs (.ref C) "type" := ⟨_, atC, rfl⟩
  simp only [checkBuiltinCall, tc_split, tc_kind]
  repeat (any_goals (first | assumption | with_reducible refine wpAny_map ?_ | with_reducible refine wpAny_onRaise ?_ | with_reducible refine wpAny_loadPart_at atC ?_ | wp_step))
end
section
variable {prog : Program} {w : World} {A : Around} {E : Value → Shared → Prop} {R : Result → Shared → Prop} {hp : Heap} {g : Array GenState} {d : Drawn} {t : Nat} {os : OsState}
variable {nm qn : Str} {C N fI : Addr} {bs bm bmB : List Value} {hdct : Bool} {sn : List Str} {sub : List Value} {ab : Bool} {col : Option Bool} {dd : Option Addr} {k0 k1 k2 k3 k5 : Option Value} {B newId initId : String} {us : List Value} {kw : List (Str × Value)}
/-- the heap with the new one, not yet filled -/
abbrev bornH (hp : Heap) (C : Addr) (us : List Value) : Heap := (hp.push (kdv_tup us)).push (HandSPX.excO C hp.objs.size)
theorem newMade (F : ExcBaseFacts B newId initId bmB) (alike : ∀ Y : String, bm.contains (.type Y) = bmB.contains (.type Y))
    (atC : hp.get? C = some (excClassObj nm qn C N bs bm hdct sn sub ab col dd k0 k1 k2 k3 k5 newId)) (few : us.length ≤ sizeLine)
    (go : R (.ok (.ret (.ref (hp.objs.size + 1)))) ⟨bornH hp C us, g, d, t, os⟩) :
    codeAny (model prog w) A (.builtin newId ⟨.ref C :: us, kw⟩) R ⟨hp, g, d, t, os⟩ := by
  have fe := F.ends
  have isB : (Value.ref C :: bm).contains (.type B) = true := by
    rw [List.contains_cons, alike, F.hasB]
    exact Bool.or_true _
  have notA : (Value.ref C :: bm).contains (.type "AttributeError") = false := by
    rw [List.contains_cons, alike, F.noAttr]
    rfl
  have notN : (Value.ref C :: bm).contains (.type "NameError") = false := by
    rw [List.contains_cons, alike, F.noName]
    rfl
  apply codeAny_builtinAt F.entry
  unfold Builtin.«BaseException.__new__»
  apply wpAt_bind
  show wpAt _ _ _ (stack >>= _) _ _ _
  apply wpAt_bind
  apply wpAt_stack
  intro p below
  apply wpAt_of_wpAny
  wp_walk
  apply wpAt_of_wpAny
  rw [F.owner]
  repeat (first | with_reducible refine wpAny_loadPart_at atC ?_ | (with_reducible refine wpAny_isSubtype_exc atC ?_; first | rw [isB] | rw [notA] | rw [notN]) | with_reducible refine wpAny_madeHere_exc F.canon atC ?_ | wp_step)
  show R _ _
  rw [Heap.size_push]
  exact go
theorem tcMade (F : ExcBaseFacts B newId initId bmB) (alike : ∀ Y : String, bm.contains (.type Y) = bmB.contains (.type Y)) {Q : Fin → Shared → Prop}
    (atC : hp.get? C = some (excClassObj nm qn C N bs bm hdct sn sub ab col dd k0 k1 k2 k3 k5 newId)) (few : us.length ≤ sizeLine)
    (li : Looks (model prog w) hp (typeLookup (.ref C) "__init__") (some (.ref fI))) (lb : ∀ self, Looks (model prog w) hp (bindSpecial (.ref fI) self) (.ref fI, [self]))
    (go : codeAny (model prog w) A (.call (.ref fI) ⟨.ref (hp.objs.size + 1) :: us, kw⟩)
      (fun r s' => match r with | .error e => E e s' | .ok (.ret v) => v = .none ∧ Q (.done (.ret (.ref (hp.objs.size + 1)))) s' | .ok _ => False) ⟨bornH hp C us, g, d, t, os⟩) :
    wpAny (model prog w) A (Builtin.«type.__call__» ⟨.ref C :: us, kw⟩) Q E ⟨hp, g, d, t, os⟩ := by
  repeat (first | with_reducible refine wpAny_madeBy_exc atC ?_ | with_reducible refine wpAny_loadPart_at atC ?_ | wp_step)
  apply codeAny_call_builtin_code (Code.quiet_builtin _ F.quiet) (newCheck F alike atC _)
  apply newMade F alike atC few
  show wpAny _ _ _ _ _ _
  have keeps : ∀ b o, hp.get? b = some o → (bornH hp C us).get? b = some o := by
    intro b o e
    exact Heap.get?_push_of_some _ (Heap.get?_push_of_some _ e)
  have atC' := keeps _ _ atC
  have born : (bornH hp C us).get? (hp.objs.size + 1) = some (HandSPX.excO C hp.objs.size) := by heap_get
  have self : (Value.ref C :: bm).contains (.ref C) = true := by simp
  have li' := li.keeps keeps
  have lb' := (lb (.ref (hp.objs.size + 1))).keeps keeps
  unfold isInstance
  repeat (first | (with_reducible refine wpAny_isSubtype_exc atC' ?_; rw [self]) | with_reducible refine wpAny_loadPart_at born ?_ | wp_step)
  show wpAny _ _ (typeLookup (.ref C) _) _ _ _
  apply li'.at
  apply wpAny_holding
  apply wpAny_bind
  apply lb'.at
  apply wpAny_bind
  apply wpAny_call
  apply codeAny_mono go
  intro r s' z
  match r, z with
  | .error e, z => exact z
  | .ok .next, z => exact z.elim
  | .ok .brk, z => exact z.elim
  | .ok .cont, z => exact z.elim
  | .ok (.ret v), z =>
    obtain ⟨rfl, z⟩ := z
    first
      | exact wpAny_pure (wpAny_pure z)
      | (wp_walk; exact z)
theorem callMade (F : ExcBaseFacts B newId initId bmB) (alike : ∀ Y : String, bm.contains (.type Y) = bmB.contains (.type Y))
    (atC : hp.get? C = some (excClassObj nm qn C N bs bm hdct sn sub ab col dd k0 k1 k2 k3 k5 newId)) (few : us.length ≤ sizeLine)
    (li : Looks (model prog w) hp (typeLookup (.ref C) "__init__") (some (.ref fI))) (lb : ∀ self, Looks (model prog w) hp (bindSpecial (.ref fI) self) (.ref fI, [self]))
    (go : codeAny (model prog w) (A.under (.builtin "type.__call__" ⟨.ref C :: us, kw⟩)) (.call (.ref fI) ⟨.ref (hp.objs.size + 1) :: us, kw⟩) (InitBack (hp.objs.size + 1) R) ⟨bornH hp C us, g, d, t, os⟩) :
    codeAny (model prog w) A (.call (.ref C) ⟨us, kw⟩) R ⟨hp, g, d, t, os⟩ := by
  have g1 := tc_lookup
  have g2 := tc_bind (.ref C)
  have isT : (⟨hp, g, d, t, os⟩ : Shared).TypeIs (.ref C) "type" := ⟨_, atC, rfl⟩
  apply codeAny_of_tree
  show wpAny _ _ (callAny (.ref C) _) _ _ _
  repeat (any_goals (first | with_reducible refine wpAny_loadPart_at atC ?_ | assumption | wp_step))
  constructor
  · rfl
  apply codeAny_call_builtin_at (Code.quiet_builtin _ (by decide +kernel)) entry_typeCall
  apply tcCheck atC
  apply tcMade F alike atC few li lb
  apply codeAny_mono go
  intro r s' z
  match r, z with
  | .error _, z => exact z
  | .ok .next, z => exact z
  | .ok .brk, z => exact z
  | .ok .cont, z => exact z
  | .ok (.ret _), z => exact z
end
end XcW
end PySem
set_option Elab.async false
set_option linter.all false
set_option maxRecDepth 100000
set_option maxHeartbeats 4000000
/-! Xe: such exceptions as values: made, stored into, read. -/
namespace Xc
open PySem PySem.Spec PyProof.Rows L2 Bs
/-! ### self.f = e -/
def tPut (K : PySem.W.Frag) (f : Str) (to te : TE) : TS := fun D σ H => te σ H fun y H1 => to σ H1 fun x H2 =>
  ∃ (a C : Addr) (B n i : String) (bm : List Value), x = .ref a ∧ Cl K C B n i bm ∧ PySem.W.takerIn K C f = some none ∧
    ((H2 a = some (exo a C none) ∧ ∀ dx, H2 dx = none → dx ≠ a → D.nx σ (upd (upd H2 dx (exd dx [(f, y)])) a (exo a C (some dx)))) ∨
      ∃ (dx : Addr) (fs : List (Str × V)), H2 a = some (exo a C (some dx)) ∧ H2 dx = some (exd dx fs) ∧ fs.length ≤ 900 ∧ D.nx σ (upd H2 dx (exd dx ((f, y) :: fs))))
theorem ps_put {X : Cx} {o e : Expr} {f : Str} {to te : TE} {p' pos : Pos} (ho : PE X o to) (he : PE X e te) (hs : swapsWith e (some (.Attribute o f p')) pos.line X.env = pure false := by rfl) :
    PS X (.Assign [.Attribute o f p'] e pos) (tPut X.K f to te) := by
  constructor
  intro pins s σ H D I h
  apply plainObj_wpAny_Assign_Attribute _ hs
  apply thn (he.run pins s σ H _ I h)
  rintro v s1 ⟨y, H1, I1, r1, q1⟩
  apply thn (ho.run pins s1 σ H1 _ I1 q1)
  rintro u s2 ⟨x, H2, I2, r2, a, C, B, n, i, bm, rfl, T, tn, q⟩
  obtain rfl : u = Value.ref a := r2
  cases q with
  | inl q => exact put1 T I2 q.1 tn r1 fun dx s' h1 h2 J => ⟨σ, _, J, q.2 dx h1 h2⟩
  | inr q =>
    obtain ⟨dx, fs, ea, ed, few, q⟩ := q
    exact put2 T I2 ea ed few tn r1 fun s' J => ⟨σ, _, J, q⟩

/-! ### __init__'s own promise -/
def spIn (C : Addr) (n : Nat) (mk : List V → List (Str × V)) : Sp := fun vs H Q _ => ∃ (a : Addr) (xs : List V), vs = .ref a :: xs ∧ xs.length = n ∧ H a = some (exo a C none) ∧
  ∀ (dx : Addr) (H' : Hp), H dx = none → dx ≠ a → H' a = some (exo a C (some dx)) → H' dx = some (exd dx (mk xs)) → (∀ b, b ≠ a → b ≠ dx → H' b = H b) → Q .non H'

/-! ### C(..) -/
/-- what the class has: its own __init__ -/
structure Ini (K : PySem.W.Frag) (C fI : Addr) : Prop where
  at_ : PySem.W.findIn K (.ref C) "__init__" = some (some (.ref fI))
  ty : PySem.W.typeIn K (.ref fI) = some (.type "function")
section
variable {X : Cx} {pins : List (Addr × Obj)} {σ : L2.St} {H : Hp} {s : Shared} {Q : VK} {us ws : List Value} {vs zs : List V} {B newId initId : String} {bmB : List Value} {C fI : Addr} {k n : Nat} {fd : FuncData} {ps ks : List Str} {sp : Sp} {g : List Value → List Value → List Value} {gV : List V → List V → List V}
theorem runMade (T : Cl X.K C B newId initId bmB) (N : Ini X.K C fI) (F1 : FnOk X.prog X.w X.K X.mg X.base CX0 k fI fd ps sp) (hr : Room (k + 1) X.A) (hb : KBn X.K fd ps (n + 1) ks g gV) (few : n ≤ 1000)
    (I : Inv X pins σ H s) (r : Vals vs us) (rz : Vals zs ws) (l1 : vs.length = n) (l2 : zs.length = ks.length)
    (h : ∀ a, H a = none → sp (gV (.ref a :: vs) zs) (upd H a (exo a C none)) (fun v H2 => v = .non ∧ Q (.ref a) H2) E0) :
    wpAny (model X.prog X.w) X.A (call (.ref C) us (ks.zip ws)) (EP X pins σ Q) X.xe s := by
  obtain ⟨nm, N', qn, bs, bm, hdct, sn, sub, ab, col, dd, k0, k1, k2, k3, k5, hC, alike⟩ := PySem.W.excInit_of I.kIn T.ini
  have li := PySem.W.looks_findIn (M := model X.prog X.w) I.kIn N.at_
  have lb : ∀ self, PySem.W.Looks (model X.prog X.w) s.heap (bindSpecial (.ref fI) self) (.ref fI, [self]) := fun self => PySem.W.bind_fn I.kIn self N.ty
  have fresh : s.heap.objs.size ≤ s.heap.objs.size + 1 := Nat.le_succ _
  have hn : H (s.heap.objs.size + 1) = none := I.hok.fresh fresh
  have q0 := h _ hn
  have ul : us.length ≤ sizeLine := by
    have e := r.length
    rw [sizeLine_eq]
    omega
  obtain ⟨hp, gg, d, t, os⟩ := s
  have keeps : ∀ b o, hp.get? b = some o → (PySem.XcW.bornH hp C us).get? b = some o := by
    intro b o e
    exact Heap.get?_push_of_some _ (Heap.get?_push_of_some _ e)
  have born : (PySem.XcW.bornH hp C us).get? (hp.objs.size + 1) = some (PySem.HandSPX.excO C hp.objs.size) := by heap_get
  have I2 : Inv X pins σ (upd H (hp.objs.size + 1) (exo (hp.objs.size + 1) C none)) ⟨PySem.XcW.bornH hp C us, gg, d, t, os⟩ :=
    I.laid (h' := PySem.XcW.bornH hp C us) (t' := t) (o := exo (hp.objs.size + 1) C none) (a := hp.objs.size + 1) keeps fresh (exo_ok born)
  have r2 : Vals (V.ref (hp.objs.size + 1) :: vs) (Value.ref (hp.objs.size + 1) :: us) := .cons rfl r
  have e1 : (Value.ref (hp.objs.size + 1) :: us).length = n + 1 := r2.length.symm.trans (congrArg Nat.succ l1)
  have e2 : ws.length = ks.length := rz.length.symm.trans l2
  apply wpAny_call
  apply PySem.XcW.callMade T.F alike hC ul li lb
  apply codeAny_mono (F1.run _ X.stack _ _ ⟨Value.ref (hp.objs.size + 1) :: us, ks.zip ws⟩ _ _ _ E0 (hr.make C us (ks.zip ws)) (I2.env0.make C us (ks.zip ws)) (hb.to _ _ ws I2.kIn e1 e2) (hb.rel r2 rz) q0)
  intro res s' z
  match res, z with
  | .error _, z => exact z.elim
  | .ok .next, z => exact z.elim
  | .ok .brk, z => exact z.elim
  | .ok .cont, z => exact z.elim
  | .ok (.ret u), z =>
    obtain ⟨v, H3, I3, rv, ev, q3⟩ := I2.after z
    subst ev
    exact ⟨rv, V.ref (hp.objs.size + 1), H3, I3, rfl, q3⟩
/-- C(e, .., k = v, ..) as a value -/
def tMkX (C : Addr) (n m : Nat) (sp : Sp) (gV : List V → List V → List V) (t tk : TA) : TE := fun σ H Q => t σ H fun vs H1 => tk σ H1 fun zs H2 => vs.length = n ∧ zs.length = m ∧
  ∀ a, H2 a = none → sp (gV (.ref a :: vs) zs) (upd H2 a (exo a C none)) (fun v H3 => v = .non ∧ Q (.ref a) H3) E0
variable {x : Str} {p pos : Pos} {e : Expr} {es : List Expr} {kws : List Keyword} {ta tk : TA}
theorem pe_mkx (T : Cl X.K C B newId initId bmB) (N : Ini X.K C fI) (F1 : FnOk X.prog X.w X.K X.mg X.base CX0 k fI fd ps sp) (hr : Room (k + 1) X.A) (hb : KBn X.K fd ps (n + 1) ks g gV) (few : n ≤ 1000) (hg : Gl X x) (hm : X.mg x = some (.ref C))
    (ha : PA X (e :: es) ta) (hkw : PK X kws tk) (hall : (backToKw pos (keywordEach kws X.env)).all (·.1.isSome) = true := by rfl) (hks : (backToKw pos (keywordEach kws X.env)).filterMap (·.1) = ks := by rfl)
    (hdb : (x == ("__debug__" : Str)) = false := by decide) (he : starEach (e :: es) X.env = (false, eval e X.env) :: starEach es X.env := by rfl)
    (hpl : ((backTo pos (starEach (e :: es) X.env)).any (·.1) || (backToKw pos (keywordEach kws X.env)).any (·.1.isNone)) = false := by rfl) :
    PE X (.Call (.Name x p) (e :: es) kws pos) (tMkX C n ks.length sp gV ta tk) := by
  constructor
  intro pins s σ H Q I h
  apply wpAny_Call_Name_kw
  apply ld_glob I hg hm _ hdb
  apply PySem.W.callWith_KW (h₀ := X.base) I.ok.mod.kin T.kp hall _ hpl he
  apply thn (ha.run pos pins s σ H _ I h)
  rintro us s1 ⟨vs, H1, I1, r, q⟩
  apply thn (hkw.run pos pins s1 σ H1 _ I1 q)
  rintro ws s2 ⟨zs, H2, I2, rz, l1, l2, q2⟩
  refine ⟨I2.kIn, ?_⟩
  rw [hks]
  exact runMade T N F1 hr hb few I2 r rz l1 l2 q2
theorem pe_mkx0 (T : Cl X.K C B newId initId bmB) (N : Ini X.K C fI) (F1 : FnOk X.prog X.w X.K X.mg X.base CX0 k fI fd ps sp) (hr : Room (k + 1) X.A) (hb : KBn X.K fd ps 1 ks g gV) (hg : Gl X x) (hm : X.mg x = some (.ref C))
    (hkw : PK X kws tk) (hall : (backToKw pos (keywordEach kws X.env)).all (·.1.isSome) = true := by rfl) (hks : (backToKw pos (keywordEach kws X.env)).filterMap (·.1) = ks := by rfl)
    (hdb : (x == ("__debug__" : Str)) = false := by decide)
    (hpl : ((backTo pos (starEach [] X.env)).any (·.1) || (backToKw pos (keywordEach kws X.env)).any (·.1.isNone)) = false := by rfl) :
    PE X (.Call (.Name x p) [] kws pos) (tMkX C 0 ks.length sp gV tNil tk) := by
  constructor
  intro pins s σ H Q I h
  apply wpAny_Call_Name_kw
  apply ld_glob I hg hm _ hdb
  apply PySem.W.callWith_KW0 (h₀ := X.base) I.ok.mod.kin T.kp hall _ hpl
  apply thn (hkw.run pos pins s σ H _ I h)
  rintro ws s2 ⟨zs, H2, I2, rz, l1, l2, q2⟩
  refine ⟨I2.kIn, ?_⟩
  rw [hks]
  exact runMade (us := []) (vs := []) T N F1 hr hb (Nat.zero_le _) I2 .nil rz rfl l2 q2
end
/-! ### what such a call binds -/
section
variable {K : PySem.W.Frag} {x qual : Str} {st : Stmt} {f : Addr} {fd : FuncData} {ps ks : List Str} {n : Nat}
def gS {α : Type} (xs ys : List α) : List α := xs ++ ys
def gR {α : Type} (xs ys : List α) : List α := xs ++ ys.reverse
theorem kbS (F : Fun K x qual st f fd) (h : ∀ (kV doc pm : Value) (an : Option Addr) (cdv ct : Value) (us ws : List Value), us.length = n → ws.length = ks.length → bindArgs (PySem.W.fnOf x qual (defArgs st) (defBody st) (defScope st) .none kV doc pm an cdv ct) ⟨us, ks.zip ws⟩ = pure (ps.zip (gS us ws))) :
    KBn K fd ps n ks gS gS := by
  obtain ⟨oc, od, kV, doc, pm, an, cdv, ct, osl, rfl, lk, hcd⟩ := F.ex
  exact ⟨fun s us ws _ h1 h2 => .of_eq (h kV doc pm an cdv ct us ws h1 h2), fun r1 r2 => r1.append r2⟩
theorem kbR (F : Fun K x qual st f fd) (h : ∀ (kV doc pm : Value) (an : Option Addr) (cdv ct : Value) (us ws : List Value), us.length = n → ws.length = ks.length → bindArgs (PySem.W.fnOf x qual (defArgs st) (defBody st) (defScope st) .none kV doc pm an cdv ct) ⟨us, ks.zip ws⟩ = pure (ps.zip (gR us ws))) :
    KBn K fd ps n ks gR gR := by
  obtain ⟨oc, od, kV, doc, pm, an, cdv, ct, osl, rfl, lk, hcd⟩ := F.ex
  exact ⟨fun s us ws _ h1 h2 => .of_eq (h kV doc pm an cdv ct us ws h1 h2), fun r1 r2 => r1.append r2.reverse⟩
end
end Xc
set_option Elab.async false
set_option linter.all false
set_option maxRecDepth 100000
set_option maxHeartbeats 4000000
/-! Xf: such exceptions read and asked for their class; one without an __init__ of its own. -/
namespace Xc
open PySem PySem.Spec PyProof.Rows L2 Bs
/-- an exception at a, of the class at C, with these fields -/
def Ex (H : Hp) (a C : Addr) (fs : List (Str × V)) : Prop := (fs = [] ∧ H a = some (exo a C none)) ∨ ∃ dx, H a = some (exo a C (some dx)) ∧ H dx = some (exd dx fs)
/-- what asking for its class needs -/
structure As (K : PySem.W.Frag) (C : Addr) : Prop where
  cl : (PySem.W.clsIn K C).isSome = true
  cc : PySem.W.findIn K (.ref C) "__class__" = some (some (.builtin "object.__class__"))
  gs : PySem.W.specialIn K (.builtin "object.__class__") "__get__" = some (some (.builtin "getset_descriptor.__get__"))
  tk : PySem.W.takesIn K (.builtin "object.__class__") = some true
  ob : PySem.W.mroIn K C (.type "object") = some true
section
variable {X : Cx} {pins : List (Addr × Obj)} {σ : L2.St} {H : Hp} {s : Shared} {a C : Addr} {fs : List (Str × V)} {B newId initId : String} {bmB : List Value}
theorem Ex.inst (I : Inv X pins σ H s) (e : Ex H a C fs) : ∃ (ox : Obj) (od : Option Obj), PySem.W.InstAt s.heap a ox C od := by
  cases e with
  | inl e =>
    obtain ⟨t, ho⟩ := exo_at I.hok e.2
    exact ⟨_, none, ho, rfl, rfl, True.intro⟩
  | inr e =>
    obtain ⟨dx, e1, e2⟩ := e
    obtain ⟨t, ho⟩ := exo_at I.hok e1
    obtain ⟨mA, hns, _⟩ := exd_at I.hok e2
    obtain ⟨od, hd, _⟩ := lookIn_ns hns
    exact ⟨_, some od, ho, rfl, rfl, hd⟩
/-- isinstance(x, c), x such an exception -/
def rIsX (K : PySem.W.Frag) : List V → Hp → VK → Prop := fun xs H Q => ∃ (a C : Addr) (fs : List (Str × V)) (c : V) (u : Value) (b : Bool), xs = [.ref a, c] ∧ Ex H a C fs ∧ (∃ B n i bm, Cl K C B n i bm) ∧ As K C ∧ ClsV c u ∧
  PySem.W.kitOne K (.ref C) u = some b ∧ Q (.bl b) H
theorem call_isX : CallR X (.builtin "isinstance") (rIsX X.K) := by
  intro pins s σ H xs us Q I r h
  obtain ⟨a, C, fs, c, u, b, rfl, ex, ⟨B, n, i, bm, T⟩, S, cv, e, q⟩ := h
  cases r with
  | cons r1 r =>
    cases r with
    | cons r2 r =>
      cases r
      have e2 := cv.eq r2
      subst e2
      obtain rfl := (show _ = Value.ref a from r1)
      obtain ⟨ox, od, J⟩ := ex.inst I
      exact PySem.W.kia_one (PySem.W.kitx_exc S.cl T.ga T.gg T.ex S.cc S.gs S.tk S.ob) I.kIn J e (fun z => nomatch z) fun tk => ⟨.bl b, H, I.tok tk, rfl, q⟩
/-- e.f -/
def tFld (K : PySem.W.Frag) (f : Str) (te : TE) : TE := fun σ H Q => te σ H fun x H1 => ∃ (a C : Addr) (fs : List (Str × V)) (v : V), x = .ref a ∧ Ex H1 a C fs ∧ (∃ B n i bm, Cl K C B n i bm) ∧ PySem.W.findIn K (.ref C) f = some none ∧ fs.lookup f = some v ∧ Q v H1
theorem pe_fld {e : Expr} {te : TE} {pos : Pos} {f : Str} (he : PE X e te) (hb : attributeBase e f X.env (eval e X.env) = eval e X.env := by rfl) : PE X (.Attribute e f pos) (tFld X.K f te) := by
  constructor
  intro pins s σ H Q I h
  apply attr_of hb
  apply thn (he.run pins s σ H _ I h)
  rintro u s1 ⟨x, H1, I1, rx, a, C, fs, v, rfl, ex, ⟨B, n, i, bm, T⟩, fn, l, q⟩
  obtain rfl : u = Value.ref a := rx
  cases ex with
  | inl e =>
    rw [e.1] at l
    exact nomatch l
  | inr e =>
    obtain ⟨dx, e1, e2⟩ := e
    obtain ⟨t, ho⟩ := exo_at I1.hok e1
    obtain ⟨mA, hns, rel⟩ := exd_at I1.hok e2
    obtain ⟨od, hd, look⟩ := lookIn_ns hns
    have rf := rel f
    rw [l] at rf
    obtain ⟨w, hw, rw'⟩ := RelO.some_of rf
    have J : PySem.W.InstAt s1.heap a _ C (some od) := ⟨ho, rfl, rfl, hd⟩
    apply PySem.HandSPX.exc_get I1.kIn J T.ga T.gg T.ex (PySem.W.findObj_own T.hd fn rfl _) (handed_of rw') ⟨v, H1, I1.tok _, rw', q⟩
    rw [look, hw]
/-- C(), without an __init__ of its own -/
def tMk0 (C : Addr) : TE := fun σ H Q => ∀ a, H a = none → Q (.ref a) (upd H a (exo a C none))
theorem pe_mk00 {x : Str} {p pos : Pos} (F : ExcBaseFacts B newId initId bmB) (q : PySem.W.excIn X.K C bmB newId = true) (kC : PySem.W.keepIn X.K (.ref C) = true) (hg : Gl X x) (hm : X.mg x = some (.ref C)) (hdb : (x == ("__debug__" : Str)) = false := by decide)
    (hpl : ((backTo pos (starEach [] X.env)).any (·.1) || (backToKw pos (keywordEach [] X.env)).any (·.1.isNone)) = false := by rfl) :
    PE X (.Call (.Name x p) [] [] pos) (tMk0 C) := by
  constructor
  intro pins s σ H Q I h
  apply wpAny_Call_Name_kw
  apply ld_glob I hg hm _ hdb
  apply PySem.W.callWith_KW0 (h₀ := X.base) I.ok.mod.kin kC (by rfl) _ hpl
  apply thn (pk_nil.run pos pins s σ H (fun vs H1 => vs = [] ∧ H1 = H) I ⟨rfl, rfl⟩)
  rintro ws s2 ⟨zs, H2, I2, rz, rfl, rfl⟩
  cases rz
  refine ⟨I2.kIn, ?_⟩
  show wpAny _ _ (call (.ref C) []) _ _ _
  obtain ⟨bm, N, nm, qn, bs, hdct, sn, sub, ab, col, dd, k0, k1, k2, k3, k5, mN, hC, hN, none, T⟩ := exc_obj I2.kIn q
  apply wpAny_call_exc_subT F T hC hN none _ (Nat.zero_le _)
  intro h' a made
  have hn := I2.hok.gone made.new
  obtain ⟨t, ht, _, _⟩ := made.there
  exact ⟨.ref a, _, I2.laidN made.keeps made.new hn (exo_ok ht), rfl, h a hn⟩
end
/-! ### all of it by one look -/
def clB (K : PySem.W.Frag) (C : Addr) (newId : String) (bmB : List Value) : Bool :=
  PySem.W.excInitIn K C bmB newId && (PySem.W.excOver K C bmB && (PySem.W.hasDictIn K C && (decide (PySem.W.findIn K (.ref C) "__setattr__" = some (some (.builtin "object.__setattr__"))) &&
  (decide (PySem.W.findIn K (.ref C) "__getattribute__" = some (some (.builtin "BaseException.__getattribute__"))) && (decide (PySem.W.findIn K (.ref C) "__getattr__" = some none) && (decide (PySem.W.subIn K (.ref C) (.type "BaseException") = some true) &&
  (decide (PySem.W.typeIn K (.ref C) = some (.type "type")) && PySem.W.keepIn K (.ref C))))))))
theorem Cl.of {K : PySem.W.Frag} {C : Addr} {B newId initId : String} {bmB : List Value} (F : ExcBaseFacts B newId initId bmB) (SF : StoreFacts B bmB "object.__setattr__" "object") (h : clB K C newId bmB = true) : Cl K C B newId initId bmB := by
  unfold clB at h
  simp only [Bool.and_eq_true, decide_eq_true_eq] at h
  obtain ⟨h1, h2, h3, h4, h5, h6, h7, h8, h9⟩ := h
  exact ⟨F, SF, h1, h2, h3, h4, h5, h6, h7, h8, h9⟩
def asB (K : PySem.W.Frag) (C : Addr) : Bool := (PySem.W.clsIn K C).isSome && (decide (PySem.W.findIn K (.ref C) "__class__" = some (some (.builtin "object.__class__"))) &&
  (decide (PySem.W.specialIn K (.builtin "object.__class__") "__get__" = some (some (.builtin "getset_descriptor.__get__"))) && (decide (PySem.W.takesIn K (.builtin "object.__class__") = some true) && decide (PySem.W.mroIn K C (.type "object") = some true))))
theorem As.of {K : PySem.W.Frag} {C : Addr} (h : asB K C = true) : As K C := by
  unfold asB at h
  simp only [Bool.and_eq_true, decide_eq_true_eq] at h
  obtain ⟨h1, h2, h3, h4, h5⟩ := h
  exact ⟨h1, h2, h3, h4, h5⟩
/-- of which classes it is -/
def kitB' (K : PySem.W.Frag) (C : Addr) (us : List Value) (bs : List Bool) : Bool := decide (us.map (PySem.W.kitOne K (.ref C)) = bs.map some)
theorem kitB'_at {K : PySem.W.Frag} {C : Addr} {us : List Value} {bs : List Bool} (h : kitB' K C us bs = true) {j : Nat} {u : Value} {b : Bool} (e1 : us[j]? = some u) (e2 : bs[j]? = some b) : PySem.W.kitOne K (.ref C) u = some b := by
  have e := congrArg (fun l => l[j]?) (of_decide_eq_true h)
  simp only [List.getElem?_map, e1, e2, Option.map_some] at e
  exact Option.some.inj e
end Xc
set_option Elab.async false
set_option linter.all false
set_option maxRecDepth 100000
set_option maxHeartbeats 4000000
/-! Xg: data with a dict of one row in it, shown; the end of a row over a law that shows it. -/
namespace Xg
open PySem PySem.Spec PyProof.Rows L2 Bs
/-- data at any depth, with dicts of one text and one number -/
inductive Dq (K : PySem.W.Frag) (H : Hp) : V → PyData → Prop
  | non : Dq K H .non .none
  | bl (b : Bool) : Dq K H (.bl b) (.bool b)
  | int (i : Int) : Dq K H (.int i) (.int i)
  | str (x : Str) : Dq K H (.str x) (.str x)
  | dk {a : Addr} (x : Str) (i : Int) : H a = some (.dK [(.inr x, .int i)]) → Dq K H (.ref a) (.dict [(.str x, .int i)])
  | lst {a : Addr} (ps : List (V × PyData)) : SqL K H a (ps.map (·.1)) → (∀ p ∈ ps, Dq K H p.1 p.2) → Dq K H (.ref a) (.list (ps.map (·.2)))
  | tup {a : Addr} (ps : List (V × PyData)) : SqT K H a (ps.map (·.1)) → (∀ p ∈ ps, Dq K H p.1 p.2) → Dq K H (.ref a) (.tuple (ps.map (·.2)))
theorem sameL {K : PySem.W.Frag} {H H' : Hp} {a : Addr} {xs : List V} (s : Same H H') (q : SqL K H a xs) : SqL K H' a xs := by
  rcases q with (q | ⟨o, q⟩) | q
  · exact .inl (.inl (s _ _ q))
  · exact .inl (.inr ⟨o, s _ _ q⟩)
  · exact .inr q
theorem sameT {K : PySem.W.Frag} {H H' : Hp} {a : Addr} {xs : List V} (s : Same H H') (q : SqT K H a xs) : SqT K H' a xs := by
  rcases q with (q | ⟨o, q⟩) | q
  · exact .inl (.inl (s _ _ q))
  · exact .inl (.inr ⟨o, s _ _ q⟩)
  · exact .inr q
theorem Dq.same {K : PySem.W.Frag} {H H' : Hp} {x : V} {d : PyData} (h : Dq K H x d) (s : Same H H') : Dq K H' x d := by
  induction h with
  | non => exact .non
  | bl b => exact .bl b
  | int i => exact .int i
  | str x => exact .str x
  | dk x i e => exact .dk x i (s _ _ e)
  | lst ps e _ ih => exact .lst ps (sameL s e) ih
  | tup ps e _ ih => exact .tup ps (sameT s e) ih
section
variable {X : Cx} {pins : List (Addr × Obj)} {σ : L2.St} {H : Hp} {s : Shared}
theorem readsAll_of {h : Heap} : ∀ {ps : List (V × PyData)} {us : List Value}, (∀ p ∈ ps, ∀ u, RelV p.1 u → ∃ as, Reads h u p.2 as ∧ sysModules ∉ as) → Vals (ps.map (·.1)) us → ∃ as, ReadsAll h us (ps.map (·.2)) as ∧ sysModules ∉ as
  | [], _, _, r => by
    cases r
    exact ⟨_, .nil, by simp⟩
  | p :: ps, _, h, r => by
    cases r with
    | cons r1 r2 =>
      obtain ⟨as, q1, n1⟩ := h p List.mem_cons_self _ r1
      obtain ⟨bs, q2, n2⟩ := readsAll_of (fun q hq => h q (List.mem_cons_of_mem _ hq)) r2
      refine ⟨_, .cons q1 q2, ?_⟩
      intro z
      cases List.mem_append.mp z with
      | inl z => exact n1 z
      | inr z => exact n2 z
theorem Dq.reads (I : Inv X pins σ H s) (sm : ∃ mm, X.base.Ns sysModules mm) {x : V} {d : PyData} (h : Dq X.K H x d) : ∀ u, RelV x u → ∃ as, Reads s.heap u d as ∧ sysModules ∉ as := by
  obtain ⟨mm, om, es, ep, hm, hdm, _⟩ := sm
  have hm' : s.heap.get? sysModules = some om := I.bk _ _ hm
  induction h with
  | non =>
    intro u r
    cases r
    exact ⟨_, .none, by simp⟩
  | bl b =>
    intro u r
    cases r
    exact ⟨_, .bool b, by simp⟩
  | int i =>
    intro u r
    obtain ⟨t, rfl⟩ := r
    exact ⟨_, .int i t, by simp⟩
  | str x =>
    intro u r
    obtain ⟨t, rfl⟩ := r
    exact ⟨_, .str x t, by simp⟩
  | @dk a x i e =>
    intro u r
    cases r
    obtain ⟨_, ns, vs, kv, o, es, ep, ho, hc, hd, _, pr, _⟩ := (show ObjOk X.prog X.w H s.heap a (.dK [(.inr x, .int i)]) from I.hok a _ e)
    cases kv with
    | @cons _ b _ _ k1 k2 =>
      cases k2
      obtain ⟨qk, qv⟩ := b
      obtain ⟨e1, e2⟩ := k1
      dsimp only at e1 e2
      subst e1
      obtain ⟨t, rfl⟩ := e2
      generalize hl : es.toList = l at pr
      cases pr with
      | cons p1 p2 p3 =>
        rename_i en _
        cases p3
        obtain ⟨t2, hk⟩ := Value.isStrOf_shape (x := x) (v := en.key) p1
        dsimp only at p2
        have rk : ReadsAll s.heap (es.toList.map (·.key)) [PyData.str x] ([] ++ []) := by
          rw [hl]
          show ReadsAll s.heap [en.key] _ _
          rw [hk]
          exact .cons (.str x t2) .nil
        have rv : ReadsAll s.heap (es.toList.map (·.val)) [PyData.int i] ([] ++ []) := by
          rw [hl]
          show ReadsAll s.heap [en.val] _ _
          rw [p2]
          exact .cons (.int i t) .nil
        refine ⟨_, Reads.dict (kvs := [(PyData.str x, PyData.int i)]) ho hc.1 hd rk rv, ?_⟩
        have ne : a ≠ sysModules := by
          intro z
          rw [z] at ns
          exact absurd ns (by decide)
        intro z
        simp at z
        exact ne z.symm
  | @lst a ps e _ ih =>
    intro u r
    cases r
    obtain ⟨its, rv, ⟨o, n, ho, hc, _, hd⟩, _⟩ := I.list e
    obtain ⟨as, hr, na⟩ := readsAll_of ih rv
    refine ⟨_, .list ho hc hd hr, ?_⟩
    intro z
    cases List.mem_cons.mp z with
    | inl z =>
      rw [← z, hm'] at ho
      cases ho
      rw [hdm] at hd
      cases hd
    | inr z => exact na z
  | @tup a ps e _ ih =>
    intro u r
    cases r
    obtain ⟨its, rv, ⟨o, ho, hc, n, hd⟩, _⟩ := I.tuple e
    obtain ⟨as, hr, na⟩ := readsAll_of ih rv
    exact ⟨_, .tuple ho hc hd hr, na⟩
end
section
variable {X : Cx}
/-- repr(x), x such a list, tuple or dict -/
theorem call_reprQ (ng : X.A.guards = some []) (hu : X.A.units + 64 < cLine) (sm : ∃ mm, X.base.Ns sysModules mm) :
    CallR X (.builtin "repr") (fun xs H Q => ∃ x d, xs = [x] ∧ Dq X.K H x d ∧ isDisplay d = true ∧ d.showable = true ∧ d.depth < 60 ∧ d.shown.length ≤ sizeLine ∧ Q (.str d.shown) H) := by
  intro pins s σ H xs us Q I r h
  obtain ⟨x, d, rfl, dp, dis, sho, dep, len, q⟩ := h
  cases r with
  | cons r1 r2 =>
    cases r2
    obtain ⟨as, rd, no⟩ := dp.reads I sm _ r1
    obtain ⟨a, rfl⟩ := isRef_of_reads rd dis
    apply repr_of_reads' rd sho (fun _ => no) ng (by omega) (fun _ _ e => e) _ len
    intro h' u tk kp
    exact ⟨.str d.shown, H, I.kept (h' := h') (t' := tk) kp, ⟨u, rfl⟩, q⟩
end
end Xg
set_option Elab.async false
set_option linter.all false
set_option maxRecDepth 100000
set_option maxHeartbeats 4000000
/-! Xh: the end of a row over a law that shows dicts. -/
namespace Xg
open PySem PySem.Spec PyProof.Rows L2 Bs
theorem endS {P : Program} {w : World} {K : PySem.W.Frag} {mg mb : Str → Option Value} {k : Nat} {fa a : Addr} {fd : FuncData} {x : Str} {sp : Sp} {s : Shared} {us : List Value} {ns : List Int}
    (inK : K.In s.heap) (gl : s.heap.Ns mainGlobals mg) (bu : s.heap.Ns builtinsNs mb) (buE : ∀ x : Str, x ≠ "__name__" → mb x = bootBuiltins x) (noL : s.heap.NoLimit) (sm : ∃ mm, s.heap.Ns sysModules mm) (noG : s.gens = #[])
    (at_ : s.heap.get? a = some { cls := .type "list", data := .seq us.toArray }) (iA : IntsAre us ns) (len : ns.length ≤ sizeLine) (room : Room k callerA)
    (F : ∀ base : Heap, K.In base → base.Ns mainGlobals mg → (∃ mm, base.Ns sysModules mm) → FG P w K mg base k fa fd [x] sp) (bnd : ∀ (s : Shared) (u : Value), BindsTo s fd ⟨[u], []⟩ [(x, u)])
    (want : ∀ H : Hp, Only H → SqL K H a (ns.map V.int) → sp [.ref a] H (fun v _ => v = .bl true) E0) :
    codeAny (model P w) callerA (.call (.ref fa) ⟨[.ref a], []⟩) (fun r s' => r = .ok (.ret (.bool true)) ∧ OldK s.heap s'.heap ∧ s'.os = s.os ∧ AllBare s'.gens) s := by
  have rv := vals_ints iA
  have lenV := iA.length
  have key : ∀ H : Hp, Only H → SqL K H a (ns.map V.int) → HOk P w H s.heap → (∀ b, b ≠ a → H b = none) → (K.lookup a ≠ none → H a = none) →
      codeAny (model P w) callerA (.call (.ref fa) ⟨[.ref a], []⟩) (fun r s' => r = .ok (.ret (.bool true)) ∧ OldK s.heap s'.heap ∧ s'.os = s.os ∧ AllBare s'.gens) s := by
    intro H oH sH okH one hK
    have nd : ∀ {b : Addr} {o : Obj} {es : Array DictEntry} {ep : Nat}, s.heap.get? b = some o → o.data = .dict es ep → H b = none := by
      intro b o es ep e d
      by_cases eb : b = a
      · rw [eb, at_] at e
        cases e
        exact nomatch (show Data.seq us.toArray _ = Data.dict es ep from d)
      · exact one b eb
    have nsH : ∀ {b : Addr} {m : Str → Option Value}, s.heap.Ns b m → (hidT s.heap H).Ns b m := by
      rintro b m ⟨o, es, ep, e, d, r⟩
      exact ⟨o, es, ep, hidT_get e (nd e d), d, r⟩
    have kH : K.In (hidT s.heap H) := by
      intro b o e
      apply hidT_get (inK b o e)
      by_cases eb : b = a
      · rw [eb]
        exact hK (by rw [← eb, e]; simp)
      · exact one b eb
    have md : Mod K mg (hidT s.heap H) := ⟨kH, nsH gl, ⟨mb, nsH bu, buE⟩, noL.elim fun mc q => ⟨mc, nsH q.1, q.2⟩⟩
    have e0 : Env0 P w K mg (hidT s.heap H) callerA [] s H :=
      { frames := rfl, mod := md, bs := fun b o e => of_hidT e, bsz := Nat.le_of_eq (hidT_size _ _), funs := trivial, frf := fun b hb => (nomatch (show b ∈ ([] : List Addr) from hb)), hok := okH, bare := .of_eq noG }
    apply codeAny_mono ((F _ kH (nsH gl) (sm.elim fun mm q => ⟨mm, nsH q⟩)).goes callerA [] s H ⟨[.ref a], []⟩ [.ref a] [.ref a] _ _ rfl room e0 (bnd s (.ref a)) (.cons rfl .nil) (want H oH sH))
    intro r s' h
    match r, h with
    | .error e, h => exact h.elim
    | .ok .next, h => exact h.elim
    | .ok .brk, h => exact h.elim
    | .ok .cont, h => exact h.elim
    | .ok (.ret u), ⟨v, H', os, bare, un, ok', r', q⟩ =>
      have q' : v = .bl true := q
      subst q'
      have eu : u = Value.bool true := r'
      subst eu
      refine ⟨rfl, OldK.of_keep ?_, os, bare⟩
      intro b o e
      cases eb : H b with
      | none => exact un.keep b o e eb (fun z => (nomatch (show b ∈ ([] : List Addr) from z))) (by simp)
      | some u =>
        cases oH b with
        | inl z => rw [eb] at z; cases z
        | inr z =>
          obtain ⟨ob, xs, z⟩ := z
          have e1 := (okH b _ z).1
          have e2 := (ok' b _ (un.frzs b ob _ z)).1
          rw [e] at e1
          cases e1
          exact e2
  cases hk : K.lookup a with
  | some o =>
    have e := inK a o hk
    rw [at_] at e
    cases e
    apply key (fun _ => none) (fun _ => .inl rfl) _ (fun b u z => nomatch (show (none : Option HO) = some u from z)) (fun _ _ => rfl) (fun _ => rfl)
    exact .inr ⟨_, us.toArray, _, hk, rfl, rfl, rfl, by rw [List.size_toArray, lenV]; exact len, by simpa using rv⟩
  | none =>
    let fz : HO := .frz { cls := .type "list", data := .seq us.toArray } (.lst (ns.map V.int))
    apply key (fun b => if b = a then some fz else none)
    · intro b
      by_cases hb : b = a
      · exact .inr ⟨_, _, if_pos hb⟩
      · exact .inl (if_neg hb)
    · exact .inl (.inr ⟨_, if_pos rfl⟩)
    · intro b u z
      by_cases hb : b = a
      · have z' := (if_pos hb).symm.trans z
        cases z'
        subst hb
        exact ⟨at_, by rw [List.length_map]; exact len, us, _, rv, at_⟩
      · have z' := (if_neg hb).symm.trans z
        cases z'
    · intro b hb
      exact if_neg hb
    · intro z
      exact absurd hk z
theorem walkS {l : PySem.W.OpenLaw} {n k : Nat} {q : Program} {loose : List Str} {XP : (Str → Option Value) → Heap → Prop} {YP : World → Heap → Prop} {d : DefRec} {K : Params → PySem.W.Frag} {sp : PySem.W.Frag → Sp} {x : Str}
    (calm : importsNone q = true) (most : l.most = some n) (small : n ≤ sizeLine) (plain : d.params.defaults = []) (room : Room k callerA) (hY : ∀ (w : World) (h : Heap), YP w h → (K w.params).In h)
    (F : ∀ (w : World) (mg : Str → Option Value) (fa : Addr) (h : Heap), (K w.params).In h → h.Ns mainGlobals mg → mg d.name = some (.ref fa) →
      ∃ fd : FuncData, (∀ (s : Shared) (u : Value), BindsTo s fd ⟨[u], []⟩ [(x, u)]) ∧
        ∀ base : Heap, (K w.params).In base → base.Ns mainGlobals mg → (∃ mm, base.Ns sysModules mm) → FG l.prog w (K w.params) mg base k fa fd [x] (sp (K w.params)))
    (want : ∀ (K : PySem.W.Frag) (H : Hp) (a : Addr) (ns : List Int), ns.length ≤ n → Only H → SqL K H a (ns.map V.int) → sp K [.ref a] H (fun v _ => v = .bl true) E0) :
    PySem.W.WalkO q loose XP YP l.row.toRowW d [] (fun f vs => PySem.call f vs) := by
  apply Att.attach_call most plain
  intro w s₀ s₁ mg mb fa o pm cd doc a us ns G Y ho hd hcd hmg at_ iA len noG
  obtain ⟨fd, hb, hF⟩ := F w mg fa _ (hY w _ Y) G.T.g hmg
  exact endS (hY w _ Y) G.T.g G.T.b G.T.builtins G.T.nolimit ((G.T.seer calm).mods.elim fun mm q => ⟨mm, q.1⟩) noG at_ iA (Nat.le_trans len small) room hF hb fun H hO hS => want (K w.params) H a ns len hO hS

end Xg
set_option Elab.async false
set_option linter.all false
set_option maxRecDepth 100000
set_option maxHeartbeats 4000000
/-! Xi: repr of data of any form; such exceptions raised; a try with several named clauses. -/
namespace Xg
open PySem PySem.Spec PyProof.Rows L2 Bs Xc
section
variable {X : Cx}
/-- repr(x), x data of any form -/
theorem call_reprA (ng : X.A.guards = some []) (hu : X.A.units + 64 < cLine) (sm : ∃ mm, X.base.Ns sysModules mm) :
    CallR X (.builtin "repr") (fun xs H Q => ∃ x d, xs = [x] ∧ Dq X.K H x d ∧ d.showable = true ∧ d.depth < 60 ∧ d.shown.length ≤ sizeLine ∧ Q (.str d.shown) H) := by
  intro pins s σ H xs us Q I r h
  obtain ⟨x, d, rfl, dp, sho, dep, len, q⟩ := h
  cases r with
  | cons r1 r2 =>
    cases r2
    obtain ⟨as, rd, no⟩ := dp.reads I sm _ r1
    have far : ∀ {a : Addr} {u : Value}, u = .ref a → Reads s.heap u d as → wpAny (model X.prog X.w) X.A (call (.builtin "repr") [u]) (EP X pins σ Q) X.xe s := by
      rintro a u rfl rd
      apply repr_of_reads' rd sho (fun _ => no) ng (by omega) (fun _ _ e => e) _ len
      intro h' u tk kp
      exact ⟨.str d.shown, H, I.kept (h' := h') (t' := tk) kp, ⟨u, rfl⟩, q⟩
    cases dp with
    | non =>
      cases r1
      simp only [PyData.shown] at q
      exact PySem.P.repr_of_none ⟨.str _, H, I.tok _, ⟨_, rfl⟩, q⟩
    | bl b =>
      cases r1
      simp only [PyData.shown] at q
      exact PySem.P.repr_of_bool ⟨.str _, H, I.tok _, ⟨_, rfl⟩, q⟩
    | int i =>
      obtain ⟨t, rfl⟩ := r1
      simp only [PyData.shown] at q
      simp only [PyData.showable, decide_eq_true_eq] at sho
      exact PySem.P.repr_of_int sho ⟨.str _, H, I.tok _, ⟨_, rfl⟩, q⟩
    | str x =>
      obtain ⟨t, rfl⟩ := r1
      rw [PyData.shown_str] at q len
      exact PySem.P.repr_of_str ⟨.str _, H, I.tok _, ⟨_, rfl⟩, q⟩ len
    | dk x i e => exact far r1 rd
    | lst ps e k => exact far r1 rd
    | tup ps e k => exact far r1 rd
end
/-- .. the written part told -/
def rRp (K : PySem.W.Frag) : List V → Hp → VK → Prop := fun xs H Q => ∃ x d, xs = [x] ∧ Dq K H x d ∧ d.showable = true ∧ d.depth < 60 ∧ d.shown.length ≤ sizeLine ∧ Q (.str d.shown) H
theorem call_reprK {X : Cx} {K : PySem.W.Frag} (hK : X.K = K) (ng : X.A.guards = some []) (hu : X.A.units + 64 < cLine) (sm : ∃ mm, X.base.Ns sysModules mm) : CallR X (.builtin "repr") (rRp K) := by
  subst hK
  exact call_reprA ng hu sm
/-! ### raise C(e, .., k = v, ..) -/
section
variable {X : Cx} {pins : List (Addr × Obj)} {σ : L2.St} {H : Hp} {s : Shared} {us ws : List Value} {vs zs : List V} {B newId initId : String} {bmB : List Value} {C fI : Addr} {k n : Nat} {fd : FuncData} {ps ks : List Str} {sp : Sp} {g : List Value → List Value → List Value} {gV : List V → List V → List V}
/-- what is wanted of it, behind its __init__ -/
def flew (C a : Addr) (H : Hp) (Q : XK) : VK := fun v H3 => v = .non ∧ ∃ (d : Addr) (fs : List (Str × V)), H3 a = some (exo a C (some d)) ∧ H3 d = some (exd d fs) ∧ H d = none ∧ Q (.ref C) (some d) (upd (del H3 a) d (.xd fs))
theorem runRaise {Q : XK} (T : Cl X.K C B newId initId bmB) (N : Ini X.K C fI) (F1 : FnOk X.prog X.w X.K X.mg X.base CX0 k fI fd ps sp) (hr : Room (k + 1) X.A) (hb : KBn X.K fd ps (n + 1) ks g gV) (few : n ≤ 1000)
    (I : Inv X pins σ H s) (r : Vals vs us) (rz : Vals zs ws) (l1 : vs.length = n) (l2 : zs.length = ks.length)
    (h : ∀ a, H a = none → sp (gV (.ref a :: vs) zs) (upd H a (exo a C none)) (flew C a H Q) E0) :
    wpAny (model X.prog X.w) X.A (call (.ref C) us (ks.zip ws)) (MkP X pins σ Q) X.xe s := by
  obtain ⟨nm, N', qn, bs, bm, hdct, sn, sub, ab, col, dd, k0, k1, k2, k3, k5, hC, alike⟩ := PySem.W.excInit_of I.kIn T.ini
  have li := PySem.W.looks_findIn (M := model X.prog X.w) I.kIn N.at_
  have lb : ∀ self, PySem.W.Looks (model X.prog X.w) s.heap (bindSpecial (.ref fI) self) (.ref fI, [self]) := fun self => PySem.W.bind_fn I.kIn self N.ty
  have fresh : s.heap.objs.size ≤ s.heap.objs.size + 1 := Nat.le_succ _
  have hn : H (s.heap.objs.size + 1) = none := I.hok.fresh fresh
  have q0 := h _ hn
  have ul : us.length ≤ sizeLine := by
    have e := r.length
    rw [sizeLine_eq]
    omega
  obtain ⟨hp, gg, d, t, os⟩ := s
  have keeps : ∀ b o, hp.get? b = some o → (PySem.XcW.bornH hp C us).get? b = some o := by
    intro b o e
    exact Heap.get?_push_of_some _ (Heap.get?_push_of_some _ e)
  have born : (PySem.XcW.bornH hp C us).get? (hp.objs.size + 1) = some (PySem.HandSPX.excO C hp.objs.size) := by heap_get
  have I2 : Inv X pins σ (upd H (hp.objs.size + 1) (exo (hp.objs.size + 1) C none)) ⟨PySem.XcW.bornH hp C us, gg, d, t, os⟩ :=
    I.laid (h' := PySem.XcW.bornH hp C us) (t' := t) (o := exo (hp.objs.size + 1) C none) (a := hp.objs.size + 1) keeps fresh (exo_ok born)
  have r2 : Vals (V.ref (hp.objs.size + 1) :: vs) (Value.ref (hp.objs.size + 1) :: us) := .cons rfl r
  have e1 : (Value.ref (hp.objs.size + 1) :: us).length = n + 1 := r2.length.symm.trans (congrArg Nat.succ l1)
  have e2 : ws.length = ks.length := rz.length.symm.trans l2
  apply wpAny_call
  apply PySem.XcW.callMade T.F alike hC ul li lb
  apply codeAny_mono (F1.run _ X.stack _ _ ⟨Value.ref (hp.objs.size + 1) :: us, ks.zip ws⟩ _ _ _ E0 (hr.make C us (ks.zip ws)) (I2.env0.make C us (ks.zip ws)) (hb.to _ _ ws I2.kIn e1 e2) (hb.rel r2 rz) q0)
  intro res s' z
  match res, z with
  | .error _, z => exact z.elim
  | .ok .next, z => exact z.elim
  | .ok .brk, z => exact z.elim
  | .ok .cont, z => exact z.elim
  | .ok (.ret u), z =>
    obtain ⟨v, H3, os3, bare3, un3, hok3, rv, ev, dx, fs, ea, ed, n1, q3⟩ := z
    subst ev
    obtain ⟨h3, g3, d3, t3, os'⟩ := s'
    exact ⟨rv, mk_end (raises_own T.ex T.ty) I fresh keeps un3 hok3 os3 bare3 ea ed n1 q3⟩
def tRs (C : Addr) (n m : Nat) (sp : Sp) (gV : List V → List V → List V) (t tk : TA) : L2.St → Hp → XK → Prop := fun σ H Q => t σ H fun vs H1 => tk σ H1 fun zs H2 => vs.length = n ∧ zs.length = m ∧
  ∀ a, H2 a = none → sp (gV (.ref a :: vs) zs) (upd H2 a (exo a C none)) (flew C a H2 Q) E0
variable {x : Str} {p pos : Pos} {e : Expr} {es : List Expr} {kws : List Keyword} {ta tk : TA}
theorem pmk_x (T : Cl X.K C B newId initId bmB) (N : Ini X.K C fI) (F1 : FnOk X.prog X.w X.K X.mg X.base CX0 k fI fd ps sp) (hr : Room (k + 1) X.A) (hb : KBn X.K fd ps (n + 1) ks g gV) (few : n ≤ 1000) (hg : Gl X x) (hm : X.mg x = some (.ref C))
    (ha : PA X (e :: es) ta) (hkw : PK X kws tk) (hall : (backToKw pos (keywordEach kws X.env)).all (·.1.isSome) = true := by rfl) (hks : (backToKw pos (keywordEach kws X.env)).filterMap (·.1) = ks := by rfl)
    (hdb : (x == ("__debug__" : Str)) = false := by decide) (he : starEach (e :: es) X.env = (false, eval e X.env) :: starEach es X.env := by rfl)
    (hpl : ((backTo pos (starEach (e :: es) X.env)).any (·.1) || (backToKw pos (keywordEach kws X.env)).any (·.1.isNone)) = false := by rfl) :
    PMk X (.Call (.Name x p) (e :: es) kws pos) (tRs C n ks.length sp gV ta tk) := by
  intro pins s σ H Q I h
  apply wpAny_Call_Name_kw
  apply ld_glob I hg hm _ hdb
  apply PySem.W.callWith_KW (h₀ := X.base) I.ok.mod.kin T.kp hall _ hpl he
  apply thn (ha.run pos pins s σ H _ I h)
  rintro us s1 ⟨vs, H1, I1, r, q⟩
  apply thn (hkw.run pos pins s1 σ H1 _ I1 q)
  rintro ws s2 ⟨zs, H2, I2, rz, l1, l2, q2⟩
  refine ⟨I2.kIn, ?_⟩
  rw [hks]
  exact runRaise T N F1 hr hb few I2 r rz l1 l2 q2
theorem pmk_x0 (T : Cl X.K C B newId initId bmB) (N : Ini X.K C fI) (F1 : FnOk X.prog X.w X.K X.mg X.base CX0 k fI fd ps sp) (hr : Room (k + 1) X.A) (hb : KBn X.K fd ps 1 ks g gV) (hg : Gl X x) (hm : X.mg x = some (.ref C))
    (hkw : PK X kws tk) (hall : (backToKw pos (keywordEach kws X.env)).all (·.1.isSome) = true := by rfl) (hks : (backToKw pos (keywordEach kws X.env)).filterMap (·.1) = ks := by rfl)
    (hdb : (x == ("__debug__" : Str)) = false := by decide)
    (hpl : ((backTo pos (starEach [] X.env)).any (·.1) || (backToKw pos (keywordEach kws X.env)).any (·.1.isNone)) = false := by rfl) :
    PMk X (.Call (.Name x p) [] kws pos) (tRs C 0 ks.length sp gV tNil tk) := by
  intro pins s σ H Q I h
  apply wpAny_Call_Name_kw
  apply ld_glob I hg hm _ hdb
  apply PySem.W.callWith_KW0 (h₀ := X.base) I.ok.mod.kin T.kp hall _ hpl
  apply thn (hkw.run pos pins s σ H _ I h)
  rintro ws s2 ⟨zs, H2, I2, rz, l1, l2, q2⟩
  refine ⟨I2.kIn, ?_⟩
  rw [hks]
  exact runRaise (us := []) (vs := []) T N F1 hr hb (Nat.zero_le _) I2 .nil rz rfl l2 q2
end
/-- such an __init__, and it flies -/
theorem flies {H : Hp} {a C : Addr} {n : Nat} {mk : List V → List (Str × V)} {l xs : List V} {Q : XK} (el : l = .ref a :: xs) (hl : xs.length = n) (ha : H a = none)
    (k : ∀ (d : Addr) (H' : Hp), (∀ b o, H b = some o → H' b = some o) → H' d = some (.xd (mk xs)) → Q (.ref C) (some d) H') :
    spIn C n mk l (upd H a (exo a C none)) (flew C a H Q) E0 := by
  refine ⟨a, xs, el, hl, upd_same, fun dx H' n1 n2 e1 e2 keep => ?_⟩
  have nd : H dx = none := by
    rw [upd_ne n2] at n1
    exact n1
  refine ⟨rfl, dx, _, e1, e2, nd, k dx _ ?_ upd_same⟩
  intro b o e
  have b1 : b ≠ a := ne_of_none e ha
  have b2 : b ≠ dx := ne_of_none e nd
  rw [upd_ne b2, del_ne b1, keep b b1 b2, upd_ne b1]
  exact e
end Xg
set_option Elab.async false
set_option linter.all false
set_option maxRecDepth 100000
set_option maxHeartbeats 4000000
/-! Xj: a try with several named clauses, one of which takes what flies. -/
namespace Xg
open PySem PySem.Spec PyProof.Rows L2 Bs Xc
/-- the wishes behind a clause's suite: the name is gone -/
def gone (i : Nat) (D : Ends) : Ends := { nx := fun σ H => D.nx (σ.set i none) H, rt := D.rt, bk := fun σ H => D.bk (σ.set i none) H, ct := fun σ H => D.ct (σ.set i none) H }
/-- the clauses' wish: the first that names the class -/
def wN (K : PySem.W.Frag) (i : Nat) (D : Ends) : List (Value × (Addr → Value → Option Addr → TS)) → WX
  | [] => fun _ _ _ _ => False
  | (c, ts) :: r => fun cls d σ H => ∃ b, PySem.W.exmOne K cls c = some b ∧ (if b = true then ∀ a, H a = none → ts a cls d (gone i D) (σ.set i (some (.ref a))) H else wN K i D r cls d σ H)
inductive HdsN (X : Cx) (n : Str) : List ExceptHandler → List (Value × (Addr → Value → Option Addr → TS)) → Prop
  | nil : HdsN X n [] []
  | cons {x : Str} {c : Value} {ts : Addr → Value → Option Addr → TS} {b₀ : Stmt} {suite : List Stmt} {np pos' : Pos} {hds : List ExceptHandler} {l : List (Value × (Addr → Value → Option Addr → TS))} (hc : Names X x c)
      (su : ∀ (a : Addr) (oe : Obj) (cls : Value) (d : Option Addr) (pn : List (Addr × Obj)), Zc cls d oe → (∃ vs, oe.data = .fields vs) → PSs (X.suite a ((a, oe) :: pn)) (b₀ :: suite) (ts a cls d)) (r : HdsN X n hds l) :
      HdsN X n (.ExceptHandler (some (.Name x np)) (some n) (b₀ :: suite) pos' :: hds) ((c, ts) :: l)
/-- what is wanted of what the body lets fly -/
def sought (X : Cx) (pins : List (Addr × Obj)) (D : Ends) (hds : List ExceptHandler) (e : Value) (s1 : Shared) : Prop :=
  wpAny (model X.prog X.w) X.A (noteFrame e X.env) (fun _ s2 => wpAny (model X.prog X.w) X.A (setFlight e none) (fun _ s3 => wpAny (model X.prog X.w) X.A (handleBy e X.env hds) (SP X pins D) X.xe s3) X.xe s2) X.xe s1
section
variable {X : Cx} {n : Str} {i : Nat} {body : List Stmt} {h₀ : ExceptHandler} {hds : List ExceptHandler} {l : List (Value × (Addr → Value → Option Addr → TS))} {pos : Pos} {tb : WX → TS}
theorem ps_tryN (hs : X.stack = X.env :: X.outer) (hf : X.env.frame = some X.env.locals) (hN : X.N.Nodup) (hi : X.N[i]? = some n) (ln : X.env.kindOf n = some .local)
    (hb : ∀ (W : WX) (pn : List (Addr × Obj)) (xe : Value → Shared → Prop), Takes (X.tr pn xe) W → PSs (X.tr pn xe) body (tb W))
    (hh : HdsN X n (h₀ :: hds) l) : PS X (.Try body (h₀ :: hds) [] [] pos) (fun D σ H => tb (wN X.K i D l) D σ H) := by
  constructor
  intro pins s σ H D I h
  have ok := I.ok
  have fr : X.A.frames = some (X.env :: X.outer) := by
    rw [ok.frames, hs]
  have place : Loc X.env.scope n := .inl ln
  have caught : Takes (X.tr (X.pn ++ pins) (sought X pins D (h₀ :: hds))) (wN X.K i D l) := by
    rintro u s' ⟨a, B, sI, pins', σ', H', cls, d, rfl, J', nb, up, sky, na, os, ag, wish⟩
    have J : Inv X pins σ' H' sI := J'.ofTry ok
    have sky' : Sky B (X.env :: X.outer) a (Zc cls d) X.env.locals s'.heap := by
      rw [← hs]
      exact sky
    show wpAny _ _ (noteFrame (.ref a) X.env) _ _ _
    apply Sky.land Zc.steady fr hf sky'
    intro h3 fly up3
    have J3 : Inv X pins σ' H' { s' with heap := h3 } := J.landed nb fly.1 (up.trans up3) os ag
    obtain ⟨oe3, vs3, at3, z3, d3⟩ := fly.there
    have off : a ∉ frs (X.env :: X.outer) := by
      intro hm
      obtain ⟨_, o', e', notF⟩ := fly.2.2.1.mem hm
      rw [at3] at e'
      cases e'
      exact notF _ d3
    have offL : a ≠ X.env.locals := by
      intro z
      exact off (List.mem_filterMap.mpr ⟨X.env, List.mem_cons_self, by rw [hf, z]⟩)
    have offF : a ∉ X.fs := by
      intro hm
      obtain ⟨e, he, q⟩ := List.mem_filterMap.mp hm
      exact off (List.mem_filterMap.mpr ⟨e, List.mem_cons_of_mem _ he, q⟩)
    have S3 := J3.suite at3 d3 na offL offF
    have turn : ∀ {hds' : List ExceptHandler} {l' : List (Value × (Addr → Value → Option Addr → TS))}, HdsN X n hds' l' → wN X.K i D l' cls d σ' H' →
        wpAny (model X.prog X.w) X.A (handleBy (.ref a) X.env hds') (SP X pins D) X.xe { s' with heap := h3 } := by
      intro hds' l' hk
      induction hk with
      | nil =>
        intro z
        exact z.elim
      | @cons x c ts b₀ suite np pos' hds2 l2 hc su r ih =>
        rintro ⟨b, is, go⟩
        apply wpAny_handleBy_cons (codeAny_handlers_test _) (by intro q; cases q)
        have lt : PySem.W.Looks (model X.prog X.w) h3 (typeOf (.ref a)) cls := by
          intro A Q E s k q
          apply wpAny_typeOf_ref (k _ _ at3)
          rw [z3.1]
          exact q
        have lm := PySem.W.exm_one (M := model X.prog X.w) J3.kIn lt is
        have named : ∀ {Q : Value → Shared → Prop} {E : Value → Shared → Prop}, Q c { s' with heap := h3 } → wpAny (model X.prog X.w) (X.A.mark (some (.ref a))) (eval (.Name x np) X.env) Q E { s' with heap := h3 } := by
          intro Q E q
          obtain ⟨hg, hd, hm | ⟨hm, hv, nn⟩⟩ := hc
          · exact ld_glob (X := X.suite a ((a, oe3) :: (X.pn ++ pins))) S3 hg hm q hd
          · exact ld_blt (X := X.suite a ((a, oe3) :: (X.pn ++ pins))) S3 hg hm hv q nn hd
        apply named
        apply lm.here
        cases b with
        | false =>
          show wpAny _ X.A (handleBy (.ref a) X.env hds2) _ _ _
          exact ih go
        | true =>
          apply codeAny_handlers_suite_as
          apply HandSPX.lands_againZ fly
          intro h4 fly4 up4
          have J4 : Inv X pins σ' H' { s' with heap := h4 } := J.landed nb fly4.1 ((up.trans up3).trans up4) os ag
          obtain ⟨oe4, vs4, at4, z4, d4⟩ := fly4.there
          have S4 := J4.suite at4 d4 na offL offF
          refine store_ok (X := X.suite a ((a, oe4) :: (X.pn ++ pins))) (v := .ref a) S4 hN hi place rfl ?_ (.inr ln)
          intro s5 S5
          refine wpAny_mono ((su a oe4 cls d (X.pn ++ pins) z4 ⟨_, d4⟩).run [] s5 _ H' _ S5 (go a na)) ?_ (fun _ _ z => z.elim)
          intro f s6 sp
          have fin : ∀ {σ6 : L2.St} {H6 : Hp} {Q : Shared → Prop}, Inv (X.suite a ((a, oe4) :: (X.pn ++ pins))) [] σ6 H6 s6 → (∀ s7, Inv X pins (σ6.set i none) H6 s7 → Q s7) →
              wpAny (model X.prog X.w) X.A (do bindName X.env n .none; unbindBehindTheSuite X.env n pos') (fun _ s7 => Q s7) X.xe s6 := by
            intro σ6 H6 Q S6 q
            exact gone_ok (S6.unsuite ok) hN hi ln q
          match f, sp with
          | .next, ⟨σ6, H6, S6, q6⟩ => exact fin S6 fun s7 J7 => ⟨_, _, J7, q6⟩
          | .brk, ⟨σ6, H6, S6, q6⟩ => exact fin S6 fun s7 J7 => ⟨_, _, J7, q6⟩
          | .cont, ⟨σ6, H6, S6, q6⟩ => exact fin S6 fun s7 J7 => ⟨_, _, J7, q6⟩
          | .ret u, ⟨v6, σ6, H6, S6, r6, q6⟩ => exact fin S6 fun s7 J7 => ⟨_, _, _, J7, r6, q6⟩
    exact turn hh wish
  apply wpAny_Try_except
  refine wpAny_mono ((hb _ _ _ caught).run [] s σ H D (I.toTry _) h) ?_ (fun e s1 z => z)
  intro f s1 sp
  match f, sp with
  | .next, ⟨σ', H', J', q⟩ => exact wpAny_execs_nil ⟨σ', H', J'.ofTry ok, q⟩
  | .brk, ⟨σ', H', J', q⟩ => exact ⟨σ', H', J'.ofTry ok, q⟩
  | .cont, ⟨σ', H', J', q⟩ => exact ⟨σ', H', J'.ofTry ok, q⟩
  | .ret u, ⟨v, σ', H', J', r, q⟩ => exact ⟨v, σ', H', J'.ofTry ok, r, q⟩
end
end Xg
set_option Elab.async false
set_option linter.all false
set_option maxRecDepth 100000
set_option maxHeartbeats 4000000
namespace K47
open PySem PySem.Spec PyProof.Rows L2 Bs Xg
def top (i : Nat) : Stmt := PySem.Challenge.pw_cleanedtables_k47_refusals_made.main.body.getD i (.Pass ⟨0, 0, 0, 0⟩)
abbrev sHand : Stmt := top 16
abbrev sTake : Stmt := top 17
abbrev sPick : Stmt := top 18
abbrev sThing : Stmt := top 19
/-! ### a hand: its three numbers -/
def HandAt (H : Hp) (h : Addr) (n : Nat) : Prop := ∃ g s c : Int, H h = some (.lst [.int g, .int s, .int c]) ∧ 0 ≤ s ∧ s < 2305843009213693951 ∧ 0 ≤ c ∧ c ≤ n
def But (h : Addr) (H H' : Hp) : Prop := ∀ b o, b ≠ h → H b = some o → H' b = some o
theorem But.refl (h : Addr) (H : Hp) : But h H H := fun _ _ _ e => e
theorem But.trans {h : Addr} {H H1 H2 : Hp} (a : But h H H1) (b : But h H1 H2) : But h H H2 := fun c o n e => b c o n (a c o n e)
theorem But.upd {h : Addr} {H : Hp} {o : HO} : But h H (upd H h o) := fun c p n e => by rw [upd_ne n]; exact e
theorem But.of {h : Addr} {H H' : Hp} (s : Same H H') : But h H H' := fun b o _ e => s b o e
theorem But.seq {K : PySem.W.Frag} {h a : Addr} {H H' : Hp} {xs : List V} (e : But h H H') (n : a ≠ h) (q : SqL K H a xs) : SqL K H' a xs := by
  rcases q with (q | ⟨o, q⟩) | q
  · exact .inl (.inl (e _ _ n q))
  · exact .inl (.inr ⟨o, e _ _ n q⟩)
  · exact .inr q
theorem Same.new {H : Hp} {p : Addr} {o : HO} (n : H p = none) : Same H (upd H p o) := fun b u e => by rw [upd_ne (ne_of_none e n)]; exact e
theorem HandAt.mono {H H' : Hp} {h : Addr} {n m : Nat} (a : HandAt H h n) (s : Same H H') (l : n ≤ m) : HandAt H' h m := by
  obtain ⟨g, t, c, e, h1, h2, h3, h4⟩ := a
  exact ⟨g, t, c, s _ _ e, h1, h2, h3, by omega⟩
theorem HandAt.ne {H : Hp} {h l : Addr} {n : Nat} (a : HandAt H h n) (e : H l = none) : l ≠ h := by
  obtain ⟨g, t, c, q, _⟩ := a
  exact (ne_of_none q e).symm
/-! ### the promises -/
def spTake : Sp := fun vs H Q _ => ∃ (h : Addr) (n : Nat) (m : Int), vs = [.ref h, .int m] ∧ HandAt H h n ∧ n < 1000000 ∧ 0 < m ∧ m ≤ 1000000000 ∧
  ∀ (r : Int) (H' : Hp), 0 ≤ r → r < m → HandAt H' h (n + 1) → But h H H' → Q (.int r) H'
def spPick (K : PySem.W.Frag) : Sp := fun vs H Q _ => ∃ (h : Addr) (n : Nat) (p : Addr) (ys : List V), vs = [.ref h, .ref p] ∧ HandAt H h n ∧ n < 1000000 ∧ 0 < ys.length ∧ ys.length ≤ 1000 ∧ p ≠ h ∧ SqL K H p ys ∧
  ∀ (y : V) (H' : Hp), y ∈ ys → HandAt H' h (n + 1) → But h H H' → Q y H'
structure Txt (mg : Str → Option Value) : Prop where
  len : mg "len" = none
  int : mg "int" = none
section
variable {P : Program} {w : World} {K : PySem.W.Frag} {mg : Str → Option Value} {base : Heap}
theorem scT : FnScope ["_law_hand_here", "_law_below", "_law_digit", "_law_mixed"] ["_law_hand_here", "_law_below"] (defScope sTake) := ⟨rfl, rfl, rfl, by decide +kernel, rfl, by decide +kernel, by decide +kernel⟩
theorem ok_take {f : Addr} {fd : FuncData} (F : Fun K "_law_take" "_law_take" sTake f fd) : FnOk P w K mg base CX0 1 f fd ["_law_hand_here", "_law_below"] spTake := by
  refine F.ok scT (fun vs H Q E h => ?_) (fun cdv A outer s H vs Q E hr h => ?_)
  · obtain ⟨h, n, m, rfl, _⟩ := h
    rfl
  · obtain ⟨h, n, m, rfl, ⟨g, t, c, e, t0, t1, c0, c1⟩, nb, m0, m1, k⟩ := h
    have at0 : atI ([V.int g, V.int t, V.int c]) 0 = some (V.int g) := atI_nat (j := 0) rfl
    have at2 : atI ([V.int g, V.int t, V.int c]) 2 = some (V.int c) := atI_nat (j := 2) rfl
    refine ⟨_,pss_cons (ps_if (pt_cmpR op_gt (pe_ix ix_list (pv 0) pe_int (fun _ _ => rfl)) pe_int (nomark _)) (pss_cons (ps_set (i := 2) scT.nd rfl (Or.inl rfl) (pe_op op_mod (pe_ix ix_list (pv 0) pe_int (fun _ _ => rfl)) (pv 1)))
      (pss_cons (ps_asg (pe_op op_fdiv (pe_ix ix_list (pv 0) pe_int (fun _ _ => rfl)) (pv 1)) (pg_sub (pv 0) pe_int set_list))
      (pss_one (ps_ret (pv 2))))) pss_nil)
      (pss_cons (ps_asg (pe_op op_add (pe_ix ix_list (pv 0) pe_int (fun _ _ => rfl)) pe_int) (pg_sub (pv 0) pe_int set_list))
      (pss_cons (ps_set (i := 3) scT.nd rfl (Or.inl rfl) (pe_op op_mod (pe_op op_mul (pe_op op_add (pe_op op_add (pe_ix ix_list (pv 0) pe_int (fun _ _ => rfl)) (pe_op op_mul (pe_op op_mul pe_int (pe_ix ix_list (pv 0) pe_int (fun _ _ => rfl))) (pe_ix ix_list (pv 0) pe_int (fun _ _ => rfl)))) pe_int) pe_int) pe_int))
      (pss_cons (ps_set (i := 3) scT.nd rfl (Or.inl rfl) (pe_op op_mod (pe_op op_mul (pv 3) (pe_op op_add (pe_op op_mod (pv 3) pe_int) (pe_op op_mul pe_int (pe_ix ix_list (pv 0) pe_int (fun _ _ => rfl))))) pe_int))
      (pss_one (ps_ret (pe_op op_mod (pe_op op_add (pe_op op_fdiv (pv 3) pe_int) (pe_op op_fdiv (pv 3) pe_int)) (pv 1))))))), ?_⟩
    refine ⟨_, rfl, h, _, _, _, rfl, rfl, SqL.of e, at0, _, _, rfl, rfl, _, rfl, ?_⟩
    by_cases hc : (0 : Int) < g
    · rw [decide_eq_true hc]
      refine iteT ?_
      refine ⟨_, rfl, h, _, _, _, rfl, rfl, SqL.of e, at0, _, rfl, _, _, rfl, rfl, m0, ?_⟩
      refine ⟨_, rfl, h, _, _, _, rfl, rfl, SqL.of e, at0, _, rfl, _, _, rfl, rfl, ⟨m0, by omega⟩, ?_⟩
      refine ⟨_, rfl, h, _, _, 0, rfl, rfl, e, rfl, ?_⟩
      refine ⟨_, rfl, ?_⟩
      exact k _ _ (Int.emod_nonneg _ (by omega)) (Int.emod_lt_of_pos _ m0) ⟨g / m, t, c, upd_same, t0, t1, c0, by omega⟩ But.upd
    · rw [decide_eq_false hc]
      refine iteF ?_
      refine ⟨_, rfl, h, _, _, _, rfl, rfl, SqL.of e, at2, _, _, rfl, rfl, ?_⟩
      refine ⟨_, rfl, h, _, _, 2, rfl, rfl, e, rfl, ?_⟩
      have e1 : upd H h (.lst [.int g, .int t, .int (c + 1)]) h = some (.lst [.int g, .int t, .int (c + 1)]) := upd_same
      have b1 : atI ([V.int g, V.int t, V.int (c + 1)]) 1 = some (V.int t) := atI_nat (j := 1) rfl
      have b2 : atI ([V.int g, V.int t, V.int (c + 1)]) 2 = some (V.int (c + 1)) := atI_nat (j := 2) rfl
      have cB : -(2 ^ 64) < c + 1 ∧ c + 1 < 2 ^ 64 := by omega
      refine ⟨_, rfl, h, _, _, _, rfl, rfl, SqL.of e1, b1, _, rfl, h, _, _, _, rfl, rfl, SqL.of e1, b2, _, _, rfl, rfl, .inl ⟨by decide, by decide⟩, _, rfl, h, _, _, _, rfl, rfl, SqL.of e1, b2, _, _, rfl, rfl, .inr cB, _, _, rfl, rfl, _, _, rfl, rfl, _, _, rfl, rfl, .inr ⟨by decide, by decide⟩, _, _, rfl, rfl, (by decide : (0 : Int) < 2305843009213693921), ?_⟩
      generalize (t + 65537 * (c + 1) * (c + 1) + 11) * 48271 = big
      have mB : -(2 ^ 64) < big % 2305843009213693921 ∧ big % 2305843009213693921 < 2 ^ 64 := by omega
      refine ⟨_, rfl, _, rfl, _, _, rfl, rfl, (by decide : (0 : Int) < 1000003), _, rfl, h, _, _, _, rfl, rfl, SqL.of e1, b2, _, _, rfl, rfl, .inl ⟨by decide, by decide⟩, _, _, rfl, rfl, _, _, rfl, rfl, .inl mB, _, _, rfl, rfl, (by decide : (0 : Int) < 2305843009213693907), ?_⟩
      refine ⟨_, rfl, _, _, rfl, rfl, ⟨by decide, by decide⟩, _, rfl, _, _, rfl, rfl, ⟨by decide, by decide⟩, _, _, rfl, rfl, _, rfl, _, _, rfl, rfl, m0, ?_⟩
      exact k _ _ (Int.emod_nonneg _ (by omega)) (Int.emod_lt_of_pos _ m0) ⟨g, t, c + 1, upd_same, t0, t1, by omega, by omega⟩ But.upd
theorem scH : FnScope ["_law_script", "_law_k", "_law_cell", "_law_great"] ["_law_script", "_law_k"] (defScope sHand) := ⟨rfl, rfl, rfl, by decide +kernel, rfl, by decide +kernel, by decide +kernel⟩
def spHand (K : PySem.W.Frag) : Sp := fun vs H Q _ => ∃ (a : Addr) (ns : List Int) (j : Nat), vs = [.ref a, .int (j : Int)] ∧ SqL K H a (ns.map V.int) ∧ ns.length ≤ 63 ∧ j < 64 ∧
  ∀ (p : Addr) (H' : Hp), H p = none → Same H H' → HandAt H' p 0 → Q (.ref p) H'
theorem ok_hand {f : Addr} {fd : FuncData} (F : Fun K "_law_hand" "_law_hand" sHand f fd) (T : Txt mg) : FnOk P w K mg base CX0 1 f fd ["_law_script", "_law_k"] (spHand K) := by
  refine F.ok scH (fun vs H Q E h => ?_) (fun cdv A outer s H vs Q E hr h => ?_)
  · obtain ⟨a, ns, j, rfl, _⟩ := h
    rfl
  · obtain ⟨a, ns, j, rfl, hS, hl, hj, k⟩ := h
    refine ⟨_,pss_cons (ps_set (i := 2) scH.nd rfl (Or.inl rfl) pe_int)
      (pss_cons (ps_if (pt_cmpR op_lt (pv 1) (pe_callB call_len_seq (by rfl) T.len PySem.boot_len (pa_cons (pv 0) pa_nil)) (nomark _)) (pss_one (ps_set (i := 2) scH.nd rfl (Or.inl rfl) (pe_ix ix_list (pv 0) (pv 1) (fun _ _ => rfl)))) pss_nil)
      (pss_cons (ps_set (i := 3) scH.nd rfl (Or.inl rfl) (pe_op op_mul (pe_op op_mod (pv 2) (pe_op op_mulW (pe_op op_mulW (pe_op op_pow pe_int pe_int) (pe_op op_pow pe_int pe_int)) (pe_op op_pow pe_int pe_int))) (pe_callTy call_int1 (by rfl) T.int (by decide +kernel) (pa_cons (pe_cmpR op_ge (pv 2) (pe_op op_pow pe_int pe_int) (nomark _)) pa_nil))))
      (pss_one (ps_ret (pe_lst (pa_cons (pv 3) (pa_cons (pe_op op_mod (pe_op op_add (pe_op op_add (pe_op op_mod (pv 2) pe_int) (pe_op op_mul pe_int (pv 1))) pe_int) pe_int) (pa_cons pe_int pa_nil)))))))), ?_⟩
    refine gN ?_
    dsimp only
    refine cutT (fun σ' H' => (∃ cell : Int, σ' = [some (.ref a), some (.int (j : Int)), some (.int cell), none]) ∧ H' = H) (fun N n => ?_) ?_
    · refine ⟨_, rfl, _, rfl, a, _, rfl, .inl hS, _, _, rfl, rfl, _, rfl, ?_⟩
      by_cases c : (j : Int) < ((ns.map V.int).length : Nat)
      · rw [decide_eq_true c]
        refine iteT ?_
        rw [List.length_map] at c
        have hj' : j < ns.length := by omega
        refine ⟨_, rfl, _, rfl, a, _, _, .int ns[j], rfl, rfl, hS, atI_nat (by rw [List.getElem?_map, List.getElem?_eq_getElem hj']; rfl), ?_⟩
        exact n _ _ ⟨⟨_, rfl⟩, rfl⟩
      · rw [decide_eq_false c]
        refine iteF ?_
        exact n _ _ ⟨⟨_, rfl⟩, rfl⟩
    · rintro σ1 H1 ⟨⟨cell, rfl⟩, rfl⟩
      refine cutA (fun v H2 => (∃ great : Int, v = .int great) ∧ H2 = H1) (fun Q' q => ?_) ?_
      · refine ⟨_, rfl, _, _, rfl, rfl, ⟨by decide, by decide, by decide⟩, _, _, rfl, rfl, ⟨by decide, by decide, by decide⟩, _, _, rfl, rfl, wide_mul (a := 300) (b := 300) (by decide +kernel) (by decide +kernel) (by decide) (by decide) (by decide), _, _, rfl, rfl, ⟨by decide, by decide, by decide⟩,
            _, _, rfl, rfl, wide_mul (a := 600) (b := 300) (by decide +kernel) (by decide +kernel) (by decide) (by decide) (by decide), _, _, rfl, rfl, (by show (0 : Int) < 10 ^ Int.toNat 60 * 10 ^ Int.toNat 60 * 10 ^ Int.toNat 60; decide +kernel), ?_⟩
        refine ⟨_, rfl, _, _, rfl, rfl, ⟨by decide, by decide, by decide⟩, _, _, rfl, rfl, .inr ⟨_, rfl, ?_⟩⟩
        refine ⟨_, _, rfl, rfl, .inr ?_, ?_⟩
        · split <;> exact ⟨by decide, by decide⟩
        · exact q _ _ ⟨⟨_, rfl⟩, rfl⟩
      · rintro v H2 ⟨⟨great, rfl⟩, rfl⟩
        refine ⟨_, rfl, _, rfl, _, _, rfl, rfl, (by decide : (0 : Int) < 2305843009213693951), _, rfl, _, _, rfl, rfl, .inl ⟨by decide, by decide⟩, _, _, rfl, rfl, _, _, rfl, rfl, _, _, rfl, rfl, (by decide : (0 : Int) < 2305843009213693951), (by show 3 ≤ sizeLine; decide), fun p hp => ?_⟩
        exact k p _ hp (Same.new hp) ⟨_, _, _, upd_same, Int.emod_nonneg _ (by decide), Int.emod_lt_of_pos _ (by decide), Int.le_refl _, Int.le_refl _⟩
theorem scP : FnScope ["_law_hand_here", "_law_some"] ["_law_hand_here", "_law_some"] (defScope sPick) := ⟨rfl, rfl, rfl, by decide +kernel, rfl, by decide +kernel, by decide +kernel⟩
theorem ok_pick {f fT : Addr} {fd fdT : FuncData} (F : Fun K "_law_pick" "_law_pick" sPick f fd) (T : Txt mg) (FT : Fun K "_law_take" "_law_take" sTake fT fdT) (bT : Binds K fdT ["_law_hand_here", "_law_below"] []) (gT : mg "_law_take" = some (.ref fT)) :
    FnOk P w K mg base CX0 2 f fd ["_law_hand_here", "_law_some"] (spPick K) := by
  have GT : FnOk P w K mg base CX0 1 fT fdT ["_law_hand_here", "_law_below"] spTake := ok_take FT
  refine F.ok scP (fun vs H Q E h => ?_) (fun cdv A outer s H vs Q E hr h => ?_)
  · obtain ⟨h, n, x, ys, rfl, _⟩ := h
    rfl
  · obtain ⟨h, n, p, ys, rfl, hd, nb, l0, l1, ne, hp, k⟩ := h
    refine ⟨_, pss_one (ps_ret (pe_ix ix_list (pv 1) (pe_call GT hr (by rfl) gT FT.kp bT .nil pass0 (pa_cons (pv 0) (pa_cons (pe_callB call_len_seq (by rfl) T.len PySem.boot_len (pa_cons (pv 1) pa_nil)) pa_nil))) (fun _ _ => rfl))), ?_⟩
    refine ⟨_, rfl, _, rfl, _, rfl, p, _, rfl, .inl hp, h, n, _, rfl, hd, nb, by omega, by omega, fun r H' r0 r1 hd' bt => ?_⟩
    have rl : r.toNat < ys.length := by omega
    refine ⟨p, _, r, ys[r.toNat], rfl, rfl, bt.seq ne hp, ?_, ?_⟩
    · have e := atI_nat (xs := ys) (j := r.toNat) (List.getElem?_eq_getElem rl)
      rw [Int.toNat_of_nonneg r0] at e
      exact e
    · exact k _ _ (List.getElem_mem rl) hd' bt
end
end K47
set_option Elab.async false
set_option linter.all false
set_option maxRecDepth 100000
set_option maxHeartbeats 4000000
namespace K47
open PySem PySem.Spec PyProof.Rows L2 Bs Xg
section
variable {P : Program} {w : World} {K : PySem.W.Frag} {mg : Str → Option Value} {base : Heap}
/-- a thing of any kind, small -/
def Tg (K : PySem.W.Frag) (H : Hp) (x : V) (d : PyData) : Prop := Dq K H x d ∧ d.showable = true ∧ d.depth ≤ 3 ∧ d.shown.length ≤ 40
def spThing (K : PySem.W.Frag) : Sp := fun vs H Q _ => ∃ (h : Addr) (n : Nat), vs = [.ref h] ∧ HandAt H h n ∧ n + 2 < 1000000 ∧
  ∀ (x : V) (d : PyData) (H' : Hp), (∀ H'', But h H' H'' → Tg K H'' x d) → HandAt H' h (n + 2) → But h H H' → Q x H'
theorem scG : FnScope ["_law_hand_here", "_law_some"] ["_law_hand_here"] (defScope sThing) := ⟨rfl, rfl, rfl, by decide +kernel, rfl, by decide +kernel, by decide +kernel⟩
theorem new2 {H : Hp} {p : Addr} {o o' : HO} (n : H p = none) : Same H (upd (upd H p o) p o') := by
  intro b u e
  rw [upd_ne (ne_of_none e n), upd_ne (ne_of_none e n)]
  exact e
theorem tg_int {H : Hp} {r : Int} (r0 : 0 ≤ r) (r1 : r < 10 ^ 9) : Tg K H (.int r) (.int r) := by
  refine ⟨.int r, ?_, ?_, ?_⟩
  · have e : r.natAbs < 2 ^ 30 := by omega
    have l : r.natAbs.log2 < 1920 := by
      by_cases z : r.natAbs = 0
      · rw [z]
        decide
      · exact Nat.lt_trans ((Nat.log2_lt z).mpr e) (by decide)
    simp [PyData.showable, l]
  · simp [PyData.depth]
  · have e : (PyData.int r).shown = Str.ofString (toString r) := by simp only [PyData.shown]
    rw [e]
    exact Nat.le_trans (toString_length_le r0 (k := 9) (by decide) r1) (by decide)
theorem ok_thing {f fT fP : Addr} {fd fdT fdP : FuncData} (F : Fun K "_law_thing" "_law_thing" sThing f fd) (T : Txt mg) (FT : Fun K "_law_take" "_law_take" sTake fT fdT) (bT : Binds K fdT ["_law_hand_here", "_law_below"] []) (gT : mg "_law_take" = some (.ref fT))
    (FP : Fun K "_law_pick" "_law_pick" sPick fP fdP) (bP : Binds K fdP ["_law_hand_here", "_law_some"] []) (gP : mg "_law_pick" = some (.ref fP)) :
    FnOk P w K mg base CX0 3 f fd ["_law_hand_here"] (spThing K) := by
  have GT : FnOk P w K mg base CX0 1 fT fdT ["_law_hand_here", "_law_below"] spTake := ok_take FT
  have GP : FnOk P w K mg base CX0 2 fP fdP ["_law_hand_here", "_law_some"] (spPick K) := ok_pick FP T FT bT gT
  refine F.ok scG (fun vs H Q E h => ?_) (fun cdv A outer s H vs Q E hr h => ?_)
  · obtain ⟨h, n, rfl, _⟩ := h
    rfl
  · obtain ⟨h, n, rfl, hd, nb, k⟩ := h
    have hr1 : Room 1 _ := hr.mono (by decide)
    refine ⟨_,pss_cons (ps_set (i := 1) scG.nd rfl (Or.inl rfl) (pe_lst (pa_cons (pe_call GT hr1 (by rfl) gT FT.kp bT .nil pass0 (pa_cons (pv 0) (pa_cons (pe_op op_pow pe_int pe_int) pa_nil))) (pa_cons pe_int (pa_cons (pe_un un_neg pe_int) (pa_cons pe_str (pa_cons pe_str (pa_cons pe_str (pa_cons (pe_tup pa_nil) (pa_cons (pe_tup (pa_cons pe_int (pa_cons pe_str pa_nil))) (pa_cons pe_non (pa_cons pe_bl (pa_cons (pe_tup (pa_cons pe_str (pa_cons pe_str pa_nil))) (pa_cons (pe_lst (pa_cons pe_int pa_nil)) (pa_cons (pe_disp (pps_cons pe_str pe_int pps_nil) rfl rfl (by simp) (by decide)) pa_nil)))))))))))))))
      (pss_one (ps_ret (pe_call GP hr (by rfl) gP FP.kp bP .nil pass0 (pa_cons (pv 0) (pa_cons (pv 1) pa_nil))))), ?_⟩
    refine ⟨_, rfl, _, _, rfl, rfl, ⟨by decide, by decide, by decide⟩, h, n, _, rfl, hd, by omega, by decide +kernel, by decide +kernel, fun r H1 r0 r1 hd1 bt1 => ?_⟩
    refine ⟨_, rfl, (by show 0 ≤ sizeLine; decide), fun t1 ht1 => ⟨(by show 2 ≤ sizeLine; decide), fun t2 ht2 => ⟨(by show 2 ≤ sizeLine; decide), fun t3 ht3 => ⟨(by show 1 ≤ sizeLine; decide), fun l1 hl1 => fun dd hdd => ?_⟩⟩⟩⟩
    refine ⟨upd_same, [(.inr (Str.ofString "a"), .int 1)], rfl, by decide, (by show 13 ≤ sizeLine; decide), fun l hl => ?_⟩
    refine gN ?_
    dsimp only
    have s1 := Same.new (o := .tup []) ht1
    have s2 := Same.new (o := .tup [.int 0, .str (Str.ofString "a")]) ht2
    have s3 := Same.new (o := .tup [.str (Str.ofString "a"), .str (Str.ofString "b")]) ht3
    have s4 := Same.new (o := .lst [.int 1]) hl1
    have s5 := new2 (o := .dK []) (o' := .dK (mergeK [] [(.inr (Str.ofString "a"), .int 1)])) hdd
    have hd2 := hd1.mono s1 (Nat.le_refl _)
    have hd3 := hd2.mono s2 (Nat.le_refl _)
    have hd4 := hd3.mono s3 (Nat.le_refl _)
    have hd5 := hd4.mono s4 (Nat.le_refl _)
    have hd6 := hd5.mono s5 (Nat.le_refl _)
    have s6 := Same.new (o := .lst [.int r, .int 0, .int (-1), .str (Str.ofString "a"), .str (Str.ofString ""), .str (Str.ofString "table"), .ref t1, .ref t2, .non, .bl true, .ref t3, .ref l1, .ref dd]) hl
    refine ⟨_, rfl, _, rfl, h, n + 1, l, _, rfl, hd6.mono s6 (Nat.le_refl _), by omega, by show 0 < 13; decide, by show 13 ≤ 1000; decide, hd6.ne hl, SqL.of upd_same, fun y H2 hy hd7 bt2 => ?_⟩
    have bt : But h H H2 := (((((((bt1.trans (But.of s1)).trans (But.of s2)).trans (But.of s3)).trans (But.of s4)).trans (But.of s5)).trans (But.of s6))).trans bt2
    have e1 := bt2 t1 _ (hd1.ne ht1) (s6 _ _ (s5 _ _ (s4 _ _ (s3 _ _ (s2 _ _ (upd_same (H := H1) (a := t1) (o := .tup [])))))))
    have e2 := bt2 t2 _ (hd2.ne ht2) (s6 _ _ (s5 _ _ (s4 _ _ (s3 _ _ upd_same))))
    have e3 := bt2 t3 _ (hd3.ne ht3) (s6 _ _ (s5 _ _ (s4 _ _ upd_same)))
    have e4 := bt2 l1 _ (hd4.ne hl1) (s6 _ _ (s5 _ _ upd_same))
    have e5 := bt2 dd _ (hd5.ne hdd) (s6 _ _ upd_same)
    have fin : ∃ d, ∀ H3, But h H2 H3 → Tg K H3 y d := by
      simp only [List.mem_cons, List.not_mem_nil, or_false] at hy
      rcases hy with rfl | rfl | rfl | rfl | rfl | rfl | rfl | rfl | rfl | rfl | rfl | rfl | rfl
      · exact ⟨_, fun _ _ => tg_int r0 r1⟩
      · exact ⟨_, fun _ _ => ⟨.int 0, by decide +kernel, by decide +kernel, by decide +kernel⟩⟩
      · exact ⟨_, fun _ _ => ⟨.int (-1), by decide +kernel, by decide +kernel, by decide +kernel⟩⟩
      · exact ⟨_, fun _ _ => ⟨.str _, by decide +kernel, by decide +kernel, by decide +kernel⟩⟩
      · exact ⟨_, fun _ _ => ⟨.str _, by decide +kernel, by decide +kernel, by decide +kernel⟩⟩
      · exact ⟨_, fun _ _ => ⟨.str _, by decide +kernel, by decide +kernel, by decide +kernel⟩⟩
      · exact ⟨_, fun H3 b3 => ⟨.tup [] (SqT.of (b3 t1 _ (hd1.ne ht1) e1)) (fun p hp => nomatch hp), by decide +kernel, by decide +kernel, by decide +kernel⟩⟩
      · refine ⟨_, fun H3 b3 => ⟨.tup [(.int 0, .int 0), (.str (Str.ofString "a"), .str (Str.ofString "a"))] (SqT.of (b3 t2 _ (hd2.ne ht2) e2)) (fun p hp => ?_), by decide +kernel, by decide +kernel, by decide +kernel⟩⟩
        simp only [List.mem_cons, List.not_mem_nil, or_false] at hp
        rcases hp with rfl | rfl
        · exact .int 0
        · exact .str _
      · exact ⟨_, fun _ _ => ⟨.non, by decide +kernel, by decide +kernel, by decide +kernel⟩⟩
      · exact ⟨_, fun _ _ => ⟨.bl true, by decide +kernel, by decide +kernel, by decide +kernel⟩⟩
      · refine ⟨_, fun H3 b3 => ⟨.tup [(.str (Str.ofString "a"), .str (Str.ofString "a")), (.str (Str.ofString "b"), .str (Str.ofString "b"))] (SqT.of (b3 t3 _ (hd3.ne ht3) e3)) (fun p hp => ?_), by decide +kernel, by decide +kernel, by decide +kernel⟩⟩
        simp only [List.mem_cons, List.not_mem_nil, or_false] at hp
        rcases hp with rfl | rfl <;> exact .str _
      · refine ⟨_, fun H3 b3 => ⟨.lst [(.int 1, .int 1)] (SqL.of (b3 l1 _ (hd4.ne hl1) e4)) (fun p hp => ?_), by decide +kernel, by decide +kernel, by decide +kernel⟩⟩
        simp only [List.mem_cons, List.not_mem_nil, or_false] at hp
        rw [hp]
        exact .int 1
      · exact ⟨_, fun H3 b3 => ⟨.dk (Str.ofString "a") 1 (b3 dd _ (hd5.ne hdd) e5), by decide +kernel, by decide +kernel, by decide +kernel⟩⟩
    obtain ⟨d, td⟩ := fin
    exact k y d H2 td hd7 bt
end
end K47
set_option Elab.async false
set_option linter.all false
set_option maxRecDepth 100000
set_option maxHeartbeats 4000000
namespace K47
open PySem PySem.Spec PyProof.Rows L2 Bs Xg Xc
def ini (i : Nat) : Stmt := match top i with
  | .ClassDef _ _ _ body _ _ _ _ _ _ _ => body.getD 0 (.Pass ⟨0, 0, 0, 0⟩)
  | _ => .Pass ⟨0, 0, 0, 0⟩
def fld : Nat → List Str
  | 0 => ["worth"]
  | 1 => ["row"]
  | 2 => ["line"]
  | 3 => ["row"]
  | 4 => ["number", "column"]
  | 5 => ["which"]
  | 6 => ["thing"]
  | 7 => ["source"]
  | 8 => ["table"]
  | 10 => ["table", "step", "other", "what"]
  | _ => []
def mkOf (i : Nat) (xs : List V) : List (Str × V) := ((fld i).zip xs).reverse
section
variable {P : Program} {w : World} {K : PySem.W.Frag} {mg : Str → Option Value} {base : Heap} {C f : Addr} {fd : FuncData} {B n i : String} {bm : List Value}
theorem scI0 : FnScope ["self", "worth"] ["self", "worth"] (defScope (ini 2)) := ⟨rfl, rfl, rfl, by decide +kernel, rfl, by decide +kernel, by decide +kernel⟩
theorem ok_i0 (F : Fun K "__init__" "NoFit.__init__" (ini 2) f fd) (T : Cl K C B n i bm) (t0 : PySem.W.takerIn K C "worth" = some none) : FnOk P w K mg base CX0 1 f fd ["self", "worth"] (spIn C 1 (mkOf 0)) := by
  refine F.ok scI0 (fun vs H Q E h => ?_) (fun cdv A outer s H vs Q E hr h => ?_)
  · obtain ⟨a, xs, rfl, hl, _⟩ := h
    show xs.length + 1 = _
    rw [hl]
    rfl
  · obtain ⟨a, xs, rfl, hl, ea, k⟩ := h
    match xs, hl with
    | [x0], _ =>
      refine ⟨_, pss_one (ps_put (pv 0) (pv 1)), ?_⟩
      refine ⟨_, rfl, _, rfl, a, C, _, _, _, _, rfl, T, t0, .inl ⟨ea, fun dx d1 d2 => ?_⟩⟩
      exact k dx _ d1 d2 upd_same (by rw [upd_ne d2]; exact upd_same) (fun b b1 b2 => by rw [upd_ne b1, upd_ne b2])
theorem kp_i0 (F : Fun K "__init__" "NoFit.__init__" (ini 2) f fd) : KBn K fd ["self", "worth"] 2 [] gS gS := kbS F fun _ _ _ _ _ _ us ws h1 h2 => match us, ws, h1, h2 with | [_, _], [], _, _ => rfl
theorem kn_i0 (F : Fun K "__init__" "NoFit.__init__" (ini 2) f fd) : KBn K fd ["self", "worth"] 1 ["worth"] gS gS := kbS F fun _ _ _ _ _ _ us ws h1 h2 => match us, ws, h1, h2 with | [_], [_], _, _ => rfl
theorem scI1 : FnScope ["self", "row"] ["self", "row"] (defScope (ini 3)) := ⟨rfl, rfl, rfl, by decide +kernel, rfl, by decide +kernel, by decide +kernel⟩
theorem ok_i1 (F : Fun K "__init__" "NoText.__init__" (ini 3) f fd) (T : Cl K C B n i bm) (t0 : PySem.W.takerIn K C "row" = some none) : FnOk P w K mg base CX0 1 f fd ["self", "row"] (spIn C 1 (mkOf 1)) := by
  refine F.ok scI1 (fun vs H Q E h => ?_) (fun cdv A outer s H vs Q E hr h => ?_)
  · obtain ⟨a, xs, rfl, hl, _⟩ := h
    show xs.length + 1 = _
    rw [hl]
    rfl
  · obtain ⟨a, xs, rfl, hl, ea, k⟩ := h
    match xs, hl with
    | [x0], _ =>
      refine ⟨_, pss_one (ps_put (pv 0) (pv 1)), ?_⟩
      refine ⟨_, rfl, _, rfl, a, C, _, _, _, _, rfl, T, t0, .inl ⟨ea, fun dx d1 d2 => ?_⟩⟩
      exact k dx _ d1 d2 upd_same (by rw [upd_ne d2]; exact upd_same) (fun b b1 b2 => by rw [upd_ne b1, upd_ne b2])
theorem kp_i1 (F : Fun K "__init__" "NoText.__init__" (ini 3) f fd) : KBn K fd ["self", "row"] 2 [] gS gS := kbS F fun _ _ _ _ _ _ us ws h1 h2 => match us, ws, h1, h2 with | [_, _], [], _, _ => rfl
theorem kn_i1 (F : Fun K "__init__" "NoText.__init__" (ini 3) f fd) : KBn K fd ["self", "row"] 1 ["row"] gS gS := kbS F fun _ _ _ _ _ _ us ws h1 h2 => match us, ws, h1, h2 with | [_], [_], _, _ => rfl
theorem scI2 : FnScope ["self", "line"] ["self", "line"] (defScope (ini 4)) := ⟨rfl, rfl, rfl, by decide +kernel, rfl, by decide +kernel, by decide +kernel⟩
theorem ok_i2 (F : Fun K "__init__" "NoLine.__init__" (ini 4) f fd) (T : Cl K C B n i bm) (t0 : PySem.W.takerIn K C "line" = some none) : FnOk P w K mg base CX0 1 f fd ["self", "line"] (spIn C 1 (mkOf 2)) := by
  refine F.ok scI2 (fun vs H Q E h => ?_) (fun cdv A outer s H vs Q E hr h => ?_)
  · obtain ⟨a, xs, rfl, hl, _⟩ := h
    show xs.length + 1 = _
    rw [hl]
    rfl
  · obtain ⟨a, xs, rfl, hl, ea, k⟩ := h
    match xs, hl with
    | [x0], _ =>
      refine ⟨_, pss_one (ps_put (pv 0) (pv 1)), ?_⟩
      refine ⟨_, rfl, _, rfl, a, C, _, _, _, _, rfl, T, t0, .inl ⟨ea, fun dx d1 d2 => ?_⟩⟩
      exact k dx _ d1 d2 upd_same (by rw [upd_ne d2]; exact upd_same) (fun b b1 b2 => by rw [upd_ne b1, upd_ne b2])
theorem kp_i2 (F : Fun K "__init__" "NoLine.__init__" (ini 4) f fd) : KBn K fd ["self", "line"] 2 [] gS gS := kbS F fun _ _ _ _ _ _ us ws h1 h2 => match us, ws, h1, h2 with | [_, _], [], _, _ => rfl
theorem kn_i2 (F : Fun K "__init__" "NoLine.__init__" (ini 4) f fd) : KBn K fd ["self", "line"] 1 ["line"] gS gS := kbS F fun _ _ _ _ _ _ us ws h1 h2 => match us, ws, h1, h2 with | [_], [_], _, _ => rfl
theorem scI3 : FnScope ["self", "row"] ["self", "row"] (defScope (ini 6)) := ⟨rfl, rfl, rfl, by decide +kernel, rfl, by decide +kernel, by decide +kernel⟩
theorem ok_i3 (F : Fun K "__init__" "NoRow.__init__" (ini 6) f fd) (T : Cl K C B n i bm) (t0 : PySem.W.takerIn K C "row" = some none) : FnOk P w K mg base CX0 1 f fd ["self", "row"] (spIn C 1 (mkOf 3)) := by
  refine F.ok scI3 (fun vs H Q E h => ?_) (fun cdv A outer s H vs Q E hr h => ?_)
  · obtain ⟨a, xs, rfl, hl, _⟩ := h
    show xs.length + 1 = _
    rw [hl]
    rfl
  · obtain ⟨a, xs, rfl, hl, ea, k⟩ := h
    match xs, hl with
    | [x0], _ =>
      refine ⟨_, pss_one (ps_put (pv 0) (pv 1)), ?_⟩
      refine ⟨_, rfl, _, rfl, a, C, _, _, _, _, rfl, T, t0, .inl ⟨ea, fun dx d1 d2 => ?_⟩⟩
      exact k dx _ d1 d2 upd_same (by rw [upd_ne d2]; exact upd_same) (fun b b1 b2 => by rw [upd_ne b1, upd_ne b2])
theorem kp_i3 (F : Fun K "__init__" "NoRow.__init__" (ini 6) f fd) : KBn K fd ["self", "row"] 2 [] gS gS := kbS F fun _ _ _ _ _ _ us ws h1 h2 => match us, ws, h1, h2 with | [_, _], [], _, _ => rfl
theorem kn_i3 (F : Fun K "__init__" "NoRow.__init__" (ini 6) f fd) : KBn K fd ["self", "row"] 1 ["row"] gS gS := kbS F fun _ _ _ _ _ _ us ws h1 h2 => match us, ws, h1, h2 with | [_], [_], _, _ => rfl
theorem scI4 : FnScope ["self", "number", "column"] ["self", "number", "column"] (defScope (ini 7)) := ⟨rfl, rfl, rfl, by decide +kernel, rfl, by decide +kernel, by decide +kernel⟩
theorem ok_i4 (F : Fun K "__init__" "NoCell.__init__" (ini 7) f fd) (T : Cl K C B n i bm) (t0 : PySem.W.takerIn K C "number" = some none) (t1 : PySem.W.takerIn K C "column" = some none) : FnOk P w K mg base CX0 1 f fd ["self", "number", "column"] (spIn C 2 (mkOf 4)) := by
  refine F.ok scI4 (fun vs H Q E h => ?_) (fun cdv A outer s H vs Q E hr h => ?_)
  · obtain ⟨a, xs, rfl, hl, _⟩ := h
    show xs.length + 1 = _
    rw [hl]
    rfl
  · obtain ⟨a, xs, rfl, hl, ea, k⟩ := h
    match xs, hl with
    | [x0, x1], _ =>
      refine ⟨_, pss_cons (ps_put (pv 0) (pv 1)) (pss_one (ps_put (pv 0) (pv 2))), ?_⟩
      refine ⟨_, rfl, _, rfl, a, C, _, _, _, _, rfl, T, t0, .inl ⟨ea, fun dx d1 d2 => ?_⟩⟩
      have ea1 := (show (upd (upd H dx (exd dx [("number", x0)])) a (exo a C (some dx))) a = some (exo a C (some dx)) from upd_same)
      have ed1 : (upd (upd H dx (exd dx [("number", x0)])) a (exo a C (some dx))) dx = some (exd dx [("number", x0)]) := by rw [upd_ne d2]; exact upd_same
      refine ⟨_, rfl, _, rfl, a, C, _, _, _, _, rfl, T, t1, .inr ⟨dx, _, ea1, ed1, by simp, ?_⟩⟩
      exact k dx _ d1 d2 (by rw [upd_ne d2.symm]; exact ea1) upd_same (fun b b1 b2 => by rw [upd_ne b2, upd_ne b1, upd_ne b2])
theorem kp_i4 (F : Fun K "__init__" "NoCell.__init__" (ini 7) f fd) : KBn K fd ["self", "number", "column"] 3 [] gS gS := kbS F fun _ _ _ _ _ _ us ws h1 h2 => match us, ws, h1, h2 with | [_, _, _], [], _, _ => rfl
theorem kn_i4 (F : Fun K "__init__" "NoCell.__init__" (ini 7) f fd) : KBn K fd ["self", "number", "column"] 1 ["column", "number"] gR gR := kbR F fun _ _ _ _ _ _ us ws h1 h2 => match us, ws, h1, h2 with | [_], [_, _], _, _ => rfl
theorem ks_i4 (F : Fun K "__init__" "NoCell.__init__" (ini 7) f fd) : KBn K fd ["self", "number", "column"] 2 ["column"] gS gS := kbS F fun _ _ _ _ _ _ us ws h1 h2 => match us, ws, h1, h2 with | [_, _], [_], _, _ => rfl
theorem scI5 : FnScope ["self", "which"] ["self", "which"] (defScope (ini 8)) := ⟨rfl, rfl, rfl, by decide +kernel, rfl, by decide +kernel, by decide +kernel⟩
theorem ok_i5 (F : Fun K "__init__" "NoOrder.__init__" (ini 8) f fd) (T : Cl K C B n i bm) (t0 : PySem.W.takerIn K C "which" = some none) : FnOk P w K mg base CX0 1 f fd ["self", "which"] (spIn C 1 (mkOf 5)) := by
  refine F.ok scI5 (fun vs H Q E h => ?_) (fun cdv A outer s H vs Q E hr h => ?_)
  · obtain ⟨a, xs, rfl, hl, _⟩ := h
    show xs.length + 1 = _
    rw [hl]
    rfl
  · obtain ⟨a, xs, rfl, hl, ea, k⟩ := h
    match xs, hl with
    | [x0], _ =>
      refine ⟨_, pss_one (ps_put (pv 0) (pv 1)), ?_⟩
      refine ⟨_, rfl, _, rfl, a, C, _, _, _, _, rfl, T, t0, .inl ⟨ea, fun dx d1 d2 => ?_⟩⟩
      exact k dx _ d1 d2 upd_same (by rw [upd_ne d2]; exact upd_same) (fun b b1 b2 => by rw [upd_ne b1, upd_ne b2])
theorem kp_i5 (F : Fun K "__init__" "NoOrder.__init__" (ini 8) f fd) : KBn K fd ["self", "which"] 2 [] gS gS := kbS F fun _ _ _ _ _ _ us ws h1 h2 => match us, ws, h1, h2 with | [_, _], [], _, _ => rfl
theorem kn_i5 (F : Fun K "__init__" "NoOrder.__init__" (ini 8) f fd) : KBn K fd ["self", "which"] 1 ["which"] gS gS := kbS F fun _ _ _ _ _ _ us ws h1 h2 => match us, ws, h1, h2 with | [_], [_], _, _ => rfl
theorem scI6 : FnScope ["self", "thing"] ["self", "thing"] (defScope (ini 9)) := ⟨rfl, rfl, rfl, by decide +kernel, rfl, by decide +kernel, by decide +kernel⟩
theorem ok_i6 (F : Fun K "__init__" "NoThing.__init__" (ini 9) f fd) (T : Cl K C B n i bm) (t0 : PySem.W.takerIn K C "thing" = some none) : FnOk P w K mg base CX0 1 f fd ["self", "thing"] (spIn C 1 (mkOf 6)) := by
  refine F.ok scI6 (fun vs H Q E h => ?_) (fun cdv A outer s H vs Q E hr h => ?_)
  · obtain ⟨a, xs, rfl, hl, _⟩ := h
    show xs.length + 1 = _
    rw [hl]
    rfl
  · obtain ⟨a, xs, rfl, hl, ea, k⟩ := h
    match xs, hl with
    | [x0], _ =>
      refine ⟨_, pss_one (ps_put (pv 0) (pv 1)), ?_⟩
      refine ⟨_, rfl, _, rfl, a, C, _, _, _, _, rfl, T, t0, .inl ⟨ea, fun dx d1 d2 => ?_⟩⟩
      exact k dx _ d1 d2 upd_same (by rw [upd_ne d2]; exact upd_same) (fun b b1 b2 => by rw [upd_ne b1, upd_ne b2])
theorem kp_i6 (F : Fun K "__init__" "NoThing.__init__" (ini 9) f fd) : KBn K fd ["self", "thing"] 2 [] gS gS := kbS F fun _ _ _ _ _ _ us ws h1 h2 => match us, ws, h1, h2 with | [_, _], [], _, _ => rfl
theorem kn_i6 (F : Fun K "__init__" "NoThing.__init__" (ini 9) f fd) : KBn K fd ["self", "thing"] 1 ["thing"] gS gS := kbS F fun _ _ _ _ _ _ us ws h1 h2 => match us, ws, h1, h2 with | [_], [_], _, _ => rfl
theorem scI7 : FnScope ["self", "source"] ["self", "source"] (defScope (ini 10)) := ⟨rfl, rfl, rfl, by decide +kernel, rfl, by decide +kernel, by decide +kernel⟩
theorem ok_i7 (F : Fun K "__init__" "NoSource.__init__" (ini 10) f fd) (T : Cl K C B n i bm) (t0 : PySem.W.takerIn K C "source" = some none) : FnOk P w K mg base CX0 1 f fd ["self", "source"] (spIn C 1 (mkOf 7)) := by
  refine F.ok scI7 (fun vs H Q E h => ?_) (fun cdv A outer s H vs Q E hr h => ?_)
  · obtain ⟨a, xs, rfl, hl, _⟩ := h
    show xs.length + 1 = _
    rw [hl]
    rfl
  · obtain ⟨a, xs, rfl, hl, ea, k⟩ := h
    match xs, hl with
    | [x0], _ =>
      refine ⟨_, pss_one (ps_put (pv 0) (pv 1)), ?_⟩
      refine ⟨_, rfl, _, rfl, a, C, _, _, _, _, rfl, T, t0, .inl ⟨ea, fun dx d1 d2 => ?_⟩⟩
      exact k dx _ d1 d2 upd_same (by rw [upd_ne d2]; exact upd_same) (fun b b1 b2 => by rw [upd_ne b1, upd_ne b2])
theorem kp_i7 (F : Fun K "__init__" "NoSource.__init__" (ini 10) f fd) : KBn K fd ["self", "source"] 2 [] gS gS := kbS F fun _ _ _ _ _ _ us ws h1 h2 => match us, ws, h1, h2 with | [_, _], [], _, _ => rfl
theorem kn_i7 (F : Fun K "__init__" "NoSource.__init__" (ini 10) f fd) : KBn K fd ["self", "source"] 1 ["source"] gS gS := kbS F fun _ _ _ _ _ _ us ws h1 h2 => match us, ws, h1, h2 with | [_], [_], _, _ => rfl
theorem scI8 : FnScope ["self", "table"] ["self", "table"] (defScope (ini 11)) := ⟨rfl, rfl, rfl, by decide +kernel, rfl, by decide +kernel, by decide +kernel⟩
theorem ok_i8 (F : Fun K "__init__" "NoTable.__init__" (ini 11) f fd) (T : Cl K C B n i bm) (t0 : PySem.W.takerIn K C "table" = some none) : FnOk P w K mg base CX0 1 f fd ["self", "table"] (spIn C 1 (mkOf 8)) := by
  refine F.ok scI8 (fun vs H Q E h => ?_) (fun cdv A outer s H vs Q E hr h => ?_)
  · obtain ⟨a, xs, rfl, hl, _⟩ := h
    show xs.length + 1 = _
    rw [hl]
    rfl
  · obtain ⟨a, xs, rfl, hl, ea, k⟩ := h
    match xs, hl with
    | [x0], _ =>
      refine ⟨_, pss_one (ps_put (pv 0) (pv 1)), ?_⟩
      refine ⟨_, rfl, _, rfl, a, C, _, _, _, _, rfl, T, t0, .inl ⟨ea, fun dx d1 d2 => ?_⟩⟩
      exact k dx _ d1 d2 upd_same (by rw [upd_ne d2]; exact upd_same) (fun b b1 b2 => by rw [upd_ne b1, upd_ne b2])
theorem kp_i8 (F : Fun K "__init__" "NoTable.__init__" (ini 11) f fd) : KBn K fd ["self", "table"] 2 [] gS gS := kbS F fun _ _ _ _ _ _ us ws h1 h2 => match us, ws, h1, h2 with | [_, _], [], _, _ => rfl
theorem kn_i8 (F : Fun K "__init__" "NoTable.__init__" (ini 11) f fd) : KBn K fd ["self", "table"] 1 ["table"] gS gS := kbS F fun _ _ _ _ _ _ us ws h1 h2 => match us, ws, h1, h2 with | [_], [_], _, _ => rfl
theorem scI10 : FnScope ["self", "table", "step", "other", "what"] ["self", "table", "step", "other", "what"] (defScope (ini 14)) := ⟨rfl, rfl, rfl, by decide +kernel, rfl, by decide +kernel, by decide +kernel⟩
theorem ok_i10 (F : Fun K "__init__" "Clash.__init__" (ini 14) f fd) (T : Cl K C B n i bm) (t0 : PySem.W.takerIn K C "table" = some none) (t1 : PySem.W.takerIn K C "step" = some none) (t2 : PySem.W.takerIn K C "other" = some none) (t3 : PySem.W.takerIn K C "what" = some none) : FnOk P w K mg base CX0 1 f fd ["self", "table", "step", "other", "what"] (spIn C 4 (mkOf 10)) := by
  refine F.ok scI10 (fun vs H Q E h => ?_) (fun cdv A outer s H vs Q E hr h => ?_)
  · obtain ⟨a, xs, rfl, hl, _⟩ := h
    show xs.length + 1 = _
    rw [hl]
    rfl
  · obtain ⟨a, xs, rfl, hl, ea, k⟩ := h
    match xs, hl with
    | [x0, x1, x2, x3], _ =>
      refine ⟨_, pss_cons (ps_put (pv 0) (pv 1)) (pss_cons (ps_put (pv 0) (pv 2)) (pss_cons (ps_put (pv 0) (pv 3)) (pss_one (ps_put (pv 0) (pv 4))))), ?_⟩
      refine ⟨_, rfl, _, rfl, a, C, _, _, _, _, rfl, T, t0, .inl ⟨ea, fun dx d1 d2 => ?_⟩⟩
      have ea1 := (show (upd (upd H dx (exd dx [("table", x0)])) a (exo a C (some dx))) a = some (exo a C (some dx)) from upd_same)
      have ed1 : (upd (upd H dx (exd dx [("table", x0)])) a (exo a C (some dx))) dx = some (exd dx [("table", x0)]) := by rw [upd_ne d2]; exact upd_same
      refine ⟨_, rfl, _, rfl, a, C, _, _, _, _, rfl, T, t1, .inr ⟨dx, _, ea1, ed1, by simp, ?_⟩⟩
      have ea2 := (show (upd (upd (upd H dx (exd dx [("table", x0)])) a (exo a C (some dx))) dx (exd dx [("step", x1), ("table", x0)])) a = some (exo a C (some dx)) from by rw [upd_ne d2.symm]; exact ea1)
      have ed2 : (upd (upd (upd H dx (exd dx [("table", x0)])) a (exo a C (some dx))) dx (exd dx [("step", x1), ("table", x0)])) dx = some (exd dx [("step", x1), ("table", x0)]) := upd_same
      refine ⟨_, rfl, _, rfl, a, C, _, _, _, _, rfl, T, t2, .inr ⟨dx, _, ea2, ed2, by simp, ?_⟩⟩
      have ea3 := (show (upd (upd (upd (upd H dx (exd dx [("table", x0)])) a (exo a C (some dx))) dx (exd dx [("step", x1), ("table", x0)])) dx (exd dx [("other", x2), ("step", x1), ("table", x0)])) a = some (exo a C (some dx)) from by rw [upd_ne d2.symm]; exact ea2)
      have ed3 : (upd (upd (upd (upd H dx (exd dx [("table", x0)])) a (exo a C (some dx))) dx (exd dx [("step", x1), ("table", x0)])) dx (exd dx [("other", x2), ("step", x1), ("table", x0)])) dx = some (exd dx [("other", x2), ("step", x1), ("table", x0)]) := upd_same
      refine ⟨_, rfl, _, rfl, a, C, _, _, _, _, rfl, T, t3, .inr ⟨dx, _, ea3, ed3, by simp, ?_⟩⟩
      exact k dx _ d1 d2 (by rw [upd_ne d2.symm]; exact ea3) upd_same (fun b b1 b2 => by rw [upd_ne b2, upd_ne b2, upd_ne b2, upd_ne b1, upd_ne b2])
theorem kp_i10 (F : Fun K "__init__" "Clash.__init__" (ini 14) f fd) : KBn K fd ["self", "table", "step", "other", "what"] 5 [] gS gS := kbS F fun _ _ _ _ _ _ us ws h1 h2 => match us, ws, h1, h2 with | [_, _, _, _, _], [], _, _ => rfl
theorem kn_i10 (F : Fun K "__init__" "Clash.__init__" (ini 14) f fd) : KBn K fd ["self", "table", "step", "other", "what"] 1 ["what", "other", "step", "table"] gR gR := kbR F fun _ _ _ _ _ _ us ws h1 h2 => match us, ws, h1, h2 with | [_], [_, _, _, _], _, _ => rfl
theorem ks_i10 (F : Fun K "__init__" "Clash.__init__" (ini 14) f fd) : KBn K fd ["self", "table", "step", "other", "what"] 3 ["other", "what"] gS gS := kbS F fun _ _ _ _ _ _ us ws h1 h2 => match us, ws, h1, h2 with | [_, _, _], [_, _], _, _ => rfl
end
/-! ### the classes -/
def kinOf (i : Nat) : Nat := (if 2 < i then 1 else 0) + (if 9 < i then 1 else 0)
def bn : Nat → String
  | 0 => "ValueError"
  | 1 => "LookupError"
  | _ => "RuntimeError"
structure Tab (K : PySem.W.Frag) (mg : Str → Option Value) (c fm : Nat → Addr) : Prop where
  g0 : mg "NoFit" = some (.ref (c 0))
  g1 : mg "NoText" = some (.ref (c 1))
  g2 : mg "NoLine" = some (.ref (c 2))
  g3 : mg "NoRow" = some (.ref (c 3))
  g4 : mg "NoCell" = some (.ref (c 4))
  g5 : mg "NoOrder" = some (.ref (c 5))
  g6 : mg "NoThing" = some (.ref (c 6))
  g7 : mg "NoSource" = some (.ref (c 7))
  g8 : mg "NoTable" = some (.ref (c 8))
  g9 : mg "NoDeed" = some (.ref (c 9))
  g10 : mg "Clash" = some (.ref (c 10))
  h0 : mg "NotSuch" = some (.ref (fm 0))
  h1 : mg "Lost" = some (.ref (fm 1))
  h2 : mg "Shut" = some (.ref (fm 2))
  isi : mg "isinstance" = none
  b0 : mg "ValueError" = none
  b1 : mg "LookupError" = none
  b2 : mg "RuntimeError" = none
  cl : ∀ i, i < 11 → ∃ B n t bm, Cl K (c i) B n t bm
  as : ∀ i, i < 11 → As K (c i)
  kit : ∀ i j, i < 11 → j < 11 → PySem.W.kitOne K (.ref (c i)) (.ref (c j)) = some (decide (i = j))
  fam : ∀ i j, i < 11 → j < 3 → PySem.W.kitOne K (.ref (c i)) (.ref (fm j)) = some (decide (j = kinOf i))
  bse : ∀ i j, i < 11 → j < 3 → PySem.W.kitOne K (.ref (c i)) (.type (bn j)) = some (decide (j = kinOf i))
  no : ∀ i, i < 11 → ∀ f ∈ fld i, PySem.W.findIn K (.ref (c i)) f = some none
structure Ms (P : Program) (w : World) (K : PySem.W.Frag) (mg : Str → Option Value) (c fI : Nat → Addr) (fd : Nat → FuncData) : Prop where
  at_ : ∀ i, i < 11 → i ≠ 9 → Ini K (c i) (fI i)
  ok : ∀ i, i < 11 → i ≠ 9 → ∀ base : Heap, FnOk P w K mg base CX0 1 (fI i) (fd i) ("self" :: fld i) (spIn (c i) (fld i).length (mkOf i))
  pl : ∀ i, i < 11 → i ≠ 9 → KBn K (fd i) ("self" :: fld i) ((fld i).length + 1) [] gS gS
  nm : ∀ i, i < 11 → i ≠ 9 → i ≠ 4 → i ≠ 10 → KBn K (fd i) ("self" :: fld i) 1 (fld i) gS gS
  n4 : KBn K (fd 4) ("self" :: fld 4) 1 ["column", "number"] gR gR
  n10 : KBn K (fd 10) ("self" :: fld 10) 1 ["what", "other", "step", "table"] gR gR
  s4 : KBn K (fd 4) ("self" :: fld 4) 2 ["column"] gS gS
  s10 : KBn K (fd 10) ("self" :: fld 10) 3 ["other", "what"] gS gS
  nd : PySem.W.excIn K (c 9) [.type "LookupError", .type "Exception", .type "BaseException", .type "object"] "LookupError.__new__" = true
  nk : PySem.W.keepIn K (.ref (c 9)) = true
theorem exSame {H H' : Hp} {a C : Addr} {fs : List (Str × V)} (e : Ex H a C fs) (s : Same H H') : Ex H' a C fs := by
  cases e with
  | inl e => exact .inl ⟨e.1, s _ _ e.2⟩
  | inr e =>
    obtain ⟨dx, e1, e2⟩ := e
    exact .inr ⟨dx, s _ _ e1, s _ _ e2⟩
theorem exThere {H : Hp} {a C : Addr} {fs : List (Str × V)} (e : Ex H a C fs) : ∃ o, H a = some o := by
  cases e with
  | inl e => exact ⟨_, e.2⟩
  | inr e => exact e.elim fun dx e => ⟨_, e.1⟩
theorem mk_use {H : Hp} {a C : Addr} {n : Nat} {mk : List V → List (Str × V)} {l xs : List V} {Q : VK} (el : l = .ref a :: xs) (hl : xs.length = n) (ha : H a = none) (k : ∀ H', Same H H' → Ex H' a C (mk xs) → Q .non H') :
    spIn C n mk l (upd H a (exo a C none)) Q E0 := by
  refine ⟨a, xs, el, hl, upd_same, fun dx H' n1 n2 e1 e2 keep => k H' ?_ (.inr ⟨dx, e1, e2⟩)⟩
  intro b o e
  have nb : b ≠ a := ne_of_none e ha
  have nd : b ≠ dx := by
    intro z
    rw [z] at e
    rw [upd_ne n2, e] at n1
    cases n1
  rw [keep b nb nd, upd_ne nb]
  exact e
end K47
set_option Elab.async false
set_option linter.all false
set_option maxRecDepth 100000
set_option maxHeartbeats 4000000
namespace K47
open PySem PySem.Spec PyProof.Rows L2 Bs Xg Xc
abbrev sCls : Stmt := top 20
abbrev sFam : Stmt := top 21
theorem back {H H' : Hp} {p : Addr} (s : Same H H') (h : H' p = none) : H p = none := by
  cases q : H p with
  | none => rfl
  | some u =>
    have y := s _ _ q
    rw [h] at y
    cases y
section
variable {P : Program} {w : World} {K : PySem.W.Frag} {mg : Str → Option Value} {base : Heap} {c fm : Nat → Addr}
def spAsk (c : Nat → Addr) (m : Nat) (g : Nat → Nat → Bool) : Sp := fun vs H Q _ => ∃ (a : Addr) (i : Nat) (fs : List (Str × V)), vs = [.ref a] ∧ i < 11 ∧ Ex H a (c i) fs ∧
  ∀ (p : Addr) (H' : Hp), H p = none → Same H H' → H' p = some (.lst ((List.range m).map fun j => V.bl (g i j))) → Q (.ref p) H'
theorem scC : FnScope ["_law_e", "_law_own"] ["_law_e"] (defScope sCls) := ⟨rfl, rfl, rfl, by decide +kernel, rfl, by decide +kernel, by decide +kernel⟩
theorem scM : FnScope ["_law_e", "_law_own"] ["_law_e"] (defScope sFam) := ⟨rfl, rfl, rfl, by decide +kernel, rfl, by decide +kernel, by decide +kernel⟩
theorem ok_cls {f : Addr} {fd : FuncData} (F : Fun K "_law_classes" "_law_classes" sCls f fd) (T : Tab K mg c fm) : FnOk P w K mg base CX0 1 f fd ["_law_e"] (spAsk c 11 (fun i j => decide (i = j))) := by
  refine F.ok scC (fun vs H Q E h => ?_) (fun cdv A outer s H vs Q E hr h => ?_)
  · obtain ⟨a, i, fs, rfl, _⟩ := h
    rfl
  · obtain ⟨a, i, fs, rfl, hi, ex, k⟩ := h
    have cl := T.cl i hi
    have as := T.as i hi
    refine ⟨_, pss_cons (ps_set (i := 1) scC.nd rfl (Or.inl rfl) (pe_lst (pa_cons (pe_callB call_isX (by rfl) T.isi (by decide +kernel) (pa_cons (pv 0) (pa_cons (pe_glob (v := V.ref (c 0)) rfl T.g0 rfl) pa_nil))) (pa_cons (pe_callB call_isX (by rfl) T.isi (by decide +kernel) (pa_cons (pv 0) (pa_cons (pe_glob (v := V.ref (c 1)) rfl T.g1 rfl) pa_nil))) (pa_cons (pe_callB call_isX (by rfl) T.isi (by decide +kernel) (pa_cons (pv 0) (pa_cons (pe_glob (v := V.ref (c 2)) rfl T.g2 rfl) pa_nil))) (pa_cons (pe_callB call_isX (by rfl) T.isi (by decide +kernel) (pa_cons (pv 0) (pa_cons (pe_glob (v := V.ref (c 3)) rfl T.g3 rfl) pa_nil))) pa_nil)))))) (pss_cons (ps_set (i := 1) scC.nd rfl (Or.inl rfl) (pe_op op_cat (pv 1) (pe_lst (pa_cons (pe_callB call_isX (by rfl) T.isi (by decide +kernel) (pa_cons (pv 0) (pa_cons (pe_glob (v := V.ref (c 4)) rfl T.g4 rfl) pa_nil))) (pa_cons (pe_callB call_isX (by rfl) T.isi (by decide +kernel) (pa_cons (pv 0) (pa_cons (pe_glob (v := V.ref (c 5)) rfl T.g5 rfl) pa_nil))) (pa_cons (pe_callB call_isX (by rfl) T.isi (by decide +kernel) (pa_cons (pv 0) (pa_cons (pe_glob (v := V.ref (c 6)) rfl T.g6 rfl) pa_nil))) (pa_cons (pe_callB call_isX (by rfl) T.isi (by decide +kernel) (pa_cons (pv 0) (pa_cons (pe_glob (v := V.ref (c 7)) rfl T.g7 rfl) pa_nil))) pa_nil))))))) (pss_one (ps_ret (pe_op op_cat (pv 1) (pe_lst (pa_cons (pe_callB call_isX (by rfl) T.isi (by decide +kernel) (pa_cons (pv 0) (pa_cons (pe_glob (v := V.ref (c 8)) rfl T.g8 rfl) pa_nil))) (pa_cons (pe_callB call_isX (by rfl) T.isi (by decide +kernel) (pa_cons (pv 0) (pa_cons (pe_glob (v := V.ref (c 9)) rfl T.g9 rfl) pa_nil))) (pa_cons (pe_callB call_isX (by rfl) T.isi (by decide +kernel) (pa_cons (pv 0) (pa_cons (pe_glob (v := V.ref (c 10)) rfl T.g10 rfl) pa_nil))) pa_nil)))))))), ?_⟩
    refine ⟨_, rfl, a, c i, fs, _, _, _, rfl, ex, cl, as, .own _, T.kit i 0 hi (by decide), _, rfl, a, c i, fs, _, _, _, rfl, ex, cl, as, .own _, T.kit i 1 hi (by decide), _, rfl, a, c i, fs, _, _, _, rfl, ex, cl, as, .own _, T.kit i 2 hi (by decide), _, rfl, a, c i, fs, _, _, _, rfl, ex, cl, as, .own _, T.kit i 3 hi (by decide), (by show 4 ≤ sizeLine; decide), fun p0 h0 => ?_⟩
    refine gN ?_
    dsimp only
    have s0 := Same.new (o := .lst [.bl (decide (i = 0)), .bl (decide (i = 1)), .bl (decide (i = 2)), .bl (decide (i = 3))]) h0
    have e0 : upd H p0 (.lst [.bl (decide (i = 0)), .bl (decide (i = 1)), .bl (decide (i = 2)), .bl (decide (i = 3))]) p0 = some (.lst [.bl (decide (i = 0)), .bl (decide (i = 1)), .bl (decide (i = 2)), .bl (decide (i = 3))]) := upd_same
    generalize upd H p0 (.lst [.bl (decide (i = 0)), .bl (decide (i = 1)), .bl (decide (i = 2)), .bl (decide (i = 3))]) = H0 at s0 e0 ⊢
    have x0 := exSame ex s0
    refine ⟨_, rfl, _, rfl, a, c i, fs, _, _, _, rfl, x0, cl, as, .own _, T.kit i 4 hi (by decide), _, rfl, a, c i, fs, _, _, _, rfl, x0, cl, as, .own _, T.kit i 5 hi (by decide), _, rfl, a, c i, fs, _, _, _, rfl, x0, cl, as, .own _, T.kit i 6 hi (by decide), _, rfl, a, c i, fs, _, _, _, rfl, x0, cl, as, .own _, T.kit i 7 hi (by decide), (by show 4 ≤ sizeLine; decide), fun q1 i1 => ?_⟩
    have t1 := Same.new (o := .lst [.bl (decide (i = 4)), .bl (decide (i = 5)), .bl (decide (i = 6)), .bl (decide (i = 7))]) i1
    have f1 : upd H0 q1 (.lst [.bl (decide (i = 4)), .bl (decide (i = 5)), .bl (decide (i = 6)), .bl (decide (i = 7))]) q1 = some (.lst [.bl (decide (i = 4)), .bl (decide (i = 5)), .bl (decide (i = 6)), .bl (decide (i = 7))]) := upd_same
    generalize upd H0 q1 (.lst [.bl (decide (i = 4)), .bl (decide (i = 5)), .bl (decide (i = 6)), .bl (decide (i = 7))]) = G1 at t1 f1 ⊢
    refine ⟨p0, q1, _, _, rfl, rfl, t1 _ _ e0, f1, (by show 4 + 4 ≤ sizeLine; decide), fun p1 h1 => ?_⟩
    refine gN ?_
    dsimp only
    rw [show ([.bl (decide (i = 0)), .bl (decide (i = 1)), .bl (decide (i = 2)), .bl (decide (i = 3))] : List V) ++ [.bl (decide (i = 4)), .bl (decide (i = 5)), .bl (decide (i = 6)), .bl (decide (i = 7))] = [.bl (decide (i = 0)), .bl (decide (i = 1)), .bl (decide (i = 2)), .bl (decide (i = 3)), .bl (decide (i = 4)), .bl (decide (i = 5)), .bl (decide (i = 6)), .bl (decide (i = 7))] from rfl]
    have s1 := Same.new (o := .lst [.bl (decide (i = 0)), .bl (decide (i = 1)), .bl (decide (i = 2)), .bl (decide (i = 3)), .bl (decide (i = 4)), .bl (decide (i = 5)), .bl (decide (i = 6)), .bl (decide (i = 7))]) h1
    have e1 : upd G1 p1 (.lst [.bl (decide (i = 0)), .bl (decide (i = 1)), .bl (decide (i = 2)), .bl (decide (i = 3)), .bl (decide (i = 4)), .bl (decide (i = 5)), .bl (decide (i = 6)), .bl (decide (i = 7))]) p1 = some (.lst [.bl (decide (i = 0)), .bl (decide (i = 1)), .bl (decide (i = 2)), .bl (decide (i = 3)), .bl (decide (i = 4)), .bl (decide (i = 5)), .bl (decide (i = 6)), .bl (decide (i = 7))]) := upd_same
    generalize upd G1 p1 (.lst [.bl (decide (i = 0)), .bl (decide (i = 1)), .bl (decide (i = 2)), .bl (decide (i = 3)), .bl (decide (i = 4)), .bl (decide (i = 5)), .bl (decide (i = 6)), .bl (decide (i = 7))]) = H1 at s1 e1 ⊢
    have x1 := exSame (exSame x0 t1) s1
    refine ⟨_, rfl, _, rfl, a, c i, fs, _, _, _, rfl, x1, cl, as, .own _, T.kit i 8 hi (by decide), _, rfl, a, c i, fs, _, _, _, rfl, x1, cl, as, .own _, T.kit i 9 hi (by decide), _, rfl, a, c i, fs, _, _, _, rfl, x1, cl, as, .own _, T.kit i 10 hi (by decide), (by show 3 ≤ sizeLine; decide), fun q2 i2 => ?_⟩
    have t2 := Same.new (o := .lst [.bl (decide (i = 8)), .bl (decide (i = 9)), .bl (decide (i = 10))]) i2
    have f2 : upd H1 q2 (.lst [.bl (decide (i = 8)), .bl (decide (i = 9)), .bl (decide (i = 10))]) q2 = some (.lst [.bl (decide (i = 8)), .bl (decide (i = 9)), .bl (decide (i = 10))]) := upd_same
    generalize upd H1 q2 (.lst [.bl (decide (i = 8)), .bl (decide (i = 9)), .bl (decide (i = 10))]) = G2 at t2 f2 ⊢
    refine ⟨p1, q2, _, _, rfl, rfl, t2 _ _ e1, f2, (by show 8 + 3 ≤ sizeLine; decide), fun p2 h2 => ?_⟩
    rw [show ([.bl (decide (i = 0)), .bl (decide (i = 1)), .bl (decide (i = 2)), .bl (decide (i = 3)), .bl (decide (i = 4)), .bl (decide (i = 5)), .bl (decide (i = 6)), .bl (decide (i = 7))] : List V) ++ [.bl (decide (i = 8)), .bl (decide (i = 9)), .bl (decide (i = 10))] = [.bl (decide (i = 0)), .bl (decide (i = 1)), .bl (decide (i = 2)), .bl (decide (i = 3)), .bl (decide (i = 4)), .bl (decide (i = 5)), .bl (decide (i = 6)), .bl (decide (i = 7)), .bl (decide (i = 8)), .bl (decide (i = 9)), .bl (decide (i = 10))] from rfl]
    have s2 := Same.new (o := .lst [.bl (decide (i = 0)), .bl (decide (i = 1)), .bl (decide (i = 2)), .bl (decide (i = 3)), .bl (decide (i = 4)), .bl (decide (i = 5)), .bl (decide (i = 6)), .bl (decide (i = 7)), .bl (decide (i = 8)), .bl (decide (i = 9)), .bl (decide (i = 10))]) h2
    have e2 : upd G2 p2 (.lst [.bl (decide (i = 0)), .bl (decide (i = 1)), .bl (decide (i = 2)), .bl (decide (i = 3)), .bl (decide (i = 4)), .bl (decide (i = 5)), .bl (decide (i = 6)), .bl (decide (i = 7)), .bl (decide (i = 8)), .bl (decide (i = 9)), .bl (decide (i = 10))]) p2 = some (.lst [.bl (decide (i = 0)), .bl (decide (i = 1)), .bl (decide (i = 2)), .bl (decide (i = 3)), .bl (decide (i = 4)), .bl (decide (i = 5)), .bl (decide (i = 6)), .bl (decide (i = 7)), .bl (decide (i = 8)), .bl (decide (i = 9)), .bl (decide (i = 10))]) := upd_same
    generalize upd G2 p2 (.lst [.bl (decide (i = 0)), .bl (decide (i = 1)), .bl (decide (i = 2)), .bl (decide (i = 3)), .bl (decide (i = 4)), .bl (decide (i = 5)), .bl (decide (i = 6)), .bl (decide (i = 7)), .bl (decide (i = 8)), .bl (decide (i = 9)), .bl (decide (i = 10))]) = H2 at s2 e2 ⊢
    have x2 := exSame (exSame x1 t2) s2
    have y1 : Same H G1 := fun b u e => t1 b u (s0 b u e)
    have z1 : Same H H1 := fun b u e => s1 b u (y1 b u e)
    have y2 : Same H G2 := fun b u e => t2 b u (z1 b u e)
    have z2 : Same H H2 := fun b u e => s2 b u (y2 b u e)
    exact k p2 _ (back y2 h2) z2 e2
theorem ok_fam {f : Addr} {fd : FuncData} (F : Fun K "_law_families" "_law_families" sFam f fd) (T : Tab K mg c fm) : FnOk P w K mg base CX0 1 f fd ["_law_e"] (spAsk c 6 (fun i j => decide (j % 3 = kinOf i))) := by
  refine F.ok scM (fun vs H Q E h => ?_) (fun cdv A outer s H vs Q E hr h => ?_)
  · obtain ⟨a, i, fs, rfl, _⟩ := h
    rfl
  · obtain ⟨a, i, fs, rfl, hi, ex, k⟩ := h
    have cl := T.cl i hi
    have as := T.as i hi
    refine ⟨_, pss_cons (ps_set (i := 1) scM.nd rfl (Or.inl rfl) (pe_lst (pa_cons (pe_callB call_isX (by rfl) T.isi (by decide +kernel) (pa_cons (pv 0) (pa_cons (pe_glob (v := V.ref (fm 0)) rfl T.h0 rfl) pa_nil))) (pa_cons (pe_callB call_isX (by rfl) T.isi (by decide +kernel) (pa_cons (pv 0) (pa_cons (pe_glob (v := V.ref (fm 1)) rfl T.h1 rfl) pa_nil))) (pa_cons (pe_callB call_isX (by rfl) T.isi (by decide +kernel) (pa_cons (pv 0) (pa_cons (pe_glob (v := V.ref (fm 2)) rfl T.h2 rfl) pa_nil))) pa_nil))))) (pss_one (ps_ret (pe_op op_cat (pv 1) (pe_lst (pa_cons (pe_callB call_isX (by rfl) T.isi (by decide +kernel) (pa_cons (pv 0) (pa_cons (pe_bltn rfl T.b0 (v := V.ty "ValueError") (by decide +kernel) rfl) pa_nil))) (pa_cons (pe_callB call_isX (by rfl) T.isi (by decide +kernel) (pa_cons (pv 0) (pa_cons (pe_bltn rfl T.b1 (v := V.ty "LookupError") (by decide +kernel) rfl) pa_nil))) (pa_cons (pe_callB call_isX (by rfl) T.isi (by decide +kernel) (pa_cons (pv 0) (pa_cons (pe_bltn rfl T.b2 (v := V.ty "RuntimeError") (by decide +kernel) rfl) pa_nil))) pa_nil))))))), ?_⟩
    refine ⟨_, rfl, a, c i, fs, _, _, _, rfl, ex, cl, as, .own _, T.fam i 0 hi (by decide), _, rfl, a, c i, fs, _, _, _, rfl, ex, cl, as, .own _, T.fam i 1 hi (by decide), _, rfl, a, c i, fs, _, _, _, rfl, ex, cl, as, .own _, T.fam i 2 hi (by decide), (by show 3 ≤ sizeLine; decide), fun p0 h0 => ?_⟩
    refine gN ?_
    dsimp only
    have s0 := Same.new (o := .lst [.bl (decide (0 = kinOf i)), .bl (decide (1 = kinOf i)), .bl (decide (2 = kinOf i))]) h0
    have e0 : upd H p0 (.lst [.bl (decide (0 = kinOf i)), .bl (decide (1 = kinOf i)), .bl (decide (2 = kinOf i))]) p0 = some (.lst [.bl (decide (0 = kinOf i)), .bl (decide (1 = kinOf i)), .bl (decide (2 = kinOf i))]) := upd_same
    generalize upd H p0 (.lst [.bl (decide (0 = kinOf i)), .bl (decide (1 = kinOf i)), .bl (decide (2 = kinOf i))]) = H0 at s0 e0 ⊢
    have x0 := exSame ex s0
    refine ⟨_, rfl, _, rfl, a, c i, fs, _, _, _, rfl, x0, cl, as, .ty _, T.bse i 0 hi (by decide), _, rfl, a, c i, fs, _, _, _, rfl, x0, cl, as, .ty _, T.bse i 1 hi (by decide), _, rfl, a, c i, fs, _, _, _, rfl, x0, cl, as, .ty _, T.bse i 2 hi (by decide), (by show 3 ≤ sizeLine; decide), fun q1 i1 => ?_⟩
    have t1 := Same.new (o := .lst [.bl (decide (0 = kinOf i)), .bl (decide (1 = kinOf i)), .bl (decide (2 = kinOf i))]) i1
    have f1 : upd H0 q1 (.lst [.bl (decide (0 = kinOf i)), .bl (decide (1 = kinOf i)), .bl (decide (2 = kinOf i))]) q1 = some (.lst [.bl (decide (0 = kinOf i)), .bl (decide (1 = kinOf i)), .bl (decide (2 = kinOf i))]) := upd_same
    generalize upd H0 q1 (.lst [.bl (decide (0 = kinOf i)), .bl (decide (1 = kinOf i)), .bl (decide (2 = kinOf i))]) = G1 at t1 f1 ⊢
    refine ⟨p0, q1, _, _, rfl, rfl, t1 _ _ e0, f1, (by show 3 + 3 ≤ sizeLine; decide), fun p1 h1 => ?_⟩
    rw [show ([.bl (decide (0 = kinOf i)), .bl (decide (1 = kinOf i)), .bl (decide (2 = kinOf i))] : List V) ++ [.bl (decide (0 = kinOf i)), .bl (decide (1 = kinOf i)), .bl (decide (2 = kinOf i))] = [.bl (decide (0 = kinOf i)), .bl (decide (1 = kinOf i)), .bl (decide (2 = kinOf i)), .bl (decide (0 = kinOf i)), .bl (decide (1 = kinOf i)), .bl (decide (2 = kinOf i))] from rfl]
    have s1 := Same.new (o := .lst [.bl (decide (0 = kinOf i)), .bl (decide (1 = kinOf i)), .bl (decide (2 = kinOf i)), .bl (decide (0 = kinOf i)), .bl (decide (1 = kinOf i)), .bl (decide (2 = kinOf i))]) h1
    have e1 : upd G1 p1 (.lst [.bl (decide (0 = kinOf i)), .bl (decide (1 = kinOf i)), .bl (decide (2 = kinOf i)), .bl (decide (0 = kinOf i)), .bl (decide (1 = kinOf i)), .bl (decide (2 = kinOf i))]) p1 = some (.lst [.bl (decide (0 = kinOf i)), .bl (decide (1 = kinOf i)), .bl (decide (2 = kinOf i)), .bl (decide (0 = kinOf i)), .bl (decide (1 = kinOf i)), .bl (decide (2 = kinOf i))]) := upd_same
    generalize upd G1 p1 (.lst [.bl (decide (0 = kinOf i)), .bl (decide (1 = kinOf i)), .bl (decide (2 = kinOf i)), .bl (decide (0 = kinOf i)), .bl (decide (1 = kinOf i)), .bl (decide (2 = kinOf i))]) = H1 at s1 e1 ⊢
    have x1 := exSame (exSame x0 t1) s1
    have y1 : Same H G1 := fun b u e => t1 b u (s0 b u e)
    have z1 : Same H H1 := fun b u e => s1 b u (y1 b u e)
    exact k p1 _ (back y1 h1) z1 e1
end
end K47
set_option Elab.async false
set_option linter.all false
set_option maxRecDepth 100000
set_option maxHeartbeats 4000000
namespace K47
open PySem PySem.Spec PyProof.Rows L2 Bs Xg Xc
abbrev sPl : Stmt := top 22
abbrev sNm : Stmt := top 23
abbrev sVal : Stmt := top 24
def valsOf (i : Nat) (x z : V) : List V := match i with
  | 4 => [x, z]
  | 9 => []
  | 10 => [x, z, z, x]
  | _ => [x]
def Made (H : Hp) (p : Addr) (c : Nat → Addr) (x z : V) : Prop := ∃ as : List Addr, as.length = 11 ∧ H p = some (.lst (as.map V.ref)) ∧ ∀ i a, as[i]? = some a → Ex H a (c i) (mkOf i (valsOf i x z))
theorem Made.same {H H' : Hp} {p : Addr} {c : Nat → Addr} {x z : V} (m : Made H p c x z) (s : Same H H') : Made H' p c x z := by
  obtain ⟨as, l, e, k⟩ := m
  exact ⟨as, l, s _ _ e, fun i a h => exSame (k i a h) s⟩
section
variable {P : Program} {w : World} {K : PySem.W.Frag} {mg : Str → Option Value} {base : Heap} {c fm fI : Nat → Addr} {fdI : Nat → FuncData}
def spBy (c : Nat → Addr) : Sp := fun vs H Q _ => ∃ x z : V, vs = [x, z] ∧ ∀ (p : Addr) (H' : Hp), H p = none → Same H H' → Made H' p c x z → Q (.ref p) H'
theorem scL : FnScope ["_law_x", "_law_z", "_law_such"] ["_law_x", "_law_z"] (defScope sPl) := ⟨rfl, rfl, rfl, by decide +kernel, rfl, by decide +kernel, by decide +kernel⟩
theorem scN : FnScope ["_law_x", "_law_z", "_law_such"] ["_law_x", "_law_z"] (defScope sNm) := ⟨rfl, rfl, rfl, by decide +kernel, rfl, by decide +kernel, by decide +kernel⟩
theorem ok_pl {f : Addr} {fd : FuncData} (F : Fun K "_law_by_places" "_law_by_places" sPl f fd) (T : Tab K mg c fm) (M : Ms P w K mg c fI fdI) : FnOk P w K mg base CX0 3 f fd ["_law_x", "_law_z"] (spBy c) := by
  refine F.ok scL (fun vs H Q E h => ?_) (fun cdv A outer s H vs Q E hr h => ?_)
  · obtain ⟨x, z, rfl, _⟩ := h
    rfl
  · obtain ⟨x, z, rfl, k⟩ := h
    obtain ⟨_, _, _, _, T0⟩ := T.cl 0 (by decide)
    obtain ⟨_, _, _, _, T1⟩ := T.cl 1 (by decide)
    obtain ⟨_, _, _, _, T2⟩ := T.cl 2 (by decide)
    obtain ⟨_, _, _, _, T3⟩ := T.cl 3 (by decide)
    obtain ⟨_, _, _, _, T4⟩ := T.cl 4 (by decide)
    obtain ⟨_, _, _, _, T5⟩ := T.cl 5 (by decide)
    obtain ⟨_, _, _, _, T6⟩ := T.cl 6 (by decide)
    obtain ⟨_, _, _, _, T7⟩ := T.cl 7 (by decide)
    obtain ⟨_, _, _, _, T8⟩ := T.cl 8 (by decide)
    obtain ⟨_, _, _, _, T10⟩ := T.cl 10 (by decide)
    refine ⟨_, pss_cons (ps_set (i := 2) scL.nd rfl (Or.inl rfl) (pe_lst (pa_cons (pe_mkx (k := 1) T0 (M.at_ 0 (by decide) (by decide)) (M.ok 0 (by decide) (by decide) base) hr (M.pl 0 (by decide) (by decide)) (by decide) rfl T.g0 (pa_cons (pv 0) pa_nil) pk_nil) (pa_cons (pe_mkx (k := 1) T1 (M.at_ 1 (by decide) (by decide)) (M.ok 1 (by decide) (by decide) base) hr (M.pl 1 (by decide) (by decide)) (by decide) rfl T.g1 (pa_cons (pv 0) pa_nil) pk_nil) (pa_cons (pe_mkx (k := 1) T2 (M.at_ 2 (by decide) (by decide)) (M.ok 2 (by decide) (by decide) base) hr (M.pl 2 (by decide) (by decide)) (by decide) rfl T.g2 (pa_cons (pv 0) pa_nil) pk_nil) (pa_cons (pe_mkx (k := 1) T3 (M.at_ 3 (by decide) (by decide)) (M.ok 3 (by decide) (by decide) base) hr (M.pl 3 (by decide) (by decide)) (by decide) rfl T.g3 (pa_cons (pv 0) pa_nil) pk_nil) (pa_cons (pe_mkx (k := 1) T4 (M.at_ 4 (by decide) (by decide)) (M.ok 4 (by decide) (by decide) base) hr (M.pl 4 (by decide) (by decide)) (by decide) rfl T.g4 (pa_cons (pv 0) (pa_cons (pv 1) pa_nil)) pk_nil) (pa_cons (pe_mkx (k := 1) T5 (M.at_ 5 (by decide) (by decide)) (M.ok 5 (by decide) (by decide) base) hr (M.pl 5 (by decide) (by decide)) (by decide) rfl T.g5 (pa_cons (pv 0) pa_nil) pk_nil) (pa_cons (pe_mkx (k := 1) T6 (M.at_ 6 (by decide) (by decide)) (M.ok 6 (by decide) (by decide) base) hr (M.pl 6 (by decide) (by decide)) (by decide) rfl T.g6 (pa_cons (pv 0) pa_nil) pk_nil) (pa_cons (pe_mkx (k := 1) T7 (M.at_ 7 (by decide) (by decide)) (M.ok 7 (by decide) (by decide) base) hr (M.pl 7 (by decide) (by decide)) (by decide) rfl T.g7 (pa_cons (pv 0) pa_nil) pk_nil) (pa_cons (pe_mkx (k := 1) T8 (M.at_ 8 (by decide) (by decide)) (M.ok 8 (by decide) (by decide) base) hr (M.pl 8 (by decide) (by decide)) (by decide) rfl T.g8 (pa_cons (pv 0) pa_nil) pk_nil) pa_nil))))))))))) (pss_one (ps_ret (pe_op op_cat (pv 2) (pe_lst (pa_cons (pe_mk00 PySem.F.excBase_LookupError M.nd M.nk rfl T.g9) (pa_cons (pe_mkx (k := 1) T10 (M.at_ 10 (by decide) (by decide)) (M.ok 10 (by decide) (by decide) base) hr (M.pl 10 (by decide) (by decide)) (by decide) rfl T.g10 (pa_cons (pv 0) (pa_cons (pv 1) (pa_cons (pv 1) (pa_cons (pv 0) pa_nil)))) pk_nil) pa_nil)))))), ?_⟩
    refine ⟨_, rfl, rfl, rfl, fun a0 n0 => mk_use (xs := [x]) rfl rfl n0 fun G0 g0 x0 => ⟨rfl, ?_⟩⟩
    refine ⟨_, rfl, rfl, rfl, fun a1 n1 => mk_use (xs := [x]) rfl rfl n1 fun G1 g1 x1 => ⟨rfl, ?_⟩⟩
    refine ⟨_, rfl, rfl, rfl, fun a2 n2 => mk_use (xs := [x]) rfl rfl n2 fun G2 g2 x2 => ⟨rfl, ?_⟩⟩
    refine ⟨_, rfl, rfl, rfl, fun a3 n3 => mk_use (xs := [x]) rfl rfl n3 fun G3 g3 x3 => ⟨rfl, ?_⟩⟩
    refine ⟨_, rfl, _, rfl, rfl, rfl, fun a4 n4 => mk_use (xs := [x, z]) rfl rfl n4 fun G4 g4 x4 => ⟨rfl, ?_⟩⟩
    refine ⟨_, rfl, rfl, rfl, fun a5 n5 => mk_use (xs := [x]) rfl rfl n5 fun G5 g5 x5 => ⟨rfl, ?_⟩⟩
    refine ⟨_, rfl, rfl, rfl, fun a6 n6 => mk_use (xs := [x]) rfl rfl n6 fun G6 g6 x6 => ⟨rfl, ?_⟩⟩
    refine ⟨_, rfl, rfl, rfl, fun a7 n7 => mk_use (xs := [x]) rfl rfl n7 fun G7 g7 x7 => ⟨rfl, ?_⟩⟩
    refine ⟨_, rfl, rfl, rfl, fun a8 n8 => mk_use (xs := [x]) rfl rfl n8 fun G8 g8 x8 => ⟨rfl, ?_⟩⟩
    refine ⟨(by show 9 ≤ sizeLine; decide), fun q0 i0 => ?_⟩
    refine gN ?_
    dsimp only
    have sl0 := Same.new (o := .lst [.ref a0, .ref a1, .ref a2, .ref a3, .ref a4, .ref a5, .ref a6, .ref a7, .ref a8]) i0
    have el0 : upd G8 q0 (.lst [.ref a0, .ref a1, .ref a2, .ref a3, .ref a4, .ref a5, .ref a6, .ref a7, .ref a8]) q0 = some (.lst [.ref a0, .ref a1, .ref a2, .ref a3, .ref a4, .ref a5, .ref a6, .ref a7, .ref a8]) := upd_same
    generalize upd G8 q0 (.lst [.ref a0, .ref a1, .ref a2, .ref a3, .ref a4, .ref a5, .ref a6, .ref a7, .ref a8]) = Hl0 at sl0 el0 ⊢
    refine ⟨_, rfl, fun a9 n9 => ?_⟩
    have sd := Same.new (o := exo a9 (c 9) none) n9
    have ed : upd Hl0 a9 (exo a9 (c 9) none) a9 = some (exo a9 (c 9) none) := upd_same
    generalize upd Hl0 a9 (exo a9 (c 9) none) = Hd at sd ed ⊢
    refine ⟨_, rfl, _, rfl, _, rfl, _, rfl, rfl, rfl, fun a10 n10 => mk_use (xs := [x, z, z, x]) rfl rfl n10 fun G10 g10 x10 => ⟨rfl, ?_⟩⟩
    refine ⟨(by show 2 ≤ sizeLine; decide), fun q1 i1 => ?_⟩
    have st1 := Same.new (o := .lst [.ref a9, .ref a10]) i1
    have et1 : upd G10 q1 (.lst [.ref a9, .ref a10]) q1 = some (.lst [.ref a9, .ref a10]) := upd_same
    generalize upd G10 q1 (.lst [.ref a9, .ref a10]) = Ht1 at st1 et1 ⊢
    have w1 : Ht1 q0 = some (.lst [.ref a0, .ref a1, .ref a2, .ref a3, .ref a4, .ref a5, .ref a6, .ref a7, .ref a8]) := st1 _ _ (g10 _ _ (sd _ _ (el0)))
    refine ⟨q0, q1, _, _, rfl, rfl, w1, et1, (by show 9 + 2 ≤ sizeLine; decide), fun p1 h1 => ?_⟩
    rw [show ([.ref a0, .ref a1, .ref a2, .ref a3, .ref a4, .ref a5, .ref a6, .ref a7, .ref a8] : List V) ++ [.ref a9, .ref a10] = [.ref a0, .ref a1, .ref a2, .ref a3, .ref a4, .ref a5, .ref a6, .ref a7, .ref a8, .ref a9, .ref a10] from rfl]
    have nf : H p1 = none := back (fun _ _ e => st1 _ _ (g10 _ _ (sd _ _ (sl0 _ _ (g8 _ _ (g7 _ _ (g6 _ _ (g5 _ _ (g4 _ _ (g3 _ _ (g2 _ _ (g1 _ _ (g0 _ _ (e)))))))))))))) h1
    have sl1 := Same.new (o := .lst [.ref a0, .ref a1, .ref a2, .ref a3, .ref a4, .ref a5, .ref a6, .ref a7, .ref a8, .ref a9, .ref a10]) h1
    have el1 : upd Ht1 p1 (.lst [.ref a0, .ref a1, .ref a2, .ref a3, .ref a4, .ref a5, .ref a6, .ref a7, .ref a8, .ref a9, .ref a10]) p1 = some (.lst [.ref a0, .ref a1, .ref a2, .ref a3, .ref a4, .ref a5, .ref a6, .ref a7, .ref a8, .ref a9, .ref a10]) := upd_same
    generalize upd Ht1 p1 (.lst [.ref a0, .ref a1, .ref a2, .ref a3, .ref a4, .ref a5, .ref a6, .ref a7, .ref a8, .ref a9, .ref a10]) = Hl1 at sl1 el1 ⊢
    refine k p1 _ nf (fun _ _ e => sl1 _ _ (st1 _ _ (g10 _ _ (sd _ _ (sl0 _ _ (g8 _ _ (g7 _ _ (g6 _ _ (g5 _ _ (g4 _ _ (g3 _ _ (g2 _ _ (g1 _ _ (g0 _ _ (e))))))))))))))) ⟨[a0, a1, a2, a3, a4, a5, a6, a7, a8, a9, a10], rfl, el1, fun i a hi => ?_⟩
    match i, hi with
    | 0, hi => cases hi; exact exSame x0 (fun _ _ e => sl1 _ _ (st1 _ _ (g10 _ _ (sd _ _ (sl0 _ _ (g8 _ _ (g7 _ _ (g6 _ _ (g5 _ _ (g4 _ _ (g3 _ _ (g2 _ _ (g1 _ _ (e))))))))))))))
    | 1, hi => cases hi; exact exSame x1 (fun _ _ e => sl1 _ _ (st1 _ _ (g10 _ _ (sd _ _ (sl0 _ _ (g8 _ _ (g7 _ _ (g6 _ _ (g5 _ _ (g4 _ _ (g3 _ _ (g2 _ _ (e)))))))))))))
    | 2, hi => cases hi; exact exSame x2 (fun _ _ e => sl1 _ _ (st1 _ _ (g10 _ _ (sd _ _ (sl0 _ _ (g8 _ _ (g7 _ _ (g6 _ _ (g5 _ _ (g4 _ _ (g3 _ _ (e))))))))))))
    | 3, hi => cases hi; exact exSame x3 (fun _ _ e => sl1 _ _ (st1 _ _ (g10 _ _ (sd _ _ (sl0 _ _ (g8 _ _ (g7 _ _ (g6 _ _ (g5 _ _ (g4 _ _ (e)))))))))))
    | 4, hi => cases hi; exact exSame x4 (fun _ _ e => sl1 _ _ (st1 _ _ (g10 _ _ (sd _ _ (sl0 _ _ (g8 _ _ (g7 _ _ (g6 _ _ (g5 _ _ (e))))))))))
    | 5, hi => cases hi; exact exSame x5 (fun _ _ e => sl1 _ _ (st1 _ _ (g10 _ _ (sd _ _ (sl0 _ _ (g8 _ _ (g7 _ _ (g6 _ _ (e)))))))))
    | 6, hi => cases hi; exact exSame x6 (fun _ _ e => sl1 _ _ (st1 _ _ (g10 _ _ (sd _ _ (sl0 _ _ (g8 _ _ (g7 _ _ (e))))))))
    | 7, hi => cases hi; exact exSame x7 (fun _ _ e => sl1 _ _ (st1 _ _ (g10 _ _ (sd _ _ (sl0 _ _ (g8 _ _ (e)))))))
    | 8, hi => cases hi; exact exSame x8 (fun _ _ e => sl1 _ _ (st1 _ _ (g10 _ _ (sd _ _ (sl0 _ _ (e))))))
    | 9, hi => cases hi; exact exSame (show Ex Hd a9 (c 9) (mkOf 9 (valsOf 9 x z)) from .inl ⟨rfl, ed⟩) (fun _ _ e => sl1 _ _ (st1 _ _ (g10 _ _ (e))))
    | 10, hi => cases hi; exact exSame x10 (fun _ _ e => sl1 _ _ (st1 _ _ (e)))
    | n + 11, hi => exact nomatch hi
theorem ok_nm {f : Addr} {fd : FuncData} (F : Fun K "_law_by_names" "_law_by_names" sNm f fd) (T : Tab K mg c fm) (M : Ms P w K mg c fI fdI) : FnOk P w K mg base CX0 3 f fd ["_law_x", "_law_z"] (spBy c) := by
  refine F.ok scN (fun vs H Q E h => ?_) (fun cdv A outer s H vs Q E hr h => ?_)
  · obtain ⟨x, z, rfl, _⟩ := h
    rfl
  · obtain ⟨x, z, rfl, k⟩ := h
    obtain ⟨_, _, _, _, T0⟩ := T.cl 0 (by decide)
    obtain ⟨_, _, _, _, T1⟩ := T.cl 1 (by decide)
    obtain ⟨_, _, _, _, T2⟩ := T.cl 2 (by decide)
    obtain ⟨_, _, _, _, T3⟩ := T.cl 3 (by decide)
    obtain ⟨_, _, _, _, T4⟩ := T.cl 4 (by decide)
    obtain ⟨_, _, _, _, T5⟩ := T.cl 5 (by decide)
    obtain ⟨_, _, _, _, T6⟩ := T.cl 6 (by decide)
    obtain ⟨_, _, _, _, T7⟩ := T.cl 7 (by decide)
    obtain ⟨_, _, _, _, T8⟩ := T.cl 8 (by decide)
    obtain ⟨_, _, _, _, T10⟩ := T.cl 10 (by decide)
    refine ⟨_, pss_cons (ps_set (i := 2) scN.nd rfl (Or.inl rfl) (pe_lst (pa_cons (pe_mkx0 (k := 1) T0 (M.at_ 0 (by decide) (by decide)) (M.ok 0 (by decide) (by decide) base) hr (M.nm 0 (by decide) (by decide) (by decide) (by decide)) rfl T.g0 (pk_cons (pv 0) pk_nil)) (pa_cons (pe_mkx0 (k := 1) T1 (M.at_ 1 (by decide) (by decide)) (M.ok 1 (by decide) (by decide) base) hr (M.nm 1 (by decide) (by decide) (by decide) (by decide)) rfl T.g1 (pk_cons (pv 0) pk_nil)) (pa_cons (pe_mkx0 (k := 1) T2 (M.at_ 2 (by decide) (by decide)) (M.ok 2 (by decide) (by decide) base) hr (M.nm 2 (by decide) (by decide) (by decide) (by decide)) rfl T.g2 (pk_cons (pv 0) pk_nil)) (pa_cons (pe_mkx0 (k := 1) T3 (M.at_ 3 (by decide) (by decide)) (M.ok 3 (by decide) (by decide) base) hr (M.nm 3 (by decide) (by decide) (by decide) (by decide)) rfl T.g3 (pk_cons (pv 0) pk_nil)) (pa_cons (pe_mkx0 (k := 1) T4 (M.at_ 4 (by decide) (by decide)) (M.ok 4 (by decide) (by decide) base) hr M.n4 rfl T.g4 (pk_cons (pv 1) (pk_cons (pv 0) pk_nil))) (pa_cons (pe_mkx0 (k := 1) T5 (M.at_ 5 (by decide) (by decide)) (M.ok 5 (by decide) (by decide) base) hr (M.nm 5 (by decide) (by decide) (by decide) (by decide)) rfl T.g5 (pk_cons (pv 0) pk_nil)) pa_nil)))))))) (pss_cons (ps_set (i := 2) scN.nd rfl (Or.inl rfl) (pe_op op_cat (pv 2) (pe_lst (pa_cons (pe_mkx0 (k := 1) T6 (M.at_ 6 (by decide) (by decide)) (M.ok 6 (by decide) (by decide) base) hr (M.nm 6 (by decide) (by decide) (by decide) (by decide)) rfl T.g6 (pk_cons (pv 0) pk_nil)) (pa_cons (pe_mkx0 (k := 1) T7 (M.at_ 7 (by decide) (by decide)) (M.ok 7 (by decide) (by decide) base) hr (M.nm 7 (by decide) (by decide) (by decide) (by decide)) rfl T.g7 (pk_cons (pv 0) pk_nil)) (pa_cons (pe_mkx0 (k := 1) T8 (M.at_ 8 (by decide) (by decide)) (M.ok 8 (by decide) (by decide) base) hr (M.nm 8 (by decide) (by decide) (by decide) (by decide)) rfl T.g8 (pk_cons (pv 0) pk_nil)) (pa_cons (pe_mk00 PySem.F.excBase_LookupError M.nd M.nk rfl T.g9) pa_nil))))))) (pss_one (ps_ret (pe_op op_cat (pv 2) (pe_lst (pa_cons (pe_mkx0 (k := 1) T10 (M.at_ 10 (by decide) (by decide)) (M.ok 10 (by decide) (by decide) base) hr M.n10 rfl T.g10 (pk_cons (pv 0) (pk_cons (pv 1) (pk_cons (pv 1) (pk_cons (pv 0) pk_nil))))) pa_nil)))))), ?_⟩
    refine ⟨_, rfl, rfl, rfl, fun a0 n0 => mk_use (xs := [x]) rfl rfl n0 fun G0 g0 x0 => ⟨rfl, ?_⟩⟩
    refine ⟨_, rfl, rfl, rfl, fun a1 n1 => mk_use (xs := [x]) rfl rfl n1 fun G1 g1 x1 => ⟨rfl, ?_⟩⟩
    refine ⟨_, rfl, rfl, rfl, fun a2 n2 => mk_use (xs := [x]) rfl rfl n2 fun G2 g2 x2 => ⟨rfl, ?_⟩⟩
    refine ⟨_, rfl, rfl, rfl, fun a3 n3 => mk_use (xs := [x]) rfl rfl n3 fun G3 g3 x3 => ⟨rfl, ?_⟩⟩
    refine ⟨_, rfl, _, rfl, rfl, rfl, fun a4 n4 => mk_use (xs := [x, z]) rfl rfl n4 fun G4 g4 x4 => ⟨rfl, ?_⟩⟩
    refine ⟨_, rfl, rfl, rfl, fun a5 n5 => mk_use (xs := [x]) rfl rfl n5 fun G5 g5 x5 => ⟨rfl, ?_⟩⟩
    refine ⟨(by show 6 ≤ sizeLine; decide), fun q0 i0 => ?_⟩
    refine gN ?_
    dsimp only
    have sl0 := Same.new (o := .lst [.ref a0, .ref a1, .ref a2, .ref a3, .ref a4, .ref a5]) i0
    have el0 : upd G5 q0 (.lst [.ref a0, .ref a1, .ref a2, .ref a3, .ref a4, .ref a5]) q0 = some (.lst [.ref a0, .ref a1, .ref a2, .ref a3, .ref a4, .ref a5]) := upd_same
    generalize upd G5 q0 (.lst [.ref a0, .ref a1, .ref a2, .ref a3, .ref a4, .ref a5]) = Hl0 at sl0 el0 ⊢
    refine ⟨_, rfl, _, rfl, rfl, rfl, fun a6 n6 => mk_use (xs := [x]) rfl rfl n6 fun G6 g6 x6 => ⟨rfl, ?_⟩⟩
    refine ⟨_, rfl, rfl, rfl, fun a7 n7 => mk_use (xs := [x]) rfl rfl n7 fun G7 g7 x7 => ⟨rfl, ?_⟩⟩
    refine ⟨_, rfl, rfl, rfl, fun a8 n8 => mk_use (xs := [x]) rfl rfl n8 fun G8 g8 x8 => ⟨rfl, ?_⟩⟩
    refine fun a9 n9 => ?_
    have sd := Same.new (o := exo a9 (c 9) none) n9
    have ed : upd G8 a9 (exo a9 (c 9) none) a9 = some (exo a9 (c 9) none) := upd_same
    generalize upd G8 a9 (exo a9 (c 9) none) = Hd at sd ed ⊢
    refine ⟨(by show 4 ≤ sizeLine; decide), fun q1 i1 => ?_⟩
    have st1 := Same.new (o := .lst [.ref a6, .ref a7, .ref a8, .ref a9]) i1
    have et1 : upd Hd q1 (.lst [.ref a6, .ref a7, .ref a8, .ref a9]) q1 = some (.lst [.ref a6, .ref a7, .ref a8, .ref a9]) := upd_same
    generalize upd Hd q1 (.lst [.ref a6, .ref a7, .ref a8, .ref a9]) = Ht1 at st1 et1 ⊢
    have w1 : Ht1 q0 = some (.lst [.ref a0, .ref a1, .ref a2, .ref a3, .ref a4, .ref a5]) := st1 _ _ (sd _ _ (g8 _ _ (g7 _ _ (g6 _ _ (el0)))))
    refine ⟨q0, q1, _, _, rfl, rfl, w1, et1, (by show 6 + 4 ≤ sizeLine; decide), fun p1 h1 => ?_⟩
    refine gN ?_
    dsimp only
    rw [show ([.ref a0, .ref a1, .ref a2, .ref a3, .ref a4, .ref a5] : List V) ++ [.ref a6, .ref a7, .ref a8, .ref a9] = [.ref a0, .ref a1, .ref a2, .ref a3, .ref a4, .ref a5, .ref a6, .ref a7, .ref a8, .ref a9] from rfl]
    have sl1 := Same.new (o := .lst [.ref a0, .ref a1, .ref a2, .ref a3, .ref a4, .ref a5, .ref a6, .ref a7, .ref a8, .ref a9]) h1
    have el1 : upd Ht1 p1 (.lst [.ref a0, .ref a1, .ref a2, .ref a3, .ref a4, .ref a5, .ref a6, .ref a7, .ref a8, .ref a9]) p1 = some (.lst [.ref a0, .ref a1, .ref a2, .ref a3, .ref a4, .ref a5, .ref a6, .ref a7, .ref a8, .ref a9]) := upd_same
    generalize upd Ht1 p1 (.lst [.ref a0, .ref a1, .ref a2, .ref a3, .ref a4, .ref a5, .ref a6, .ref a7, .ref a8, .ref a9]) = Hl1 at sl1 el1 ⊢
    refine ⟨_, rfl, _, rfl, _, rfl, _, rfl, _, rfl, rfl, rfl, fun a10 n10 => mk_use (xs := [x, z, z, x]) rfl rfl n10 fun G10 g10 x10 => ⟨rfl, ?_⟩⟩
    refine ⟨(by show 1 ≤ sizeLine; decide), fun q2 i2 => ?_⟩
    have st2 := Same.new (o := .lst [.ref a10]) i2
    have et2 : upd G10 q2 (.lst [.ref a10]) q2 = some (.lst [.ref a10]) := upd_same
    generalize upd G10 q2 (.lst [.ref a10]) = Ht2 at st2 et2 ⊢
    have w2 : Ht2 p1 = some (.lst [.ref a0, .ref a1, .ref a2, .ref a3, .ref a4, .ref a5, .ref a6, .ref a7, .ref a8, .ref a9]) := st2 _ _ (g10 _ _ (el1))
    refine ⟨p1, q2, _, _, rfl, rfl, w2, et2, (by show 10 + 1 ≤ sizeLine; decide), fun p2 h2 => ?_⟩
    rw [show ([.ref a0, .ref a1, .ref a2, .ref a3, .ref a4, .ref a5, .ref a6, .ref a7, .ref a8, .ref a9] : List V) ++ [.ref a10] = [.ref a0, .ref a1, .ref a2, .ref a3, .ref a4, .ref a5, .ref a6, .ref a7, .ref a8, .ref a9, .ref a10] from rfl]
    have nf : H p2 = none := back (fun _ _ e => st2 _ _ (g10 _ _ (sl1 _ _ (st1 _ _ (sd _ _ (g8 _ _ (g7 _ _ (g6 _ _ (sl0 _ _ (g5 _ _ (g4 _ _ (g3 _ _ (g2 _ _ (g1 _ _ (g0 _ _ (e)))))))))))))))) h2
    have sl2 := Same.new (o := .lst [.ref a0, .ref a1, .ref a2, .ref a3, .ref a4, .ref a5, .ref a6, .ref a7, .ref a8, .ref a9, .ref a10]) h2
    have el2 : upd Ht2 p2 (.lst [.ref a0, .ref a1, .ref a2, .ref a3, .ref a4, .ref a5, .ref a6, .ref a7, .ref a8, .ref a9, .ref a10]) p2 = some (.lst [.ref a0, .ref a1, .ref a2, .ref a3, .ref a4, .ref a5, .ref a6, .ref a7, .ref a8, .ref a9, .ref a10]) := upd_same
    generalize upd Ht2 p2 (.lst [.ref a0, .ref a1, .ref a2, .ref a3, .ref a4, .ref a5, .ref a6, .ref a7, .ref a8, .ref a9, .ref a10]) = Hl2 at sl2 el2 ⊢
    refine k p2 _ nf (fun _ _ e => sl2 _ _ (st2 _ _ (g10 _ _ (sl1 _ _ (st1 _ _ (sd _ _ (g8 _ _ (g7 _ _ (g6 _ _ (sl0 _ _ (g5 _ _ (g4 _ _ (g3 _ _ (g2 _ _ (g1 _ _ (g0 _ _ (e))))))))))))))))) ⟨[a0, a1, a2, a3, a4, a5, a6, a7, a8, a9, a10], rfl, el2, fun i a hi => ?_⟩
    match i, hi with
    | 0, hi => cases hi; exact exSame x0 (fun _ _ e => sl2 _ _ (st2 _ _ (g10 _ _ (sl1 _ _ (st1 _ _ (sd _ _ (g8 _ _ (g7 _ _ (g6 _ _ (sl0 _ _ (g5 _ _ (g4 _ _ (g3 _ _ (g2 _ _ (g1 _ _ (e))))))))))))))))
    | 1, hi => cases hi; exact exSame x1 (fun _ _ e => sl2 _ _ (st2 _ _ (g10 _ _ (sl1 _ _ (st1 _ _ (sd _ _ (g8 _ _ (g7 _ _ (g6 _ _ (sl0 _ _ (g5 _ _ (g4 _ _ (g3 _ _ (g2 _ _ (e)))))))))))))))
    | 2, hi => cases hi; exact exSame x2 (fun _ _ e => sl2 _ _ (st2 _ _ (g10 _ _ (sl1 _ _ (st1 _ _ (sd _ _ (g8 _ _ (g7 _ _ (g6 _ _ (sl0 _ _ (g5 _ _ (g4 _ _ (g3 _ _ (e))))))))))))))
    | 3, hi => cases hi; exact exSame x3 (fun _ _ e => sl2 _ _ (st2 _ _ (g10 _ _ (sl1 _ _ (st1 _ _ (sd _ _ (g8 _ _ (g7 _ _ (g6 _ _ (sl0 _ _ (g5 _ _ (g4 _ _ (e)))))))))))))
    | 4, hi => cases hi; exact exSame x4 (fun _ _ e => sl2 _ _ (st2 _ _ (g10 _ _ (sl1 _ _ (st1 _ _ (sd _ _ (g8 _ _ (g7 _ _ (g6 _ _ (sl0 _ _ (g5 _ _ (e))))))))))))
    | 5, hi => cases hi; exact exSame x5 (fun _ _ e => sl2 _ _ (st2 _ _ (g10 _ _ (sl1 _ _ (st1 _ _ (sd _ _ (g8 _ _ (g7 _ _ (g6 _ _ (sl0 _ _ (e)))))))))))
    | 6, hi => cases hi; exact exSame x6 (fun _ _ e => sl2 _ _ (st2 _ _ (g10 _ _ (sl1 _ _ (st1 _ _ (sd _ _ (g8 _ _ (g7 _ _ (e)))))))))
    | 7, hi => cases hi; exact exSame x7 (fun _ _ e => sl2 _ _ (st2 _ _ (g10 _ _ (sl1 _ _ (st1 _ _ (sd _ _ (g8 _ _ (e))))))))
    | 8, hi => cases hi; exact exSame x8 (fun _ _ e => sl2 _ _ (st2 _ _ (g10 _ _ (sl1 _ _ (st1 _ _ (sd _ _ (e)))))))
    | 9, hi => cases hi; exact exSame (show Ex Hd a9 (c 9) (mkOf 9 (valsOf 9 x z)) from .inl ⟨rfl, ed⟩) (fun _ _ e => sl2 _ _ (st2 _ _ (g10 _ _ (sl1 _ _ (st1 _ _ (e))))))
    | 10, hi => cases hi; exact exSame x10 (fun _ _ e => sl2 _ _ (st2 _ _ (e)))
    | n + 11, hi => exact nomatch hi
def spVal (c : Nat → Addr) : Sp := fun vs H Q _ => ∃ (p : Addr) (x z : V), vs = [.ref p] ∧ Made H p c x z ∧
  ∀ (q t u : Addr) (H' : Hp), H q = none → Same H H' → H' q = some (.lst [x, x, x, x, .ref t, x, x, x, x, .ref u]) → H' t = some (.tup [x, z]) → H' u = some (.tup [x, z, z, x]) → Q (.ref q) H'
theorem scV : FnScope ["_law_made", "_law_such"] ["_law_made"] (defScope sVal) := ⟨rfl, rfl, rfl, by decide +kernel, rfl, by decide +kernel, by decide +kernel⟩
theorem ok_val {f : Addr} {fd : FuncData} (F : Fun K "_law_values" "_law_values" sVal f fd) (T : Tab K mg c fm) : FnOk P w K mg base CX0 1 f fd ["_law_made"] (spVal c) := by
  refine F.ok scV (fun vs H Q E h => ?_) (fun cdv A outer s H vs Q E hr h => ?_)
  · obtain ⟨p, x, z, rfl, _⟩ := h
    rfl
  · obtain ⟨p, x, z, rfl, ⟨as, hl, ep, ek⟩, k⟩ := h
    match as, hl, ep, ek with
    | [a0, a1, a2, a3, a4, a5, a6, a7, a8, a9, a10], _, ep, ek =>
    refine ⟨_, pss_cons (ps_set (i := 1) scV.nd rfl (Or.inl rfl) (pe_lst (pa_cons (pe_fld (pe_ix ix_list (pv 0) pe_int (fun _ _ => rfl))) (pa_cons (pe_fld (pe_ix ix_list (pv 0) pe_int (fun _ _ => rfl))) (pa_cons (pe_fld (pe_ix ix_list (pv 0) pe_int (fun _ _ => rfl))) (pa_cons (pe_fld (pe_ix ix_list (pv 0) pe_int (fun _ _ => rfl))) (pa_cons (pe_tup (pa_cons (pe_fld (pe_ix ix_list (pv 0) pe_int (fun _ _ => rfl))) (pa_cons (pe_fld (pe_ix ix_list (pv 0) pe_int (fun _ _ => rfl))) pa_nil))) (pa_cons (pe_fld (pe_ix ix_list (pv 0) pe_int (fun _ _ => rfl))) pa_nil)))))))) (pss_cons (ps_set (i := 1) scV.nd rfl (Or.inl rfl) (pe_op op_cat (pv 1) (pe_lst (pa_cons (pe_fld (pe_ix ix_list (pv 0) pe_int (fun _ _ => rfl))) (pa_cons (pe_fld (pe_ix ix_list (pv 0) pe_int (fun _ _ => rfl))) (pa_cons (pe_fld (pe_ix ix_list (pv 0) pe_int (fun _ _ => rfl))) pa_nil)))))) (pss_one (ps_ret (pe_op op_cat (pv 1) (pe_lst (pa_cons (pe_tup (pa_cons (pe_fld (pe_ix ix_list (pv 0) pe_int (fun _ _ => rfl))) (pa_cons (pe_fld (pe_ix ix_list (pv 0) pe_int (fun _ _ => rfl))) (pa_cons (pe_fld (pe_ix ix_list (pv 0) pe_int (fun _ _ => rfl))) (pa_cons (pe_fld (pe_ix ix_list (pv 0) pe_int (fun _ _ => rfl))) pa_nil))))) pa_nil)))))), ?_⟩
    have y0 := ek 0 a0 rfl
    have y1 := ek 1 a1 rfl
    have y2 := ek 2 a2 rfl
    have y3 := ek 3 a3 rfl
    have y4 := ek 4 a4 rfl
    have y5 := ek 5 a5 rfl
    have y6 := ek 6 a6 rfl
    have y7 := ek 7 a7 rfl
    have y8 := ek 8 a8 rfl
    have y10 := ek 10 a10 rfl
    refine ⟨_, rfl, p, _, _, _, rfl, rfl, SqL.of (ep), atI_nat (j := 0) rfl, a0, c 0, _, x, rfl, y0, T.cl 0 (by decide), T.no 0 (by decide) "worth" (by decide), rfl, _, rfl, p, _, _, _, rfl, rfl, SqL.of (ep), atI_nat (j := 1) rfl, a1, c 1, _, x, rfl, y1, T.cl 1 (by decide), T.no 1 (by decide) "row" (by decide), rfl, _, rfl, p, _, _, _, rfl, rfl, SqL.of (ep), atI_nat (j := 2) rfl, a2, c 2, _, x, rfl, y2, T.cl 2 (by decide), T.no 2 (by decide) "line" (by decide), rfl, _, rfl, p, _, _, _, rfl, rfl, SqL.of (ep), atI_nat (j := 3) rfl, a3, c 3, _, x, rfl, y3, T.cl 3 (by decide), T.no 3 (by decide) "row" (by decide), rfl, ?_⟩
    refine ⟨_, rfl, p, _, _, _, rfl, rfl, SqL.of (ep), atI_nat (j := 4) rfl, a4, c 4, _, x, rfl, y4, T.cl 4 (by decide), T.no 4 (by decide) "number" (by decide), rfl, _, rfl, p, _, _, _, rfl, rfl, SqL.of (ep), atI_nat (j := 4) rfl, a4, c 4, _, z, rfl, y4, T.cl 4 (by decide), T.no 4 (by decide) "column" (by decide), rfl, (by show 2 ≤ sizeLine; decide), fun t ht => ?_⟩
    have sa := Same.new (o := .tup [x, z]) ht
    have ea : upd H t (.tup [x, z]) t = some (.tup [x, z]) := upd_same
    generalize upd H t (.tup [x, z]) = Ha at sa ea ⊢
    refine ⟨_, rfl, p, _, _, _, rfl, rfl, SqL.of (sa _ _ (ep)), atI_nat (j := 5) rfl, a5, c 5, _, x, rfl, (exSame y5 (fun _ _ e => sa _ _ (e))), T.cl 5 (by decide), T.no 5 (by decide) "which" (by decide), rfl, (by show 6 ≤ sizeLine; decide), fun q0 i0 => ?_⟩
    refine gN ?_
    dsimp only
    have sb := Same.new (o := .lst [x, x, x, x, .ref t, x]) i0
    have eb : upd Ha q0 (.lst [x, x, x, x, .ref t, x]) q0 = some (.lst [x, x, x, x, .ref t, x]) := upd_same
    generalize upd Ha q0 (.lst [x, x, x, x, .ref t, x]) = Hb at sb eb ⊢
    refine ⟨_, rfl, _, rfl, p, _, _, _, rfl, rfl, SqL.of (sb _ _ (sa _ _ (ep))), atI_nat (j := 6) rfl, a6, c 6, _, x, rfl, (exSame y6 (fun _ _ e => sb _ _ (sa _ _ (e)))), T.cl 6 (by decide), T.no 6 (by decide) "thing" (by decide), rfl, _, rfl, p, _, _, _, rfl, rfl, SqL.of (sb _ _ (sa _ _ (ep))), atI_nat (j := 7) rfl, a7, c 7, _, x, rfl, (exSame y7 (fun _ _ e => sb _ _ (sa _ _ (e)))), T.cl 7 (by decide), T.no 7 (by decide) "source" (by decide), rfl, _, rfl, p, _, _, _, rfl, rfl, SqL.of (sb _ _ (sa _ _ (ep))), atI_nat (j := 8) rfl, a8, c 8, _, x, rfl, (exSame y8 (fun _ _ e => sb _ _ (sa _ _ (e)))), T.cl 8 (by decide), T.no 8 (by decide) "table" (by decide), rfl, (by show 3 ≤ sizeLine; decide), fun q1 i1 => ?_⟩
    have sc := Same.new (o := .lst [x, x, x]) i1
    have ec : upd Hb q1 (.lst [x, x, x]) q1 = some (.lst [x, x, x]) := upd_same
    generalize upd Hb q1 (.lst [x, x, x]) = Hc at sc ec ⊢
    refine ⟨q0, q1, _, _, rfl, rfl, sc _ _ (eb), ec, (by show 6 + 3 ≤ sizeLine; decide), fun p1 h1 => ?_⟩
    refine gN ?_
    dsimp only
    rw [show ([x, x, x, x, .ref t, x] : List V) ++ [x, x, x] = [x, x, x, x, .ref t, x, x, x, x] from rfl]
    have sf := Same.new (o := .lst [x, x, x, x, .ref t, x, x, x, x]) h1
    have ef : upd Hc p1 (.lst [x, x, x, x, .ref t, x, x, x, x]) p1 = some (.lst [x, x, x, x, .ref t, x, x, x, x]) := upd_same
    generalize upd Hc p1 (.lst [x, x, x, x, .ref t, x, x, x, x]) = Hf at sf ef ⊢
    refine ⟨_, rfl, _, rfl, p, _, _, _, rfl, rfl, SqL.of (sf _ _ (sc _ _ (sb _ _ (sa _ _ (ep))))), atI_nat (j := 10) rfl, a10, c 10, _, x, rfl, (exSame y10 (fun _ _ e => sf _ _ (sc _ _ (sb _ _ (sa _ _ (e)))))), T.cl 10 (by decide), T.no 10 (by decide) "table" (by decide), rfl, _, rfl, p, _, _, _, rfl, rfl, SqL.of (sf _ _ (sc _ _ (sb _ _ (sa _ _ (ep))))), atI_nat (j := 10) rfl, a10, c 10, _, z, rfl, (exSame y10 (fun _ _ e => sf _ _ (sc _ _ (sb _ _ (sa _ _ (e)))))), T.cl 10 (by decide), T.no 10 (by decide) "step" (by decide), rfl, _, rfl, p, _, _, _, rfl, rfl, SqL.of (sf _ _ (sc _ _ (sb _ _ (sa _ _ (ep))))), atI_nat (j := 10) rfl, a10, c 10, _, z, rfl, (exSame y10 (fun _ _ e => sf _ _ (sc _ _ (sb _ _ (sa _ _ (e)))))), T.cl 10 (by decide), T.no 10 (by decide) "other" (by decide), rfl, _, rfl, p, _, _, _, rfl, rfl, SqL.of (sf _ _ (sc _ _ (sb _ _ (sa _ _ (ep))))), atI_nat (j := 10) rfl, a10, c 10, _, x, rfl, (exSame y10 (fun _ _ e => sf _ _ (sc _ _ (sb _ _ (sa _ _ (e)))))), T.cl 10 (by decide), T.no 10 (by decide) "what" (by decide), rfl, (by show 4 ≤ sizeLine; decide), fun u hu => ?_⟩
    have sg := Same.new (o := .tup [x, z, z, x]) hu
    have eg : upd Hf u (.tup [x, z, z, x]) u = some (.tup [x, z, z, x]) := upd_same
    generalize upd Hf u (.tup [x, z, z, x]) = Hg at sg eg ⊢
    refine ⟨(by show 1 ≤ sizeLine; decide), fun q2 i2 => ?_⟩
    have sj := Same.new (o := .lst [.ref u]) i2
    have ej : upd Hg q2 (.lst [.ref u]) q2 = some (.lst [.ref u]) := upd_same
    generalize upd Hg q2 (.lst [.ref u]) = Hj at sj ej ⊢
    refine ⟨p1, q2, _, _, rfl, rfl, sj _ _ (sg _ _ (ef)), ej, (by show 9 + 1 ≤ sizeLine; decide), fun p2 h2 => ?_⟩
    have nf : H p2 = none := back (fun _ _ e => sj _ _ (sg _ _ (sf _ _ (sc _ _ (sb _ _ (sa _ _ (e))))))) h2
    rw [show ([x, x, x, x, .ref t, x, x, x, x] : List V) ++ [.ref u] = [x, x, x, x, .ref t, x, x, x, x, .ref u] from rfl]
    have sm := Same.new (o := .lst [x, x, x, x, .ref t, x, x, x, x, .ref u]) h2
    have em : upd Hj p2 (.lst [x, x, x, x, .ref t, x, x, x, x, .ref u]) p2 = some (.lst [x, x, x, x, .ref t, x, x, x, x, .ref u]) := upd_same
    generalize upd Hj p2 (.lst [x, x, x, x, .ref t, x, x, x, x, .ref u]) = Hm at sm em ⊢
    exact k p2 t u _ nf (fun _ _ e => sm _ _ (sj _ _ (sg _ _ (sf _ _ (sc _ _ (sb _ _ (sa _ _ (e)))))))) em (sm _ _ (sj _ _ (sg _ _ (sf _ _ (sc _ _ (sb _ _ (ea))))))) (sm _ _ (sj _ _ (eg)))
end
end K47
set_option Elab.async false
set_option linter.all false
set_option maxRecDepth 100000
set_option maxHeartbeats 4000000
namespace K47
open PySem PySem.Spec PyProof.Rows L2 Bs Xg Xc
abbrev sRs : Stmt := top 25
/-- of the three that are raised: which clause takes them, and that their fields may be read -/
structure Et (K : PySem.W.Frag) (mg : Str → Option Value) (c fm : Nat → Addr) : Prop where
  rp : mg "repr" = none
  x1 : XfC K (c 1)
  x4 : XfC K (c 4)
  x10 : XfC K (c 10)
  m1 : PySem.W.exmOne K (.ref (c 1)) (.ref (fm 0)) = some true
  m40 : PySem.W.exmOne K (.ref (c 4)) (.ref (fm 0)) = some false
  m41 : PySem.W.exmOne K (.ref (c 4)) (.ref (fm 1)) = some true
  m100 : PySem.W.exmOne K (.ref (c 10)) (.ref (fm 0)) = some false
  m101 : PySem.W.exmOne K (.ref (c 10)) (.ref (fm 1)) = some false
  m102 : PySem.W.exmOne K (.ref (c 10)) (.ref (fm 2)) = some true
section
variable {P : Program} {w : World} {K : PySem.W.Frag} {mg : Str → Option Value} {base : Heap} {c fm fI : Nat → Addr} {fdI : Nat → FuncData}
def spRs (K : PySem.W.Frag) : Sp := fun vs H Q _ => ∃ (v : Int) (x z : V) (dx dz : PyData), vs = [.int v, x, z] ∧ (v = 0 ∨ v = 1 ∨ v = 2) ∧ Tg K H x dx ∧ Tg K H z dz ∧ ∀ H', Same H H' → Q (.int (v + 1)) H'
abbrev nR : List Str := ["_law_way", "_law_x", "_law_z", "_law_family", "_law_e"]
theorem scR : FnScope nR ["_law_way", "_law_x", "_law_z"] (defScope sRs) := ⟨rfl, rfl, rfl, by decide +kernel, rfl, by decide +kernel, by decide +kernel⟩
theorem Tg.same {H H' : Hp} {x : V} {d : PyData} (t : Tg K H x d) (s : Same H H') : Tg K H' x d := ⟨t.1.same s, t.2⟩
theorem tup_len {d e : PyData} (h1 : d.shown.length ≤ 40) (h2 : e.shown.length ≤ 40) : (PyData.tuple [d, e]).shown.length ≤ 100 := by
  simp only [PyData.shown, PyData.shownAll]
  have q := tupleText_len_le [d.shown, e.shown]
  simp only [List.map_cons, List.map_nil, List.sum_cons, List.sum_nil, List.length_cons, List.length_nil] at q
  omega
/-- two things, shown together -/
theorem tg_two {H : Hp} {x z : V} {dx dz : PyData} {t : Addr} (tx : Tg K H x dx) (tz : Tg K H z dz) (e : H t = some (.tup [x, z])) :
    Dq K H (.ref t) (.tuple [dx, dz]) ∧ (PyData.tuple [dx, dz]).showable = true ∧ (PyData.tuple [dx, dz]).depth < 60 ∧ (PyData.tuple [dx, dz]).shown.length ≤ sizeLine := by
  refine ⟨.tup [(x, dx), (z, dz)] (SqT.of e) (fun p hp => ?_), ?_, ?_, Nat.le_trans (tup_len tx.2.2.2 tz.2.2.2) (by decide)⟩
  · simp only [List.mem_cons, List.not_mem_nil, or_false] at hp
    rcases hp with rfl | rfl
    · exact tx.1
    · exact tz.1
  · simp [PyData.showable, PyData.showableAll, tx.2.1, tz.2.1]
  · have a := tx.2.2.1
    have b := tz.2.2.1
    simp only [PyData.depth, PyData.depthAll]
    omega
theorem tg_line {H : Hp} {x : V} {d : PyData} (t : Tg K H x d) : d.shown.length ≤ sizeLine := Nat.le_trans t.2.2.2 (by decide)
theorem tg_deep {H : Hp} {x : V} {d : PyData} (t : Tg K H x d) : d.depth < 60 := Nat.lt_of_le_of_lt t.2.2.1 (by decide)
theorem ok_rs {f : Addr} {fd : FuncData} (sm : ∃ mm, base.Ns sysModules mm) (F : Fun K "_law_raised" "_law_raised" sRs f fd) (T : Tab K mg c fm) (M : Ms P w K mg c fI fdI) (E' : Et K mg c fm) : FG P w K mg base 3 f fd ["_law_way", "_law_x", "_law_z"] (spRs K) := by
  refine okG F scR (fun vs H Q E h => ?_) (fun cdv A outer s H vs Q E ng hr h => ?_)
  · obtain ⟨v, x, z, dx, dz, rfl, _⟩ := h
    rfl
  · obtain ⟨v, x, z, dx, dz, rfl, hv, tx, tz, k⟩ := h
    obtain ⟨_, _, _, _, T1⟩ := T.cl 1 (by decide)
    obtain ⟨_, _, _, _, T4⟩ := T.cl 4 (by decide)
    obtain ⟨_, _, _, _, T10⟩ := T.cl 10 (by decide)
    refine ⟨_, pss_cons (ps_set (i := 3) scR.nd rfl (Or.inl rfl) pe_int)
      (pss_cons (ps_tryN (i := 4) (n := "_law_e") rfl rfl scR.nd rfl rfl (fun W pn xe tk =>
          pss_cons (ps_if (pt_cmpR op_eq (pv 0) pe_int (nomark _)) (pss_one (ps_raise rfl tk (pmk_x0 (k := 1) T1 (M.at_ 1 (by decide) (by decide)) (M.ok 1 (by decide) (by decide) base) hr (M.nm 1 (by decide) (by decide) (by decide) (by decide)) rfl T.g1 (pk_cons (pv 1) pk_nil)))) pss_nil)
            (pss_cons (ps_if (pt_cmpR op_eq (pv 0) pe_int (nomark _)) (pss_one (ps_raise rfl tk (pmk_x (k := 1) T4 (M.at_ 4 (by decide) (by decide)) (M.ok 4 (by decide) (by decide) base) hr M.s4 (by decide) rfl T.g4 (pa_cons (pv 1) pa_nil) (pk_cons (pv 2) pk_nil)))) pss_nil)
              (pss_one (ps_raise rfl tk (pmk_x (k := 1) T10 (M.at_ 10 (by decide) (by decide)) (M.ok 10 (by decide) (by decide) base) hr M.s10 (by decide) rfl T.g10 (pa_cons (pv 1) (pa_cons (pv 2) pa_nil)) (pk_cons (pv 2) (pk_cons (pv 1) pk_nil)))))))
          (.cons ⟨rfl, by decide, .inl T.h0⟩ (fun a oe cls d pn hz hf => pss_one (ps_set (i := 3) scR.nd rfl (Or.inl rfl) (pe_ifExp (pt_cmpR op_eq (pe_callB (call_reprK (K := K) rfl ng hr.units sm) (by rfl) E'.rp (by decide +kernel) (pa_cons (pe_xf E'.x1 (T.no 1 (by decide) "row" (by decide)) hz hf (pv 4)) pa_nil)) (pe_callB (call_reprK (K := K) rfl ng hr.units sm) (by rfl) E'.rp (by decide +kernel) (pa_cons (pv 1) pa_nil)) (nomark _)) pe_int pe_int)))
            (.cons ⟨rfl, by decide, .inl T.h1⟩ (fun a oe cls d pn hz hf => pss_one (ps_set (i := 3) scR.nd rfl (Or.inl rfl) (pe_ifExp (pt_cmpR op_eq (pe_callB (call_reprK (K := K) rfl ng hr.units sm) (by rfl) E'.rp (by decide +kernel) (pa_cons (pe_tup (pa_cons (pe_xf E'.x4 (T.no 4 (by decide) "number" (by decide)) hz hf (pv 4)) (pa_cons (pe_xf E'.x4 (T.no 4 (by decide) "column" (by decide)) hz hf (pv 4)) pa_nil))) pa_nil)) (pe_callB (call_reprK (K := K) rfl ng hr.units sm) (by rfl) E'.rp (by decide +kernel) (pa_cons (pe_tup (pa_cons (pv 1) (pa_cons (pv 2) pa_nil))) pa_nil)) (nomark _)) pe_int pe_int)))
              (.cons ⟨rfl, by decide, .inl T.h2⟩ (fun a oe cls d pn hz hf => pss_one (ps_set (i := 3) scR.nd rfl (Or.inl rfl) (pe_ifExp (pt_cmpR op_eq (pe_callB (call_reprK (K := K) rfl ng hr.units sm) (by rfl) E'.rp (by decide +kernel) (pa_cons (pe_tup (pa_cons (pe_xf E'.x10 (T.no 10 (by decide) "table" (by decide)) hz hf (pv 4)) (pa_cons (pe_xf E'.x10 (T.no 10 (by decide) "other" (by decide)) hz hf (pv 4)) pa_nil))) pa_nil)) (pe_callB (call_reprK (K := K) rfl ng hr.units sm) (by rfl) E'.rp (by decide +kernel) (pa_cons (pe_tup (pa_cons (pv 1) (pa_cons (pv 2) pa_nil))) pa_nil)) (nomark _)) pe_int pe_int))) .nil))))
        (pss_one (ps_ret (pv 3)))), ?_⟩
    refine gN ?_
    dsimp only
    refine cutT (fun σ' H' => σ' = [some (.int v), some x, some z, some (.int (v + 1)), none] ∧ Same H H') (fun N n => ?_) ?_
    · rcases hv with rfl | rfl | rfl
      · refine ⟨_, rfl, rfl, _, rfl, ?_⟩
        rw [show decide (V.int 0 = V.int 0) = true from decide_eq_true rfl]
        refine iteT ?_
        refine ⟨_, rfl, rfl, rfl, fun a na => flies (xs := [x]) rfl rfl na fun d H' keep ed => ?_⟩
        refine ⟨true, E'.m1, iteT fun e ne => ?_⟩
        have ux := tx.same keep
        refine ⟨_, rfl, rfl, rfl, d, _, x, rfl, ed, rfl, x, dx, rfl, ux.1, ux.2.1, tg_deep ux, tg_line ux, _, rfl, x, dx, rfl, ux.1, ux.2.1, tg_deep ux, tg_line ux, rfl, _, rfl, ?_⟩
        rw [decide_eq_true rfl]
        refine iteT ?_
        exact n _ _ ⟨rfl, keep⟩
      · refine ⟨_, rfl, rfl, _, rfl, ?_⟩
        rw [show decide (V.int 1 = V.int 0) = false from by decide]
        refine iteF ?_
        refine ⟨_, rfl, rfl, _, rfl, ?_⟩
        rw [show decide (V.int 1 = V.int 1) = true from decide_eq_true rfl]
        refine iteT ?_
        refine ⟨_, rfl, _, rfl, rfl, rfl, fun a na => flies (xs := [x, z]) rfl rfl na fun d H' keep ed => ?_⟩
        refine ⟨false, E'.m40, iteF ⟨true, E'.m41, iteT fun e ne => ?_⟩⟩
        have ux := tx.same keep
        have uz := tz.same keep
        refine ⟨_, rfl, rfl, rfl, d, _, x, rfl, ed, rfl, _, rfl, rfl, rfl, d, _, z, rfl, ed, rfl, (by show 2 ≤ sizeLine; decide), fun t ht => ?_⟩
        have st := Same.new (o := .tup [x, z]) ht
        have et : upd H' t (.tup [x, z]) t = some (.tup [x, z]) := upd_same
        generalize upd H' t (.tup [x, z]) = H2 at st et ⊢
        have two := tg_two (ux.same st) (uz.same st) et
        refine ⟨_, _, rfl, two.1, two.2.1, two.2.2.1, two.2.2.2, _, rfl, _, rfl, (by show 2 ≤ sizeLine; decide), fun u hu => ?_⟩
        have su := Same.new (o := .tup [x, z]) hu
        have eu : upd H2 u (.tup [x, z]) u = some (.tup [x, z]) := upd_same
        generalize upd H2 u (.tup [x, z]) = H3 at su eu ⊢
        have twu := tg_two ((ux.same st).same su) ((uz.same st).same su) eu
        refine ⟨_, _, rfl, twu.1, twu.2.1, twu.2.2.1, twu.2.2.2, rfl, _, rfl, ?_⟩
        rw [decide_eq_true rfl]
        refine iteT ?_
        exact n _ _ ⟨rfl, fun b o e => su b o (st b o (keep b o e))⟩
      · refine ⟨_, rfl, rfl, _, rfl, ?_⟩
        rw [show decide (V.int 2 = V.int 0) = false from by decide]
        refine iteF ?_
        refine ⟨_, rfl, rfl, _, rfl, ?_⟩
        rw [show decide (V.int 2 = V.int 1) = false from by decide]
        refine iteF ?_
        refine ⟨_, rfl, _, rfl, _, rfl, _, rfl, rfl, rfl, fun a na => flies (xs := [x, z, z, x]) rfl rfl na fun d H' keep ed => ?_⟩
        refine ⟨false, E'.m100, iteF ⟨false, E'.m101, iteF ⟨true, E'.m102, iteT fun e ne => ?_⟩⟩⟩
        have ux := tx.same keep
        have uz := tz.same keep
        refine ⟨_, rfl, rfl, rfl, d, _, x, rfl, ed, rfl, _, rfl, rfl, rfl, d, _, z, rfl, ed, rfl, (by show 2 ≤ sizeLine; decide), fun t ht => ?_⟩
        have st := Same.new (o := .tup [x, z]) ht
        have et : upd H' t (.tup [x, z]) t = some (.tup [x, z]) := upd_same
        generalize upd H' t (.tup [x, z]) = H2 at st et ⊢
        have two := tg_two (ux.same st) (uz.same st) et
        refine ⟨_, _, rfl, two.1, two.2.1, two.2.2.1, two.2.2.2, _, rfl, _, rfl, (by show 2 ≤ sizeLine; decide), fun u hu => ?_⟩
        have su := Same.new (o := .tup [x, z]) hu
        have eu : upd H2 u (.tup [x, z]) u = some (.tup [x, z]) := upd_same
        generalize upd H2 u (.tup [x, z]) = H3 at su eu ⊢
        have twu := tg_two ((ux.same st).same su) ((uz.same st).same su) eu
        refine ⟨_, _, rfl, twu.1, twu.2.1, twu.2.2.1, twu.2.2.2, rfl, _, rfl, ?_⟩
        rw [decide_eq_true rfl]
        refine iteT ?_
        exact n _ _ ⟨rfl, fun b o e => su b o (st b o (keep b o e))⟩
    · rintro σ1 H1 ⟨rfl, s1⟩
      exact ⟨_, rfl, k H1 s1⟩
end
end K47
set_option Elab.async false
set_option linter.all false
set_option maxRecDepth 100000
set_option maxHeartbeats 8000000
namespace K47
open PySem PySem.Spec PyProof.Rows L2 Bs Xg Xc
abbrev sRt : Stmt := top 26
theorem dp_bls {K : PySem.W.Frag} {H : Hp} (g : Nat → Bool) : ∀ l : List Nat, DpAll K H (l.map fun j => V.bl (g j)) (l.map fun j => PyData.bool (g j))
  | [] => .nil
  | _ :: r => .cons (.bl _) (dp_bls g r)
theorem lay_bls (g : Nat → Bool) : ∀ l : List Nat, PyData.canLayAll0 (l.map fun j => PyData.bool (g j)) = true ∧ PyData.depthAll (l.map fun j => PyData.bool (g j)) = 0
  | [] => ⟨by simp [PyData.canLayAll0], by simp [PyData.depthAll]⟩
  | _ :: r => by
    have q := lay_bls g r
    simp [PyData.canLayAll0, PyData.canLay0, PyData.depthAll, PyData.depth, q.1, q.2]
theorem shp_bls (g : Nat → Bool) (l : List Nat) : PyData.canLay0 (.list (l.map fun j => PyData.bool (g j))) = true ∧ SeqAt.shaped (.list (l.map fun j => PyData.bool (g j))) = true := by
  have q := lay_bls g l
  have c : PyData.canLay0 (.list (l.map fun j => PyData.bool (g j))) = true := by
    simp only [PyData.canLay0]
    exact q.1
  refine ⟨c, ?_⟩
  unfold SeqAt.shaped
  rw [c]
  simp [PyData.depth, q.2]
theorem op_inK {X : Cx} {K : PySem.W.Frag} (hK : X.K = K) : OpR X (compareOp .In) (rIn K false) := by
  subst hK
  exact op_in_seq
/-- the values, shown -/
def bigD (d e : PyData) : PyData := .list [d, d, d, d, .tuple [d, e], d, d, d, d, .tuple [d, e, e, d]]
theorem big_ok {K : PySem.W.Frag} {H : Hp} {x z : V} {dx dz : PyData} {q t u : Addr} (tx : Tg K H x dx) (tz : Tg K H z dz) (eq : H q = some (.lst [x, x, x, x, .ref t, x, x, x, x, .ref u])) (et : H t = some (.tup [x, z])) (eu : H u = some (.tup [x, z, z, x])) :
    Dq K H (.ref q) (bigD dx dz) ∧ (bigD dx dz).showable = true ∧ (bigD dx dz).depth < 60 ∧ (bigD dx dz).shown.length ≤ sizeLine := by
  have d1 : Dq K H (.ref t) (.tuple [dx, dz]) := (tg_two tx tz et).1
  have d2 : Dq K H (.ref u) (.tuple [dx, dz, dz, dx]) := by
    refine .tup [(x, dx), (z, dz), (z, dz), (x, dx)] (SqT.of eu) (fun p hp => ?_)
    simp only [List.mem_cons, List.not_mem_nil, or_false] at hp
    rcases hp with rfl | rfl | rfl | rfl
    · exact tx.1
    · exact tz.1
    · exact tz.1
    · exact tx.1
  refine ⟨.lst [(x, dx), (x, dx), (x, dx), (x, dx), (.ref t, .tuple [dx, dz]), (x, dx), (x, dx), (x, dx), (x, dx), (.ref u, .tuple [dx, dz, dz, dx])] (SqL.of eq) (fun p hp => ?_), ?_, ?_, ?_⟩
  · simp only [List.mem_cons, List.not_mem_nil, or_false] at hp
    rcases hp with rfl | rfl | rfl | rfl | rfl | rfl | rfl | rfl | rfl | rfl <;> first | exact tx.1 | exact d1 | exact d2
  · simp [bigD, PyData.showable, PyData.showableAll, tx.2.1, tz.2.1]
  · have a := tx.2.2.1
    have b := tz.2.2.1
    simp only [bigD, PyData.depth, PyData.depthAll]
    omega
  · have a := tx.2.2.2
    have b := tz.2.2.2
    simp only [bigD, PyData.shown, PyData.shownAll]
    have q1 := tupleText_len_le [dx.shown, dz.shown]
    have q2 := tupleText_len_le [dx.shown, dz.shown, dz.shown, dx.shown]
    have q3 := listText_len_le [dx.shown, dx.shown, dx.shown, dx.shown, tupleText [dx.shown, dz.shown], dx.shown, dx.shown, dx.shown, dx.shown, tupleText [dx.shown, dz.shown, dz.shown, dx.shown]]
    simp only [List.map_cons, List.map_nil, List.sum_cons, List.sum_nil, List.length_cons, List.length_nil] at q1 q2 q3
    rw [sizeLine_eq]
    omega
theorem dec_int (i j : Nat) : decide (V.int (i : Int) = V.int (0 + (j : Int))) = decide (i = j) := by
  by_cases h : i = j
  · subst h
    rw [Int.zero_add]
    simp
  · have n : ¬ V.int (i : Int) = V.int (0 + (j : Int)) := by
      intro z
      have z' := V.int.inj z
      omega
    rw [decide_eq_false n, decide_eq_false h]
theorem kin_lt (i : Nat) : kinOf i < 3 := by
  unfold kinOf
  split <;> split <;> decide
theorem in_kin {j k : Nat} (hj : j < 6) (hk : k < 3) : inV (.int (0 + (j : Int))) [.int (k : Nat), .int ((k : Nat) + 3)] = decide (j % 3 = k) := by
  have all : ∀ j < 6, ∀ k < 3, inV (.int (0 + ((j : Nat) : Int))) [.int ((k : Nat) : Int), .int (((k : Nat) : Int) + 3)] = decide (j % 3 = k) := by decide +kernel
  exact all j hj k hk
structure Txt2 (mg : Str → Option Value) : Prop where
  t : Txt mg
  en : mg "enumerate" = none
  range : mg "range" = none
  rp : mg "repr" = none
/-- the defs as they stand -/
structure Defs (K : PySem.W.Frag) (mg : Str → Option Value) (fT fC fF fP fN fV fR : Addr) (dT dC dF dP dN dV dR : FuncData) : Prop where
  FT : Fun K "_law_thing" "_law_thing" sThing fT dT
  bT : Binds K dT ["_law_hand_here"] []
  gT : mg "_law_thing" = some (.ref fT)
  FC : Fun K "_law_classes" "_law_classes" sCls fC dC
  bC : Binds K dC ["_law_e"] []
  gC : mg "_law_classes" = some (.ref fC)
  FF : Fun K "_law_families" "_law_families" sFam fF dF
  bF : Binds K dF ["_law_e"] []
  gF : mg "_law_families" = some (.ref fF)
  FP : Fun K "_law_by_places" "_law_by_places" sPl fP dP
  bP : Binds K dP ["_law_x", "_law_z"] []
  gP : mg "_law_by_places" = some (.ref fP)
  FN : Fun K "_law_by_names" "_law_by_names" sNm fN dN
  bN : Binds K dN ["_law_x", "_law_z"] []
  gN : mg "_law_by_names" = some (.ref fN)
  FV : Fun K "_law_values" "_law_values" sVal fV dV
  bV : Binds K dV ["_law_made"] []
  gV : mg "_law_values" = some (.ref fV)
  FR : Fun K "_law_raised" "_law_raised" sRs fR dR
  bR : Binds K dR ["_law_way", "_law_x", "_law_z"] []
  gR : mg "_law_raised" = some (.ref fR)
section
variable {P : Program} {w : World} {K : PySem.W.Frag} {mg : Str → Option Value} {base : Heap} {c fm fI : Nat → Addr} {fdI : Nat → FuncData}
abbrev nG : List Str := ["_law_hand_here", "_law_x", "_law_z", "_law_made", "_law_k", "_law_e", "_law_family", "_law_spot", "_law_way"]
theorem scRt : FnScope nG ["_law_hand_here"] (defScope sRt) := ⟨rfl, rfl, rfl, by decide +kernel, rfl, by decide +kernel, by decide +kernel⟩
def spRt : Sp := fun vs H Q _ => ∃ (h : Addr) (n : Nat), vs = [.ref h] ∧ HandAt H h n ∧ n + 4 < 1000000 ∧ ∀ H', But h H H' → Q (.bl true) H'
theorem ok_rt {f fT fC fF fP fN fV fR : Addr} {fd dT dC dF dP dN dV dR : FuncData} (sm : ∃ mm, base.Ns sysModules mm) (F : Fun K "_law_right" "_law_right" sRt f fd) (T : Txt2 mg) (D : Defs K mg fT fC fF fP fN fV fR dT dC dF dP dN dV dR)
    (GT : FnOk P w K mg base CX0 3 fT dT ["_law_hand_here"] (spThing K)) (GC : FnOk P w K mg base CX0 1 fC dC ["_law_e"] (spAsk c 11 (fun i j => decide (i = j)))) (GF : FnOk P w K mg base CX0 1 fF dF ["_law_e"] (spAsk c 6 (fun i j => decide (j % 3 = kinOf i))))
    (GP : FnOk P w K mg base CX0 3 fP dP ["_law_x", "_law_z"] (spBy c)) (GN : FnOk P w K mg base CX0 3 fN dN ["_law_x", "_law_z"] (spBy c)) (GV : FnOk P w K mg base CX0 1 fV dV ["_law_made"] (spVal c)) (GR : FG P w K mg base 3 fR dR ["_law_way", "_law_x", "_law_z"] (spRs K)) :
    FG P w K mg base 4 f fd ["_law_hand_here"] spRt := by
  refine okG F scRt (fun vs H Q E h => ?_) (fun cdv A outer s H vs Q E ng hr h => ?_)
  · obtain ⟨h, n, rfl, _⟩ := h
    rfl
  · obtain ⟨h, n, rfl, hd, nb, k⟩ := h
    have hr1 : Room 1 _ := hr.mono (by decide)
    refine ⟨_,pss_cons (ps_asg (pe_tup (pa_cons (pe_call GT hr (by rfl) D.gT D.FT.kp D.bT .nil pass0 (pa_cons (pv 0) pa_nil)) (pa_cons (pe_call GT hr (by rfl) D.gT D.FT.kp D.bT .nil pass0 (pa_cons (pv 0) pa_nil)) pa_nil))) (pg_tup rfl (pgs_cons (pg_name (i := 1) scRt.nd rfl (Or.inr rfl)) (pgs_cons (pg_name (i := 2) scRt.nd rfl (Or.inr rfl)) pgs_nil))))
      (pss_cons (ps_for PassesOwn.never rfl (pi_tup (pe_tup (pa_cons (pe_call GP hr (by rfl) D.gP D.FP.kp D.bP .nil pass0 (pa_cons (pv 1) (pa_cons (pv 2) pa_nil))) (pa_cons (pe_call GN hr (by rfl) D.gN D.FN.kp D.bN .nil pass0 (pa_cons (pv 1) (pa_cons (pv 2) pa_nil))) pa_nil)))) (pg_name (i := 3) scRt.nd rfl (Or.inl rfl)) (pss_cons (ps_for PassesOwn.never rfl (pi_enum rfl T.en (pa_cons (pv 3) pa_nil)) (pg_tup rfl (pgs_cons (pg_name (i := 4) scRt.nd rfl (Or.inr rfl)) (pgs_cons (pg_name (i := 5) scRt.nd rfl (Or.inl rfl)) pgs_nil))) (pss_cons (ps_set (i := 6) scRt.nd rfl (Or.inr rfl) (pe_op op_add (pe_callTy call_int1 (by rfl) T.t.int (by decide +kernel) (pa_cons (pe_cmpR op_gt (pv 4) pe_int (nomark _)) pa_nil)) (pe_callTy call_int1 (by rfl) T.t.int (by decide +kernel) (pa_cons (pe_cmpR op_gt (pv 4) pe_int (nomark _)) pa_nil))))
      (pss_cons (ps_if (pt_cmpR (op_neD hr.units) (pe_call GC hr1 (by rfl) D.gC D.FC.kp D.bC .nil pass0 (pa_cons (pv 5) pa_nil)) (pe_lc (own := [("_law_spot", 7)]) (g := gName 7) (tt := tYes) rfl scRt.nd (pi_range1 rfl T.range (pa_cons pe_int pa_nil)) (blkOk_by (N := nG) (sc := defScope sRt) (by decide +kernel)) (fun _ _ _ _ _ => pg_name (i := 7) scRt.nd rfl (Or.inl rfl)) (fun _ _ _ _ _ => pts_nil) (fun _ _ _ _ _ => pe_cmpR op_eq (pv 4) (pv 7) (nomark _))) (nomark _)) (pss_one (ps_ret pe_bl)) pss_nil)
      (pss_one (ps_if (pt_cmpR (op_neD hr.units) (pe_call GF hr1 (by rfl) D.gF D.FF.kp D.bF .nil pass0 (pa_cons (pv 5) pa_nil)) (pe_lc (own := [("_law_spot", 7)]) (g := gName 7) (tt := tYes) rfl scRt.nd (pi_range1 rfl T.range (pa_cons pe_int pa_nil)) (blkOk_by (N := nG) (sc := defScope sRt) (by decide +kernel)) (fun _ _ _ _ _ => pg_name (i := 7) scRt.nd rfl (Or.inl rfl)) (fun _ _ _ _ _ => pts_nil) (fun _ _ _ _ _ => pe_cmpR (op_inK (K := K) rfl) (pv 7) (pe_tup (pa_cons (pv 6) (pa_cons (pe_op op_add (pv 6) pe_int) pa_nil))) rfl)) (nomark _)) (pss_one (ps_ret pe_bl)) pss_nil)))))
      (pss_one (ps_if (pt_cmpR op_ne (pe_callB (call_reprK (K := K) rfl ng hr.units sm) (by rfl) T.rp (by decide +kernel) (pa_cons (pe_call GV hr1 (by rfl) D.gV D.FV.kp D.bV .nil pass0 (pa_cons (pv 3) pa_nil)) pa_nil)) (pe_callB (call_reprK (K := K) rfl ng hr.units sm) (by rfl) T.rp (by decide +kernel) (pa_cons (pe_op op_cat (pe_op op_cat (pe_op op_cat (pe_op op_rep (pe_lst (pa_cons (pv 1) pa_nil)) pe_int) (pe_lst (pa_cons (pe_tup (pa_cons (pv 1) (pa_cons (pv 2) pa_nil))) pa_nil))) (pe_op op_rep (pe_lst (pa_cons (pv 1) pa_nil)) pe_int)) (pe_lst (pa_cons (pe_tup (pa_cons (pv 1) (pa_cons (pv 2) (pa_cons (pv 2) (pa_cons (pv 1) pa_nil))))) pa_nil))) pa_nil)) (nomark _)) (pss_one (ps_ret pe_bl)) pss_nil))))
      (pss_one (ps_ret (pe_cmpR (op_eqD hr.units) (pe_lc (own := [("_law_way", 8)]) (g := gName 8) (tt := tYes) rfl scRt.nd (pi_range1 rfl T.range (pa_cons pe_int pa_nil)) (blkOk_by (N := nG) (sc := defScope sRt) (by decide +kernel)) (fun _ _ _ _ _ => pg_name (i := 8) scRt.nd rfl (Or.inl rfl)) (fun _ _ _ _ _ => pts_nil) (fun _ _ _ _ _ => callG GR ng hr (by rfl) D.gR D.FR.kp D.bR .nil (pa_cons (pv 8) (pa_cons (pv 1) (pa_cons (pv 2) pa_nil))))) (pe_lst (pa_cons pe_int (pa_cons pe_int (pa_cons pe_int pa_nil)))) (nomark _))))), ?_⟩
    refine ⟨_, rfl, h, n, rfl, hd, by omega, fun x dx H1 tx hd1 bt1 => ?_⟩
    refine ⟨_, rfl, h, n + 2, rfl, hd1, by omega, fun z dz H2 tz hd2 bt2 => ?_⟩
    refine ⟨(by show 2 ≤ sizeLine; decide), fun t0 ht0 => ?_⟩
    refine ⟨t0, [x, z], rfl, SqT.of upd_same, rfl, x, _, rfl, gN ?_⟩
    try dsimp only
    refine ⟨z, [], rfl, gN ?_⟩
    try dsimp only
    refine ⟨rfl, ?_⟩
    have s3 := Same.new (o := .tup [x, z]) ht0
    generalize upd H2 t0 (.tup [x, z]) = H3 at s3 ⊢
    refine ⟨_, rfl, _, rfl, x, z, rfl, fun pA HA nA sA mA => ?_⟩
    refine ⟨_, rfl, _, rfl, x, z, rfl, fun pB HB nB sB mB => ?_⟩
    refine ⟨(by show 2 ≤ sizeLine; decide), fun tt htt => ?_⟩
    have s4 := Same.new (o := .tup [.ref pA, .ref pB]) htt
    have e4 : upd HB tt (.tup [.ref pA, .ref pB]) tt = some (.tup [.ref pA, .ref pB]) := upd_same
    generalize upd HB tt (.tup [.ref pA, .ref pB]) = H4 at s4 e4 ⊢
    have sH : Same H2 H4 := fun _ _ e => s4 _ _ (sB _ _ (sA _ _ (s3 _ _ e)))
    have mA4 := (mA.same sB).same s4
    have mB4 := mB.same s4
    have ux : ∀ G, Same H4 G → Tg K G x dx := fun G s => tx G (bt2.trans (But.of (sH.trans s)))
    have uz : ∀ G, Same H4 G → Tg K G z dz := fun G s => tz G (But.of (sH.trans s))
    have bH : But h H H4 := (bt1.trans bt2).trans (But.of sH)
    refine ⟨tt, rfl, ⟨_, SqT.of e4⟩, for_tup (xs := [.ref pA, .ref pB]) (fun j σ G => Same H4 G ∧ ∃ u3 u4 u5 u6 u7 u8, σ = [some (.ref h), some x, some z, u3, u4, u5, u6, u7, u8]) ⟨Same.refl _, none, none, none, none, none, none, rfl⟩ (fun j σ G _ pv => SqT.of (pv.1 _ _ e4)) ?_ ?_⟩
    · rintro j v σ G hj ⟨sG, u3, u4, u5, u6, u7, u8, rfl⟩
      have hp : ∃ p, v = .ref p ∧ Made G p c x z := by
        match j, hj with
        | 0, hj => cases hj; exact ⟨pA, rfl, mA4.same sG⟩
        | 1, hj => cases hj; exact ⟨pB, rfl, mB4.same sG⟩
        | n + 2, hj => exact nomatch hj
      obtain ⟨p, rfl, mG⟩ := hp
      obtain ⟨as, la, ep, ek⟩ := id mG
      refine gN ?_
      try dsimp only
      refine ⟨_, rfl, p, as.map V.ref, rfl, SqL.of ep, for_it (walk_enum (xs := as.map V.ref)) (fun j σ G' => Same G G' ∧ ∃ w4 w5 w6 w7 w8, σ = [some (.ref h), some x, some z, some (.ref p), w4, w5, w6, w7, w8]) ⟨Same.refl _, _, _, _, _, _, rfl⟩ (fun j σ G' _ pv => SqL.of (pv.1 _ _ ep)) ?_ ?_⟩
      · rintro i v σ K1 K2 hi ⟨sK, w4, w5, w6, w7, w8, rfl⟩ ⟨T0, v1, v2, rfl, nT, rfl, e1, e2⟩
        cases e1
        rw [List.length_map, la] at hi
        dsimp only at e2
        rw [List.getElem?_map] at e2
        have ha : ∃ a, as[i]? = some a ∧ v2 = .ref a := by
          cases q : as[i]? with
          | none =>
            rw [q] at e2
            cases e2
          | some a =>
            rw [q] at e2
            cases e2
            exact ⟨a, rfl, rfl⟩
        obtain ⟨a, ia, rfl⟩ := ha
        have sT := Same.new (o := .tup [.int (i : Int), .ref a]) nT
        have eT : upd K1 T0 (.tup [.int (i : Int), .ref a]) T0 = some (.tup [.int (i : Int), .ref a]) := upd_same
        generalize upd K1 T0 (.tup [.int (i : Int), .ref a]) = K3 at sT eT ⊢
        have s5 : Same G K3 := fun _ _ e => sT _ _ (sK _ _ e)
        have ex := exSame (ek i a ia) s5
        refine ⟨T0, [.int (i : Int), .ref a], rfl, SqT.of eT, rfl, _, _, rfl, gN ?_⟩
        try dsimp only
        refine ⟨_, [], rfl, gN ?_⟩
        try dsimp only
        refine ⟨rfl, ?_⟩
        refine cutA (fun v H' => v = .int (kinOf i : Nat) ∧ H' = K3) (fun Q' q' => ?_) ?_
        · refine ⟨_, rfl, _, _, rfl, rfl, .inr ⟨_, rfl, _, rfl, _, _, rfl, rfl, .inr ⟨_, rfl, _, _, rfl, rfl, ?_⟩⟩⟩
          refine q' _ _ ⟨congrArg V.int ?_, rfl⟩
          unfold kinOf
          by_cases c1 : 2 < i
          · have d1 : (2 : Int) < (i : Int) := by omega
            by_cases c2 : 9 < i
            · have d2 : (9 : Int) < (i : Int) := by omega
              simp [c1, c2, d1, d2]
            · have d2 : ¬ (9 : Int) < (i : Int) := by omega
              simp [c1, c2, d1, d2]
          · have d1 : ¬ (2 : Int) < (i : Int) := by omega
            have c2 : ¬ 9 < i := by omega
            have d2 : ¬ (9 : Int) < (i : Int) := by omega
            simp [c1, c2, d1, d2]
        · rintro v K3' ⟨rfl, rfl⟩
          refine gN ?_
          try dsimp only
          refine ⟨_, rfl, a, i, _, rfl, hi, ex, fun p1 K4 n1 s6 e6 => ?_⟩
          refine ⟨11, rfl, by decide, by decide, fun Dl nD => lc_range (lo := 0) (n := 11) (fun j G' => Same K4 G' ∧ G' Dl = some (.lst ((List.range j).map fun m => V.bl (decide (i = m))))) ⟨Same.new nD, upd_same⟩ ?_ ?_⟩
          · rintro j G' hj ⟨s7, eD⟩
            refine ⟨rfl, yes ?_⟩
            refine ⟨_, rfl, _, rfl, rfl, ?_⟩
            refine ⟨_, eD, ?_, fun b o e => ?_, ?_⟩
            · rw [List.length_map, List.length_range, sizeLine_eq]
              omega
            · rw [upd_ne (ne_of_none e nD)]
              exact s7 b o e
            · rw [upd_same, List.range_succ, List.map_append, dec_int]
              rfl
          · rintro K5 ⟨s7, eD⟩
            have sh := shp_bls (fun m => decide (i = m)) (List.range 11)
            refine ⟨_, _, .lst (SqL.of (s7 _ _ e6)) (dp_bls (fun m => decide (i = m)) (List.range 11)), .lst (SqL.of eD) (dp_bls (fun m => decide (i = m)) (List.range 11)), sh.2, sh.2, _, rfl, ?_⟩
            rw [SeqAt.eqv_refl _ sh.1]
            refine iteF ?_
            have s8 : Same G K5 := fun _ _ e => s7 _ _ (s6 _ _ (s5 _ _ e))
            have ex5 := exSame (ek i a ia) s8
            refine ⟨_, rfl, a, i, _, rfl, hi, ex5, fun p2 K6 n2 s9 e9 => ?_⟩
            refine ⟨6, rfl, by decide, by decide, fun Dm nM => lc_range (lo := 0) (n := 6) (fun j G' => Same K6 G' ∧ G' Dm = some (.lst ((List.range j).map fun m => V.bl (decide (m % 3 = kinOf i))))) ⟨Same.new nM, upd_same⟩ ?_ ?_⟩
            · rintro j G' hj ⟨s10, eM⟩
              refine ⟨rfl, yes ?_⟩
              refine ⟨_, rfl, _, rfl, _, rfl, _, _, rfl, rfl, (by show 2 ≤ sizeLine; decide), fun t1 ht1 => ?_⟩
              refine ⟨t1, _, rfl, .inr (SqT.of upd_same), rfl, rfl, ?_⟩
              have s11 := Same.new (o := .tup [.int (kinOf i : Nat), .int ((kinOf i : Nat) + 3)]) ht1
              refine ⟨_, s11 _ _ eM, ?_, fun b o e => ?_, ?_⟩
              · rw [List.length_map, List.length_range, sizeLine_eq]
                omega
              · rw [upd_ne (ne_of_none e nM)]
                exact s11 _ _ (s10 b o e)
              · rw [upd_same, List.range_succ, List.map_append]
                show some (HO.lst (_ ++ [V.bl (inV (.int (0 + (j : Int))) [.int (kinOf i : Nat), .int ((kinOf i : Nat) + 3)])])) = _
                rw [in_kin hj (kin_lt i)]
                rfl
            · rintro K7 ⟨s10, eM⟩
              have sg := shp_bls (fun m => decide (m % 3 = kinOf i)) (List.range 6)
              refine ⟨_, _, .lst (SqL.of (s10 _ _ e9)) (dp_bls (fun m => decide (m % 3 = kinOf i)) (List.range 6)), .lst (SqL.of eM) (dp_bls (fun m => decide (m % 3 = kinOf i)) (List.range 6)), sg.2, sg.2, _, rfl, ?_⟩
              rw [SeqAt.eqv_refl _ sg.1]
              refine iteF ?_
              exact ⟨fun _ _ e => s10 _ _ (s9 _ _ (s8 _ _ e)), _, _, _, _, _, rfl⟩
      · rintro σ K1 ⟨sK, w4, w5, w6, w7, w8, rfl⟩
        have s5 : Same H4 K1 := fun _ _ e => sK _ _ (sG _ _ e)
        refine ⟨_, rfl, p, x, z, rfl, mG.same sK, fun q t u L0 nq s6 eq et eu => ?_⟩
        have s7 : Same H4 L0 := fun _ _ e => s6 _ _ (s5 _ _ e)
        have big := big_ok (ux L0 s7) (uz L0 s7) eq et eu
        refine ⟨_, _, rfl, big.1, big.2.1, big.2.2.1, big.2.2.2, ?_⟩
        refine ⟨_, rfl, (by show 1 ≤ sizeLine; decide), fun l1 n1 => ?_⟩
        have fa := Same.new (o := .lst [x]) n1
        have ea : upd L0 l1 (.lst [x]) l1 = some (.lst [x]) := upd_same
        generalize upd L0 l1 (.lst [x]) = La at fa ea ⊢
        refine ⟨l1, 4, [x], rfl, rfl, ea, by decide, by decide, (by show 1 * 4 ≤ sizeLine; decide), fun l2 n2 => ?_⟩
        rw [show (List.replicate (Int.toNat 4) [x]).flatten = [x, x, x, x] from rfl]
        have fb := Same.new (o := .lst [x, x, x, x]) n2
        have eb : upd La l2 (.lst [x, x, x, x]) l2 = some (.lst [x, x, x, x]) := upd_same
        generalize upd La l2 (.lst [x, x, x, x]) = Lb at fb eb ⊢
        refine ⟨_, rfl, _, rfl, (by show 2 ≤ sizeLine; decide), fun t1 m1 => ?_⟩
        have fc := Same.new (o := .tup [x, z]) m1
        have ec : upd Lb t1 (.tup [x, z]) t1 = some (.tup [x, z]) := upd_same
        generalize upd Lb t1 (.tup [x, z]) = Lc at fc ec ⊢
        refine ⟨(by show 1 ≤ sizeLine; decide), fun l3 n3 => ?_⟩
        have fd := Same.new (o := .lst [.ref t1]) n3
        have ed : upd Lc l3 (.lst [.ref t1]) l3 = some (.lst [.ref t1]) := upd_same
        generalize upd Lc l3 (.lst [.ref t1]) = Ld at fd ed ⊢
        refine ⟨l2, l3, _, _, rfl, rfl, (fd _ _ (fc _ _ (eb))), (ed), (by show 4 + 1 ≤ sizeLine; decide), fun l4 n4 => ?_⟩
        rw [show ([x, x, x, x] : List V) ++ [.ref t1] = [x, x, x, x, .ref t1] from rfl]
        have ff := Same.new (o := .lst [x, x, x, x, .ref t1]) n4
        have ef : upd Ld l4 (.lst [x, x, x, x, .ref t1]) l4 = some (.lst [x, x, x, x, .ref t1]) := upd_same
        generalize upd Ld l4 (.lst [x, x, x, x, .ref t1]) = Lf at ff ef ⊢
        refine ⟨_, rfl, (by show 1 ≤ sizeLine; decide), fun l5 n5 => ?_⟩
        have fg := Same.new (o := .lst [x]) n5
        have eg : upd Lf l5 (.lst [x]) l5 = some (.lst [x]) := upd_same
        generalize upd Lf l5 (.lst [x]) = Lg at fg eg ⊢
        refine ⟨l5, 4, [x], rfl, rfl, eg, by decide, by decide, (by show 1 * 4 ≤ sizeLine; decide), fun l6 n6 => ?_⟩
        rw [show (List.replicate (Int.toNat 4) [x]).flatten = [x, x, x, x] from rfl]
        have fh := Same.new (o := .lst [x, x, x, x]) n6
        have eh : upd Lg l6 (.lst [x, x, x, x]) l6 = some (.lst [x, x, x, x]) := upd_same
        generalize upd Lg l6 (.lst [x, x, x, x]) = Lh at fh eh ⊢
        refine ⟨l4, l6, _, _, rfl, rfl, (fh _ _ (fg _ _ (ef))), (eh), (by show 5 + 4 ≤ sizeLine; decide), fun l7 n7 => ?_⟩
        rw [show ([x, x, x, x, .ref t1] : List V) ++ [x, x, x, x] = [x, x, x, x, .ref t1, x, x, x, x] from rfl]
        have fi := Same.new (o := .lst [x, x, x, x, .ref t1, x, x, x, x]) n7
        have ei : upd Lh l7 (.lst [x, x, x, x, .ref t1, x, x, x, x]) l7 = some (.lst [x, x, x, x, .ref t1, x, x, x, x]) := upd_same
        generalize upd Lh l7 (.lst [x, x, x, x, .ref t1, x, x, x, x]) = Li at fi ei ⊢
        refine ⟨_, rfl, _, rfl, _, rfl, _, rfl, (by show 4 ≤ sizeLine; decide), fun t2 m2 => ?_⟩
        have fj := Same.new (o := .tup [x, z, z, x]) m2
        have ej : upd Li t2 (.tup [x, z, z, x]) t2 = some (.tup [x, z, z, x]) := upd_same
        generalize upd Li t2 (.tup [x, z, z, x]) = Lj at fj ej ⊢
        refine ⟨(by show 1 ≤ sizeLine; decide), fun l8 n8 => ?_⟩
        have fk := Same.new (o := .lst [.ref t2]) n8
        have ek : upd Lj l8 (.lst [.ref t2]) l8 = some (.lst [.ref t2]) := upd_same
        generalize upd Lj l8 (.lst [.ref t2]) = Lk at fk ek ⊢
        refine ⟨l7, l8, _, _, rfl, rfl, (fk _ _ (fj _ _ (ei))), (ek), (by show 9 + 1 ≤ sizeLine; decide), fun l9 n9 => ?_⟩
        rw [show ([x, x, x, x, .ref t1, x, x, x, x] : List V) ++ [.ref t2] = [x, x, x, x, .ref t1, x, x, x, x, .ref t2] from rfl]
        have fl := Same.new (o := .lst [x, x, x, x, .ref t1, x, x, x, x, .ref t2]) n9
        have el : upd Lk l9 (.lst [x, x, x, x, .ref t1, x, x, x, x, .ref t2]) l9 = some (.lst [x, x, x, x, .ref t1, x, x, x, x, .ref t2]) := upd_same
        generalize upd Lk l9 (.lst [x, x, x, x, .ref t1, x, x, x, x, .ref t2]) = Ll at fl el ⊢
        have s8 : Same L0 Ll := fun _ _ e => fl _ _ (fk _ _ (fj _ _ (fi _ _ (fh _ _ (fg _ _ (ff _ _ (fd _ _ (fc _ _ (fb _ _ (fa _ _ (e)))))))))))
        have s9 : Same H4 Ll := fun _ _ e => s8 _ _ (s7 _ _ e)
        have bag := big_ok (ux _ s9) (uz _ s9) el (fl _ _ (fk _ _ (fj _ _ (fi _ _ (fh _ _ (fg _ _ (ff _ _ (fd _ _ (ec))))))))) (fl _ _ (fk _ _ (ej)))
        refine ⟨_, _, rfl, bag.1, bag.2.1, bag.2.2.1, bag.2.2.2, rfl, _, rfl, ?_⟩
        rw [decide_eq_true rfl]
        refine iteF ?_
        exact ⟨s9, _, _, _, _, _, _, rfl⟩
    · rintro σ G ⟨sG, u3, u4, u5, u6, u7, u8, rfl⟩
      refine ⟨3, rfl, by decide, by decide, fun Dl nD => lc_range (lo := 0) (n := 3) (fun j G' => Same G G' ∧ G' Dl = some (.lst ((List.range j).map fun m : Nat => V.int ((m : Int) + 1)))) ⟨Same.new nD, upd_same⟩ ?_ ?_⟩
      · rintro j G' hj ⟨s5, eD⟩
        refine ⟨rfl, yes ?_⟩
        rw [Int.zero_add (j : Int)]
        have s6 : Same H4 G' := fun _ _ e => s5 _ _ (sG _ _ e)
        refine ⟨_, rfl, _, rfl, _, rfl, (j : Int), x, z, dx, dz, rfl, by omega, ux G' s6, uz G' s6, fun G2 s7 => ?_⟩
        refine ⟨_, s7 _ _ eD, ?_, fun b o e => ?_, ?_⟩
        · rw [List.length_map, List.length_range, sizeLine_eq]
          omega
        · rw [upd_ne (ne_of_none e nD)]
          exact s7 _ _ (s5 b o e)
        · rw [upd_same, List.range_succ, List.map_append]
          rfl
      · rintro G' ⟨s5, eD⟩
        rw [show ((List.range 3).map fun m : Nat => V.int ((m : Int) + 1)) = [V.int 1, V.int 2, V.int 3] from rfl] at eD
        refine ⟨(by show 3 ≤ sizeLine; decide), fun l nl => ?_⟩
        have sl := Same.new (o := .lst [.int 1, .int 2, .int 3]) nl
        have el : upd G' l (.lst [.int 1, .int 2, .int 3]) l = some (.lst [.int 1, .int 2, .int 3]) := upd_same
        generalize upd G' l (.lst [.int 1, .int 2, .int 3]) = G2 at sl el ⊢
        have cl : PyData.canLay0 (.list [.int 1, .int 2, .int 3]) = true := by simp [PyData.canLay0, PyData.canLayAll0]
        have sh : SeqAt.shaped (.list [.int 1, .int 2, .int 3]) = true := by
          unfold SeqAt.shaped
          rw [cl]
          simp [PyData.depth, PyData.depthAll]
        refine ⟨.list [.int 1, .int 2, .int 3], .list [.int 1, .int 2, .int 3], .lst (SqL.of (sl _ _ eD)) (.cons (.int 1) (.cons (.int 2) (.cons (.int 3) .nil))), .lst (SqL.of el) (.cons (.int 1) (.cons (.int 2) (.cons (.int 3) .nil))), sh, sh, ?_⟩
        rw [SeqAt.eqv_refl _ cl]
        exact k G2 (bH.trans (But.of fun _ _ e => sl _ _ (s5 _ _ (sG _ _ e))))
end
end K47
set_option Elab.async false
set_option linter.all false
set_option maxRecDepth 100000
set_option maxHeartbeats 8000000
namespace K47
open PySem PySem.Spec PyProof.Rows L2 Bs Xg Xc
abbrev sLaw : Stmt := top 27
section
variable {P : Program} {w : World} {K : PySem.W.Frag} {mg : Str → Option Value} {base : Heap}
abbrev nL : List Str := ["_law_script", "_law_k"]
theorem scLaw : FnScope nL ["_law_script"] (defScope sLaw) := ⟨rfl, rfl, rfl, by decide +kernel, rfl, by decide +kernel, by decide +kernel⟩
def spLaw (K : PySem.W.Frag) : Sp := fun vs H Q _ => ∃ (a : Addr) (ns : List Int), vs = [.ref a] ∧ SqL K H a (ns.map V.int) ∧ ns.length ≤ 63 ∧ ∀ H', Q (.bl true) H'
theorem butSame {h : Addr} {H H1 H2 : Hp} (b : But h H1 H2) (s : Same H H1) (n : H h = none) : Same H H2 := fun c o e => b c o (ne_of_none e n) (s c o e)
theorem ok_law {f fH fR : Addr} {fd dH dR : FuncData} (F : Fun K "law" "law" sLaw f fd) (T : Txt2 mg) (mn : mg "min" = none) (al : mg "all" = none)
    (FH : Fun K "_law_hand" "_law_hand" sHand fH dH) (bH : Binds K dH ["_law_script", "_law_k"] []) (gH : mg "_law_hand" = some (.ref fH))
    (FR : Fun K "_law_right" "_law_right" sRt fR dR) (bR : Binds K dR ["_law_hand_here"] []) (gR : mg "_law_right" = some (.ref fR)) (GR : FG P w K mg base 4 fR dR ["_law_hand_here"] spRt) :
    FG P w K mg base 5 f fd ["_law_script"] (spLaw K) := by
  have GH : FnOk P w K mg base CX0 1 fH dH ["_law_script", "_law_k"] (spHand K) := ok_hand FH T.t
  refine okG F scLaw (fun vs H Q E h => ?_) (fun cdv A outer s H vs Q E ng hr h => ?_)
  · obtain ⟨a, ns, rfl, _⟩ := h
    rfl
  · obtain ⟨a, ns, rfl, hS, hl, q⟩ := h
    have hr1 : Room 1 _ := hr.mono (by decide)
    refine ⟨_, pss_one (ps_ret (pe_callB (cr_all rfl) (by rfl) al (by decide +kernel) (pa_cons (pe_lc (own := [("_law_k", 1)]) (g := gName 1) (tt := tYes) rfl scLaw.nd (pi_range1 rfl T.range (pa_cons (pe_op op_add pe_int (pe_callB (call_min2 rfl) (by rfl) mn (by decide +kernel) (pa_cons pe_int (pa_cons (pe_callB call_len_seq (by rfl) T.t.len PySem.boot_len (pa_cons (pv 0) pa_nil)) pa_nil)))) pa_nil)) (blkOk_by (N := nL) (sc := defScope sLaw) (by decide +kernel)) (fun _ _ _ _ _ => pg_name (i := 1) scLaw.nd rfl (Or.inl rfl)) (fun _ _ _ _ _ => pts_nil)
      (fun _ _ _ _ _ => callG GR ng hr (by rfl) gR FR.kp bR .nil (pa_cons (pe_call GH hr1 (by rfl) gH FH.kp bH .nil pass0 (pa_cons (pv 0) (pa_cons (pv 1) pa_nil))) pa_nil))) pa_nil))), ?_⟩
    have lenN : (ns.map V.int).length ≤ 63 := by rw [List.length_map]; exact hl
    refine ⟨_, rfl, a, _, rfl, .inl hS, _, _, rfl, _, _, rfl, rfl, _, rfl, ?_, ?_, fun Dl nD => lc_range (lo := 0) (n := Int.toNat _) (fun j G => Same H G ∧ G Dl = some (.lst ((List.replicate j true).map V.bl))) ⟨Same.new nD, upd_same⟩ ?_ ?_⟩
    · split <;> omega
    · split <;> omega
    · rintro j G hj ⟨sG, eD⟩
      have j64 : j < 64 := by
        revert hj
        split <;> omega
      rw [Int.zero_add (j : Int)]
      refine ⟨rfl, yes ?_⟩
      refine ⟨_, rfl, _, rfl, a, ns, j, rfl, sameL sG hS, hl, j64, fun h H2 nh s2 hd2 => ?_⟩
      refine ⟨h, 0, rfl, hd2, by decide, fun H3 b3 => ?_⟩
      have s3 : Same G H3 := butSame b3 s2 nh
      refine ⟨_, s3 _ _ eD, ?_, fun b o e => ?_, ?_⟩
      · rw [List.length_map, List.length_replicate, sizeLine_eq]
        omega
      · rw [upd_ne (ne_of_none e nD)]
        exact s3 _ _ (sG b o e)
      · rw [upd_same, List.replicate_succ', List.map_append]
        rfl
    · rintro G ⟨sG, eD⟩
      refine ⟨Dl, _, rfl, SqL.of eD, ?_⟩
      have t : ∀ m : Nat, (List.replicate m true).all id = true := by
        intro m
        induction m with
        | zero => rfl
        | succ m ih => simp [List.replicate_succ]
      rw [t]
      exact q _
end
/-! ### the classes as they stand -/
section
variable {P : Program} {w : World} {K : PySem.W.Frag} {mg : Str → Option Value} {C0 C1 C2 C3 C4 C5 C6 C7 C8 C9 C10 F0 F1 F2 I0 I1 I2 I3 I4 I5 I6 I7 I8 I10 : Addr} {d0 d1 d2 d3 d4 d5 d6 d7 d8 d10 : FuncData}
theorem tab_mk
    (g0 : mg "NoFit" = some (.ref C0))
    (g1 : mg "NoText" = some (.ref C1))
    (g2 : mg "NoLine" = some (.ref C2))
    (g3 : mg "NoRow" = some (.ref C3))
    (g4 : mg "NoCell" = some (.ref C4))
    (g5 : mg "NoOrder" = some (.ref C5))
    (g6 : mg "NoThing" = some (.ref C6))
    (g7 : mg "NoSource" = some (.ref C7))
    (g8 : mg "NoTable" = some (.ref C8))
    (g9 : mg "NoDeed" = some (.ref C9))
    (g10 : mg "Clash" = some (.ref C10))
    (h0 : mg "NotSuch" = some (.ref F0))
    (h1 : mg "Lost" = some (.ref F1))
    (h2 : mg "Shut" = some (.ref F2))
    (isi : mg "isinstance" = none) (b0 : mg "ValueError" = none) (b1 : mg "LookupError" = none) (b2 : mg "RuntimeError" = none)
    (c0 : clB K C0 "ValueError.__new__" [.type "ValueError", .type "Exception", .type "BaseException", .type "object"] = true) (s0 : asB K C0 = true)
    (k0 : kitB' K C0 [.ref C0, .ref C1, .ref C2, .ref C3, .ref C4, .ref C5, .ref C6, .ref C7, .ref C8, .ref C9, .ref C10, .ref F0, .ref F1, .ref F2, .type "ValueError", .type "LookupError", .type "RuntimeError"] [true, false, false, false, false, false, false, false, false, false, false, true, false, false, true, false, false] = true)
    (n0_worth : PySem.W.findIn K (.ref C0) "worth" = some none)
    (c1 : clB K C1 "ValueError.__new__" [.type "ValueError", .type "Exception", .type "BaseException", .type "object"] = true) (s1 : asB K C1 = true)
    (k1 : kitB' K C1 [.ref C0, .ref C1, .ref C2, .ref C3, .ref C4, .ref C5, .ref C6, .ref C7, .ref C8, .ref C9, .ref C10, .ref F0, .ref F1, .ref F2, .type "ValueError", .type "LookupError", .type "RuntimeError"] [false, true, false, false, false, false, false, false, false, false, false, true, false, false, true, false, false] = true)
    (n1_row : PySem.W.findIn K (.ref C1) "row" = some none)
    (c2 : clB K C2 "ValueError.__new__" [.type "ValueError", .type "Exception", .type "BaseException", .type "object"] = true) (s2 : asB K C2 = true)
    (k2 : kitB' K C2 [.ref C0, .ref C1, .ref C2, .ref C3, .ref C4, .ref C5, .ref C6, .ref C7, .ref C8, .ref C9, .ref C10, .ref F0, .ref F1, .ref F2, .type "ValueError", .type "LookupError", .type "RuntimeError"] [false, false, true, false, false, false, false, false, false, false, false, true, false, false, true, false, false] = true)
    (n2_line : PySem.W.findIn K (.ref C2) "line" = some none)
    (c3 : clB K C3 "LookupError.__new__" [.type "LookupError", .type "Exception", .type "BaseException", .type "object"] = true) (s3 : asB K C3 = true)
    (k3 : kitB' K C3 [.ref C0, .ref C1, .ref C2, .ref C3, .ref C4, .ref C5, .ref C6, .ref C7, .ref C8, .ref C9, .ref C10, .ref F0, .ref F1, .ref F2, .type "ValueError", .type "LookupError", .type "RuntimeError"] [false, false, false, true, false, false, false, false, false, false, false, false, true, false, false, true, false] = true)
    (n3_row : PySem.W.findIn K (.ref C3) "row" = some none)
    (c4 : clB K C4 "LookupError.__new__" [.type "LookupError", .type "Exception", .type "BaseException", .type "object"] = true) (s4 : asB K C4 = true)
    (k4 : kitB' K C4 [.ref C0, .ref C1, .ref C2, .ref C3, .ref C4, .ref C5, .ref C6, .ref C7, .ref C8, .ref C9, .ref C10, .ref F0, .ref F1, .ref F2, .type "ValueError", .type "LookupError", .type "RuntimeError"] [false, false, false, false, true, false, false, false, false, false, false, false, true, false, false, true, false] = true)
    (n4_number : PySem.W.findIn K (.ref C4) "number" = some none)
    (n4_column : PySem.W.findIn K (.ref C4) "column" = some none)
    (c5 : clB K C5 "LookupError.__new__" [.type "LookupError", .type "Exception", .type "BaseException", .type "object"] = true) (s5 : asB K C5 = true)
    (k5 : kitB' K C5 [.ref C0, .ref C1, .ref C2, .ref C3, .ref C4, .ref C5, .ref C6, .ref C7, .ref C8, .ref C9, .ref C10, .ref F0, .ref F1, .ref F2, .type "ValueError", .type "LookupError", .type "RuntimeError"] [false, false, false, false, false, true, false, false, false, false, false, false, true, false, false, true, false] = true)
    (n5_which : PySem.W.findIn K (.ref C5) "which" = some none)
    (c6 : clB K C6 "LookupError.__new__" [.type "LookupError", .type "Exception", .type "BaseException", .type "object"] = true) (s6 : asB K C6 = true)
    (k6 : kitB' K C6 [.ref C0, .ref C1, .ref C2, .ref C3, .ref C4, .ref C5, .ref C6, .ref C7, .ref C8, .ref C9, .ref C10, .ref F0, .ref F1, .ref F2, .type "ValueError", .type "LookupError", .type "RuntimeError"] [false, false, false, false, false, false, true, false, false, false, false, false, true, false, false, true, false] = true)
    (n6_thing : PySem.W.findIn K (.ref C6) "thing" = some none)
    (c7 : clB K C7 "LookupError.__new__" [.type "LookupError", .type "Exception", .type "BaseException", .type "object"] = true) (s7 : asB K C7 = true)
    (k7 : kitB' K C7 [.ref C0, .ref C1, .ref C2, .ref C3, .ref C4, .ref C5, .ref C6, .ref C7, .ref C8, .ref C9, .ref C10, .ref F0, .ref F1, .ref F2, .type "ValueError", .type "LookupError", .type "RuntimeError"] [false, false, false, false, false, false, false, true, false, false, false, false, true, false, false, true, false] = true)
    (n7_source : PySem.W.findIn K (.ref C7) "source" = some none)
    (c8 : clB K C8 "LookupError.__new__" [.type "LookupError", .type "Exception", .type "BaseException", .type "object"] = true) (s8 : asB K C8 = true)
    (k8 : kitB' K C8 [.ref C0, .ref C1, .ref C2, .ref C3, .ref C4, .ref C5, .ref C6, .ref C7, .ref C8, .ref C9, .ref C10, .ref F0, .ref F1, .ref F2, .type "ValueError", .type "LookupError", .type "RuntimeError"] [false, false, false, false, false, false, false, false, true, false, false, false, true, false, false, true, false] = true)
    (n8_table : PySem.W.findIn K (.ref C8) "table" = some none)
    (c9 : clB K C9 "LookupError.__new__" [.type "LookupError", .type "Exception", .type "BaseException", .type "object"] = true) (s9 : asB K C9 = true)
    (k9 : kitB' K C9 [.ref C0, .ref C1, .ref C2, .ref C3, .ref C4, .ref C5, .ref C6, .ref C7, .ref C8, .ref C9, .ref C10, .ref F0, .ref F1, .ref F2, .type "ValueError", .type "LookupError", .type "RuntimeError"] [false, false, false, false, false, false, false, false, false, true, false, false, true, false, false, true, false] = true)
    (c10 : clB K C10 "RuntimeError.__new__" [.type "RuntimeError", .type "Exception", .type "BaseException", .type "object"] = true) (s10 : asB K C10 = true)
    (k10 : kitB' K C10 [.ref C0, .ref C1, .ref C2, .ref C3, .ref C4, .ref C5, .ref C6, .ref C7, .ref C8, .ref C9, .ref C10, .ref F0, .ref F1, .ref F2, .type "ValueError", .type "LookupError", .type "RuntimeError"] [false, false, false, false, false, false, false, false, false, false, true, false, false, true, false, false, true] = true)
    (n10_table : PySem.W.findIn K (.ref C10) "table" = some none)
    (n10_step : PySem.W.findIn K (.ref C10) "step" = some none)
    (n10_other : PySem.W.findIn K (.ref C10) "other" = some none)
    (n10_what : PySem.W.findIn K (.ref C10) "what" = some none) :
    Tab K mg (fun i : Nat => [C0, C1, C2, C3, C4, C5, C6, C7, C8, C9, C10].getD i 0) (fun i : Nat => [F0, F1, F2].getD i 0) := by
  refine ⟨g0, g1, g2, g3, g4, g5, g6, g7, g8, g9, g10, h0, h1, h2, isi, b0, b1, b2, fun i h => ?_, fun i h => ?_, fun i j h h2 => ?_, fun i j h h2 => ?_, fun i j h h2 => ?_, fun i h => ?_⟩
  · match i, h with
    | 0, _ => exact ⟨_, _, _, _, Cl.of PySem.F.excBase_ValueError PySem.F.store_ValueError c0⟩
    | 1, _ => exact ⟨_, _, _, _, Cl.of PySem.F.excBase_ValueError PySem.F.store_ValueError c1⟩
    | 2, _ => exact ⟨_, _, _, _, Cl.of PySem.F.excBase_ValueError PySem.F.store_ValueError c2⟩
    | 3, _ => exact ⟨_, _, _, _, Cl.of PySem.F.excBase_LookupError PySem.F.store_LookupError c3⟩
    | 4, _ => exact ⟨_, _, _, _, Cl.of PySem.F.excBase_LookupError PySem.F.store_LookupError c4⟩
    | 5, _ => exact ⟨_, _, _, _, Cl.of PySem.F.excBase_LookupError PySem.F.store_LookupError c5⟩
    | 6, _ => exact ⟨_, _, _, _, Cl.of PySem.F.excBase_LookupError PySem.F.store_LookupError c6⟩
    | 7, _ => exact ⟨_, _, _, _, Cl.of PySem.F.excBase_LookupError PySem.F.store_LookupError c7⟩
    | 8, _ => exact ⟨_, _, _, _, Cl.of PySem.F.excBase_LookupError PySem.F.store_LookupError c8⟩
    | 9, _ => exact ⟨_, _, _, _, Cl.of PySem.F.excBase_LookupError PySem.F.store_LookupError c9⟩
    | 10, _ => exact ⟨_, _, _, _, Cl.of PySem.F.excBase_RuntimeError PySem.F.store_RuntimeError c10⟩
    | n + 11, h => exact absurd h (by omega)
  · match i, h with
    | 0, _ => exact As.of s0
    | 1, _ => exact As.of s1
    | 2, _ => exact As.of s2
    | 3, _ => exact As.of s3
    | 4, _ => exact As.of s4
    | 5, _ => exact As.of s5
    | 6, _ => exact As.of s6
    | 7, _ => exact As.of s7
    | 8, _ => exact As.of s8
    | 9, _ => exact As.of s9
    | 10, _ => exact As.of s10
    | n + 11, h => exact absurd h (by omega)
  · match i, h with
    | 0, _ =>
      match j, h2 with
      | 0, _ => exact kitB'_at k0 (j := 0) rfl rfl
      | 1, _ => exact kitB'_at k0 (j := 1) rfl rfl
      | 2, _ => exact kitB'_at k0 (j := 2) rfl rfl
      | 3, _ => exact kitB'_at k0 (j := 3) rfl rfl
      | 4, _ => exact kitB'_at k0 (j := 4) rfl rfl
      | 5, _ => exact kitB'_at k0 (j := 5) rfl rfl
      | 6, _ => exact kitB'_at k0 (j := 6) rfl rfl
      | 7, _ => exact kitB'_at k0 (j := 7) rfl rfl
      | 8, _ => exact kitB'_at k0 (j := 8) rfl rfl
      | 9, _ => exact kitB'_at k0 (j := 9) rfl rfl
      | 10, _ => exact kitB'_at k0 (j := 10) rfl rfl
      | n + 11, h2 => exact absurd h2 (by omega)
    | 1, _ =>
      match j, h2 with
      | 0, _ => exact kitB'_at k1 (j := 0) rfl rfl
      | 1, _ => exact kitB'_at k1 (j := 1) rfl rfl
      | 2, _ => exact kitB'_at k1 (j := 2) rfl rfl
      | 3, _ => exact kitB'_at k1 (j := 3) rfl rfl
      | 4, _ => exact kitB'_at k1 (j := 4) rfl rfl
      | 5, _ => exact kitB'_at k1 (j := 5) rfl rfl
      | 6, _ => exact kitB'_at k1 (j := 6) rfl rfl
      | 7, _ => exact kitB'_at k1 (j := 7) rfl rfl
      | 8, _ => exact kitB'_at k1 (j := 8) rfl rfl
      | 9, _ => exact kitB'_at k1 (j := 9) rfl rfl
      | 10, _ => exact kitB'_at k1 (j := 10) rfl rfl
      | n + 11, h2 => exact absurd h2 (by omega)
    | 2, _ =>
      match j, h2 with
      | 0, _ => exact kitB'_at k2 (j := 0) rfl rfl
      | 1, _ => exact kitB'_at k2 (j := 1) rfl rfl
      | 2, _ => exact kitB'_at k2 (j := 2) rfl rfl
      | 3, _ => exact kitB'_at k2 (j := 3) rfl rfl
      | 4, _ => exact kitB'_at k2 (j := 4) rfl rfl
      | 5, _ => exact kitB'_at k2 (j := 5) rfl rfl
      | 6, _ => exact kitB'_at k2 (j := 6) rfl rfl
      | 7, _ => exact kitB'_at k2 (j := 7) rfl rfl
      | 8, _ => exact kitB'_at k2 (j := 8) rfl rfl
      | 9, _ => exact kitB'_at k2 (j := 9) rfl rfl
      | 10, _ => exact kitB'_at k2 (j := 10) rfl rfl
      | n + 11, h2 => exact absurd h2 (by omega)
    | 3, _ =>
      match j, h2 with
      | 0, _ => exact kitB'_at k3 (j := 0) rfl rfl
      | 1, _ => exact kitB'_at k3 (j := 1) rfl rfl
      | 2, _ => exact kitB'_at k3 (j := 2) rfl rfl
      | 3, _ => exact kitB'_at k3 (j := 3) rfl rfl
      | 4, _ => exact kitB'_at k3 (j := 4) rfl rfl
      | 5, _ => exact kitB'_at k3 (j := 5) rfl rfl
      | 6, _ => exact kitB'_at k3 (j := 6) rfl rfl
      | 7, _ => exact kitB'_at k3 (j := 7) rfl rfl
      | 8, _ => exact kitB'_at k3 (j := 8) rfl rfl
      | 9, _ => exact kitB'_at k3 (j := 9) rfl rfl
      | 10, _ => exact kitB'_at k3 (j := 10) rfl rfl
      | n + 11, h2 => exact absurd h2 (by omega)
    | 4, _ =>
      match j, h2 with
      | 0, _ => exact kitB'_at k4 (j := 0) rfl rfl
      | 1, _ => exact kitB'_at k4 (j := 1) rfl rfl
      | 2, _ => exact kitB'_at k4 (j := 2) rfl rfl
      | 3, _ => exact kitB'_at k4 (j := 3) rfl rfl
      | 4, _ => exact kitB'_at k4 (j := 4) rfl rfl
      | 5, _ => exact kitB'_at k4 (j := 5) rfl rfl
      | 6, _ => exact kitB'_at k4 (j := 6) rfl rfl
      | 7, _ => exact kitB'_at k4 (j := 7) rfl rfl
      | 8, _ => exact kitB'_at k4 (j := 8) rfl rfl
      | 9, _ => exact kitB'_at k4 (j := 9) rfl rfl
      | 10, _ => exact kitB'_at k4 (j := 10) rfl rfl
      | n + 11, h2 => exact absurd h2 (by omega)
    | 5, _ =>
      match j, h2 with
      | 0, _ => exact kitB'_at k5 (j := 0) rfl rfl
      | 1, _ => exact kitB'_at k5 (j := 1) rfl rfl
      | 2, _ => exact kitB'_at k5 (j := 2) rfl rfl
      | 3, _ => exact kitB'_at k5 (j := 3) rfl rfl
      | 4, _ => exact kitB'_at k5 (j := 4) rfl rfl
      | 5, _ => exact kitB'_at k5 (j := 5) rfl rfl
      | 6, _ => exact kitB'_at k5 (j := 6) rfl rfl
      | 7, _ => exact kitB'_at k5 (j := 7) rfl rfl
      | 8, _ => exact kitB'_at k5 (j := 8) rfl rfl
      | 9, _ => exact kitB'_at k5 (j := 9) rfl rfl
      | 10, _ => exact kitB'_at k5 (j := 10) rfl rfl
      | n + 11, h2 => exact absurd h2 (by omega)
    | 6, _ =>
      match j, h2 with
      | 0, _ => exact kitB'_at k6 (j := 0) rfl rfl
      | 1, _ => exact kitB'_at k6 (j := 1) rfl rfl
      | 2, _ => exact kitB'_at k6 (j := 2) rfl rfl
      | 3, _ => exact kitB'_at k6 (j := 3) rfl rfl
      | 4, _ => exact kitB'_at k6 (j := 4) rfl rfl
      | 5, _ => exact kitB'_at k6 (j := 5) rfl rfl
      | 6, _ => exact kitB'_at k6 (j := 6) rfl rfl
      | 7, _ => exact kitB'_at k6 (j := 7) rfl rfl
      | 8, _ => exact kitB'_at k6 (j := 8) rfl rfl
      | 9, _ => exact kitB'_at k6 (j := 9) rfl rfl
      | 10, _ => exact kitB'_at k6 (j := 10) rfl rfl
      | n + 11, h2 => exact absurd h2 (by omega)
    | 7, _ =>
      match j, h2 with
      | 0, _ => exact kitB'_at k7 (j := 0) rfl rfl
      | 1, _ => exact kitB'_at k7 (j := 1) rfl rfl
      | 2, _ => exact kitB'_at k7 (j := 2) rfl rfl
      | 3, _ => exact kitB'_at k7 (j := 3) rfl rfl
      | 4, _ => exact kitB'_at k7 (j := 4) rfl rfl
      | 5, _ => exact kitB'_at k7 (j := 5) rfl rfl
      | 6, _ => exact kitB'_at k7 (j := 6) rfl rfl
      | 7, _ => exact kitB'_at k7 (j := 7) rfl rfl
      | 8, _ => exact kitB'_at k7 (j := 8) rfl rfl
      | 9, _ => exact kitB'_at k7 (j := 9) rfl rfl
      | 10, _ => exact kitB'_at k7 (j := 10) rfl rfl
      | n + 11, h2 => exact absurd h2 (by omega)
    | 8, _ =>
      match j, h2 with
      | 0, _ => exact kitB'_at k8 (j := 0) rfl rfl
      | 1, _ => exact kitB'_at k8 (j := 1) rfl rfl
      | 2, _ => exact kitB'_at k8 (j := 2) rfl rfl
      | 3, _ => exact kitB'_at k8 (j := 3) rfl rfl
      | 4, _ => exact kitB'_at k8 (j := 4) rfl rfl
      | 5, _ => exact kitB'_at k8 (j := 5) rfl rfl
      | 6, _ => exact kitB'_at k8 (j := 6) rfl rfl
      | 7, _ => exact kitB'_at k8 (j := 7) rfl rfl
      | 8, _ => exact kitB'_at k8 (j := 8) rfl rfl
      | 9, _ => exact kitB'_at k8 (j := 9) rfl rfl
      | 10, _ => exact kitB'_at k8 (j := 10) rfl rfl
      | n + 11, h2 => exact absurd h2 (by omega)
    | 9, _ =>
      match j, h2 with
      | 0, _ => exact kitB'_at k9 (j := 0) rfl rfl
      | 1, _ => exact kitB'_at k9 (j := 1) rfl rfl
      | 2, _ => exact kitB'_at k9 (j := 2) rfl rfl
      | 3, _ => exact kitB'_at k9 (j := 3) rfl rfl
      | 4, _ => exact kitB'_at k9 (j := 4) rfl rfl
      | 5, _ => exact kitB'_at k9 (j := 5) rfl rfl
      | 6, _ => exact kitB'_at k9 (j := 6) rfl rfl
      | 7, _ => exact kitB'_at k9 (j := 7) rfl rfl
      | 8, _ => exact kitB'_at k9 (j := 8) rfl rfl
      | 9, _ => exact kitB'_at k9 (j := 9) rfl rfl
      | 10, _ => exact kitB'_at k9 (j := 10) rfl rfl
      | n + 11, h2 => exact absurd h2 (by omega)
    | 10, _ =>
      match j, h2 with
      | 0, _ => exact kitB'_at k10 (j := 0) rfl rfl
      | 1, _ => exact kitB'_at k10 (j := 1) rfl rfl
      | 2, _ => exact kitB'_at k10 (j := 2) rfl rfl
      | 3, _ => exact kitB'_at k10 (j := 3) rfl rfl
      | 4, _ => exact kitB'_at k10 (j := 4) rfl rfl
      | 5, _ => exact kitB'_at k10 (j := 5) rfl rfl
      | 6, _ => exact kitB'_at k10 (j := 6) rfl rfl
      | 7, _ => exact kitB'_at k10 (j := 7) rfl rfl
      | 8, _ => exact kitB'_at k10 (j := 8) rfl rfl
      | 9, _ => exact kitB'_at k10 (j := 9) rfl rfl
      | 10, _ => exact kitB'_at k10 (j := 10) rfl rfl
      | n + 11, h2 => exact absurd h2 (by omega)
    | n + 11, h => exact absurd h (by omega)
  · match i, h with
    | 0, _ =>
      match j, h2 with
      | 0, _ => exact kitB'_at k0 (j := 11) rfl rfl
      | 1, _ => exact kitB'_at k0 (j := 12) rfl rfl
      | 2, _ => exact kitB'_at k0 (j := 13) rfl rfl
      | n + 3, h2 => exact absurd h2 (by omega)
    | 1, _ =>
      match j, h2 with
      | 0, _ => exact kitB'_at k1 (j := 11) rfl rfl
      | 1, _ => exact kitB'_at k1 (j := 12) rfl rfl
      | 2, _ => exact kitB'_at k1 (j := 13) rfl rfl
      | n + 3, h2 => exact absurd h2 (by omega)
    | 2, _ =>
      match j, h2 with
      | 0, _ => exact kitB'_at k2 (j := 11) rfl rfl
      | 1, _ => exact kitB'_at k2 (j := 12) rfl rfl
      | 2, _ => exact kitB'_at k2 (j := 13) rfl rfl
      | n + 3, h2 => exact absurd h2 (by omega)
    | 3, _ =>
      match j, h2 with
      | 0, _ => exact kitB'_at k3 (j := 11) rfl rfl
      | 1, _ => exact kitB'_at k3 (j := 12) rfl rfl
      | 2, _ => exact kitB'_at k3 (j := 13) rfl rfl
      | n + 3, h2 => exact absurd h2 (by omega)
    | 4, _ =>
      match j, h2 with
      | 0, _ => exact kitB'_at k4 (j := 11) rfl rfl
      | 1, _ => exact kitB'_at k4 (j := 12) rfl rfl
      | 2, _ => exact kitB'_at k4 (j := 13) rfl rfl
      | n + 3, h2 => exact absurd h2 (by omega)
    | 5, _ =>
      match j, h2 with
      | 0, _ => exact kitB'_at k5 (j := 11) rfl rfl
      | 1, _ => exact kitB'_at k5 (j := 12) rfl rfl
      | 2, _ => exact kitB'_at k5 (j := 13) rfl rfl
      | n + 3, h2 => exact absurd h2 (by omega)
    | 6, _ =>
      match j, h2 with
      | 0, _ => exact kitB'_at k6 (j := 11) rfl rfl
      | 1, _ => exact kitB'_at k6 (j := 12) rfl rfl
      | 2, _ => exact kitB'_at k6 (j := 13) rfl rfl
      | n + 3, h2 => exact absurd h2 (by omega)
    | 7, _ =>
      match j, h2 with
      | 0, _ => exact kitB'_at k7 (j := 11) rfl rfl
      | 1, _ => exact kitB'_at k7 (j := 12) rfl rfl
      | 2, _ => exact kitB'_at k7 (j := 13) rfl rfl
      | n + 3, h2 => exact absurd h2 (by omega)
    | 8, _ =>
      match j, h2 with
      | 0, _ => exact kitB'_at k8 (j := 11) rfl rfl
      | 1, _ => exact kitB'_at k8 (j := 12) rfl rfl
      | 2, _ => exact kitB'_at k8 (j := 13) rfl rfl
      | n + 3, h2 => exact absurd h2 (by omega)
    | 9, _ =>
      match j, h2 with
      | 0, _ => exact kitB'_at k9 (j := 11) rfl rfl
      | 1, _ => exact kitB'_at k9 (j := 12) rfl rfl
      | 2, _ => exact kitB'_at k9 (j := 13) rfl rfl
      | n + 3, h2 => exact absurd h2 (by omega)
    | 10, _ =>
      match j, h2 with
      | 0, _ => exact kitB'_at k10 (j := 11) rfl rfl
      | 1, _ => exact kitB'_at k10 (j := 12) rfl rfl
      | 2, _ => exact kitB'_at k10 (j := 13) rfl rfl
      | n + 3, h2 => exact absurd h2 (by omega)
    | n + 11, h => exact absurd h (by omega)
  · match i, h with
    | 0, _ =>
      match j, h2 with
      | 0, _ => exact kitB'_at k0 (j := 14) rfl rfl
      | 1, _ => exact kitB'_at k0 (j := 15) rfl rfl
      | 2, _ => exact kitB'_at k0 (j := 16) rfl rfl
      | n + 3, h2 => exact absurd h2 (by omega)
    | 1, _ =>
      match j, h2 with
      | 0, _ => exact kitB'_at k1 (j := 14) rfl rfl
      | 1, _ => exact kitB'_at k1 (j := 15) rfl rfl
      | 2, _ => exact kitB'_at k1 (j := 16) rfl rfl
      | n + 3, h2 => exact absurd h2 (by omega)
    | 2, _ =>
      match j, h2 with
      | 0, _ => exact kitB'_at k2 (j := 14) rfl rfl
      | 1, _ => exact kitB'_at k2 (j := 15) rfl rfl
      | 2, _ => exact kitB'_at k2 (j := 16) rfl rfl
      | n + 3, h2 => exact absurd h2 (by omega)
    | 3, _ =>
      match j, h2 with
      | 0, _ => exact kitB'_at k3 (j := 14) rfl rfl
      | 1, _ => exact kitB'_at k3 (j := 15) rfl rfl
      | 2, _ => exact kitB'_at k3 (j := 16) rfl rfl
      | n + 3, h2 => exact absurd h2 (by omega)
    | 4, _ =>
      match j, h2 with
      | 0, _ => exact kitB'_at k4 (j := 14) rfl rfl
      | 1, _ => exact kitB'_at k4 (j := 15) rfl rfl
      | 2, _ => exact kitB'_at k4 (j := 16) rfl rfl
      | n + 3, h2 => exact absurd h2 (by omega)
    | 5, _ =>
      match j, h2 with
      | 0, _ => exact kitB'_at k5 (j := 14) rfl rfl
      | 1, _ => exact kitB'_at k5 (j := 15) rfl rfl
      | 2, _ => exact kitB'_at k5 (j := 16) rfl rfl
      | n + 3, h2 => exact absurd h2 (by omega)
    | 6, _ =>
      match j, h2 with
      | 0, _ => exact kitB'_at k6 (j := 14) rfl rfl
      | 1, _ => exact kitB'_at k6 (j := 15) rfl rfl
      | 2, _ => exact kitB'_at k6 (j := 16) rfl rfl
      | n + 3, h2 => exact absurd h2 (by omega)
    | 7, _ =>
      match j, h2 with
      | 0, _ => exact kitB'_at k7 (j := 14) rfl rfl
      | 1, _ => exact kitB'_at k7 (j := 15) rfl rfl
      | 2, _ => exact kitB'_at k7 (j := 16) rfl rfl
      | n + 3, h2 => exact absurd h2 (by omega)
    | 8, _ =>
      match j, h2 with
      | 0, _ => exact kitB'_at k8 (j := 14) rfl rfl
      | 1, _ => exact kitB'_at k8 (j := 15) rfl rfl
      | 2, _ => exact kitB'_at k8 (j := 16) rfl rfl
      | n + 3, h2 => exact absurd h2 (by omega)
    | 9, _ =>
      match j, h2 with
      | 0, _ => exact kitB'_at k9 (j := 14) rfl rfl
      | 1, _ => exact kitB'_at k9 (j := 15) rfl rfl
      | 2, _ => exact kitB'_at k9 (j := 16) rfl rfl
      | n + 3, h2 => exact absurd h2 (by omega)
    | 10, _ =>
      match j, h2 with
      | 0, _ => exact kitB'_at k10 (j := 14) rfl rfl
      | 1, _ => exact kitB'_at k10 (j := 15) rfl rfl
      | 2, _ => exact kitB'_at k10 (j := 16) rfl rfl
      | n + 3, h2 => exact absurd h2 (by omega)
    | n + 11, h => exact absurd h (by omega)
  · match i, h with
    | 0, _ =>
      intro f hf
      simp only [fld, List.mem_cons, List.not_mem_nil, or_false] at hf
      rw [hf]
      exact n0_worth
    | 1, _ =>
      intro f hf
      simp only [fld, List.mem_cons, List.not_mem_nil, or_false] at hf
      rw [hf]
      exact n1_row
    | 2, _ =>
      intro f hf
      simp only [fld, List.mem_cons, List.not_mem_nil, or_false] at hf
      rw [hf]
      exact n2_line
    | 3, _ =>
      intro f hf
      simp only [fld, List.mem_cons, List.not_mem_nil, or_false] at hf
      rw [hf]
      exact n3_row
    | 4, _ =>
      intro f hf
      simp only [fld, List.mem_cons, List.not_mem_nil, or_false] at hf
      rcases hf with rfl | rfl
      · exact n4_number
      · exact n4_column
    | 5, _ =>
      intro f hf
      simp only [fld, List.mem_cons, List.not_mem_nil, or_false] at hf
      rw [hf]
      exact n5_which
    | 6, _ =>
      intro f hf
      simp only [fld, List.mem_cons, List.not_mem_nil, or_false] at hf
      rw [hf]
      exact n6_thing
    | 7, _ =>
      intro f hf
      simp only [fld, List.mem_cons, List.not_mem_nil, or_false] at hf
      rw [hf]
      exact n7_source
    | 8, _ =>
      intro f hf
      simp only [fld, List.mem_cons, List.not_mem_nil, or_false] at hf
      rw [hf]
      exact n8_table
    | 9, _ =>
      intro f hf
      exact nomatch hf
    | 10, _ =>
      intro f hf
      simp only [fld, List.mem_cons, List.not_mem_nil, or_false] at hf
      rcases hf with rfl | rfl | rfl | rfl
      · exact n10_table
      · exact n10_step
      · exact n10_other
      · exact n10_what
    | n + 11, h => exact absurd h (by omega)
theorem ms_mk (T : Tab K mg (fun i : Nat => [C0, C1, C2, C3, C4, C5, C6, C7, C8, C9, C10].getD i 0) (fun i : Nat => [F0, F1, F2].getD i 0))
    (f0 : Fun K "__init__" "NoFit.__init__" (ini 2) I0 d0) (i0 : PySem.W.findIn K (.ref C0) "__init__" = some (some (.ref I0))) (y0 : PySem.W.typeIn K (.ref I0) = some (.type "function"))
    (t0_0 : PySem.W.takerIn K C0 "worth" = some none)
    (f1 : Fun K "__init__" "NoText.__init__" (ini 3) I1 d1) (i1 : PySem.W.findIn K (.ref C1) "__init__" = some (some (.ref I1))) (y1 : PySem.W.typeIn K (.ref I1) = some (.type "function"))
    (t1_0 : PySem.W.takerIn K C1 "row" = some none)
    (f2 : Fun K "__init__" "NoLine.__init__" (ini 4) I2 d2) (i2 : PySem.W.findIn K (.ref C2) "__init__" = some (some (.ref I2))) (y2 : PySem.W.typeIn K (.ref I2) = some (.type "function"))
    (t2_0 : PySem.W.takerIn K C2 "line" = some none)
    (f3 : Fun K "__init__" "NoRow.__init__" (ini 6) I3 d3) (i3 : PySem.W.findIn K (.ref C3) "__init__" = some (some (.ref I3))) (y3 : PySem.W.typeIn K (.ref I3) = some (.type "function"))
    (t3_0 : PySem.W.takerIn K C3 "row" = some none)
    (f4 : Fun K "__init__" "NoCell.__init__" (ini 7) I4 d4) (i4 : PySem.W.findIn K (.ref C4) "__init__" = some (some (.ref I4))) (y4 : PySem.W.typeIn K (.ref I4) = some (.type "function"))
    (t4_0 : PySem.W.takerIn K C4 "number" = some none)
    (t4_1 : PySem.W.takerIn K C4 "column" = some none)
    (f5 : Fun K "__init__" "NoOrder.__init__" (ini 8) I5 d5) (i5 : PySem.W.findIn K (.ref C5) "__init__" = some (some (.ref I5))) (y5 : PySem.W.typeIn K (.ref I5) = some (.type "function"))
    (t5_0 : PySem.W.takerIn K C5 "which" = some none)
    (f6 : Fun K "__init__" "NoThing.__init__" (ini 9) I6 d6) (i6 : PySem.W.findIn K (.ref C6) "__init__" = some (some (.ref I6))) (y6 : PySem.W.typeIn K (.ref I6) = some (.type "function"))
    (t6_0 : PySem.W.takerIn K C6 "thing" = some none)
    (f7 : Fun K "__init__" "NoSource.__init__" (ini 10) I7 d7) (i7 : PySem.W.findIn K (.ref C7) "__init__" = some (some (.ref I7))) (y7 : PySem.W.typeIn K (.ref I7) = some (.type "function"))
    (t7_0 : PySem.W.takerIn K C7 "source" = some none)
    (f8 : Fun K "__init__" "NoTable.__init__" (ini 11) I8 d8) (i8 : PySem.W.findIn K (.ref C8) "__init__" = some (some (.ref I8))) (y8 : PySem.W.typeIn K (.ref I8) = some (.type "function"))
    (t8_0 : PySem.W.takerIn K C8 "table" = some none)
    (f10 : Fun K "__init__" "Clash.__init__" (ini 14) I10 d10) (i10 : PySem.W.findIn K (.ref C10) "__init__" = some (some (.ref I10))) (y10 : PySem.W.typeIn K (.ref I10) = some (.type "function"))
    (t10_0 : PySem.W.takerIn K C10 "table" = some none)
    (t10_1 : PySem.W.takerIn K C10 "step" = some none)
    (t10_2 : PySem.W.takerIn K C10 "other" = some none)
    (t10_3 : PySem.W.takerIn K C10 "what" = some none)
    (nd : PySem.W.excIn K C9 [.type "LookupError", .type "Exception", .type "BaseException", .type "object"] "LookupError.__new__" = true) (nk : PySem.W.keepIn K (.ref C9) = true) :
    Ms P w K mg (fun i : Nat => [C0, C1, C2, C3, C4, C5, C6, C7, C8, C9, C10].getD i 0) (fun i : Nat => [I0, I1, I2, I3, I4, I5, I6, I7, I8, I0, I10].getD i 0) (fun i : Nat => [d0, d1, d2, d3, d4, d5, d6, d7, d8, d0, d10].getD i d0) := by
  refine ⟨fun i h h9 => ?_, fun i h h9 base => ?_, fun i h h9 => ?_, fun i h h9 h4 h10 => ?_, kn_i4 f4, kn_i10 f10, ks_i4 f4, ks_i10 f10, nd, nk⟩
  · match i, h with
    | 0, _ => exact ⟨i0, y0⟩
    | 1, _ => exact ⟨i1, y1⟩
    | 2, _ => exact ⟨i2, y2⟩
    | 3, _ => exact ⟨i3, y3⟩
    | 4, _ => exact ⟨i4, y4⟩
    | 5, _ => exact ⟨i5, y5⟩
    | 6, _ => exact ⟨i6, y6⟩
    | 7, _ => exact ⟨i7, y7⟩
    | 8, _ => exact ⟨i8, y8⟩
    | 9, _ => exact absurd rfl h9
    | 10, _ => exact ⟨i10, y10⟩
    | n + 11, h => exact absurd h (by omega)
  · match i, h with
    | 0, _ =>
      obtain ⟨_, _, _, _, T0⟩ := T.cl 0 (by decide)
      exact ok_i0 f0 T0 t0_0
    | 1, _ =>
      obtain ⟨_, _, _, _, T1⟩ := T.cl 1 (by decide)
      exact ok_i1 f1 T1 t1_0
    | 2, _ =>
      obtain ⟨_, _, _, _, T2⟩ := T.cl 2 (by decide)
      exact ok_i2 f2 T2 t2_0
    | 3, _ =>
      obtain ⟨_, _, _, _, T3⟩ := T.cl 3 (by decide)
      exact ok_i3 f3 T3 t3_0
    | 4, _ =>
      obtain ⟨_, _, _, _, T4⟩ := T.cl 4 (by decide)
      exact ok_i4 f4 T4 t4_0 t4_1
    | 5, _ =>
      obtain ⟨_, _, _, _, T5⟩ := T.cl 5 (by decide)
      exact ok_i5 f5 T5 t5_0
    | 6, _ =>
      obtain ⟨_, _, _, _, T6⟩ := T.cl 6 (by decide)
      exact ok_i6 f6 T6 t6_0
    | 7, _ =>
      obtain ⟨_, _, _, _, T7⟩ := T.cl 7 (by decide)
      exact ok_i7 f7 T7 t7_0
    | 8, _ =>
      obtain ⟨_, _, _, _, T8⟩ := T.cl 8 (by decide)
      exact ok_i8 f8 T8 t8_0
    | 9, _ => exact absurd rfl h9
    | 10, _ =>
      obtain ⟨_, _, _, _, T10⟩ := T.cl 10 (by decide)
      exact ok_i10 f10 T10 t10_0 t10_1 t10_2 t10_3
    | n + 11, h => exact absurd h (by omega)
  · match i, h with
    | 0, _ => exact kp_i0 f0
    | 1, _ => exact kp_i1 f1
    | 2, _ => exact kp_i2 f2
    | 3, _ => exact kp_i3 f3
    | 4, _ => exact kp_i4 f4
    | 5, _ => exact kp_i5 f5
    | 6, _ => exact kp_i6 f6
    | 7, _ => exact kp_i7 f7
    | 8, _ => exact kp_i8 f8
    | 9, _ => exact absurd rfl h9
    | 10, _ => exact kp_i10 f10
    | n + 11, h => exact absurd h (by omega)
  · match i, h with
    | 0, _ => exact kn_i0 f0
    | 1, _ => exact kn_i1 f1
    | 2, _ => exact kn_i2 f2
    | 3, _ => exact kn_i3 f3
    | 4, _ => exact absurd rfl h4
    | 5, _ => exact kn_i5 f5
    | 6, _ => exact kn_i6 f6
    | 7, _ => exact kn_i7 f7
    | 8, _ => exact kn_i8 f8
    | 9, _ => exact absurd rfl h9
    | 10, _ => exact absurd rfl h10
    | n + 11, h => exact absurd h (by omega)
def etB (K : PySem.W.Frag) (C1 C4 C10 F0 F1 F2 : Addr) : Bool := xfB K C1 && (xfB K C4 && (xfB K C10 && (decide (PySem.W.exmOne K (.ref C1) (.ref F0) = some true) && (decide (PySem.W.exmOne K (.ref C4) (.ref F0) = some false) && (decide (PySem.W.exmOne K (.ref C4) (.ref F1) = some true) &&
  (decide (PySem.W.exmOne K (.ref C10) (.ref F0) = some false) && (decide (PySem.W.exmOne K (.ref C10) (.ref F1) = some false) && decide (PySem.W.exmOne K (.ref C10) (.ref F2) = some true))))))))
theorem et_mk (rp : mg "repr" = none) (h : etB K C1 C4 C10 F0 F1 F2 = true) : Et K mg (fun i : Nat => [C0, C1, C2, C3, C4, C5, C6, C7, C8, C9, C10].getD i 0) (fun i : Nat => [F0, F1, F2].getD i 0) := by
  unfold etB at h
  simp only [Bool.and_eq_true, decide_eq_true_eq] at h
  obtain ⟨h1, h2, h3, h4, h5, h6, h7, h8, h9⟩ := h
  exact ⟨rp, xfB_ok h1, xfB_ok h2, xfB_ok h3, h4, h5, h6, h7, h8, h9⟩
end
end K47
set_option Elab.async false
set_option linter.all false
set_option maxRecDepth 100000
set_option maxHeartbeats 8000000
namespace K47
open PySem PySem.Spec PyProof.Rows L2 Bs Xg Xc
theorem all_mk {l : PySem.W.OpenLaw} {w : World} {K : PySem.W.Frag} {h : Heap} {mg : Str → Option Value} {fa f1 f2 f3 f4 f5 f6 f7 f8 f9 f10 f11 f12 C0 C1 C2 C3 C4 C5 C6 C7 C8 C9 C10 F0 F1 F2 I0 I1 I2 I3 I4 I5 I6 I7 I8 I10 : Addr} (X : K.In h) (G : h.Ns mainGlobals mg) (hfa : mg "law" = some (.ref fa))
    {od1 an1 od2 an2 od3 an3 od4 an4 od5 an5 od6 an6 od7 an7 od8 an8 od9 an9 od10 an10 od11 an11 od12 an12 odJ0 anJ0 odJ1 anJ1 odJ2 anJ2 odJ3 anJ3 odJ4 anJ4 odJ5 anJ5 odJ6 anJ6 odJ7 anJ7 odJ8 anJ8 odJ10 anJ10 : Option Addr} {sl1 sl2 sl3 sl4 sl5 sl6 sl7 sl8 sl9 sl10 sl11 sl12 slJ0 slJ1 slJ2 slJ3 slJ4 slJ5 slJ6 slJ7 slJ8 slJ10 : Array (Option Value)}
    {oc1 kV1 dc1 pm1 cd1 ct1 oc2 kV2 dc2 pm2 cd2 ct2 oc3 kV3 dc3 pm3 cd3 ct3 oc4 kV4 dc4 pm4 cd4 ct4 oc5 kV5 dc5 pm5 cd5 ct5 oc6 kV6 dc6 pm6 cd6 ct6 oc7 kV7 dc7 pm7 cd7 ct7 oc8 kV8 dc8 pm8 cd8 ct8 oc9 kV9 dc9 pm9 cd9 ct9 oc10 kV10 dc10 pm10 cd10 ct10 oc11 kV11 dc11 pm11 cd11 ct11 oc12 kV12 dc12 pm12 cd12 ct12 ocJ0 kVJ0 dcJ0 pmJ0 cdJ0 ctJ0 ocJ1 kVJ1 dcJ1 pmJ1 cdJ1 ctJ1 ocJ2 kVJ2 dcJ2 pmJ2 cdJ2 ctJ2 ocJ3 kVJ3 dcJ3 pmJ3 cdJ3 ctJ3 ocJ4 kVJ4 dcJ4 pmJ4 cdJ4 ctJ4 ocJ5 kVJ5 dcJ5 pmJ5 cdJ5 ctJ5 ocJ6 kVJ6 dcJ6 pmJ6 cdJ6 ctJ6 ocJ7 kVJ7 dcJ7 pmJ7 cdJ7 ctJ7 ocJ8 kVJ8 dcJ8 pmJ8 cdJ8 ctJ8 ocJ10 kVJ10 dcJ10 pmJ10 cdJ10 ctJ10 : Value}
    (a1 : PySem.W.nsIn K mainGlobals "_law_hand" = some (some (.ref f1)))
    (l1 : K.lookup f1 = some ⟨oc1, od1, .func (PySem.W.fnOf "_law_hand" "_law_hand" (defArgs sHand) (defBody sHand) (defScope sHand) .none kV1 dc1 pm1 an1 cd1 ct1), sl1⟩)
    (c1 : PySem.W.codeIn K cd1 "_law_hand" = true)
    (k1 : PySem.W.keepIn K (.ref f1) = true)
    (a2 : PySem.W.nsIn K mainGlobals "_law_take" = some (some (.ref f2)))
    (l2 : K.lookup f2 = some ⟨oc2, od2, .func (PySem.W.fnOf "_law_take" "_law_take" (defArgs sTake) (defBody sTake) (defScope sTake) .none kV2 dc2 pm2 an2 cd2 ct2), sl2⟩)
    (c2 : PySem.W.codeIn K cd2 "_law_take" = true)
    (k2 : PySem.W.keepIn K (.ref f2) = true)
    (a3 : PySem.W.nsIn K mainGlobals "_law_pick" = some (some (.ref f3)))
    (l3 : K.lookup f3 = some ⟨oc3, od3, .func (PySem.W.fnOf "_law_pick" "_law_pick" (defArgs sPick) (defBody sPick) (defScope sPick) .none kV3 dc3 pm3 an3 cd3 ct3), sl3⟩)
    (c3 : PySem.W.codeIn K cd3 "_law_pick" = true)
    (k3 : PySem.W.keepIn K (.ref f3) = true)
    (a4 : PySem.W.nsIn K mainGlobals "_law_thing" = some (some (.ref f4)))
    (l4 : K.lookup f4 = some ⟨oc4, od4, .func (PySem.W.fnOf "_law_thing" "_law_thing" (defArgs sThing) (defBody sThing) (defScope sThing) .none kV4 dc4 pm4 an4 cd4 ct4), sl4⟩)
    (c4 : PySem.W.codeIn K cd4 "_law_thing" = true)
    (k4 : PySem.W.keepIn K (.ref f4) = true)
    (a5 : PySem.W.nsIn K mainGlobals "_law_classes" = some (some (.ref f5)))
    (l5 : K.lookup f5 = some ⟨oc5, od5, .func (PySem.W.fnOf "_law_classes" "_law_classes" (defArgs sCls) (defBody sCls) (defScope sCls) .none kV5 dc5 pm5 an5 cd5 ct5), sl5⟩)
    (c5 : PySem.W.codeIn K cd5 "_law_classes" = true)
    (k5 : PySem.W.keepIn K (.ref f5) = true)
    (a6 : PySem.W.nsIn K mainGlobals "_law_families" = some (some (.ref f6)))
    (l6 : K.lookup f6 = some ⟨oc6, od6, .func (PySem.W.fnOf "_law_families" "_law_families" (defArgs sFam) (defBody sFam) (defScope sFam) .none kV6 dc6 pm6 an6 cd6 ct6), sl6⟩)
    (c6 : PySem.W.codeIn K cd6 "_law_families" = true)
    (k6 : PySem.W.keepIn K (.ref f6) = true)
    (a7 : PySem.W.nsIn K mainGlobals "_law_by_places" = some (some (.ref f7)))
    (l7 : K.lookup f7 = some ⟨oc7, od7, .func (PySem.W.fnOf "_law_by_places" "_law_by_places" (defArgs sPl) (defBody sPl) (defScope sPl) .none kV7 dc7 pm7 an7 cd7 ct7), sl7⟩)
    (c7 : PySem.W.codeIn K cd7 "_law_by_places" = true)
    (k7 : PySem.W.keepIn K (.ref f7) = true)
    (a8 : PySem.W.nsIn K mainGlobals "_law_by_names" = some (some (.ref f8)))
    (l8 : K.lookup f8 = some ⟨oc8, od8, .func (PySem.W.fnOf "_law_by_names" "_law_by_names" (defArgs sNm) (defBody sNm) (defScope sNm) .none kV8 dc8 pm8 an8 cd8 ct8), sl8⟩)
    (c8 : PySem.W.codeIn K cd8 "_law_by_names" = true)
    (k8 : PySem.W.keepIn K (.ref f8) = true)
    (a9 : PySem.W.nsIn K mainGlobals "_law_values" = some (some (.ref f9)))
    (l9 : K.lookup f9 = some ⟨oc9, od9, .func (PySem.W.fnOf "_law_values" "_law_values" (defArgs sVal) (defBody sVal) (defScope sVal) .none kV9 dc9 pm9 an9 cd9 ct9), sl9⟩)
    (c9 : PySem.W.codeIn K cd9 "_law_values" = true)
    (k9 : PySem.W.keepIn K (.ref f9) = true)
    (a10 : PySem.W.nsIn K mainGlobals "_law_raised" = some (some (.ref f10)))
    (l10 : K.lookup f10 = some ⟨oc10, od10, .func (PySem.W.fnOf "_law_raised" "_law_raised" (defArgs sRs) (defBody sRs) (defScope sRs) .none kV10 dc10 pm10 an10 cd10 ct10), sl10⟩)
    (c10 : PySem.W.codeIn K cd10 "_law_raised" = true)
    (k10 : PySem.W.keepIn K (.ref f10) = true)
    (a11 : PySem.W.nsIn K mainGlobals "_law_right" = some (some (.ref f11)))
    (l11 : K.lookup f11 = some ⟨oc11, od11, .func (PySem.W.fnOf "_law_right" "_law_right" (defArgs sRt) (defBody sRt) (defScope sRt) .none kV11 dc11 pm11 an11 cd11 ct11), sl11⟩)
    (c11 : PySem.W.codeIn K cd11 "_law_right" = true)
    (k11 : PySem.W.keepIn K (.ref f11) = true)
    (a12 : PySem.W.nsIn K mainGlobals "law" = some (some (.ref f12)))
    (l12 : K.lookup f12 = some ⟨oc12, od12, .func (PySem.W.fnOf "law" "law" (defArgs sLaw) (defBody sLaw) (defScope sLaw) .none kV12 dc12 pm12 an12 cd12 ct12), sl12⟩)
    (c12 : PySem.W.codeIn K cd12 "law" = true)
    (k12 : PySem.W.keepIn K (.ref f12) = true)
    (z_len : PySem.W.nsIn K mainGlobals "len" = some none)
    (z_int : PySem.W.nsIn K mainGlobals "int" = some none)
    (z_range : PySem.W.nsIn K mainGlobals "range" = some none)
    (z_enumerate : PySem.W.nsIn K mainGlobals "enumerate" = some none)
    (z_repr : PySem.W.nsIn K mainGlobals "repr" = some none)
    (z_min : PySem.W.nsIn K mainGlobals "min" = some none)
    (z_all : PySem.W.nsIn K mainGlobals "all" = some none)
    (z_isinstance : PySem.W.nsIn K mainGlobals "isinstance" = some none)
    (z_ValueError : PySem.W.nsIn K mainGlobals "ValueError" = some none)
    (z_LookupError : PySem.W.nsIn K mainGlobals "LookupError" = some none)
    (z_RuntimeError : PySem.W.nsIn K mainGlobals "RuntimeError" = some none)
    (q0 : PySem.W.nsIn K mainGlobals "NoFit" = some (some (.ref C0)))
    (q1 : PySem.W.nsIn K mainGlobals "NoText" = some (some (.ref C1)))
    (q2 : PySem.W.nsIn K mainGlobals "NoLine" = some (some (.ref C2)))
    (q3 : PySem.W.nsIn K mainGlobals "NoRow" = some (some (.ref C3)))
    (q4 : PySem.W.nsIn K mainGlobals "NoCell" = some (some (.ref C4)))
    (q5 : PySem.W.nsIn K mainGlobals "NoOrder" = some (some (.ref C5)))
    (q6 : PySem.W.nsIn K mainGlobals "NoThing" = some (some (.ref C6)))
    (q7 : PySem.W.nsIn K mainGlobals "NoSource" = some (some (.ref C7)))
    (q8 : PySem.W.nsIn K mainGlobals "NoTable" = some (some (.ref C8)))
    (q9 : PySem.W.nsIn K mainGlobals "NoDeed" = some (some (.ref C9)))
    (q10 : PySem.W.nsIn K mainGlobals "Clash" = some (some (.ref C10)))
    (r0 : PySem.W.nsIn K mainGlobals "NotSuch" = some (some (.ref F0)))
    (r1 : PySem.W.nsIn K mainGlobals "Lost" = some (some (.ref F1)))
    (r2 : PySem.W.nsIn K mainGlobals "Shut" = some (some (.ref F2)))
    (u0 : clB K C0 "ValueError.__new__" [.type "ValueError", .type "Exception", .type "BaseException", .type "object"] = true)
    (s0 : asB K C0 = true)
    (w0 : kitB' K C0 [.ref C0, .ref C1, .ref C2, .ref C3, .ref C4, .ref C5, .ref C6, .ref C7, .ref C8, .ref C9, .ref C10, .ref F0, .ref F1, .ref F2, .type "ValueError", .type "LookupError", .type "RuntimeError"] [true, false, false, false, false, false, false, false, false, false, false, true, false, false, true, false, false] = true)
    (n0_worth : PySem.W.findIn K (.ref C0) "worth" = some none)
    (u1 : clB K C1 "ValueError.__new__" [.type "ValueError", .type "Exception", .type "BaseException", .type "object"] = true)
    (s1 : asB K C1 = true)
    (w1 : kitB' K C1 [.ref C0, .ref C1, .ref C2, .ref C3, .ref C4, .ref C5, .ref C6, .ref C7, .ref C8, .ref C9, .ref C10, .ref F0, .ref F1, .ref F2, .type "ValueError", .type "LookupError", .type "RuntimeError"] [false, true, false, false, false, false, false, false, false, false, false, true, false, false, true, false, false] = true)
    (n1_row : PySem.W.findIn K (.ref C1) "row" = some none)
    (u2 : clB K C2 "ValueError.__new__" [.type "ValueError", .type "Exception", .type "BaseException", .type "object"] = true)
    (s2 : asB K C2 = true)
    (w2 : kitB' K C2 [.ref C0, .ref C1, .ref C2, .ref C3, .ref C4, .ref C5, .ref C6, .ref C7, .ref C8, .ref C9, .ref C10, .ref F0, .ref F1, .ref F2, .type "ValueError", .type "LookupError", .type "RuntimeError"] [false, false, true, false, false, false, false, false, false, false, false, true, false, false, true, false, false] = true)
    (n2_line : PySem.W.findIn K (.ref C2) "line" = some none)
    (u3 : clB K C3 "LookupError.__new__" [.type "LookupError", .type "Exception", .type "BaseException", .type "object"] = true)
    (s3 : asB K C3 = true)
    (w3 : kitB' K C3 [.ref C0, .ref C1, .ref C2, .ref C3, .ref C4, .ref C5, .ref C6, .ref C7, .ref C8, .ref C9, .ref C10, .ref F0, .ref F1, .ref F2, .type "ValueError", .type "LookupError", .type "RuntimeError"] [false, false, false, true, false, false, false, false, false, false, false, false, true, false, false, true, false] = true)
    (n3_row : PySem.W.findIn K (.ref C3) "row" = some none)
    (u4 : clB K C4 "LookupError.__new__" [.type "LookupError", .type "Exception", .type "BaseException", .type "object"] = true)
    (s4 : asB K C4 = true)
    (w4 : kitB' K C4 [.ref C0, .ref C1, .ref C2, .ref C3, .ref C4, .ref C5, .ref C6, .ref C7, .ref C8, .ref C9, .ref C10, .ref F0, .ref F1, .ref F2, .type "ValueError", .type "LookupError", .type "RuntimeError"] [false, false, false, false, true, false, false, false, false, false, false, false, true, false, false, true, false] = true)
    (n4_number : PySem.W.findIn K (.ref C4) "number" = some none)
    (n4_column : PySem.W.findIn K (.ref C4) "column" = some none)
    (u5 : clB K C5 "LookupError.__new__" [.type "LookupError", .type "Exception", .type "BaseException", .type "object"] = true)
    (s5 : asB K C5 = true)
    (w5 : kitB' K C5 [.ref C0, .ref C1, .ref C2, .ref C3, .ref C4, .ref C5, .ref C6, .ref C7, .ref C8, .ref C9, .ref C10, .ref F0, .ref F1, .ref F2, .type "ValueError", .type "LookupError", .type "RuntimeError"] [false, false, false, false, false, true, false, false, false, false, false, false, true, false, false, true, false] = true)
    (n5_which : PySem.W.findIn K (.ref C5) "which" = some none)
    (u6 : clB K C6 "LookupError.__new__" [.type "LookupError", .type "Exception", .type "BaseException", .type "object"] = true)
    (s6 : asB K C6 = true)
    (w6 : kitB' K C6 [.ref C0, .ref C1, .ref C2, .ref C3, .ref C4, .ref C5, .ref C6, .ref C7, .ref C8, .ref C9, .ref C10, .ref F0, .ref F1, .ref F2, .type "ValueError", .type "LookupError", .type "RuntimeError"] [false, false, false, false, false, false, true, false, false, false, false, false, true, false, false, true, false] = true)
    (n6_thing : PySem.W.findIn K (.ref C6) "thing" = some none)
    (u7 : clB K C7 "LookupError.__new__" [.type "LookupError", .type "Exception", .type "BaseException", .type "object"] = true)
    (s7 : asB K C7 = true)
    (w7 : kitB' K C7 [.ref C0, .ref C1, .ref C2, .ref C3, .ref C4, .ref C5, .ref C6, .ref C7, .ref C8, .ref C9, .ref C10, .ref F0, .ref F1, .ref F2, .type "ValueError", .type "LookupError", .type "RuntimeError"] [false, false, false, false, false, false, false, true, false, false, false, false, true, false, false, true, false] = true)
    (n7_source : PySem.W.findIn K (.ref C7) "source" = some none)
    (u8 : clB K C8 "LookupError.__new__" [.type "LookupError", .type "Exception", .type "BaseException", .type "object"] = true)
    (s8 : asB K C8 = true)
    (w8 : kitB' K C8 [.ref C0, .ref C1, .ref C2, .ref C3, .ref C4, .ref C5, .ref C6, .ref C7, .ref C8, .ref C9, .ref C10, .ref F0, .ref F1, .ref F2, .type "ValueError", .type "LookupError", .type "RuntimeError"] [false, false, false, false, false, false, false, false, true, false, false, false, true, false, false, true, false] = true)
    (n8_table : PySem.W.findIn K (.ref C8) "table" = some none)
    (u9 : clB K C9 "LookupError.__new__" [.type "LookupError", .type "Exception", .type "BaseException", .type "object"] = true)
    (s9 : asB K C9 = true)
    (w9 : kitB' K C9 [.ref C0, .ref C1, .ref C2, .ref C3, .ref C4, .ref C5, .ref C6, .ref C7, .ref C8, .ref C9, .ref C10, .ref F0, .ref F1, .ref F2, .type "ValueError", .type "LookupError", .type "RuntimeError"] [false, false, false, false, false, false, false, false, false, true, false, false, true, false, false, true, false] = true)
    (u10 : clB K C10 "RuntimeError.__new__" [.type "RuntimeError", .type "Exception", .type "BaseException", .type "object"] = true)
    (s10 : asB K C10 = true)
    (w10 : kitB' K C10 [.ref C0, .ref C1, .ref C2, .ref C3, .ref C4, .ref C5, .ref C6, .ref C7, .ref C8, .ref C9, .ref C10, .ref F0, .ref F1, .ref F2, .type "ValueError", .type "LookupError", .type "RuntimeError"] [false, false, false, false, false, false, false, false, false, false, true, false, false, true, false, false, true] = true)
    (n10_table : PySem.W.findIn K (.ref C10) "table" = some none)
    (n10_step : PySem.W.findIn K (.ref C10) "step" = some none)
    (n10_other : PySem.W.findIn K (.ref C10) "other" = some none)
    (n10_what : PySem.W.findIn K (.ref C10) "what" = some none)
    (i0 : PySem.W.findIn K (.ref C0) "__init__" = some (some (.ref I0)))
    (y0 : PySem.W.typeIn K (.ref I0) = some (.type "function"))
    (lJ0 : K.lookup I0 = some ⟨ocJ0, odJ0, .func (PySem.W.fnOf "__init__" "NoFit.__init__" (defArgs (ini 2)) (defBody (ini 2)) (defScope (ini 2)) .none kVJ0 dcJ0 pmJ0 anJ0 cdJ0 ctJ0), slJ0⟩)
    (cJ0 : PySem.W.codeIn K cdJ0 "NoFit.__init__" = true)
    (kJ0 : PySem.W.keepIn K (.ref I0) = true)
    (t0_0 : PySem.W.takerIn K C0 "worth" = some none)
    (i1 : PySem.W.findIn K (.ref C1) "__init__" = some (some (.ref I1)))
    (y1 : PySem.W.typeIn K (.ref I1) = some (.type "function"))
    (lJ1 : K.lookup I1 = some ⟨ocJ1, odJ1, .func (PySem.W.fnOf "__init__" "NoText.__init__" (defArgs (ini 3)) (defBody (ini 3)) (defScope (ini 3)) .none kVJ1 dcJ1 pmJ1 anJ1 cdJ1 ctJ1), slJ1⟩)
    (cJ1 : PySem.W.codeIn K cdJ1 "NoText.__init__" = true)
    (kJ1 : PySem.W.keepIn K (.ref I1) = true)
    (t1_0 : PySem.W.takerIn K C1 "row" = some none)
    (i2 : PySem.W.findIn K (.ref C2) "__init__" = some (some (.ref I2)))
    (y2 : PySem.W.typeIn K (.ref I2) = some (.type "function"))
    (lJ2 : K.lookup I2 = some ⟨ocJ2, odJ2, .func (PySem.W.fnOf "__init__" "NoLine.__init__" (defArgs (ini 4)) (defBody (ini 4)) (defScope (ini 4)) .none kVJ2 dcJ2 pmJ2 anJ2 cdJ2 ctJ2), slJ2⟩)
    (cJ2 : PySem.W.codeIn K cdJ2 "NoLine.__init__" = true)
    (kJ2 : PySem.W.keepIn K (.ref I2) = true)
    (t2_0 : PySem.W.takerIn K C2 "line" = some none)
    (i3 : PySem.W.findIn K (.ref C3) "__init__" = some (some (.ref I3)))
    (y3 : PySem.W.typeIn K (.ref I3) = some (.type "function"))
    (lJ3 : K.lookup I3 = some ⟨ocJ3, odJ3, .func (PySem.W.fnOf "__init__" "NoRow.__init__" (defArgs (ini 6)) (defBody (ini 6)) (defScope (ini 6)) .none kVJ3 dcJ3 pmJ3 anJ3 cdJ3 ctJ3), slJ3⟩)
    (cJ3 : PySem.W.codeIn K cdJ3 "NoRow.__init__" = true)
    (kJ3 : PySem.W.keepIn K (.ref I3) = true)
    (t3_0 : PySem.W.takerIn K C3 "row" = some none)
    (i4 : PySem.W.findIn K (.ref C4) "__init__" = some (some (.ref I4)))
    (y4 : PySem.W.typeIn K (.ref I4) = some (.type "function"))
    (lJ4 : K.lookup I4 = some ⟨ocJ4, odJ4, .func (PySem.W.fnOf "__init__" "NoCell.__init__" (defArgs (ini 7)) (defBody (ini 7)) (defScope (ini 7)) .none kVJ4 dcJ4 pmJ4 anJ4 cdJ4 ctJ4), slJ4⟩)
    (cJ4 : PySem.W.codeIn K cdJ4 "NoCell.__init__" = true)
    (kJ4 : PySem.W.keepIn K (.ref I4) = true)
    (t4_0 : PySem.W.takerIn K C4 "number" = some none)
    (t4_1 : PySem.W.takerIn K C4 "column" = some none)
    (i5 : PySem.W.findIn K (.ref C5) "__init__" = some (some (.ref I5)))
    (y5 : PySem.W.typeIn K (.ref I5) = some (.type "function"))
    (lJ5 : K.lookup I5 = some ⟨ocJ5, odJ5, .func (PySem.W.fnOf "__init__" "NoOrder.__init__" (defArgs (ini 8)) (defBody (ini 8)) (defScope (ini 8)) .none kVJ5 dcJ5 pmJ5 anJ5 cdJ5 ctJ5), slJ5⟩)
    (cJ5 : PySem.W.codeIn K cdJ5 "NoOrder.__init__" = true)
    (kJ5 : PySem.W.keepIn K (.ref I5) = true)
    (t5_0 : PySem.W.takerIn K C5 "which" = some none)
    (i6 : PySem.W.findIn K (.ref C6) "__init__" = some (some (.ref I6)))
    (y6 : PySem.W.typeIn K (.ref I6) = some (.type "function"))
    (lJ6 : K.lookup I6 = some ⟨ocJ6, odJ6, .func (PySem.W.fnOf "__init__" "NoThing.__init__" (defArgs (ini 9)) (defBody (ini 9)) (defScope (ini 9)) .none kVJ6 dcJ6 pmJ6 anJ6 cdJ6 ctJ6), slJ6⟩)
    (cJ6 : PySem.W.codeIn K cdJ6 "NoThing.__init__" = true)
    (kJ6 : PySem.W.keepIn K (.ref I6) = true)
    (t6_0 : PySem.W.takerIn K C6 "thing" = some none)
    (i7 : PySem.W.findIn K (.ref C7) "__init__" = some (some (.ref I7)))
    (y7 : PySem.W.typeIn K (.ref I7) = some (.type "function"))
    (lJ7 : K.lookup I7 = some ⟨ocJ7, odJ7, .func (PySem.W.fnOf "__init__" "NoSource.__init__" (defArgs (ini 10)) (defBody (ini 10)) (defScope (ini 10)) .none kVJ7 dcJ7 pmJ7 anJ7 cdJ7 ctJ7), slJ7⟩)
    (cJ7 : PySem.W.codeIn K cdJ7 "NoSource.__init__" = true)
    (kJ7 : PySem.W.keepIn K (.ref I7) = true)
    (t7_0 : PySem.W.takerIn K C7 "source" = some none)
    (i8 : PySem.W.findIn K (.ref C8) "__init__" = some (some (.ref I8)))
    (y8 : PySem.W.typeIn K (.ref I8) = some (.type "function"))
    (lJ8 : K.lookup I8 = some ⟨ocJ8, odJ8, .func (PySem.W.fnOf "__init__" "NoTable.__init__" (defArgs (ini 11)) (defBody (ini 11)) (defScope (ini 11)) .none kVJ8 dcJ8 pmJ8 anJ8 cdJ8 ctJ8), slJ8⟩)
    (cJ8 : PySem.W.codeIn K cdJ8 "NoTable.__init__" = true)
    (kJ8 : PySem.W.keepIn K (.ref I8) = true)
    (t8_0 : PySem.W.takerIn K C8 "table" = some none)
    (i10 : PySem.W.findIn K (.ref C10) "__init__" = some (some (.ref I10)))
    (y10 : PySem.W.typeIn K (.ref I10) = some (.type "function"))
    (lJ10 : K.lookup I10 = some ⟨ocJ10, odJ10, .func (PySem.W.fnOf "__init__" "Clash.__init__" (defArgs (ini 14)) (defBody (ini 14)) (defScope (ini 14)) .none kVJ10 dcJ10 pmJ10 anJ10 cdJ10 ctJ10), slJ10⟩)
    (cJ10 : PySem.W.codeIn K cdJ10 "Clash.__init__" = true)
    (kJ10 : PySem.W.keepIn K (.ref I10) = true)
    (t10_0 : PySem.W.takerIn K C10 "table" = some none)
    (t10_1 : PySem.W.takerIn K C10 "step" = some none)
    (t10_2 : PySem.W.takerIn K C10 "other" = some none)
    (t10_3 : PySem.W.takerIn K C10 "what" = some none)
    (nd : PySem.W.excIn K C9 [.type "LookupError", .type "Exception", .type "BaseException", .type "object"] "LookupError.__new__" = true)
    (nk : PySem.W.keepIn K (.ref C9) = true)
    (et : etB K C1 C4 C10 F0 F1 F2 = true) :
    ∃ fd : FuncData, (∀ (s : Shared) (v : Value), BindsTo s fd ⟨[v], []⟩ [("_law_script", v)]) ∧ ∀ base : Heap, K.In base → base.Ns mainGlobals mg → (∃ mm, base.Ns sysModules mm) → FG l.prog w K mg base 5 fa fd ["_law_script"] (spLaw K) := by
  have e := hfa.symm.trans (PySem.W.mg_of X G a12)
  cases e
  have Fhand := fun_mk (st := sHand) l1 c1 k1
  have Ftake := fun_mk (st := sTake) l2 c2 k2
  have Fpick := fun_mk (st := sPick) l3 c3 k3
  have Fthing := fun_mk (st := sThing) l4 c4 k4
  have Fcls := fun_mk (st := sCls) l5 c5 k5
  have Ffam := fun_mk (st := sFam) l6 c6 k6
  have Fpl := fun_mk (st := sPl) l7 c7 k7
  have Fnm := fun_mk (st := sNm) l8 c8 k8
  have Fval := fun_mk (st := sVal) l9 c9 k9
  have Frs := fun_mk (st := sRs) l10 c10 k10
  have Frt := fun_mk (st := sRt) l11 c11 k11
  have Flaw := fun_mk (st := sLaw) l12 c12 k12
  have bhand := Fhand.binds (ps := ["_law_script", "_law_k"]) fun _ _ _ _ _ _ us hl => match us, hl with | [_, _], _ => rfl
  have ghand := PySem.W.mg_of X G a1
  have btake := Ftake.binds (ps := ["_law_hand_here", "_law_below"]) fun _ _ _ _ _ _ us hl => match us, hl with | [_, _], _ => rfl
  have gtake := PySem.W.mg_of X G a2
  have bpick := Fpick.binds (ps := ["_law_hand_here", "_law_some"]) fun _ _ _ _ _ _ us hl => match us, hl with | [_, _], _ => rfl
  have gpick := PySem.W.mg_of X G a3
  have bthing := Fthing.binds (ps := ["_law_hand_here"]) fun _ _ _ _ _ _ us hl => match us, hl with | [_], _ => rfl
  have gthing := PySem.W.mg_of X G a4
  have bcls := Fcls.binds (ps := ["_law_e"]) fun _ _ _ _ _ _ us hl => match us, hl with | [_], _ => rfl
  have gcls := PySem.W.mg_of X G a5
  have bfam := Ffam.binds (ps := ["_law_e"]) fun _ _ _ _ _ _ us hl => match us, hl with | [_], _ => rfl
  have gfam := PySem.W.mg_of X G a6
  have bpl := Fpl.binds (ps := ["_law_x", "_law_z"]) fun _ _ _ _ _ _ us hl => match us, hl with | [_, _], _ => rfl
  have gpl := PySem.W.mg_of X G a7
  have bnm := Fnm.binds (ps := ["_law_x", "_law_z"]) fun _ _ _ _ _ _ us hl => match us, hl with | [_, _], _ => rfl
  have gnm := PySem.W.mg_of X G a8
  have bval := Fval.binds (ps := ["_law_made"]) fun _ _ _ _ _ _ us hl => match us, hl with | [_], _ => rfl
  have gval := PySem.W.mg_of X G a9
  have brs := Frs.binds (ps := ["_law_way", "_law_x", "_law_z"]) fun _ _ _ _ _ _ us hl => match us, hl with | [_, _, _], _ => rfl
  have grs := PySem.W.mg_of X G a10
  have brt := Frt.binds (ps := ["_law_hand_here"]) fun _ _ _ _ _ _ us hl => match us, hl with | [_], _ => rfl
  have grt := PySem.W.mg_of X G a11
  have FJ0 := fun_mk (st := ini 2) lJ0 cJ0 kJ0
  have FJ1 := fun_mk (st := ini 3) lJ1 cJ1 kJ1
  have FJ2 := fun_mk (st := ini 4) lJ2 cJ2 kJ2
  have FJ3 := fun_mk (st := ini 6) lJ3 cJ3 kJ3
  have FJ4 := fun_mk (st := ini 7) lJ4 cJ4 kJ4
  have FJ5 := fun_mk (st := ini 8) lJ5 cJ5 kJ5
  have FJ6 := fun_mk (st := ini 9) lJ6 cJ6 kJ6
  have FJ7 := fun_mk (st := ini 10) lJ7 cJ7 kJ7
  have FJ8 := fun_mk (st := ini 11) lJ8 cJ8 kJ8
  have FJ10 := fun_mk (st := ini 14) lJ10 cJ10 kJ10
  refine ⟨PySem.W.fnOf "law" "law" (defArgs sLaw) (defBody sLaw) (defScope sLaw) .none kV12 dc12 pm12 an12 cd12 ct12, fun s v => .of_eq rfl, fun base _ _ sm => ?_⟩
  have T1 : Txt mg := ⟨PySem.W.mg_none_of X G z_len, PySem.W.mg_none_of X G z_int⟩
  have T2 : Txt2 mg := ⟨T1, PySem.W.mg_none_of X G z_enumerate, PySem.W.mg_none_of X G z_range, PySem.W.mg_none_of X G z_repr⟩
  have TT := tab_mk (PySem.W.mg_of X G q0) (PySem.W.mg_of X G q1) (PySem.W.mg_of X G q2) (PySem.W.mg_of X G q3) (PySem.W.mg_of X G q4) (PySem.W.mg_of X G q5) (PySem.W.mg_of X G q6) (PySem.W.mg_of X G q7) (PySem.W.mg_of X G q8) (PySem.W.mg_of X G q9) (PySem.W.mg_of X G q10) (PySem.W.mg_of X G r0) (PySem.W.mg_of X G r1) (PySem.W.mg_of X G r2) (PySem.W.mg_none_of X G z_isinstance) (PySem.W.mg_none_of X G z_ValueError) (PySem.W.mg_none_of X G z_LookupError) (PySem.W.mg_none_of X G z_RuntimeError) u0 s0 w0 n0_worth u1 s1 w1 n1_row u2 s2 w2 n2_line u3 s3 w3 n3_row u4 s4 w4 n4_number n4_column u5 s5 w5 n5_which u6 s6 w6 n6_thing u7 s7 w7 n7_source u8 s8 w8 n8_table u9 s9 w9 u10 s10 w10 n10_table n10_step n10_other n10_what
  have MM := ms_mk (P := l.prog) (w := w) TT FJ0 i0 y0 t0_0 FJ1 i1 y1 t1_0 FJ2 i2 y2 t2_0 FJ3 i3 y3 t3_0 FJ4 i4 y4 t4_0 t4_1 FJ5 i5 y5 t5_0 FJ6 i6 y6 t6_0 FJ7 i7 y7 t7_0 FJ8 i8 y8 t8_0 FJ10 i10 y10 t10_0 t10_1 t10_2 t10_3 nd nk
  have EE : Et K mg (fun i : Nat => [C0, C1, C2, C3, C4, C5, C6, C7, C8, C9, C10].getD i 0) (fun i : Nat => [F0, F1, F2].getD i 0) := et_mk (PySem.W.mg_none_of X G z_repr) et
  have GC := ok_cls (P := l.prog) (w := w) (base := base) Fcls TT
  have GF := ok_fam (P := l.prog) (w := w) (base := base) Ffam TT
  have GP := ok_pl (base := base) Fpl TT MM
  have GN := ok_nm (base := base) Fnm TT MM
  have GV := ok_val (P := l.prog) (w := w) (base := base) Fval TT
  have GR := ok_rs sm Frs TT MM EE
  have GT := ok_thing (P := l.prog) (w := w) (base := base) Fthing T1 Ftake btake gtake Fpick bpick gpick
  have GRt := ok_rt sm Frt T2 ⟨Fthing, bthing, gthing, Fcls, bcls, gcls, Ffam, bfam, gfam, Fpl, bpl, gpl, Fnm, bnm, gnm, Fval, bval, gval, Frs, brs, grs⟩ GT GC GF GP GN GV GR
  exact ok_law Flaw T2 (PySem.W.mg_none_of X G z_min) (PySem.W.mg_none_of X G z_all) Fhand bhand ghand Frt brt grt GRt
end K47
open PySem PySem.W PyProof.Rows
set_option maxRecDepth 100000 in
set_option maxHeartbeats 0 in
theorem PySem.Challenge.cw_cleanedtables_k47_refusals_made_holds : PySem.Challenge.rw_cleanedtables_k47_refusals_made.Holds := by
  w_on; o_law; k_head; (case hw => w_witness2)
  k_fill
  refine Xg.walkS (l := PySem.Challenge.rw_cleanedtables_k47_refusals_made) (n := 63) (k := 5) (sp := K47.spLaw) (x := "_law_script") ?calm rfl (by decide) rfl ⟨rfl, by decide, by decide⟩ (fun w h Y => PySem.W.kIn_of Y) ?F (fun K H a ns hl _ hS => ⟨a, ns, rfl, hS, hl, fun _ => rfl⟩)
  case calm => decide +kernel
  case F =>
    intro w mg fa h KX G hmg
    refine' K47.all_mk KX G hmg ?a1 ?l1 ?c1 ?k1 ?a2 ?l2 ?c2 ?k2 ?a3 ?l3 ?c3 ?k3 ?a4 ?l4 ?c4 ?k4 ?a5 ?l5 ?c5 ?k5 ?a6 ?l6 ?c6 ?k6 ?a7 ?l7 ?c7 ?k7 ?a8 ?l8 ?c8 ?k8 ?a9 ?l9 ?c9 ?k9 ?a10 ?l10 ?c10 ?k10 ?a11 ?l11 ?c11 ?k11 ?a12 ?l12 ?c12 ?k12 ?z_len ?z_int ?z_range ?z_enumerate ?z_repr ?z_min ?z_all ?z_isinstance ?z_ValueError ?z_LookupError ?z_RuntimeError ?q0 ?q1 ?q2 ?q3 ?q4 ?q5 ?q6 ?q7 ?q8 ?q9 ?q10 ?r0 ?r1 ?r2 ?u0 ?s0 ?w0 ?n0_worth ?u1 ?s1 ?w1 ?n1_row ?u2 ?s2 ?w2 ?n2_line ?u3 ?s3 ?w3 ?n3_row ?u4 ?s4 ?w4 ?n4_number ?n4_column ?u5 ?s5 ?w5 ?n5_which ?u6 ?s6 ?w6 ?n6_thing ?u7 ?s7 ?w7 ?n7_source ?u8 ?s8 ?w8 ?n8_table ?u9 ?s9 ?w9 ?u10 ?s10 ?w10 ?n10_table ?n10_step ?n10_other ?n10_what ?i0 ?y0 ?lJ0 ?cJ0 ?kJ0 ?t0_0 ?i1 ?y1 ?lJ1 ?cJ1 ?kJ1 ?t1_0 ?i2 ?y2 ?lJ2 ?cJ2 ?kJ2 ?t2_0 ?i3 ?y3 ?lJ3 ?cJ3 ?kJ3 ?t3_0 ?i4 ?y4 ?lJ4 ?cJ4 ?kJ4 ?t4_0 ?t4_1 ?i5 ?y5 ?lJ5 ?cJ5 ?kJ5 ?t5_0 ?i6 ?y6 ?lJ6 ?cJ6 ?kJ6 ?t6_0 ?i7 ?y7 ?lJ7 ?cJ7 ?kJ7 ?t7_0 ?i8 ?y8 ?lJ8 ?cJ8 ?kJ8 ?t8_0 ?i10 ?y10 ?lJ10 ?cJ10 ?kJ10 ?t10_0 ?t10_1 ?t10_2 ?t10_3 ?nd ?nk ?et
    (case a1 => k_is)
    (case l1 => k_is)
    (case c1 => k_is)
    (case k1 => k_is)
    (case a2 => k_is)
    (case l2 => k_is)
    (case c2 => k_is)
    (case k2 => k_is)
    (case a3 => k_is)
    (case l3 => k_is)
    (case c3 => k_is)
    (case k3 => k_is)
    (case a4 => k_is)
    (case l4 => k_is)
    (case c4 => k_is)
    (case k4 => k_is)
    (case a5 => k_is)
    (case l5 => k_is)
    (case c5 => k_is)
    (case k5 => k_is)
    (case a6 => k_is)
    (case l6 => k_is)
    (case c6 => k_is)
    (case k6 => k_is)
    (case a7 => k_is)
    (case l7 => k_is)
    (case c7 => k_is)
    (case k7 => k_is)
    (case a8 => k_is)
    (case l8 => k_is)
    (case c8 => k_is)
    (case k8 => k_is)
    (case a9 => k_is)
    (case l9 => k_is)
    (case c9 => k_is)
    (case k9 => k_is)
    (case a10 => k_is)
    (case l10 => k_is)
    (case c10 => k_is)
    (case k10 => k_is)
    (case a11 => k_is)
    (case l11 => k_is)
    (case c11 => k_is)
    (case k11 => k_is)
    (case a12 => k_is)
    (case l12 => k_is)
    (case c12 => k_is)
    (case k12 => k_is)
    (case z_len => k_is)
    (case z_int => k_is)
    (case z_range => k_is)
    (case z_enumerate => k_is)
    (case z_repr => k_is)
    (case z_min => k_is)
    (case z_all => k_is)
    (case z_isinstance => k_is)
    (case z_ValueError => k_is)
    (case z_LookupError => k_is)
    (case z_RuntimeError => k_is)
    (case q0 => k_is)
    (case q1 => k_is)
    (case q2 => k_is)
    (case q3 => k_is)
    (case q4 => k_is)
    (case q5 => k_is)
    (case q6 => k_is)
    (case q7 => k_is)
    (case q8 => k_is)
    (case q9 => k_is)
    (case q10 => k_is)
    (case r0 => k_is)
    (case r1 => k_is)
    (case r2 => k_is)
    (case u0 => kernel_rfl)
    (case s0 => kernel_rfl)
    (case w0 => kernel_rfl)
    (case n0_worth => k_is)
    (case u1 => kernel_rfl)
    (case s1 => kernel_rfl)
    (case w1 => kernel_rfl)
    (case n1_row => k_is)
    (case u2 => kernel_rfl)
    (case s2 => kernel_rfl)
    (case w2 => kernel_rfl)
    (case n2_line => k_is)
    (case u3 => kernel_rfl)
    (case s3 => kernel_rfl)
    (case w3 => kernel_rfl)
    (case n3_row => k_is)
    (case u4 => kernel_rfl)
    (case s4 => kernel_rfl)
    (case w4 => kernel_rfl)
    (case n4_number => k_is)
    (case n4_column => k_is)
    (case u5 => kernel_rfl)
    (case s5 => kernel_rfl)
    (case w5 => kernel_rfl)
    (case n5_which => k_is)
    (case u6 => kernel_rfl)
    (case s6 => kernel_rfl)
    (case w6 => kernel_rfl)
    (case n6_thing => k_is)
    (case u7 => kernel_rfl)
    (case s7 => kernel_rfl)
    (case w7 => kernel_rfl)
    (case n7_source => k_is)
    (case u8 => kernel_rfl)
    (case s8 => kernel_rfl)
    (case w8 => kernel_rfl)
    (case n8_table => k_is)
    (case u9 => kernel_rfl)
    (case s9 => kernel_rfl)
    (case w9 => kernel_rfl)
    (case u10 => kernel_rfl)
    (case s10 => kernel_rfl)
    (case w10 => kernel_rfl)
    (case n10_table => k_is)
    (case n10_step => k_is)
    (case n10_other => k_is)
    (case n10_what => k_is)
    (case i0 => k_is)
    (case y0 => k_is)
    (case lJ0 => k_is)
    (case cJ0 => k_is)
    (case kJ0 => k_is)
    (case t0_0 => k_is)
    (case i1 => k_is)
    (case y1 => k_is)
    (case lJ1 => k_is)
    (case cJ1 => k_is)
    (case kJ1 => k_is)
    (case t1_0 => k_is)
    (case i2 => k_is)
    (case y2 => k_is)
    (case lJ2 => k_is)
    (case cJ2 => k_is)
    (case kJ2 => k_is)
    (case t2_0 => k_is)
    (case i3 => k_is)
    (case y3 => k_is)
    (case lJ3 => k_is)
    (case cJ3 => k_is)
    (case kJ3 => k_is)
    (case t3_0 => k_is)
    (case i4 => k_is)
    (case y4 => k_is)
    (case lJ4 => k_is)
    (case cJ4 => k_is)
    (case kJ4 => k_is)
    (case t4_0 => k_is)
    (case t4_1 => k_is)
    (case i5 => k_is)
    (case y5 => k_is)
    (case lJ5 => k_is)
    (case cJ5 => k_is)
    (case kJ5 => k_is)
    (case t5_0 => k_is)
    (case i6 => k_is)
    (case y6 => k_is)
    (case lJ6 => k_is)
    (case cJ6 => k_is)
    (case kJ6 => k_is)
    (case t6_0 => k_is)
    (case i7 => k_is)
    (case y7 => k_is)
    (case lJ7 => k_is)
    (case cJ7 => k_is)
    (case kJ7 => k_is)
    (case t7_0 => k_is)
    (case i8 => k_is)
    (case y8 => k_is)
    (case lJ8 => k_is)
    (case cJ8 => k_is)
    (case kJ8 => k_is)
    (case t8_0 => k_is)
    (case i10 => k_is)
    (case y10 => k_is)
    (case lJ10 => k_is)
    (case cJ10 => k_is)
    (case kJ10 => k_is)
    (case t10_0 => k_is)
    (case t10_1 => k_is)
    (case t10_2 => k_is)
    (case t10_3 => k_is)
    (case nd => kernel_rfl)
    (case nk => k_is)
    (case et => kernel_rfl)
